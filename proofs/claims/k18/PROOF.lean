import PyProof.Rows.All
import Wide.All
import OpenK.AllK
import Wide.FinOn
import PyProof.NeKinds
import HandS.ForMost
import HandS.More
import HandS.DeepEq
import HandS.IsInst
import HandS.Style
import HandS.Defaults
import HandS.Codes
import PyProof.ReprRoads
import PyProof.Rows.BootFacts.P3
import PyProof.ReprBulk
import PyProof.P3Eq
import HandS.TupAny
import HandS.Base
import HandS.Call
import HandS.List
import HandS.Dict
import KE.KDictList
import PyProof.TupleOfSeq
import PyProof.TupleOfGen
import HandS.Walk
import HandS.RevRange
import HandS.Wide
import HandS.WideBits
import HandS.DictComp
import HandS.NoneIn
import HandS.Steps
import KE.KIntText
import HandS.Zip
import HandS.TryOnly
import KE.GoesMore
import KE.KTupSum
import KE.KDictZip
import HandS.ExcInit
import HandS.WordsExc
import HandS.Exc
import HandS.Words
import KE.KIsAll
import KE.KTryMore
import HandS.ExcIs
import HandS.ClsMeth
import HandS.Star
import HandS.Text
import HandS.ExcValue
import HandS.ExcOwn
import HandS.Lambda
import KE.KDflt
import HandS.EndTab
import HandS.Records
import HandS.NamedTupGet
import HandS.OwnEq
import PySem.Challenge.RW_timesagain_k18_whole_plain_by_the_first
set_option Elab.async false
set_option linter.all false
set_option maxRecDepth 100000
set_option maxHeartbeats 4000000
namespace TA
open PySem PySem.Spec L2
open PyProof.Rows hiding St
/-- what == says of two items: the same value, or two flat ones -/
inductive EqI : V → V → Bool → Prop where
  | same (x : V) (h : flatB x = true ∨ ∃ a, x = .ref a) : EqI x x true
  | flat {x y : V} (hx : flatV x = true) (hy : flatV y = true) : EqI x y (eqV x y)
inductive EqIs : List V → List V → List Bool → Prop where
  | nil : EqIs [] [] []
  | cons {x y : V} {b : Bool} {xs ys : List V} {bs : List Bool} (h : EqI x y b) (t : EqIs xs ys bs) : EqIs (x :: xs) (y :: ys) (b :: bs)
theorem EqI.at {A : Around} {s : Shared} {x y : V} {b : Bool} {u v : Value} (h : EqI x y b) (rx : RelV x u) (ry : RelV y v) : SeqAt.EqAt A s u v b := by
  cases h with
  | same f =>
    rcases f with f | ⟨a, rfl⟩
    · exact eqAt_same rx ry f
    · cases (show u = Value.ref a from rx)
      cases (show v = Value.ref a from ry)
      exact SeqAt.EqAt.same _
  | flat hx hy => exact eqAt_V rx ry hx hy
theorem EqIs.len {xs ys : List V} {bs : List Bool} (h : EqIs xs ys bs) : xs.length = bs.length ∧ ys.length = bs.length := by
  induction h with
  | nil => exact ⟨rfl, rfl⟩
  | cons _ _ ih => exact ⟨congrArg Nat.succ ih.1, congrArg Nat.succ ih.2⟩
theorem EqIs.at {A : Around} {s : Shared} {xs ys : List V} {bs : List Bool} (h : EqIs xs ys bs) : ∀ {us vs : List Value}, Vals xs us → Vals ys vs → ∀ (j : Nat) (h1 : j < us.length) (h2 : j < vs.length), SeqAt.EqAt A s us[j] vs[j] (bs.getD j true) := by
  induction h with
  | nil =>
    intro us vs r1 r2 j h1 _
    cases r1
    exact absurd h1 (Nat.not_lt_zero j)
  | cons h _ ih =>
    intro us vs r1 r2 j h1 h2
    cases r1 with
    | cons a1 b1 =>
      cases r2 with
      | cons a2 b2 =>
        cases j with
        | zero => exact h.at a1 a2
        | succ j => exact ih b1 b2 j (Nat.lt_of_succ_lt_succ h1) (Nat.lt_of_succ_lt_succ h2)
theorem all_getD : ∀ bs : List Bool, (List.range bs.length).all (fun j => bs.getD j true) = bs.all id
  | [] => rfl
  | b :: r => by
    rw [List.length_cons, List.range_succ_eq_map, List.all_cons, List.all_map, List.all_cons]
    show (b && (List.range r.length).all fun j => r.getD j true) = (b && r.all id)
    rw [all_getD r]
section
variable {X : Cx}
/-- two lists compared, item by item -/
def rCmpL (K : PySem.W.Frag) (neg : Bool) : R2 := fun x y H Q => ∃ a b xs ys, x = .ref a ∧ y = .ref b ∧ SqL K H a xs ∧ SqL K H b ys ∧
  ((xs.length ≠ ys.length ∧ Q (.bl neg) H) ∨ ∃ bs : List Bool, EqIs xs ys bs ∧ Q (.bl (if neg then !bs.all id else bs.all id)) H)
theorem op_eqL (hu : X.A.units < cLine) : OpR X (compareOp .Eq) (rCmpL X.K false) := by
  intro pins s σ H x y v u Q I rx ry h
  obtain ⟨a, b, xs, ys, rfl, rfl, ha, hb, h⟩ := h
  cases (show v = Value.ref a from rx)
  cases (show u = Value.ref b from ry)
  obtain ⟨us, r1, p1, _⟩ := I.list ha
  obtain ⟨ws, r2, p2, _⟩ := I.list hb
  rcases h with ⟨hne, q⟩ | ⟨bs, e, q⟩
  · have hsz : (us.toArray.size != ws.toArray.size) = true := by
      rw [List.size_toArray, List.size_toArray, ← r1.length, ← r2.length]
      simpa using hne
    exact SeqAt.RcAt.lists_lengths p1.isList p2.isList hsz hu _ _ _ _ ⟨.bl _, H, I, rfl, q⟩
  · have hl := e.len
    have hsz : us.toArray.size = ws.toArray.size := by rw [List.size_toArray, List.size_toArray, ← r1.length, ← r2.length, hl.1, hl.2]
    refine SeqAt.RcAt.lists (e := fun j => bs.getD j true) p1.isList p2.isList hsz hu (fun j h1 h2 => ?_) _ _ _ _ ?_
    · have k := e.at (A := X.A.in1) (s := s) r1 r2 j (by simpa using h1) (by simpa using h2)
      simpa using k
    · rw [List.size_toArray, ← r1.length, hl.1, all_getD]
      exact ⟨.bl _, H, I, rfl, q⟩
theorem op_neL (hu : X.A.units < cLine) : OpR X (compareOp .NotEq) (rCmpL X.K true) := by
  intro pins s σ H x y v u Q I rx ry h
  obtain ⟨a, b, xs, ys, rfl, rfl, ha, hb, h⟩ := h
  cases (show v = Value.ref a from rx)
  cases (show u = Value.ref b from ry)
  obtain ⟨us, r1, p1, _⟩ := I.list ha
  obtain ⟨ws, r2, p2, _⟩ := I.list hb
  rcases h with ⟨hne, q⟩ | ⟨bs, e, q⟩
  · have hsz : (us.toArray.size != ws.toArray.size) = true := by
      rw [List.size_toArray, List.size_toArray, ← r1.length, ← r2.length]
      simpa using hne
    exact SeqAt.RcNeAt.lists_lengths p1.isList p2.isList hsz hu _ _ _ _ ⟨.bl _, H, I, rfl, q⟩
  · have hl := e.len
    have hsz : us.toArray.size = ws.toArray.size := by rw [List.size_toArray, List.size_toArray, ← r1.length, ← r2.length, hl.1, hl.2]
    refine SeqAt.RcNeAt.lists (e := fun j => bs.getD j true) p1.isList p2.isList hsz hu (fun j h1 h2 => ?_) _ _ _ _ ?_
    · have k := e.at (A := X.A.in1) (s := s) r1 r2 j (by simpa using h1) (by simpa using h2)
      simpa using k
    · rw [List.size_toArray, ← r1.length, hl.1, all_getD]
      exact ⟨.bl _, H, I, rfl, q⟩
/-- either of two readings -/
theorem op_or {f : Value → Value → Sem Value} {r1 r2 : R2} (h1 : OpR X f r1) (h2 : OpR X f r2) : OpR X f (fun x y H Q => r1 x y H Q ∨ r2 x y H Q) := by
  intro pins s σ H x y v u Q I rx ry h
  rcases h with h | h
  · exact h1 pins s σ H x y v u Q I rx ry h
  · exact h2 pins s σ H x y v u Q I rx ry h
end
end TA
namespace TF18
open PySem PySem.Spec L2 TA
open PyProof.Rows hiding St
def top (i : Nat) : Stmt := PySem.Challenge.pw_timesagain_k18_whole_plain_by_the_first.main.body.getD i (.Pass ⟨0, 0, 0, 0⟩)
/-- a def of the top: where it stands, its name, how it is called -/
structure Df (K : PySem.W.Frag) (mg : Str → Option Value) (x : Str) (st : Stmt) (f : Addr) (fd : FuncData) (ps : List Str) : Prop where
  F : Fun K x x st f fd
  m : mg x = some (.ref f)
  b : Binds K fd ps []
section
variable {X : Cx} {k j : Nat} {f : Addr} {fd : FuncData} {ps : List Str} {sp : Sp} {x : Str} {st : Stmt} {p pos : Pos} {e : Expr} {es : List Expr} {t tk : TA}
theorem pe_cd (D : Df X.K X.mg x st f fd ps) (F : FnOk X.prog X.w X.K X.mg X.base CX0 k f fd ps sp) (hr : Room j X.A) (hj : k ≤ j) (ha : PA X (e :: es) t) (hg : Gl X x := by rfl)
    (hdb : (x == ("__debug__" : Str)) = false := by decide) (he : starEach (e :: es) X.env = (false, eval e X.env) :: starEach es X.env := by rfl) (hpl : (backTo pos (starEach es X.env)).any (·.1) = false := by rfl) :
    PE X (.Call (.Name x p) (e :: es) [] pos) (tCall sp [] E0 t) := pe_call F (hr.mono hj) hg D.m D.F.kp D.b .nil pass0 ha hdb he hpl
/-- // by any number that is no giant -/
theorem op_fdivB : OpR X (binaryOp .FloorDiv) (rI (fun _ j => j ≠ 0 ∧ j.natAbs.log2 < 9000) fun i j => .int (i.fdiv j)) := opI fun _ _ _ _ _ _ _ hc q => floordiv_int hc.1 q (.inl (PyProof.noPylong_of_log2 hc.2))
end
/-- the names of the top that stand for Python's own things -/
structure Bn (mg : Str → Option Value) : Prop where
  b_ValueError : mg "ValueError" = none
  b_abs : mg "abs" = none
  b_all : mg "all" = none
  b_bool : mg "bool" = none
  b_enumerate : mg "enumerate" = none
  b_int : mg "int" = none
  b_isinstance : mg "isinstance" = none
  b_len : mg "len" = none
  b_list : mg "list" = none
  b_max : mg "max" = none
  b_range : mg "range" = none
  b_reversed : mg "reversed" = none
  b_str : mg "str" = none
  b_tuple : mg "tuple" = none
  b_type : mg "type" = none
  b_zip : mg "zip" = none
/-! ### heaps: all but p stays -/
def Keep (p : Addr) (H H' : Hp) : Prop := ∀ b o, b ≠ p → H b = some o → H' b = some o
theorem Keep.refl (p : Addr) (H : Hp) : Keep p H H := fun _ _ _ h => h
theorem Keep.trans {p : Addr} {H H1 H2 : Hp} (a : Keep p H H1) (b : Keep p H1 H2) : Keep p H H2 := fun c o n h => b c o n (a c o n h)
theorem Keep.of_same {p : Addr} {H H' : Hp} (s : Same H H') : Keep p H H' := fun b o _ h => s b o h
theorem Keep.upd_p {p : Addr} {H : Hp} {o : HO} : Keep p H (upd H p o) := fun b u n h => by rw [upd_ne n]; exact h
theorem Keep.new {p q : Addr} {H : Hp} {o : HO} (h : H q = none) : Keep p H (upd H q o) := fun b u _ hb => by rw [upd_ne (ne_of_none hb h)]; exact hb
theorem same_new {H : Hp} {q : Addr} {o : HO} (h : H q = none) : Same H (upd H q o) := fun b u hb => by rw [upd_ne (ne_of_none hb h)]; exact hb
/-- what draws: its cells at c, at most n of them were begun -/
def PenAt (n : Nat) (H : Hp) (p c : Addr) : Prop := ∃ (cells : List Int) (i : Nat) (g : Int), H p = some (.lst [.ref c, .int (i : Int), .int g]) ∧ c ≠ p ∧ H c = some (.lst (cells.map V.int)) ∧ cells.length ≤ 63 ∧ i ≤ n
theorem PenAt.up {n m : Nat} {H : Hp} {p c : Addr} (h : PenAt n H p c) (l : n ≤ m) : PenAt m H p c := by
  obtain ⟨cells, i, g, h1, h2, h3, h4, h5⟩ := h
  exact ⟨cells, i, g, h1, h2, h3, h4, Nat.le_trans h5 l⟩
theorem PenAt.same {n : Nat} {H H' : Hp} {p c : Addr} (h : PenAt n H p c) (s : Same H H') : PenAt n H' p c := by
  obtain ⟨cells, i, g, h1, h2, h3, h4, h5⟩ := h
  exact ⟨cells, i, g, s _ _ h1, h2, s _ _ h3, h4, h5⟩
theorem PenAt.ne {n : Nat} {H : Hp} {p c l : Addr} (h : PenAt n H p c) (hl : H l = none) : l ≠ p := by
  obtain ⟨cells, i, g, h1, _⟩ := h
  exact Ne.symm (ne_of_none h1 hl)
theorem PenAt.ne2 {n : Nat} {H : Hp} {p c l : Addr} (h : PenAt n H p c) (hl : H l = none) : l ≠ c := by
  obtain ⟨cells, i, g, h1, h2, h3, _⟩ := h
  exact Ne.symm (ne_of_none h3 hl)
/-- a store elsewhere -/
theorem PenAt.upd {n : Nat} {H : Hp} {p c l : Addr} {o : HO} (h : PenAt n H p c) (h1 : l ≠ p) (h2 : l ≠ c) : PenAt n (upd H l o) p c := by
  obtain ⟨cells, i, g, e1, e2, e3, e4, e5⟩ := h
  exact ⟨cells, i, g, by rw [upd_ne (Ne.symm h1)]; exact e1, e2, by rw [upd_ne (Ne.symm h2)]; exact e3, e4, e5⟩
theorem PenAt.lst {n : Nat} {H : Hp} {p c : Addr} (h : PenAt n H p c) : ∃ xs, H p = some (.lst xs) := by
  obtain ⟨cells, i, g, h1, _⟩ := h
  exact ⟨_, h1⟩
theorem PenAt.mk {n : Nat} {H : Hp} {p c : Addr} {cells : List Int} {i : Int} {g : Int} (h1 : H p = some (.lst [.ref c, .int i, .int g])) (h2 : c ≠ p) (h3 : H c = some (.lst (cells.map V.int))) (h4 : cells.length ≤ 63) (h0 : 0 ≤ i) (h5 : i ≤ n) : PenAt n H p c :=
  ⟨cells, i.toNat, g, by rw [h1, Int.toNat_of_nonneg h0], h2, h3, h4, by omega⟩
theorem fm_nn {x y : Int} (h : 0 < y) : 0 ≤ x.fmod y := Int.fmod_nonneg_of_pos x h
theorem fm_lt {x y : Int} (h : 0 < y) : x.fmod y < y := Int.fmod_lt_of_pos x h
/-- a number that divides well -/
def Dv (m : Int) : Prop := 0 < m ∧ m.natAbs.log2 < 9000
theorem Dv.of {m : Int} (h0 : 0 < m) (h : m ≤ 1000000000) : Dv m := ⟨h0, by
  have z : m.natAbs < 2 ^ 30 := by omega
  have e := (Nat.log2_lt (n := m.natAbs) (k := 30) (by omega)).mpr z
  omega⟩
theorem mem_at {xs : List V} {r : Int} {n : Int} (h0 : 0 ≤ r) (h1 : r < n) (hn : n = (xs.length : Int)) : ∃ v, v ∈ xs ∧ atI xs r = some v := by
  have hj : r.toNat < xs.length := by omega
  exact ⟨xs[r.toNat], List.getElem_mem hj, at_of (j := r.toNat) (by omega) (List.getElem?_eq_getElem hj)⟩
theorem take_snoc {α : Type} {xs : List α} {i : Nat} {x : α} (h : xs[i]? = some x) : xs.take (i + 1) = xs.take i ++ [x] := by
  rw [List.take_add_one, h]
  rfl
/-! ### what draws -/
abbrev sPen : Stmt := top 69
abbrev sDraw : Stmt := top 70
theorem scPen : FnScope ["script", "cell"] ["script"] (defScope sPen) := ⟨rfl, rfl, rfl, by decide +kernel, rfl, by decide +kernel, by decide +kernel⟩
theorem scDraw : FnScope ["spool", "many", "rest", "turn", "cell", "mixed"] ["spool", "many"] (defScope sDraw) := ⟨rfl, rfl, rfl, by decide +kernel, rfl, by decide +kernel, by decide +kernel⟩
def spPen (K : PySem.W.Frag) : Sp := fun vs H Q _ => ∃ (a : Addr) (ns : List Int), vs = [.ref a] ∧ SqL K H a (ns.map V.int) ∧ ns.length ≤ 63 ∧
  ∀ (p c : Addr) (H' : Hp), H p = none → Same H H' → PenAt 0 H' p c → Q (.ref p) H'
def spDraw : Sp := fun vs H Q _ => ∃ (p c : Addr) (many : Int) (n : Nat), vs = [.ref p, .int many] ∧ PenAt n H p c ∧ n ≤ 100000 ∧ Dv many ∧
  ∀ (r : Int) (H' : Hp), 0 ≤ r → r < many → Keep p H H' → PenAt (n + 1) H' p c → Q (.int r) H'
section
variable {P : Program} {w : World} {K : PySem.W.Frag} {mg : Str → Option Value} {base : Heap} {f f1 : Addr} {fd fd1 : FuncData}
theorem ok_pen (F : Fun K "_law_spool" "_law_spool" sPen f fd) (T : Bn mg) : FnOk P w K mg base CX0 1 f fd ["script"] (spPen K) := by
  refine F.ok scPen (fun vs H Q E h => ?_) (fun cdv A outer s H vs Q E hr h => ?_)
  · obtain ⟨a, ns, rfl, _⟩ := h
    rfl
  obtain ⟨a, ns, rfl, hS, hl, q⟩ := h
  refine ⟨_, (pss_one (ps_ret (pe_lst (pa_cons (pe_lc (own := [("cell", 1)]) (g := (gName 1)) (by rfl) scPen.nd (pi_list (pe_slice sl_list (pv 0) po_none (po_some pe_int))) (blkOk_by (own := [("cell", 1)]) (N := ["script", "cell"]) (sc := defScope sPen) (by decide +kernel)) (fun _ _ _ _ _ => (pg_name (i := 1) scPen.nd rfl (.inl rfl))) (fun _ _ _ _ _ => pts_nil) (fun _ _ _ _ _ => (pe_callTy call_int1 (by rfl) T.b_int (by decide +kernel) (pa_cons (pv 1) pa_nil)))) (pa_cons pe_int (pa_cons pe_int pa_nil)))))), ?_⟩
  refine ⟨_, rfl, _, rfl, a, _, rfl, hS, fun b hb => ?_⟩
  have cut : cutV (ns.map V.int) none (some 60) = (ns.take 60).map V.int := by
    unfold cutV
    rw [HT.sIx_none, List.drop_zero, show (some (60 : Int)) = some ((60 : Nat) : Int) from rfl, HT.sIx_nat, List.length_map, Nat.sub_zero, ← List.map_take]
    congr 1
    by_cases h : 60 ≤ ns.length
    · rw [Nat.min_eq_left h]
    · rw [Nat.min_eq_right (by omega), List.take_of_length_le (Nat.le_refl _), List.take_of_length_le (by omega)]
  refine ⟨b, rfl, ⟨_, SqL.of upd_same⟩, fun D hD => ?_⟩
  have sB : Same H (L2.upd H b (.lst (cutV (ns.map V.int) none (some 60)))) := same_new hb
  have dH : H D = none := sB.free hD
  have nDb : b ≠ D := ne_of_none upd_same hD
  refine lc_list (K := K) (a := b) (xs := cutV (ns.map V.int) none (some 60)) (fun i H2 => Same H H2 ∧ H2 b = some (.lst (cutV (ns.map V.int) none (some 60))) ∧ H2 D = some (.lst (((ns.take 60).map V.int).take i))) ?_ ?_ ?_ ?_
  · exact ⟨sB.trans (same_new hD), by rw [upd_ne nDb, upd_same], by rw [upd_same, List.take_zero]⟩
  · rintro i H2 _ ⟨_, h2, _⟩
    exact SqL.of h2
  · rintro i x H2 hx ⟨s2, h2, h3⟩
    rw [cut, List.getElem?_map] at hx
    obtain ⟨z, hz, rfl⟩ := Option.map_eq_some_iff.mp hx
    refine ⟨rfl, _, rfl, .inl ⟨_, rfl, _, h3, ?_, ?_⟩⟩
    · rw [List.length_take, List.length_map, List.length_take]
      exact small1000 (by omega)
    · refine ⟨fun y o hy => ?_, by rw [upd_ne nDb]; exact h2, ?_⟩
      · rw [upd_ne (ne_of_none hy dH)]
        exact s2 y o hy
      · rw [upd_same, take_snoc (x := V.int z) (by rw [List.getElem?_map, hz]; rfl)]
  rintro H2 ⟨s2, h2, h3⟩
  refine ⟨(by show 3 ≤ sizeLine; decide), fun p hp => ?_⟩
  have pH : H p = none := s2.free hp
  refine q p D _ pH (s2.trans (same_new hp)) ?_
  have nDp : D ≠ p := ne_of_none h3 hp
  refine PenAt.mk (c := D) (cells := ns.take 60) (i := 0) upd_same nDp ?_ (by rw [List.length_take]; omega) (by decide) (by decide)
  rw [upd_ne nDp, h3, List.take_of_length_le]
  rw [cut]
  exact Nat.le_refl _
theorem ok_draw (F : Fun K "_law_reeve" "_law_reeve" sDraw f fd) (T : Bn mg) : FnOk P w K mg base CX0 1 f fd ["spool", "many"] spDraw := by
  refine F.ok scDraw (fun vs H Q E h => ?_) (fun cdv A outer s H vs Q E hr h => ?_)
  · obtain ⟨p, c, many, n, rfl, _⟩ := h
    rfl
  obtain ⟨p, c, many, n, rfl, ⟨cells, i, g, hp, hcp, hc, hl, hi⟩, hn, ⟨m0, m1⟩, q⟩ := h
  have mne : many ≠ 0 := by omega
  have mdiv : many ≠ 0 ∧ many.natAbs.log2 < 9000 := ⟨mne, m1⟩
  refine ⟨_, (pss_cons (ps_if (pt_cmpR op_gt (pe_ix ix_list (pv 0) pe_int (fun _ _ => rfl)) pe_int (nomark _)) (pss_cons (ps_set (i := 2) scDraw.nd rfl (.inl rfl) (pe_ix ix_list (pv 0) pe_int (fun _ _ => rfl)))
        (pss_cons (ps_asg (pe_op op_fdivB (pe_callTy call_int1 (by rfl) T.b_int (by decide +kernel) (pa_cons (pv 2) pa_nil)) (pv 1)) (pg_sub (pv 0) pe_int set_list))
        (pss_one (ps_ret (pe_op op_modN (pe_callTy call_int1 (by rfl) T.b_int (by decide +kernel) (pa_cons (pv 2) pa_nil)) (pv 1)))))) pss_nil)
      (pss_cons (ps_set (i := 3) scDraw.nd rfl (.inl rfl) (pe_ix ix_list (pv 0) pe_int (fun _ _ => rfl)))
      (pss_cons (ps_asg (pe_op op_add (pv 3) pe_int) (pg_sub (pv 0) pe_int set_list))
      (pss_cons (ps_set (i := 4) scDraw.nd rfl (.inl rfl) (pe_op op_add (pe_op op_mul pe_int (pv 3)) pe_int))
      (C8.pss_cut (ps_if (pt_cmpR (op_neL hr.units0) (pe_ix ix_list (pv 0) pe_int (fun _ _ => rfl)) (pe_lst pa_nil) (nomark _)) (pss_one (ps_set (i := 4) scDraw.nd rfl (.inl rfl) (pe_ix ix_list (pe_ix ix_list (pv 0) pe_int (fun _ _ => rfl)) (pe_op op_modN (pe_callTy call_int1 (by rfl) T.b_int (by decide +kernel) (pa_cons (pv 3) pa_nil)) (pe_callB call_len_seq (by rfl) T.b_len (by decide +kernel) (pa_cons (pe_ix ix_list (pv 0) pe_int (fun _ _ => rfl)) pa_nil))) (fun _ _ => rfl)))) pss_nil)
      (C8.pss_cut (ps_if (PW.pt (pw_and (pt_cmpR op_lt (pv 3) (pe_callB call_len_seq (by rfl) T.b_len (by decide +kernel) (pa_cons (pe_ix ix_list (pv 0) pe_int (fun _ _ => rfl)) pa_nil)) (nomark _)) (pw_and1 (pt_cmpR op_ge (pe_callB call_abs (by rfl) T.b_abs (by decide +kernel) (pa_cons (pv 4) pa_nil)) (pe_op op_pow pe_int pe_int) (nomark _))))) (pss_cons (ps_set (i := 2) scDraw.nd rfl (.inl rfl) (pe_op op_add (pe_op op_mul pe_int (pe_op op_sub (pe_callB call_abs (by rfl) T.b_abs (by decide +kernel) (pa_cons (pv 4) pa_nil)) (pe_op op_pow pe_int pe_int))) (pe_callTy call_int1 (by rfl) T.b_int (by decide +kernel) (pa_cons (pe_cmpR op_lt (pv 4) pe_int (nomark _)) pa_nil))))
        (pss_cons (ps_asg (pe_op op_fdivB (pe_callTy call_int1 (by rfl) T.b_int (by decide +kernel) (pa_cons (pv 2) pa_nil)) (pv 1)) (pg_sub (pv 0) pe_int set_list))
        (pss_one (ps_ret (pe_op op_modN (pe_callTy call_int1 (by rfl) T.b_int (by decide +kernel) (pa_cons (pv 2) pa_nil)) (pv 1)))))) pss_nil)
      (pss_cons (ps_set (i := 5) scDraw.nd rfl (.inl rfl) (pe_op op_modN (pe_callTy call_int1 (by rfl) T.b_int (by decide +kernel) (pa_cons (pe_op op_pow (pe_op op_add (pe_op op_add (pe_op op_modN (pe_callTy call_int1 (by rfl) T.b_int (by decide +kernel) (pa_cons (pv 4) pa_nil)) pe_int) (pe_op op_mul pe_int (pv 3))) pe_int) pe_int) pa_nil)) pe_int))
      (pss_cons (ps_set (i := 5) scDraw.nd rfl (.inl rfl) (pe_op op_modN (pe_callTy call_int1 (by rfl) T.b_int (by decide +kernel) (pa_cons (pe_op op_pow (pe_op op_add (pe_op op_add (pe_op op_mul (pv 5) (pe_op op_add (pe_op op_mul pe_int (pv 3)) pe_int)) (pe_op op_mul (pe_op op_mul pe_int (pv 3)) (pv 3))) pe_int) pe_int) pa_nil)) pe_int))
      (pss_one (ps_ret (pe_op op_modN (pe_callTy call_int1 (by rfl) T.b_int (by decide +kernel) (pa_cons (pe_op op_fdivB (pv 5) pe_int) pa_nil)) (pv 1)))))))))))), ?_⟩
  refine ⟨_, rfl, p, _, _, _, rfl, rfl, SqL.of hp, rfl, _, _, rfl, rfl, _, rfl, ?_⟩
  refine ite2 (fun c0 => ?_) (fun c0 => ?_)
  · refine ⟨_, rfl, p, _, _, _, rfl, rfl, SqL.of hp, rfl, ?_⟩
    refine ⟨_, rfl, .inl ⟨_, rfl, _, rfl, _, _, rfl, rfl, mdiv, ?_⟩⟩
    refine ⟨_, rfl, p, _, _, _, rfl, rfl, hp, rfl, ?_⟩
    refine ⟨_, rfl, .inl ⟨_, rfl, _, rfl, _, _, rfl, rfl, mne, ?_⟩⟩
    refine q _ _ (fm_nn m0) (fm_lt m0) Keep.upd_p ?_
    exact PenAt.mk (c := c) (cells := cells) (i := i) upd_same hcp (by rw [upd_ne hcp]; exact hc) hl (by omega) (by omega)
  refine ⟨_, rfl, p, _, _, _, rfl, rfl, SqL.of hp, rfl, ?_⟩
  refine ⟨_, rfl, _, _, rfl, rfl, _, rfl, p, _, _, _, rfl, rfl, hp, rfl, ?_⟩
  have hp1 : ∀ o, L2.upd H p o p = some o := fun o => upd_same
  refine ⟨_, rfl, _, _, rfl, rfl, .inl ⟨by decide, by decide⟩, _, _, rfl, rfl, ?_⟩
  refine ⟨fun σ H2 => ∃ (cell : Int) (v0 v1 : Option V), σ = [some (.ref p), some (.int many), v0, some (.int (i : Int)), some (.int cell), v1] ∧ Keep p H H2 ∧ H2 p = some (.lst [.ref c, .int ((i : Int) + 1), .int g]), ?_, ?_⟩
  · refine ⟨_, rfl, p, _, _, _, rfl, rfl, SqL.of (hp1 _), rfl, Nat.zero_le _, fun l hl0 => ?_⟩
    have nlp : p ≠ l := ne_of_none (hp1 _) hl0
    have hlH : H l = none := by
      rw [← hl0, upd_ne (Ne.symm nlp)]
    have ncl : c ≠ l := ne_of_none hc hlH
    have hc2 : ∀ o, (L2.upd (L2.upd H p o) l (.lst [])) c = some (.lst (cells.map V.int)) := fun o => by rw [upd_ne ncl, upd_ne hcp]; exact hc
    have hp2 : ∀ o, (L2.upd (L2.upd H p o) l (.lst [])) p = some o := fun o => by rw [upd_ne nlp, upd_same]
    have kp2 : ∀ o, Keep p H (L2.upd (L2.upd H p o) l (.lst [])) := fun o => fun b u nb hb => by rw [upd_ne (ne_of_none hb hlH), upd_ne nb]; exact hb
    refine ⟨c, l, _, _, rfl, rfl, SqL.of (hc2 _), SqL.of upd_same, ?_⟩
    by_cases e : cells = []
    · subst e
      refine .inr ⟨[], .nil, _, rfl, iteF ?_⟩
      exact ⟨_, _, _, rfl, kp2 _, hp2 _⟩
    · have el : cells.length ≠ 0 := fun z => e (List.length_eq_zero_iff.mp z)
      refine .inl ⟨by rw [List.length_map]; exact el, _, rfl, iteT ?_⟩
      refine ⟨_, rfl, p, _, _, _, rfl, rfl, SqL.of (hp2 _), rfl, _, rfl, .inl ⟨_, rfl, _, rfl, p, _, _, _, rfl, rfl, SqL.of (hp2 _), rfl, c, _, rfl, .inl (SqL.of (hc2 _)), ?_⟩⟩
      have lpos : (0 : Int) < ((cells.map V.int).length : Int) := by rw [List.length_map]; omega
      have a1 := fm_nn (x := (i : Int)) lpos
      have a2 := fm_lt (x := (i : Int)) lpos
      refine ⟨_, _, rfl, rfl, by omega, c, _, _, .int (cells.getD ((i : Int).fmod ((cells.map V.int).length : Int)).toNat 0), rfl, rfl, SqL.of (hc2 _), ?_, ?_⟩
      · rw [List.length_map] at a2 ⊢
        refine at_of (j := ((i : Int).fmod (cells.length : Int)).toNat) ?_ ?_
        · rw [Int.toNat_of_nonneg (by rw [List.length_map] at a1; exact a1)]
        · have hj : ((i : Int).fmod (cells.length : Int)).toNat < cells.length := by rw [List.length_map] at a1; omega
          rw [List.getElem?_map, List.getElem?_eq_getElem hj, List.getD_eq_getElem?_getD, List.getElem?_eq_getElem hj]
          rfl
      · exact ⟨_, _, _, rfl, kp2 _, hp2 _⟩
  rintro σ2 H2 ⟨cell, v0, v1, rfl, k2, hp2⟩
  have hc2 := k2 c _ hcp hc
  refine ⟨fun σ H' => H' = H2 ∧ ∃ (v0 v1 : Option V), σ = [some (.ref p), some (.int many), v0, some (.int (i : Int)), some (.int cell), v1], ?_, ?_⟩
  · refine ⟨_, rfl, _, rfl, p, _, _, _, rfl, rfl, SqL.of hp2, rfl, c, _, rfl, .inl (SqL.of hc2), _, _, rfl, rfl, _, rfl, ?_⟩
    refine ite2 (fun c1 => ?_) (fun c1 => iteF ⟨rfl, _, _, rfl⟩)
    refine ⟨_, rfl, _, rfl, _, _, rfl, rfl, ⟨by decide, by decide, by decide⟩, _, _, rfl, rfl, _, rfl, ?_⟩
    refine ite2 (fun c2 => ?_) (fun c2 => ⟨rfl, _, _, rfl⟩)
    refine ⟨_, rfl, _, rfl, _, _, rfl, rfl, ⟨by decide, by decide, by decide⟩, _, _, rfl, rfl, _, _, rfl, rfl, .inl ⟨by decide, by decide⟩, _, rfl, _, _, rfl, rfl, .inr ⟨_, rfl, _, _, rfl, rfl, ?_⟩⟩
    refine ⟨_, rfl, .inl ⟨_, rfl, _, rfl, _, _, rfl, rfl, mdiv, ?_⟩⟩
    refine ⟨_, rfl, p, _, _, _, rfl, rfl, hp2, rfl, ?_⟩
    refine ⟨_, rfl, .inl ⟨_, rfl, _, rfl, _, _, rfl, rfl, mne, ?_⟩⟩
    refine q _ _ (fm_nn m0) (fm_lt m0) (k2.trans Keep.upd_p) ?_
    exact PenAt.mk (c := c) (cells := cells) (i := (i : Int) + 1) upd_same hcp (by rw [upd_ne hcp]; exact hc2) hl (by omega) (by omega)
  rintro σ3 H3 ⟨rfl, w0, w1, rfl⟩
  have b1 := fm_nn (x := cell) (y := 2147483563) (by decide)
  have b2 := fm_lt (x := cell) (y := 2147483563) (by decide)
  refine ⟨_, rfl, .inl ⟨_, rfl, _, _, rfl, rfl, (by show (_ : Int) ≠ 0; decide), _, rfl, _, _, rfl, rfl, .inl ⟨by decide, by decide⟩, _, _, rfl, rfl, _, _, rfl, rfl, _, _, rfl, rfl, ⟨by decide, by decide, by omega⟩, .inl ⟨_, rfl, _, _, rfl, rfl, (by show (_ : Int) ≠ 0; decide), ?_⟩⟩⟩
  generalize hM : (Int.fmod ((cell.fmod 2147483563 + 43037 * (i : Int) + 6011) ^ (5 : Int).toNat) 2147483549) = M
  have d1 : 0 ≤ M := by rw [← hM]; exact fm_nn (by decide)
  have d2 : M < 2147483549 := by rw [← hM]; exact fm_lt (by decide)
  refine ⟨_, rfl, _, rfl, _, _, rfl, rfl, .inl ⟨by decide, by decide⟩, _, _, rfl, rfl, _, _, rfl, rfl, .inl ⟨by omega, by omega⟩, _, rfl, _, _, rfl, rfl, .inl ⟨by decide, by decide⟩, _, rfl, _, _, rfl, rfl, .inl ⟨by omega, by omega⟩, _, _, rfl, rfl, _, _, rfl, rfl, _, _, rfl, rfl, ⟨by decide, by decide, ?_⟩, .inl ⟨_, rfl, _, _, rfl, rfl, (by show (_ : Int) ≠ 0; decide), ?_⟩⟩
  · have e1 : M * (2 * (i : Int) + 3307) ≤ 2147483549 * 300000 := Int.mul_le_mul (by omega) (by omega) (by omega) (by omega)
    have e2 : 0 ≤ M * (2 * (i : Int) + 3307) := Int.mul_nonneg d1 (by omega)
    have e3 : 64063 * (i : Int) * (i : Int) ≤ 10000000000 * 100000 := Int.mul_le_mul (by omega) (by omega) (by omega) (by omega)
    have e4 : 0 ≤ 64063 * (i : Int) * (i : Int) := Int.mul_nonneg (by omega) (by omega)
    rw [hM]
    omega
  refine ⟨_, rfl, _, _, rfl, rfl, ⟨(by show (_ : Int) ≠ 0; decide), (by show Nat.log2 _ < 9000; decide)⟩, .inl ⟨_, rfl, _, rfl, _, _, rfl, rfl, mne, ?_⟩⟩
  refine q _ _ (fm_nn m0) (fm_lt m0) k2 ?_
  exact PenAt.mk (c := c) (cells := cells) (i := (i : Int) + 1) hp2 hcp hc2 hl (by omega) (by omega)
abbrev sPick : Stmt := top 71
theorem scPick : FnScope ["spool", "some"] ["spool", "some"] (defScope sPick) := ⟨rfl, rfl, rfl, by decide +kernel, rfl, by decide +kernel, by decide +kernel⟩
def spPick (K : PySem.W.Frag) : Sp := fun vs H Q _ => ∃ (p c a : Addr) (xs : List V) (n : Nat), vs = [.ref p, .ref a] ∧ PenAt n H p c ∧ n ≤ 100000 ∧ a ≠ p ∧ H a = some (.lst xs) ∧ xs ≠ [] ∧ xs.length ≤ 1000000 ∧
  ∀ (v : V) (H' : Hp), v ∈ xs → Keep p H H' → PenAt (n + 1) H' p c → Q v H'
theorem ok_pick (F : Fun K "_law_of" "_law_of" sPick f fd) (T : Bn mg) (D__law_reeve : Df K mg "_law_reeve" sDraw f1 fd1 ["spool", "many"]) (G__law_reeve : FnOk P w K mg base CX0 1 f1 fd1 ["spool", "many"] spDraw) : FnOk P w K mg base CX0 2 f fd ["spool", "some"] (spPick K) := by
  refine F.ok scPick (fun vs H Q E h => ?_) (fun cdv A outer s H vs Q E hr h => ?_)
  · obtain ⟨p, c, a, xs, n, rfl, _⟩ := h
    rfl
  obtain ⟨p, c, a, xs, n, rfl, hp, hn, na, ha, hne, hl, q⟩ := h
  refine ⟨_, (pss_one (ps_ret (pe_ix ix_list (pv 1) (pe_cd D__law_reeve G__law_reeve hr (by decide) (pa_cons (pv 0) (pa_cons (pe_callB call_len_seq (by rfl) T.b_len (by decide +kernel) (pa_cons (pv 1) pa_nil)) pa_nil))) (fun _ _ => rfl)))), ?_⟩
  have lp : xs.length ≠ 0 := fun z => hne (List.length_eq_zero_iff.mp z)
  refine ⟨_, rfl, _, rfl, _, rfl, a, _, rfl, .inl (SqL.of ha), p, c, _, n, rfl, hp, hn, Dv.of (by omega) (by omega), fun r H' r0 r1 k hp' => ?_⟩
  obtain ⟨v, hv, hat⟩ := mem_at (xs := xs) r0 r1 rfl
  exact ⟨a, _, _, _, rfl, rfl, SqL.of (k _ _ na ha), hat, q v H' hv k hp'⟩
end
end TF18
/-! repr of data at any depth: a call's room that also tells that no repr is under way -/
namespace TG
open PySem PySem.Spec L2
open PyProof.Rows hiding St
/-- room for k more calls, and no repr under way -/
structure RoomG (k : Nat) (A : Around) : Prop where
  hd : A.handled = none
  dp : A.depth + k + 5 < recursionLimit
  un : A.units + 6 * k + 200 < cLine
  gd : A.guards = some []
theorem RoomG.mono {j k : Nat} {A : Around} (h : RoomG k A) (hj : j ≤ k) : RoomG j A := ⟨h.hd, by have := h.dp; omega, by have := h.un; omega, h.gd⟩
theorem RoomG.down {k : Nat} {A : Around} (h : RoomG (k + 1) A) (env : Env) : RoomG k (A.deeper env) :=
  ⟨h.hd, by have := h.dp; show A.depth + 1 + k + 5 < _; omega, by have := h.un; show A.units + 3 + 6 * k + 200 < _; omega, h.gd⟩
theorem RoomG.room {k : Nat} {A : Around} (h : RoomG (3 * k) A) : Room k A := ⟨h.hd, by have := h.dp; omega, by have := h.un; omega⟩
theorem RoomG.depth {k : Nat} {A : Around} (h : RoomG k A) : A.depth < recursionLimit := by have := h.dp; omega
theorem RoomG.units {k : Nat} {A : Around} (h : RoomG k A) : A.units + 64 < cLine := by have := h.un; omega
theorem RoomG.units0 {k : Nat} {A : Around} (h : RoomG k A) : A.units < cLine := by have := h.un; omega
theorem RoomG.units2 {k : Nat} {A : Around} (h : RoomG k A) : A.units + 151 < cLine := by have := h.un; omega
theorem RoomG.hu {k : Nat} {A : Around} (h : RoomG k A) : A.units + 1 < cLine := by have := h.un; omega
/-- a def's promise, asked where no repr is under way -/
structure FnG (P : Program) (w : World) (K : PySem.W.Frag) (mg : Str → Option Value) (base : Heap) (CX : CXT) (k : Nat) (f : Addr) (fd : FuncData) (ps : List Str) (sp : Sp) : Prop where
  len : ∀ vs H Q E, sp vs H Q E → vs.length = ps.length
  go : ∀ (A : Around) (outer : List Env) (s : Shared) (H : Hp) (args : Args) (us : List Value) (vs : List V) (Q : VK) (E : XK), RoomG k A → Env0 P w K mg base A outer s H → BindsTo s fd args (ps.zip us) → Vals vs us → sp vs H Q E →
    codeAny (model P w) A (.call (.ref f) args) (CR CX outer P w H s Q E) s
section
variable {P : Program} {w : World} {K : PySem.W.Frag} {mg : Str → Option Value} {base : Heap} {CX : CXT} {j k : Nat} {f : Addr} {fd : FuncData} {ps : List Str} {sp : Sp}
theorem fnG_of (F : FnOk P w K mg base CX k f fd ps sp) : FnG P w K mg base CX (3 * k) f fd ps sp := ⟨F.len, fun A outer s H args us vs Q E hr => F.run A outer s H args us vs Q E hr.room⟩
theorem FnG.mono (F : FnG P w K mg base CX j f fd ps sp) (h : j ≤ k) : FnG P w K mg base CX k f fd ps sp := ⟨F.len, fun A outer s H args us vs Q E hr => F.go A outer s H args us vs Q E (hr.mono h)⟩
end
section
variable {P : Program} {w : World} {K : PySem.W.Frag} {mg : Str → Option Value} {base : Heap}
/-- the rule for a def, as Fun.ok, with the room told so -/
theorem fun_okG {x qual : Str} {st : Stmt} {f : Addr} {fd : FuncData} {N ps : List Str} {k : Nat} {sp : Sp} (F : Fun K x qual st f fd) (S : FnScope N ps (defScope st)) (len : ∀ vs H Q E, sp vs H Q E → vs.length = ps.length)
    (hbody : ∀ (cdv : Value) (A : Around) (outer : List Env) (s : Shared) (H : Hp) (vs : List V) (Q : VK) (E : XK), RoomG k (A.deeper (envOfC qual (defScope st) s.heap.objs.size f cdv)) → sp vs H Q E →
      ∃ t, PSs (cxOf CX0 P w K mg base N qual (defScope st) f cdv A outer s H E).nox (defBody st) t ∧ t { nx := fun _ H' => Q .non H', rt := Q } (start N vs) H) : FnG P w K mg base CX0 (k + 1) f fd ps sp := by
  obtain ⟨oc, od, kV, doc, pm, an, cdv, ct, osl, rfl, lk, hcd⟩ := F.ex
  refine ⟨len, fun A outer s H args us vs Q E hr e0 hb r hsp => ?_⟩
  have hl := len _ _ _ _ hsp
  have kin : K.In s.heap := e0.mod.kin.keeps fun b o e => (e0.bs b o e).1
  have hlim : s.heap.NoLimit := e0.mod.nolimit.keeps fun b o e => (e0.bs b o e).1
  have kinds : ∀ y ∈ ps.zip us, (defScope st).names.lookup y.1 = some .local ∨ ((defScope st).names.lookup y.1 = some .cell ∧ ((cellsFrom (s.heap.objs.size + 1) (defScope st).names []).lookup y.1).isSome = true) := by
    rintro ⟨n, v⟩ hy
    exact (S.par n (List.of_mem_zip hy).1).elim .inl fun z => .inr ⟨z, PySem.W.cellsFrom_some _ _ _ (.inl z)⟩
  refine codeAny_call_function hr.depth (kin _ _ lk) rfl S.co S.gen rfl (PySem.W.codeRec_of kin hcd) (hb _ _ _ _ ?_)
  refine wpAny_newFunctionEnv_cells S.kind kinds fun env he s1 z => ?_
  subst he
  refine ⟨hlim.keeps z.toInCall.keep, codeAny_func ?_⟩
  obtain ⟨t, ht, hq⟩ := hbody cdv A outer s H vs Q E (hr.down _) hsp
  have I : Inv (cxOf CX0 P w K mg base N qual (defScope st) f cdv A outer s H E) [] (start N vs) H s1 := inv_start S hr.hd e0 hl r z
  refine wpAny_mono (ht.nox.run [] s1 (start N vs) H _ I hq) (fun fl s' hs => ?_) fun e s' hs => hs
  have done : ∀ {τ : L2.St} {G : Hp} {v : V} {u : Value}, Inv (cxOf CX0 P w K mg base N qual (defScope st) f cdv A outer s H E) [] τ G s' → RelV v u → Q v G → CE outer P w H s Q u s' :=
    fun {τ G v u} J rv q => ⟨v, G, J.os, J.bare, J.base, J.hok, rv, q⟩
  match fl, hs with
  | .ret u, hs =>
    obtain ⟨v, τ, G, J, rv, q⟩ := hs
    exact done J rv q
  | .next, hs =>
    obtain ⟨τ, G, J, q⟩ := hs
    exact done (v := V.non) (u := Value.none) J rfl q
  | .brk, ⟨_, _, _, q⟩ => exact q.elim
  | .cont, ⟨_, _, _, q⟩ => exact q.elim
end
section
variable {X : Cx} {CX : CXT} {j k : Nat} {f : Addr} {fd : FuncData} {ps ks : List Str} {sp : Sp} {dvs : List V} {ds : List Value} {E : XK} {x : Str} {p pos : Pos} {e : Expr} {es : List Expr} {kws : List Keyword} {t tk : TA} {n : Nat}
  {g : List Value → List Value → List Value} {gV : List V → List V → List V}
theorem run_fnG {pins : List (Addr × Obj)} {σ : L2.St} {H : Hp} {s : Shared} {Q : VK} {us ws : List Value} {vs zs : List V} (F : FnG X.prog X.w X.K X.mg X.base CX k f fd ps sp) (hr : RoomG k X.A) (hb : KBn X.K fd ps n ks g gV) (hx : Passes CX X E)
    (I : Inv X pins σ H s) (r : Vals vs us) (rz : Vals zs ws) (hn : us.length = n) (hk : ws.length = ks.length) (h : sp (gV vs zs) H Q E) : wpAny (model X.prog X.w) X.A (call (.ref f) us (ks.zip ws)) (EP X pins σ Q) X.xe s := by
  refine wpAny_call (codeAny_mono (F.go X.A X.stack s H ⟨us, ks.zip ws⟩ (g us ws) (gV vs zs) Q E hr I.env0 (hb.to s us ws I.kIn hn hk) (hb.rel r rz) h) fun res s' hq => ?_)
  match res, hq with
  | .error e, hq => exact hx pins σ H s e s' I hq
  | .ok (.ret u), hq => exact I.after hq
  | .ok .next, hq => exact hq.elim
  | .ok .brk, hq => exact hq.elim
  | .ok .cont, hq => exact hq.elim
theorem binds_kb (hb : Binds X.K fd ps []) : KBn X.K fd ps ps.length [] (fun us _ => us) (fun vs _ => vs) :=
  ⟨fun s us ws hK h1 h2 => by
    have z := hb s us hK (by rw [List.append_nil]; exact h1)
    rw [List.append_nil] at z
    exact z, fun a _ => a⟩
/-- f(e, ..), every argument by its place -/
theorem pe_cdG (F : FnG X.prog X.w X.K X.mg X.base CX k f fd ps sp) (hr : RoomG j X.A) (hj : k ≤ j) (hm : X.mg x = some (.ref f)) (hk : PySem.W.keepIn X.K (.ref f) = true) (hb : Binds X.K fd ps []) (hx : Passes CX X E) (ha : PA X (e :: es) t) (hg : Gl X x := by rfl)
    (hdb : (x == ("__debug__" : Str)) = false := by decide) (he : starEach (e :: es) X.env = (false, eval e X.env) :: starEach es X.env := by rfl) (hpl : (backTo pos (starEach es X.env)).any (·.1) = false := by rfl) :
    PE X (.Call (.Name x p) (e :: es) [] pos) (tCall sp [] E t) := by
  refine ⟨fun pins s σ H Q I h => ?_⟩
  refine wpAny_Call_Name_kw (ld_glob I hg hm ?_ hdb)
  refine PySem.W.callWith_K (h₀ := X.base) I.ok.mod.kin hk (thn (ha.run pos pins s σ H _ I h) fun us s1 ⟨vs, H1, I1, r, q⟩ => ⟨I1.kIn, ?_⟩) he hpl
  have q2 : sp vs H1 Q E := by
    have z : sp (vs ++ []) H1 Q E := q
    rwa [List.append_nil] at z
  have hl : us.length = ps.length := by rw [← r.length]; exact F.len _ _ _ _ q2
  exact run_fnG (us := us) (vs := vs) (ks := []) (ws := []) (zs := []) F (hr.mono hj) (binds_kb hb) hx I1 r .nil hl rfl q2
end
section
variable {X : Cx}
/-- repr(x) of data at any depth -/
def rRepr (K : PySem.W.Frag) : List V → Hp → VK → Prop := fun xs H Q => ∃ (x : V) (d : PyData), xs = [x] ∧ Dp K H x d ∧ d.showable = true ∧ d.hasDict = false ∧ d.depth ≤ 150 ∧ d.shown.length ≤ sizeLine ∧ Q (.str d.shown) H
theorem call_repr (hg : X.A.guards = some []) (hu : X.A.units + 151 < cLine) : CallR X (.builtin "repr") (rRepr X.K) := by
  intro pins s σ H xs us Q I r h
  obtain ⟨x, d, rfl, hd, hs, hn, hdep, hsz, q⟩ := h
  obtain ⟨u, rfl, rx⟩ := vals1 r
  obtain ⟨as, rd⟩ := Dp.reads I d x u hd rx
  have rd0 := rd
  cases rd with
  | none => exact PySem.P.repr_of_none ⟨.str _, H, I.tok _, ⟨_, rfl⟩, q⟩
  | bool b => exact PySem.P.repr_of_bool ⟨.str _, H, I.tok _, ⟨_, rfl⟩, q⟩
  | int i t => exact PySem.P.repr_of_int (of_decide_eq_true hs) ⟨.str _, H, I.tok _, ⟨_, rfl⟩, q⟩
  | str z t => exact PySem.P.repr_of_str ⟨.str _, H, I.tok _, ⟨_, rfl⟩, q⟩ hsz
  | list h1 h2 h3 h4 => exact repr_of_reads' rd0 hs (fun z => by rw [hn] at z; cases z) hg (by omega) (fun _ _ e => e) (fun h' u tk hk => ⟨.str _, H, I.kept hk, ⟨_, rfl⟩, q⟩) hsz
  | tuple h1 h2 h3 h4 => exact repr_of_reads' rd0 hs (fun z => by rw [hn] at z; cases z) hg (by omega) (fun _ _ e => e) (fun h' u tk hk => ⟨.str _, H, I.kept hk, ⟨_, rfl⟩, q⟩) hsz
  | dict h1 h2 h3 h4 h5 => cases hn
end
section
/-- the head, for a law whose promise wants that no repr is under way -/
theorem law_goG {P : Program} {w : World} {K : PySem.W.Frag} {mg mb : Str → Option Value} {k : Nat} {fa a : Addr} {fd : FuncData} {x : Str} {sp : Sp} {s₁ : Shared} {vs : List Value} {ns : List Int}
    (KX : K.In s₁.heap) (hns : s₁.heap.Ns mainGlobals mg) (hb : s₁.heap.Ns builtinsNs mb) (hbb : ∀ x : Str, x ≠ "__name__" → mb x = bootBuiltins x) (hlim : s₁.heap.NoLimit) (hg : s₁.gens = #[])
    (ha : s₁.heap.get? a = some { cls := .type "list", data := .seq vs.toArray }) (hi : IntsAre vs ns) (hl : ns.length ≤ sizeLine) (hr : RoomG k callerA)
    (F : ∀ base : Heap, K.In base → base.Ns mainGlobals mg → FnG P w K mg base CX0 k fa fd [x] sp) (hbind : ∀ (s : Shared) (u : Value), BindsTo s fd ⟨[u], []⟩ [(x, u)])
    (hsp : ∀ H : Hp, Only H → SqL K H a (ns.map V.int) → sp [.ref a] H (fun v _ => v = .bl true) fun _ _ _ => False) :
    codeAny (model P w) callerA (.call (.ref fa) ⟨[.ref a], []⟩) (fun r s' => r = .ok (.ret (.bool true)) ∧ OldK s₁.heap s'.heap ∧ s'.os = s₁.os ∧ AllBare s'.gens) s₁ := by
  have rv := vals_ints hi
  have run : ∀ G : Hp, Only G → SqL K G a (ns.map V.int) → HOk P w G s₁.heap → (∀ b, G b ≠ none → b = a) → (G a ≠ none → K.lookup a = none) →
      codeAny (model P w) callerA (.call (.ref fa) ⟨[.ref a], []⟩) (fun r s' => r = .ok (.ret (.bool true)) ∧ OldK s₁.heap s'.heap ∧ s'.os = s₁.os ∧ AllBare s'.gens) s₁ := by
    intro G gO gS gok gA gK
    have inB : ∀ {b : Addr} {o : Obj}, s₁.heap.get? b = some o → G b = none → (hidT s₁.heap G).get? b = some o := fun e n => hidT_get e n
    have only : ∀ {b : Addr} {u : HO}, G b = some u → b = a := fun {b u} q => gA b (by rw [q]; exact Option.some_ne_none _)
    have free : ∀ {b : Addr} {o : Obj} {es : Array DictEntry} {ep : Nat}, s₁.heap.get? b = some o → o.data = .dict es ep → G b = none := fun {b o es ep} e d => by
      cases q : G b with
      | none => rfl
      | some u =>
        cases only q
        rw [ha] at e
        cases e
        exact nomatch (show Data.seq vs.toArray _ = Data.dict es ep from d)
    have names : ∀ {b : Addr} {m : Str → Option Value}, s₁.heap.Ns b m → (hidT s₁.heap G).Ns b m := fun {b m} ⟨o, es, ep, e, d, r⟩ => ⟨o, es, ep, inB e (free e d), d, r⟩
    have kB : K.In (hidT s₁.heap G) := fun b o e => inB (KX b o e) (by
      cases q : G b with
      | none => rfl
      | some u =>
        cases only q
        have z := gK (by rw [q]; exact Option.some_ne_none _)
        rw [z] at e
        cases e)
    have md : Mod K mg (hidT s₁.heap G) := ⟨kB, names hns, ⟨mb, names hb, hbb⟩, let ⟨mc, h1, h2⟩ := hlim; ⟨mc, names h1, h2⟩⟩
    have e0 : Env0 P w K mg (hidT s₁.heap G) callerA [] s₁ G := ⟨rfl, md, fun b o e => of_hidT e, Nat.le_of_eq (hidT_size _ _), trivial, fun b z => absurd (show b ∈ ([] : List Addr) from z) List.not_mem_nil, gok, .of_eq hg⟩
    refine codeAny_mono ((F _ kB (names hns)).go callerA [] s₁ G ⟨[.ref a], []⟩ [.ref a] [.ref a] _ _ hr e0 (hbind s₁ (.ref a)) (.cons rfl .nil) (hsp G gO gS)) fun r s' h => ?_
    match r, h with
    | .error e, h => exact False.elim h
    | .ok .next, h => exact False.elim h
    | .ok .brk, h => exact False.elim h
    | .ok .cont, h => exact False.elim h
    | .ok (.ret u), h =>
      obtain ⟨v, G', os, bare, un, gok', r', q⟩ := h
      cases (show v = V.bl true from q)
      cases (show u = Value.bool true from r')
      refine ⟨rfl, OldK.of_keep fun b o e => ?_, os, bare⟩
      cases q : G b with
      | none => exact un.keep b o e q (fun z => absurd (show b ∈ ([] : List Addr) from z) List.not_mem_nil) List.not_mem_nil
      | some u =>
        rcases gO b with z | ⟨ob, xs, z⟩
        · rw [q] at z
          cases z
        · have z2 := un.frzs b ob _ z
          have e1 := (gok b _ z).1
          have e2 := (gok' b _ z2).1
          rw [e] at e1
          cases e1
          exact e2
  cases hk : K.lookup a with
  | some o =>
    have e := KX a o hk
    rw [ha] at e
    cases e
    exact run (fun _ => none) (fun _ => .inl rfl) (.inr ⟨_, vs.toArray, _, hk, rfl, rfl, rfl, by rw [List.size_toArray, hi.length]; exact hl, by simpa using rv⟩) (fun b u z => nomatch (show (none : Option HO) = some u from z)) (fun b z => absurd rfl z) fun z => absurd rfl z
  | none =>
    have at_ : ∀ b, b = a → (fun b => if b = a then some (HO.frz { cls := .type "list", data := .seq vs.toArray } (.lst (ns.map V.int))) else none) b = some (.frz { cls := .type "list", data := .seq vs.toArray } (.lst (ns.map V.int))) := fun b e => if_pos e
    have no_ : ∀ b, b ≠ a → (fun b => if b = a then some (HO.frz { cls := .type "list", data := .seq vs.toArray } (.lst (ns.map V.int))) else none) b = none := fun b e => if_neg e
    refine run (fun b => if b = a then some (.frz { cls := .type "list", data := .seq vs.toArray } (.lst (ns.map V.int))) else none) (fun b => ?_) (.inl (.inr ⟨{ cls := .type "list", data := .seq vs.toArray }, if_pos rfl⟩)) (fun b u z => ?_) (fun b z => ?_) fun _ => hk
    · by_cases e : b = a
      · exact .inr ⟨_, _, at_ b e⟩
      · exact .inl (no_ b e)
    · by_cases e : b = a
      · have z2 := (at_ b e).symm.trans z
        cases z2
        subst e
        exact ⟨ha, by rw [List.length_map]; exact hl, vs, _, rv, ha⟩
      · exact nomatch (no_ b e).symm.trans z
    · by_cases e : b = a
      · exact e
      · exact absurd (no_ b e) z
/-- the goal that the head leaves, as walk_of -/
theorem walk_ofG {l : PySem.W.OpenLaw} {n k : Nat} {q : Program} {loose : List Str} {XP : (Str → Option Value) → Heap → Prop} {YP : World → Heap → Prop} {d : DefRec} {K : Params → PySem.W.Frag} {sp : World → Sp} {x : Str}
    (hn : l.most = some n) (hn2 : n ≤ sizeLine) (hdf : d.params.defaults = []) (hr : RoomG k callerA) (hY : ∀ (w : World) (h : Heap), YP w h → (K w.params).In h)
    (F : ∀ (w : World) (mg : Str → Option Value) (fa : Addr) (h : Heap), (K w.params).In h → h.Ns mainGlobals mg → mg d.name = some (.ref fa) →
      ∃ fd : FuncData, (∀ (s : Shared) (u : Value), BindsTo s fd ⟨[u], []⟩ [(x, u)]) ∧ ∀ base : Heap, (K w.params).In base → base.Ns mainGlobals mg → FnG l.prog w (K w.params) mg base CX0 k fa fd [x] (sp w))
    (hsp : ∀ (w : World) (H : Hp) (a : Addr) (ns : List Int), ns.length ≤ n → Only H → SqL (K w.params) H a (ns.map V.int) → sp w [.ref a] H (fun v _ => v = .bl true) fun _ _ _ => False) :
    PySem.W.WalkO q loose XP YP l.row.toRowW d [] (fun f vs => PySem.call f vs) := by
  refine Att.attach_call hn hdf fun w s₀ s₁ mg mb fa o pm cd doc a vs ns G Y ho hd hcd hmg hobj hints hlen hg => ?_
  obtain ⟨fd, hb, hF⟩ := F w mg fa _ (hY w _ Y) G.T.g hmg
  exact law_goG (hY w _ Y) G.T.g G.T.b G.T.builtins G.T.nolimit hg hobj hints (Nat.le_trans hlen hn2) hr hF hb fun H hO hS => hsp w H a ns hlen hO hS
end
end TG
/-! writings: what they are, how they stand in the heap, their free names -/
namespace TG
open PySem PySem.Spec L2
open PyProof.Rows hiding St
/-- a writing -/
inductive Wr where
  | nm (z : Str)
  | of (x : Str) (b : Wr)
  | to (a b : Wr)
namespace Wr
/-- its signs -/
def sg : Wr → Nat
  | nm _ => 1
  | of _ b => b.sg + 1
  | to a b => a.sg + b.sg + 1
/-- its layers -/
def ly : Wr → Nat
  | nm _ => 1
  | of _ b => b.ly + 1
  | to a b => max a.ly b.ly + 1
/-- all its names are good -/
def all (p : Str → Bool) : Wr → Bool
  | nm z => p z
  | of x b => p x && b.all p
  | to a b => a.all p && b.all p
/-- its free names, each once, as they first stand -/
def fr : Wr → List Str
  | nm z => [z]
  | of x b => b.fr.filter fun z => decide (z ≠ x)
  | to a b => a.fr ++ b.fr.filter fun z => decide (z ∉ a.fr)
/-- told in tuples -/
def d : Wr → PyData
  | nm z => .str z
  | of x b => .tuple [.str "of", .str x, b.d]
  | to a b => .tuple [.str "to", a.d, b.d]
/-- told in lists -/
def dl : Wr → PyData
  | nm z => .str z
  | of x b => .list [.str "of", .str x, b.dl]
  | to a b => .list [.str "to", a.dl, b.dl]
theorem sg_pos : ∀ w : Wr, 1 ≤ w.sg
  | nm _ => Nat.le_refl _
  | of _ b => by show 1 ≤ b.sg + 1; omega
  | to a b => by show 1 ≤ a.sg + b.sg + 1; omega
theorem ly_pos : ∀ w : Wr, 1 ≤ w.ly
  | nm _ => Nat.le_refl _
  | of _ b => Nat.succ_le_succ (Nat.zero_le _)
  | to a b => Nat.succ_le_succ (Nat.zero_le _)
theorem ly_sg : ∀ w : Wr, w.ly ≤ w.sg
  | nm _ => Nat.le_refl _
  | of _ b => Nat.succ_le_succ (ly_sg b)
  | to a b => by
    have h1 := ly_sg a
    have h2 := ly_sg b
    show max a.ly b.ly + 1 ≤ a.sg + b.sg + 1
    omega
theorem fr_len : ∀ w : Wr, w.fr.length ≤ w.sg
  | nm _ => Nat.le_refl _
  | of x b => Nat.le_succ_of_le (Nat.le_trans (List.length_filter_le _ _) (fr_len b))
  | to a b => by
    have h1 := fr_len a
    have h2 := fr_len b
    have h3 := List.length_filter_le (fun z => decide (z ∉ a.fr)) b.fr
    show (a.fr ++ b.fr.filter fun z => decide (z ∉ a.fr)).length ≤ a.sg + b.sg + 1
    rw [List.length_append]
    omega
theorem fr_nodup : ∀ w : Wr, w.fr.Nodup
  | nm _ => List.nodup_cons.mpr ⟨List.not_mem_nil, List.nodup_nil⟩
  | of x b => (fr_nodup b).filter _
  | to a b => by
    refine List.nodup_append.mpr ⟨fr_nodup a, (fr_nodup b).filter _, fun x hx y hy e => ?_⟩
    subst e
    exact (of_decide_eq_true (List.mem_filter.mp hy).2) hx
theorem fr_all {p : Str → Bool} : ∀ {w : Wr}, w.all p = true → ∀ z ∈ w.fr, p z = true
  | nm z, h, y, hy => by cases List.mem_singleton.mp hy; exact h
  | of x b, h, y, hy => fr_all (Bool.and_eq_true_iff.mp h).2 y (List.mem_filter.mp hy).1
  | to a b, h, y, hy => by
    rcases List.mem_append.mp hy with hy | hy
    · exact fr_all (Bool.and_eq_true_iff.mp h).1 y hy
    · exact fr_all (Bool.and_eq_true_iff.mp h).2 y (List.mem_filter.mp hy).1
/-- the walk: around are the names bound, found those that stand ahead -/
def go : Wr → List Str → List Str → List Str
  | nm z, ar, f => if z ∈ ar ++ f then f else f ++ [z]
  | of x b, ar, f => b.go (ar ++ [x]) f
  | to a b, ar, f => b.go ar (a.go ar f)
theorem go_eq : ∀ (w : Wr) (ar f : List Str), w.go ar f = f ++ w.fr.filter fun z => decide (z ∉ ar ++ f)
  | nm z, ar, f => by
    show (if z ∈ ar ++ f then f else f ++ [z]) = f ++ [z].filter _
    by_cases h : z ∈ ar ++ f
    · rw [if_pos h, List.filter_cons_of_neg (by simp [h])]
      simp
    · rw [if_neg h, List.filter_cons_of_pos (by simpa using h)]
      rfl
  | of x b, ar, f => by
    show b.go (ar ++ [x]) f = f ++ (b.fr.filter _).filter _
    rw [go_eq b, List.filter_filter]
    congr 1
    refine List.filter_congr fun z _ => ?_
    simp only [List.mem_append, List.mem_singleton, not_or]
    by_cases h1 : z ∈ ar <;> by_cases h2 : z ∈ f <;> by_cases h3 : z = x <;> simp [h1, h2, h3]
  | to a b, ar, f => by
    show b.go ar (a.go ar f) = f ++ (a.fr ++ b.fr.filter _).filter _
    rw [go_eq b, go_eq a, List.filter_append, List.append_assoc, List.filter_filter]
    congr 2
    refine List.filter_congr fun z _ => ?_
    simp only [List.mem_append, List.mem_filter, not_or]
    by_cases h1 : z ∈ ar <;> by_cases h2 : z ∈ f <;> by_cases h3 : z ∈ a.fr <;> simp [h1, h2, h3]
/-- all these bound in front -/
def close (w : Wr) (l : List Str) : Wr := l.foldl (fun c x => .of x c) w
theorem frs_close : ∀ (l : List Str) (w : Wr), (w.close l).fr = w.fr.filter fun z => decide (z ∉ l)
  | [], w => by
    show w.fr = w.fr.filter _
    exact (List.filter_eq_self.mpr fun z _ => decide_eq_true List.not_mem_nil).symm
  | x :: l, w => by
    show ((Wr.of x w).close l).fr = _
    rw [frs_close l]
    show (w.fr.filter _).filter _ = _
    rw [List.filter_filter]
    refine List.filter_congr fun z _ => ?_
    by_cases h1 : z = x <;> by_cases h2 : z ∈ l <;> simp [h1, h2]
theorem sg_close : ∀ (l : List Str) (w : Wr), (w.close l).sg = w.sg + l.length
  | [], _ => rfl
  | x :: l, w => by
    show ((Wr.of x w).close l).sg = _
    rw [sg_close l]
    show w.sg + 1 + l.length = w.sg + (l.length + 1)
    omega
theorem all_close {p : Str → Bool} : ∀ (l : List Str) (w : Wr), w.all p = true → (∀ z ∈ l, p z = true) → (w.close l).all p = true
  | [], _, h, _ => h
  | x :: l, w, h, k => all_close l (.of x w) (Bool.and_eq_true_iff.mpr ⟨k x List.mem_cons_self, h⟩) fun z hz => k z (List.mem_cons_of_mem _ hz)
theorem close_fr (w : Wr) : (w.close w.fr).fr = [] := by
  rw [frs_close]
  exact List.filter_eq_nil_iff.mpr fun z hz => by simp [hz]
theorem close_snoc (w : Wr) (l : List Str) (x : Str) : w.close (l ++ [x]) = .of x (w.close l) := by
  show (l ++ [x]).foldl _ w = _
  rw [List.foldl_append]
  rfl
theorem go_nil (w : Wr) : w.go [] [] = w.fr := by
  rw [go_eq]
  simp
end Wr
/-- it stands at v, in tuples -/
inductive WA (H : Hp) : V → Wr → Prop where
  | nm (z : Str) : WA H (.str z) (.nm z)
  | of {a : Addr} {x : Str} {v : V} {b : Wr} : H a = some (.tup [.str "of", .str x, v]) → WA H v b → WA H (.ref a) (.of x b)
  | to {a : Addr} {u v : V} {b c : Wr} : H a = some (.tup [.str "to", u, v]) → WA H u b → WA H v c → WA H (.ref a) (.to b c)
/-- in lists, none of which stands at p -/
inductive LA (p : Addr) (H : Hp) : V → Wr → Prop where
  | nm (z : Str) : LA p H (.str z) (.nm z)
  | of {a : Addr} {x : Str} {v : V} {b : Wr} : a ≠ p → H a = some (.lst [.str "of", .str x, v]) → LA p H v b → LA p H (.ref a) (.of x b)
  | to {a : Addr} {u v : V} {b c : Wr} : a ≠ p → H a = some (.lst [.str "to", u, v]) → LA p H u b → LA p H v c → LA p H (.ref a) (.to b c)
theorem WA.mono {H H' : Hp} {v : V} {w : Wr} (h : WA H v w) (k : ∀ a xs, H a = some (.tup xs) → H' a = some (.tup xs)) : WA H' v w := by
  induction h with
  | nm z => exact .nm z
  | of e _ ih => exact .of (k _ _ e) ih
  | to e _ _ i1 i2 => exact .to (k _ _ e) i1 i2
theorem WA.same {H H' : Hp} {v : V} {w : Wr} (h : WA H v w) (s : Same H H') : WA H' v w := h.mono fun a xs e => s _ _ e
theorem LA.mono {p : Addr} {H H' : Hp} {v : V} {w : Wr} (h : LA p H v w) (k : ∀ a o, a ≠ p → H a = some o → H' a = some o) : LA p H' v w := by
  induction h with
  | nm z => exact .nm z
  | of n e _ ih => exact .of n (k _ _ n e) ih
  | to n e _ _ i1 i2 => exact .to n (k _ _ n e) i1 i2
theorem WA.dp {K : PySem.W.Frag} {H : Hp} {v : V} {w : Wr} (h : WA H v w) : Dp K H v w.d := by
  induction h with
  | nm z => exact .str z
  | of e _ ih => exact .tup (SqT.of e) (.cons (.str _) (.cons (.str _) (.cons ih .nil)))
  | to e _ _ i1 i2 => exact .tup (SqT.of e) (.cons (.str _) (.cons i1 (.cons i2 .nil)))
theorem LA.dp {K : PySem.W.Frag} {p : Addr} {H : Hp} {v : V} {w : Wr} (h : LA p H v w) : Dp K H v w.dl := by
  induction h with
  | nm z => exact .str z
  | of n e _ ih => exact .lst (SqL.of e) (.cons (.str _) (.cons (.str _) (.cons ih .nil)))
  | to n e _ _ i1 i2 => exact .lst (SqL.of e) (.cons (.str _) (.cons i1 (.cons i2 .nil)))
/-- what a value tells, be it lists or tuples -/
inductive Tells : PyData → Wr → Prop where
  | nm (z : Str) : Tells (.str z) (.nm z)
  | ofT {x : Str} {e : PyData} {b : Wr} : Tells e b → Tells (.tuple [.str "of", .str x, e]) (.of x b)
  | ofL {x : Str} {e : PyData} {b : Wr} : Tells e b → Tells (.list [.str "of", .str x, e]) (.of x b)
  | toT {e g : PyData} {b c : Wr} : Tells e b → Tells g c → Tells (.tuple [.str "to", e, g]) (.to b c)
  | toL {e g : PyData} {b c : Wr} : Tells e b → Tells g c → Tells (.list [.str "to", e, g]) (.to b c)
theorem tells_d : ∀ w : Wr, Tells w.d w
  | .nm z => .nm z
  | .of _ b => .ofT (tells_d b)
  | .to a b => .toT (tells_d a) (tells_d b)
theorem tells_dl : ∀ w : Wr, Tells w.dl w
  | .nm z => .nm z
  | .of _ b => .ofL (tells_dl b)
  | .to a b => .toL (tells_dl a) (tells_dl b)
/-- a name that the rules let be one -/
def okN (z : Str) : Bool := decide (z ≠ "of") && decide (z ≠ "to") && (decide (1 ≤ z.length) && decide (z.length ≤ 12)) &&
  (match z.cps.toList with
    | [] => false
    | c :: r => decide (97 ≤ c ∧ c ≤ 122) && r.all fun c => decide (97 ≤ c ∧ c ≤ 122) || decide (48 ≤ c ∧ c ≤ 57))
/-- a tuple of names, shown -/
def nmsD (l : List Str) : PyData := .tuple (l.map PyData.str)
theorem nms_showable : ∀ l : List Str, (nmsD l).showable = true
  | [] => rfl
  | z :: r => nms_showable r
theorem nms_noDict : ∀ l : List Str, (nmsD l).hasDict = false
  | [] => rfl
  | z :: r => nms_noDict r
theorem nms_depth : ∀ l : List Str, (nmsD l).depth ≤ 1
  | [] => Nat.le_refl _
  | z :: r => by
    have h := nms_depth r
    show max 0 (PyData.depthAll (r.map PyData.str)) + 1 ≤ 1
    have h2 : PyData.depthAll (r.map PyData.str) + 1 ≤ 1 := h
    omega
theorem ok_signs {z : Str} (h : okN z = true) : z.length ≤ 12 ∧ z.cps.toList.all (fun c => decide (c < 128)) = true := by
  unfold okN at h
  simp only [Bool.and_eq_true, decide_eq_true_eq] at h
  obtain ⟨⟨_, _, h1⟩, h2⟩ := h
  refine ⟨h1, ?_⟩
  revert h2
  cases z.cps.toList with
  | nil => intro h2; rfl
  | cons c r =>
    intro h2
    simp only [Bool.and_eq_true, decide_eq_true_eq, List.all_eq_true] at h2
    rw [List.all_cons, Bool.and_eq_true]
    refine ⟨decide_eq_true (by omega), List.all_eq_true.mpr fun x hx => decide_eq_true ?_⟩
    have z2 := h2.2 x hx
    simp only [Bool.or_eq_true, decide_eq_true_eq] at z2
    omega
theorem nms_short {l : List Str} (h : ∀ z ∈ l, okN z = true) : (nmsD l).leavesShort 8 = true ∧ (nmsD l).bulk ≤ 13 * l.length := by
  induction l with
  | nil => exact ⟨rfl, Nat.zero_le _⟩
  | cons z r ih =>
    obtain ⟨h1, h2⟩ := ih fun y hy => h y (List.mem_cons_of_mem _ hy)
    obtain ⟨z1, z2⟩ := ok_signs (h z List.mem_cons_self)
    refine ⟨?_, ?_⟩
    · show (PyData.leavesShort 8 (.str z) && PyData.leavesShortAll 8 (r.map PyData.str)) = true
      rw [Bool.and_eq_true]
      refine ⟨?_, h1⟩
      show (z.cps.toList.all fun c => decide (c < 16 ^ 8)) = true
      refine List.all_eq_true.mpr fun c hc => decide_eq_true ?_
      have e := of_decide_eq_true (List.all_eq_true.mp z2 c hc)
      exact Nat.lt_trans e (by decide)
    · have h3 : PyData.bulkAll (r.map PyData.str) ≤ 13 * r.length := h2
      have h4 : z.cps.size ≤ 12 := z1
      show z.cps.size + 1 + PyData.bulkAll (r.map PyData.str) ≤ 13 * (r.length + 1)
      omega
theorem nms_fits {l : List Str} (h : ∀ z ∈ l, okN z = true) (hl : l.length ≤ 2000) : (nmsD l).shown.length ≤ sizeLine := by
  obtain ⟨h1, h2⟩ := nms_short h
  exact PyData.shown_fits_bulk (B := 8) (by decide) (by decide) h1 (by omega)
theorem nms_lay {l : List Str} (h : ∀ z ∈ l, okN z = true) : SeqAt.shaped (nmsD l) = true := by
  unfold SeqAt.shaped
  rw [Bool.and_eq_true]
  refine ⟨?_, decide_eq_true (Nat.le_trans (nms_depth l) (by decide))⟩
  induction l with
  | nil => rfl
  | cons z r ih =>
    show (PyData.canLay0 (.str z) && PyData.canLayAll0 (r.map PyData.str)) = true
    rw [Bool.and_eq_true]
    refine ⟨?_, ih fun y hy => h y (List.mem_cons_of_mem _ hy)⟩
    obtain ⟨_, z2⟩ := ok_signs (h z List.mem_cons_self)
    show (z.cps.all fun c => decide (c < 0x110000)) = true
    rw [← Array.all_toList]
    refine List.all_eq_true.mpr fun c hc => decide_eq_true ?_
    exact Nat.lt_trans (of_decide_eq_true (List.all_eq_true.mp z2 c hc)) (by decide)
theorem dp_strs {K : PySem.W.Frag} {H : Hp} : ∀ l : List Str, DpAll K H (l.map V.str) (l.map PyData.str)
  | [] => .nil
  | z :: r => .cons (.str z) (dp_strs r)
/-- what free_names promises: of any value that tells a good writing, the tuple of its free names -/
def spFree (K : PySem.W.Frag) : Sp := fun vs H Q _ => ∃ (v : V) (e : PyData) (w : Wr), vs = [v] ∧ Dp K H v e ∧ Tells e w ∧ w.all okN = true ∧ w.sg ≤ 2000 ∧ w.ly ≤ 200 ∧
  ∀ (a : Addr) (H' : Hp), Same H H' → SqT K H' a (w.fr.map V.str) → Q (.ref a) H'
end TG
/-! writings with their bound names counted outwards; what is put in them -/
namespace TG
open PySem PySem.Spec L2
open PyProof.Rows hiding St
inductive Bt where
  | bd (n : Nat)
  | fr (z : Str)
  | of (b : Bt)
  | to (a b : Bt)
deriving DecidableEq
namespace Bt
/-- the name is free in it -/
def uses (z : Str) : Bt → Bool
  | bd _ => false
  | fr y => decide (y = z)
  | of b => b.uses z
  | to a b => a.uses z || b.uses z
/-- something put for a free name -/
def sub : Bt → Str → Bt → Bt
  | bd n, _, _ => bd n
  | fr y, z, t => if y = z then t else fr y
  | of b, z, t => of (b.sub z t)
  | to a b, z, t => to (a.sub z t) (b.sub z t)
/-- a free name bound, k of the others being around -/
def bind (z : Str) : Nat → Bt → Bt
  | _, bd n => bd n
  | k, fr y => if y = z then bd k else fr y
  | k, of b => of (b.bind z (k + 1))
  | k, to a b => to (a.bind z k) (b.bind z k)
def ly : Bt → Nat
  | bd _ => 1
  | fr _ => 1
  | of b => b.ly + 1
  | to a b => max a.ly b.ly + 1
def all (p : Str → Bool) : Bt → Bool
  | bd _ => true
  | fr z => p z
  | of b => b.all p
  | to a b => a.all p && b.all p
theorem sub_none {z : Str} {t : Bt} : ∀ {b : Bt}, b.uses z = false → b.sub z t = b
  | bd _, _ => rfl
  | fr y, h => if_neg (of_decide_eq_false h)
  | of b, h => congrArg of (sub_none (b := b) h)
  | to a b, h => by
    obtain ⟨h1, h2⟩ := Bool.or_eq_false_iff.mp h
    show to _ _ = _
    rw [sub_none h1, sub_none h2]
theorem sub_self (z : Str) : ∀ b : Bt, b.sub z (fr z) = b
  | bd _ => rfl
  | fr y => by
    show (if y = z then fr z else fr y) = fr y
    by_cases h : y = z
    · rw [if_pos h, h]
    · rw [if_neg h]
  | of b => congrArg of (sub_self z b)
  | to a b => by
    show to _ _ = _
    rw [sub_self z a, sub_self z b]
theorem bind_none {z : Str} : ∀ {b : Bt} (k : Nat), b.uses z = false → b.bind z k = b
  | bd _, _, _ => rfl
  | fr y, _, h => if_neg (of_decide_eq_false h)
  | of b, k, h => congrArg of (bind_none (b := b) (k + 1) h)
  | to a b, k, h => by
    obtain ⟨h1, h2⟩ := Bool.or_eq_false_iff.mp h
    show to _ _ = _
    rw [bind_none k h1, bind_none k h2]
theorem uses_bind (z : Str) : ∀ (b : Bt) (k : Nat), (b.bind z k).uses z = false
  | bd _, _ => rfl
  | fr y, k => by
    show (if y = z then bd k else fr y).uses z = false
    by_cases h : y = z
    · rw [if_pos h]
      rfl
    · rw [if_neg h]
      exact decide_eq_false h
  | of b, k => uses_bind z b (k + 1)
  | to a b, k => by
    show ((a.bind z k).uses z || (b.bind z k).uses z) = false
    rw [uses_bind z a, uses_bind z b]
    rfl
theorem uses_bind_ne {z y : Str} (n : y ≠ z) : ∀ (b : Bt) (k : Nat), (b.bind z k).uses y = b.uses y
  | bd _, _ => rfl
  | fr x, k => by
    show (if x = z then bd k else fr x).uses y = decide (x = y)
    by_cases h : x = z
    · rw [if_pos h, decide_eq_false fun e => n (e.symm.trans h)]
      rfl
    · rw [if_neg h]
      rfl
  | of b, k => uses_bind_ne n b (k + 1)
  | to a b, k => by
    show ((a.bind z k).uses y || (b.bind z k).uses y) = (a.uses y || b.uses y)
    rw [uses_bind_ne n a, uses_bind_ne n b]
theorem uses_sub {z y : Str} {t : Bt} : ∀ b : Bt, (b.sub z t).uses y = ((b.uses y && decide (y ≠ z)) || (b.uses z && t.uses y))
  | bd _ => rfl
  | fr x => by
    show (if x = z then t else fr x).uses y = ((decide (x = y) && decide (y ≠ z)) || (decide (x = z) && t.uses y))
    by_cases h : x = z
    · subst h
      rw [if_pos rfl, decide_eq_true rfl, Bool.true_and]
      by_cases e : x = y
      · subst e
        simp
      · rw [decide_eq_false e]
        rfl
    · rw [if_neg h, decide_eq_false h, Bool.false_and, Bool.or_false]
      show decide (x = y) = _
      by_cases e : x = y
      · subst e
        simp [h]
      · rw [decide_eq_false e]
        rfl
  | of b => uses_sub b
  | to a b => by
    show ((a.sub z t).uses y || (b.sub z t).uses y) = (((a.uses y || b.uses y) && decide (y ≠ z)) || ((a.uses z || b.uses z) && t.uses y))
    rw [uses_sub a, uses_sub b]
    cases a.uses y <;> cases b.uses y <;> cases a.uses z <;> cases b.uses z <;> cases t.uses y <;> cases decide (y ≠ z) <;> rfl
/-- put in one behind the other -/
theorem sub_sub {x y : Str} {a b : Bt} (n : x ≠ y) (h : b.uses x = false) : ∀ m : Bt, (m.sub x a).sub y b = (m.sub y b).sub x (a.sub y b)
  | bd _ => rfl
  | fr z => by
    show (if z = x then a else fr z).sub y b = (if z = y then b else fr z).sub x (a.sub y b)
    by_cases h1 : z = x
    · have h2 : ¬ z = y := fun e => n (h1.symm.trans e)
      rw [if_pos h1, if_neg h2]
      show _ = if z = x then _ else _
      rw [if_pos h1]
    · rw [if_neg h1]
      show (if z = y then b else fr z) = _
      by_cases h2 : z = y
      · rw [if_pos h2, sub_none h]
      · rw [if_neg h2]
        show _ = if z = x then _ else fr z
        rw [if_neg h1]
  | of m => congrArg of (sub_sub n h m)
  | to p q => by
    show to _ _ = to _ _
    rw [sub_sub n h p, sub_sub n h q]
/-- what is put under a binder whose name is not in it -/
theorem bind_sub {x y : Str} {a : Bt} (n : x ≠ y) (h : a.uses y = false) : ∀ (m : Bt) (k : Nat), (m.sub x a).bind y k = (m.bind y k).sub x a
  | bd _, _ => rfl
  | fr z, k => by
    show (if z = x then a else fr z).bind y k = (if z = y then bd k else fr z).sub x a
    by_cases h1 : z = x
    · have h2 : ¬ z = y := fun e => n (h1.symm.trans e)
      rw [if_pos h1, if_neg h2, bind_none k h]
      show _ = if z = x then _ else _
      rw [if_pos h1]
    · rw [if_neg h1]
      show (if z = y then bd k else fr z) = _
      by_cases h2 : z = y
      · rw [if_pos h2]
        rfl
      · rw [if_neg h2]
        show _ = if z = x then _ else fr z
        rw [if_neg h1]
  | of m, k => congrArg of (bind_sub n h m (k + 1))
  | to p q, k => by
    show to _ _ = to _ _
    rw [bind_sub n h p, bind_sub n h q]
/-- a name exchanged for a new one, and that bound -/
theorem bind_new {y u : Str} : ∀ (m : Bt) (k : Nat), m.uses u = false → (m.sub y (fr u)).bind u k = m.bind y k
  | bd _, _, _ => rfl
  | fr z, k, h => by
    have nu : ¬ z = u := of_decide_eq_false h
    show (if z = y then fr u else fr z).bind u k = if z = y then bd k else fr z
    by_cases h1 : z = y
    · rw [if_pos h1, if_pos h1]
      exact if_pos rfl
    · rw [if_neg h1, if_neg h1]
      exact if_neg nu
  | of m, k, h => congrArg of (bind_new m (k + 1) h)
  | to p q, k, h => by
    obtain ⟨h1, h2⟩ := Bool.or_eq_false_iff.mp h
    show to _ _ = to _ _
    rw [bind_new p k h1, bind_new q k h2]
/-- a name exchanged for a new one, and something put for that -/
theorem sub_new {x u : Str} {a : Bt} : ∀ m : Bt, m.uses u = false → (m.sub x (fr u)).sub u a = m.sub x a
  | bd _, _ => rfl
  | fr z, h => by
    have nu : ¬ z = u := of_decide_eq_false h
    show (if z = x then fr u else fr z).sub u a = if z = x then a else fr z
    by_cases h1 : z = x
    · rw [if_pos h1, if_pos h1]
      exact if_pos rfl
    · rw [if_neg h1, if_neg h1]
      exact if_neg nu
  | of m, h => congrArg of (sub_new m h)
  | to p q, h => by
    obtain ⟨h1, h2⟩ := Bool.or_eq_false_iff.mp h
    show to _ _ = to _ _
    rw [sub_new p h1, sub_new q h2]
theorem ly_pos : ∀ b : Bt, 1 ≤ b.ly
  | bd _ => Nat.le_refl _
  | fr _ => Nat.le_refl _
  | of b => Nat.succ_le_succ (Nat.zero_le _)
  | to a b => Nat.succ_le_succ (Nat.zero_le _)
theorem ly_sub (z : Str) (t : Bt) : ∀ b : Bt, (b.sub z t).ly ≤ b.ly + t.ly
  | bd _ => Nat.le_add_right _ _
  | fr y => by
    show (if y = z then t else fr y).ly ≤ 1 + t.ly
    by_cases h : y = z
    · rw [if_pos h]; omega
    · rw [if_neg h]; exact Nat.le_add_right _ _
  | of b => by
    have := ly_sub z t b
    show (b.sub z t).ly + 1 ≤ b.ly + 1 + t.ly
    omega
  | to a b => by
    have h1 := ly_sub z t a
    have h2 := ly_sub z t b
    show max (a.sub z t).ly (b.sub z t).ly + 1 ≤ max a.ly b.ly + 1 + t.ly
    omega
theorem all_sub {p : Str → Bool} {z : Str} {t : Bt} (ht : t.all p = true) : ∀ {b : Bt}, b.all p = true → (b.sub z t).all p = true
  | bd _, _ => rfl
  | fr y, h => by
    show (if y = z then t else fr y).all p = true
    by_cases e : y = z
    · rw [if_pos e]; exact ht
    · rw [if_neg e]; exact h
  | of b, h => all_sub ht (b := b) h
  | to a b, h => Bool.and_eq_true_iff.mpr ⟨all_sub ht (Bool.and_eq_true_iff.mp h).1, all_sub ht (Bool.and_eq_true_iff.mp h).2⟩
end Bt
namespace Wr
/-- its bound names counted outwards, those around the nearest first -/
def cnt : Wr → List Str → Bt
  | nm z, ar => if z ∈ ar then .bd (ar.idxOf z) else .fr z
  | of x b, ar => .of (b.cnt (x :: ar))
  | to a b, ar => .to (a.cnt ar) (b.cnt ar)
theorem cnt_ly : ∀ (w : Wr) (ar : List Str), (w.cnt ar).ly = w.ly
  | nm z, ar => by
    show (if z ∈ ar then Bt.bd (ar.idxOf z) else .fr z).ly = 1
    split <;> rfl
  | of x b, ar => congrArg (· + 1) (cnt_ly b (x :: ar))
  | to a b, ar => by
    show max (a.cnt ar).ly (b.cnt ar).ly + 1 = max a.ly b.ly + 1
    rw [cnt_ly a, cnt_ly b]
theorem cnt_all {p : Str → Bool} : ∀ {w : Wr} (ar : List Str), w.all p = true → (w.cnt ar).all p = true
  | nm z, ar, h => by
    show (if z ∈ ar then Bt.bd (ar.idxOf z) else .fr z).all p = true
    split
    · rfl
    · exact h
  | of x b, ar, h => cnt_all (w := b) (x :: ar) (Bool.and_eq_true_iff.mp h).2
  | to a b, ar, h => Bool.and_eq_true_iff.mpr ⟨cnt_all ar (Bool.and_eq_true_iff.mp h).1, cnt_all ar (Bool.and_eq_true_iff.mp h).2⟩
/-- a name more, outside of all others -/
theorem cnt_snoc (y : Str) : ∀ (w : Wr) (ar : List Str), w.cnt (ar ++ [y]) = (w.cnt ar).bind y ar.length
  | nm z, ar => by
    show (if z ∈ ar ++ [y] then Bt.bd ((ar ++ [y]).idxOf z) else .fr z) = (if z ∈ ar then Bt.bd (ar.idxOf z) else .fr z).bind y ar.length
    by_cases h : z ∈ ar
    · rw [if_pos (List.mem_append_left _ h), if_pos h, List.idxOf_append, if_pos h]
      rfl
    · rw [if_neg h]
      show _ = if z = y then Bt.bd ar.length else .fr z
      by_cases e : z = y
      · subst e
        rw [if_pos rfl, if_pos (List.mem_append_right _ (List.mem_singleton_self z)), List.idxOf_append, if_neg h, List.idxOf_cons_self]
        congr 1
        omega
      · rw [if_neg e, if_neg]
        intro q
        rcases List.mem_append.mp q with q | q
        · exact h q
        · exact e (List.mem_singleton.mp q)
  | of x b, ar => congrArg Bt.of (cnt_snoc y b (x :: ar))
  | to a b, ar => by
    show Bt.to _ _ = Bt.to _ _
    rw [cnt_snoc y a, cnt_snoc y b]
theorem cnt_of (x : Str) (b : Wr) : (Wr.of x b).cnt [] = .of ((b.cnt []).bind x 0) := congrArg Bt.of (cnt_snoc x b [])
theorem uses_cnt (z : Str) : ∀ (w : Wr) (ar : List Str), (w.cnt ar).uses z = decide (z ∈ w.fr ∧ z ∉ ar)
  | nm y, ar => by
    show (if y ∈ ar then Bt.bd (ar.idxOf y) else .fr y).uses z = decide (z ∈ [y] ∧ z ∉ ar)
    by_cases h : y ∈ ar
    · rw [if_pos h]
      refine (decide_eq_false ?_).symm
      rintro ⟨h1, h2⟩
      exact h2 (List.mem_singleton.mp h1 ▸ h)
    · rw [if_neg h]
      show decide (y = z) = _
      by_cases e : y = z
      · subst e
        rw [decide_eq_true rfl, decide_eq_true ⟨List.mem_singleton_self y, h⟩]
      · rw [decide_eq_false e, decide_eq_false]
        exact fun q => e (List.mem_singleton.mp q.1).symm
  | of x b, ar => by
    show (b.cnt (x :: ar)).uses z = decide (z ∈ (b.fr.filter fun z => decide (z ≠ x)) ∧ z ∉ ar)
    rw [uses_cnt z b]
    refine decide_eq_decide.mpr ?_
    simp only [List.mem_filter, List.mem_cons, decide_eq_true_eq, not_or]
    constructor
    · rintro ⟨h1, h2, h3⟩
      exact ⟨⟨h1, h2⟩, h3⟩
    · rintro ⟨⟨h1, h2⟩, h3⟩
      exact ⟨h1, h2, h3⟩
  | to a b, ar => by
    show ((a.cnt ar).uses z || (b.cnt ar).uses z) = decide (z ∈ (a.fr ++ b.fr.filter fun z => decide (z ∉ a.fr)) ∧ z ∉ ar)
    rw [uses_cnt z a, uses_cnt z b, Bool.eq_iff_iff]
    simp only [Bool.or_eq_true, decide_eq_true_eq, List.mem_append, List.mem_filter]
    by_cases h1 : z ∈ a.fr <;> by_cases h2 : z ∈ b.fr <;> by_cases h3 : z ∈ ar <;> simp [h1, h2, h3]
/-- alike in writing -/
def alk (w v : Wr) : Bool := decide (w.cnt [] = v.cnt [])
end Wr
end TG
/-! counted writings in the heap; what put and alike promise -/
namespace TG
open PySem PySem.Spec L2
open PyProof.Rows hiding St
namespace Bt
def sg : Bt → Nat
  | bd _ => 1
  | fr _ => 1
  | of b => b.sg + 1
  | to a b => a.sg + b.sg + 1
theorem sg_pos : ∀ b : Bt, 1 ≤ b.sg
  | bd _ => Nat.le_refl _
  | fr _ => Nat.le_refl _
  | of b => Nat.succ_le_succ (Nat.zero_le _)
  | to a b => Nat.succ_le_succ (Nat.zero_le _)
theorem sg_sub (z : Str) (t : Bt) : ∀ b : Bt, (b.sub z t).sg ≤ b.sg * t.sg
  | bd _ => by
    have := t.sg_pos
    show 1 ≤ 1 * t.sg
    omega
  | fr y => by
    have := t.sg_pos
    show (if y = z then t else fr y).sg ≤ 1 * t.sg
    by_cases h : y = z
    · rw [if_pos h]; omega
    · rw [if_neg h]; show 1 ≤ 1 * t.sg; omega
  | of b => by
    have h := sg_sub z t b
    have := t.sg_pos
    show (b.sub z t).sg + 1 ≤ (b.sg + 1) * t.sg
    rw [Nat.add_mul]
    omega
  | to a b => by
    have h1 := sg_sub z t a
    have h2 := sg_sub z t b
    have := t.sg_pos
    show (a.sub z t).sg + (b.sub z t).sg + 1 ≤ (a.sg + b.sg + 1) * t.sg
    rw [Nat.add_mul, Nat.add_mul]
    omega
/-- its leaves -/
def lv : Bt → Nat
  | bd _ => 1
  | fr _ => 1
  | of b => b.lv
  | to a b => a.lv + b.lv
theorem lv_sg : ∀ b : Bt, 2 * b.lv ≤ b.sg + 1
  | bd _ => Nat.le_refl _
  | fr _ => Nat.le_refl _
  | of b => by
    have h := lv_sg b
    show 2 * b.lv ≤ b.sg + 1 + 1
    omega
  | to a b => by
    have h1 := lv_sg a
    have h2 := lv_sg b
    show 2 * (a.lv + b.lv) ≤ a.sg + b.sg + 1 + 1
    omega
theorem lv_pos : ∀ b : Bt, 1 ≤ b.lv
  | bd _ => Nat.le_refl _
  | fr _ => Nat.le_refl _
  | of b => lv_pos b
  | to a b => Nat.le_trans (lv_pos a) (Nat.le_add_right _ _)
theorem lv_sub (z : Str) (t : Bt) : ∀ b : Bt, (b.sub z t).lv ≤ b.lv * t.lv
  | bd _ => by
    have := t.lv_pos
    show 1 ≤ 1 * t.lv
    omega
  | fr y => by
    have := t.lv_pos
    show (if y = z then t else fr y).lv ≤ 1 * t.lv
    by_cases h : y = z
    · rw [if_pos h]; omega
    · rw [if_neg h]; show 1 ≤ 1 * t.lv; omega
  | of b => lv_sub z t b
  | to a b => by
    have h1 := lv_sub z t a
    have h2 := lv_sub z t b
    show (a.sub z t).lv + (b.sub z t).lv ≤ (a.lv + b.lv) * t.lv
    rw [Nat.add_mul]
    omega
theorem sg_sub2 (z : Str) (t : Bt) : ∀ b : Bt, (b.sub z t).sg ≤ b.sg + b.lv * t.sg
  | bd _ => Nat.le_add_right _ _
  | fr y => by
    show (if y = z then t else fr y).sg ≤ 1 + 1 * t.sg
    by_cases h : y = z
    · rw [if_pos h]; omega
    · rw [if_neg h]; exact Nat.le_add_right _ _
  | of b => by
    have h := sg_sub2 z t b
    show (b.sub z t).sg + 1 ≤ b.sg + 1 + b.lv * t.sg
    omega
  | to a b => by
    have h1 := sg_sub2 z t a
    have h2 := sg_sub2 z t b
    show (a.sub z t).sg + (b.sub z t).sg + 1 ≤ a.sg + b.sg + 1 + (a.lv + b.lv) * t.sg
    rw [Nat.add_mul]
    omega
def d : Bt → PyData
  | bd n => .tuple [.str "bound", .int (n : Int)]
  | fr z => .tuple [.str "free", .str z]
  | of b => .tuple [.str "of", b.d]
  | to a b => .tuple [.str "to", a.d, b.d]
theorem d_depth : ∀ b : Bt, b.d.depth = b.ly
  | bd _ => rfl
  | fr _ => rfl
  | of b => by
    have h := d_depth b
    show max 0 (max b.d.depth 0) + 1 = b.ly + 1
    rw [h]
    omega
  | to a b => by
    have h1 := d_depth a
    have h2 := d_depth b
    show max 0 (max a.d.depth (max b.d.depth 0)) + 1 = max a.ly b.ly + 1
    rw [h1, h2]
    omega
theorem ok_lay {z : Str} (h : okN z = true) : PyData.canLay0 (.str z) = true := by
  have e := nms_lay (l := [z]) fun y hy => by rw [List.mem_singleton.mp hy]; exact h
  have c := SeqAt.canLay_of_shaped e
  have c2 : (PyData.canLay0 (.str z) && PyData.canLayAll0 []) = true := c
  exact (Bool.and_eq_true_iff.mp c2).1
theorem d_lay : ∀ {b : Bt}, b.all okN = true → b.d.canLay0 = true
  | bd _, _ => by
    show (PyData.canLay0 (.str "bound") && (PyData.canLay0 (.int _) && PyData.canLayAll0 [])) = true
    rw [show PyData.canLay0 (.str "bound") = true by decide +kernel]
    rfl
  | fr z, h => by
    show (PyData.canLay0 (.str "free") && (PyData.canLay0 (.str z) && PyData.canLayAll0 [])) = true
    rw [show PyData.canLay0 (.str "free") = true by decide +kernel, ok_lay h]
    rfl
  | of b, h => by
    show (PyData.canLay0 (.str "of") && (b.d.canLay0 && PyData.canLayAll0 [])) = true
    rw [show PyData.canLay0 (.str "of") = true by decide +kernel, d_lay (b := b) h]
    rfl
  | to a b, h => by
    show (PyData.canLay0 (.str "to") && (a.d.canLay0 && (b.d.canLay0 && PyData.canLayAll0 []))) = true
    rw [show PyData.canLay0 (.str "to") = true by decide +kernel, d_lay (Bool.and_eq_true_iff.mp h).1, d_lay (Bool.and_eq_true_iff.mp h).2]
    rfl
theorem d_shaped {b : Bt} (h : b.all okN = true) (l : b.ly ≤ 64) : SeqAt.shaped b.d = true := by
  unfold SeqAt.shaped
  rw [d_lay h, d_depth b, decide_eq_true l]
  rfl
theorem tag_ne {p q : Str} (n : (p == q) = false) (xs ys : List PyData) : PyData.eqv (.tuple (.str p :: xs)) (.tuple (.str q :: ys)) = false := by
  show ((p == q) && PyData.eqvAll xs ys) = false
  rw [n]
  rfl
theorem d_eqv : ∀ a b : Bt, PyData.eqv a.d b.d = decide (a = b)
  | bd n, bd m => by
    show (("bound" : Str) == "bound" && (((n : Int) == (m : Int)) && true)) = _
    rw [Bool.eq_iff_iff]
    simp
    omega
  | fr z, fr y => by
    show (("free" : Str) == "free" && ((z == y) && true)) = _
    rw [Bool.eq_iff_iff]
    simp
  | of a, of b => by
    show (("of" : Str) == "of" && (PyData.eqv a.d b.d && true)) = _
    rw [d_eqv a b, Bool.eq_iff_iff]
    simp
  | to a b, to c e => by
    show (("to" : Str) == "to" && (PyData.eqv a.d c.d && (PyData.eqv b.d e.d && true))) = _
    rw [d_eqv a c, d_eqv b e, Bool.eq_iff_iff]
    simp
  | bd n, fr z' => (tag_ne (by decide +kernel) _ _).trans (decide_eq_false (fun z => by cases z)).symm
  | bd n, of b' => (tag_ne (by decide +kernel) _ _).trans (decide_eq_false (fun z => by cases z)).symm
  | bd n, to b' c' => (tag_ne (by decide +kernel) _ _).trans (decide_eq_false (fun z => by cases z)).symm
  | fr z, bd n' => (tag_ne (by decide +kernel) _ _).trans (decide_eq_false (fun z => by cases z)).symm
  | fr z, of b' => (tag_ne (by decide +kernel) _ _).trans (decide_eq_false (fun z => by cases z)).symm
  | fr z, to b' c' => (tag_ne (by decide +kernel) _ _).trans (decide_eq_false (fun z => by cases z)).symm
  | of b, bd n' => (tag_ne (by decide +kernel) _ _).trans (decide_eq_false (fun z => by cases z)).symm
  | of b, fr z' => (tag_ne (by decide +kernel) _ _).trans (decide_eq_false (fun z => by cases z)).symm
  | of b, to b' c' => (tag_ne (by decide +kernel) _ _).trans (decide_eq_false (fun z => by cases z)).symm
  | to b c, bd n' => (tag_ne (by decide +kernel) _ _).trans (decide_eq_false (fun z => by cases z)).symm
  | to b c, fr z' => (tag_ne (by decide +kernel) _ _).trans (decide_eq_false (fun z => by cases z)).symm
  | to b c, of b' => (tag_ne (by decide +kernel) _ _).trans (decide_eq_false (fun z => by cases z)).symm
end Bt
theorem Wr.cnt_sg : ∀ (w : Wr) (ar : List Str), (w.cnt ar).sg = w.sg
  | .nm z, ar => by
    show (if z ∈ ar then Bt.bd (ar.idxOf z) else .fr z).sg = 1
    split <;> rfl
  | .of x b, ar => congrArg (· + 1) (Wr.cnt_sg b (x :: ar))
  | .to a b, ar => by
    show (a.cnt ar).sg + (b.cnt ar).sg + 1 = a.sg + b.sg + 1
    rw [Wr.cnt_sg a, Wr.cnt_sg b]
/-- a counted one stands at v -/
inductive TA (H : Hp) : V → Bt → Prop where
  | bd {a : Addr} {n : Nat} : H a = some (.tup [.str "bound", .int (n : Int)]) → TA H (.ref a) (.bd n)
  | fr {a : Addr} {z : Str} : H a = some (.tup [.str "free", .str z]) → TA H (.ref a) (.fr z)
  | of {a : Addr} {v : V} {b : Bt} : H a = some (.tup [.str "of", v]) → TA H v b → TA H (.ref a) (.of b)
  | to {a : Addr} {u v : V} {b c : Bt} : H a = some (.tup [.str "to", u, v]) → TA H u b → TA H v c → TA H (.ref a) (.to b c)
theorem TA.mono {H H' : Hp} {v : V} {b : Bt} (h : TA H v b) (k : ∀ a xs, H a = some (.tup xs) → H' a = some (.tup xs)) : TA H' v b := by
  induction h with
  | bd e => exact .bd (k _ _ e)
  | fr e => exact .fr (k _ _ e)
  | of e _ ih => exact .of (k _ _ e) ih
  | to e _ _ i1 i2 => exact .to (k _ _ e) i1 i2
theorem TA.same {H H' : Hp} {v : V} {b : Bt} (h : TA H v b) (s : Same H H') : TA H' v b := h.mono fun a xs e => s _ _ e
theorem TA.dp {K : PySem.W.Frag} {H : Hp} {v : V} {b : Bt} (h : TA H v b) : Dp K H v b.d := by
  induction h with
  | bd e => exact .tup (SqT.of e) (.cons (.str _) (.cons (.int _) .nil))
  | fr e => exact .tup (SqT.of e) (.cons (.str _) (.cons (.str _) .nil))
  | of e _ ih => exact .tup (SqT.of e) (.cons (.str _) (.cons ih .nil))
  | to e _ _ i1 i2 => exact .tup (SqT.of e) (.cons (.str _) (.cons i1 (.cons i2 .nil)))
/-- what put promises: a writing in tuples that is, counted outwards, what must be -/
def spPut (K : PySem.W.Frag) : Sp := fun vs H Q _ => ∃ (v u : V) (x : Str) (d e : PyData) (w a : Wr), vs = [v, .str x, u] ∧ Dp K H v d ∧ Tells d w ∧ w.all okN = true ∧ w.sg ≤ 2000 ∧ w.ly ≤ 200 ∧ okN x = true ∧ Dp K H u e ∧ Tells e a ∧ a.all okN = true ∧ a.sg ≤ 2000 ∧ a.ly ≤ 200 ∧
  ((w.cnt []).sub x (a.cnt [])).sg ≤ 2000 ∧ ((w.cnt []).sub x (a.cnt [])).ly ≤ 200 ∧
  ∀ (v' : V) (w' : Wr) (H' : Hp), Same H H' → WA H' v' w' → w'.all okN = true → w'.cnt [] = (w.cnt []).sub x (a.cnt []) → Q v' H'
/-- what alike promises -/
def spAlike (K : PySem.W.Frag) : Sp := fun vs H Q _ => ∃ (v u : V) (d e : PyData) (w a : Wr), vs = [v, u] ∧ Dp K H v d ∧ Tells d w ∧ w.all okN = true ∧ w.sg ≤ 2000 ∧ w.ly ≤ 200 ∧ Dp K H u e ∧ Tells e a ∧ a.all okN = true ∧ a.sg ≤ 2000 ∧ a.ly ≤ 200 ∧
  ∀ (H' : Hp), Same H H' → Q (.bl (w.alk a)) H'
end TG
/-! small words for lists of names, tuples, slices -/
namespace TG
open PySem PySem.Spec L2
open PyProof.Rows hiding St
theorem new_same {H : Hp} {q : Addr} {o : HO} (h : H q = none) : Same H (L2.upd H q o) := fun b u hb => by rw [upd_ne (ne_of_none hb h)]; exact hb
theorem take_more {α : Type} {xs : List α} {i : Nat} {x : α} (h : xs[i]? = some x) : xs.take (i + 1) = xs.take i ++ [x] := by
  rw [List.take_add_one, h]
  rfl
theorem last_snoc (l : List V) (x : V) : (l ++ [x])[(l ++ [x]).length - 1]? = some x := by simp
theorem inV_strs (z : Str) (l : List Str) : inV (.str z) (l.map V.str) = decide (z ∈ l) := by
  unfold inV
  rw [Bool.eq_iff_iff, List.any_eq_true, decide_eq_true_eq]
  constructor
  · rintro ⟨y, hy, e⟩
    obtain ⟨x, hx, rfl⟩ := List.mem_map.mp hy
    have h : x = z := by simpa [eqV] using e
    exact h ▸ hx
  · exact fun h => ⟨.str z, List.mem_map.mpr ⟨z, h, rfl⟩, by simp [eqV]⟩
theorem flat_strs (l : List Str) : (l.map V.str).all flatV = true := List.all_eq_true.mpr fun y hy => by
  obtain ⟨x, _, rfl⟩ := List.mem_map.mp hy
  rfl
theorem sqT_same {K : PySem.W.Frag} {H H' : Hp} {a : Addr} {xs : List V} (h : SqT K H a xs) (s : Same H H') : SqT K H' a xs := by
  rcases h with h | h
  · rcases h with h | ⟨o, h⟩
    · exact .inl (.inl (s _ _ h))
    · exact .inl (.inr ⟨o, s _ _ h⟩)
  · exact .inr h
theorem cat_any {K : PySem.W.Frag} {H : Hp} {a b : Addr} {xs ys : List V} {Q : VK} (ha : SqT K H a xs) (hb : SqT K H b ys) (hl : xs.length + ys.length ≤ sizeLine) (q : ∀ (c : Addr) (G : Hp), Same H G → SqT K G c (xs ++ ys) → Q (.ref c) G) : rCatA K (.ref a) (.ref b) H Q := by
  refine ⟨a, b, xs, ys, rfl, rfl, ha, hb, hl, fun e => ?_, fun _ e => ?_, fun _ _ p hp => q p _ (new_same hp) (SqT.of upd_same)⟩
  · subst e
    exact q b H (fun _ _ e => e) hb
  · subst e
    exact q a H (fun _ _ e => e) (by rw [List.append_nil]; exact ha)
theorem mem_all {l : List Str} {p : Str → Bool} (h : l.all p = true) : ∀ z ∈ l, p z = true := fun z hz => List.all_eq_true.mp h z hz
theorem erase_map (f : Str → V) : ∀ (l : List Str) (k : Nat), (l.map f).eraseIdx k = (l.eraseIdx k).map f
  | [], _ => rfl
  | _ :: _, 0 => rfl
  | x :: r, k + 1 => by
    show f x :: (r.map f).eraseIdx k = f x :: (r.eraseIdx k).map f
    rw [erase_map f r k]
theorem cut_from (l : List V) (k : Nat) (h : k ≤ l.length) : cutV l (some (k : Int)) none = l.drop k := by
  unfold cutV
  rw [HT.sIx_none, HT.sIx_nat, Nat.min_eq_left h, List.take_of_length_le]
  rw [List.length_drop]
  exact Nat.le_refl _
theorem cut_to (l : List V) (k : Nat) (h : k ≤ l.length) : cutV l none (some (k : Int)) = l.take k := by
  unfold cutV
  rw [HT.sIx_none, HT.sIx_nat, Nat.min_eq_left h, List.drop_zero, Nat.sub_zero]
theorem perm_erase : ∀ {ls : List Str} {k : Nat} {y : Str}, ls[k]? = some y → (y :: ls.eraseIdx k).Perm ls
  | x :: r, 0, y, h => by cases h; exact .refl _
  | x :: r, k + 1, y, h => (List.Perm.swap x y _).trans (.cons x (perm_erase (k := k) (ls := r) h))
theorem perm_move {os ls : List Str} {k : Nat} {y : Str} (h : ls[k]? = some y) : (os ++ [y] ++ ls.eraseIdx k).Perm (os ++ ls) := by
  rw [List.append_assoc]
  exact (perm_erase h).append_left os
theorem all_imp {p q : Str → Bool} (h : ∀ z, p z = true → q z = true) : ∀ {w : Wr}, w.all p = true → w.all q = true
  | .nm z, e => h z e
  | .of x b, e => Bool.and_eq_true_iff.mpr ⟨h x (Bool.and_eq_true_iff.mp e).1, all_imp h (Bool.and_eq_true_iff.mp e).2⟩
  | .to a b, e => Bool.and_eq_true_iff.mpr ⟨all_imp h (Bool.and_eq_true_iff.mp e).1, all_imp h (Bool.and_eq_true_iff.mp e).2⟩
theorem paired_get {α β : Type} {R : α → β → Prop} : ∀ {xs : List α} {ys : List β} {i : Nat} {x : α}, Paired R xs ys → xs[i]? = some x → ∃ y, ys[i]? = some y ∧ R x y
  | _, _, 0, _, .cons r _, e => by cases e; exact ⟨_, rfl, r⟩
  | _, _, i + 1, x, .cons _ t, e => paired_get (i := i) t e
theorem paired_snoc {α β : Type} {R : α → β → Prop} {x : α} {y : β} (r : R x y) : ∀ {xs : List α} {ys : List β}, Paired R xs ys → Paired R (xs ++ [x]) (ys ++ [y])
  | _, _, .nil => .cons r .nil
  | _, _, .cons a t => .cons a (paired_snoc r t)
theorem paired_imp {α β : Type} {R S : α → β → Prop} (h : ∀ x y, R x y → S x y) : ∀ {xs : List α} {ys : List β}, Paired R xs ys → Paired S xs ys
  | _, _, .nil => .nil
  | _, _, .cons a t => .cons (h _ _ a) (paired_imp h t)
theorem paired_len {α β : Type} {R : α → β → Prop} : ∀ {xs : List α} {ys : List β}, Paired R xs ys → xs.length = ys.length
  | _, _, .nil => rfl
  | _, _, .cons _ t => congrArg (· + 1) (paired_len t)
theorem paired_and {α β : Type} {R S T : α → β → Prop} (h : ∀ x y, R x y → S x y → T x y) : ∀ {xs : List α} {ys : List β}, Paired R xs ys → Paired S xs ys → Paired T xs ys
  | _, _, .nil, .nil => .nil
  | _, _, .cons a t, .cons b u => .cons (h _ _ a b) (paired_and h t u)
theorem filt_more {p : Str → Bool} {xs : List Str} {i : Nat} {x : Str} (h : xs[i]? = some x) : (xs.take (i + 1)).filter p = (xs.take i).filter p ++ if p x = true then [x] else [] := by
  rw [take_more h, List.filter_append]
  congr 1
  by_cases e : p x = true
  · rw [if_pos e, List.filter_cons_of_pos e]
    rfl
  · rw [if_neg e, List.filter_cons_of_neg e]
    rfl
end TG
/-! own rules: an attribute among the targets of a tuple, a written dict's get, tuple(dict) -/
namespace TG
open PySem PySem.Spec L2
open PyProof.Rows hiding St
/-- .. , o.f, .. = value -/
def gFld (K : PySem.W.Frag) (to : TE) (f : Str) : TG := fun v σ H Q => to σ H fun x H1 => ∃ a C dx fs, x = .ref a ∧ H1 a = some (.ins C dx fs) ∧ Cls K C ∧ NoAttr K C f ∧ fs.length < 1000 ∧ Q σ (upd H1 a (.ins C dx (putF f v fs)))
section
variable {X : Cx} {o : Expr} {to : TE} {f : Str} {pos : Pos}
theorem pg_fld (ho : PE X o to) (ha : ∀ v, assign (.Attribute o f pos) X.env v = (do
      let ov ← holding [v] (eval o X.env)
      standAt pos.atName
      holding [v, ov] (setAttr ov f v)
      release [v, ov] []) := by intro _; rfl) : PG X (.Attribute o f pos) (gFld X.K to f) := by
  refine ⟨fun pins s σ H v u Q I r h => ?_⟩
  rw [ha]
  refine wpAny_bind (wpAny_holding (thn (ho.run pins s σ H _ I h) fun ov s1 ⟨x, H1, I1, r1, a, C, dx, fs, ex, ea, c, n, l, q⟩ => ?_))
  subst ex
  obtain rfl : ov = Value.ref a := r1
  refine wpAny_bind (wpAny_standAt (wpAny_bind (wpAny_holding ?_)))
  exact setattr_ok I1 ea c n l r fun s3 I3 => wpAny_release ⟨σ, _, I3, q⟩
end
/-! ### d.get(k, x) of a dict of the module's top, its keys texts -/
/-- such a dict stands there -/
def KDic (K : PySem.W.Frag) (w : World) (a : Addr) : Prop := ∃ es n, K.lookup a = some ⟨.type "dict", none, .dict es n, #[]⟩ ∧ PySem.W.KeysLit w.params es.toList ∧ (a == sysModules) = false
def tKGet (K : PySem.W.Frag) (w : World) (td ty tx : TE) : TE := fun σ H Q => td σ H fun x H1 => ∃ a, x = .ref a ∧ KDic K w a ∧ ty σ H1 fun y H2 => tx σ H2 fun z H3 => ∃ k, y = .str k ∧
  ((∃ v u, PySem.W.nsIn K a k = some (some u) ∧ RelV v u ∧ Q v H3) ∨ (PySem.W.nsIn K a k = some none ∧ Q z H3))
section
variable {X : Cx} {o e f : Expr} {apos cpos : Pos} {td ty tx : TE}
theorem pe_kget (ho : PE X o td) (he : PE X e ty) (hf : PE X f tx) (m : M2 X o "get" apos e f cpos) : PE X (.Call (.Attribute o "get" apos) [e, f] [] cpos) (tKGet X.K X.w td ty tx) := by
  refine ⟨fun pins s σ H Q I h => ?_⟩
  refine wpAny_Call_method m.base m.few m.line PySem.F.plainAttrs_dict PySem.F.slot_dict_get PySem.F.type_dict_get (thn (ho.run pins s σ H _ I h) fun u s1 ⟨x, H1, I1, rx, a, ex, ⟨es, n, hl, hk, hs⟩, q1⟩ => ?_)
  subst ex
  obtain rfl : u = Value.ref a := rx
  have hm1 := PySem.W.mapOf_K (prog := X.prog) (w := X.w) I1.kIn hl hk
  refine ⟨hm1.typeIs, fun b q => ?_, ?_⟩
  · cases q
    exact ⟨_, I1.kIn _ _ hl, rfl⟩
  rw [m.trees]
  refine Calls.callWith_builtin rfl (Calls.evalArgs_plain (Calls.spliced_cons (thn (he.run pins s1 σ H1 _ I1 q1) fun iv s2 ⟨y, H2, I2, ry, q2⟩ =>
    Calls.spliced_cons (thn (hf.run pins s2 σ H2 _ I2 q2) fun fv s3 ⟨z, H3, I3, rz, k, ey, q3⟩ => Calls.spliced_nil ?_))))
  subst ey
  obtain ⟨t, rfl⟩ := (show ∃ t, iv = Value.str k t from ry)
  have hm := PySem.W.mapOf_K (prog := X.prog) (w := X.w) I3.kIn hl hk
  refine call_meetsIn PySem.F.slot_dict_get hm.typeIs PySem.F.entry_dict_get (PySem.F.args_dict_get_3 _ _ _) (meets_dict_get_default (strKind X.prog X.w) a (strKind_is X.prog X.w k t) hs fv) ⟨_, hm, ?_⟩
  rcases q3 with ⟨v, u, e, r, q⟩ | ⟨e, q⟩
  · rw [PySem.W.find_K hl e]
    exact ⟨v, H3, I3.tok _, r, q⟩
  · rw [PySem.W.find_K hl e]
    exact ⟨z, H3, I3.tok _, rz, q⟩
end
/-! ### tuple(d), the keys of a dict -/
section
variable {prog : Program} {w : World} {A : Around} {E : Value → Shared → Prop} {s : Shared} {T : String} {r d : Addr} {n : Nat} {P : Nat → Value → Prop} {OK : Heap → Prop}
theorem collect_src {Q : List Value → Shared → Prop} (K : PySem.W.KdlSrc prog w T r d n P OK) (hh : A.handled = none) (hok : OK s.heap)
    (hQ : ∀ h' tk (acc : Array Value), (∀ b o, s.heap.get? b = some o → Heap.get? h' b = some o) → ItemsOf P acc n → Q acc.toList { s with heap := h', toks := tk }) (hn : n ≤ sizeLine) :
    wpAny (model prog w) A (collect (.ref r)) Q E s := by
  unfold collect
  refine wpAny_bind (wpAny_runValue (codeAny_builtin PySem.F.entry_proto_collect ?_))
  rw [Around.under_plainId PySem.F.plain_proto_collect _]
  show wpAny _ A.in1 (newList [] >>= fun l => again (.builtin "list.__iadd__" ⟨[l, .ref r], []⟩)) _ _ s
  refine wpAny_bind (wpAny_newObj_type ?_)
  refine wpAny_pure ⟨plainId_quiet PySem.F.plain_list_iadd _, codeAny_builtin PySem.F.entry_list_iadd ?_⟩
  rw [Around.under_plainId PySem.F.plain_list_iadd _]
  show wpAny _ A.in1 (Builtin.List.listExtendWith (.ref s.heap.objs.size) (.ref r) (.ref s.heap.objs.size)) _ _ _
  have hlt := K.there _ hok
  have hS : (s.heap.push { cls := .type "list", data := .seq ([] : List Value).toArray }).get? s.heap.objs.size = some { cls := .type "list", data := .seq #[] 0 } := Heap.get?_push_size _ rfl
  refine wpAny_mono (PySem.W.kdl_extend (R := fun res s' => res = .ok (.ret (.ref s.heap.objs.size)) ∧ ∃ h' tk acc c', s' = { s with heap := h', toks := tk } ∧ (∀ b o, s.heap.get? b = some o → h'.get? b = some o) ∧ h'.get? s.heap.objs.size = some { cls := .type "list", dict := none, data := .seq acc c', slots := #[] } ∧ ItemsOf P acc n)
    (s := { s with heap := s.heap.push { cls := .type "list", data := .seq ([] : List Value).toArray } }) K hh (K.keep _ _ hok fun b _ o e => Heap.get?_push_of_some _ e) s.heap.objs.size (Nat.ne_of_gt hlt.1) (Nat.ne_of_gt hlt.2) _ 0 hS
    (fun h' tk acc' c' hk hS' hacc => ⟨rfl, h', tk, acc', c', rfl, fun b o e => hk b o (Nat.ne_of_lt (Heap.lt_size e)) (Heap.get?_push_of_some _ e), hS', hacc⟩) hn) (fun fin s' h => ?_) (fun e s' h => ?_)
  · have fin' : ∀ s' : Shared, (∃ h' tk acc c', s' = { s with heap := h', toks := tk } ∧ (∀ b o, s.heap.get? b = some o → h'.get? b = some o) ∧ h'.get? s.heap.objs.size = some { cls := .type "list", dict := none, data := .seq acc c', slots := #[] } ∧ ItemsOf P acc n) →
        wpAny (model prog w) A (match Value.ref s.heap.objs.size with
          | Value.ref a => do
            match (← load a).data with
              | Data.seq xs _ => pure xs.toList
              | _ => unsupported "internal:collect"
          | _ => unsupported "internal:collect") Q E s' := by
      rintro s' ⟨h', tk, acc, c', rfl, hk, hg, hi⟩
      show wpAny _ A (load s.heap.objs.size >>= _) _ _ _
      refine wpAny_bind (wpAny_load hg ?_)
      exact wpAny_pure (hQ h' tk acc hk hi)
    cases fin with
    | done f =>
      obtain ⟨e, h⟩ := h
      cases e
      exact fin' _ h
    | again c' => exact ⟨h.1, codeAny_mono h.2 fun r s'' hr => by obtain ⟨rfl, h⟩ := hr; exact fin' _ h⟩
  · exact absurd h.1 (by simp)
theorem code_tuple_src {Q₁ : Value → Shared → Prop} (K : PySem.W.KdlSrc prog w T r d n P OK) (hne : (Value.type T == Value.type "tuple") = false) (hh : A.handled = none) (hok : OK s.heap)
    (h : ∀ h' tk (acc : Array Value), (∀ b o, s.heap.get? b = some o → Heap.get? h' b = some o) → ItemsOf P acc n → Q₁ (.ref h'.objs.size) { s with heap := h'.push { cls := .type "tuple", data := .seq acc }, toks := tk }) (hsz : n ≤ sizeLine) :
    codeAny (model prog w) A (.call (.builtin "tuple.__new__") ⟨[.type "tuple", .ref r], []⟩) (wants Q₁ E) s := by
  refine codeAny_of_tree ?_
  show wpAny _ A.in1 (do checkBuiltinCall "tuple.__new__" ⟨[.type "tuple", .ref r], []⟩; again (.builtin "tuple.__new__" ⟨[.type "tuple", .ref r], []⟩)) _ _ s
  refine wpAny_bind (wpAny_of_eq (PySem.F.newCall_tuple_1 _) (wpAny_pure ⟨plainId_quiet PySem.F.plain_tuple_new _, codeAny_builtin PySem.F.entry_tuple_new ?_⟩))
  rw [Around.under_plainId PySem.F.plain_tuple_new _]
  have hsub := sub_tuple_self
  have hinit := init_tuple_lookup
  have hmh := madeHere_tuple
  have hTI := K.type s hok
  wp_walk using wpAny_typeOf hTI, collect_src (A := A.in1) (hn := hsz) K hh hok
  intro h' tk acc hk hacc
  show wpAny _ _ (Builtin.Tuple.tupleExact acc.toList.toArray >>= fun v => ret v) _ _ _
  unfold Builtin.Tuple.tupleExact
  refine wpAny_bind (wpAny_newObj_type ?_ (by show acc.toList.toArray.size ≤ sizeLine; simp only [Array.toArray_toList]; rw [hacc.1]; exact hsz))
  refine wpAny_pure ?_
  have e : acc.toList.toArray = acc := by simp
  rw [e]
  exact h h' tk acc hk hacc
theorem call_tuple_src {Q : Value → Shared → Prop} (K : PySem.W.KdlSrc prog w T r d n P OK) (hne : (Value.type T == Value.type "tuple") = false) (hh : A.handled = none) (hok : OK s.heap)
    (hQ : ∀ h' tk (acc : Array Value), (∀ b o, s.heap.get? b = some o → Heap.get? h' b = some o) → ItemsOf P acc n → Q (.ref h'.objs.size) { s with heap := h'.push { cls := .type "tuple", data := .seq acc }, toks := tk }) (hsz : n ≤ sizeLine) :
    wpAny (model prog w) A (call (.type "tuple") [.ref r]) Q E s := by
  refine callType_codes (Q₁ := fun obj s₁ => s₁.TypeIs obj "tuple" ∧ Q obj s₁) PySem.F.called_tuple (PySem.F.typeCall_tuple_1 _) PySem.F.entry_object_init
    (code_tuple_src (A := A.in1) K hne hh hok (fun h' tk acc hk hacc => ⟨⟨_, Heap.get?_push_size _ rfl, rfl⟩, hQ h' tk acc hk hacc⟩) hsz) fun obj s₁ h₁ => ?_
  exact ⟨h₁.1, PySem.F.args_object_init_2 obj _, object_init_meets PySem.F.called_tuple.init.lookup PySem.F.called_tuple.made (by decide) prog w A.in1 _ s₁ ⟨h₁.1, rfl, h₁.2⟩⟩
end
/-- the keys of a dict, in a new tuple -/
def rTupD : List V → Hp → VK → Prop := fun xs H Q => ∃ (d : Addr) (kvs : List (Key × V)), xs = [.ref d] ∧ Rd H d (.dK kvs) ∧ ∀ p, H p = none → Q (.ref p) (L2.upd H p (.tup (kvs.map fun kv => kV kv.1)))
section
variable {X : Cx}
theorem rel_kV {P : Program} {w : World} {k : Key} {v : Value} (h : (mixKind P w).is k v = true) : RelV (kV k) v := by
  rcases keyIs_shape (show keyIs k v = true from h) with ⟨i, t, rfl, rfl⟩ | ⟨x, t, rfl, rfl⟩
  · exact ⟨t, rfl⟩
  · exact ⟨t, rfl⟩
theorem vals_of : ∀ {xs : List V} {us : List Value}, xs.length = us.length → (∀ (i : Nat) (x : V) (u : Value), xs[i]? = some x → us[i]? = some u → RelV x u) → Vals xs us
  | [], [], _, _ => .nil
  | x :: xs, u :: us, hl, h => .cons (h 0 x u rfl rfl) (vals_of (Nat.succ.inj hl) fun i y v hy hv => h (i + 1) y v hy hv)
  | [], _ :: _, hl, _ => nomatch hl
  | _ :: _, [], hl, _ => nomatch hl
theorem kv_key : ∀ {kvs : List (Key × V)} {vs : List (Key × Value)} {i : Nat} {k : Key} {x : V}, KV kvs vs → kvs[i]? = some (k, x) → ∃ y, vs[i]? = some (k, y)
  | _, _, _, _, _, .nil, e => nomatch e
  | _, _, 0, _, _, .cons (b := b) h _, e => by cases e; obtain ⟨b1, b2⟩ := b; cases h.1; exact ⟨b2, rfl⟩
  | _, _, i + 1, k, x, .cons _ t, e => kv_key (i := i) (k := k) (x := x) t e
theorem call_tupleD (hc : X.calm = true) : CallR X (.type "tuple") rTupD := by
  intro pins s σ H xs us Q I r h
  obtain ⟨d, kvs, rfl, hd, q⟩ := h
  obtain ⟨u, rfl, rx⟩ := vals1 r
  cases rx
  obtain ⟨z, lo, vs, rel, o, es, ep, d1, d2, d3, d4, d5, d6⟩ := dk_rd I.hok hd
  have hl := rel.length
  refine call_tuple_src (n := vs.length) (PySem.W.kdl_dict (kvs := vs) (ep := ep) lo) (by decide +kernel) (I.ok.hd hc) ⟨o, es, d1, d2, d3, d4, d5, d6⟩ (fun h' tk acc hk hacc => ?_) (by omega)
  have rv : Vals (kvs.map fun kv => kV kv.1) acc.toList := by
    refine vals_of ((List.length_map _).trans (hl.trans hacc.1.symm)) fun i x u hx hu => ?_
    rw [List.getElem?_map] at hx
    obtain ⟨kv, hkv, rfl⟩ := Option.map_eq_some_iff.mp hx
    obtain ⟨y, hy⟩ := kv_key (i := i) (k := kv.1) (x := kv.2) rel hkv
    obtain ⟨k, x2, e1, e2⟩ := hacc.2 i u (by rw [← Array.getElem?_toList]; exact hu)
    rw [hy] at e1
    cases e1
    exact rel_kV e2
  have I1 : Inv X pins σ H { s with heap := h', toks := tk } := I.kept (t' := tk) hk
  have I2 : Inv X pins σ (L2.upd H h'.objs.size (.tup (kvs.map fun kv => kV kv.1))) { s with heap := h'.push { cls := .type "tuple", data := .seq acc }, toks := tk } :=
    I1.laid (t' := tk) (fun b o e => Heap.get?_push_of_some _ e) (Nat.le_refl _) (show ObjOk X.prog X.w _ _ _ (.tup _) from ⟨by rw [List.length_map]; exact z, acc.toList, rv, by rw [Array.toArray_toList]; exact IsTup.new _ _⟩)
  exact ⟨.ref h'.objs.size, _, I2, rfl, q _ (I1.hok.fresh (Nat.le_refl _))⟩
end
end TG
/-! the row of a writing's signs: what begins at each, what is bound around it, what it hangs on -/
namespace TG
open PySem PySem.Spec L2
open PyProof.Rows hiding St
namespace Wr
/-- what begins at each sign -/
def subs : Wr → List Wr
  | nm z => [nm z]
  | of x b => of x b :: b.subs
  | to a b => to a b :: (a.subs ++ b.subs)
/-- where its own parts begin, counted from it -/
def kids : Wr → List Nat
  | nm _ => []
  | of _ _ => [1]
  | to a _ => [1, 1 + a.sg]
def wd : Wr → Str
  | nm _ => "name"
  | of _ _ => "of"
  | to _ _ => "to"
theorem subs_len : ∀ w : Wr, w.subs.length = w.sg
  | nm _ => rfl
  | of _ b => by show b.subs.length + 1 = _; rw [subs_len b]; rfl
  | to a b => by show (a.subs ++ b.subs).length + 1 = _; rw [List.length_append, subs_len a, subs_len b]; rfl
theorem subs_zero : ∀ w : Wr, w.subs[0]? = some w
  | nm _ => rfl
  | of _ _ => rfl
  | to _ _ => rfl
theorem subs_at : ∀ {w s : Wr} {i : Nat}, w.subs[i]? = some s → ∀ j, j < s.sg → w.subs[i + j]? = s.subs[j]?
  | w, s, 0, h, j, _ => by
    rw [subs_zero] at h
    cases h
    rw [Nat.zero_add]
  | nm _, s, i + 1, h, j, _ => nomatch h
  | of x b, s, i + 1, h, j, hj => by
    have h : b.subs[i]? = some s := h
    rw [show i + 1 + j = (i + j) + 1 by omega]
    show b.subs[i + j]? = _
    exact subs_at h j hj
  | to a b, s, i + 1, h, j, hj => by
    have h : (a.subs ++ b.subs)[i]? = some s := h
    rw [show i + 1 + j = (i + j) + 1 by omega]
    show (a.subs ++ b.subs)[i + j]? = _
    by_cases c : i < a.subs.length
    · rw [List.getElem?_append_left c] at h
      have e := subs_at h j hj
      have hs : j < s.subs.length := by rw [subs_len]; exact hj
      have c2 : i + j < a.subs.length := by
        rw [List.getElem?_eq_getElem hs] at e
        exact (List.getElem?_eq_some_iff.mp e).1
      rw [List.getElem?_append_left c2, e]
    · rw [List.getElem?_append_right (by omega)] at h
      rw [List.getElem?_append_right (by omega), show i + j - a.subs.length = (i - a.subs.length) + j by omega]
      exact subs_at h j hj
theorem subs_lt {w s : Wr} {i : Nat} (h : w.subs[i]? = some s) : i < w.sg := by
  rw [← subs_len]
  exact (List.getElem?_eq_some_iff.mp h).1
theorem subs_fit {w s : Wr} {i : Nat} (h : w.subs[i]? = some s) : i + s.sg ≤ w.sg := by
  have p := s.sg_pos
  have e := subs_at h (s.sg - 1) (by omega)
  have hs : s.sg - 1 < s.subs.length := by rw [subs_len]; omega
  have := subs_lt (e.trans (List.getElem?_eq_getElem hs))
  omega
theorem kid_of {w b : Wr} {x : Str} {i : Nat} (h : w.subs[i]? = some (of x b)) : w.subs[i + 1]? = some b := by
  have p := b.sg_pos
  rw [subs_at h 1 (by show 1 < b.sg + 1; omega)]
  show b.subs[0]? = _
  exact subs_zero b
theorem kid_one {w a b : Wr} {i : Nat} (h : w.subs[i]? = some (to a b)) : w.subs[i + 1]? = some a := by
  have p := a.sg_pos
  rw [subs_at h 1 (by show 1 < a.sg + b.sg + 1; omega)]
  show (a.subs ++ b.subs)[0]? = _
  rw [List.getElem?_append_left (by rw [subs_len]; omega)]
  exact subs_zero a
theorem kid_two {w a b : Wr} {i : Nat} (h : w.subs[i]? = some (to a b)) : w.subs[i + 1 + a.sg]? = some b := by
  have p := b.sg_pos
  rw [show i + 1 + a.sg = i + (a.sg + 1) by omega, subs_at h (a.sg + 1) (by show a.sg + 1 < a.sg + b.sg + 1; omega)]
  show (a.subs ++ b.subs)[a.sg]? = _
  rw [List.getElem?_append_right (by rw [subs_len]; omega), subs_len, Nat.sub_self]
  exact subs_zero b
/-- each sign but the first begins a part of one ahead -/
theorem has_par : ∀ {w : Wr} {i : Nat}, 0 < i → i < w.sg → ∃ j s k, j < i ∧ w.subs[j]? = some s ∧ k ∈ s.kids ∧ i = j + k
  | nm _, i, h0, h1 => by
    have : i < 1 := h1
    omega
  | of x b, i, h0, h1 => by
    have h1 : i < b.sg + 1 := h1
    by_cases c : i = 1
    · exact ⟨0, of x b, 1, h0, rfl, List.mem_singleton_self 1, by omega⟩
    · obtain ⟨j, s, k, hj, hs, hk, e⟩ := has_par (w := b) (i := i - 1) (by omega) (by omega)
      exact ⟨j + 1, s, k, by omega, hs, hk, by omega⟩
  | to a b, i, h0, h1 => by
    have h1 : i < a.sg + b.sg + 1 := h1
    by_cases c : i = 1
    · exact ⟨0, to a b, 1, h0, rfl, List.mem_cons_self, by omega⟩
    by_cases c2 : i = 1 + a.sg
    · exact ⟨0, to a b, 1 + a.sg, h0, rfl, List.mem_cons_of_mem _ (List.mem_singleton_self _), by omega⟩
    by_cases c3 : i < 1 + a.sg
    · obtain ⟨j, s, k, hj, hs, hk, e⟩ := has_par (w := a) (i := i - 1) (by omega) (by omega)
      refine ⟨j + 1, s, k, by omega, ?_, hk, by omega⟩
      show (a.subs ++ b.subs)[j]? = _
      rw [List.getElem?_append_left (by rw [subs_len]; exact subs_lt hs)]
      exact hs
    · obtain ⟨j, s, k, hj, hs, hk, e⟩ := has_par (w := b) (i := i - 1 - a.sg) (by omega) (by omega)
      refine ⟨j + a.sg + 1, s, k, by omega, ?_, hk, by omega⟩
      show (a.subs ++ b.subs)[j + a.sg]? = _
      rw [List.getElem?_append_right (by rw [subs_len]; omega), subs_len, Nat.add_sub_cancel]
      exact hs
/-- the "of"s around each sign, the innermost first: their names and where they stand -/
def envs : Wr → Nat → List (Str × Nat) → List (List (Str × Nat))
  | nm _, _, e => [e]
  | of x b, o, e => e :: b.envs (o + 1) ((x, o) :: e)
  | to a b, o, e => e :: (a.envs (o + 1) e ++ b.envs (o + 1 + a.sg) e)
theorem envs_len : ∀ (w : Wr) (o : Nat) (e : List (Str × Nat)), (w.envs o e).length = w.sg
  | nm _, _, _ => rfl
  | of x b, o, e => by show (b.envs _ _).length + 1 = _; rw [envs_len b]; rfl
  | to a b, o, e => by show (a.envs _ _ ++ b.envs _ _).length + 1 = _; rw [List.length_append, envs_len a, envs_len b]; rfl
theorem envs_zero : ∀ (w : Wr) (o : Nat) (e : List (Str × Nat)), (w.envs o e)[0]? = some e
  | nm _, _, _ => rfl
  | of _ _, _, _ => rfl
  | to _ _, _, _ => rfl
theorem envs_at : ∀ {w s : Wr} {i o : Nat} {e0 : List (Str × Nat)}, w.subs[i]? = some s → ∃ e, ∀ j, j < s.sg → (w.envs o e0)[i + j]? = (s.envs (o + i) e)[j]?
  | w, s, 0, o, e0, h => by
    rw [subs_zero] at h
    cases h
    exact ⟨e0, fun j _ => by rw [Nat.zero_add, Nat.add_zero]⟩
  | nm _, s, i + 1, o, e0, h => nomatch h
  | of x b, s, i + 1, o, e0, h => by
    obtain ⟨e, he⟩ := envs_at (w := b) (o := o + 1) (e0 := (x, o) :: e0) (show b.subs[i]? = some s from h)
    refine ⟨e, fun j hj => ?_⟩
    rw [show i + 1 + j = (i + j) + 1 by omega, show o + (i + 1) = o + 1 + i by omega]
    exact he j hj
  | to a b, s, i + 1, o, e0, h => by
    have h : (a.subs ++ b.subs)[i]? = some s := h
    by_cases c : i < a.subs.length
    · rw [List.getElem?_append_left c] at h
      obtain ⟨e, he⟩ := envs_at (w := a) (o := o + 1) (e0 := e0) h
      refine ⟨e, fun j hj => ?_⟩
      rw [show i + 1 + j = (i + j) + 1 by omega, show o + (i + 1) = o + 1 + i by omega]
      show (a.envs (o + 1) e0 ++ _)[i + j]? = _
      have f := subs_fit h
      rw [List.getElem?_append_left (by rw [envs_len]; omega)]
      exact he j hj
    · rw [List.getElem?_append_right (by omega), subs_len] at h
      rw [subs_len] at c
      obtain ⟨e, he⟩ := envs_at (w := b) (o := o + 1 + a.sg) (e0 := e0) h
      refine ⟨e, fun j hj => ?_⟩
      rw [show i + 1 + j = (i + j) + 1 by omega, show o + (i + 1) = o + 1 + a.sg + (i - a.sg) by omega]
      show (a.envs (o + 1) e0 ++ b.envs (o + 1 + a.sg) e0)[i + j]? = _
      rw [List.getElem?_append_right (by rw [envs_len]; omega), envs_len, show i + j - a.sg = (i - a.sg) + j by omega]
      exact he j hj
/-- the "of"s around the sign at i -/
def env (w : Wr) (i : Nat) : List (Str × Nat) := ((w.envs 0 [])[i]?).getD []
theorem env_eq {w : Wr} {i : Nat} (h : i < w.sg) : (w.envs 0 [])[i]? = some (w.env i) := by
  unfold env
  rw [List.getElem?_eq_getElem (by rw [envs_len]; exact h)]
  rfl
theorem env_zero (w : Wr) : w.env 0 = [] := by
  unfold env
  rw [envs_zero]
  rfl
theorem env_of {w b : Wr} {x : Str} {i : Nat} (h : w.subs[i]? = some (of x b)) : w.env (i + 1) = (x, i) :: w.env i := by
  obtain ⟨e, he⟩ := envs_at (o := 0) (e0 := []) h
  have h0 := he 0 (Nat.succ_pos _)
  have h1 := he 1 (by have := b.sg_pos; show 1 < b.sg + 1; omega)
  rw [Nat.add_zero, Nat.zero_add] at h0
  rw [Nat.zero_add] at h1
  unfold env
  rw [h0, h1]
  show (((b.envs (i + 1) ((x, i) :: e))[0]?).getD []) = _
  rw [envs_zero, envs_zero]
  rfl
theorem env_one {w a b : Wr} {i : Nat} (h : w.subs[i]? = some (to a b)) : w.env (i + 1) = w.env i := by
  obtain ⟨e, he⟩ := envs_at (o := 0) (e0 := []) h
  have h0 := he 0 (Nat.succ_pos _)
  have h1 := he 1 (by have := a.sg_pos; show 1 < a.sg + b.sg + 1; omega)
  rw [Nat.add_zero, Nat.zero_add] at h0
  rw [Nat.zero_add] at h1
  unfold env
  rw [h0, h1]
  show (((a.envs (i + 1) e ++ _)[0]?).getD []) = _
  rw [List.getElem?_append_left (by rw [envs_len]; exact a.sg_pos), envs_zero, envs_zero]
theorem env_two {w a b : Wr} {i : Nat} (h : w.subs[i]? = some (to a b)) : w.env (i + 1 + a.sg) = w.env i := by
  obtain ⟨e, he⟩ := envs_at (o := 0) (e0 := []) h
  have h0 := he 0 (Nat.succ_pos _)
  have h1 := he (a.sg + 1) (by have := b.sg_pos; show a.sg + 1 < a.sg + b.sg + 1; omega)
  rw [Nat.add_zero, Nat.zero_add] at h0
  rw [Nat.zero_add] at h1
  unfold env
  rw [show i + 1 + a.sg = i + (a.sg + 1) by omega, h0, h1]
  show (((a.envs (i + 1) e ++ b.envs (i + 1 + a.sg) e)[a.sg]?).getD []) = _
  rw [List.getElem?_append_right (by rw [envs_len]; exact Nat.le_refl _), envs_len, Nat.sub_self, envs_zero, envs_zero]
/-- each of those around is an "of" of this name, and around it are those behind it -/
def Chain (w : Wr) : List (Str × Nat) → Prop
  | [] => True
  | (x, j) :: e => (∃ b, w.subs[j]? = some (of x b)) ∧ w.env j = e ∧ Chain w e
theorem chain_env (w : Wr) : ∀ {i : Nat}, i < w.sg → Chain w (w.env i) := by
  intro i
  induction i using Nat.strongRecOn with
  | _ i ih =>
    intro hi
    by_cases h0 : i = 0
    · subst h0
      rw [env_zero]
      exact trivial
    obtain ⟨j, s, k, hj, hs, hk, rfl⟩ := has_par (w := w) (i := i) (by omega) hi
    have c := ih j hj (subs_lt hs)
    cases s with
    | nm z => exact absurd hk List.not_mem_nil
    | of x b =>
      rw [List.mem_singleton.mp hk, env_of hs]
      exact ⟨⟨b, hs⟩, rfl, c⟩
    | to a b =>
      rcases List.mem_cons.mp hk with rfl | hk
      · rw [env_one hs]; exact c
      · rw [List.mem_singleton.mp hk, ← Nat.add_assoc, env_two hs]; exact c
theorem env_lt (w : Wr) : ∀ {i : Nat}, i < w.sg → ∀ p ∈ w.env i, p.2 < i := by
  intro i
  induction i using Nat.strongRecOn with
  | _ i ih =>
    intro hi p hp
    by_cases h0 : i = 0
    · subst h0
      rw [env_zero] at hp
      exact absurd hp List.not_mem_nil
    obtain ⟨j, s, k, hj, hs, hk, rfl⟩ := has_par (w := w) (i := i) (by omega) hi
    have c := ih j hj (subs_lt hs)
    cases s with
    | nm z => exact absurd hk List.not_mem_nil
    | of x b =>
      rw [List.mem_singleton.mp hk, env_of hs] at hp
      rw [List.mem_singleton.mp hk]
      rcases List.mem_cons.mp hp with rfl | hp
      · exact Nat.lt_succ_self _
      · exact Nat.lt_succ_of_lt (c p hp)
    | to a b =>
      rcases List.mem_cons.mp hk with rfl | hk
      · rw [env_one hs] at hp; exact Nat.lt_succ_of_lt (c p hp)
      · rw [List.mem_singleton.mp hk, ← Nat.add_assoc, env_two hs] at hp; exact Nat.lt_of_lt_of_le (c p hp) (Nat.le_add_right _ _)
/-- which "of" binds this name -/
def find (z : Str) : List (Str × Nat) → Option Nat
  | [] => none
  | (x, j) :: e => if x = z then some j else find z e
/-- the "of" that binds what stands at i -/
def bnd (w : Wr) (i : Nat) : Option Nat := match w.subs[i]? with
  | some (nm z) => find z (w.env i)
  | _ => none
theorem find_none {z : Str} : ∀ {e : List (Str × Nat)}, find z e = none ↔ z ∉ e.map (·.1)
  | [] => by simp [find]
  | (x, j) :: e => by
    show (if x = z then some j else find z e) = none ↔ _
    by_cases c : x = z
    · rw [if_pos c]
      simp [c]
    · rw [if_neg c, find_none]
      simp [Ne.symm c, eq_comm]
/-- how far out it is -/
theorem find_depth {w : Wr} {z : Str} : ∀ {e : List (Str × Nat)} {j : Nat}, Chain w e → find z e = some j → (w.env j).length + (e.map (·.1)).idxOf z + 1 = e.length ∧ j < w.sg
  | [], j, _, h => nomatch h
  | (x, k) :: e, j, c, h => by
    have h : (if x = z then some k else find z e) = some j := h
    obtain ⟨⟨b, hb⟩, he, c'⟩ := c
    by_cases q : x = z
    · rw [if_pos q] at h
      cases h
      subst q
      rw [he]
      refine ⟨?_, subs_lt hb⟩
      show e.length + (x :: e.map (·.1)).idxOf x + 1 = e.length + 1
      rw [List.idxOf_cons_self]
    · rw [if_neg q] at h
      obtain ⟨d, hj⟩ := find_depth c' h
      refine ⟨?_, hj⟩
      show (w.env j).length + (x :: e.map (·.1)).idxOf z + 1 = e.length + 1
      rw [List.idxOf_cons, show (x == z) = false by simpa using q, cond_false]
      omega
/-- all its free names where they stand, these being bound around -/
def frL : Wr → List Str → List Str
  | nm z, ar => if z ∈ ar then [] else [z]
  | of x b, ar => b.frL (x :: ar)
  | to a b, ar => a.frL ar ++ b.frL ar
def ins (f : List Str) (z : Str) : List Str := if z ∈ f then f else f ++ [z]
theorem frL_mem : ∀ (w : Wr) {ar br : List Str}, (∀ z, z ∈ ar ↔ z ∈ br) → w.frL ar = w.frL br
  | nm z, ar, br, h => by
    show (if z ∈ ar then [] else [z]) = if z ∈ br then [] else [z]
    by_cases c : z ∈ ar
    · rw [if_pos c, if_pos ((h z).mp c)]
    · rw [if_neg c, if_neg fun k => c ((h z).mpr k)]
  | of x b, ar, br, h => frL_mem b fun z => by simp only [List.mem_cons, h z]
  | to a b, ar, br, h => by
    show a.frL ar ++ b.frL ar = a.frL br ++ b.frL br
    rw [frL_mem a h, frL_mem b h]
theorem fold_frL : ∀ (w : Wr) (ar f : List Str), (w.frL ar).foldl ins f = w.go ar f
  | nm z, ar, f => by
    show (if z ∈ ar then [] else [z]).foldl ins f = if z ∈ ar ++ f then f else f ++ [z]
    by_cases c : z ∈ ar
    · rw [if_pos c, if_pos (List.mem_append_left _ c)]
      rfl
    · rw [if_neg c]
      show ins f z = _
      unfold ins
      by_cases d : z ∈ f
      · rw [if_pos d, if_pos (List.mem_append_right _ d)]
      · rw [if_neg d, if_neg fun h => (List.mem_append.mp h).elim c d]
  | of x b, ar, f => by
    show (b.frL (x :: ar)).foldl ins f = b.go (ar ++ [x]) f
    rw [← fold_frL b, frL_mem b (br := ar ++ [x]) fun z => by simp [or_comm]]
  | to a b, ar, f => by
    show (a.frL ar ++ b.frL ar).foldl ins f = b.go ar (a.go ar f)
    rw [List.foldl_append, fold_frL a, fold_frL b]
/-- a sign with what is around: the name, if it stands there free -/
def freeAt : Wr × List (Str × Nat) → Option Str
  | (nm z, e) => if find z e = none then some z else none
  | _ => none
theorem free_zip : ∀ (w : Wr) (o : Nat) (e : List (Str × Nat)), (w.subs.zip (w.envs o e)).filterMap freeAt = w.frL (e.map (·.1))
  | nm z, o, e => by
    show ([(nm z, e)] : List _).filterMap freeAt = if z ∈ e.map (·.1) then [] else [z]
    by_cases c : z ∈ e.map (·.1)
    · rw [if_pos c]
      have : find z e ≠ none := fun h => (find_none.mp h) c
      simp [freeAt, this]
    · rw [if_neg c]
      have : find z e = none := find_none.mpr c
      simp [freeAt, this]
  | of x b, o, e => by
    show ((of x b, e) :: b.subs.zip (b.envs (o + 1) ((x, o) :: e))).filterMap freeAt = b.frL (x :: e.map (·.1))
    rw [List.filterMap_cons_none rfl, free_zip b]
    rfl
  | to a b, o, e => by
    show ((to a b, e) :: (a.subs ++ b.subs).zip (a.envs (o + 1) e ++ b.envs (o + 1 + a.sg) e)).filterMap freeAt = a.frL (e.map (·.1)) ++ b.frL (e.map (·.1))
    rw [List.filterMap_cons_none rfl, List.zip_append (by rw [subs_len, envs_len]), List.filterMap_append, free_zip a, free_zip b]
/-- the places of the free names -/
def frIx (w : Wr) : List Nat := (List.range w.sg).filter fun i => match w.subs[i]? with
  | some (nm z) => decide (find z (w.env i) = none)
  | _ => false
def nmAt (w : Wr) (i : Nat) : Str := match w.subs[i]? with
  | some (nm z) => z
  | some (of x _) => x
  | _ => ""
theorem frIx_names (w : Wr) : (w.frIx).map w.nmAt = w.frL [] := by
  have e := free_zip w 0 []
  rw [← show w.frL ([] : List (Str × Nat)).unzip.1 = w.frL [] from rfl]
  show _ = w.frL (([] : List (Str × Nat)).map (·.1))
  rw [← e]
  have key : ∀ k, k ≤ w.sg → (((List.range k).filter fun i => match w.subs[i]? with
      | some (nm z) => decide (find z (w.env i) = none)
      | _ => false).map w.nmAt) = ((w.subs.zip (w.envs 0 [])).take k).filterMap freeAt := by
    intro k
    induction k with
    | zero => intro _; rfl
    | succ k ih =>
      intro hk
      rw [List.range_succ, List.filter_append, List.map_append, ih (by omega), List.take_add_one, List.filterMap_append]
      congr 1
      have hs : w.subs[k]? = some (w.subs[k]'(by rw [subs_len]; omega)) := List.getElem?_eq_getElem _
      have he := env_eq (w := w) (i := k) (by omega)
      have hz : (w.subs.zip (w.envs 0 []))[k]? = some (w.subs[k]'(by rw [subs_len]; omega), w.env k) := by
        rw [List.getElem?_zip_eq_some]
        exact ⟨hs, he⟩
      rw [hz]
      generalize w.subs[k]'(by rw [subs_len]; omega) = s at hs
      show (([k] : List Nat).filter _).map _ = ([(s, w.env k)] : List _).filterMap freeAt
      cases s with
      | nm z =>
        by_cases c : find z (w.env k) = none
        · rw [List.filter_cons_of_pos (by simp [hs, c])]
          simp [nmAt, hs, freeAt, c]
        · rw [List.filter_cons_of_neg (by simp [hs, c])]
          simp [freeAt, c]
      | of x b =>
        rw [List.filter_cons_of_neg (by simp [hs])]
        rfl
      | to a b =>
        rw [List.filter_cons_of_neg (by simp [hs])]
        rfl
  have h := key w.sg (Nat.le_refl _)
  rw [List.take_of_length_le (by rw [List.length_zip, subs_len, envs_len]; omega)] at h
  exact h
/-- the names of the free ones, each once, as they are met -/
theorem frIx_fold (w : Wr) : (w.frIx.map w.nmAt).foldl ins [] = w.fr := by
  rw [frIx_names, fold_frL, go_nil]
end Wr
end TG
/-! codes of counted writings; what is put in, sign by sign -/
namespace TG
open PySem PySem.Spec L2
open PyProof.Rows hiding St
/-- a code: a text, or how far out the "of" is -/
abbrev Cd := Sum Str Nat
theorem not_of : okN ("of" : Str) = false := by decide +kernel
theorem not_to : okN ("to" : Str) = false := by decide +kernel
namespace Bt
def cd : Bt → List Cd
  | bd n => [.inr n]
  | fr z => [.inl z]
  | of b => .inl "of" :: b.cd
  | to a b => .inl "to" :: (a.cd ++ b.cd)
theorem cd_cut : ∀ {b c : Bt} {r t : List Cd}, b.all okN = true → c.all okN = true → b.cd ++ r = c.cd ++ t → b = c ∧ r = t
  | bd n, bd m, r, t, _, _, h => by cases h; exact ⟨rfl, rfl⟩
  | fr z, fr y, r, t, _, _, h => by cases h; exact ⟨rfl, rfl⟩
  | of b, of c, r, t, hb, hc, h => by
    injection h with _ h
    obtain ⟨e1, e2⟩ := cd_cut (b := b) (c := c) hb hc h
    exact ⟨congrArg of e1, e2⟩
  | to a b, to c d, r, t, hb, hc, h => by
    injection h with _ h
    have h : (a.cd ++ b.cd) ++ r = (c.cd ++ d.cd) ++ t := h
    rw [List.append_assoc, List.append_assoc] at h
    obtain ⟨e1, h⟩ := cd_cut (b := a) (c := c) (Bool.and_eq_true_iff.mp hb).1 (Bool.and_eq_true_iff.mp hc).1 h
    obtain ⟨e2, h⟩ := cd_cut (b := b) (c := d) (Bool.and_eq_true_iff.mp hb).2 (Bool.and_eq_true_iff.mp hc).2 h
    exact ⟨by rw [e1, e2], h⟩
  | bd n, fr z, _, _, _, _, h => by cases h
  | bd n, of _, _, _, _, _, h => by cases h
  | bd n, to _ _, _, _, _, _, h => by cases h
  | fr z, bd _, _, _, _, _, h => by cases h
  | of _, bd _, _, _, _, _, h => by cases h
  | to _ _, bd _, _, _, _, _, h => by cases h
  | fr z, of _, _, _, hb, _, h => by
    injection h with h _
    injection h with h
    subst h
    exact absurd (not_of.symm.trans hb) Bool.false_ne_true
  | fr z, to _ _, _, _, hb, _, h => by
    injection h with h _
    injection h with h
    subst h
    exact absurd (not_to.symm.trans hb) Bool.false_ne_true
  | of _, fr z, _, _, _, hb, h => by
    injection h with h _
    injection h with h
    subst h
    exact absurd (not_of.symm.trans hb) Bool.false_ne_true
  | to _ _, fr z, _, _, _, hb, h => by
    injection h with h _
    injection h with h
    subst h
    exact absurd (not_to.symm.trans hb) Bool.false_ne_true
  | of _, to _ _, _, _, _, _, h => by
    injection h with h _
    injection h with h
    exact absurd h (by decide +kernel)
  | to _ _, of _, _, _, _, _, h => by
    injection h with h _
    injection h with h
    exact absurd h (by decide +kernel)
theorem cd_inj {b c : Bt} (hb : b.all okN = true) (hc : c.all okN = true) (h : b.cd = c.cd) : b = c :=
  (cd_cut (r := []) (t := []) hb hc (by rw [List.append_nil, List.append_nil]; exact h)).1
end Bt
namespace Wr
/-- a sign's code, by what is around it -/
def codeAt : Wr × List (Str × Nat) → Cd
  | (nm z, e) => if z ∈ e.map (·.1) then .inr ((e.map (·.1)).idxOf z) else .inl z
  | (of _ _, _) => .inl "of"
  | (to _ _, _) => .inl "to"
theorem code_zip : ∀ (w : Wr) (o : Nat) (e : List (Str × Nat)), (w.subs.zip (w.envs o e)).map codeAt = (w.cnt (e.map (·.1))).cd
  | nm z, o, e => by
    show [codeAt (nm z, e)] = (if z ∈ e.map (·.1) then Bt.bd ((e.map (·.1)).idxOf z) else .fr z).cd
    unfold codeAt
    by_cases c : z ∈ e.map (·.1)
    · simp only [if_pos c]; rfl
    · simp only [if_neg c]; rfl
  | of x b, o, e => by
    show Sum.inl ("of" : Str) :: (b.subs.zip (b.envs (o + 1) ((x, o) :: e))).map codeAt = Sum.inl ("of" : Str) :: (b.cnt (x :: e.map (·.1))).cd
    rw [code_zip b]
    rfl
  | to a b, o, e => by
    show Sum.inl ("to" : Str) :: ((a.subs ++ b.subs).zip (a.envs (o + 1) e ++ b.envs (o + 1 + a.sg) e)).map codeAt = Sum.inl ("to" : Str) :: ((a.cnt (e.map (·.1))).cd ++ (b.cnt (e.map (·.1))).cd)
    rw [List.zip_append (by rw [subs_len, envs_len]), List.map_append, code_zip a, code_zip b]
theorem code_list (w : Wr) (xs : List Cd) (hl : xs.length = w.sg) (h : ∀ i s, w.subs[i]? = some s → xs[i]? = some (codeAt (s, w.env i))) : xs = (w.cnt []).cd := by
  have e := code_zip w 0 []
  show xs = (w.cnt (([] : List (Str × Nat)).map (·.1))).cd
  rw [← e]
  refine List.ext_getElem? fun i => ?_
  rw [List.getElem?_map]
  by_cases c : i < w.sg
  · have hs : w.subs[i]? = some (w.subs[i]'(by rw [subs_len]; exact c)) := List.getElem?_eq_getElem _
    rw [h i _ hs]
    have hz : (w.subs.zip (w.envs 0 []))[i]? = some (w.subs[i]'(by rw [subs_len]; exact c), w.env i) := by
      rw [List.getElem?_zip_eq_some]
      exact ⟨hs, env_eq c⟩
    rw [hz]
    rfl
  · rw [List.getElem?_eq_none (by omega), List.getElem?_eq_none (by rw [List.length_zip, subs_len, envs_len]; omega)]
    rfl
/-- the depths of a row, in its order -/
def deps : Wr → Nat → List Nat
  | nm _, d => [d]
  | of _ b, d => d :: b.deps (d + 1)
  | to a b, d => d :: (a.deps d ++ b.deps d)
theorem deps_envs : ∀ (w : Wr) (o : Nat) (e : List (Str × Nat)), (w.envs o e).map List.length = w.deps e.length
  | nm _, _, _ => rfl
  | of x b, o, e => by
    show e.length :: (b.envs (o + 1) ((x, o) :: e)).map List.length = e.length :: b.deps (e.length + 1)
    rw [deps_envs b]
    rfl
  | to a b, o, e => by
    show e.length :: (a.envs (o + 1) e ++ b.envs (o + 1 + a.sg) e).map List.length = e.length :: (a.deps e.length ++ b.deps e.length)
    rw [List.map_append, deps_envs a, deps_envs b]
theorem deps_at {w : Wr} {i : Nat} (h : i < w.sg) : (w.deps 0)[i]? = some (w.env i).length := by
  have e := deps_envs w 0 []
  rw [show w.deps 0 = w.deps ([] : List (Str × Nat)).length from rfl, ← e, List.getElem?_map, env_eq h]
  rfl
theorem deps_len (w : Wr) (d : Nat) : (w.deps d).length = w.sg := by
  induction w generalizing d with
  | nm _ => rfl
  | of _ b ih => show (b.deps _).length + 1 = _; rw [ih]; rfl
  | to a b i1 i2 => show (a.deps _ ++ b.deps _).length + 1 = _; rw [List.length_append, i1, i2]; rfl
/-! ### other names for some of the "of"s, and a writing in the place of a free name -/
def nu (ρ : Nat → Option Str) (j : Nat) (x : Str) : Str := (ρ j).getD x
def ren (ρ : Nat → Option Str) (nam : Str) (t : Wr) : Wr → Nat → List (Str × Nat) → Wr
  | nm z, _, e => match find z e with
    | none => if z = nam then t else nm z
    | some j => nm (nu ρ j z)
  | of x b, o, e => of (nu ρ o x) (ren ρ nam t b (o + 1) ((x, o) :: e))
  | to a b, o, e => to (ren ρ nam t a (o + 1) e) (ren ρ nam t b (o + 1 + a.sg) e)
/-- all names that stand in it, of "of"s too -/
def nms : Wr → List Str
  | nm z => [z]
  | of x b => x :: b.nms
  | to a b => a.nms ++ b.nms
theorem fr_nms : ∀ {w : Wr} {z : Str}, z ∈ w.fr → z ∈ w.nms
  | nm z, y, h => h
  | of x b, y, h => List.mem_cons_of_mem _ (fr_nms (List.mem_filter.mp h).1)
  | to a b, y, h => by
    rcases List.mem_append.mp h with h | h
    · exact List.mem_append_left _ (fr_nms h)
    · exact List.mem_append_right _ (fr_nms (List.mem_filter.mp h).1)
theorem cnt_closed : ∀ (w : Wr) (ar br : List Str), (∀ z ∈ w.fr, z ∉ br) → w.cnt (ar ++ br) = w.cnt ar
  | nm z, ar, br, h => by
    have hz := h z (List.mem_singleton_self z)
    show (if z ∈ ar ++ br then Bt.bd ((ar ++ br).idxOf z) else .fr z) = if z ∈ ar then Bt.bd (ar.idxOf z) else .fr z
    by_cases c : z ∈ ar
    · rw [if_pos c, if_pos (List.mem_append_left _ c), List.idxOf_append, if_pos c]
    · rw [if_neg c, if_neg fun k => (List.mem_append.mp k).elim c hz]
  | of x b, ar, br, h => by
    show Bt.of (b.cnt (x :: (ar ++ br))) = Bt.of (b.cnt (x :: ar))
    congr 1
    by_cases c : x ∈ br
    · -- a name of br that is x: x stands ahead of it anyway
      have key : ∀ (w : Wr) (pre ar br : List Str), (∀ z ∈ w.fr, z ∈ br → z ∈ pre) → w.cnt (pre ++ ar ++ br) = w.cnt (pre ++ ar) := by
        intro w
        induction w with
        | nm z =>
          intro pre ar br h
          have hz := h z (List.mem_singleton_self z)
          show (if z ∈ pre ++ ar ++ br then Bt.bd ((pre ++ ar ++ br).idxOf z) else .fr z) = if z ∈ pre ++ ar then Bt.bd ((pre ++ ar).idxOf z) else .fr z
          by_cases c : z ∈ pre ++ ar
          · rw [if_pos c, if_pos (List.mem_append_left _ c), List.idxOf_append, if_pos c]
          · rw [if_neg c, if_neg fun k => (List.mem_append.mp k).elim c fun q => c (List.mem_append_left _ (hz q))]
        | of y d ih =>
          intro pre ar br h
          show Bt.of (d.cnt (y :: (pre ++ ar ++ br))) = Bt.of (d.cnt (y :: (pre ++ ar)))
          congr 1
          refine ih (y :: pre) ar br fun z hz hb => ?_
          by_cases q : z = y
          · exact List.mem_cons.mpr (.inl q)
          · exact List.mem_cons_of_mem _ (h z (List.mem_filter.mpr ⟨hz, decide_eq_true q⟩) hb)
        | to a b i1 i2 =>
          intro pre ar br h
          show Bt.to _ _ = Bt.to _ _
          congr 1
          · exact i1 pre ar br fun z hz hb => h z (List.mem_append_left _ hz) hb
          · refine i2 pre ar br fun z hz hb => ?_
            by_cases q : z ∈ a.fr
            · exact h z (List.mem_append_left _ q) hb
            · exact h z (List.mem_append_right _ (List.mem_filter.mpr ⟨hz, decide_eq_true q⟩)) hb
      refine key b [x] ar br fun z hz hb => ?_
      by_cases q : z = x
      · exact List.mem_singleton.mpr q
      · exact absurd hb (h z (List.mem_filter.mpr ⟨hz, decide_eq_true q⟩))
    · refine cnt_closed b (x :: ar) br fun z hz hb => ?_
      by_cases q : z = x
      · exact c (q ▸ hb)
      · exact h z (List.mem_filter.mpr ⟨hz, decide_eq_true q⟩) hb
  | to a b, ar, br, h => by
    show Bt.to _ _ = Bt.to _ _
    rw [cnt_closed a ar br fun z hz => h z (List.mem_append_left _ hz), cnt_closed b ar br fun z hz => ?_]
    by_cases q : z ∈ a.fr
    · exact h z (List.mem_append_left _ q)
    · exact h z (List.mem_append_right _ (List.mem_filter.mpr ⟨hz, decide_eq_true q⟩))
/-- the names of those around, as they are told anew -/
def nue (ρ : Nat → Option Str) (e : List (Str × Nat)) : List Str := e.map fun p => nu ρ p.2 p.1
/-- ρ gives new names: unlike ones, that stand nowhere in these -/
structure New (ρ : Nat → Option Str) (ns : List Str) : Prop where
  out : ∀ j y, ρ j = some y → y ∉ ns
  inj : ∀ j k y, ρ j = some y → ρ k = some y → j = k
theorem find_mem {z : Str} : ∀ {e : List (Str × Nat)} {j : Nat}, find z e = some j → j ∈ e.map (·.2)
  | [], _, h => nomatch h
  | (x, k) :: e, j, h => by
    have h : (if x = z then some k else find z e) = some j := h
    by_cases c : x = z
    · rw [if_pos c] at h; cases h; exact List.mem_cons_self
    · rw [if_neg c] at h; exact List.mem_cons_of_mem _ (find_mem h)
theorem nue_find {ρ : Nat → Option Str} {ns : List Str} (N : New ρ ns) {z : Str} (hz : z ∈ ns) : ∀ {e : List (Str × Nat)}, (e.map (·.2)).Nodup → (∀ p ∈ e, p.1 ∈ ns) →
    (find z e = none → z ∉ nue ρ e) ∧ ∀ j, find z e = some j → nu ρ j z ∈ nue ρ e ∧ (nue ρ e).idxOf (nu ρ j z) = (e.map (·.1)).idxOf z
  | [], _, _ => ⟨fun _ => List.not_mem_nil, fun j h => nomatch h⟩
  | (x, k) :: e, hd, hn => by
    have hd2 := List.nodup_cons.mp (show (k :: e.map (·.2)).Nodup from hd)
    obtain ⟨i1, i2⟩ := nue_find N hz hd2.2 fun p hp => hn p (List.mem_cons_of_mem _ hp)
    have hx : x ∈ ns := hn _ List.mem_cons_self
    by_cases c : x = z
    · subst c
      have f : find x ((x, k) :: e) = some k := if_pos rfl
      refine ⟨fun h => absurd (f.symm.trans h) (fun q => nomatch q), fun j h => ?_⟩
      rw [f] at h
      cases h
      refine ⟨List.mem_cons_self, ?_⟩
      show (nu ρ k x :: nue ρ e).idxOf (nu ρ k x) = (x :: e.map (·.1)).idxOf x
      rw [List.idxOf_cons_self, List.idxOf_cons_self]
    · have f : find z ((x, k) :: e) = find z e := if_neg c
      have nz : nu ρ k x ≠ z := by
        unfold nu
        cases q : ρ k with
        | none => exact c
        | some y => exact fun h => N.out k y q ((show y = z from h) ▸ hz)
      refine ⟨fun h => ?_, fun j h => ?_⟩
      · rw [f] at h
        intro hm
        rcases List.mem_cons.mp hm with hm | hm
        · exact nz hm.symm
        · exact i1 h hm
      · rw [f] at h
        obtain ⟨m, d⟩ := i2 j h
        have ne : nu ρ k x ≠ nu ρ j z := by
          intro h2
          have hjk : j ≠ k := fun h3 => hd2.1 (h3 ▸ find_mem h)
          unfold nu at h2
          cases q : ρ k with
          | none =>
            rw [q] at h2
            cases q2 : ρ j with
            | none => rw [q2] at h2; exact c h2
            | some y => rw [q2] at h2; exact N.out j y q2 ((show x = y from h2) ▸ hx)
          | some y =>
            rw [q] at h2
            cases q2 : ρ j with
            | none => rw [q2] at h2; exact N.out k y q ((show y = z from h2) ▸ hz)
            | some y2 =>
              rw [q2] at h2
              have h2 : y = y2 := h2
              exact hjk (N.inj j k y2 q2 (h2 ▸ q))
        refine ⟨List.mem_cons_of_mem _ m, ?_⟩
        show (nu ρ k x :: nue ρ e).idxOf (nu ρ j z) = (x :: e.map (·.1)).idxOf z
        rw [List.idxOf_cons, List.idxOf_cons, show (nu ρ k x == nu ρ j z) = false by simpa using ne, show (x == z) = false by simpa using c, cond_false, cond_false, d]
/-- what is told so is, counted outwards, what is put in -/
theorem ren_cnt {ρ : Nat → Option Str} {ns : List Str} (N : New ρ ns) {nam : Str} {t : Wr} (hn : nam ∈ ns) : ∀ (w : Wr) (o : Nat) (e : List (Str × Nat)), (∀ z ∈ w.nms, z ∈ ns) → (e.map (·.2)).Nodup → (∀ p ∈ e, p.1 ∈ ns ∧ p.2 < o) →
    (∀ z, nam ∈ w.frL (e.map (·.1)) → z ∈ t.fr → z ∉ nue ρ e) →
    (∀ i x b l, w.subs[i]? = some (of x b) → (w.envs o e)[i]? = some l → nam ∈ b.frL (x :: l.map (·.1)) → nu ρ (o + i) x ∉ t.fr) →
    (ren ρ nam t w o e).cnt (nue ρ e) = (w.cnt (e.map (·.1))).sub nam (t.cnt [])
  | nm z, o, e, hw, hd, he, h1, h2 => by
    have hz := hw z (List.mem_singleton_self z)
    obtain ⟨k1, k2⟩ := nue_find N hz hd fun p hp => (he p hp).1
    show (match find z e with | none => if z = nam then t else nm z | some j => nm (nu ρ j z)).cnt (nue ρ e) = (if z ∈ e.map (·.1) then Bt.bd ((e.map (·.1)).idxOf z) else .fr z).sub nam (t.cnt [])
    cases q : find z e with
    | none =>
      have q2 := find_none.mp q
      rw [if_neg q2]
      show (if z = nam then t else nm z).cnt (nue ρ e) = if z = nam then t.cnt [] else .fr z
      by_cases c : z = nam
      · rw [if_pos c, if_pos c]
        have hm : nam ∈ (nm z).frL (e.map (·.1)) := by
          show nam ∈ if z ∈ e.map (·.1) then [] else [z]
          rw [if_neg q2, c]
          exact List.mem_singleton_self _
        exact cnt_closed t [] (nue ρ e) fun y hy => h1 y hm hy
      · rw [if_neg c, if_neg c]
        exact if_neg (k1 q)
    | some j =>
      obtain ⟨m, d⟩ := k2 j q
      have q2 : z ∈ e.map (·.1) := by
        by_cases c : z ∈ e.map (·.1)
        · exact c
        · rw [find_none.mpr c] at q; cases q
      rw [if_pos q2]
      show (if nu ρ j z ∈ nue ρ e then Bt.bd ((nue ρ e).idxOf (nu ρ j z)) else _) = Bt.bd _
      rw [if_pos m, d]
  | of x b, o, e, hw, hd, he, h1, h2 => by
    show Bt.of ((ren ρ nam t b (o + 1) ((x, o) :: e)).cnt (nue ρ ((x, o) :: e))) = Bt.of ((b.cnt (((x, o) :: e).map (·.1))).sub nam (t.cnt []))
    congr 1
    refine ren_cnt N hn b (o + 1) ((x, o) :: e) (fun z hz => hw z (List.mem_cons_of_mem _ hz)) ?_ ?_ ?_ ?_
    · refine List.nodup_cons.mpr ⟨fun hm => ?_, hd⟩
      obtain ⟨p, hp, ep⟩ := List.mem_map.mp hm
      have h3 := (he p hp).2
      have h4 : p.2 = o := ep
      omega
    · intro p hp
      rcases List.mem_cons.mp hp with rfl | hp
      · exact ⟨hw x List.mem_cons_self, Nat.lt_succ_self _⟩
      · exact ⟨(he p hp).1, Nat.lt_succ_of_lt (he p hp).2⟩
    · intro z hz ht hm
      have hz : nam ∈ b.frL (x :: e.map (·.1)) := hz
      rcases List.mem_cons.mp hm with hm | hm
      · have := h2 0 x b e rfl rfl hz
        rw [Nat.add_zero] at this
        exact this ((show z = nu ρ o x from hm) ▸ ht)
      · exact h1 z hz ht hm
    · intro i y c l hi hl hu
      rw [show o + 1 + i = o + (i + 1) by omega]
      exact h2 (i + 1) y c l hi hl hu
  | to a b, o, e, hw, hd, he, h1, h2 => by
    show Bt.to _ _ = Bt.to _ _
    congr 1
    · refine ren_cnt N hn a (o + 1) e (fun z hz => hw z (List.mem_append_left _ hz)) hd (fun p hp => ⟨(he p hp).1, Nat.lt_succ_of_lt (he p hp).2⟩) (fun z hz => h1 z (List.mem_append_left _ hz)) ?_
      intro i y c l hi hl hu
      rw [show o + 1 + i = o + (i + 1) by omega]
      have f := subs_lt hi
      refine h2 (i + 1) y c l ?_ ?_ hu
      · show (a.subs ++ b.subs)[i]? = _
        rw [List.getElem?_append_left (by rw [subs_len]; exact f)]
        exact hi
      · show (a.envs (o + 1) e ++ b.envs (o + 1 + a.sg) e)[i]? = _
        rw [List.getElem?_append_left (by rw [envs_len]; exact f)]
        exact hl
    · refine ren_cnt N hn b (o + 1 + a.sg) e (fun z hz => hw z (List.mem_append_right _ hz)) hd (fun p hp => ⟨(he p hp).1, by have := (he p hp).2; omega⟩) (fun z hz => h1 z (List.mem_append_right _ hz)) ?_
      intro i y c l hi hl hu
      rw [show o + 1 + a.sg + i = o + (a.sg + i + 1) by omega]
      refine h2 (a.sg + i + 1) y c l ?_ ?_ hu
      · show (a.subs ++ b.subs)[a.sg + i]? = _
        rw [List.getElem?_append_right (by rw [subs_len]; omega), subs_len, Nat.add_sub_cancel_left]
        exact hi
      · show (a.envs (o + 1) e ++ b.envs (o + 1 + a.sg) e)[a.sg + i]? = _
        rw [List.getElem?_append_right (by rw [envs_len]; omega), envs_len, Nat.add_sub_cancel_left]
        exact hl
end Wr
end TG
/-! the package's small defs: what they promise, wherever they stand -/
namespace TG
open PySem PySem.Spec L2
open PyProof.Rows hiding St
/-! ### values by their types -/
def tyN : List String := ["NoneType", "bool", "int", "str", "list", "tuple", "dict"]
def HasTy (K : PySem.W.Frag) (H : Hp) (v : V) (n : String) : Prop := TyX K H v (.type n) ∧ n ∈ tyN
theorem rd_lst {H H' : Hp} (s : Same H H') {a : Addr} {o : HO} (h : H a = some o) : H' a = some o := s _ _ h
theorem tyx_same {K : PySem.W.Frag} {H H' : Hp} {v : V} {t : Value} (h : TyX K H v t) (s : Same H H') : TyX K H' v t := by
  cases h with
  | base b =>
    cases b with
    | non => exact .base .non
    | bl x => exact .base (.bl x)
    | int i => exact .base (.int i)
    | str x => exact .base (.str x)
    | flt x => exact .base (.flt x)
    | lst e => exact .base (.lst (s _ _ e))
    | frz e => exact .base (.frz (s _ _ e))
    | tup e => exact .base (.tup (s _ _ e))
    | dK e => exact .base (.dK (s _ _ e))
    | dT e => exact .base (.dT (s _ _ e))
    | ins e cl ha hn htk hm => exact .base (.ins (s _ _ e) cl ha hn htk hm)
  | byt b => exact .byt b
  | set e => exact .set (s _ _ e)
  | kList e c => exact .kList e c
  | kTuple e c => exact .kTuple e c
  | kDict e c => exact .kDict e c
  | fTuple e => exact .fTuple (s _ _ e)
  | fDict e => exact .fDict (s _ _ e)
theorem HasTy.same {K : PySem.W.Frag} {H H' : Hp} {v : V} {n : String} (h : HasTy K H v n) (s : Same H H') : HasTy K H' v n := ⟨tyx_same h.1 s, h.2⟩
theorem HasTy.int {K : PySem.W.Frag} {H : Hp} (i : Int) : HasTy K H (.int i) "int" := ⟨.base (.int i), by decide⟩
theorem HasTy.str {K : PySem.W.Frag} {H : Hp} (z : Str) : HasTy K H (.str z) "str" := ⟨.base (.str z), by decide⟩
theorem HasTy.non {K : PySem.W.Frag} {H : Hp} : HasTy K H .non "NoneType" := ⟨.base .non, by decide⟩
theorem HasTy.bl {K : PySem.W.Frag} {H : Hp} (b : Bool) : HasTy K H (.bl b) "bool" := ⟨.base (.bl b), by decide⟩
theorem HasTy.lst {K : PySem.W.Frag} {H : Hp} {a : Addr} {xs : List V} (e : H a = some (.lst xs)) : HasTy K H (.ref a) "list" := ⟨.base (.lst e), by decide⟩
theorem HasTy.tup {K : PySem.W.Frag} {H : Hp} {a : Addr} {xs : List V} (e : H a = some (.tup xs)) : HasTy K H (.ref a) "tuple" := ⟨.base (.tup e), by decide⟩
theorem HasTy.dct {K : PySem.W.Frag} {H : Hp} {a : Addr} {kvs : List (Key × V)} (e : H a = some (.dK kvs)) : HasTy K H (.ref a) "dict" := ⟨.base (.dK e), by decide⟩
def intV : V → Bool
  | .int _ => true
  | _ => false
def strV : V → Bool
  | .str _ => true
  | _ => false
theorem HasTy.isInt {K : PySem.W.Frag} {H : Hp} {v : V} {n : String} (h : HasTy K H v n) : (n == "int") = intV v := by
  obtain ⟨h, _⟩ := h
  generalize e : Value.type n = t at h
  cases h with
  | base b => cases b <;> first | (cases e; rfl) | cases e
  | _ => first | (cases e; rfl) | cases e
theorem HasTy.isStr {K : PySem.W.Frag} {H : Hp} {v : V} {n : String} (h : HasTy K H v n) : (n == "str") = strV v := by
  obtain ⟨h, _⟩ := h
  generalize e : Value.type n = t at h
  cases h with
  | base b => cases b <;> first | (cases e; rfl) | cases e
  | _ => first | (cases e; rfl) | cases e
theorem kit_all {c : String} {g : String → Bool} (h : tyN.all (fun n => kitB n c == some (g n)) = true) {K : PySem.W.Frag} {n : String} (hn : n ∈ tyN) : PySem.W.kitOne K (.type n) (.type c) = some (g n) :=
  kit_ty (eq_of_beq (List.all_eq_true.mp h n hn))
theorem kit_int {K : PySem.W.Frag} {n : String} (hn : n ∈ tyN) : PySem.W.kitOne K (.type n) (.type "int") = some (n == "int" || n == "bool") := kit_all (g := fun n => n == "int" || n == "bool") (by decide +kernel) hn
theorem kit_bool {K : PySem.W.Frag} {n : String} (hn : n ∈ tyN) : PySem.W.kitOne K (.type n) (.type "bool") = some (n == "bool") := kit_all (g := fun n => n == "bool") (by decide +kernel) hn
theorem kit_str {K : PySem.W.Frag} {n : String} (hn : n ∈ tyN) : PySem.W.kitOne K (.type n) (.type "str") = some (n == "str") := kit_all (g := fun n => n == "str") (by decide +kernel) hn
theorem kit_list {K : PySem.W.Frag} {n : String} (hn : n ∈ tyN) : PySem.W.kitOne K (.type n) (.type "list") = some (n == "list") := kit_all (g := fun n => n == "list") (by decide +kernel) hn
theorem kit_tuple {K : PySem.W.Frag} {n : String} (hn : n ∈ tyN) : PySem.W.kitOne K (.type n) (.type "tuple") = some (n == "tuple") := kit_all (g := fun n => n == "tuple") (by decide +kernel) hn
def loB (i : Int) : V → Bool
  | .int a => decide (a ≤ i)
  | _ => true
def hiB (i : Int) : V → Bool
  | .int b => decide (i ≤ b)
  | _ => true
def withinV : V → V → V → Bool
  | .int i, lo, hi => loB i lo && hiB i hi
  | _, _, _ => false
def OptI (v : V) : Prop := v = .non ∨ ∃ i, v = .int i
def spIsInt (K : PySem.W.Frag) : Sp := fun vs H Q _ => ∃ (v : V) (n : String), vs = [v] ∧ HasTy K H v n ∧ Q (.bl (intV v)) H
def spWithin (K : PySem.W.Frag) : Sp := fun vs H Q _ => ∃ (v lo hi : V) (n : String), vs = [v, lo, hi] ∧ HasTy K H v n ∧ OptI lo ∧ OptI hi ∧ Q (.bl (withinV v lo hi)) H
theorem kit_lt {K : PySem.W.Frag} {n : String} (hn : n ∈ tyN) : PySem.W.kitAny K (.type n) [.type "list", .type "tuple"] = some (n == "list" || n == "tuple") := by
  by_cases e : n = "list"
  · subst e
    exact kitAny_cons (b := true) (kit_list hn) (fun z => nomatch z) (fun _ => rfl)
  · have h1 : (n == "list") = false := by simpa using e
    refine kitAny_cons (b := false) (by rw [kit_list hn, h1]) (fun _ => ?_) (fun z => nomatch z)
    rw [h1, Bool.false_or]
    by_cases e2 : n = "tuple"
    · subst e2
      exact kitAny_cons (b := true) (kit_tuple hn) (fun z => nomatch z) (fun _ => rfl)
    · have h2 : (n == "tuple") = false := by simpa using e2
      exact kitAny_cons (b := false) (by rw [kit_tuple hn, h2]) (fun _ => by rw [h2]; exact kitAny_nil) (fun z => nomatch z)
def numV (v : V) : Bool := withinV v (.int 0) .non
def spNums (K : PySem.W.Frag) : Sp := fun vs H Q _ => ∃ (v : V) (n : String), vs = [v] ∧ HasTy K H v n ∧
  ((n ≠ "list" ∧ n ≠ "tuple" ∧ ∀ H', Same H H' → Q (.bl false) H') ∨
   ∃ (a : Addr) (xs : List V), v = .ref a ∧ ((n = "list" ∧ H a = some (.lst xs)) ∨ (n = "tuple" ∧ H a = some (.tup xs))) ∧ (∀ x ∈ xs, ∃ m, HasTy K H x m) ∧ xs.length ≤ 1000 ∧ ∀ H', Same H H' → Q (.bl (xs.all numV)) H')
def letC (c : Nat) : Bool := decide (c ∈ ("abcdefghijklmnopqrstuvwxyz" : Str).cps.toList)
def digC (c : Nat) : Bool := decide (c ∈ ("0123456789" : Str).cps.toList)
def headC : List Nat → Bool
  | c :: _ => letC c
  | [] => false
def nameB (z : Str) : Bool := !inV (.str z) [.str "of", .str "to"] && (withinV (.int (z.length : Int)) (.int 1) (.int 12) && (headC z.cps.toList && z.cps.toList.all fun c => letC c || digC c))
def nameV : V → Bool
  | .str z => nameB z
  | _ => false
def spName (K : PySem.W.Frag) : Sp := fun vs H Q _ => ∃ (v : V) (n : String), vs = [v] ∧ HasTy K H v n ∧ (∀ z, v = .str z → z.length ≤ 1000) ∧ ∀ H', Same H H' → Q (.bl (nameV v)) H'

theorem letC_eq (c : Nat) : letC c = decide (97 ≤ c ∧ c ≤ 122) := by
  unfold letC
  rw [show ("abcdefghijklmnopqrstuvwxyz" : Str).cps.toList = List.range' 97 26 from by decide +kernel]
  refine decide_eq_decide.mpr ?_
  rw [List.mem_range'_1]
  omega
theorem digC_eq (c : Nat) : digC c = decide (48 ≤ c ∧ c ≤ 57) := by
  unfold digC
  rw [show ("0123456789" : Str).cps.toList = List.range' 48 10 from by decide +kernel]
  refine decide_eq_decide.mpr ?_
  rw [List.mem_range'_1]
  omega
theorem nameB_ok (z : Str) : nameB z = okN z := by
  have e1 : (!inV (.str z) [.str "of", .str "to"]) = (decide (z ≠ "of") && decide (z ≠ "to")) := by
    rw [show ([V.str "of", V.str "to"] : List V) = (["of", "to"] : List Str).map V.str from rfl, inV_strs]
    rw [Bool.eq_iff_iff]
    simp
  have e2 : withinV (.int (z.length : Int)) (.int 1) (.int 12) = (decide (1 ≤ z.length) && decide (z.length ≤ 12)) := by
    show (decide ((1 : Int) ≤ (z.length : Int)) && decide ((z.length : Int) ≤ 12)) = _
    rw [Bool.eq_iff_iff]
    simp only [Bool.and_eq_true, decide_eq_true_eq]
    omega
  have e3 : (headC z.cps.toList && z.cps.toList.all fun c => letC c || digC c) = (match z.cps.toList with
      | [] => false
      | c :: r => decide (97 ≤ c ∧ c ≤ 122) && r.all fun c => decide (97 ≤ c ∧ c ≤ 122) || decide (48 ≤ c ∧ c ≤ 57)) := by
    cases z.cps.toList with
    | nil => rfl
    | cons c r =>
      show (letC c && ((letC c || digC c) && r.all fun c => letC c || digC c)) = (decide (97 ≤ c ∧ c ≤ 122) && r.all fun c => decide (97 ≤ c ∧ c ≤ 122) || decide (48 ≤ c ∧ c ≤ 57))
      rw [show (fun c => letC c || digC c) = fun c => decide (97 ≤ c ∧ c ≤ 122) || decide (48 ≤ c ∧ c ≤ 57) from funext fun c => by rw [letC_eq, digC_eq], letC_eq]
      cases decide (97 ≤ c ∧ c ≤ 122) <;> simp
  unfold nameB okN
  rw [e1, e2, e3, Bool.and_assoc, Bool.and_assoc, Bool.and_assoc, Bool.and_assoc, Bool.and_assoc]
  all_goals rfl
theorem HasTy.sqL {K : PySem.W.Frag} {H : Hp} {a : Addr} {xs : List V} (h : SqL K H a xs) : HasTy K H (.ref a) "list" := by
  rcases h with (e | ⟨o, e⟩) | ⟨o, its, n, h1, h2, _⟩
  · exact .lst e
  · exact ⟨.base (.frz e), by decide⟩
  · exact ⟨.kList h1 h2, by decide⟩
theorem HasTy.sqT {K : PySem.W.Frag} {H : Hp} {a : Addr} {xs : List V} (h : SqT K H a xs) : HasTy K H (.ref a) "tuple" := by
  rcases h with (e | ⟨o, e⟩) | ⟨o, its, n, h1, h2, _⟩
  · exact .tup e
  · exact ⟨.fTuple e, by decide⟩
  · exact ⟨.kTuple h1 h2, by decide⟩
/-- a value that is data has a type -/
def tyD : PyData → String
  | .none => "NoneType"
  | .bool _ => "bool"
  | .int _ => "int"
  | .str _ => "str"
  | .list _ => "list"
  | .tuple _ => "tuple"
  | .dict _ => "dict"
theorem HasTy.dp {K : PySem.W.Frag} {H : Hp} {v : V} {d : PyData} (h : Dp K H v d) : HasTy K H v (tyD d) := by
  cases h with
  | non => exact .non
  | bl b => exact .bl b
  | int i => exact .int i
  | str z => exact .str z
  | lst h _ => exact .sqL h
  | tup h _ => exact .sqT h
theorem sqL_same {K : PySem.W.Frag} {H H' : Hp} {a : Addr} {xs : List V} (h : SqL K H a xs) (s : Same H H') : SqL K H' a xs := by
  rcases h with h | h
  · rcases h with h | ⟨o, h⟩
    · exact .inl (.inl (s _ _ h))
    · exact .inl (.inr ⟨o, s _ _ h⟩)
  · exact .inr h
mutual
theorem dp_same {K : PySem.W.Frag} {H H' : Hp} (s : Same H H') : ∀ {d : PyData} {v : V}, Dp K H v d → Dp K H' v d
  | _, _, .non => .non
  | _, _, .bl b => .bl b
  | _, _, .int i => .int i
  | _, _, .str z => .str z
  | _, _, .lst h t => .lst (sqL_same h s) (dpAll_same s t)
  | _, _, .tup h t => .tup (sqT_same h s) (dpAll_same s t)
theorem dpAll_same {K : PySem.W.Frag} {H H' : Hp} (s : Same H H') : ∀ {ds : List PyData} {vs : List V}, DpAll K H vs ds → DpAll K H' vs ds
  | _, _, .nil => .nil
  | _, _, .cons h t => .cons (dp_same s h) (dpAll_same s t)
end
/-- the constants of the checks, as the top leaves them -/
structure Cn (K : PySem.W.Frag) (mg : Str → Option Value) : Prop where
  lets : ∃ t, mg "LETTERS" = some (.str "abcdefghijklmnopqrstuvwxyz" t)
  digs : ∃ t, mg "DIGITS" = some (.str "0123456789" t)
  long : ∃ t, mg "LONGEST_NAME" = some (.int 12 t)
  nons : ∃ a, mg "NO_NAMES" = some (.ref a) ∧ ∀ H, SqT K H a [.str "of", .str "to"]
/-- the words of the layouts -/
structure Lw (mg : Str → Option Value) : Prop where
  of_ : ∃ t, mg "OF" = some (.str "of" t)
  to_ : ∃ t, mg "TO" = some (.str "to" t)
  nm_ : ∃ t, mg "NAME" = some (.str "name" t)
/-- how many parts stand behind a word -/
structure Pw (K : PySem.W.Frag) (w : World) (mg : Str → Option Value) : Prop where
  at_ : ∃ a, mg "PARTS" = some (.ref a) ∧ KDic K w a ∧ (∃ t, PySem.W.nsIn K a "of" = some (some (.int 1 t))) ∧ (∃ t, PySem.W.nsIn K a "to" = some (some (.int 2 t))) ∧ (∃ t, PySem.W.nsIn K a ">" = some (some (.int 2 t))) ∧ PySem.W.nsIn K a "name" = some none
/-- the class of the layouts, as the top leaves it -/
structure LayC (K : PySem.W.Frag) (mg : Str → Option Value) (C fI : Addr) : Prop where
  cl : Cls K C
  nS : NoAttr K C "signs"
  nE : NoAttr K C "ends"
  nB : NoAttr K C "below"
  nA : NoAttr K C "around"
  nI : NoAttr K C "binders"
  mgC : mg "Layout" = some (.ref C)
  mk_ : Mk K C fI
end TG
namespace TF18
open PySem PySem.Spec L2 TG TA
open PyProof.Rows hiding St
abbrev sInt : Stmt := top 5
abbrev sWithin : Stmt := top 6
abbrev sName : Stmt := top 7
theorem scInt : FnScope ["value"] ["value"] (defScope sInt) := ⟨rfl, rfl, rfl, by decide +kernel, rfl, by decide +kernel, by decide +kernel⟩
theorem scWithin : FnScope ["value", "least", "most"] ["value", "least", "most"] (defScope sWithin) := ⟨rfl, rfl, rfl, by decide +kernel, rfl, by decide +kernel, by decide +kernel⟩
theorem scName : FnScope ["value", "sign"] ["value"] (defScope sName) := ⟨rfl, rfl, rfl, by decide +kernel, rfl, by decide +kernel, by decide +kernel⟩
section
variable {P : Program} {w : World} {K : PySem.W.Frag} {mg : Str → Option Value} {base : Heap} {f f1 f2 f3 : Addr} {fd fd1 fd2 fd3 : FuncData}
theorem ok_isint (F : Fun K "is_integer" "is_integer" sInt f fd) (T : Bn mg) : FnOk P w K mg base CX0 1 f fd ["value"] (spIsInt K) := by
  refine F.ok scInt (fun vs H Q E h => ?_) (fun cdv A outer s H vs Q E hr h => ?_)
  · obtain ⟨v, n, rfl, _⟩ := h
    rfl
  obtain ⟨v, n, rfl, hv, q⟩ := h
  refine ⟨_, (pss_one (ps_ret (pe_and (pe_callB call_isi (by rfl) T.b_isinstance (by decide +kernel) (pa_cons (pv 0) (pa_cons (pe_bltn (v := .ty "int") (u := .type "int") (by rfl) T.b_int (by decide +kernel) rfl) pa_nil))) (pe_one (pe_not (pe_callB call_isi (by rfl) T.b_isinstance (by decide +kernel) (pa_cons (pv 0) (pa_cons (pe_bltn (v := .ty "bool") (u := .type "bool") (by rfl) T.b_bool (by decide +kernel) rfl) pa_nil)))))))), ?_⟩
  refine ⟨_, rfl, v, _, _, _, _, rfl, .ty "int", hv.1, kit_int hv.2, _, rfl, ?_⟩
  rw [← hv.isInt] at q
  by_cases e : n = "int"
  · subst e
    exact iteT ⟨_, rfl, v, _, _, _, _, rfl, .ty "bool", hv.1, kit_bool hv.2, _, rfl, q⟩
  · by_cases e2 : n = "bool"
    · subst e2
      exact iteT ⟨_, rfl, v, _, _, _, _, rfl, .ty "bool", hv.1, kit_bool hv.2, _, rfl, q⟩
    · have h1 : (n == "int") = false := by simpa using e
      have h2 : (n == "bool") = false := by simpa using e2
      rw [h1] at q ⊢
      rw [h2]
      exact iteF q
theorem ok_within (F : Fun K "is_within" "is_within" sWithin f fd) (T : Bn mg) (D_is_integer : Df K mg "is_integer" sInt f1 fd1 ["value"]) (G_is_integer : FnOk P w K mg base CX0 1 f1 fd1 ["value"] (spIsInt K)) : FnOk P w K mg base CX0 2 f fd ["value", "least", "most"] (spWithin K) := by
  refine F.ok scWithin (fun vs H Q E h => ?_) (fun cdv A outer s H vs Q E hr h => ?_)
  · obtain ⟨v, lo, hi, n, rfl, _⟩ := h
    rfl
  obtain ⟨v, lo, hi, n, rfl, hv, hlo, hhi, q⟩ := h
  refine ⟨_, (pss_cons (ps_if (pt_not (pt_val (pe_cd D_is_integer G_is_integer hr (by decide) (pa_cons (pv 0) pa_nil)))) (pss_one (ps_ret pe_bl)) pss_nil)
      (pss_one (ps_ret (pe_and (pe_or (pe_cmp (pc_isN (pv 1)) rfl) (pe_one (pe_cmpR op_le (pv 1) (pv 0) (nomark _)))) (pe_one (pe_or (pe_cmp (pc_isN (pv 2)) rfl) (pe_one (pe_cmpR op_le (pv 0) (pv 2) (nomark _))))))))), ?_⟩
  refine ⟨_, rfl, v, n, rfl, hv, _, rfl, ?_⟩
  cases e : intV v with
  | false =>
    refine iteT ?_
    have : withinV v lo hi = false := by cases v <;> first | rfl | cases e
    rw [this] at q
    exact q
  | true =>
    refine iteF ?_
    obtain ⟨i, rfl⟩ : ∃ i, v = .int i := by cases v <;> first | exact ⟨_, rfl⟩ | cases e
    rcases hlo with rfl | ⟨a, rfl⟩
    · refine ⟨_, rfl, _, rfl, iteT ⟨_, rfl, iteT ?_⟩⟩
      rcases hhi with rfl | ⟨b, rfl⟩
      · exact ⟨_, rfl, _, rfl, iteT q⟩
      · exact ⟨_, rfl, _, rfl, iteF ⟨_, rfl, _, rfl, _, _, rfl, rfl, q⟩⟩
    · refine ⟨_, rfl, _, rfl, iteF ⟨_, rfl, _, rfl, _, _, rfl, rfl, _, rfl, ?_⟩⟩
      by_cases c : a ≤ i
      · rw [decide_eq_true c]
        have hq : withinV (.int i) (.int a) hi = hiB i hi := by
          show (decide (a ≤ i) && _) = _
          rw [decide_eq_true c, Bool.true_and]
        rw [hq] at q
        refine iteT ?_
        rcases hhi with rfl | ⟨b, rfl⟩
        · exact ⟨_, rfl, _, rfl, iteT q⟩
        · exact ⟨_, rfl, _, rfl, iteF ⟨_, rfl, _, rfl, _, _, rfl, rfl, q⟩⟩
      · rw [decide_eq_false c]
        have hq : withinV (.int i) (.int a) hi = false := by
          show (decide (a ≤ i) && _) = _
          rw [decide_eq_false c, Bool.false_and]
        rw [hq] at q
        exact iteF q
theorem ok_name (F : Fun K "is_name" "is_name" sName f fd) (T : Bn mg) (C : Cn K mg) (D_is_within : Df K mg "is_within" sWithin f1 fd1 ["value", "least", "most"]) (G_is_within : FnOk P w K mg base CX0 2 f1 fd1 ["value", "least", "most"] (spWithin K)) : FnOk P w K mg base CX0 3 f fd ["value"] (spName K) := by
  refine F.ok scName (fun vs H Q E h => ?_) (fun cdv A outer s H vs Q E hr h => ?_)
  · obtain ⟨v, n, rfl, _⟩ := h
    rfl
  obtain ⟨v, n, rfl, hv, hz, q⟩ := h
  obtain ⟨tL, gL⟩ := C.lets
  obtain ⟨tD, gD⟩ := C.digs
  obtain ⟨tM, gM⟩ := C.long
  obtain ⟨aN, gN, hN⟩ := C.nons
  refine ⟨_, (pss_cons (ps_if (PW.pt (pw_or (pt_not (pt_val (pe_callB call_isi (by rfl) T.b_isinstance (by decide +kernel) (pa_cons (pv 0) (pa_cons (pe_bltn (v := .ty "str") (u := .type "str") (by rfl) T.b_str (by decide +kernel) rfl) pa_nil))))) (pw_or1 (pt_cmpR op_in_seq (pv 0) (pe_glob (v := .ref aN) rfl gN rfl) (by rfl))))) (pss_one (ps_ret pe_bl)) pss_nil)
      (pss_cons (ps_if (PW.pt (pw_or (pt_not (pt_val (pe_cd D_is_within G_is_within hr (by decide) (pa_cons (pe_callB call_len_str (by rfl) T.b_len (by decide +kernel) (pa_cons (pv 0) pa_nil)) (pa_cons pe_int (pa_cons (pe_glob (v := .int 12) rfl gM ⟨_, rfl⟩) pa_nil)))))) (pw_or1 (pt_cmpR op_notIn_sign (pe_ix ix_str (pv 0) pe_int (fun _ _ => rfl)) (pe_glob (v := .str "abcdefghijklmnopqrstuvwxyz") rfl gL ⟨_, rfl⟩) (by rfl))))) (pss_one (ps_ret pe_bl)) pss_nil)
      (pss_one (ps_ret (pe_callB (cr_all rfl) (by rfl) T.b_all (by decide +kernel) (pa_cons (pe_lc (own := [("sign", 1)]) (g := (gName 1)) (by rfl) scName.nd (pi_str (pv 0)) (blkOk_by (own := [("sign", 1)]) (N := ["value", "sign"]) (sc := defScope sName) (by decide +kernel)) (fun _ _ _ _ _ => (pg_name (i := 1) scName.nd rfl (.inl rfl))) (fun _ _ _ _ _ => pts_nil) (fun _ _ _ _ _ => (pe_or (pe_cmpR op_in_sign (pv 1) (pe_glob (v := .str "abcdefghijklmnopqrstuvwxyz") rfl gL ⟨_, rfl⟩) (by rfl)) (pe_one (pe_cmpR op_in_sign (pv 1) (pe_glob (v := .str "0123456789") rfl gD ⟨_, rfl⟩) (by rfl)))))) pa_nil)))))), ?_⟩
  refine ⟨_, rfl, v, _, _, _, _, rfl, .ty "str", hv.1, kit_str hv.2, _, rfl, ?_⟩
  rw [hv.isStr]
  cases e : strV v with
  | false =>
    have : nameV v = false := by cases v <;> first | rfl | cases e
    rw [this] at q
    exact iteT (iteT (q _ (Same.refl H)))
  | true =>
    obtain ⟨z, rfl⟩ : ∃ z, v = .str z := by cases v <;> first | exact ⟨_, rfl⟩ | cases e
    have hl := hz z rfl
    have hl2 : z.length ≤ sizeLine := Nat.le_of_lt (small1000 hl)
    have ec : z.length = z.cps.toList.length := by simp [Str.length]
    refine iteF ⟨_, rfl, aN, _, rfl, .inr (hN _), rfl, rfl, _, rfl, ?_⟩
    have qv : ∀ b, nameB z = b → ∀ H', Same H H' → Q (.bl b) H' := fun b hb H' s => by
      have := q H' s
      rw [show nameV (.str z) = b from hb] at this
      exact this
    cases e1 : inV (.str z) [.str "of", .str "to"] with
    | true =>
      refine iteT (qv false ?_ _ (Same.refl H))
      unfold nameB
      rw [e1]
      rfl
    | false =>
      refine iteF ?_
      refine ⟨_, rfl, z, rfl, hl2, .int z.length, .int 1, .int 12, "int", rfl, HasTy.int _, .inr ⟨1, rfl⟩, .inr ⟨12, rfl⟩, _, rfl, ?_⟩
      cases e2 : withinV (.int (z.length : Int)) (.int 1) (.int 12) with
      | false =>
        refine iteT (iteT (qv false ?_ _ (Same.refl H)))
        unfold nameB
        rw [e1, e2]
        rfl
      | true =>
        obtain ⟨c, r, er⟩ : ∃ c r, z.cps.toList = c :: r := by
          cases er : z.cps.toList with
          | nil =>
            rw [er] at ec
            rw [ec] at e2
            exact absurd e2 (by decide)
          | cons c r => exact ⟨c, r, rfl⟩
        refine iteF ⟨_, rfl, z, 0, c, rfl, rfl, hl2, by rw [er]; exact atI_nat (j := 0) rfl, c, _, rfl, rfl, _, rfl, ?_⟩
        cases e3 : letC c with
        | false =>
          have e3' : decide (c ∈ ("abcdefghijklmnopqrstuvwxyz" : Str).cps.toList) = false := e3
          rw [e3']
          refine iteT (qv false ?_ _ (Same.refl H))
          unfold nameB
          rw [e1, e2, er]
          show (true && (true && (letC c && _))) = false
          rw [e3]
          rfl
        | true =>
          have e3' : decide (c ∈ ("abcdefghijklmnopqrstuvwxyz" : Str).cps.toList) = true := e3
          rw [e3']
          refine iteF ?_
          refine ⟨_, rfl, z, rfl, fun D hD => ?_⟩
          refine lc_it walk_str (fun i H2 => Same H H2 ∧ H2 D = some (.lst ((z.cps.toList.map fun c => V.bl (letC c || digC c)).take i))) ?_ (fun _ _ _ _ => trivial) ?_ ?_
          · exact ⟨same_new hD, by rw [upd_same, List.take_zero]⟩
          · rintro i x H2 H3 hi ⟨s2, h3⟩ ⟨rfl, c, hc, rfl⟩
            have hc' : z.cps.toList[i]? = some c := by rw [← hc]; simp
            have fin : ∃ acc, H3 D = some (.lst acc) ∧ acc.length < sizeLine ∧ Same H (upd H3 D (.lst (acc ++ [V.bl (letC c || digC c)]))) ∧ (upd H3 D (.lst (acc ++ [V.bl (letC c || digC c)]))) D = some (.lst ((z.cps.toList.map fun c => V.bl (letC c || digC c)).take (i + 1))) := by
              refine ⟨_, h3, ?_, ?_, ?_⟩
              · rw [List.length_take, List.length_map, ← ec]
                exact small1000 (by omega)
              · intro y o hy
                rw [upd_ne (ne_of_none hy hD)]
                exact s2 y o hy
              · rw [upd_same, take_snoc (x := V.bl (letC c || digC c)) (by rw [List.getElem?_map, hc']; rfl)]
            refine ⟨rfl, _, rfl, c, _, rfl, rfl, _, rfl, ?_⟩
            by_cases q1 : letC c = true
            · rw [show decide (c ∈ ("abcdefghijklmnopqrstuvwxyz" : Str).cps.toList) = true from q1]
              refine iteT ?_
              rw [q1, Bool.true_or] at fin
              exact fin
            · have q1 : letC c = false := by simpa using q1
              rw [show decide (c ∈ ("abcdefghijklmnopqrstuvwxyz" : Str).cps.toList) = false from q1]
              refine iteF ⟨_, rfl, c, _, rfl, rfl, ?_⟩
              rw [q1, Bool.false_or] at fin
              exact fin
          · rintro H2 ⟨s2, h3⟩
            rw [List.take_of_length_le (by rw [List.length_map]; simp)] at h3
            refine ⟨D, z.cps.toList.map fun c => letC c || digC c, rfl, SqL.of (by rw [h3, List.map_map]; rfl), ?_⟩
            refine qv _ ?_ _ s2
            unfold nameB
            rw [e1, e2, List.all_map]
            show (true && (true && (headC z.cps.toList && _))) = _
            rw [er]
            show (true && (true && (letC c && _))) = _
            rw [e3]
            rfl
end
end TF18
/-! layouts in the heap -/
namespace TG
open PySem PySem.Spec L2
open PyProof.Rows hiding St
theorem small_le {n : Nat} (h : n ≤ 1000000) : n < sizeLine := by rw [sizeLine_eq]; omega
theorem kget_of {K : PySem.W.Frag} {a : Addr} {k : Str} {Q : VK} {H : Hp} {n : Int} (h : (∃ u, PySem.W.nsIn K a k = some (some u) ∧ RelV (.int n) u) ∨ (PySem.W.nsIn K a k = some none ∧ V.int 0 = V.int n)) (q : Q (.int n) H) :
    (∃ v u, PySem.W.nsIn K a k = some (some u) ∧ RelV v u ∧ Q v H) ∨ (PySem.W.nsIn K a k = some none ∧ Q (.int 0) H) := by
  rcases h with ⟨u, e, r⟩ | ⟨e, z⟩
  · exact .inl ⟨_, u, e, r, q⟩
  · exact .inr ⟨e, by rw [z]; exact q⟩
theorem ixN_of {n j : Nat} (hj : j < n) : ixN n (j : Int) = some j := by
  unfold ixN
  rw [if_pos (by omega), if_pos (by omega)]
  simp
theorem zero_len {n : Nat} : (List.replicate n [V.int 0]).flatten = List.replicate n (V.int 0) := by
  induction n with
  | zero => rfl
  | succ n ih => rw [List.replicate_succ, List.flatten_cons, ih]; rfl
theorem non_len {n : Nat} : (List.replicate n [V.non]).flatten = List.replicate n V.non := by
  induction n with
  | zero => rfl
  | succ n ih => rw [List.replicate_succ, List.flatten_cons, ih]; rfl
/-- where the j-th part ends that stands in it, counted from it -/
def Wr.cut : Wr → Nat → Nat
  | .nm _, _ => 1
  | .of _ b, j => if j = 0 then 1 else 1 + b.sg
  | .to a b, j => if j = 0 then 1 else if j = 1 then 1 + a.sg else 1 + a.sg + b.sg
theorem Wr.cut_zero : ∀ s : Wr, s.cut 0 = 1
  | .nm _ => rfl
  | .of _ _ => rfl
  | .to _ _ => rfl
theorem Wr.cut_pos : ∀ (s : Wr) (j : Nat), 1 ≤ s.cut j
  | .nm _, _ => Nat.le_refl _
  | .of _ b, j => by show 1 ≤ if j = 0 then 1 else 1 + b.sg; split <;> omega
  | .to a b, j => by show 1 ≤ if j = 0 then 1 else if j = 1 then 1 + a.sg else 1 + a.sg + b.sg; split; omega; split <;> omega
theorem Wr.cut_end : ∀ s : Wr, s.cut s.kids.length = s.sg
  | .nm _ => rfl
  | .of _ b => by show 1 + b.sg = b.sg + 1; omega
  | .to a b => by show 1 + a.sg + b.sg = a.sg + b.sg + 1; omega
theorem Wr.cut_kid : ∀ {w s : Wr} {i j : Nat}, w.subs[i]? = some s → j < s.kids.length → ∃ c, w.subs[i + s.cut j]? = some c ∧ s.cut (j + 1) = s.cut j + c.sg ∧ s.kids[j]? = some (s.cut j)
  | w, .nm _, i, j, h, hj => absurd hj (Nat.not_lt_zero j)
  | w, .of x b, i, j, h, hj => by
    have hj : j < 1 := hj
    obtain rfl : j = 0 := by omega
    exact ⟨b, kid_of h, rfl, rfl⟩
  | w, .to a b, i, j, h, hj => by
    have hj : j < 2 := hj
    by_cases c : j = 0
    · subst c
      exact ⟨a, kid_one h, rfl, rfl⟩
    · obtain rfl : j = 1 := by omega
      exact ⟨b, by rw [show i + (Wr.to a b).cut 1 = i + 1 + a.sg from (Nat.add_assoc i 1 a.sg).symm]; exact kid_two h, rfl, rfl⟩
def kidV (i : Nat) (s : Wr) : List V := s.kids.map fun k => V.int ((i + k : Nat) : Int)
/-- the words of a writing's signs -/
def wdV (w : Wr) : List V := w.subs.map fun s => V.str s.wd
theorem wdV_at {w s : Wr} {i : Nat} (h : w.subs[i]? = some s) : (wdV w)[i]? = some (V.str s.wd) := by
  unfold wdV
  rw [List.getElem?_map, h]
  rfl
theorem wdV_len (w : Wr) : (wdV w).length = w.sg := by
  unfold wdV
  rw [List.length_map, w.subs_len]
/-- where each part ends -/
def EndsAt (H : Hp) (e : Addr) (w : Wr) : Prop := ∃ xs : List V, H e = some (.lst xs) ∧ xs.length = w.sg ∧ ∀ (i : Nat) (s : Wr), w.subs[i]? = some s → xs[i]? = some (V.int ((i + s.sg : Nat) : Int))
/-- where its own parts begin -/
def BelowAt (H : Hp) (b : Addr) (w : Wr) : Prop := ∃ bs : List Addr, H b = some (.lst (bs.map V.ref)) ∧ bs.length = w.sg ∧ ∀ (i : Nat) (s : Wr) (a : Addr), w.subs[i]? = some s → bs[i]? = some a → H a = some (.lst (kidV i s))
def optV : Option Nat → V
  | none => .non
  | some j => .int (j : Int)
/-- the "of" just around -/
def AroundAt (H : Hp) (a : Addr) (w : Wr) : Prop := ∃ xs : List V, H a = some (.lst xs) ∧ xs.length = w.sg ∧ ∀ i, i < w.sg → xs[i]? = some (optV ((w.env i).head?.map (·.2)))
/-- the "of" that binds it -/
def BindAt (H : Hp) (a : Addr) (w : Wr) : Prop := ∃ xs : List V, H a = some (.lst xs) ∧ xs.length = w.sg ∧ ∀ i, i < w.sg → xs[i]? = some (optV (w.bnd i))
/-- the second of a sign's pair -/
def nvV : Wr → V
  | .nm z => .str z
  | .of x _ => .str x
  | .to _ _ => .non
/-- the signs, each a pair -/
def SignsAt (H : Hp) (a : Addr) (w : Wr) : Prop := ∃ ts : List Addr, H a = some (.lst (ts.map V.ref)) ∧ ts.length = w.sg ∧ ∀ (i : Nat) (s : Wr) (t : Addr), w.subs[i]? = some s → ts[i]? = some t → H t = some (.tup [.str s.wd, nvV s])
theorem EndsAt.same {H H' : Hp} {a : Addr} {w : Wr} (h : EndsAt H a w) (s : Same H H') : EndsAt H' a w := let ⟨xs, e, l, k⟩ := h; ⟨xs, s _ _ e, l, k⟩
theorem BelowAt.same {H H' : Hp} {a : Addr} {w : Wr} (h : BelowAt H a w) (s : Same H H') : BelowAt H' a w := let ⟨bs, e, l, k⟩ := h; ⟨bs, s _ _ e, l, fun i t a h1 h2 => s _ _ (k i t a h1 h2)⟩
theorem AroundAt.same {H H' : Hp} {a : Addr} {w : Wr} (h : AroundAt H a w) (s : Same H H') : AroundAt H' a w := let ⟨xs, e, l, k⟩ := h; ⟨xs, s _ _ e, l, k⟩
theorem BindAt.same {H H' : Hp} {a : Addr} {w : Wr} (h : BindAt H a w) (s : Same H H') : BindAt H' a w := let ⟨xs, e, l, k⟩ := h; ⟨xs, s _ _ e, l, k⟩
theorem SignsAt.same {H H' : Hp} {a : Addr} {w : Wr} (h : SignsAt H a w) (s : Same H H') : SignsAt H' a w := let ⟨xs, e, l, k⟩ := h; ⟨xs, s _ _ e, l, fun i t a h1 h2 => s _ _ (k i t a h1 h2)⟩
/-- a store where nothing stood ahead -/
theorem same_put {H H2 : Hp} {a : Addr} {o : HO} (s : Same H H2) (h : H a = none) : Same H (L2.upd H2 a o) := fun b u e => by
  rw [upd_ne (ne_of_none e h)]
  exact s b u e
theorem get_lt {α : Type} {xs : List α} {i : Nat} (h : i < xs.length) : ∃ x, xs[i]? = some x := ⟨xs[i], List.getElem?_eq_getElem h⟩
theorem lt_get {α : Type} {xs : List α} {i : Nat} {x : α} (h : xs[i]? = some x) : i < xs.length := (List.getElem?_eq_some_iff.mp h).1
theorem mem_get {α : Type} {xs : List α} {i : Nat} {x : α} (h : xs[i]? = some x) : x ∈ xs := List.mem_of_getElem? h
theorem nodup_get {α : Type} {xs : List α} (n : xs.Nodup) {i j : Nat} {x : α} (h : xs[i]? = some x) (k : xs[j]? = some x) : i = j := by
  obtain ⟨hi, e1⟩ := List.getElem?_eq_some_iff.mp h
  obtain ⟨hj, e2⟩ := List.getElem?_eq_some_iff.mp k
  exact (List.getElem_inj n).mp (e1.trans e2.symm)
theorem wr_get (w : Wr) {i : Nat} (h : i < w.sg) : ∃ s, w.subs[i]? = some s := get_lt (by rw [w.subs_len]; exact h)
def spBounds : Sp := fun vs H Q _ => ∃ (r : Addr) (w : Wr), vs = [.ref r] ∧ H r = some (.lst (wdV w)) ∧ w.sg ≤ 2000 ∧
  ∀ (t e b : Addr) (H' : Hp), Same H H' → H' t = some (.tup [.ref e, .ref b]) → EndsAt H' e w → BelowAt H' b w → Q (.ref t) H'
def spAround : Sp := fun vs H Q _ => ∃ (g b : Addr) (w : Wr), vs = [.ref g, .ref b] ∧ SignsAt H g w ∧ BelowAt H b w ∧ w.sg ≤ 2000 ∧
  ∀ (a : Addr) (H' : Hp), Same H H' → AroundAt H' a w → Q (.ref a) H'
def spBinder : Sp := fun vs H Q _ => ∃ (g a : Addr) (w : Wr) (i : Nat), vs = [.ref g, .ref a, .int (i : Int)] ∧ SignsAt H g w ∧ AroundAt H a w ∧ i < w.sg ∧ w.sg ≤ 2000 ∧ w.all okN = true ∧
  Q (optV (w.bnd i)) H
end TG
namespace TF18
open PySem PySem.Spec L2 TG TA
open PyProof.Rows hiding St
abbrev sBounds : Stmt := top 18
theorem scBounds : FnScope ["row", "ends", "below", "_", "at", "end"] ["row"] (defScope sBounds) := ⟨rfl, rfl, rfl, by decide +kernel, rfl, by decide +kernel, by decide +kernel⟩
section
variable {P : Program} {w : World} {K : PySem.W.Frag} {mg : Str → Option Value} {base : Heap} {f : Addr} {fd : FuncData}
theorem ok_bounds (F : Fun K "bounds_in" "bounds_in" sBounds f fd) (T : Bn mg) (Z : Pw K w mg) : FnOk P w K mg base CX0 1 f fd ["row"] spBounds := by
  refine F.ok scBounds (fun vs H Q E h => ?_) (fun cdv A outer s H vs Q E hr h => ?_)
  · obtain ⟨r, wr, rfl, _⟩ := h
    rfl
  obtain ⟨r, wr, rfl, hr0, hsg, q⟩ := h
  obtain ⟨aP, gP, kd, ⟨t1, k1⟩, ⟨t2, k2⟩, _, k0⟩ := Z.at_
  refine ⟨_, (pss_cons (ps_set (i := 1) scBounds.nd rfl (.inl rfl) (pe_op op_rep (pe_lst (pa_cons pe_int pa_nil)) (pe_callB call_len_seq (by rfl) T.b_len (by decide +kernel) (pa_cons (pv 0) pa_nil))))
      (pss_cons (ps_setLc (i := 2) (own := [("_", 3)]) (g := (gName 3)) rfl scBounds.nd rfl rfl (sw_true rfl rfl rfl (by decide +kernel)) (pi_list (pv 0)) (blkOk_by (own := [("_", 3)]) (N := ["row", "ends", "below", "_", "at", "end"]) (sc := defScope sBounds) (by decide +kernel)) (fun _ _ _ _ _ => (pg_name (i := 3) scBounds.nd rfl (.inl rfl))) (fun _ _ _ _ _ => pts_nil) (fun _ _ _ _ _ => (pe_lst pa_nil)))
      (pss_cons (ps_for PassesOwn.never rfl (pi_revR (by rfl) T.b_reversed (prg_1 (by rfl) T.b_range (pe_callB call_len_seq (by rfl) T.b_len (by decide +kernel) (pa_cons (pv 0) pa_nil)))) (pg_name (i := 4) scBounds.nd rfl (.inl rfl))
        (pss_cons (ps_set (i := 5) scBounds.nd rfl (.inl rfl) (pe_op op_add (pv 4) pe_int))
        (pss_cons (ps_for PassesOwn.never rfl (pi_range1 (by rfl) T.b_range (pa_cons (pe_kget (pe_glob (v := .ref aP) rfl gP rfl) (pe_ix ix_list (pv 0) (pv 4) (fun _ _ => rfl)) pe_int ⟨rfl, rfl, rfl, rfl⟩) pa_nil)) (pg_name (i := 3) scBounds.nd rfl (.inl rfl))
          (pss_cons (ps_expr (pe_bm PySem.F.plainAttrs_list PySem.F.slot_list_append PySem.F.type_list_append mt_append (pe_ix ix_list (pv 2) (pv 4) (fun _ _ => rfl)) (pa_cons (pv 5) pa_nil)))
          (pss_one (ps_set (i := 5) scBounds.nd rfl (.inl rfl) (pe_ix ix_list (pv 1) (pv 5) (fun _ _ => rfl))))))
        (pss_one (ps_asg (pv 5) (pg_sub (pv 1) (pv 4) set_list))))))
      (pss_one (ps_ret (pe_tup (pa_cons (pv 1) (pa_cons (pv 2) pa_nil)))))))), ?_⟩
  have hn : (wdV wr).length = wr.sg := wdV_len wr
  refine ⟨(by show 1 ≤ sizeLine; decide), fun l0 hl0 => ⟨_, rfl, r, _, rfl, .inl (SqL.of ((same_new hl0) _ _ hr0)), ?_⟩⟩
  have s0 : Same H (L2.upd H l0 (.lst [.int 0])) := same_new hl0
  refine ⟨_, _, _, rfl, rfl, upd_same, by omega, by omega, (by show 1 * ((wdV wr).length : Int).toNat ≤ sizeLine; rw [hn]; exact Nat.le_of_lt (small_le (by omega))), fun e he => ?_⟩
  rw [zero_len, hn]
  have s1 : Same H (L2.upd (L2.upd H l0 (.lst [.int 0])) e (.lst (List.replicate ((wr.sg : Int)).toNat (V.int 0)))) := s0.trans (same_new he)
  have he0 : H e = none := s0.free he
  generalize hHa : (L2.upd (L2.upd H l0 (.lst [.int 0])) e (.lst (List.replicate ((wr.sg : Int)).toNat (V.int 0)))) = Ha at *
  have hea : Ha e = some (.lst (List.replicate wr.sg (V.int 0))) := by rw [← hHa, upd_same]; rfl
  refine ⟨_, rfl, r, rfl, ⟨_, SqL.of (s1 _ _ hr0)⟩, fun b hb => ?_⟩
  have hb0 : H b = none := s1.free hb
  have neb : e ≠ b := ne_of_none hea hb
  refine lc_list (K := K) (a := r) (xs := wdV wr) (fun i H2 => ∃ bs : List Addr, Same H H2 ∧ H2 e = some (.lst (List.replicate wr.sg (V.int 0))) ∧ H2 b = some (.lst (bs.map V.ref)) ∧ bs.length = i ∧ bs.Nodup ∧ ∀ a ∈ bs, H a = none ∧ a ≠ e ∧ a ≠ b ∧ H2 a = some (.lst [])) ?_ ?_ ?_ ?_
  · exact ⟨[], s1.trans (same_new hb), by rw [upd_ne neb]; exact hea, upd_same, rfl, List.nodup_nil, fun a ha => absurd ha List.not_mem_nil⟩
  · rintro i H2 _ ⟨bs, s2, _⟩
    exact SqL.of (s2 _ _ hr0)
  · rintro i x H2 hx ⟨bs, s2, h2, h3, hl, nd, hbs⟩
    have hi : i < wr.sg := by rw [← hn]; exact lt_get hx
    refine ⟨rfl, Nat.zero_le _, fun a ha => ?_⟩
    have nae : e ≠ a := ne_of_none h2 ha
    have nab : b ≠ a := ne_of_none h3 ha
    have ha0 : H a = none := s2.free ha
    refine ⟨_, by rw [upd_ne nab]; exact h3, by rw [List.length_map]; exact small_le (by omega), bs ++ [a], ?_, ?_, ?_, ?_, ?_, ?_⟩
    · exact same_put (same_put s2 ha0) hb0
    · rw [upd_ne neb, upd_ne nae]; exact h2
    · rw [upd_same, List.map_append]; rfl
    · rw [List.length_append, hl]; rfl
    · refine List.nodup_append.mpr ⟨nd, List.nodup_cons.mpr ⟨List.not_mem_nil, List.nodup_nil⟩, fun y hy z hz => ?_⟩
      rw [List.mem_singleton.mp hz]
      exact ne_of_none (hbs y hy).2.2.2 ha
    · intro y hy
      rcases List.mem_append.mp hy with hy | hy
      · obtain ⟨y1, y2, y3, y4⟩ := hbs y hy
        exact ⟨y1, y2, y3, by rw [upd_ne y3, upd_ne (ne_of_none y4 ha)]; exact y4⟩
      · rw [List.mem_singleton.mp hy]
        exact ⟨ha0, Ne.symm nae, Ne.symm nab, by rw [upd_ne (Ne.symm nab), upd_same]⟩
  rintro H2 ⟨bs, s2, h2, h3, hl, nd, hbs⟩
  rw [hn] at hl
  refine ⟨_, rfl, r, _, rfl, .inl (SqL.of (s2 _ _ hr0)), ?_⟩
  have hnI : ((wdV wr).length : Int) = (wr.sg : Int) := by rw [hn]
  have hnT : (((wdV wr).length : Int) - 0).toNat = wr.sg := by omega
  refine ⟨_, rfl, (by show (-(2 ^ 62) : Int) ≤ 0; omega), (by show (0 : Int) < 2 ^ 62; omega), by omega, by omega, ?_⟩
  rw [hnT]
  have bmem : ∀ {i : Nat} {a : Addr}, bs[i]? = some a → H a = none ∧ a ≠ e ∧ a ≠ b := fun h => ⟨(hbs _ (mem_get h)).1, (hbs _ (mem_get h)).2.1, (hbs _ (mem_get h)).2.2.1⟩
  refine for_rangeC (n := wr.sg) (fun k σ H3 => ∃ (xs : List V) (v3 v4 v5 : Option V), σ = [some (.ref r), some (.ref e), some (.ref b), v3, v4, v5] ∧ Same H H3 ∧ H3 b = some (.lst (bs.map V.ref)) ∧ H3 e = some (.lst xs) ∧ xs.length = wr.sg ∧
    (∀ (i : Nat) (s : Wr), wr.sg - k ≤ i → wr.subs[i]? = some s → xs[i]? = some (V.int ((i + s.sg : Nat) : Int))) ∧ (∀ (i : Nat) (s : Wr) (a : Addr), wr.subs[i]? = some s → bs[i]? = some a → H3 a = some (.lst (if wr.sg - k ≤ i then kidV i s else [])))) ?_ ?_ ?_
  · refine ⟨_, none, none, none, rfl, s2, h3, h2, List.length_replicate, fun i s hi hs => ?_, fun i s a hs ha => ?_⟩
    · have := Wr.subs_lt hs
      omega
    · have := Wr.subs_lt hs
      rw [if_neg (by omega)]
      exact (hbs a (mem_get ha)).2.2.2
  · rintro k σ H3 hk ⟨xs, v3, v4, v5, rfl, s3, hb3, he3, hx, hx1, hb1⟩
    obtain ⟨i, hi⟩ : ∃ i, i = wr.sg - 1 - k := ⟨_, rfl⟩
    have hin : i < wr.sg := by omega
    have ei : (0 + ((wr.sg : Nat) : Int) - 1 + (k : Int) * -1) = (i : Int) := by omega
    obtain ⟨s, hs⟩ := wr_get wr hin
    obtain ⟨a, ha⟩ : ∃ a, bs[i]? = some a := get_lt (by rw [hl]; exact hin)
    obtain ⟨a0, nae, nab⟩ := bmem ha
    rw [ei]
    refine ⟨_, rfl, _, _, rfl, rfl, aP, rfl, kd, _, rfl, _, rfl, r, _, _, _, rfl, rfl, SqL.of (s3 _ _ hr0), atI_nat (wdV_at hs), s.wd, rfl, ?_⟩
    have hkid : (∃ u, PySem.W.nsIn K aP s.wd = some (some u) ∧ RelV (.int (s.kids.length : Int)) u) ∨ (PySem.W.nsIn K aP s.wd = some none ∧ V.int 0 = V.int (s.kids.length : Int)) := by
      cases s with
      | nm z => exact .inr ⟨k0, rfl⟩
      | of x c => exact .inl ⟨_, k1, ⟨_, rfl⟩⟩
      | to c d => exact .inl ⟨_, k2, ⟨_, rfl⟩⟩
    have hk2 : s.kids.length ≤ 2 := by cases s <;> (first | exact Nat.zero_le _ | exact Nat.le_refl _ | exact Nat.le_succ _)
    have hkl : s.kids.length < sizeLine := small_le (by omega)
    have hkv : ∀ j, j < s.kids.length → s.kids.take (j + 1) = s.kids.take j ++ [s.cut j] := fun j hj => by
      obtain ⟨c, _, _, h⟩ := Wr.cut_kid hs hj
      exact take_snoc h
    refine kget_of hkid ?_
    · skip
      refine ⟨_, rfl, by omega, by omega, ?_⟩
      rw [show ((s.kids.length : Int)).toNat = s.kids.length from rfl]
      refine for_range (lo := 0) (n := s.kids.length) (fun j σ H4 => ∃ (v3 : Option V), σ = [some (.ref r), some (.ref e), some (.ref b), v3, some (.int (i : Int)), some (.int ((i + s.cut j : Nat) : Int))] ∧ Same H H4 ∧ H4 b = some (.lst (bs.map V.ref)) ∧ H4 e = some (.lst xs) ∧
        H4 a = some (.lst ((s.kids.take j).map fun k => V.int ((i + k : Nat) : Int))) ∧ (∀ (i2 : Nat) (s2 : Wr) (a2 : Addr), i2 ≠ i → wr.subs[i2]? = some s2 → bs[i2]? = some a2 → H4 a2 = some (.lst (if wr.sg - k ≤ i2 then kidV i2 s2 else [])))) ?_ ?_ ?_
      · refine ⟨v3, ?_, s3, hb3, he3, ?_, fun i2 s2 a2 _ h1 h2 => hb1 i2 s2 a2 h1 h2⟩
        · rw [Wr.cut_zero]
          rfl
        · have h4 := hb1 i s a hs ha
          rw [if_neg (by omega)] at h4
          exact h4
      · rintro j σ H4 hj ⟨v3, rfl, s4, hb4, he4, ha4, ho4⟩
        obtain ⟨c, hc, hc2, hc3⟩ := Wr.cut_kid hs hj
        have hcl := Wr.subs_lt hc
        have ncb : a ≠ b := nab
        refine ⟨_, rfl, _, rfl, b, _, _, .ref a, rfl, rfl, SqL.of hb4, atI_nat (j := i) (by rw [List.getElem?_map, ha]; rfl), .inl ⟨rfl, _, SqL.of ha4⟩, _, rfl, a, _, _, rfl, rfl, ha4, by rw [List.length_map, List.length_take]; omega, ?_⟩
        have ha5 : ∀ o, (L2.upd H4 a o) e = some (.lst xs) := fun o => by rw [upd_ne (Ne.symm nae)]; exact he4
        refine ⟨_, rfl, _, rfl, e, _, _, _, rfl, rfl, SqL.of (ha5 _), atI_nat (hx1 (i + s.cut j) c (by have := Wr.cut_pos s j; omega) hc), some (.int (0 + (j : Int))), ?_, same_put s4 a0, by rw [upd_ne (Ne.symm nab)]; exact hb4, ha5 _, ?_, ?_⟩
        · rw [hc2, show i + s.cut j + c.sg = i + (s.cut j + c.sg) by omega]
          rfl
        · rw [upd_same, hkv j hj, List.map_append]
          rfl
        · intro i2 s2 a2 n2 h1 h2
          rw [upd_ne (fun z => n2 (nodup_get nd h2 (by rw [z]; exact ha)))]
          exact ho4 i2 s2 a2 n2 h1 h2
      · rintro σ H4 ⟨v3, rfl, s4, hb4, he4, ha4, ho4⟩
        rw [Wr.cut_end]
        refine ⟨_, rfl, _, rfl, _, rfl, e, _, _, i, rfl, rfl, he4, ixN_of (by omega), ?_⟩
        refine ⟨_, _, _, _, rfl, same_put s4 he0, by rw [upd_ne (Ne.symm neb)]; exact hb4, upd_same, by rw [List.length_set]; exact hx, fun i2 s2 hi2 hs2 => ?_, fun i2 s2 a2 hs2 ha2 => ?_⟩
        · by_cases c : i2 = i
          · subst c
            rw [hs] at hs2
            cases hs2
            rw [List.getElem?_set_self (by omega)]
          · rw [List.getElem?_set_ne (Ne.symm c)]
            exact hx1 i2 s2 (by omega) hs2
        · have ne2 := (bmem ha2).2.1
          rw [upd_ne ne2]
          by_cases c : i2 = i
          · subst c
            rw [hs] at hs2
            cases hs2
            rw [ha] at ha2
            cases ha2
            rw [if_pos (by omega), ha4, List.take_of_length_le (Nat.le_refl _)]
            rfl
          · rw [ho4 i2 s2 a2 c hs2 ha2]
            by_cases d : wr.sg - k ≤ i2
            · rw [if_pos d, if_pos (by omega)]
            · rw [if_neg d, if_neg (by omega)]
  · rintro σ H3 ⟨xs, v3, v4, v5, rfl, s3, hb3, he3, hx, hx1, hb1⟩
    refine ⟨_, rfl, _, rfl, (by show 2 ≤ sizeLine; decide), fun t ht => ?_⟩
    refine q t e b _ (same_put s3 (s3.free ht)) upd_same ⟨xs, by rw [upd_ne (ne_of_none he3 ht)]; exact he3, hx, fun i s hs => hx1 i s (by omega) hs⟩ ⟨bs, by rw [upd_ne (ne_of_none hb3 ht)]; exact hb3, hl, fun i s a hs ha => ?_⟩
    have h4 := hb1 i s a hs ha
    rw [if_pos (by omega)] at h4
    rw [upd_ne (ne_of_none h4 ht)]
    exact h4
end
end TF18
namespace TF18
open PySem PySem.Spec L2 TG TA
open PyProof.Rows hiding St
abbrev sAround : Stmt := top 26
abbrev sBinder : Stmt := top 27
theorem scAround : FnScope ["signs", "below", "around", "at", "word", "_", "part"] ["signs", "below"] (defScope sAround) := ⟨rfl, rfl, rfl, by decide +kernel, rfl, by decide +kernel, by decide +kernel⟩
theorem scBinder : FnScope ["signs", "around", "at", "word", "name", "found"] ["signs", "around", "at"] (defScope sBinder) := ⟨rfl, rfl, rfl, by decide +kernel, rfl, by decide +kernel, by decide +kernel⟩
section
variable {P : Program} {w : World} {K : PySem.W.Frag} {mg : Str → Option Value} {base : Heap} {f : Addr} {fd : FuncData}
theorem ok_around (F : Fun K "ofs_around" "ofs_around" sAround f fd) (T : Bn mg) (Z : Lw mg) : FnOk P w K mg base CX0 1 f fd ["signs", "below"] spAround := by
  refine F.ok scAround (fun vs H Q E h => ?_) (fun cdv A outer s H vs Q E hr h => ?_)
  · obtain ⟨g, b, wr, rfl, _⟩ := h
    rfl
  obtain ⟨g, b, wr, rfl, ⟨ts, hg, hgl, hgt⟩, ⟨bs, hb, hbl, hbk⟩, hsg, q⟩ := h
  obtain ⟨tOf, gOf⟩ := Z.of_
  refine ⟨_, (pss_cons (ps_set (i := 2) scAround.nd rfl (.inl rfl) (pe_op op_rep (pe_lst (pa_cons pe_non pa_nil)) (pe_callB call_len_seq (by rfl) T.b_len (by decide +kernel) (pa_cons (pv 0) pa_nil))))
      (pss_cons (ps_for PassesOwn.never rfl (pi_enum (by rfl) T.b_enumerate (pa_cons (pv 0) pa_nil)) (pg_tup (by rfl) (pgs_cons (pg_name (i := 3) scAround.nd rfl (.inl rfl)) (pgs_cons (pg_tup (by rfl) (pgs_cons (pg_name (i := 4) scAround.nd rfl (.inl rfl)) (pgs_cons (pg_name (i := 5) scAround.nd rfl (.inl rfl)) pgs_nil))) pgs_nil)))
        (pss_one (ps_for PassesOwn.never rfl (pi_list (pe_ix ix_list (pv 1) (pv 3) (fun _ _ => rfl))) (pg_name (i := 6) scAround.nd rfl (.inl rfl))
          (pss_one (ps_asg (pe_ifExp (pt_cmpR op_eq (pv 4) (pe_glob (v := .str "of") rfl gOf ⟨_, rfl⟩) (nomark _)) (pv 3) (pe_ix ix_list (pv 2) (pv 3) (fun _ _ => rfl))) (pg_sub (pv 2) (pv 6) set_list))))))
      (pss_one (ps_ret (pv 2))))), ?_⟩
  refine ⟨(by show 1 ≤ sizeLine; decide), fun l0 hl0 => ⟨_, rfl, g, _, rfl, .inl (SqL.of ((same_new hl0) _ _ hg)), ?_⟩⟩
  have s0 : Same H (L2.upd H l0 (.lst [.non])) := same_new hl0
  have hn : (ts.map V.ref).length = wr.sg := by rw [List.length_map, hgl]
  rw [hn]
  refine ⟨_, _, _, rfl, rfl, upd_same, by omega, by omega, (by show 1 * ((wr.sg : Int)).toNat ≤ sizeLine; exact Nat.le_of_lt (small_le (by omega))), fun a ha => ?_⟩
  rw [non_len]
  have a0 : H a = none := s0.free ha
  have s1 : Same H (L2.upd (L2.upd H l0 (.lst [.non])) a (.lst (List.replicate ((wr.sg : Int)).toNat V.non))) := s0.trans (same_new ha)
  generalize hHa : (L2.upd (L2.upd H l0 (.lst [.non])) a (.lst (List.replicate ((wr.sg : Int)).toNat V.non))) = Ha at *
  have haa : Ha a = some (.lst (List.replicate wr.sg V.non)) := by rw [← hHa, upd_same]; rfl
  refine ⟨_, rfl, g, _, rfl, SqL.of (s1 _ _ hg), ?_⟩
  refine for_it (walk_enum (xs := ts.map V.ref)) (fun k σ H2 => ∃ (xs : List V) (v3 v4 v5 v6 : Option V), σ = [some (.ref g), some (.ref b), some (.ref a), v3, v4, v5, v6] ∧ Same H H2 ∧ H2 a = some (.lst xs) ∧ xs.length = wr.sg ∧ xs[0]? = some .non ∧
    (∀ (j : Nat) (s : Wr) (p : Nat), j < k → wr.subs[j]? = some s → p ∈ s.kids → xs[j + p]? = some (optV ((wr.env (j + p)).head?.map (·.2))))) ?_ ?_ ?_ ?_
  · have h1 := wr.sg_pos
    exact ⟨_, none, none, none, none, rfl, s1, haa, List.length_replicate, by rw [List.getElem?_replicate, if_pos (by omega)], fun j s p hj _ _ => absurd hj (Nat.not_lt_zero j)⟩
  · rintro i σ H2 hi ⟨xs, v3, v4, v5, v6, rfl, s2, _⟩
    exact SqL.of (s2 _ _ hg)
  · rintro k x σ H2 H3 hk ⟨xs, v3, v4, v5, v6, rfl, s2, ha2, hx, hx0, hxs⟩ ⟨tp, y1, y2, rfl, htp, rfl, e1, e2⟩
    cases e1
    rw [hn] at hk
    obtain ⟨s, hs⟩ := wr_get wr hk
    have e2 : (ts.map V.ref)[k]? = some y2 := e2
    rw [List.getElem?_map] at e2
    obtain ⟨t, ht, rfl⟩ := Option.map_eq_some_iff.mp e2
    have ht2 := hgt k s t hs ht
    have s3 : Same H (L2.upd H2 tp (.tup [.int ((k : Nat) : Int), .ref t])) := same_put s2 (s2.free htp)
    have nat_ : a ≠ tp := ne_of_none ha2 htp
    refine ⟨tp, _, rfl, SqT.of upd_same, rfl, _, _, rfl, _, _, rfl, t, _, rfl, SqT.of (s3 _ _ ht2), rfl, _, _, rfl, _, _, rfl, rfl, rfl, ?_⟩
    have hne : optV ((wr.env k).head?.map (·.2)) = xs.getD k .non ∧ xs[k]? = some (optV ((wr.env k).head?.map (·.2))) := by
      by_cases c : k = 0
      · subst c
        rw [Wr.env_zero, List.getD_eq_getElem?_getD, hx0]
        exact ⟨rfl, rfl⟩
      · obtain ⟨j, s', p, hj, hs', hp, e⟩ := Wr.has_par (w := wr) (i := k) (by omega) hk
        have h4 := hxs j s' p hj hs' hp
        rw [← e] at h4
        rw [List.getD_eq_getElem?_getD, h4]
        exact ⟨rfl, rfl⟩
    obtain ⟨bk, hbk1⟩ : ∃ bk, bs[k]? = some bk := get_lt (by rw [hbl]; exact hk)
    have hbk2 := hbk k s bk hs hbk1
    refine ⟨_, rfl, _, rfl, b, _, _, .ref bk, rfl, rfl, SqL.of (s3 _ _ hb), atI_nat (j := k) (by rw [List.getElem?_map, hbk1]; rfl), bk, rfl, ⟨_, SqL.of (s3 _ _ hbk2)⟩, ?_⟩
    have nab : a ≠ bk := fun z => by
      rw [z] at a0
      rw [a0] at hbk2
      cases hbk2
    refine for_it (walk_list (xs := kidV k s)) (fun j σ H4 => ∃ (xs : List V) (v6 : Option V), σ = [some (.ref g), some (.ref b), some (.ref a), some (.int (k : Int)), some (.str s.wd), some (nvV s), v6] ∧ Same H H4 ∧ H4 a = some (.lst xs) ∧ xs.length = wr.sg ∧ xs[0]? = some .non ∧ xs[k]? = some (optV ((wr.env k).head?.map (·.2))) ∧
      (∀ (j : Nat) (s : Wr) (p : Nat), j < k → wr.subs[j]? = some s → p ∈ s.kids → xs[j + p]? = some (optV ((wr.env (j + p)).head?.map (·.2)))) ∧
      (∀ p ∈ s.kids.take j, xs[k + p]? = some (optV ((wr.env (k + p)).head?.map (·.2))))) ?_ ?_ ?_ ?_
    · exact ⟨xs, v6, rfl, s3, by rw [upd_ne nat_]; exact ha2, hx, hx0, hne.2, hxs, fun p hp => absurd hp (by rw [List.take_zero]; exact List.not_mem_nil)⟩
    · rintro j σ H4 _ ⟨_, _, _, s4, _⟩
      exact SqL.of (s4 _ _ hbk2)
    · rintro j x σ G4 H4 hj ⟨xs, v6, rfl, s4, ha4, hx4, h04, hk4, ho4, hn4⟩ ⟨rfl, hxj⟩
      unfold kidV at hxj
      rw [List.getElem?_map] at hxj
      obtain ⟨p, hp, rfl⟩ := Option.map_eq_some_iff.mp hxj
      have hpm := mem_get hp
      have fits : k + p < wr.sg := by
        have f := Wr.subs_fit hs
        have : p < s.sg := by
          cases s with
          | nm z => exact absurd hpm List.not_mem_nil
          | of x c =>
            rw [List.mem_singleton.mp hpm]
            have := c.sg_pos
            show 1 < c.sg + 1
            omega
          | to c d =>
            have h1 := c.sg_pos
            have h2 := d.sg_pos
            show p < c.sg + d.sg + 1
            rcases List.mem_cons.mp hpm with z | z
            · omega
            · have := List.mem_singleton.mp z
              omega
        omega
      have setF : ∀ (i : Nat), xs[i]? = some (optV ((wr.env i).head?.map (·.2))) → (xs.set (k + p) (optV ((wr.env (k + p)).head?.map (·.2))))[i]? = some (optV ((wr.env i).head?.map (·.2))) := fun i h => by
        by_cases c : k + p = i
        · rw [← c, List.getElem?_set_self (by omega)]
        · rw [List.getElem?_set_ne c]
          exact h
      have fin : ∃ (ys : List V) (v6 : Option V), [some (V.ref g), some (.ref b), some (.ref a), some (.int (k : Int)), some (.str s.wd), some (nvV s), some (.int ((k + p : Nat) : Int))] = [some (.ref g), some (.ref b), some (.ref a), some (.int (k : Int)), some (.str s.wd), some (nvV s), v6] ∧ Same H (L2.upd H4 a (.lst (xs.set (k + p) (optV ((wr.env (k + p)).head?.map (·.2)))))) ∧
          (L2.upd H4 a (.lst (xs.set (k + p) (optV ((wr.env (k + p)).head?.map (·.2)))))) a = some (.lst ys) ∧ ys.length = wr.sg ∧ ys[0]? = some .non ∧ ys[k]? = some (optV ((wr.env k).head?.map (·.2))) ∧
          (∀ (j : Nat) (s : Wr) (p : Nat), j < k → wr.subs[j]? = some s → p ∈ s.kids → ys[j + p]? = some (optV ((wr.env (j + p)).head?.map (·.2)))) ∧
          (∀ p ∈ s.kids.take (j + 1), ys[k + p]? = some (optV ((wr.env (k + p)).head?.map (·.2)))) := by
        refine ⟨_, _, rfl, same_put s4 a0, upd_same, by rw [List.length_set]; exact hx4, ?_, setF k hk4, fun j' s' p' h1 h2 h3 => setF _ (ho4 j' s' p' h1 h2 h3), fun p' hp' => ?_⟩
        · have h5 := setF 0 (by rw [Wr.env_zero]; exact h04)
          rw [Wr.env_zero] at h5
          exact h5
        · rw [take_snoc hp] at hp'
          rcases List.mem_append.mp hp' with z | z
          · exact setF _ (hn4 p' z)
          · rw [List.mem_singleton.mp z, List.getElem?_set_self (by omega)]
      refine ⟨_, rfl, rfl, _, rfl, ?_⟩
      cases s with
      | nm z => exact absurd hpm List.not_mem_nil
      | of x c =>
        refine iteT ⟨_, rfl, _, rfl, _, rfl, a, _, _, k + p, rfl, rfl, ha4, ixN_of (by omega), ?_⟩
        have e5 : optV ((wr.env (k + p)).head?.map (·.2)) = .int (k : Int) := by
          rw [List.mem_singleton.mp hpm, Wr.env_of hs]
          rfl
        rw [e5] at fin
        exact fin
      | to c d =>
        refine iteF ⟨_, rfl, _, rfl, a, _, _, _, rfl, rfl, SqL.of ha4, atI_nat hk4, _, rfl, _, rfl, a, _, _, k + p, rfl, rfl, ha4, ixN_of (by omega), ?_⟩
        have e5 : optV ((wr.env (k + p)).head?.map (·.2)) = optV ((wr.env k).head?.map (·.2)) := by
          rcases List.mem_cons.mp hpm with z | z
          · rw [z, Wr.env_one hs]
          · rw [List.mem_singleton.mp z, ← Nat.add_assoc, Wr.env_two hs]
        rw [e5] at fin
        exact fin
    · rintro σ H4 ⟨ys, v6, rfl, s4, ha4, hx4, h04, hk4, ho4, hn4⟩
      refine ⟨ys, _, _, _, _, rfl, s4, ha4, hx4, h04, fun j s' p h1 h2 h3 => ?_⟩
      by_cases c : j = k
      · subst c
        rw [hs] at h2
        cases h2
        refine hn4 p ?_
        unfold kidV
        rw [List.length_map, List.take_of_length_le (Nat.le_refl _)]
        exact h3
      · exact ho4 j s' p (by omega) h2 h3
  · rintro σ H2 ⟨xs, v3, v4, v5, v6, rfl, s2, ha2, hx, hx0, hxs⟩
    rw [hn] at hxs
    refine ⟨_, rfl, q a H2 s2 ⟨xs, ha2, hx, fun i hi => ?_⟩⟩
    by_cases c : i = 0
    · subst c
      rw [Wr.env_zero, hx0]
      rfl
    · obtain ⟨j, s', p, hj, hs', hp, rfl⟩ := Wr.has_par (w := wr) (i := i) (by omega) hi
      exact hxs j s' p (Wr.subs_lt hs') hs' hp
theorem ok_binder (F : Fun K "binder_of" "binder_of" sBinder f fd) (T : Bn mg) (Z : Lw mg) : FnOk P w K mg base CX0 1 f fd ["signs", "around", "at"] spBinder := by
  refine F.ok scBinder (fun vs H Q E h => ?_) (fun cdv A outer s H vs Q E hr h => ?_)
  · obtain ⟨g, a, wr, i, rfl, _⟩ := h
    rfl
  obtain ⟨g, a, wr, i, rfl, ⟨ts, hg, hgl, hgt⟩, ⟨xs, ha, hx, hxs⟩, hi, hsg, hok, q⟩ := h
  obtain ⟨tNm, gNm⟩ := Z.nm_
  refine ⟨_, (pss_cons (ps_asg (pe_ix ix_list (pv 0) (pv 2) (fun _ _ => rfl)) (pg_tup (by rfl) (pgs_cons (pg_name (i := 3) scBinder.nd rfl (.inl rfl)) (pgs_cons (pg_name (i := 4) scBinder.nd rfl (.inl rfl)) pgs_nil))))
      (pss_cons (ps_set (i := 5) scBinder.nd rfl (.inl rfl) (pe_ifExp (pt_cmpR op_eq (pv 3) (pe_glob (v := .str "name") rfl gNm ⟨_, rfl⟩) (nomark _)) (pe_ix ix_list (pv 1) (pv 2) (fun _ _ => rfl)) pe_non))
      (pss_cons (ps_while PassesOwn.never (PW.pt (pw_and (pt_cmpR op_notN (pv 5) pe_non (nomark _)) (pw_and1 (pt_cmpR op_ne (pe_ix ix_tup (pe_ix ix_list (pv 0) (pv 5) (fun _ _ => rfl)) pe_int (fun _ _ => rfl)) (pv 4) (nomark _)))))
        (pss_one (ps_set (i := 5) scBinder.nd rfl (.inl rfl) (pe_ix ix_list (pv 1) (pv 5) (fun _ _ => rfl)))))
      (pss_one (ps_ret (pv 5)))))), ?_⟩
  obtain ⟨s, hs⟩ := wr_get wr hi
  obtain ⟨t, ht⟩ : ∃ t, ts[i]? = some t := get_lt (by rw [hgl]; exact hi)
  have ht2 := hgt i s t hs ht
  have gat : ∀ {j : Nat} {t : Addr}, ts[j]? = some t → (ts.map V.ref)[j]? = some (V.ref t) := fun h => by rw [List.getElem?_map, h]; rfl
  refine ⟨_, rfl, _, rfl, g, _, _, .ref t, rfl, rfl, SqL.of hg, atI_nat (gat ht), t, _, rfl, SqT.of ht2, rfl, _, _, rfl, _, _, rfl, rfl, ?_⟩
  refine ⟨_, rfl, rfl, _, rfl, ?_⟩
  cases s with
  | of x b =>
    have e : wr.bnd i = none := by unfold Wr.bnd; rw [hs]
    rw [e] at q
    refine iteF ⟨fun m σ H2 => m = 0 ∧ H2 = H ∧ σ = [some (.ref g), some (.ref a), some (.int (i : Int)), some (.str "of"), some (.str x), some .non], ⟨0, rfl, rfl, rfl⟩, ?_⟩
    rintro m σ H2 ⟨rfl, rfl, rfl⟩
    exact ⟨_, rfl, rfl, _, rfl, iteF ⟨_, rfl, q⟩⟩
  | to b c =>
    have e : wr.bnd i = none := by unfold Wr.bnd; rw [hs]
    rw [e] at q
    refine iteF ⟨fun m σ H2 => m = 0 ∧ H2 = H ∧ σ = [some (.ref g), some (.ref a), some (.int (i : Int)), some (.str "to"), some .non, some .non], ⟨0, rfl, rfl, rfl⟩, ?_⟩
    rintro m σ H2 ⟨rfl, rfl, rfl⟩
    exact ⟨_, rfl, rfl, _, rfl, iteF ⟨_, rfl, q⟩⟩
  | nm z =>
    have e : wr.bnd i = Wr.find z (wr.env i) := by unfold Wr.bnd; rw [hs]
    rw [e] at q
    refine iteT ⟨_, rfl, _, rfl, a, _, _, _, rfl, rfl, SqL.of ha, atI_nat (hxs i hi), ?_⟩
    refine ⟨fun m σ H2 => ∃ (e : List (Str × Nat)), m = e.length ∧ H2 = H ∧ σ = [some (.ref g), some (.ref a), some (.int (i : Int)), some (.str "name"), some (.str z), some (optV (e.head?.map (·.2)))] ∧ wr.Chain e ∧ Wr.find z e = Wr.find z (wr.env i), ⟨_, wr.env i, rfl, rfl, rfl, wr.chain_env hi, rfl⟩, ?_⟩
    rintro m σ H2 ⟨e, rfl, rfl, rfl, hc, hf⟩
    cases e with
    | nil =>
      rw [← hf] at q
      exact ⟨_, rfl, rfl, _, rfl, iteF ⟨_, rfl, q⟩⟩
    | cons p e =>
      obtain ⟨x, j⟩ := p
      obtain ⟨⟨b, hb⟩, he, hc2⟩ := hc
      have hj := Wr.subs_lt hb
      obtain ⟨t2, ht3⟩ : ∃ t2, ts[j]? = some t2 := get_lt (by rw [hgl]; exact hj)
      have ht4 := hgt j _ t2 hb ht3
      have hf' : (if x = z then some j else Wr.find z e) = Wr.find z (wr.env i) := hf
      refine ⟨_, rfl, rfl, _, rfl, iteT ?_⟩
      refine ⟨_, rfl, _, rfl, g, _, _, .ref t2, rfl, rfl, SqL.of hg, atI_nat (gat ht3), t2, _, _, .str x, rfl, rfl, SqT.of ht4, rfl, _, rfl, rfl, _, rfl, ?_⟩
      by_cases c : x = z
      · rw [if_pos c] at hf'
        rw [← hf'] at q
        rw [show (!decide (V.str x = V.str z)) = false by simp [c]]
        exact iteF ⟨_, rfl, q⟩
      · rw [if_neg c] at hf'
        rw [show (!decide (V.str x = V.str z)) = true by simp [c]]
        refine iteT ⟨_, fun σ' H' z => z, ?_⟩
        have h5 := hxs j hj
        rw [he] at h5
        exact ⟨_, rfl, _, rfl, a, _, _, _, rfl, rfl, SqL.of ha, atI_nat h5, _, Nat.lt_succ_self _, e, rfl, rfl, rfl, hc2, hf'⟩
end
end TF18
/-! reading a writing off the heap; layouts whole -/
namespace TG
open PySem PySem.Spec L2
open PyProof.Rows hiding St
def SqA (K : PySem.W.Frag) (H : Hp) (a : Addr) (xs : List V) : Prop := SqL K H a xs ∨ SqT K H a xs
theorem SqA.same {K : PySem.W.Frag} {H H' : Hp} {a : Addr} {xs : List V} (h : SqA K H a xs) (s : Same H H') : SqA K H' a xs := h.imp (fun h => sqL_same h s) fun h => sqT_same h s
theorem ix_any {K : PySem.W.Frag} {H : Hp} {a : Addr} {xs : List V} {i : Nat} {v : V} {Q : VK} (h : SqA K H a xs) (e : xs[i]? = some v) (q : Q v H) : rIx K (.ref a) (.int (i : Int)) H Q := by
  rcases h with h | h
  · exact .inl ⟨a, xs, _, v, rfl, rfl, h, atI_nat e, q⟩
  · exact .inr (.inl ⟨a, xs, _, v, rfl, rfl, h, atI_nat e, q⟩)
theorem SqA.ty {K : PySem.W.Frag} {H : Hp} {a : Addr} {xs : List V} (h : SqA K H a xs) : ∃ n, HasTy K H (.ref a) n ∧ (n == "list" || n == "tuple") = true := by
  rcases h with h | h
  · exact ⟨_, .sqL h, rfl⟩
  · exact ⟨_, .sqT h, rfl⟩
theorem dp_nm {K : PySem.W.Frag} {H : Hp} {v : V} {d : PyData} {z : Str} (h : Dp K H v d) (t : Tells d (.nm z)) : v = .str z := by
  cases t
  cases h
  rfl
theorem dp_of {K : PySem.W.Frag} {H : Hp} {v : V} {d : PyData} {x : Str} {b : Wr} (h : Dp K H v d) (t : Tells d (.of x b)) : ∃ a ve e, v = .ref a ∧ SqA K H a [.str "of", .str x, ve] ∧ Dp K H ve e ∧ Tells e b := by
  cases t with
  | ofT t =>
    cases h with
    | tup h1 h2 =>
      obtain _ | ⟨g1, _ | ⟨g2, _ | ⟨g3, g4⟩⟩⟩ := h2
      cases g1; cases g2; cases g4
      exact ⟨_, _, _, rfl, .inr h1, g3, t⟩
  | ofL t =>
    cases h with
    | lst h1 h2 =>
      obtain _ | ⟨g1, _ | ⟨g2, _ | ⟨g3, g4⟩⟩⟩ := h2
      cases g1; cases g2; cases g4
      exact ⟨_, _, _, rfl, .inl h1, g3, t⟩
theorem dp_to {K : PySem.W.Frag} {H : Hp} {v : V} {d : PyData} {b c : Wr} (h : Dp K H v d) (t : Tells d (.to b c)) : ∃ a v1 e1 v2 e2, v = .ref a ∧ SqA K H a [.str "to", v1, v2] ∧ Dp K H v1 e1 ∧ Tells e1 b ∧ Dp K H v2 e2 ∧ Tells e2 c := by
  cases t with
  | toT t u =>
    cases h with
    | tup h1 h2 =>
      obtain _ | ⟨g1, _ | ⟨g2, _ | ⟨g3, g4⟩⟩⟩ := h2
      cases g1; cases g4
      exact ⟨_, _, _, _, _, rfl, .inr h1, g2, t, g3, u⟩
  | toL t u =>
    cases h with
    | lst h1 h2 =>
      obtain _ | ⟨g1, _ | ⟨g2, _ | ⟨g3, g4⟩⟩⟩ := h2
      cases g1; cases g4
      exact ⟨_, _, _, _, _, rfl, .inl h1, g2, t, g3, u⟩
/-- what is still to be read -/
structure SE where
  v : V
  d : PyData
  w : Wr
structure SEok (K : PySem.W.Frag) (H : Hp) (e : SE) : Prop where
  dp : Dp K H e.v e.d
  te : Tells e.d e.w
  ok : e.w.all okN = true
def seS (st : List SE) : List Wr := st.flatMap fun e => e.w.subs
def seN (st : List SE) : Nat := (st.map fun e => e.w.sg).sum
theorem seN_len : ∀ st : List SE, st.length ≤ seN st
  | [] => Nat.zero_le _
  | e :: st => by
    have h1 := e.w.sg_pos
    have h2 := seN_len st
    show st.length + 1 ≤ e.w.sg + seN st
    omega
theorem okN_short {z : Str} (h : okN z = true) : z.length ≤ 1000 := Nat.le_trans (ok_signs h).1 (by decide)
theorem drop_step {α : Type} {xs ys : List α} {n : Nat} {x : α} (h : xs.drop n = x :: ys) : xs[n]? = some x ∧ xs.drop (n + 1) = ys := by
  have h1 : xs[n]? = some x := by
    rw [← List.head?_drop, h]
    rfl
  refine ⟨h1, ?_⟩
  rw [← List.tail_drop, h]
  rfl
/-- the class, its object and the five lists -/
def layF (g e b a d : Addr) : List (Str × V) := [("signs", .ref g), ("ends", .ref e), ("below", .ref b), ("around", .ref a), ("binders", .ref d)]
def layF1 (g : Addr) : List (Str × V) := [("signs", .ref g)]
def layF2 (g e : Addr) : List (Str × V) := [("signs", .ref g), ("ends", .ref e)]
def layF3 (g e b : Addr) : List (Str × V) := [("signs", .ref g), ("ends", .ref e), ("below", .ref b)]
def layF4 (g e b a : Addr) : List (Str × V) := [("signs", .ref g), ("ends", .ref e), ("below", .ref b), ("around", .ref a)]
theorem putF_ne {f g : Str} {v x : V} {r : List (Str × V)} (h : (g == f) = false) : putF f v ((g, x) :: r) = (g, x) :: putF f v r := if_neg (by simpa using h)
theorem layF_2 (g e : Addr) : putF "ends" (.ref e) (layF1 g) = layF2 g e := putF_ne (by decide +kernel)
theorem layF_3 (g e b : Addr) : putF "below" (.ref b) (layF2 g e) = layF3 g e b := by
  unfold layF2
  rw [putF_ne (by decide +kernel), putF_ne (by decide +kernel)]
  rfl
theorem layF_4 (g e b a : Addr) : putF "around" (.ref a) (layF3 g e b) = layF4 g e b a := by
  unfold layF3
  rw [putF_ne (by decide +kernel), putF_ne (by decide +kernel), putF_ne (by decide +kernel)]
  rfl
theorem layF_5 (g e b a d : Addr) : putF "binders" (.ref d) (layF4 g e b a) = layF g e b a d := by
  unfold layF4
  rw [putF_ne (by decide +kernel), putF_ne (by decide +kernel), putF_ne (by decide +kernel), putF_ne (by decide +kernel)]
  rfl
theorem look_ne {f g : Str} {x : V} {r : List (Str × V)} (h : (f == g) = false) : ((g, x) :: r).lookup f = r.lookup f := by
  show (match f == g with | true => some x | false => r.lookup f) = _
  rw [h]
theorem lay_signs (g e b a d : Addr) : (layF g e b a d).lookup ("signs" : Str) = some (.ref g) := List.lookup_cons_self
theorem lay_ends (g e b a d : Addr) : (layF g e b a d).lookup ("ends" : Str) = some (.ref e) := by
  unfold layF
  rw [look_ne (by decide +kernel)]
  exact List.lookup_cons_self
theorem lay_below (g e b a d : Addr) : (layF g e b a d).lookup ("below" : Str) = some (.ref b) := by
  unfold layF
  rw [look_ne (by decide +kernel), look_ne (by decide +kernel)]
  exact List.lookup_cons_self
theorem lay_around (g e b a d : Addr) : (layF g e b a d).lookup ("around" : Str) = some (.ref a) := by
  unfold layF
  rw [look_ne (by decide +kernel), look_ne (by decide +kernel), look_ne (by decide +kernel)]
  exact List.lookup_cons_self
theorem lay_binders (g e b a d : Addr) : (layF g e b a d).lookup ("binders" : Str) = some (.ref d) := by
  unfold layF
  rw [look_ne (by decide +kernel), look_ne (by decide +kernel), look_ne (by decide +kernel), look_ne (by decide +kernel)]
  exact List.lookup_cons_self
theorem lay3_below (g e b : Addr) : (layF3 g e b).lookup ("below" : Str) = some (.ref b) := by
  unfold layF3
  rw [look_ne (by decide +kernel), look_ne (by decide +kernel)]
  exact List.lookup_cons_self
theorem lay4_around (g e b a : Addr) : (layF4 g e b a).lookup ("around" : Str) = some (.ref a) := by
  unfold layF4
  rw [look_ne (by decide +kernel), look_ne (by decide +kernel), look_ne (by decide +kernel)]
  exact List.lookup_cons_self
def LayAt (C : Addr) (H : Hp) (l : Addr) (w : Wr) : Prop := ∃ g e b a d dx, H l = some (.ins C dx (layF g e b a d)) ∧ SignsAt H g w ∧ EndsAt H e w ∧ BelowAt H b w ∧ AroundAt H a w ∧ BindAt H d w
theorem LayAt.same {C : Addr} {H H' : Hp} {l : Addr} {w : Wr} (h : LayAt C H l w) (s : Same H H') : LayAt C H' l w := by
  obtain ⟨g, e, b, a, d, dx, h0, h1, h2, h3, h4, h5⟩ := h
  exact ⟨g, e, b, a, d, dx, s _ _ h0, h1.same s, h2.same s, h3.same s, h4.same s, h5.same s⟩
def spSigns (K : PySem.W.Frag) : Sp := fun vs H Q _ => ∃ (v : V) (d : PyData) (w : Wr), vs = [v] ∧ Dp K H v d ∧ Tells d w ∧ w.all okN = true ∧ w.sg ≤ 2000 ∧
  ∀ (g : Addr) (H' : Hp), Same H H' → SignsAt H' g w → Q (.ref g) H'
def spLayI (C : Addr) : Sp := fun vs H Q _ => ∃ (p dx g : Addr) (w : Wr) (H0 : Hp), vs = [.ref p, .ref g] ∧ H p = some (.ins C dx []) ∧ SignsAt H0 g w ∧ Same H0 H ∧ H0 p = none ∧ w.sg ≤ 2000 ∧ w.all okN = true ∧
  ∀ (H' : Hp), Same H0 H' → LayAt C H' p w → Q .non H'
def spLaid (K : PySem.W.Frag) (C : Addr) : Sp := fun vs H Q _ => ∃ (v : V) (y : V) (d : PyData) (w : Wr), vs = [v, y] ∧ Dp K H v d ∧ Tells d w ∧ w.all okN = true ∧ w.sg ≤ 2000 ∧
  ∀ (l : Addr) (H' : Hp), Same H H' → LayAt C H' l w → Q (.ref l) H'
end TG
namespace TF18
open PySem PySem.Spec L2 TG TA
open PyProof.Rows hiding St
abbrev sSigns : Stmt := top 28
theorem scSigns : FnScope ["value", "signs", "left", "part"] ["value"] (defScope sSigns) := ⟨rfl, rfl, rfl, by decide +kernel, rfl, by decide +kernel, by decide +kernel⟩
section
variable {P : Program} {w : World} {K : PySem.W.Frag} {mg : Str → Option Value} {base : Heap} {f f1 : Addr} {fd fd1 : FuncData}
theorem ok_signs_in (F : Fun K "signs_in" "signs_in" sSigns f fd) (T : Bn mg) (Z : Lw mg) (D_is_name : Df K mg "is_name" sName f1 fd1 ["value"]) (G_is_name : FnOk P w K mg base CX0 3 f1 fd1 ["value"] (spName K)) : FnOk P w K mg base CX0 4 f fd ["value"] (spSigns K) := by
  refine F.ok scSigns (fun vs H Q E h => ?_) (fun cdv A outer s H vs Q E hr h => ?_)
  · obtain ⟨v, d, wr, rfl, _⟩ := h
    rfl
  obtain ⟨v, d, wr, rfl, hd, ht, hok, hsg, q⟩ := h
  obtain ⟨tOf, gOf⟩ := Z.of_
  obtain ⟨tTo, gTo⟩ := Z.to_
  obtain ⟨tNm, gNm⟩ := Z.nm_
  refine ⟨_, (pss_cons (ps_set (i := 1) scSigns.nd rfl (.inl rfl) (pe_lst pa_nil))
      (pss_cons (ps_set (i := 2) scSigns.nd rfl (.inl rfl) (pe_lst (pa_cons (pv 0) pa_nil)))
      (pss_cons (ps_while PassesOwn.never (pt_truth (pv 2) (by intro _; rfl))
        (pss_cons (ps_set (i := 3) scSigns.nd rfl (.inl rfl) (pe_bm0 PySem.F.plainAttrs_list PySem.F.slot_list_pop PySem.F.type_list_pop mt_pop (pv 2)))
        (pss_one (ps_if (pt_val (pe_cd D_is_name G_is_name hr (by decide) (pa_cons (pv 3) pa_nil))) (pss_one (ps_expr (pe_bm PySem.F.plainAttrs_list PySem.F.slot_list_append PySem.F.type_list_append mt_append (pv 1) (pa_cons (pe_tup (pa_cons (pe_glob (v := .str "name") rfl gNm ⟨_, rfl⟩) (pa_cons (pv 3) pa_nil))) pa_nil)))) (pss_one (ps_if (PW.pt (pw_or (pt_not (pt_val (pe_callB call_isiT (by rfl) T.b_isinstance (by decide +kernel) (pa_cons (pv 3) (pa_cons (pe_tup (pa_cons (pe_bltn (v := .ty "list") (u := .type "list") (by rfl) T.b_list (by decide +kernel) rfl) (pa_cons (pe_bltn (v := .ty "tuple") (u := .type "tuple") (by rfl) T.b_tuple (by decide +kernel) rfl) pa_nil))) pa_nil))))) (pw_or1 (pt_cmpR op_ne (pe_callB call_len_seq (by rfl) T.b_len (by decide +kernel) (pa_cons (pv 3) pa_nil)) pe_int (nomark _))))) (pss_one (ps_ret pe_non)) (pss_one (ps_if (PW.pt (pw_and (pt_cmpR op_eq (pe_ix ix_seq (pv 3) pe_int (fun _ _ => rfl)) (pe_glob (v := .str "of") rfl gOf ⟨_, rfl⟩) (nomark _)) (pw_and1 (pt_val (pe_cd D_is_name G_is_name hr (by decide) (pa_cons (pe_ix ix_seq (pv 3) pe_int (fun _ _ => rfl)) pa_nil)))))) (pss_cons (ps_expr (pe_bm PySem.F.plainAttrs_list PySem.F.slot_list_append PySem.F.type_list_append mt_append (pv 1) (pa_cons (pe_tup (pa_cons (pe_glob (v := .str "of") rfl gOf ⟨_, rfl⟩) (pa_cons (pe_ix ix_seq (pv 3) pe_int (fun _ _ => rfl)) pa_nil))) pa_nil)))
              (pss_one (ps_expr (pe_bm PySem.F.plainAttrs_list PySem.F.slot_list_append PySem.F.type_list_append mt_append (pv 2) (pa_cons (pe_ix ix_seq (pv 3) pe_int (fun _ _ => rfl)) pa_nil))))) (pss_one (ps_if (pt_cmpR op_eq (pe_ix ix_seq (pv 3) pe_int (fun _ _ => rfl)) (pe_glob (v := .str "to") rfl gTo ⟨_, rfl⟩) (nomark _)) (pss_cons (ps_expr (pe_bm PySem.F.plainAttrs_list PySem.F.slot_list_append PySem.F.type_list_append mt_append (pv 1) (pa_cons (pe_tup (pa_cons (pe_glob (v := .str "to") rfl gTo ⟨_, rfl⟩) (pa_cons pe_non pa_nil))) pa_nil)))
                (pss_one (ps_expr (pe_bm PySem.F.plainAttrs_list PySem.F.slot_list_extend PySem.F.type_list_extend mt_extend (pv 2) (pa_cons (pe_lst (pa_cons (pe_ix ix_seq (pv 3) pe_int (fun _ _ => rfl)) (pa_cons (pe_ix ix_seq (pv 3) pe_int (fun _ _ => rfl)) pa_nil))) pa_nil))))) (pss_one (ps_ret pe_non))))))))))))
      (pss_one (ps_ret (pv 1)))))), ?_⟩
  refine ⟨Nat.zero_le _, fun S hS => ⟨_, rfl, (by show 1 ≤ sizeLine; decide), fun L hL => ?_⟩⟩
  have S0 : H S = none := hS
  have s1 : Same H (L2.upd H S (.lst [])) := same_new hS
  have L0 : H L = none := s1.free hL
  have nSL : S ≠ L := ne_of_none upd_same hL
  refine ⟨fun m σ H2 => ∃ (st : List SE) (ts : List Addr) (v3 : Option V), m = seN st ∧ σ = [some v, some (.ref S), some (.ref L), v3] ∧ Same H H2 ∧ H2 L = some (.lst (st.reverse.map SE.v)) ∧ H2 S = some (.lst (ts.map V.ref)) ∧ (∀ e ∈ st, SEok K H e) ∧
    wr.subs.drop ts.length = seS st ∧ ts.length + seN st = wr.sg ∧ ∀ (i : Nat) (s : Wr) (t : Addr), wr.subs[i]? = some s → ts[i]? = some t → H2 t = some (.tup [.str s.wd, nvV s]), ⟨_, [⟨v, d, wr⟩], [], none, rfl, rfl, same_put s1 L0, by rw [upd_same]; rfl, by rw [upd_ne nSL, upd_same]; rfl, ?_, ?_, ?_, ?_⟩, ?_⟩
  · intro e he
    rw [List.mem_singleton.mp he]
    exact ⟨hd, ht, hok⟩
  · show wr.subs = wr.subs ++ []
    rw [List.append_nil]
  · show 0 + (wr.sg + 0) = wr.sg
    omega
  · intro i s t _ h
    cases h
  rintro m σ H2 ⟨st, ts, v3, rfl, rfl, s2, hl, hg, hst, hdr, hsum, hts⟩
  refine ⟨_, rfl, _, .inl ⟨_, SqL.of hl, rfl⟩, ?_⟩
  cases st with
  | nil =>
    refine iteF ⟨_, rfl, q S H2 s2 ⟨ts, hg, hsum, hts⟩⟩
  | cons e st =>
    obtain ⟨ev, ed, ew⟩ := e
    obtain ⟨e1, e2, e3⟩ := hst _ List.mem_cons_self
    simp only at e1 e2 e3
    have hst2 : ∀ e ∈ st, SEok K H e := fun e he => hst e (List.mem_cons_of_mem _ he)
    have eL : (((⟨ev, ed, ew⟩ : SE) :: st).reverse.map SE.v) = st.reverse.map SE.v ++ [ev] := by
      rw [List.reverse_cons, List.map_append]
      rfl
    rw [eL] at hl ⊢
    have hne : (!(st.reverse.map SE.v ++ [ev]).isEmpty) = true := by simp
    rw [hne]
    have hsum2 : ts.length + (ew.sg + seN st) = wr.sg := hsum
    have ewp := ew.sg_pos
    have hdr2 : wr.subs.drop ts.length = ew.subs ++ seS st := hdr
    have tsl : ts.length + 1 < sizeLine := small_le (by omega)
    refine iteT ⟨_, fun σ' H' z => z, ?_⟩
    refine ⟨_, rfl, .inl ⟨rfl, _, SqL.of hl⟩, L, _, ev, rfl, rfl, hl, last_snoc _ _, ?_⟩
    rw [List.dropLast_concat]
    have s3 : Same H (L2.upd H2 L (.lst (st.reverse.map SE.v))) := same_put s2 L0
    have k3 : ∀ b u, b ≠ L → H2 b = some u → (L2.upd H2 L (.lst (st.reverse.map SE.v))) b = some u := fun b u n e => by rw [upd_ne n]; exact e
    have hl3 : (L2.upd H2 L (.lst (st.reverse.map SE.v))) L = some (.lst (st.reverse.map SE.v)) := upd_same
    have hg3 := k3 _ _ nSL hg
    have tL : ∀ {i : Nat} {s : Wr} {t : Addr}, wr.subs[i]? = some s → ts[i]? = some t → t ≠ L ∧ t ≠ S := fun h1 h2 => by
      have h3 := hts _ _ _ h1 h2
      exact ⟨ne_of h3 hl (by intro z; cases z), ne_of h3 hg (by intro z; cases z)⟩
    have hts3 : ∀ (i : Nat) (s : Wr) (t : Addr), wr.subs[i]? = some s → ts[i]? = some t → (L2.upd H2 L (.lst (st.reverse.map SE.v))) t = some (.tup [.str s.wd, nvV s]) := fun i s t h1 h2 => k3 _ _ (tL h1 h2).1 (hts i s t h1 h2)
    generalize (L2.upd H2 L (.lst (st.reverse.map SE.v))) = H3 at s3 hl3 hg3 hts3 ⊢
    have app : ∀ (H4 : Hp) (t : Addr) (s' : Wr), Same H3 H4 → H4 t = none → wr.subs[ts.length]? = some s' → ∀ H5 : Hp, (∀ b u, b ≠ S → b ≠ L → (L2.upd H4 t (.tup [.str s'.wd, nvV s'])) b = some u → H5 b = some u) →
        ∀ (i : Nat) (s : Wr) (t' : Addr), wr.subs[i]? = some s → (ts ++ [t])[i]? = some t' → H5 t' = some (.tup [.str s.wd, nvV s]) := by
      intro H4 t s' s4 ht0 d1 H5 k5 i s0 t' h1 h2
      by_cases c : i < ts.length
      · rw [List.getElem?_append_left c] at h2
        have h3 := s4 _ _ (hts3 i s0 t' h1 h2)
        exact k5 _ _ (tL h1 h2).2 (tL h1 h2).1 (by rw [upd_ne (ne_of_none h3 ht0)]; exact h3)
      · have hi : i = ts.length := by
          have := lt_get h2
          rw [List.length_append] at this
          have : i < ts.length + 1 := this
          omega
        subst hi
        rw [List.getElem?_append_right (Nat.le_refl _), Nat.sub_self] at h2
        cases h2
        rw [d1] at h1
        cases h1
        exact k5 _ _ (Ne.symm (ne_of_none (s4 _ _ hg3) ht0)) (Ne.symm (ne_of_none (s4 _ _ hl3) ht0)) upd_same
    cases ew with
    | nm z =>
      obtain rfl := dp_nm e1 e2
      refine ⟨_, rfl, .str z, "str", rfl, HasTy.str z, (fun y hy => by cases hy; exact okN_short e3), fun H4 s4 => ?_⟩
      have hn : nameV (.str z) = true := (nameB_ok z).trans e3
      rw [hn]
      refine ⟨_, rfl, iteT ?_⟩
      refine ⟨_, rfl, .inl ⟨rfl, _, SqL.of (s4 _ _ hg3)⟩, _, rfl, (by show 2 ≤ sizeLine; decide), fun t ht0 => ?_⟩
      have nSt : S ≠ t := ne_of_none (s4 _ _ hg3) ht0
      have nLt : L ≠ t := ne_of_none (s4 _ _ hl3) ht0
      have s5 : Same H (L2.upd H4 t (.tup [.str "name", .str z])) := (s3.trans s4).trans (same_new ht0)
      refine ⟨S, _, _, rfl, rfl, by rw [upd_ne nSt]; exact s4 _ _ hg3, by rw [List.length_map]; omega, ?_⟩
      obtain ⟨d1, d2⟩ := drop_step (show wr.subs.drop ts.length = .nm z :: seS st from hdr2)
      refine ⟨_, (by show seN st < 1 + seN st; omega), st, ts ++ [t], _, rfl, rfl, same_put s5 S0, by rw [upd_ne (Ne.symm nSL), upd_ne nLt]; exact s4 _ _ hl3, by rw [upd_same, List.map_append]; rfl, hst2, by rw [List.length_append]; exact d2, by rw [List.length_append]; have : ts.length + (1 + seN st) = wr.sg := hsum2; show ts.length + 1 + seN st = wr.sg; omega, fun i s' t' h1 h2 => ?_⟩
      exact app H4 t _ s4 ht0 d1 _ (fun b u n1 n2 e => by rw [upd_ne n1]; exact e) i s' t' h1 h2
    | of x b =>
      obtain ⟨ea, ve, eb, rfl, hq, h1, h2⟩ := dp_of e1 e2
      obtain ⟨n, hty, hn⟩ := hq.ty
      have okx := (Bool.and_eq_true_iff.mp e3).1
      have okb := (Bool.and_eq_true_iff.mp e3).2
      refine ⟨_, rfl, .ref ea, n, rfl, hty.same s3, (fun y hy => nomatch hy), fun H4 s4 => ⟨_, rfl, iteF ?_⟩⟩
      have s4' := s3.trans s4
      refine ⟨_, rfl, (by show 2 ≤ sizeLine; decide), fun tp htp => ?_⟩
      have s5 := s4.trans (same_new (o := .tup [.ty "list", .ty "tuple"]) htp)
      have s5' := s3.trans s5
      refine ⟨.ref ea, tp, _, _, [.type "list", .type "tuple"], _, rfl, upd_same, .cons (.ty _) (.cons (.ty _) .nil), tyx_same hty.1 s5', kit_lt hty.2, _, rfl, ?_⟩
      rw [hn]
      refine iteF ?_
      refine ⟨_, rfl, ea, _, rfl, hq.same s5', rfl, _, rfl, iteF ?_⟩
      refine ⟨_, rfl, ix_any (i := 0) (hq.same s5') rfl ⟨rfl, _, rfl, iteT ?_⟩⟩
      refine ⟨_, rfl, ix_any (i := 1) (hq.same s5') rfl ⟨.str x, "str", rfl, HasTy.str x, (fun y hy => by cases hy; exact okN_short okx), fun H6 s6 => ?_⟩⟩
      have hnx : nameV (.str x) = true := (nameB_ok x).trans okx
      rw [hnx]
      have s6' := s5.trans s6
      have s6h := s3.trans s6'
      refine ⟨_, rfl, iteT ?_⟩
      refine ⟨_, rfl, .inl ⟨rfl, _, SqL.of (s6' _ _ hg3)⟩, _, rfl, ix_any (i := 1) (hq.same s6h) rfl ⟨(by show 2 ≤ sizeLine; decide), fun t ht0 => ?_⟩⟩
      have nSt : S ≠ t := ne_of_none (s6' _ _ hg3) ht0
      have nLt : L ≠ t := ne_of_none (s6' _ _ hl3) ht0
      have s7 : Same H (L2.upd H6 t (.tup [.str "of", .str x])) := s6h.trans (same_new ht0)
      refine ⟨S, _, _, rfl, rfl, by rw [upd_ne nSt]; exact s6' _ _ hg3, by rw [List.length_map]; omega, ?_⟩
      have hl7 : ∀ o, (L2.upd (L2.upd H6 t (.tup [.str "of", .str x])) S o) L = some (.lst (st.reverse.map SE.v)) := fun o => by rw [upd_ne (Ne.symm nSL), upd_ne nLt]; exact s6' _ _ hl3
      have s8 : ∀ o, Same H (L2.upd (L2.upd H6 t (.tup [.str "of", .str x])) S o) := fun o => same_put s7 S0
      have hsum3 : ts.length + (b.sg + 1 + seN st) = wr.sg := hsum2
      have stl := seN_len st
      refine ⟨_, rfl, .inl ⟨rfl, _, SqL.of (hl7 _)⟩, _, rfl, ix_any (i := 2) (hq.same (s8 _)) rfl ⟨L, _, _, rfl, rfl, hl7 _, by rw [List.length_map, List.length_reverse]; exact small_le (by omega), ?_⟩⟩
      obtain ⟨d1, d2⟩ := drop_step (show wr.subs.drop ts.length = .of x b :: (b.subs ++ seS st) from hdr2)
      refine ⟨_, (by show b.sg + seN st < (b.sg + 1) + seN st; omega), ⟨ve, eb, b⟩ :: st, ts ++ [t], _, rfl, rfl, same_put (s8 _) L0, by rw [upd_same, List.reverse_cons, List.map_append]; rfl, by rw [upd_ne nSL, upd_same, List.map_append]; rfl, ?_, by rw [List.length_append]; exact d2, by rw [List.length_append]; show ts.length + 1 + (b.sg + seN st) = wr.sg; omega, fun i s' t' h1 h2 => ?_⟩
      · intro e he
        rcases List.mem_cons.mp he with rfl | he
        · exact ⟨h1, h2, okb⟩
        · exact hst2 e he
      · exact app H6 t _ s6' ht0 d1 _ (fun b u n1 n2 e => by rw [upd_ne n2, upd_ne n1]; exact e) i s' t' h1 h2
    | to b c =>
      obtain ⟨ea, v1, eb1, v2, eb2, rfl, hq, h1, h2, h3, h4⟩ := dp_to e1 e2
      obtain ⟨n, hty, hn⟩ := hq.ty
      have okb := (Bool.and_eq_true_iff.mp e3).1
      have okc := (Bool.and_eq_true_iff.mp e3).2
      refine ⟨_, rfl, .ref ea, n, rfl, hty.same s3, (fun y hy => nomatch hy), fun H4 s4 => ⟨_, rfl, iteF ?_⟩⟩
      have s4' := s3.trans s4
      refine ⟨_, rfl, (by show 2 ≤ sizeLine; decide), fun tp htp => ?_⟩
      have s5 := s4.trans (same_new (o := .tup [.ty "list", .ty "tuple"]) htp)
      have s5' := s3.trans s5
      refine ⟨.ref ea, tp, _, _, [.type "list", .type "tuple"], _, rfl, upd_same, .cons (.ty _) (.cons (.ty _) .nil), tyx_same hty.1 s5', kit_lt hty.2, _, rfl, ?_⟩
      rw [hn]
      refine iteF ?_
      refine ⟨_, rfl, ea, _, rfl, hq.same s5', rfl, _, rfl, iteF ?_⟩
      refine ⟨_, rfl, ix_any (i := 0) (hq.same s5') rfl ⟨rfl, _, rfl, ?_⟩⟩
      rw [show decide (V.str "to" = V.str "of") = false by decide +kernel]
      refine iteF (iteF ?_)
      refine ⟨_, rfl, ix_any (i := 0) (hq.same s5') rfl ⟨rfl, _, rfl, iteT ?_⟩⟩
      refine ⟨_, rfl, .inl ⟨rfl, _, SqL.of (s5 _ _ hg3)⟩, (by show 2 ≤ sizeLine; decide), fun t ht0 => ?_⟩
      generalize (L2.upd H4 tp (.tup [.ty "list", .ty "tuple"])) = H6 at s5 s5' ht0 ⊢
      have nSt : S ≠ t := ne_of_none (s5 _ _ hg3) ht0
      have nLt : L ≠ t := ne_of_none (s5 _ _ hl3) ht0
      have s7 : Same H (L2.upd H6 t (.tup [.str "to", .non])) := s5'.trans (same_new ht0)
      refine ⟨S, _, _, rfl, rfl, by rw [upd_ne nSt]; exact s5 _ _ hg3, by rw [List.length_map]; omega, ?_⟩
      have hl7 : ∀ o, (L2.upd (L2.upd H6 t (.tup [.str "to", .non])) S o) L = some (.lst (st.reverse.map SE.v)) := fun o => by rw [upd_ne (Ne.symm nSL), upd_ne nLt]; exact s5 _ _ hl3
      have hs7 : ∀ o, (L2.upd (L2.upd H6 t (.tup [.str "to", .non])) S o) S = some o := fun o => upd_same
      have ht7 : ∀ o b u, b ≠ S → (L2.upd H6 t (.tup [.str "to", .non])) b = some u → (L2.upd (L2.upd H6 t (.tup [.str "to", .non])) S o) b = some u := fun o b u n e => by rw [upd_ne n]; exact e
      have s8 : ∀ o, Same H (L2.upd (L2.upd H6 t (.tup [.str "to", .non])) S o) := fun o => same_put s7 S0
      have hsum3 : ts.length + (b.sg + c.sg + 1 + seN st) = wr.sg := hsum2
      have stl := seN_len st
      refine ⟨_, rfl, .inl ⟨rfl, _, SqL.of (hl7 _)⟩, _, rfl, ix_any (i := 2) (hq.same (s8 _)) rfl ⟨_, rfl, ix_any (i := 1) (hq.same (s8 _)) rfl ⟨(by show 2 ≤ sizeLine; decide), fun z hz => ?_⟩⟩⟩
      have nLz : L ≠ z := ne_of_none (hl7 _) hz
      have nSz : S ≠ z := ne_of_none (hs7 _) hz
      refine ⟨L, z, _, _, rfl, rfl, by rw [upd_ne nLz]; exact hl7 _, upd_same, by rw [List.length_map, List.length_reverse]; exact Nat.le_of_lt (small_le (by show st.length + 2 ≤ 1000000; omega)), ?_⟩
      obtain ⟨d1, d2⟩ := drop_step (show wr.subs.drop ts.length = .to b c :: ((b.subs ++ c.subs) ++ seS st) from hdr2)
      refine ⟨_, (by show b.sg + (c.sg + seN st) < (b.sg + c.sg + 1) + seN st; omega), ⟨v1, eb1, b⟩ :: ⟨v2, eb2, c⟩ :: st, ts ++ [t], _, rfl, rfl, same_put ((s8 _).trans (same_new hz)) L0, by rw [upd_same, List.reverse_cons, List.reverse_cons, List.map_append, List.map_append, List.append_assoc]; rfl, by rw [upd_ne nSL, upd_ne nSz, upd_same, List.map_append]; rfl, ?_, by rw [List.length_append]; exact d2.trans (by rw [List.append_assoc]; rfl), by rw [List.length_append]; show ts.length + 1 + (b.sg + (c.sg + seN st)) = wr.sg; omega, fun i s' t' h1 h2 => ?_⟩
      · intro e he
        rcases List.mem_cons.mp he with rfl | he
        · exact ⟨h1, h2, okb⟩
        rcases List.mem_cons.mp he with rfl | he
        · exact ⟨h3, h4, okc⟩
        · exact hst2 e he
      · exact app H6 t _ s5 ht0 d1 _ (fun b u n1 n2 e => by rw [upd_ne n2, upd_ne (ne_of_none (ht7 _ b u n1 e) hz)]; exact ht7 _ b u n1 e) i s' t' h1 h2
end
end TF18
namespace TF18
open PySem PySem.Spec L2 TG TA
open PyProof.Rows hiding St
abbrev sLayI : Stmt := inClass (top 25) 0
abbrev sLaid : Stmt := top 29
theorem scLayI : FnScope ["self", "signs", "word", "_", "at"] ["self", "signs"] (defScope sLayI) := ⟨rfl, rfl, rfl, by decide +kernel, rfl, by decide +kernel, by decide +kernel⟩
theorem scLaid : FnScope ["value", "part", "signs"] ["value", "part"] (defScope sLaid) := ⟨rfl, rfl, rfl, by decide +kernel, rfl, by decide +kernel, by decide +kernel⟩
section
variable {P : Program} {w : World} {K : PySem.W.Frag} {mg : Str → Option Value} {base : Heap} {f f1 f2 f3 : Addr} {fd fd1 fd2 fd3 : FuncData}
theorem ok_layI {C : Addr} (F : Fun K "__init__" "Layout.__init__" sLayI f fd) (T : Bn mg) (Z : LayC K mg C f) (D_bounds_in : Df K mg "bounds_in" sBounds f1 fd1 ["row"]) (G_bounds_in : FnOk P w K mg base CX0 1 f1 fd1 ["row"] spBounds)
    (D_ofs_around : Df K mg "ofs_around" sAround f2 fd2 ["signs", "below"]) (G_ofs_around : FnOk P w K mg base CX0 1 f2 fd2 ["signs", "below"] spAround)
    (D_binder_of : Df K mg "binder_of" sBinder f3 fd3 ["signs", "around", "at"]) (G_binder_of : FnOk P w K mg base CX0 1 f3 fd3 ["signs", "around", "at"] spBinder) : FnOk P w K mg base CX0 2 f fd ["self", "signs"] (spLayI C) := by
  refine F.ok scLayI (fun vs H Q E h => ?_) (fun cdv A outer s H vs Q E hr h => ?_)
  · obtain ⟨p, dx, g, wr, H0, rfl, _⟩ := h
    rfl
  obtain ⟨p, dx, g, wr, H0, rfl, hp, hsg, s0, p0, hn, hok, q⟩ := h
  refine ⟨_, (pss_cons (ps_fld (pv 0) (pv 1) rfl)
      (pss_cons (ps_asg (pe_cd D_bounds_in G_bounds_in hr (by decide) (pa_cons (pe_lc (own := [("word", 2), ("_", 3)]) (g := (gTup K 2 (gCons (gName 2) (gCons (gName 3) gNil)))) (by rfl) scLayI.nd (pi_list (pv 1)) (blkOk_by (own := [("word", 2), ("_", 3)]) (N := ["self", "signs", "word", "_", "at"]) (sc := defScope sLayI) (by decide +kernel)) (fun _ _ _ _ _ => (pg_tup (by rfl) (pgs_cons (pg_name (i := 2) scLayI.nd rfl (.inl rfl)) (pgs_cons (pg_name (i := 3) scLayI.nd rfl (.inl rfl)) pgs_nil)))) (fun _ _ _ _ _ => pts_nil) (fun _ _ _ _ _ => (pv 2))) pa_nil)) (pg_tup (by rfl) (pgs_cons (pg_fld (pv 0)) (pgs_cons (pg_fld (pv 0)) pgs_nil))))
      (pss_cons (ps_fld (pv 0) (pe_cd D_ofs_around G_ofs_around hr (by decide) (pa_cons (pv 1) (pa_cons (pe_fld (pv 0) (by rfl)) pa_nil))) rfl)
      (pss_one (ps_fld (pv 0) (pe_lc (own := [("at", 4)]) (g := (gName 4)) (by rfl) scLayI.nd (pi_range1 (by rfl) T.b_range (pa_cons (pe_callB call_len_seq (by rfl) T.b_len (by decide +kernel) (pa_cons (pv 1) pa_nil)) pa_nil)) (blkOk_by (own := [("at", 4)]) (N := ["self", "signs", "word", "_", "at"]) (sc := defScope sLayI) (by decide +kernel)) (fun _ _ _ _ _ => (pg_name (i := 4) scLayI.nd rfl (.inl rfl))) (fun _ _ _ _ _ => pts_nil) (fun _ _ _ _ _ => (pe_cd D_binder_of G_binder_of hr (by decide) (pa_cons (pv 1) (pa_cons (show PE _ _ (tFld K (tVar 0) "around") from pe_fld (pv 0) (by rfl)) (pa_cons (pv 4) pa_nil)))))) rfl))))), ?_⟩
  refine ⟨_, rfl, _, rfl, p, C, dx, [], rfl, hp, Z.cl, Z.nS, (by show 0 < 1000; decide), ?_⟩
  have s1 : Same H0 (L2.upd H p (.ins C dx (layF1 g))) := same_put s0 p0
  rw [show putF ("signs" : Str) (V.ref g) [] = layF1 g from rfl]
  have hp1 : (L2.upd H p (.ins C dx (layF1 g))) p = some (.ins C dx (layF1 g)) := upd_same
  generalize (L2.upd H p (.ins C dx (layF1 g))) = H1 at s1 hp1 ⊢
  obtain ⟨ts, hg, hgl, hgt⟩ := hsg
  have hnl : (ts.map V.ref).length = wr.sg := by rw [List.length_map, hgl]
  refine ⟨_, rfl, g, rfl, ⟨_, SqL.of (s1 _ _ hg)⟩, fun D hD => ?_⟩
  have D0 : H0 D = none := s1.free hD
  have nDp : D ≠ p := Ne.symm (ne_of_none hp1 hD)
  refine lc_it (walk_list (xs := ts.map V.ref)) (fun i H2 => Same H1 H2 ∧ H2 D = some (.lst ((wdV wr).take i))) ?_ ?_ ?_ ?_
  · exact ⟨same_new hD, by rw [upd_same, List.take_zero]⟩
  · rintro i H2 _ ⟨s2, _⟩
    exact SqL.of (s2 _ _ (s1 _ _ hg))
  · rintro i x H2 H3 hi ⟨s2, h2⟩ ⟨rfl, hx⟩
    rw [List.getElem?_map] at hx
    obtain ⟨t, ht, rfl⟩ := Option.map_eq_some_iff.mp hx
    rw [hnl] at hi
    obtain ⟨s', hs'⟩ := wr_get wr hi
    have ht2 := s2 _ _ (s1 _ _ (hgt i s' t hs' ht))
    refine ⟨t, _, rfl, SqT.of ht2, rfl, _, _, rfl, _, _, rfl, rfl, rfl, _, rfl, _, h2, by rw [List.length_take, wdV_len]; exact small_le (by omega), ?_, ?_⟩
    · exact same_put s2 hD
    · rw [upd_same, take_snoc (wdV_at hs')]
  rintro H2 ⟨s2, h2⟩
  rw [hnl, List.take_of_length_le (by rw [wdV_len]; exact Nat.le_refl _)] at h2
  have hp2 := s2 _ _ hp1
  refine ⟨D, wr, rfl, h2, hn, fun t e b H3 s3 ht he hb => ?_⟩
  have hp3 := s3 _ _ hp2
  have s13 : Same H0 H3 := s1.trans (s2.trans s3)
  refine ⟨t, _, rfl, SqT.of ht, rfl, _, _, rfl, _, rfl, p, C, dx, _, rfl, hp3, Z.cl, Z.nE, (by show 1 < 1000; decide), ?_⟩
  rw [layF_2]
  refine ⟨_, _, rfl, _, rfl, p, C, dx, _, rfl, upd_same, Z.cl, Z.nB, (by show 2 < 1000; decide), ?_⟩
  rw [layF_3]
  refine ⟨rfl, ?_⟩
  have s4 : Same H0 (L2.upd (L2.upd H3 p (.ins C dx (layF2 g e))) p (.ins C dx (layF3 g e b))) := same_put (same_put s13 p0) p0
  have k4 : ∀ b' u, b' ≠ p → H3 b' = some u → (L2.upd (L2.upd H3 p (.ins C dx (layF2 g e))) p (.ins C dx (layF3 g e b))) b' = some u := fun b' u n h => by rw [upd_ne n, upd_ne n]; exact h
  have hp4 : (L2.upd (L2.upd H3 p (.ins C dx (layF2 g e))) p (.ins C dx (layF3 g e b))) p = some (.ins C dx (layF3 g e b)) := upd_same
  generalize (L2.upd (L2.upd H3 p (.ins C dx (layF2 g e))) p (.ins C dx (layF3 g e b))) = H4 at s4 k4 hp4 ⊢
  have sg4 : SignsAt H4 g wr := SignsAt.same ⟨ts, hg, hgl, hgt⟩ s4
  have ne_p : ∀ {c : Addr} {xs : List V}, H3 c = some (.lst xs) → c ≠ p := fun h => ne_of h hp3 (by intro z; cases z)
  have he4 : EndsAt H4 e wr := let ⟨xs, h1, h2, h3⟩ := he; ⟨xs, k4 _ _ (ne_p h1) h1, h2, h3⟩
  have hb4 : BelowAt H4 b wr := let ⟨bs, h1, h2, h3⟩ := hb; ⟨bs, k4 _ _ (ne_p h1) h1, h2, fun i s' a' z1 z2 => k4 _ _ (ne_p (h3 i s' a' z1 z2)) (h3 i s' a' z1 z2)⟩
  refine ⟨_, rfl, _, rfl, p, C, dx, _, _, rfl, hp4, Z.cl, Z.nB, lay3_below g e b, g, b, wr, rfl, sg4, hb4, hn, fun a H5 s5 ha => ?_⟩
  have hp5 := s5 _ _ hp4
  refine ⟨_, rfl, p, C, dx, _, rfl, hp5, Z.cl, Z.nA, (by show 3 < 1000; decide), ?_⟩
  rw [layF_4]
  have s6 : Same H0 (L2.upd H5 p (.ins C dx (layF4 g e b a))) := same_put (s4.trans s5) p0
  have k6 : ∀ b' u, b' ≠ p → H5 b' = some u → (L2.upd H5 p (.ins C dx (layF4 g e b a))) b' = some u := fun b' u n h => by rw [upd_ne n]; exact h
  have hp6 : (L2.upd H5 p (.ins C dx (layF4 g e b a))) p = some (.ins C dx (layF4 g e b a)) := upd_same
  generalize (L2.upd H5 p (.ins C dx (layF4 g e b a))) = H6 at s6 k6 hp6 ⊢
  have ne_q : ∀ {c : Addr} {xs : List V}, H5 c = some (.lst xs) → c ≠ p := fun h => ne_of h hp5 (by intro z; cases z)
  have sg6 : SignsAt H6 g wr := SignsAt.same ⟨ts, hg, hgl, hgt⟩ s6
  have he6 : EndsAt H6 e wr := let ⟨xs, h1, h2, h3⟩ := he4.same s5; ⟨xs, k6 _ _ (ne_q h1) h1, h2, h3⟩
  have hb6 : BelowAt H6 b wr := let ⟨bs, h1, h2, h3⟩ := hb4.same s5; ⟨bs, k6 _ _ (ne_q h1) h1, h2, fun i s' a' z1 z2 => k6 _ _ (ne_q (h3 i s' a' z1 z2)) (h3 i s' a' z1 z2)⟩
  have ha6 : AroundAt H6 a wr := let ⟨xs, h1, h2, h3⟩ := ha; ⟨xs, k6 _ _ (ne_q h1) h1, h2, h3⟩
  refine ⟨_, rfl, g, _, rfl, .inl (SqL.of (s6 _ _ hg)), _, rfl, by omega, by rw [hnl]; omega, fun D2 hD2 => ?_⟩
  rw [hnl]
  have nDp2 : p ≠ D2 := ne_of_none hp6 hD2
  refine lc_range (lo := 0) (n := wr.sg) (fun i H7 => ∃ xs : List V, Same H6 H7 ∧ H7 D2 = some (.lst xs) ∧ xs.length = i ∧ ∀ j, j < i → xs[j]? = some (optV (wr.bnd j))) ?_ ?_ ?_
  · exact ⟨[], same_new hD2, upd_same, rfl, fun j hj => absurd hj (Nat.not_lt_zero j)⟩
  · rintro i H7 hi ⟨xs, s7, h7, hx, hxs⟩
    have hp7 := s7 _ _ hp6
    refine ⟨rfl, _, rfl, _, rfl, p, C, dx, _, _, rfl, hp7, Z.cl, Z.nA, lay4_around g e b a, _, rfl, g, a, wr, i, ?_, sg6.same s7, ha6.same s7, hi, hn, hok, xs, h7, small_le (by omega), xs ++ [optV (wr.bnd i)], same_put s7 hD2, upd_same, by rw [List.length_append, hx]; rfl, fun j hj => ?_⟩
    · show [V.ref g, V.ref a, V.int (0 + (i : Int))] = [V.ref g, V.ref a, V.int (i : Int)]
      rw [Int.zero_add]
    · by_cases c : j < i
      · rw [List.getElem?_append_left (by omega)]
        exact hxs j c
      · obtain rfl : j = i := by omega
        rw [List.getElem?_append_right (by omega), hx, Nat.sub_self]
        rfl
  rintro H7 ⟨xs, s7, h7, hx, hxs⟩
  have hp7 := s7 _ _ hp6
  refine ⟨_, rfl, p, C, dx, _, rfl, hp7, Z.cl, Z.nI, (by show 4 < 1000; decide), ?_⟩
  rw [layF_5]
  have k8 : ∀ b' u, b' ≠ p → H7 b' = some u → (L2.upd H7 p (.ins C dx (layF g e b a D2))) b' = some u := fun b' u n h => by rw [upd_ne n]; exact h
  have ne_r : ∀ {c : Addr} {xs : List V}, H7 c = some (.lst xs) → c ≠ p := fun h => ne_of h hp7 (by intro z; cases z)
  refine q _ (same_put (s6.trans s7) p0) ⟨g, e, b, a, D2, dx, upd_same, SignsAt.same ⟨ts, hg, hgl, hgt⟩ (same_put (s6.trans s7) p0), ?_, ?_, ?_, ?_⟩
  · exact let ⟨xs, h1, h2, h3⟩ := he6.same s7; ⟨xs, k8 _ _ (ne_r h1) h1, h2, h3⟩
  · exact let ⟨bs, h1, h2, h3⟩ := hb6.same s7; ⟨bs, k8 _ _ (ne_r h1) h1, h2, fun i s' a' z1 z2 => k8 _ _ (ne_r (h3 i s' a' z1 z2)) (h3 i s' a' z1 z2)⟩
  · exact let ⟨xs, h1, h2, h3⟩ := ha6.same s7; ⟨xs, k8 _ _ (ne_r h1) h1, h2, h3⟩
  · exact ⟨xs, k8 _ _ (ne_r h7) h7, hx, fun i hi => hxs i hi⟩
theorem ok_laid {C : Addr} (F : Fun K "laid_out" "laid_out" sLaid f fd) (T : Bn mg) (Z : LayC K mg C f2) (D_signs_in : Df K mg "signs_in" sSigns f1 fd1 ["value"]) (G_signs_in : FnOk P w K mg base CX0 4 f1 fd1 ["value"] (spSigns K))
    (bI : Binds K fd2 ["self", "signs"] []) (G_Layout : FnOk P w K mg base CX0 2 f2 fd2 ["self", "signs"] (spLayI C)) : FnOk P w K mg base CX0 5 f fd ["value", "part"] (spLaid K C) := by
  refine F.ok scLaid (fun vs H Q E h => ?_) (fun cdv A outer s H vs Q E hr h => ?_)
  · obtain ⟨v, y, d, wr, rfl, _⟩ := h
    rfl
  obtain ⟨v, y, d, wr, rfl, hd, ht, hok, hn, q⟩ := h
  refine ⟨_, (pss_cons (ps_set (i := 2) scLaid.nd rfl (.inl rfl) (pe_cd D_signs_in G_signs_in hr (by decide) (pa_cons (pv 0) pa_nil)))
      (pss_cons (ps_if (pt_cmpR op_isN (pv 2) pe_non (nomark _)) (pss_one ps_never) pss_nil)
      (pss_one (ps_ret (pe_make Z.mk_ G_Layout (hr.mono (by decide)) rfl Z.mgC bI .nil pass0 (pa_cons (pv 2) pa_nil)))))), ?_⟩
  refine ⟨_, rfl, v, d, wr, rfl, hd, ht, hok, hn, fun g H1 s1 hg => ⟨_, rfl, rfl, _, rfl, iteF ?_⟩⟩
  refine ⟨_, rfl, fun x dx hx hdx ne => ?_⟩
  have s2 : Same H1 (L2.upd (L2.upd H1 dx (.own x)) x (.ins C dx [])) := same_put (same_new hdx) hx
  exact ⟨x, dx, g, wr, H1, rfl, upd_same, hg, s2, hx, hn, hok, fun H2 s3 hl => ⟨rfl, q x H2 (s1.trans s3) hl⟩⟩
end
end TF18
/-! the free names off a layout -/
namespace TG
open PySem PySem.Spec L2
open PyProof.Rows hiding St
/-- the sign at i is a free name -/
def frP (w : Wr) (i : Nat) : Bool := match w.subs[i]? with
  | some (.nm z) => decide (Wr.find z (w.env i) = none)
  | _ => false
theorem frIx_eq (w : Wr) : w.frIx = (List.range w.sg).filter (frP w) := rfl
theorem frIx_lt {w : Wr} {i : Nat} (h : i ∈ w.frIx) : i < w.sg := List.mem_range.mp (List.mem_filter.mp h).1
theorem frIx_len (w : Wr) : w.frIx.length ≤ w.sg := Nat.le_trans (List.length_filter_le _ _) (by rw [List.length_range]; exact Nat.le_refl _)
theorem frP_nm {w : Wr} {i : Nat} (h : frP w i = true) : ∃ z, w.subs[i]? = some (.nm z) ∧ Wr.find z (w.env i) = none := by
  unfold frP at h
  cases e : w.subs[i]? with
  | none => rw [e] at h; cases h
  | some s =>
    rw [e] at h
    cases s with
    | nm z => exact ⟨z, rfl, of_decide_eq_true h⟩
    | of _ _ => cases h
    | to _ _ => cases h
theorem frIx_nm {w : Wr} {i : Nat} (h : i ∈ w.frIx) : ∃ z, w.subs[i]? = some (.nm z) ∧ Wr.find z (w.env i) = none ∧ w.nmAt i = z := by
  obtain ⟨z, h1, h2⟩ := frP_nm (List.mem_filter.mp (frIx_eq w ▸ h)).2
  refine ⟨z, h1, h2, ?_⟩
  unfold Wr.nmAt
  rw [h1]
/-- names as the keys of a dict, each with True -/
def keysT (ns : List Str) : List (Key × V) := ns.map fun z => (Sum.inr z, V.bl true)
theorem keysT_put (ns : List Str) (z : Str) : putK (keysT ns) (Sum.inr z : Key) (.bl true) = keysT (Wr.ins ns z) := by
  unfold putK Wr.ins keysT
  by_cases c : z ∈ ns
  · rw [if_pos c, if_pos (by simp [c]), List.map_map]
    refine List.map_congr_left fun y _ => ?_
    show (if (Sum.inr y : Key) = Sum.inr z then _ else _) = _
    by_cases d : (Sum.inr y : Key) = Sum.inr z
    · rw [if_pos d]
    · rw [if_neg d]
  · rw [if_neg c, if_neg (by simp [c]), List.map_append]
    rfl
theorem keysT_len (ns : List Str) : (keysT ns).length = ns.length := List.length_map _
theorem ins_len (f : List Str) (z : Str) : (Wr.ins f z).length ≤ f.length + 1 := by
  unfold Wr.ins
  split
  · exact Nat.le_succ _
  · rw [List.length_append]; exact Nat.le_refl _
theorem foldl_len (l f : List Str) : (l.foldl Wr.ins f).length ≤ f.length + l.length := by
  induction l generalizing f with
  | nil => exact Nat.le_refl _
  | cons z l ih =>
    have h1 := ih (Wr.ins f z)
    have h2 := ins_len f z
    show (l.foldl Wr.ins (Wr.ins f z)).length ≤ f.length + (l.length + 1)
    omega
def natV (l : List Nat) : List V := l.map fun (i : Nat) => V.int (i : Int)
def spFreeS (C : Addr) : Sp := fun vs H Q _ => ∃ (l : Addr) (w : Wr), vs = [.ref l] ∧ LayAt C H l w ∧ w.sg ≤ 2000 ∧
  ∀ (a : Addr) (H' : Hp), Same H H' → H' a = some (.lst (natV w.frIx)) → Q (.ref a) H'
def spFreeI (C : Addr) : Sp := fun vs H Q _ => ∃ (l : Addr) (w : Wr), vs = [.ref l] ∧ LayAt C H l w ∧ w.sg ≤ 2000 ∧
  ∀ (t : Addr) (H' : Hp), Same H H' → H' t = some (.tup (w.fr.map V.str)) → Q (.ref t) H'
end TG
namespace TF18
open PySem PySem.Spec L2 TG TA
open PyProof.Rows hiding St
abbrev sFreeS : Stmt := top 33
abbrev sFreeI : Stmt := top 34
theorem scFreeS : FnScope ["layout", "at", "word", "_"] ["layout"] (defScope sFreeS) := ⟨rfl, rfl, rfl, by decide +kernel, rfl, by decide +kernel, by decide +kernel⟩
theorem scFreeI : FnScope ["layout", "found", "at"] ["layout"] (defScope sFreeI) := ⟨rfl, rfl, rfl, by decide +kernel, rfl, by decide +kernel, by decide +kernel⟩
section
variable {P : Program} {w : World} {K : PySem.W.Frag} {mg : Str → Option Value} {base : Heap} {f f1 f2 f3 : Addr} {fd fd1 fd2 fd3 : FuncData}
theorem ok_freeS {C fI : Addr} (F : Fun K "free_signs" "free_signs" sFreeS f fd) (T : Bn mg) (W : Lw mg) (Z : LayC K mg C fI) : FnOk P w K mg base CX0 1 f fd ["layout"] (spFreeS C) := by
  refine F.ok scFreeS (fun vs H Q E h => ?_) (fun cdv A outer s H vs Q E hr h => ?_)
  · obtain ⟨l, wr, rfl, _⟩ := h
    rfl
  obtain ⟨l, wr, rfl, ⟨g, e, b, a, d, dx, hl, ⟨ts, hg, hgl, hgt⟩, he, hb, ha, ⟨xs, hd, hx, hxs⟩⟩, hn, q⟩ := h
  obtain ⟨tNm, gNm⟩ := W.nm_
  refine ⟨_, (pss_one (ps_ret (pe_lc (own := [("at", 1), ("word", 2), ("_", 3)]) (g := (gTup K 2 (gCons (gName 1) (gCons (gTup K 2 (gCons (gName 2) (gCons (gName 3) gNil))) gNil)))) (by rfl) scFreeS.nd (pi_enum (by rfl) T.b_enumerate (pa_cons (pe_fld (pv 0) (by rfl)) pa_nil)) (blkOk_by (own := [("at", 1), ("word", 2), ("_", 3)]) (N := ["layout", "at", "word", "_"]) (sc := defScope sFreeS) (by decide +kernel)) (fun _ _ _ _ _ => (pg_tup (by rfl) (pgs_cons (pg_name (i := 1) scFreeS.nd rfl (.inl rfl)) (pgs_cons (pg_tup (by rfl) (pgs_cons (pg_name (i := 2) scFreeS.nd rfl (.inl rfl)) (pgs_cons (pg_name (i := 3) scFreeS.nd rfl (.inl rfl)) pgs_nil))) pgs_nil)))) (fun _ _ _ _ _ => (pts_one (PW.pt (pw_and (pt_cmpR op_eq (pv 2) (pe_glob (v := .str "name") rfl gNm ⟨_, rfl⟩) (nomark _)) (pw_and1 (pt_cmpR op_isN (pe_ix (show IxR _ (rIxL K) from ix_list) (show PE _ _ (tFld K (tVar 0) "binders") from pe_fld (pv 0) (by rfl)) (pv 1) (fun _ _ => rfl)) pe_non (nomark _))))))) (fun _ _ _ _ _ => (pv 1))))), ?_⟩
  have hn2 : (ts.map V.ref).length = wr.sg := by rw [List.length_map, hgl]
  refine ⟨_, rfl, l, C, dx, _, _, rfl, hl, Z.cl, Z.nS, lay_signs g e b a d, g, _, rfl, SqL.of hg, fun D hD => ?_⟩
  have nlD : l ≠ D := ne_of_none hl hD
  refine lc_it (walk_enum (xs := ts.map V.ref)) (fun i H2 => Same H H2 ∧ H2 D = some (.lst (natV ((List.range i).filter (frP wr))))) ?_ ?_ ?_ ?_
  · exact ⟨same_new hD, upd_same⟩
  · rintro i H2 _ ⟨s2, _⟩
    exact SqL.of (s2 _ _ hg)
  · rintro i x H2 H3 hi ⟨s2, h2⟩ ⟨tp, y1, y2, rfl, htp, rfl, e1, e2⟩
    cases e1
    rw [hn2] at hi
    obtain ⟨s', hs'⟩ := wr_get wr hi
    have e2 : (ts.map V.ref)[i]? = some y2 := e2
    rw [List.getElem?_map] at e2
    obtain ⟨t, ht, rfl⟩ := Option.map_eq_some_iff.mp e2
    have s3 : Same H (L2.upd H2 tp (.tup [.int ((i : Nat) : Int), .ref t])) := s2.trans (same_new htp)
    have ht2 := s3 _ _ (hgt i s' t hs' ht)
    have nDt : D ≠ tp := ne_of_none h2 htp
    have h3 : (L2.upd H2 tp (.tup [.int ((i : Nat) : Int), .ref t])) D = some (.lst (natV ((List.range i).filter (frP wr)))) := by rw [upd_ne nDt]; exact h2
    have hlen : (natV ((List.range i).filter (frP wr))).length < sizeLine := by
      unfold natV
      rw [List.length_map]
      have := List.length_filter_le (frP wr) (List.range i)
      rw [List.length_range] at this
      exact small_le (by omega)
    refine ⟨tp, _, rfl, SqT.of upd_same, rfl, _, _, rfl, _, _, rfl, t, _, rfl, SqT.of ht2, rfl, _, _, rfl, _, _, rfl, rfl, rfl, rfl, ?_⟩
    refine ⟨_, rfl, rfl, _, rfl, ?_⟩
    have goNo : frP wr i = false → Same H (L2.upd H2 tp (.tup [.int ((i : Nat) : Int), .ref t])) ∧ (L2.upd H2 tp (.tup [.int ((i : Nat) : Int), .ref t])) D = some (.lst (natV ((List.range (i + 1)).filter (frP wr)))) := fun c => by
      refine ⟨s3, ?_⟩
      rw [h3, List.range_succ, List.filter_append, List.filter_cons_of_neg (by rw [c]; exact Bool.false_ne_true)]
      simp
    cases s' with
    | of x b' =>
      rw [show decide (V.str (Wr.of x b').wd = V.str "name") = false from (by decide +kernel : decide (V.str "of" = V.str "name") = false)]
      exact iteF (iteF (goNo (by unfold frP; rw [hs'])))
    | to b' c' =>
      rw [show decide (V.str (Wr.to b' c').wd = V.str "name") = false from (by decide +kernel : decide (V.str "to" = V.str "name") = false)]
      exact iteF (iteF (goNo (by unfold frP; rw [hs'])))
    | nm z =>
      refine iteT ⟨_, rfl, l, C, dx, _, _, rfl, s3 _ _ hl, Z.cl, Z.nI, lay_binders g e b a d, _, rfl, d, _, _, _, rfl, rfl, SqL.of (s3 _ _ hd), atI_nat (hxs i hi), rfl, _, rfl, ?_⟩
      have eb : wr.bnd i = Wr.find z (wr.env i) := by unfold Wr.bnd; rw [hs']
      rw [eb]
      cases c : Wr.find z (wr.env i) with
      | none =>
        have c2 : frP wr i = true := by unfold frP; rw [hs']; exact decide_eq_true c
        refine iteT ?_
        refine ⟨_, rfl, _, h3, hlen, same_put s3 hD, ?_⟩
        rw [upd_same, List.range_succ, List.filter_append, List.filter_cons_of_pos c2]
        unfold natV
        rw [List.map_append]
        rfl
      | some j =>
        have c2 : frP wr i = false := by unfold frP; rw [hs']; exact decide_eq_false (by rw [c]; exact fun z => nomatch z)
        exact iteF (goNo c2)
  · rintro H2 ⟨s2, h2⟩
    rw [hn2] at h2
    exact q D H2 s2 h2
theorem ok_freeI {C fI : Addr} (F : Fun K "free_in" "free_in" sFreeI f fd) (T : Bn mg) (Z : LayC K mg C fI) (D_free_signs : Df K mg "free_signs" sFreeS f1 fd1 ["layout"]) (G_free_signs : FnOk P w K mg base CX0 1 f1 fd1 ["layout"] (spFreeS C)) : FnOk P w K mg base CX0 2 f fd ["layout"] (spFreeI C) := by
  refine F.ok scFreeI (fun vs H Q E h => ?_) (fun cdv A outer s H vs Q E hr h => ?_)
  · obtain ⟨l, wr, rfl, _⟩ := h
    rfl
  obtain ⟨l, wr, rfl, hL, hn, q⟩ := h
  refine ⟨_, (pss_cons (ps_set (i := 1) scFreeI.nd rfl (.inl rfl) pe_dnewK)
      (pss_cons (ps_for PassesOwn.never rfl (pi_list (pe_cd D_free_signs G_free_signs hr (by decide) (pa_cons (pv 0) pa_nil))) (pg_name (i := 2) scFreeI.nd rfl (.inl rfl))
        (pss_one (ps_dput (hu_of hr) (pv 1) (pe_ix ix_tup (pe_ix ix_list (pe_fld (pv 0) (by rfl)) (pv 2) (fun _ _ => rfl)) pe_int (fun _ _ => rfl)) pe_bl rfl)))
      (pss_one (ps_ret (pe_callTy (call_tupleD rfl) (by rfl) T.b_tuple (by decide +kernel) (pa_cons (pv 1) pa_nil)))))), ?_⟩
  refine fun fd0 hfd => ?_
  have s1 : Same H (L2.upd H fd0 (.dK [])) := same_new hfd
  refine ⟨_, rfl, l, wr, rfl, hL.same s1, hn, fun ix H1 s2 hix => ⟨ix, rfl, ⟨_, SqL.of hix⟩, ?_⟩⟩
  obtain ⟨g, e, b, a, d, dx, hl, ⟨ts, hg, hgl, hgt⟩, _⟩ := hL.same (s1.trans s2)
  have hfd1 : H1 fd0 = some (.dK []) := s2 _ _ upd_same
  have nfi : ix ≠ fd0 := ne_of hix hfd1 (by intro z; cases z)
  have nfl : l ≠ fd0 := ne_of hl hfd1 (by intro z; cases z)
  have nfg : g ≠ fd0 := ne_of hg hfd1 (by intro z; cases z)
  refine for_list (xs := natV wr.frIx) (fun k σ H2 => ∃ v : Option V, σ = [some (.ref l), some (.ref fd0), v] ∧ Same H H2 ∧ (∀ b' u, b' ≠ fd0 → H1 b' = some u → H2 b' = some u) ∧ H2 fd0 = some (.dK (keysT (((wr.frIx.take k).map wr.nmAt).foldl Wr.ins [])))) ?_ ?_ ?_ ?_
  · exact ⟨none, rfl, s1.trans s2, fun _ _ _ e => e, by rw [List.take_zero]; exact hfd1⟩
  · rintro k σ H2 _ ⟨v, _, _, k2, _⟩
    exact SqL.of (k2 _ _ nfi hix)
  · rintro k x σ H2 hx ⟨v, rfl, s3, k2, h2⟩
    unfold natV at hx
    rw [List.getElem?_map] at hx
    obtain ⟨i, hi, rfl⟩ := Option.map_eq_some_iff.mp hx
    obtain ⟨z, hz, _, hzn⟩ := frIx_nm (mem_get hi)
    have hin := Wr.subs_lt hz
    obtain ⟨t, ht⟩ : ∃ t, ts[i]? = some t := get_lt (by rw [hgl]; exact hin)
    have ht2 := hgt i _ t hz ht
    have nft : t ≠ fd0 := ne_of ht2 hfd1 (by intro z; cases z)
    refine ⟨_, rfl, _, rfl, l, C, dx, _, _, rfl, k2 _ _ nfl hl, Z.cl, Z.nS, lay_signs g e b a d, _, rfl, g, _, _, .ref t, rfl, rfl, SqL.of (k2 _ _ nfg hg), atI_nat (j := i) (by rw [List.getElem?_map, ht]; rfl), t, _, _, .str z, rfl, rfl, SqT.of (k2 _ _ nft ht2), rfl, fd0, _, rfl, DPut.k (k := Sum.inr z) h2 ?_, ?_⟩
    · rw [keysT_len]
      have h4 := foldl_len ((wr.frIx.take k).map wr.nmAt) []
      have h5 := frIx_len wr
      rw [List.length_map, List.length_take] at h4
      exact small_le (by have : ([] : List Str).length = 0 := rfl; omega)
    · refine ⟨_, rfl, same_put s3 hfd, fun b' u n e => by rw [upd_ne n]; exact k2 b' u n e, ?_⟩
      rw [upd_same, keysT_put, take_snoc hi, List.map_append, List.foldl_append]
      show _ = some (HO.dK (keysT (Wr.ins _ (wr.nmAt i))))
      rw [hzn]
  · rintro σ H2 ⟨v, rfl, s3, k2, h2⟩
    have hlen : (natV wr.frIx).length = wr.frIx.length := List.length_map _
    rw [hlen, List.take_of_length_le (Nat.le_refl _), Wr.frIx_fold] at h2
    refine ⟨_, rfl, fd0, _, rfl, .inl h2, fun t ht => ?_⟩
    refine q t _ (s3.trans (same_new ht)) ?_
    rw [upd_same]
    unfold keysT
    rw [List.map_map]
    rfl
end
end TF18
/-! own rules: a comprehension that makes a dict, whatever its keys are, by a word for what a store asks -/
namespace TG
open PySem PySem.Spec L2
open PyProof.Rows hiding St
/-- J of each block's frame within X -/
abbrev InB (X : Cx) (sc : Scope) (J : Cx → Prop) : Prop := ∀ (t : Shared) (G : Hp) (c : Addr) (cs : List (Str × Addr)) (ws : List Addr), J (X.blk t G sc (compEnvC sc cs c X.env) ws)
/-- what it asks to store a key and a value in the dict at an address -/
abbrev DSt := Addr → V → V → Hp → (Hp → Prop) → Prop
def StOk (P : Program) (w : World) (st : DSt) : Prop := ∀ (Y : Cx), Y.prog = P → Y.w = w → ∀ (ps : List (Addr × Obj)) (τ : L2.St) (G : Hp) (t : Shared) (E : Value → Shared → Prop) (D : Addr) (y z : V) (u r : Value) (N : Hp → Prop),
  Inv Y ps τ G t → RelV y u → RelV z r → st D y z G N → wpAny (model P w) Y.A (dictSet D u r) (fun _ t' => ∃ G', Inv Y ps τ G' t' ∧ N G') E t
/-- one turn at item x: the target, the tests, key, value, the store -/
def DTurn (st : DSt) (g : TG) (tt : TT) (tk tv : TE) (own : List Nat) (σ : L2.St) (D : Addr) (x : V) (G : Hp) (N : Hp → Prop) : Prop :=
  g x (wipe σ own) G fun τ G1 => wipe τ own = wipe σ own ∧ tt τ G1 fun b G2 => if b = true then tk τ G2 fun y G3 => tv τ G3 fun z G4 => st D y z G4 N else N G2
/-- the whole of it -/
def tDcS (st : DSt) (wi : TI) (g : TG) (tt : TT) (tk tv : TE) (own : List Nat) : TE := fun σ H Q => wi σ H fun J H1 => ∀ D, H1 D = none → ∃ W : Nat → Nat → Hp → Prop, (∃ m, W 0 m (L2.upd H1 D (.dK []))) ∧ ∀ i m G, W i m G →
  (J.stop i G ∧ Q (.ref D) G) ∨ (J.go i G ∧ ∃ N : Hp → Prop, (∀ G', N G' → ∃ m', m' < m ∧ W (i + 1) m' G') ∧ ∀ x G', J.yld i G x G' → DTurn st g tt tk tv own σ D x G' N)
section
variable {X : Cx} {st : DSt} {kx vx tg iter : Expr} {ifs : List Expr} {sc : Scope} {own : List (Str × Nat)} {wi : TI} {g : TG} {tt : TT} {tk tv : TE}
theorem dcs_core {ps : List (Addr × Obj)} {s : Shared} {σ : L2.St} {H : Hp} {Q : VK} {p1 p2 : Pos} {use : Option (Value → Sem Unit)} {R : Value → Shared → Prop} (hc : X.calm = true) (hN : X.N.Nodup) (I : Inv X ps σ H s) (hst : StOk X.prog X.w st) (hi : PI X tg iter wi)
    (ok : BlkOk X.N X.env.scope sc own) (hg : InB X sc fun Y => PG Y tg g) (ht : InB X sc fun Y => PTs Y ifs tt) (hk : InB X sc fun Y => PE Y kx tk) (hv : InB X sc fun Y => PE Y vx tv) (hs : ∀ x, foldedSetIterable iter X.env x = pure x)
    (h : tDcS st wi g tt tk tv (own.map (·.2)) σ H Q) (hR : ∀ D C t m G, Inv X ps σ G t → Q (.ref D) G → t.heap.Ns C m → FpOk X ps G C → compPost (model X.prog X.w) X.A X.xe use R (.ref D) C (.ok .next) t) :
    wpAny (model X.prog X.w) X.A (comprehension (.DictComp kx vx [⟨tg, iter, ifs, 0⟩] sc p1) sc X.env p2 newDict false (eval iter X.env) use) R X.xe s := by
  have clo : ∀ y ∈ sc.names, y.2 = .free → ∃ c, X.env.cells.lookup y.1 = some c := by
    intro y hy e
    exact (ok.free y hy e).elim (fun k => I.ok.has _ (.inl k)) fun k => I.ok.has _ (.inr k)
  refine wpAny_comprehension_free (use := use) rfl hs (closure_ok clo) ok.kind (fun y hy e => (ok.uniq y hy).trans (congrArg some e)) ?_
  refine thn (hi.run ps s σ H _ I h) fun xv sA hA => thn hA fun itv sB ⟨it, fp, tn, J, HB, eit, IB, T, tB, fB, q⟩ => ?_
  subst eit
  refine wpAny_newObj_type (newEnv_comp ?_)
  -- the new dict at D, the frame of the block at C
  obtain ⟨D, eD⟩ : ∃ D, D = sB.heap.objs.size := ⟨_, rfl⟩
  rw [← eD]
  have D0 : HB D = none := IB.hok.fresh (Nat.le_of_eq eD.symm)
  obtain ⟨W, ⟨m0, w0⟩, turn⟩ := q D D0
  obtain ⟨sC, eC⟩ : ∃ sC : Shared, sC = { sB with heap := sB.heap.push { cls := .type "dict", data := .dict #[] } } := ⟨_, rfl⟩
  rw [← eC]
  have IC : Inv X ps σ (L2.upd HB D (.dK [])) sC := by
    subst eC eD
    exact IB.laid (t' := sB.toks) (fun b o e => Heap.get?_push_of_some _ e) (Nat.le_refl _) (dk_empty sB.heap IB.big)
  have below : ∀ b ∈ fp, b < D := fun b hb => by
    obtain ⟨o, e, _⟩ := T.obj _ _ tB b hb
    rw [eD]
    exact Heap.lt_size e
  have sizeC : sC.heap.objs.size = D + 1 := by rw [eC, eD]; exact Heap.size_push ..
  have fC : ∀ b ∈ fp, FpOk X ps (L2.upd HB D (.dK [])) b ∧ b < sC.heap.objs.size := fun b hb => by
    have lt := below b hb
    have f := fB b hb
    exact ⟨⟨(upd_ne (Nat.ne_of_lt lt)).trans f.1, f.2⟩, by rw [sizeC]; exact Nat.lt_succ_of_lt lt⟩
  have tC : tn 0 sC.heap := T.keep _ _ _ tB fun b _ o e => by rw [eC]; exact Heap.get?_push_of_some _ e
  have IE := block_start IC ok hN fC
  obtain ⟨HC, eHC⟩ : ∃ HC, HC = L2.upd HB D (.dK []) := ⟨_, rfl⟩
  rw [← eHC] at IC IE fC w0
  obtain ⟨ce, ece⟩ : ∃ ce, ce = compEnvC sc (cellsFrom (sC.heap.objs.size + 1) sc.names (cloFrom X.env.cells sc.names [])) sC.heap.objs.size X.env := ⟨_, rfl⟩
  have eL : ce.locals = sC.heap.objs.size := by rw [ece]; rfl
  have gg : PG (X.blk sC HC sc ce fp) tg g := ece ▸ hg sC HC sC.heap.objs.size _ fp
  have gt : PTs (X.blk sC HC sc ce fp) ifs tt := ece ▸ ht sC HC sC.heap.objs.size _ fp
  have gk : PE (X.blk sC HC sc ce fp) kx tk := ece ▸ hk sC HC sC.heap.objs.size _ fp
  have gv : PE (X.blk sC HC sc ce fp) vx tv := ece ▸ hv sC HC sC.heap.objs.size _ fp
  rw [← ece] at IE
  show codeAny _ _ (.compStart (.DictComp kx vx [⟨tg, iter, ifs, 0⟩] sc p1) 0 (.ref it) (.ref D) (compEnvC sc (cellsFrom (sC.heap.objs.size + 1) sc.names (cloFrom X.env.cells sc.names [])) sC.heap.objs.size X.env)) (compPost (model X.prog X.w) X.A X.xe use R (.ref D) sC.heap.objs.size) _
  rw [← ece]
  obtain ⟨sE, eE⟩ : ∃ sE : Shared, sE = { sC with heap := pushCells (sC.heap.push { cls := .type "dict", data := .dict #[] }) sc.names } := ⟨_, rfl⟩
  rw [← eE] at IE ⊢
  have tE : tn 0 sE.heap := T.keep _ _ _ tC fun b _ o e => by rw [eE]; exact pushCells_keeps _ _ _ _ (Heap.get?_push_of_some _ e)
  have nE : ∀ b ∈ fp, HC b = none := fun b hb => (fC b hb).1.1
  have inF : ∀ {τ : L2.St} {G : Hp} {t : Shared}, Inv (X.blk sC HC sc ce fp) [] τ G t → (∀ b ∈ fp, G b = none) → ∀ b ∈ fp, FpOk (X.blk sC HC sc ce fp) [] G b := by
    intro τ G t J' hn b hb
    exact ⟨hn b hb, (J'.ok.exf b hb).1, J'.ok.exfs b hb, .inl hb, fun x c e => (J'.ok.exf b hb).2 x c e, fun p hp => absurd (show p ∈ ([] : List (Addr × Obj)) ++ [] from hp) List.not_mem_nil⟩
  have loop : codeAny (model X.prog X.w) X.A (.compLoop (.DictComp kx vx [⟨tg, iter, ifs, 0⟩] sc p1) 0 (.ref it) (.ref D) ce) (compPost (model X.prog X.w) X.A X.xe use R (.ref D) sC.heap.objs.size) sE := by
    refine compLoop_anyD (fun n t => ∃ i G, Inv (X.blk sC HC sc ce fp) [] (wipe σ (own.map (·.2))) G t ∧ tn i t.heap ∧ (∀ b ∈ fp, G b = none) ∧ W i n G) ?_ m0 ⟨0, HC, IE, tE, nE, w0⟩
    rintro n t ⟨i, G, J5, t5, n5, w5⟩
    rcases turn i n G w5 with ⟨stop, fin⟩ | ⟨go, N, less, step⟩
    · refine thnF (T.done (X.blk sC HC sc ce fp) rfl rfl rfl hc i [] t _ G (fun _ _ => False) J5 (inF J5 n5) t5 stop) fun r t6 ⟨er, J6⟩ => ?_
      subst er
      have back : Inv X ps σ G t6 := IC.call' (ch := fp) J6.os J6.base J6.hok J6.bare fun b hb => by
        obtain ⟨⟨_, f1, _, f3, f4, f5⟩, _⟩ := fC b hb
        exact ⟨f3, f1, f4, f5⟩
      obtain ⟨m, hn, _⟩ := J6.loc
      have hn : t6.heap.Ns ce.locals m := hn
      have free : G ce.locals = none := J6.free
      rw [eL] at hn free
      exact hR D _ t6 m G back fin hn (IC.fpOk (Nat.le_refl _) free)
    · refine thnF (T.item (X.blk sC HC sc ce fp) rfl rfl rfl hc i [] t _ G (fun _ _ => False) J5 (inF J5 n5) t5 go) fun r t6 ⟨u, er, h6⟩ => ?_
      subst er
      refine thnF h6 fun _ t7 ⟨x, G7, J7, r7, y7, tn7, n7⟩ => ?_
      have P7 := J7.pinned (inF J7 n7) (T.obj _ _ tn7)
      refine thnF (gg.run _ t7 _ G7 x u _ P7 r7 (step x G7 y7)) fun _ t8 ⟨τ, G8, J8, wp, q8⟩ => ?_
      refine thnF (gt.run _ t8 τ G8 _ J8 q8) fun b t9 ⟨G9, J9, q9⟩ => ?_
      have next : ∀ {t' : Shared} {G' : Hp}, Inv (X.blk sC HC sc ce fp) ([] ++ pinsAt fp t7.heap) τ G' t' → N G' → ∃ m, m < n ∧ ∃ i G', Inv (X.blk sC HC sc ce fp) [] (wipe σ (own.map (·.2))) G' t' ∧ tn i t'.heap ∧ (∀ b ∈ fp, G' b = none) ∧ W i m G' := by
        intro t' G' J' hN'
        obtain ⟨m', lt, w'⟩ := less G' hN'
        have pin : ∀ b ∈ fp, ∀ o, t7.heap.get? b = some o → t'.heap.get? b = some o ∧ G' b = none := fun b hb o e => by
          obtain ⟨z1, z2, _⟩ := J'.pin (b, o) (List.mem_append_right _ (List.mem_append_right _ (mem_pinsAt hb e)))
          exact ⟨z1, z2⟩
        refine ⟨m', lt, i + 1, G', (J'.unpinned (pins := [])).weak (by rw [← wp, wipe_length]) (fun j v e => ?_), T.keep _ _ _ tn7 fun b hb o e => (pin b hb o e).1, fun b hb => ?_, w'⟩
        · rw [← wp] at e
          exact (wipe_some e).1
        · obtain ⟨o, e, _⟩ := T.obj _ _ tn7 b hb
          exact (pin b hb o e).2
      cases b with
      | false => exact next J9 q9
      | true =>
        have q9 : tk τ G9 fun y G3 => tv τ G3 fun z G4 => st D y z G4 N := q9
        refine thnF (gk.run _ t9 τ G9 _ J9 q9) fun uk t10 ⟨y, G10, J10, r10, q10⟩ => ?_
        refine thnF (gv.run _ t10 τ G10 _ J10 q10) fun uv t11 ⟨z, G11, J11, r11, q11⟩ => ?_
        exact wpAny_mono (hst (X.blk sC HC sc ce fp) rfl rfl _ τ G11 t11 (fun _ _ => False) D y z uk uv N J11 r10 r11 q11) (fun _ t12 ⟨G12, J12, hN12⟩ => next J12 hN12) fun _ _ k => k.elim
  exact codeAny_compStart_dict loop (T.self X.A 0 _ _ _ tE loop)
/-- as a value -/
theorem pe_dcS {p1 : Pos} (hst : StOk X.prog X.w st) (hc : X.calm = true) (hN : X.N.Nodup) (hi : PI X tg iter wi) (ok : BlkOk X.N X.env.scope sc own) (hg : InB X sc fun Y => PG Y tg g) (ht : InB X sc fun Y => PTs Y ifs tt) (hk : InB X sc fun Y => PE Y kx tk) (hv : InB X sc fun Y => PE Y vx tv)
    (hs : ∀ x, foldedSetIterable iter X.env x = pure x := by intro _; rfl) : PE X (.DictComp kx vx [⟨tg, iter, ifs, 0⟩] sc p1) (tDcS st wi g tt tk tv (own.map (·.2))) := by
  refine ⟨fun ps s σ H Q I h => ?_⟩
  rw [arm_eval_DictComp]
  refine dcs_core hc hN I hst hi ok hg ht hk hv hs h fun D C t m G J q hn f => ⟨m, hn, fun h2 sb => ?_⟩
  obtain ⟨f0, f1, _, f3, f4, f5⟩ := f
  exact ⟨.ref D, G, J.turned (t' := t.toks) (fun b o n e => (sb.2 b n).trans e) f0 f1 f3 f4 f5, rfl, q⟩
theorem swD {y : Str} {py p1 : Pos} {l : Nat} {env : Env} {gs : List Comprehension} (hk : env.scope.kind = .function) (hy : env.scope.names.lookup y = some .local) (hl : (py.line == p1.line) = true) (ha : (sc.names.any fun (n, k) => n == y && (k == .local || k == .cell)) = false) :
    swapsWith (.DictComp kx vx gs sc p1) (some (.Name y py)) l env = pure true := by
  have e1 : env.kindOf y = some .local := hy
  have e2 : env.blockKind = .function := by unfold Env.blockKind; rw [hk]; rfl
  unfold swapsWith
  simp only [e2, e1, ha, Expr.pos, hl]
  rfl
/-- y = {..} -/
theorem ps_setDcS {i : Nat} {y : Str} {py p1 p2 : Pos} (hst : StOk X.prog X.w st) (hc : X.calm = true) (hN : X.N.Nodup) (hy : X.N[i]? = some y) (hl : X.env.scope.names.lookup y = some .local) (hw : swapsWith (.DictComp kx vx [⟨tg, iter, ifs, 0⟩] sc p1) (some (.Name y py)) p2.line X.env = pure true)
    (hi : PI X tg iter wi) (ok : BlkOk X.N X.env.scope sc own) (hg : InB X sc fun Y => PG Y tg g) (ht : InB X sc fun Y => PTs Y ifs tt) (hk : InB X sc fun Y => PE Y kx tk) (hv : InB X sc fun Y => PE Y vx tv)
    (hs : ∀ x, foldedSetIterable iter X.env x = pure x := by intro _; rfl) : PS X (.Assign [.Name y py] (.DictComp kx vx [⟨tg, iter, ifs, 0⟩] sc p1) p2) (tAsg (tDcS st wi g tt tk tv (own.map (·.2))) (gName i)) := by
  refine ⟨fun ps s σ H D I h => ?_⟩
  rw [exec_Assign_Name_used _ _ _ _ hw]
  refine wpAny_bind (wpAny_standAt (wpAny_bind ?_))
  have h : tDcS st wi g tt tk tv (own.map (·.2)) σ H (fun x G => gName i x σ G D.nx) := h
  show wpAny _ X.A (do let _ ← comprehension (.DictComp kx vx [⟨tg, iter, ifs, 0⟩] sc p1) sc X.env (firstIterPos [⟨tg, iter, ifs, 0⟩] p1) newDict false (eval iter X.env) (some (assign (.Name y py) X.env))) _ _ s
  refine wpAny_bind (thn (dcs_core (R := fun _ t => SP X ps D .next t) hc hN I hst hi ok hg ht hk hv hs h fun L C t m G J q hn f => ?_) fun _ t hq => wpAny_pure (wpAny_pure hq))
  obtain ⟨f0, f1, _, f3, f4, f5⟩ := f
  show wpAny _ _ (assign (.Name y py) X.env (.ref L)) _ _ _
  refine wpAny_assign_Name (store_ok2 (v := V.ref L) J hN hy (.inl hl) rfl (fun t2 J2 ⟨a, sb, ha⟩ => ?_) (.inr hl))
  have away : C ≠ a := ha.elim (fun z => z ▸ f1) fun z e => f4 y a z e.symm
  exact ⟨m, hn.sameBut sb away, fun h3 sb3 => ⟨_, G, J2.turned (t' := t2.toks) (fun b o n e => (sb3.2 b n).trans e) f0 f1 f3 f4 f5, q⟩⟩
end
section
variable {J : It} {n : Nat} {Gd : Hp → Prop} {Y : Nat → Hp → V → Hp → Prop}
/-- over whatever is walked: Pv by the turn and the heap, the new dict at D within -/
theorem dc_it (wk : Walk J n Gd Y) {st : DSt} {g : TG} {tt : TT} {tk tv : TE} {own : List Nat} {σ : L2.St} {H1 : Hp} {D : Addr} {Qd : Hp → Prop} (Pv : Nat → Hp → Prop) (h0 : Pv 0 (L2.upd H1 D (.dK []))) (hG : ∀ i G, i ≤ n → Pv i G → Gd G)
    (hs : ∀ i x G G', i < n → Pv i G → Y i G x G' → DTurn st g tt tk tv own σ D x G' (Pv (i + 1))) (hd : ∀ G, Pv n G → Qd G) :
    ∃ W : Nat → Nat → Hp → Prop, (∃ m, W 0 m (L2.upd H1 D (.dK []))) ∧ ∀ i m G, W i m G →
      (J.stop i G ∧ Qd G) ∨ (J.go i G ∧ ∃ N : Hp → Prop, (∀ G', N G' → ∃ m', m' < m ∧ W (i + 1) m' G') ∧ ∀ x G', J.yld i G x G' → DTurn st g tt tk tv own σ D x G' N) := by
  refine ⟨fun i m G => m = n - i ∧ i ≤ n ∧ Pv i G, ⟨n, rfl, Nat.zero_le _, h0⟩, ?_⟩
  rintro i m G ⟨rfl, hi, p⟩
  have gd := hG i G hi p
  rcases Nat.lt_or_ge i n with lt | ge
  · exact .inr ⟨wk.goes i G lt gd, Pv (i + 1), fun G' p' => ⟨n - (i + 1), by omega, rfl, lt, p'⟩, fun x G' y => hs i x G G' lt p (wk.yields i G x G' lt gd y)⟩
  · obtain rfl : i = n := by omega
    exact .inl ⟨wk.stops G gd, hd G p⟩
end
/-! ### keys ints and texts -/
def stK : DSt := fun D y z G N => ∃ kvs k, y = kV k ∧ G D = some (.dK kvs) ∧ kvs.length < sizeLine ∧ N (L2.upd G D (.dK (putK kvs k z)))
theorem stK_ok (P : Program) (w : World) : StOk P w stK := by
  rintro Y rfl rfl ps τ G t E D y z u r N I ry rz ⟨kvs, k, rfl, hD, hl, n⟩
  exact d_dictSet (X := Y) I hD hl ry rz fun t' I' => ⟨_, I', n⟩
/-! ### keys None and texts -/
/-- the dict at D has the keys ns -/
def DN (P : Program) (w : World) (D : Addr) (ns : List (Option Str)) : HO := .ext fun h => ∃ vs, vs.length ≤ sizeLine ∧ (D == sysModules) = false ∧ vs.map (·.1) = ns.map (Option.map fun z => (Sum.inr z : Key)) ∧ h.DictOf (noneKind P w) D vs
/-- or it is still empty -/
def NAt (P : Program) (w : World) (G : Hp) (D : Addr) (ns : List (Option Str)) : Prop := G D = some (DN P w D ns) ∨ (ns = [] ∧ G D = some (.dK []))
def insN (ns : List (Option Str)) (k : Option Str) : List (Option Str) := if k ∈ ns then ns else ns ++ [k]
def optS : Option Str → V
  | none => .non
  | some z => .str z
theorem optS_is {P : Program} {w : World} {k : Option Str} {u : Value} (r : RelV (optS k) u) : (noneKind P w).is (k.map fun z => (Sum.inr z : Key)) u = true := by
  cases k with
  | none => cases (show u = Value.none from r); rfl
  | some z => obtain ⟨t, e⟩ := (show ∃ t, u = Value.str z t from r); subst e; exact keyIs_str z t
theorem keyN_inj {a b : Option Str} (e : a.map (fun z => (Sum.inr z : Key)) = b.map fun z => (Sum.inr z : Key)) : a = b := by
  cases a with
  | none => cases b with
    | none => rfl
    | some _ => cases e
  | some x => cases b with
    | none => cases e
    | some y => cases e; rfl
theorem stored_keys {κ : Type} [DecidableEq κ] (vs : List (κ × Value)) (k : κ) (v : Value) : (stored vs k v).map (·.1) = if k ∈ vs.map (·.1) then vs.map (·.1) else vs.map (·.1) ++ [k] := by
  unfold stored
  by_cases c : k ∈ vs.map (·.1)
  · have h : (vs.any fun kv => decide (kv.1 = k)) = true := by
      obtain ⟨p, hp, e⟩ := List.mem_map.mp c
      exact List.any_eq_true.mpr ⟨p, hp, decide_eq_true e⟩
    rw [if_pos c, if_pos h, List.map_map]
    refine List.map_congr_left fun p _ => ?_
    show (if p.1 = k then (p.1, v) else p).1 = p.1
    split <;> rfl
  · have h : ¬ (vs.any fun kv => decide (kv.1 = k)) = true := fun z => by
      obtain ⟨p, hp, e⟩ := List.any_eq_true.mp z
      exact c (List.mem_map.mpr ⟨p, hp, of_decide_eq_true e⟩)
    rw [if_neg c, if_neg h, List.map_append]
    rfl
/-- what stands there, as the model tells it -/
theorem nat_dict {X : Cx} {ps : List (Addr × Obj)} {σ : L2.St} {H : Hp} {s : Shared} {D : Addr} {ns : List (Option Str)} (I : Inv X ps σ H s) (h : NAt X.prog X.w H D ns) :
    ∃ vs, vs.length ≤ sizeLine ∧ (D == sysModules) = false ∧ vs.map (·.1) = ns.map (Option.map fun z => (Sum.inr z : Key)) ∧ s.heap.DictOf (noneKind X.prog X.w) D vs := by
  rcases h with h | ⟨rfl, h⟩
  · exact (show ObjOk X.prog X.w H s.heap D (DN X.prog X.w D ns) from I.hok D _ h).1
  · obtain ⟨_, hd, vs, rel, o, es, ep, ho, hx, hdt, hk, hp, hn⟩ := dk_of I.hok h
    cases rel
    have e0 : es.toList = [] := by
      generalize es.toList = l at hp
      cases hp
      rfl
    refine ⟨[], Nat.zero_le _, hd, rfl, o, es, ep, ho, hx, hdt, fun e he => ?_, ?_, List.nodup_nil⟩
    · have : e ∈ es.toList := by simpa using he
      rw [e0] at this
      exact absurd this List.not_mem_nil
    · rw [e0]
      exact .nil
theorem nat_mut {P : Program} {w : World} {H : Hp} {D : Addr} {ns : List (Option Str)} (h : NAt P w H D ns) : Mut (H D) := by
  rcases h with h | ⟨_, h⟩
  · rw [h]; exact True.intro
  · rw [h]; exact True.intro
def stN (P : Program) (w : World) : DSt := fun D y _ G N => ∃ ns k, y = optS k ∧ NAt P w G D ns ∧ ns.length < 100000 ∧ N (L2.upd G D (DN P w D (insN ns k)))
theorem stN_ok (P : Program) (w : World) : StOk P w (stN P w) := by
  rintro Y rfl rfl ps τ G t E D y z u r N I ry rz ⟨ns, k, rfl, hD, hl, n⟩
  obtain ⟨vs, hz, hd, ek, dd⟩ := nat_dict I hD
  have hv : vs.length = ns.length := by
    have := congrArg List.length ek
    rw [List.length_map, List.length_map] at this
    exact this
  refine wpAny_dictSet_pairs (hsz := hz) (optS_is ry) dd fun h' dd' sb => ⟨_, ?_, n⟩
  have keys : (stored vs (k.map fun z => (Sum.inr z : Key)) r).map (·.1) = (insN ns k).map (Option.map fun z => (Sum.inr z : Key)) := by
    rw [stored_keys, ek]
    unfold insN
    by_cases c : k ∈ ns
    · rw [if_pos c, if_pos (List.mem_map.mpr ⟨k, c, rfl⟩)]
    · rw [if_neg c, if_neg fun q => ?_, List.map_append]
      · rfl
      · obtain ⟨j, hj, e⟩ := List.mem_map.mp q
        exact c (keyN_inj e ▸ hj)
  have lz : (stored vs (k.map fun z => (Sum.inr z : Key)) r).length ≤ sizeLine := by
    have := stored_length_le vs (k.map fun z => (Sum.inr z : Key)) r
    rw [sizeLine_eq]
    omega
  have here : ∃ q, h'.get? D = some q := by
    obtain ⟨o, _, _, ho, _⟩ := dd'
    exact ⟨o, ho⟩
  exact d_write I (nat_mut hD) sb here ⟨⟨_, lz, hd, keys, dd'⟩, here, fun h1 h2 ⟨vs1, z1, z2, z3, o, es, ep, ho, rest⟩ km => ⟨vs1, z1, z2, z3, o, es, ep, km _ ho, rest⟩⟩
section
variable {X : Cx}
/-- a text not among the keys -/
def rNotN (P : Program) (w : World) : R2 := fun x y H Q => ∃ (D : Addr) (ns : List (Option Str)) (z : Str), x = .str z ∧ y = .ref D ∧ NAt P w H D ns ∧ Q (.bl (!decide (some z ∈ ns))) H
theorem op_notinN : OpR X (compareOp .NotIn) (rNotN X.prog X.w) := by
  intro ps s σ H x y v u Q I rx ry h
  obtain ⟨D, ns, z, rfl, rfl, hD, q⟩ := h
  obtain rfl : u = Value.ref D := ry
  obtain ⟨vs, hz, hd, ek, dd⟩ := nat_dict I hD
  refine wpAny_notIn_of (optS_is (k := some z) rx) hd dd.mapOf ?_
  have e : (valueAt vs ((some z : Option Str).map fun z => (Sum.inr z : Key))).isSome = decide (some z ∈ ns) := by
    unfold valueAt
    rw [Option.isSome_map, Bool.eq_iff_iff, decide_eq_true_eq, List.find?_isSome]
    constructor
    · rintro ⟨p, hp, e⟩
      have h1 : p.1 ∈ vs.map (·.1) := List.mem_map.mpr ⟨p, hp, rfl⟩
      rw [ek] at h1
      obtain ⟨j, hj, e2⟩ := List.mem_map.mp h1
      have e3 : p.1 = (some z : Option Str).map fun z => (Sum.inr z : Key) := of_decide_eq_true e
      exact keyN_inj (e2.trans e3) ▸ hj
    · intro hm
      have h1 : ((some z : Option Str).map fun z => (Sum.inr z : Key)) ∈ vs.map (·.1) := by
        rw [ek]
        exact List.mem_map.mpr ⟨some z, hm, rfl⟩
      obtain ⟨p, hp, e⟩ := List.mem_map.mp h1
      exact ⟨p, hp, decide_eq_true e⟩
  rw [e]
  exact ⟨.bl _, H, I.tok _, rfl, q⟩
end
/-! ### d.get(k, x) where k may be None and the keys are ints and texts -/
def tDGet2N (td ty tx : TE) : TE := fun σ H Q => td σ H fun x H1 => ∃ a, x = .ref a ∧ IsD H1 a ∧ ty σ H1 fun y H2 => tx σ H2 fun z H3 => (∃ o, DGet H3 a y o ∧ Q (o.getD z) H3) ∨ ∃ kvs, y = .non ∧ H3 a = some (.dK kvs) ∧ Q z H3
section
variable {X : Cx} {o e f : Expr} {apos cpos : Pos} {td ty tx : TE}
theorem pe_dget2N (hu : X.A.units + 1 < cLine) (ho : PE X o td) (he : PE X e ty) (hf : PE X f tx) (m : M2 X o "get" apos e f cpos) : PE X (.Call (.Attribute o "get" apos) [e, f] [] cpos) (tDGet2N td ty tx) := by
  refine ⟨fun ps s σ H Q I h => ?_⟩
  refine wpAny_Call_method m.base m.few m.line PySem.F.plainAttrs_dict PySem.F.slot_dict_get PySem.F.type_dict_get (thn (ho.run ps s σ H _ I h) fun u s1 ⟨x, H1, I1, rx, a, ex, d, q1⟩ => ?_)
  subst ex
  obtain rfl : u = Value.ref a := rx
  obtain ⟨t1, t2, _⟩ := isD_at I1 d
  refine ⟨t1, t2, ?_⟩
  rw [m.trees]
  refine Calls.callWith_builtin rfl (Calls.evalArgs_plain (Calls.spliced_cons (thn (he.run ps s1 σ H1 _ I1 q1) fun iv s2 ⟨y, H2, I2, ry, q2⟩ =>
    Calls.spliced_cons (thn (hf.run ps s2 σ H2 _ I2 q2) fun fv s3 ⟨z, H3, I3, rz, q3⟩ => Calls.spliced_nil ?_))))
  rcases q3 with ⟨ov, g, q⟩ | ⟨kvs, rfl, hD, q⟩
  · exact d_get2 hu I3 g ry rz fun w' s4 I4 rw' => ⟨_, H3, I4, rw', q⟩
  · obtain ⟨_, hd, vs, _, dd⟩ := dk_of I3.hok hD
    obtain ⟨fn, hm, hn⟩ := none_map dd
    cases (show iv = Value.none from ry)
    refine call_meetsIn PySem.F.slot_dict_get dd.typeIs PySem.F.entry_dict_get (PySem.F.args_dict_get_3 _ _ _) (meets_dict_get_default (noneKind X.prog X.w) a (k := none) rfl hd fv) ⟨_, hm, ?_⟩
    rw [hn]
    exact ⟨z, H3, I3.tok _, rz, q⟩
end
end TG
/-! depths, codes, alike -/
namespace TG
open PySem PySem.Spec L2
open PyProof.Rows hiding St
abbrev Fo := List (Wr × Nat)
def foS (fs : Fo) : List Wr := fs.flatMap fun p => p.1.subs
def foD (fs : Fo) : List Nat := fs.flatMap fun p => p.1.deps p.2
def foV (fs : Fo) : List V := fs.reverse.map fun p => V.int (p.2 : Int)
theorem foV_cons (p : Wr × Nat) (fs : Fo) : foV (p :: fs) = foV fs ++ [V.int (p.2 : Int)] := by
  unfold foV
  rw [List.reverse_cons, List.map_append]
  rfl
theorem foV_len (fs : Fo) : (foV fs).length = fs.length := by unfold foV; rw [List.length_map, List.length_reverse]
theorem foS_len : ∀ fs : Fo, fs.length ≤ (foS fs).length
  | [] => Nat.zero_le _
  | p :: fs => by
    have h1 := p.1.sg_pos
    have h2 := foS_len fs
    show fs.length + 1 ≤ (p.1.subs ++ foS fs).length
    rw [List.length_append, p.1.subs_len]
    omega
theorem natV_len (l : List Nat) : (natV l).length = l.length := List.length_map _
theorem natV_app (a b : List Nat) : natV (a ++ b) = natV a ++ natV b := List.map_append
theorem natV_at {l : List Nat} {i n : Nat} (h : l[i]? = some n) : (natV l)[i]? = some (V.int (n : Int)) := by unfold natV; rw [List.getElem?_map, h]; rfl
theorem foS_head : ∀ {fs : Fo} {s : Wr} {r : List Wr}, foS fs = s :: r → ∃ d fs', fs = (s, d) :: fs' ∧ s.subs ++ foS fs' = s :: r
  | [], s, r, h => nomatch h
  | (t, d) :: fs, s, r, h => by
    have h : t.subs ++ foS fs = s :: r := h
    have e : t = s := by
      cases t <;> (injection h with h1 _)
    subst e
    exact ⟨d, fs, rfl, h⟩
def spDepths : Sp := fun vs H Q _ => ∃ (r : Addr) (w : Wr), vs = [.ref r] ∧ H r = some (.lst (wdV w)) ∧ w.sg ≤ 2000 ∧
  ∀ (a : Addr) (H' : Hp), Same H H' → H' a = some (.lst (natV (w.deps 0))) → Q (.ref a) H'
def cdV : Cd → V
  | .inl z => .str z
  | .inr n => .int (n : Int)
def spCodes (C : Addr) : Sp := fun vs H Q _ => ∃ (l : Addr) (w : Wr), vs = [.ref l] ∧ LayAt C H l w ∧ w.sg ≤ 2000 ∧
  ∀ (a : Addr) (H' : Hp), Same H H' → H' a = some (.lst ((w.cnt []).cd.map cdV)) → Q (.ref a) H'
def cdD : Cd → PyData
  | .inl z => .str z
  | .inr n => .int (n : Int)
theorem cd_dp {K : PySem.W.Frag} {H : Hp} : ∀ l : List Cd, DpAll K H (l.map cdV) (l.map cdD)
  | [] => .nil
  | .inl z :: r => .cons (.str z) (cd_dp r)
  | .inr n :: r => .cons (.int _) (cd_dp r)
theorem cd_eqv1 (a b : Cd) : PyData.eqv (cdD a) (cdD b) = decide (a = b) := by
  cases a with
  | inl z =>
    cases b with
    | inl y =>
      show (z == y) = _
      rw [Bool.eq_iff_iff]
      simp
    | inr m => exact (decide_eq_false (fun h => nomatch h)).symm
  | inr n =>
    cases b with
    | inl y => exact (decide_eq_false (fun h => nomatch h)).symm
    | inr m =>
      show ((n : Int) == (m : Int)) = _
      rw [Bool.eq_iff_iff]
      simp
      omega
theorem cd_eqv : ∀ a b : List Cd, PyData.eqvAll (a.map cdD) (b.map cdD) = decide (a = b)
  | [], [] => rfl
  | [], _ :: _ => rfl
  | _ :: _, [] => rfl
  | x :: a, y :: b => by
    show (PyData.eqv (cdD x) (cdD y) && PyData.eqvAll (a.map cdD) (b.map cdD)) = _
    rw [cd_eqv1, cd_eqv a b, Bool.eq_iff_iff]
    simp
theorem cd_lay : ∀ {l : List Cd}, (∀ z, .inl z ∈ l → PyData.canLay0 (.str z) = true) → PyData.canLayAll0 (l.map cdD) = true
  | [], _ => rfl
  | .inl z :: r, h => by
    show (PyData.canLay0 (.str z) && PyData.canLayAll0 (r.map cdD)) = true
    rw [h z List.mem_cons_self, cd_lay fun y hy => h y (List.mem_cons_of_mem _ hy)]
    rfl
  | .inr n :: r, h => by
    show (PyData.canLay0 (.int _) && PyData.canLayAll0 (r.map cdD)) = true
    rw [cd_lay fun y hy => h y (List.mem_cons_of_mem _ hy)]
    rfl
theorem cd_words : ∀ {b : Bt} {z : Str}, b.all okN = true → .inl z ∈ b.cd → PyData.canLay0 (.str z) = true
  | .bd n, z, _, h => by cases List.mem_singleton.mp h
  | .fr y, z, hb, h => by cases List.mem_singleton.mp h; exact Bt.ok_lay hb
  | .of b, z, hb, h => by
    rcases List.mem_cons.mp h with h | h
    · cases h; decide +kernel
    · exact cd_words (b := b) hb h
  | .to a b, z, hb, h => by
    rcases List.mem_cons.mp h with h | h
    · cases h; decide +kernel
    · rcases List.mem_append.mp h with h | h
      · exact cd_words (Bool.and_eq_true_iff.mp hb).1 h
      · exact cd_words (Bool.and_eq_true_iff.mp hb).2 h
theorem cd_depth : ∀ l : List Cd, PyData.depthAll (l.map cdD) = 0
  | [] => rfl
  | .inl z :: r => by show max 0 _ = 0; rw [cd_depth r]; rfl
  | .inr n :: r => by show max 0 _ = 0; rw [cd_depth r]; rfl
theorem cd_shaped {b : Bt} (hb : b.all okN = true) : SeqAt.shaped (.list (b.cd.map cdD)) = true := by
  unfold SeqAt.shaped
  rw [Bool.and_eq_true]
  refine ⟨cd_lay fun z hz => cd_words hb hz, decide_eq_true ?_⟩
  show PyData.depthAll (b.cd.map cdD) + 1 ≤ 64
  rw [cd_depth]
  decide
end TG
/-! building a writing of a row of signs; new names -/
namespace TG
open PySem PySem.Spec L2
open PyProof.Rows hiding St
theorem ip_addS {X : Cx} : PIp X .Add rAddS := fun ps s σ H x y v u Q I r1 r2 h => in_addS ps s σ H x y v u Q I r1 r2 h
/-- a row of signs in whose names writings may stand -/
inductive Tr where
  | lf (v : V)
  | of (x : Str) (b : Tr)
  | to (a b : Tr)
namespace Tr
def sz : Tr → Nat
  | lf _ => 1
  | of _ b => b.sz + 1
  | to a b => a.sz + b.sz + 1
/-- a sign's pair -/
def hd : Tr → V × V
  | lf v => (.str "name", v)
  | of x _ => (.str "of", .str x)
  | to _ _ => (.str "to", .non)
def ents : Tr → List (V × V)
  | lf v => [hd (lf v)]
  | of x b => hd (of x b) :: b.ents
  | to a b => hd (to a b) :: (a.ents ++ b.ents)
theorem ents_len : ∀ t : Tr, t.ents.length = t.sz
  | lf _ => rfl
  | of _ b => by show b.ents.length + 1 = _; rw [ents_len b]; rfl
  | to a b => by show (a.ents ++ b.ents).length + 1 = _; rw [List.length_append, ents_len a, ents_len b]; rfl
def kids : Tr → List Tr
  | lf _ => []
  | of _ b => [b]
  | to a b => [a, b]
theorem ents_kids (t : Tr) : t.ents = t.hd :: t.kids.flatMap ents := by
  cases t with
  | lf _ => rfl
  | of x b => show _ :: b.ents = _ :: (b.ents ++ []); rw [List.append_nil]
  | to a b => show _ :: (a.ents ++ b.ents) = _ :: (a.ents ++ (b.ents ++ [])); rw [List.append_nil]
def nxt : List Tr → List Tr
  | [] => []
  | t :: r => t.kids ++ r
/-- what is left of it behind so many signs -/
def fo (t : Tr) : Nat → List Tr
  | 0 => [t]
  | i + 1 => nxt (fo t i)
theorem fo_drop (t : Tr) : ∀ i, i ≤ t.sz → t.ents.drop i = (fo t i).flatMap ents
  | 0, _ => by show t.ents = t.ents ++ []; rw [List.append_nil]
  | i + 1, h => by
    have ih := fo_drop t i (by omega)
    have e : t.ents.drop i ≠ [] := fun z => by
      have := congrArg List.length z
      rw [List.length_drop, ents_len] at this
      have : t.sz - i = 0 := this
      omega
    rw [← List.tail_drop, ih]
    show _ = (nxt (fo t i)).flatMap ents
    cases q : fo t i with
    | nil => rw [q] at ih; exact absurd ih e
    | cons s r =>
      show (s.ents ++ r.flatMap ents).tail = (s.kids ++ r).flatMap ents
      rw [ents_kids s, List.flatMap_append]
      rfl
theorem fo_head (t : Tr) {i : Nat} (h : i < t.sz) : ∃ s r, fo t i = s :: r ∧ t.ents[i]? = some s.hd := by
  have e := fo_drop t i (Nat.le_of_lt h)
  cases q : fo t i with
  | nil =>
    rw [q] at e
    have := congrArg List.length e
    rw [List.length_drop, ents_len] at this
    have : t.sz - i = 0 := this
    omega
  | cons s r =>
    refine ⟨s, r, rfl, ?_⟩
    rw [q] at e
    rw [← List.head?_drop, e]
    show (s.ents ++ _).head? = _
    rw [ents_kids]
    rfl
theorem fo_end (t : Tr) : fo t t.sz = [] := by
  have e := fo_drop t t.sz (Nat.le_refl _)
  rw [List.drop_eq_nil_iff.mpr (by rw [ents_len]; exact Nat.le_refl _)] at e
  cases q : fo t t.sz with
  | nil => rfl
  | cons s r =>
    rw [q] at e
    have e : [] = s.ents ++ r.flatMap ents := e
    rw [ents_kids] at e
    cases e
end Tr
/-- it stands at v -/
inductive TV (H : Hp) : V → Tr → Prop where
  | lf (v : V) : TV H v (.lf v)
  | of {a : Addr} {x : Str} {v : V} {b : Tr} : H a = some (.tup [.str "of", .str x, v]) → TV H v b → TV H (.ref a) (.of x b)
  | to {a : Addr} {u v : V} {b c : Tr} : H a = some (.tup [.str "to", u, v]) → TV H u b → TV H v c → TV H (.ref a) (.to b c)
theorem TV.mono {H H' : Hp} {v : V} {t : Tr} (h : TV H v t) (k : ∀ a xs, H a = some (.tup xs) → H' a = some (.tup xs)) : TV H' v t := by
  induction h with
  | lf v => exact .lf v
  | of e _ ih => exact .of (k _ _ e) ih
  | to e _ _ i1 i2 => exact .to (k _ _ e) i1 i2
/-- which writing it is -/
inductive TW (H : Hp) : Tr → Wr → Prop where
  | lf {v : V} {w : Wr} : WA H v w → TW H (.lf v) w
  | of {x : Str} {b : Tr} {w : Wr} : TW H b w → TW H (.of x b) (.of x w)
  | to {a b : Tr} {w u : Wr} : TW H a w → TW H b u → TW H (.to a b) (.to w u)
theorem TV.wa {H : Hp} {v : V} {t : Tr} {w : Wr} (h : TV H v t) (k : TW H t w) : WA H v w := by
  induction h generalizing w with
  | lf v => cases k with | lf h => exact h
  | of e _ ih => cases k with | of h => exact .of e (ih h)
  | to e _ _ i1 i2 => cases k with | to h1 h2 => exact .to e (i1 h1) (i2 h2)
theorem TW.same {H H' : Hp} {t : Tr} {w : Wr} (h : TW H t w) (s : Same H H') : TW H' t w := by
  induction h with
  | lf h => exact .lf (h.same s)
  | of _ ih => exact .of ih
  | to _ _ i1 i2 => exact .to i1 i2
/-- the pairs stand in a list -/
def EntsAt (H : Hp) (g : Addr) (t : Tr) : Prop := ∃ ts : List Addr, H g = some (.lst (ts.map V.ref)) ∧ ts.length = t.sz ∧ ∀ (i : Nat) (p : V × V) (a : Addr), t.ents[i]? = some p → ts[i]? = some a → H a = some (.tup [p.1, p.2])
theorem EntsAt.same {H H' : Hp} {g : Addr} {t : Tr} (h : EntsAt H g t) (s : Same H H') : EntsAt H' g t := let ⟨ts, h1, h2, h3⟩ := h; ⟨ts, s _ _ h1, h2, fun i p a x y => s _ _ (h3 i p a x y)⟩
def spBuilt : Sp := fun vs H Q _ => ∃ (g : Addr) (t : Tr), vs = [.ref g] ∧ EntsAt H g t ∧ t.sz ≤ 100000 ∧ ∀ (v : V) (H' : Hp), Same H H' → TV H' v t → Q v H'
/-- a writing as such a row -/
def Wr.tr : Wr → Tr
  | .nm z => .lf (.str z)
  | .of x b => .of x b.tr
  | .to a b => .to a.tr b.tr
theorem Wr.tr_sz : ∀ w : Wr, w.tr.sz = w.sg
  | .nm _ => rfl
  | .of _ b => congrArg (· + 1) (Wr.tr_sz b)
  | .to a b => by show a.tr.sz + b.tr.sz + 1 = _; rw [Wr.tr_sz a, Wr.tr_sz b]; rfl
theorem Wr.tr_ents : ∀ w : Wr, w.tr.ents = w.subs.map fun s => (V.str s.wd, nvV s)
  | .nm _ => rfl
  | .of x b => by show _ :: b.tr.ents = _; rw [Wr.tr_ents b]; rfl
  | .to a b => by show _ :: (a.tr.ents ++ b.tr.ents) = _; rw [Wr.tr_ents a, Wr.tr_ents b, ← List.map_append]; rfl
theorem Wr.tr_tw (H : Hp) : ∀ w : Wr, TW H w.tr w
  | .nm z => .lf (.nm z)
  | .of _ b => .of (Wr.tr_tw H b)
  | .to a b => .to (Wr.tr_tw H a) (Wr.tr_tw H b)
/-- a part of a row of signs -/
theorem ents_part {H : Hp} {g2 : Addr} {w s : Wr} {i : Nat} {ts : List Addr} (hl : ts.length = w.sg) (ht : ∀ (i : Nat) (s : Wr) (t : Addr), w.subs[i]? = some s → ts[i]? = some t → H t = some (.tup [.str s.wd, nvV s])) (hs : w.subs[i]? = some s)
    (h2 : H g2 = some (.lst (((ts.drop i).take s.sg).map V.ref))) : EntsAt H g2 s.tr := by
  have fit := Wr.subs_fit hs
  refine ⟨_, h2, by rw [List.length_take, List.length_drop, hl, s.tr_sz]; omega, fun j p a hp ha => ?_⟩
  rw [s.tr_ents, List.getElem?_map] at hp
  obtain ⟨u, hu, rfl⟩ := Option.map_eq_some_iff.mp hp
  have hj := Wr.subs_lt hu
  rw [List.getElem?_take, if_pos hj, List.getElem?_drop] at ha
  exact ht (i + j) u a ((Wr.subs_at hs j hj).trans hu) ha
def spPart (C : Addr) : Sp := fun vs H Q _ => ∃ (l : Addr) (w s : Wr) (i : Nat), vs = [.ref l, .int (i : Int)] ∧ LayAt C H l w ∧ w.sg ≤ 2000 ∧ w.subs[i]? = some s ∧ ∀ (v : V) (H' : Hp), Same H H' → WA H' v s → Q v H'
end TG
namespace TF18
open PySem PySem.Spec L2 TG TA
open PyProof.Rows hiding St
abbrev sBuilt : Stmt := top 30
abbrev sPart : Stmt := top 31
theorem scBuilt : FnScope ["signs", "parts", "word", "name", "one"] ["signs"] (defScope sBuilt) := ⟨rfl, rfl, rfl, by decide +kernel, rfl, by decide +kernel, by decide +kernel⟩
theorem scPart : FnScope ["layout", "at"] ["layout", "at"] (defScope sPart) := ⟨rfl, rfl, rfl, by decide +kernel, rfl, by decide +kernel, by decide +kernel⟩
section
variable {P : Program} {w : World} {K : PySem.W.Frag} {mg : Str → Option Value} {base : Heap} {f f1 f2 f3 : Addr} {fd fd1 fd2 fd3 : FuncData}
theorem ok_built (F : Fun K "built" "built" sBuilt f fd) (T : Bn mg) (W : Lw mg) : FnOk P w K mg base CX0 1 f fd ["signs"] spBuilt := by
  refine F.ok scBuilt (fun vs H Q E h => ?_) (fun cdv A outer s H vs Q E hr h => ?_)
  · obtain ⟨g, t, rfl, _⟩ := h
    rfl
  obtain ⟨g, t, rfl, ⟨ts, hg, hgl, hgt⟩, hn, q⟩ := h
  obtain ⟨tOf, gOf⟩ := W.of_
  obtain ⟨tTo, gTo⟩ := W.to_
  refine ⟨_, (pss_cons (ps_set (i := 1) scBuilt.nd rfl (.inl rfl) (pe_lst pa_nil))
      (pss_cons (ps_for PassesOwn.never rfl (pi_reversed (by rfl) T.b_reversed (pa_cons (pv 0) pa_nil)) (pg_tup (by rfl) (pgs_cons (pg_name (i := 2) scBuilt.nd rfl (.inl rfl)) (pgs_cons (pg_name (i := 3) scBuilt.nd rfl (.inl rfl)) pgs_nil)))
        (pss_one (ps_if (pt_cmpR op_eq (pv 2) (pe_glob (v := .str "of") rfl gOf ⟨_, rfl⟩) (nomark _)) (pss_one (ps_expr (pe_bm PySem.F.plainAttrs_list PySem.F.slot_list_append PySem.F.type_list_append mt_append (pv 1) (pa_cons (pe_tup (pa_cons (pe_glob (v := .str "of") rfl gOf ⟨_, rfl⟩) (pa_cons (pv 3) (pa_cons (pe_bm0 PySem.F.plainAttrs_list PySem.F.slot_list_pop PySem.F.type_list_pop mt_pop (pv 1)) pa_nil)))) pa_nil)))) (pss_one (ps_if (pt_cmpR op_eq (pv 2) (pe_glob (v := .str "to") rfl gTo ⟨_, rfl⟩) (nomark _)) (pss_cons (ps_set (i := 4) scBuilt.nd rfl (.inl rfl) (pe_bm0 PySem.F.plainAttrs_list PySem.F.slot_list_pop PySem.F.type_list_pop mt_pop (pv 1)))
            (pss_one (ps_expr (pe_bm PySem.F.plainAttrs_list PySem.F.slot_list_append PySem.F.type_list_append mt_append (pv 1) (pa_cons (pe_tup (pa_cons (pe_glob (v := .str "to") rfl gTo ⟨_, rfl⟩) (pa_cons (pv 4) (pa_cons (pe_bm0 PySem.F.plainAttrs_list PySem.F.slot_list_pop PySem.F.type_list_pop mt_pop (pv 1)) pa_nil)))) pa_nil))))) (pss_one (ps_expr (pe_bm PySem.F.plainAttrs_list PySem.F.slot_list_append PySem.F.type_list_append mt_append (pv 1) (pa_cons (pv 3) pa_nil)))))))))
      (pss_one (ps_ret (pe_ix ix_list (pv 1) pe_int (fun _ _ => rfl)))))), ?_⟩
  refine ⟨Nat.zero_le _, fun L hL => ?_⟩
  have L0 : H L = none := hL
  have s1 : Same H (L2.upd H L (.lst [])) := same_new hL
  have hnl : (ts.map V.ref).length = t.sz := by rw [List.length_map, hgl]
  refine ⟨_, rfl, g, _, rfl, SqL.of (s1 _ _ hg), ?_⟩
  refine for_it (walk_rev (xs := ts.map V.ref)) (fun k σ H2 => ∃ (v2 v3 v4 : Option V) (vs : List V), σ = [some (.ref g), some (.ref L), v2, v3, v4] ∧ Same H H2 ∧ H2 L = some (.lst vs.reverse) ∧ vs.length ≤ k ∧ Paired (TV H2) vs (t.fo (t.sz - k))) ?_ ?_ ?_ ?_
  · exact ⟨none, none, none, [], rfl, s1, upd_same, Nat.le_refl _, by rw [Nat.sub_zero, t.fo_end]; exact .nil⟩
  · rintro k σ H2 _ ⟨_, _, _, _, _, s2, _⟩
    exact SqL.of (s2 _ _ hg)
  · rintro k x σ H2 H3 hk ⟨v2, v3, v4, vs, rfl, s2, hl, hvl, hv⟩ ⟨rfl, hx⟩
    rw [hnl] at hk hx
    obtain ⟨i, hi⟩ : ∃ i, i = t.sz - 1 - k := ⟨_, rfl⟩
    rw [← hi, List.getElem?_map] at hx
    obtain ⟨a, ha, rfl⟩ := Option.map_eq_some_iff.mp hx
    obtain ⟨s', r, hfo, hhd⟩ := t.fo_head (i := i) (by omega)
    have ha2 := hgt i _ a hhd ha
    have e1 : t.sz - k = i + 1 := by omega
    have e2 : t.sz - (k + 1) = i := by omega
    rw [e1] at hv
    have hv : Paired (TV H3) vs (Tr.nxt (t.fo i)) := hv
    rw [hfo] at hv
    have hsl : vs.length + 1 < sizeLine := small_le (by omega)
    have tup_ne : ∀ {b : Addr} {xs : List V}, H3 b = some (.tup xs) → b ≠ L := fun h => ne_of h hl (by intro z; cases z)
    have keepT : ∀ (G : Hp), (∀ b u, b ≠ L → H3 b = some u → G b = some u) → ∀ {v : V} {u : Tr}, TV H3 v u → TV G v u := fun G k v u h => h.mono fun b xs e => k b _ (tup_ne e) e
    cases s' with
    | lf v =>
      have ha3 : H3 a = some (.tup [.str "name", v]) := s2 _ _ ha2
      refine ⟨a, _, rfl, SqT.of ha3, rfl, _, _, rfl, _, _, rfl, rfl, ?_⟩
      have hv : Paired (TV H3) vs r := hv
      refine ⟨_, rfl, rfl, _, rfl, ?_⟩
      rw [show decide (V.str "name" = V.str "of") = false by decide +kernel]
      refine iteF ⟨_, rfl, rfl, _, rfl, ?_⟩
      rw [show decide (V.str "name" = V.str "to") = false by decide +kernel]
      refine iteF ⟨_, rfl, .inl ⟨rfl, _, SqL.of hl⟩, _, rfl, L, _, _, rfl, rfl, hl, by rw [List.length_reverse]; omega, ?_⟩
      refine ⟨_, _, _, v :: vs, rfl, same_put s2 L0, by rw [upd_same, List.reverse_cons], by show vs.length + 1 ≤ k + 1; omega, ?_⟩
      rw [e2, hfo]
      exact .cons (.lf v) (paired_imp (fun _ _ h => keepT _ (fun b u n e => by rw [upd_ne n]; exact e) h) hv)
    | of x b =>
      have ha3 : H3 a = some (.tup [.str "of", .str x]) := s2 _ _ ha2
      refine ⟨a, _, rfl, SqT.of ha3, rfl, _, _, rfl, _, _, rfl, rfl, ?_⟩
      obtain _ | @⟨vb, _, vr, _, h1, h2⟩ := (show Paired (TV H3) vs (b :: r) from hv)
      rw [List.reverse_cons] at hl
      refine ⟨_, rfl, rfl, _, rfl, iteT ?_⟩
      refine ⟨_, rfl, .inl ⟨rfl, _, SqL.of hl⟩, _, rfl, _, rfl, .inl ⟨rfl, _, SqL.of hl⟩, L, _, vb, rfl, rfl, hl, last_snoc _ _, ?_⟩
      rw [List.dropLast_concat]
      refine ⟨(by show 3 ≤ sizeLine; decide), fun p hp => ?_⟩
      have hl2 : (L2.upd H3 L (.lst vr.reverse)) L = some (.lst vr.reverse) := upd_same
      have nLp : L ≠ p := ne_of_none hl2 hp
      have s3 : Same H (L2.upd (L2.upd H3 L (.lst vr.reverse)) p (.tup [.str "of", .str x, vb])) := (same_put s2 L0).trans (same_new hp)
      have hvl2 : vr.length + 1 ≤ k := hvl
      refine ⟨L, _, _, rfl, rfl, by rw [upd_ne nLp]; exact hl2, by rw [List.length_reverse]; exact small_le (by omega), ?_⟩
      have kk : ∀ c u, c ≠ L → H3 c = some u → (L2.upd (L2.upd (L2.upd H3 L (.lst vr.reverse)) p (.tup [.str "of", .str x, vb])) L (.lst (vr.reverse ++ [.ref p]))) c = some u := fun c u n e => by
        rw [upd_ne n]
        exact same_new hp c u (by rw [upd_ne n]; exact e)
      refine ⟨_, _, _, .ref p :: vr, rfl, same_put s3 L0, by rw [upd_same, List.reverse_cons], by show vr.length + 1 ≤ k + 1; omega, ?_⟩
      rw [e2, hfo]
      exact .cons (.of (by rw [upd_ne (Ne.symm nLp), upd_same]) (keepT _ kk h1)) (paired_imp (fun _ _ h => keepT _ kk h) h2)
    | to b c =>
      have ha3 : H3 a = some (.tup [.str "to", .non]) := s2 _ _ ha2
      refine ⟨a, _, rfl, SqT.of ha3, rfl, _, _, rfl, _, _, rfl, rfl, ?_⟩
      obtain _ | @⟨vb, _, vr1, _, h1, h2⟩ := (show Paired (TV H3) vs (b :: c :: r) from hv)
      obtain _ | @⟨vc, _, vr, _, h3, h4⟩ := h2
      rw [List.reverse_cons] at hl
      refine ⟨_, rfl, rfl, _, rfl, ?_⟩
      rw [show decide (V.str "to" = V.str "of") = false by decide +kernel]
      refine iteF ⟨_, rfl, rfl, _, rfl, iteT ?_⟩
      refine ⟨_, rfl, .inl ⟨rfl, _, SqL.of hl⟩, L, _, vb, rfl, rfl, hl, last_snoc _ _, ?_⟩
      rw [List.dropLast_concat, List.reverse_cons]
      have hl2 : (L2.upd H3 L (.lst (vr.reverse ++ [vc]))) L = some (.lst (vr.reverse ++ [vc])) := upd_same
      refine ⟨_, rfl, .inl ⟨rfl, _, SqL.of hl2⟩, _, rfl, _, rfl, .inl ⟨rfl, _, SqL.of hl2⟩, L, _, vc, rfl, rfl, hl2, last_snoc _ _, ?_⟩
      rw [List.dropLast_concat]
      refine ⟨(by show 3 ≤ sizeLine; decide), fun p hp => ?_⟩
      have hl3 : (L2.upd (L2.upd H3 L (.lst (vr.reverse ++ [vc]))) L (.lst vr.reverse)) L = some (.lst vr.reverse) := upd_same
      have nLp : L ≠ p := ne_of_none hl3 hp
      have s3 : Same H (L2.upd (L2.upd (L2.upd H3 L (.lst (vr.reverse ++ [vc]))) L (.lst vr.reverse)) p (.tup [.str "to", vb, vc])) := (same_put (same_put s2 L0) L0).trans (same_new hp)
      have hvl2 : vr.length + 1 + 1 ≤ k := hvl
      refine ⟨L, _, _, rfl, rfl, by rw [upd_ne nLp]; exact hl3, by rw [List.length_reverse]; exact small_le (by omega), ?_⟩
      have kk : ∀ c' u, c' ≠ L → H3 c' = some u → (L2.upd (L2.upd (L2.upd (L2.upd H3 L (.lst (vr.reverse ++ [vc]))) L (.lst vr.reverse)) p (.tup [.str "to", vb, vc])) L (.lst (vr.reverse ++ [.ref p]))) c' = some u := fun c' u n e => by
        rw [upd_ne n]
        exact same_new hp c' u (by rw [upd_ne n, upd_ne n]; exact e)
      refine ⟨_, _, _, .ref p :: vr, rfl, same_put s3 L0, by rw [upd_same, List.reverse_cons], by show vr.length + 1 ≤ k + 1; omega, ?_⟩
      rw [e2, hfo]
      exact .cons (.to (by rw [upd_ne (Ne.symm nLp), upd_same]) (keepT _ kk h1) (keepT _ kk h3)) (paired_imp (fun _ _ h => keepT _ kk h) h4)
  · rintro σ H2 ⟨v2, v3, v4, vs, rfl, s2, hl, hvl, hv⟩
    rw [hnl, Nat.sub_self] at hv
    obtain _ | @⟨v, _, vr, _, h1, h2⟩ := (show Paired (TV H2) vs [t] from hv)
    cases h2
    exact ⟨_, rfl, L, _, _, v, rfl, rfl, SqL.of hl, atI_nat (j := 0) rfl, q v H2 s2 h1⟩
theorem ok_part {C fI : Addr} (F : Fun K "built_part" "built_part" sPart f fd) (T : Bn mg) (Z : LayC K mg C fI) (D_built : Df K mg "built" sBuilt f1 fd1 ["signs"]) (G_built : FnOk P w K mg base CX0 1 f1 fd1 ["signs"] spBuilt) : FnOk P w K mg base CX0 2 f fd ["layout", "at"] (spPart C) := by
  refine F.ok scPart (fun vs H Q E h => ?_) (fun cdv A outer s H vs Q E hr h => ?_)
  · obtain ⟨l, wr, s', i, rfl, _⟩ := h
    rfl
  obtain ⟨l, wr, s', i, rfl, ⟨g, e, b, a, d, dx, hl, ⟨ts, hg, hgl, hgt⟩, ⟨xs, he, hx, hxs⟩, _⟩, hn, hs, q⟩ := h
  refine ⟨_, (pss_one (ps_ret (pe_cd D_built G_built hr (by decide) (pa_cons (pe_slice sl_list (pe_fld (pv 0) (by rfl)) (po_some (pv 1)) (po_some (pe_ix ix_list (pe_fld (pv 0) (by rfl)) (pv 1) (fun _ _ => rfl)))) pa_nil)))), ?_⟩
  have fit := Wr.subs_fit hs
  have hin := Wr.subs_lt hs
  refine ⟨_, rfl, l, C, dx, _, _, rfl, hl, Z.cl, Z.nS, lay_signs g e b a d, _, rfl, _, rfl, _, rfl, l, C, dx, _, _, rfl, hl, Z.cl, Z.nE, lay_ends g e b a d, _, rfl, e, _, _, _, rfl, rfl, SqL.of he, atI_nat (hxs i s' hs), _, rfl, g, _, rfl, SqL.of hg, fun p hp => ?_⟩
  have cut : cutV (ts.map V.ref) (some (i : Int)) (some ((i + s'.sg : Nat) : Int)) = ((ts.drop i).take s'.sg).map V.ref := by
    unfold cutV
    rw [HT.sIx_nat, HT.sIx_nat, List.length_map, hgl, Nat.min_eq_left (by omega), Nat.min_eq_left (by omega), ← List.map_drop, ← List.map_take, Nat.add_sub_cancel_left]
  rw [cut]
  have s1 : Same H (L2.upd H p (.lst (((ts.drop i).take s'.sg).map V.ref))) := same_new hp
  refine ⟨p, s'.tr, rfl, ents_part hgl (fun i s t x y => s1 _ _ (hgt i s t x y)) hs upd_same, by rw [s'.tr_sz]; omega, fun v H' s2 hv => q v H' (s1.trans s2) (hv.wa (s'.tr_tw H'))⟩
end
end TF18
/-! new names; which "of"s get them -/
namespace TG
open PySem PySem.Spec L2
open PyProof.Rows hiding St
def strN (k : Nat) : Str := Str.ofString (toString ((k : Nat) : Int))
def letN (n : Nat) : Str := ⟨#[97 + n % 26]⟩
def nmN (n : Nat) : Str := if n / 26 = 0 then letN n else letN n ++ strN (n / 26 - 1)
def dgs (l : List Nat) : Bool := l.all fun c => decide (48 ≤ c ∧ c ≤ 57)
theorem strN_ok : ∀ k, k < 400 → (dgs (strN k).cps.toList && decide (1 ≤ (strN k).cps.toList.length) && decide ((strN k).cps.toList.length ≤ 3)) = true := by decide +kernel
theorem strN_inj {m n : Nat} (hm : m < 10 ^ 9) (hn : n < 10 ^ 9) (h : strN m = strN n) : m = n := by
  have h1 := PySem.W.KIN.num_reads (n := (m : Int)) (by omega) (by omega)
  have h2 := PySem.W.KIN.num_reads (n := (n : Int)) (by omega) (by omega)
  unfold strN at h
  rw [h, h2] at h1
  have := Option.some.inj h1
  omega
theorem str_ext {a b : Str} (h : a.cps.toList = b.cps.toList) : a = b := by
  cases a; cases b
  congr 1
  exact Array.toList_inj.mp h
theorem app_list (a b : Str) : (a ++ b).cps.toList = a.cps.toList ++ b.cps.toList := by
  show (a.cps ++ b.cps).toList = _
  exact Array.toList_append
/-- its signs: a letter, then digits -/
theorem nmN_list {n : Nat} (hn : n < 10000) : ∃ ds, (nmN n).cps.toList = (97 + n % 26) :: ds ∧ dgs ds = true ∧ ds.length ≤ 3 ∧ (n / 26 = 0 → ds = []) ∧ (n / 26 ≠ 0 → ds = (strN (n / 26 - 1)).cps.toList ∧ 1 ≤ ds.length) := by
  unfold nmN
  by_cases c : n / 26 = 0
  · rw [if_pos c]
    exact ⟨[], rfl, rfl, by decide, fun _ => rfl, fun z => absurd c z⟩
  · rw [if_neg c, app_list]
    have h := strN_ok (n / 26 - 1) (by omega)
    simp only [Bool.and_eq_true, decide_eq_true_eq] at h
    exact ⟨(strN (n / 26 - 1)).cps.toList, rfl, h.1.1, h.2, fun z => absurd z c, fun _ => ⟨rfl, h.1.2⟩⟩
theorem nmN_inj {m n : Nat} (hm : m < 10000) (hn : n < 10000) (h : nmN m = nmN n) : m = n := by
  obtain ⟨d1, e1, _, _, a1, b1⟩ := nmN_list hm
  obtain ⟨d2, e2, _, _, a2, b2⟩ := nmN_list hn
  rw [h, e2] at e1
  injection e1 with z1 z2
  by_cases c1 : m / 26 = 0
  · by_cases c2 : n / 26 = 0
    · omega
    · rw [z2, a1 c1] at b2
      have := (b2 c2).2
      exact absurd this (by decide)
  · by_cases c2 : n / 26 = 0
    · rw [← z2, a2 c2] at b1
      have := (b1 c1).2
      exact absurd this (by decide)
    · have e : strN (m / 26 - 1) = strN (n / 26 - 1) := str_ext (by rw [← (b1 c1).1, ← (b2 c2).1, z2])
      have := strN_inj (by omega) (by omega) e
      omega
theorem okN_let {z : Str} {c : Nat} {ds : List Nat} (h : z.cps.toList = c :: ds) (h1 : 97 ≤ c ∧ c ≤ 122) (h2 : dgs ds = true) (h3 : ds.length ≤ 3) : okN z = true := by
  have hl : z.length = ds.length + 1 := by
    show z.cps.size = _
    rw [← Array.length_toList, h]
    rfl
  have n1 : ∀ {y : Str} {a b : Nat}, y.cps.toList = [a, b] → 57 < b → z ≠ y := by
    rintro y a b hy hb rfl
    rw [h] at hy
    cases hy
    have := List.all_eq_true.mp h2 b List.mem_cons_self
    have := of_decide_eq_true this
    omega
  unfold okN
  rw [h]
  simp only [Bool.and_eq_true, decide_eq_true_eq]
  refine ⟨⟨⟨n1 (y := "of") (a := 111) (b := 102) (by decide +kernel) (by decide), n1 (y := "to") (a := 116) (b := 111) (by decide +kernel) (by decide)⟩, by omega, by omega⟩, h1, ?_⟩
  refine List.all_eq_true.mpr fun x hx => ?_
  rw [Bool.or_eq_true]
  exact .inr (List.all_eq_true.mp h2 x hx)
theorem nmN_ok {n : Nat} (hn : n < 10000) : okN (nmN n) = true := by
  obtain ⟨ds, h, h2, h3, _⟩ := nmN_list hn
  exact okN_let h (by omega) h2 h3
/-- unlike ones among others are no more than these -/
theorem nodup_le {α : Type} [DecidableEq α] : ∀ {l m : List α}, l.Nodup → (∀ x ∈ l, x ∈ m) → l.length ≤ m.length
  | [], m, _, _ => Nat.zero_le _
  | x :: l, m, h, k => by
    have hx : x ∈ m := k x List.mem_cons_self
    have hn := List.nodup_cons.mp h
    have ih := nodup_le (l := l) (m := m.erase x) hn.2 fun y hy => by
      refine (List.mem_erase_of_ne (fun e => hn.1 (by rw [← e]; exact hy))).mpr (k y (List.mem_cons_of_mem _ hy))
    rw [List.length_erase_of_mem hx] at ih
    have : 1 ≤ m.length := List.length_pos_of_mem hx
    show l.length + 1 ≤ m.length
    omega
theorem nodup_on {α β : Type} {f : α → β} : ∀ {l : List α}, (∀ x ∈ l, ∀ y ∈ l, f x = f y → x = y) → l.Nodup → (l.map f).Nodup
  | [], _, _ => List.nodup_nil
  | x :: l, h, n => by
    have n2 := List.nodup_cons.mp n
    refine List.nodup_cons.mpr ⟨fun hm => ?_, nodup_on (fun a ha b hb => h a (List.mem_cons_of_mem _ ha) b (List.mem_cons_of_mem _ hb)) n2.2⟩
    obtain ⟨y, hy, e⟩ := List.mem_map.mp hm
    exact n2.1 (by rw [h x List.mem_cons_self y (List.mem_cons_of_mem _ hy) e.symm]; exact hy)
/-- the new ones among the first so many -/
def nwL (ns : List (Option Str)) (k : Nat) : List Str := ((List.range k).filter fun n => !decide (some (nmN n) ∈ ns)).map nmN
theorem nwL_succ (ns : List (Option Str)) (k : Nat) : nwL ns (k + 1) = nwL ns k ++ if some (nmN k) ∈ ns then [] else [nmN k] := by
  unfold nwL
  rw [List.range_succ, List.filter_append, List.map_append]
  congr 1
  by_cases c : some (nmN k) ∈ ns
  · rw [if_pos c, List.filter_cons_of_neg (by simp [c])]
    rfl
  · rw [if_neg c, List.filter_cons_of_pos (by simp [c])]
    rfl
theorem nwL_nodup {ns : List (Option Str)} {k : Nat} (hk : k ≤ 10000) : (nwL ns k).Nodup := by
  unfold nwL
  refine nodup_on ?_ (List.nodup_range.filter _)
  intro x hx y hy e
  exact nmN_inj (Nat.lt_of_lt_of_le (List.mem_range.mp (List.mem_filter.mp hx).1) hk) (Nat.lt_of_lt_of_le (List.mem_range.mp (List.mem_filter.mp hy).1) hk) e
theorem nwL_mem {ns : List (Option Str)} {k : Nat} (hk : k ≤ 10000) : ∀ z ∈ nwL ns k, some z ∉ ns ∧ okN z = true := by
  intro z hz
  obtain ⟨n, hn, rfl⟩ := List.mem_map.mp hz
  obtain ⟨h1, h2⟩ := List.mem_filter.mp hn
  refine ⟨by simpa using h2, nmN_ok (Nat.lt_of_lt_of_le (List.mem_range.mp h1) hk)⟩
theorem nwL_len {ns : List (Option Str)} {k : Nat} (hk : k ≤ 10000) : k ≤ (nwL ns k).length + ns.length := by
  have h1 : ((List.range k).filter fun n => decide (some (nmN n) ∈ ns)).length ≤ ns.length := by
    rw [← List.length_map (f := fun n => some (nmN n))]
    refine nodup_le (nodup_on ?_ (List.nodup_range.filter _)) ?_
    · intro x hx y hy e
      exact nmN_inj (Nat.lt_of_lt_of_le (List.mem_range.mp (List.mem_filter.mp hx).1) hk) (Nat.lt_of_lt_of_le (List.mem_range.mp (List.mem_filter.mp hy).1) hk) (Option.some.inj e)
    · intro x hx
      obtain ⟨n, hn, rfl⟩ := List.mem_map.mp hx
      exact of_decide_eq_true (List.mem_filter.mp hn).2
  have h2 : ∀ (p : Nat → Bool) (l : List Nat), l.length = (l.filter p).length + (l.filter fun n => !p n).length := by
    intro p l
    induction l with
    | nil => rfl
    | cons x l ih =>
      cases c : p x with
      | true =>
        rw [List.filter_cons_of_pos c, List.filter_cons_of_neg (by simp [c])]
        show l.length + 1 = _
        rw [List.length_cons]
        omega
      | false =>
        rw [List.filter_cons_of_neg (by simp [c]), List.filter_cons_of_pos (by simp [c])]
        show l.length + 1 = _
        rw [List.length_cons]
        omega
  have h3 := h2 (fun n => decide (some (nmN n) ∈ ns)) (List.range k)
  rw [List.length_range] at h3
  unfold nwL
  rw [List.length_map]
  omega
theorem nwL_pre (ns : List (Option Str)) {n N : Nat} (h : n ≤ N) : ∃ r, nwL ns N = nwL ns n ++ r := by
  induction h with
  | refl => exact ⟨[], (List.append_nil _).symm⟩
  | step _ ih =>
    obtain ⟨r, e⟩ := ih
    exact ⟨_, by rw [nwL_succ, e, List.append_assoc]⟩
theorem nwL_take (ns : List (Option Str)) {n N : Nat} (h : n ≤ N) : (nwL ns N).take (nwL ns n).length = nwL ns n := by
  obtain ⟨r, e⟩ := nwL_pre ns h
  rw [e, List.take_left]
def spNew (P : Program) (w : World) : Sp := fun vs H Q _ => ∃ (c : Nat) (D : Addr) (ns : List (Option Str)), vs = [.int (c : Int), .ref D] ∧ NAt P w H D ns ∧ c ≤ 2000 ∧ ns.length ≤ 4200 ∧
  ∀ (a : Addr) (l : List Str) (H' : Hp), Same H H' → H' a = some (.lst (l.map V.str)) → l.length = c → l.Nodup → (∀ z ∈ l, some z ∉ ns ∧ okN z = true) → l = (nwL ns (c + ns.length)).take c → Q (.ref a) H'
theorem NAt.same {P : Program} {w : World} {H H' : Hp} {D : Addr} {ns : List (Option Str)} (h : NAt P w H D ns) (s : Same H H') : NAt P w H' D ns := h.imp (s _ _) fun h => ⟨h.1, s _ _ h.2⟩
end TG
namespace TF18
open PySem PySem.Spec L2 TG TA
open PyProof.Rows hiding St
abbrev sNew : Stmt := top 37
theorem scNew : FnScope ["count", "used", "found", "number", "turn", "name"] ["count", "used"] (defScope sNew) := ⟨rfl, rfl, rfl, by decide +kernel, rfl, by decide +kernel, by decide +kernel⟩
theorem e26 : ("abcdefghijklmnopqrstuvwxyz" : Str).length = 26 := by decide +kernel
theorem l26 : ("abcdefghijklmnopqrstuvwxyz" : Str).cps.toList = List.range' 97 26 := by decide +kernel
section
variable {P : Program} {w : World} {K : PySem.W.Frag} {mg : Str → Option Value} {base : Heap} {f f1 f2 f3 : Addr} {fd fd1 fd2 fd3 : FuncData}
theorem ok_new (F : Fun K "new_names" "new_names" sNew f fd) (T : Bn mg) (VC : Cn K mg) : FnOk P w K mg base CX0 1 f fd ["count", "used"] (spNew P w) := by
  refine F.ok scNew (fun vs H Q E h => ?_) (fun cdv A outer s H vs Q E hr h => ?_)
  · obtain ⟨c, D, ns, rfl, _⟩ := h
    rfl
  obtain ⟨c, D, ns, rfl, hD, hc, hns, q⟩ := h
  obtain ⟨tL, gL⟩ := VC.lets
  refine ⟨_, (pss_cons (ps_set (i := 2) scNew.nd rfl (.inl rfl) (pe_lst pa_nil))
      (pss_cons (ps_set (i := 3) scNew.nd rfl (.inl rfl) pe_int)
      (pss_cons (ps_while PassesOwn.never (pt_cmpR op_lt (pe_callB call_len_seq (by rfl) T.b_len (by decide +kernel) (pa_cons (pv 2) pa_nil)) (pv 0) (nomark _))
        (pss_cons (ps_set (i := 4) scNew.nd rfl (.inl rfl) (pe_op op_fdivN (pv 3) (pe_callB call_len_str (by rfl) T.b_len (by decide +kernel) (pa_cons (pe_glob (v := .str "abcdefghijklmnopqrstuvwxyz") rfl gL ⟨_, rfl⟩) pa_nil))))
        (pss_cons (ps_set (i := 5) scNew.nd rfl (.inl rfl) (pe_ix ix_str (pe_glob (v := .str "abcdefghijklmnopqrstuvwxyz") rfl gL ⟨_, rfl⟩) (pe_op op_sub (pv 3) (pe_op op_mul (pv 4) (pe_callB call_len_str (by rfl) T.b_len (by decide +kernel) (pa_cons (pe_glob (v := .str "abcdefghijklmnopqrstuvwxyz") rfl gL ⟨_, rfl⟩) pa_nil)))) (fun _ _ => rfl)))
        (C8.pss_cut (ps_if (pt_cmpR op_gt (pv 4) pe_int (nomark _)) (pss_one (ps_aug (i := 5) scNew.nd rfl (.inl rfl) (pe_callTy call_str_int (by rfl) T.b_str (by decide +kernel) (pa_cons (pe_op op_sub (pv 4) pe_int) pa_nil)) ip_addS)) pss_nil)
        (pss_cons (ps_if (pt_cmpR op_notinN (pv 5) (pv 1) (by rfl)) (pss_one (ps_expr (pe_bm PySem.F.plainAttrs_list PySem.F.slot_list_append PySem.F.type_list_append mt_append (pv 2) (pa_cons (pv 5) pa_nil)))) pss_nil)
        (pss_one (ps_aug (i := 3) scNew.nd rfl (.inl rfl) pe_int ip_add)))))))
      (pss_one (ps_ret (pv 2)))))), ?_⟩
  refine ⟨Nat.zero_le _, fun L hL => ?_⟩
  have L0 : H L = none := hL
  refine ⟨fun m σ H2 => ∃ (n : Nat) (v4 v5 : Option V), m = c + ns.length + 1 - n ∧ n ≤ c + ns.length ∧ σ = [some (.int (c : Int)), some (.ref D), some (.ref L), some (.int (n : Int)), v4, v5] ∧ Same H H2 ∧ H2 L = some (.lst ((nwL ns n).map V.str)) ∧ (nwL ns n).length ≤ c, ⟨_, 0, none, none, rfl, Nat.zero_le _, rfl, same_new hL, upd_same, Nat.zero_le _⟩, ?_⟩
  rintro m σ H2 ⟨n, v4, v5, rfl, hn, rfl, s2, hl, hlc⟩
  have hlen : ((nwL ns n).map V.str).length = (nwL ns n).length := List.length_map _
  refine ⟨_, rfl, L, _, rfl, .inl (SqL.of hl), _, rfl, _, _, rfl, rfl, _, rfl, ?_⟩
  rw [hlen]
  have hlow := nwL_len (ns := ns) (k := n) (by omega)
  refine ite2 (fun c1 => ?_) (fun c1 => ?_)
  · have lt : (nwL ns n).length < c := by have := of_decide_eq_true c1; omega
    have nlt : n < c + ns.length := by omega
    refine ⟨_, fun σ' H' z => z, ?_⟩
    refine ⟨_, rfl, _, rfl, (by rw [e26]; decide), _, _, rfl, rfl, ⟨by rw [e26]; decide, by rw [e26]; decide⟩, ?_⟩
    have ediv : ((n : Int)).fdiv ((("abcdefghijklmnopqrstuvwxyz" : Str).length : Nat) : Int) = ((n / 26 : Nat) : Int) := by
      rw [e26, Int.fdiv_eq_ediv_of_nonneg _ (by decide)]
      rfl
    dsimp only
    rw [ediv]
    have eix : (n : Int) - ((n / 26 : Nat) : Int) * ((("abcdefghijklmnopqrstuvwxyz" : Str).length : Nat) : Int) = ((n % 26 : Nat) : Int) := by
      rw [e26]
      omega
    have hat : atI ("abcdefghijklmnopqrstuvwxyz" : Str).cps.toList ((n % 26 : Nat) : Int) = some (97 + n % 26) := by
      rw [l26]
      refine atI_nat ?_
      rw [List.getElem?_range' (by omega)]
      congr 1
      omega
    refine ⟨_, rfl, _, rfl, _, rfl, (by rw [e26]; decide), _, _, rfl, rfl, .inl ⟨by omega, by omega⟩, _, _, rfl, rfl, ?_⟩
    dsimp only
    rw [eix]
    refine ⟨_, _, 97 + n % 26, rfl, rfl, (by rw [e26]; decide), hat, ?_⟩
    refine ⟨fun σ H3 => H3 = H2 ∧ ∃ v4 : Option V, σ = [some (.int (c : Int)), some (.ref D), some (.ref L), some (.int (n : Int)), v4, some (.str (nmN n))], ?_, ?_⟩
    · refine ⟨_, rfl, _, _, rfl, rfl, _, rfl, ?_⟩
      refine ite2 (fun c2 => ?_) (fun c2 => ?_)
      · have pos : n / 26 ≠ 0 := by have := of_decide_eq_true c2; omega
        have e1 : ((n / 26 : Nat) : Int) - 1 = ((n / 26 - 1 : Nat) : Int) := by omega
        have small : n / 26 - 1 < 400 := by omega
        have hs := strN_ok (n / 26 - 1) small
        simp only [Bool.and_eq_true, decide_eq_true_eq] at hs
        have hsz : (strN (n / 26 - 1)).length ≤ 3 := by
          show (strN (n / 26 - 1)).cps.size ≤ 3
          rw [← Array.length_toList]
          exact hs.2
        refine ⟨_, rfl, _, rfl, _, _, rfl, rfl, _, rfl, ?_, _, _, rfl, rfl, ?_, rfl, some (.int ((n / 26 : Nat) : Int)), ?_⟩
        · show (((n / 26 : Nat) : Int) - 1).natAbs.log2 < 1920
          refine Nat.lt_of_le_of_lt (Nat.log2_le_self _) ?_
          omega
        · show (⟨#[97 + n % 26]⟩ : Str).length + (Str.ofString (toString (((n / 26 : Nat) : Int) - 1))).length ≤ sizeLine
          rw [e1]
          exact Nat.le_of_lt (small_le (show 1 + (strN (n / 26 - 1)).length ≤ 1000000 by omega))
        · show [some (V.int (c : Int)), some (.ref D), some (.ref L), some (.int (n : Int)), _, some (.str ((⟨#[97 + n % 26]⟩ : Str) ++ Str.ofString (toString (((n / 26 : Nat) : Int) - 1))))] = _
          rw [e1]
          have e2 : nmN n = (⟨#[97 + n % 26]⟩ : Str) ++ Str.ofString (toString ((n / 26 - 1 : Nat) : Int)) := if_neg pos
          rw [e2]
      · have z0 : n / 26 = 0 := by
          have h1 : ¬ (0 : Int) < ((n / 26 : Nat) : Int) := fun z => c2 (decide_eq_true z)
          omega
        have e2 : nmN n = (⟨#[97 + n % 26]⟩ : Str) := if_pos z0
        rw [e2]
        exact ⟨rfl, _, rfl⟩
    · rintro σ H3 ⟨rfl, v4, rfl⟩
      refine ⟨_, rfl, _, rfl, D, ns, nmN n, rfl, rfl, hD.same s2, _, rfl, ?_⟩
      have step := nwL_succ ns n
      refine ite2 (fun c3 => ?_) (fun c3 => ?_)
      · have c4 : some (nmN n) ∉ ns := by simpa using c3
        rw [if_neg c4] at step
        refine ⟨_, rfl, .inl ⟨rfl, _, SqL.of hl⟩, _, rfl, L, _, _, rfl, rfl, hl, by rw [hlen]; exact small_le (by omega), ?_⟩
        refine ⟨_, rfl, _, _, rfl, rfl, _, ?_, n + 1, _, _, rfl, nlt, rfl, same_put s2 L0, ?_, ?_⟩
        · omega
        · rw [upd_same, step, List.map_append]
          rfl
        · rw [step, List.length_append]
          show (nwL ns n).length + 1 ≤ c
          omega
      · have c4 : some (nmN n) ∈ ns := by simpa using c3
        rw [if_pos c4, List.append_nil] at step
        refine ⟨_, rfl, _, _, rfl, rfl, _, ?_, n + 1, _, _, rfl, nlt, rfl, s2, ?_, ?_⟩
        · omega
        · rw [step]; exact hl
        · rw [step]; exact hlc
  · have ge : ¬ ((nwL ns n).length : Int) < (c : Int) := fun z => c1 (decide_eq_true z)
    refine ⟨_, rfl, q L _ H2 s2 hl (by omega) (nwL_nodup (by omega)) (nwL_mem (by omega)) ?_⟩
    have e : (nwL ns n).length = c := by omega
    have h := nwL_take ns (show n ≤ c + ns.length from hn)
    rw [e] at h
    exact h.symm
end
end TF18
/-! what is put in: which "of"s are told anew -/
namespace TG
open PySem PySem.Spec L2
open PyProof.Rows hiding St
namespace Wr
theorem frL_ex {z : Str} {b : Wr} {o : Nat} {e : List (Str × Nat)} (h : z ∈ b.frL (e.map (·.1))) : ∃ (j : Nat) (l : List (Str × Nat)), b.subs[j]? = some (nm z) ∧ (b.envs o e)[j]? = some l ∧ find z l = none := by
  rw [← free_zip b o e] at h
  obtain ⟨p, hp, e1⟩ := List.mem_filterMap.mp h
  obtain ⟨j, hj⟩ := List.getElem?_of_mem hp
  obtain ⟨h1, h2⟩ := List.getElem?_zip_eq_some.mp hj
  obtain ⟨s, l⟩ := p
  cases s with
  | nm y =>
    have e1 : (if find y l = none then some y else none) = some z := e1
    by_cases c : find y l = none
    · rw [if_pos c] at e1
      cases e1
      exact ⟨j, l, h1, h2, c⟩
    · rw [if_neg c] at e1; cases e1
  | of _ _ => cases e1
  | to _ _ => cases e1
theorem envs_suf : ∀ {b : Wr} {o j : Nat} {e l : List (Str × Nat)}, (b.envs o e)[j]? = some l → ∃ pre, l = pre ++ e
  | nm _, o, 0, e, l, h => by cases h; exact ⟨[], rfl⟩
  | nm _, o, j + 1, e, l, h => nomatch h
  | of x b, o, 0, e, l, h => by cases h; exact ⟨[], rfl⟩
  | of x b, o, j + 1, e, l, h => by
    obtain ⟨pre, q⟩ := envs_suf (b := b) (show (b.envs (o + 1) ((x, o) :: e))[j]? = some l from h)
    exact ⟨pre ++ [(x, o)], by rw [q, List.append_assoc]; rfl⟩
  | to a b, o, 0, e, l, h => by cases h; exact ⟨[], rfl⟩
  | to a b, o, j + 1, e, l, h => by
    have h : (a.envs (o + 1) e ++ b.envs (o + 1 + a.sg) e)[j]? = some l := h
    by_cases c : j < (a.envs (o + 1) e).length
    · rw [List.getElem?_append_left c] at h
      exact envs_suf (b := a) h
    · rw [List.getElem?_append_right (by omega)] at h
      exact envs_suf (b := b) h
/-- an "of" in whose body the name is free stands around one of its signs -/
theorem gone_around {w b : Wr} {x z : Str} {i : Nat} (hs : w.subs[i]? = some (of x b)) (h : z ∈ b.frL (x :: (w.env i).map (·.1))) : ∃ g, g ∈ w.frIx ∧ w.nmAt g = z ∧ (x, i) ∈ w.env g := by
  have hb := kid_of hs
  obtain ⟨e, he⟩ := envs_at (o := 0) (e0 := []) hb
  have e0 : e = (x, i) :: w.env i := by
    have h1 := he 0 b.sg_pos
    rw [Nat.add_zero, Nat.zero_add, envs_zero] at h1
    have h2 := env_eq (w := w) (i := i + 1) (subs_lt hb)
    rw [h1, env_of hs] at h2
    exact Option.some.inj h2
  subst e0
  obtain ⟨j, l, hj, hl, hf⟩ := frL_ex (o := i + 1) (e := (x, i) :: w.env i) h
  have hjl := subs_lt hj
  have hw : w.subs[i + 1 + j]? = some (nm z) := (subs_at hb j hjl).trans hj
  have hwe : w.env (i + 1 + j) = l := by
    have h1 := he j hjl
    rw [Nat.zero_add, hl] at h1
    have h2 := env_eq (subs_lt hw)
    rw [h1] at h2
    exact (Option.some.inj h2).symm
  refine ⟨i + 1 + j, ?_, ?_, ?_⟩
  · rw [frIx_eq]
    refine List.mem_filter.mpr ⟨List.mem_range.mpr (subs_lt hw), ?_⟩
    unfold frP
    rw [hw]
    exact decide_eq_true (by rw [hwe]; exact hf)
  · unfold nmAt
    rw [hw]
  · rw [hwe]
    obtain ⟨pre, q⟩ := envs_suf hl
    rw [q]
    exact List.mem_append_right _ List.mem_cons_self
/-- the second of a sign's pair, as a name or none -/
def nvO : Wr → Option Str
  | nm z => some z
  | of x _ => some x
  | to _ _ => none
theorem nvO_v (s : Wr) : nvV s = optS s.nvO := by cases s <;> rfl
theorem nms_subs : ∀ {w : Wr} {z : Str}, z ∈ w.nms → ∃ s ∈ w.subs, s.nvO = some z
  | nm y, z, h => ⟨nm y, List.mem_singleton_self _, congrArg some (List.mem_singleton.mp h).symm⟩
  | of x b, z, h => by
    rcases List.mem_cons.mp h with rfl | h
    · exact ⟨_, List.mem_cons_self, rfl⟩
    · obtain ⟨s, hs, e⟩ := nms_subs h
      exact ⟨s, List.mem_cons_of_mem _ hs, e⟩
  | to a b, z, h => by
    rcases List.mem_append.mp h with h | h
    · obtain ⟨s, hs, e⟩ := nms_subs h
      exact ⟨s, List.mem_cons_of_mem _ (List.mem_append_left _ hs), e⟩
    · obtain ⟨s, hs, e⟩ := nms_subs h
      exact ⟨s, List.mem_cons_of_mem _ (List.mem_append_right _ hs), e⟩
theorem env_nodup {w : Wr} : ∀ {i : Nat}, i < w.sg → ((w.env i).map (·.2)).Nodup := by
  intro i
  induction i using Nat.strongRecOn with
  | _ i ih =>
    intro hi
    by_cases h0 : i = 0
    · subst h0
      rw [env_zero]
      exact List.nodup_nil
    obtain ⟨j, s, k, hj, hs, hk, rfl⟩ := has_par (w := w) (i := i) (by omega) hi
    have c := ih j hj (subs_lt hs)
    cases s with
    | nm z => exact absurd hk List.not_mem_nil
    | of x b =>
      rw [List.mem_singleton.mp hk, env_of hs]
      refine List.nodup_cons.mpr ⟨fun hm => ?_, c⟩
      obtain ⟨p, hp, ep⟩ := List.mem_map.mp hm
      have h1 := env_lt w (subs_lt hs) p hp
      have h2 : p.2 = j := ep
      omega
    | to a b =>
      rcases List.mem_cons.mp hk with rfl | hk
      · rw [env_one hs]; exact c
      · rw [List.mem_singleton.mp hk, ← Nat.add_assoc, env_two hs]; exact c
/-- where those around stand -/
def ix (w : Wr) (g : Nat) : List Nat := (w.env g).map (·.2)
/-- with each its own are there -/
def Closed (w : Wr) (l : List Nat) : Prop := ∀ j ∈ l, (∃ x b, w.subs[j]? = some (of x b)) ∧ ∀ k ∈ w.ix j, k ∈ l
theorem closed_app {w : Wr} {l : List Nat} (h : Closed w l) {e : List (Str × Nat)} (c : Chain w e) : Closed w (l ++ e.map (·.2)) := by
  intro j hj
  rcases List.mem_append.mp hj with hj | hj
  · exact ⟨(h j hj).1, fun k hk => List.mem_append_left _ ((h j hj).2 k hk)⟩
  · have key : ∀ {e : List (Str × Nat)}, Chain w e → ∀ j ∈ e.map (·.2), (∃ x b, w.subs[j]? = some (of x b)) ∧ ∀ k ∈ w.ix j, k ∈ e.map (·.2) := by
      intro e
      induction e with
      | nil => intro _ j hj; exact absurd hj List.not_mem_nil
      | cons p e ih =>
        obtain ⟨x, i⟩ := p
        rintro ⟨⟨b, hb⟩, he, hc⟩ j hj
        rcases List.mem_cons.mp hj with hj | hj
        · have hj : j = i := hj
          subst hj
          refine ⟨⟨x, b, hb⟩, fun k hk => ?_⟩
          unfold ix at hk
          rw [he] at hk
          exact List.mem_cons_of_mem _ hk
        · exact ⟨(ih hc j hj).1, fun k hk => List.mem_cons_of_mem _ ((ih hc j hj).2 k hk)⟩
    exact ⟨(key c j hj).1, fun k hk => List.mem_append_right _ ((key c j hj).2 k hk)⟩
end Wr
def keysB (l : List Nat) : List (Key × V) := l.map fun (i : Nat) => (Sum.inl (i : Int), V.bl true)
theorem keysB_len (l : List Nat) : (keysB l).length = l.length := List.length_map _
theorem keysB_val (l : List Nat) (i : Nat) : (valV (keysB l) (Sum.inl (i : Int) : Key)).isSome = decide (i ∈ l) := by
  unfold valV keysB
  rw [Option.isSome_map, Bool.eq_iff_iff, decide_eq_true_eq, List.find?_isSome]
  constructor
  · rintro ⟨p, hp, e⟩
    obtain ⟨j, hj, rfl⟩ := List.mem_map.mp hp
    have e : (Sum.inl (j : Int) : Key) = Sum.inl (i : Int) := of_decide_eq_true e
    have e2 := Sum.inl.inj e
    have : j = i := by omega
    exact this ▸ hj
  · intro h
    exact ⟨_, List.mem_map.mpr ⟨i, h, rfl⟩, decide_eq_true rfl⟩
theorem keysB_put {l : List Nat} {i : Nat} (h : i ∉ l) : putK (keysB l) (Sum.inl (i : Int) : Key) (.bl true) = keysB (l ++ [i]) := by
  have e : valV (keysB l) (Sum.inl (i : Int) : Key) = none := by
    have := keysB_val l i
    rw [decide_eq_false h] at this
    exact Option.isSome_eq_false_iff.mp this |> Option.isNone_iff_eq_none.mp
  rw [putK_new _ e]
  unfold keysB
  rw [List.map_append]
  rfl
theorem keysB_put2 {l : List Nat} {i : Nat} (h : i ∈ l) : putK (keysB l) (Sum.inl (i : Int) : Key) (.bl true) = keysB l := by
  unfold putK keysB
  have hm : ((l.map fun (i : Nat) => ((Sum.inl (i : Int) : Key), V.bl true)).any fun kv => decide (kv.1 = Sum.inl (i : Int))) = true := List.any_eq_true.mpr ⟨(Sum.inl (i : Int), V.bl true), List.mem_map.mpr ⟨i, h, rfl⟩, decide_eq_true rfl⟩
  rw [if_pos hm, List.map_map]
  refine List.map_congr_left fun y _ => ?_
  show (if (Sum.inl (y : Int) : Key) = Sum.inl (i : Int) then _ else _) = _
  by_cases d : (Sum.inl (y : Int) : Key) = Sum.inl (i : Int)
  · rw [if_pos d]
  · rw [if_neg d]
theorem keysT_val (l : List Str) (z : Str) : (valV (keysT l) (Sum.inr z : Key)).isSome = decide (z ∈ l) := by
  unfold valV keysT
  rw [Option.isSome_map, Bool.eq_iff_iff, decide_eq_true_eq, List.find?_isSome]
  constructor
  · rintro ⟨p, hp, e⟩
    obtain ⟨j, hj, rfl⟩ := List.mem_map.mp hp
    have e : (Sum.inr j : Key) = Sum.inr z := of_decide_eq_true e
    exact Sum.inr.inj e ▸ hj
  · intro h
    exact ⟨_, List.mem_map.mpr ⟨z, h, rfl⟩, decide_eq_true rfl⟩
theorem mem_ins {l : List Str} : ∀ {f : List Str} {z : Str}, z ∈ l.foldl Wr.ins f ↔ z ∈ f ∨ z ∈ l := by
  induction l with
  | nil => intro f z; simp
  | cons x l ih =>
    intro f z
    show z ∈ l.foldl Wr.ins (Wr.ins f x) ↔ _
    rw [ih]
    unfold Wr.ins
    by_cases c : x ∈ f
    · rw [if_pos c, List.mem_cons]
      constructor
      · rintro (h | h)
        · exact .inl h
        · exact .inr (.inr h)
      · rintro (h | h | h)
        · exact .inl h
        · exact .inl (h ▸ c)
        · exact .inr h
    · rw [if_neg c, List.mem_append, List.mem_singleton, List.mem_cons, or_assoc]
theorem mem_insN {l : List (Option Str)} : ∀ {f : List (Option Str)} {z : Option Str}, z ∈ l.foldl insN f ↔ z ∈ f ∨ z ∈ l := by
  induction l with
  | nil => intro f z; simp
  | cons x l ih =>
    intro f z
    show z ∈ l.foldl insN (insN f x) ↔ _
    rw [ih]
    unfold insN
    by_cases c : x ∈ f
    · rw [if_pos c, List.mem_cons]
      constructor
      · rintro (h | h)
        · exact .inl h
        · exact .inr (.inr h)
      · rintro (h | h | h)
        · exact .inl h
        · exact .inl (h ▸ c)
        · exact .inr h
    · rw [if_neg c, List.mem_append, List.mem_singleton, List.mem_cons, or_assoc]
theorem insN_len (l f : List (Option Str)) : (l.foldl insN f).length ≤ f.length + l.length := by
  induction l generalizing f with
  | nil => exact Nat.le_refl _
  | cons z l ih =>
    have h1 := ih (insN f z)
    have h2 : (insN f z).length ≤ f.length + 1 := by
      unfold insN
      split
      · exact Nat.le_succ _
      · rw [List.length_append]; exact Nat.le_refl _
    show (l.foldl insN (insN f z)).length ≤ f.length + (l.length + 1)
    omega
/-- pairs of an "of" and its new name, as a dict -/
def rhoD (ps : List (Nat × Str)) : List (Key × V) := ps.map fun (p : Nat × Str) => (Sum.inl (p.1 : Int), V.str p.2)
def rho (ps : List (Nat × Str)) (i : Nat) : Option Str := ps.lookup i
theorem rhoD_val (ps : List (Nat × Str)) (i : Nat) : valV (rhoD ps) (Sum.inl (i : Int) : Key) = (rho ps i).map V.str := by
  induction ps with
  | nil => rfl
  | cons p ps ih =>
    obtain ⟨j, y⟩ := p
    show valV ((Sum.inl (j : Int), V.str y) :: rhoD ps) _ = (((j, y) :: ps).lookup i).map V.str
    by_cases c : j = i
    · subst c
      rw [valV_pos rfl, List.lookup_cons_self]
      rfl
    · rw [valV_neg (fun e => c (by have := Sum.inl.inj e; omega)), ih]
      show (rho ps i).map V.str = (match i == j with | true => some y | false => ps.lookup i).map V.str
      rw [show (i == j) = false by simpa using fun e => c e.symm]
      rfl
namespace Wr
/-- which "of"s are told anew, and how: a function of the two and of what goes -/
def stepA (w : Wr) (l : List Nat) (g : Nat) : List Nat := l ++ (w.ix g).takeWhile fun i => decide (i ∉ l)
def asL (w : Wr) (gs : List Nat) : List Nat := gs.foldl (stepA w) []
def catL (w a : Wr) (gs : List Nat) : List Nat := (asL w gs).filter fun i => decide (w.nmAt i ∈ a.fr)
def usedL (w a : Wr) : List (Option Str) := ((w.subs ++ a.subs).map nvO).foldl insN []
def catPs (w a : Wr) (gs : List Nat) : List (Nat × Str) := (catL w a gs).zip ((nwL (usedL w a) ((catL w a gs).length + (usedL w a).length)).take (catL w a gs).length)
end Wr
/-- what names_for_catching promises -/
def spCatch (C : Addr) : Sp := fun vs H Q _ => ∃ (l gd t : Addr) (w a : Wr) (gs : List Nat), vs = [.ref l, .ref gd, .ref t] ∧ LayAt C H l w ∧ LayAt C H t a ∧ w.sg ≤ 2000 ∧ a.sg ≤ 2000 ∧ w.all okN = true ∧ a.all okN = true ∧ H gd = some (.dK (keysB gs)) ∧ gs.length ≤ 2000 ∧ (∀ g ∈ gs, g < w.sg) ∧
  ∀ (d : Addr) (ps : List (Nat × Str)) (H' : Hp), Same H H' → H' d = some (.dK (rhoD ps)) → ps.length ≤ 2000 → ps = Wr.catPs w a gs → (gs = [] → ps = []) → Wr.New (rho ps) (w.nms ++ a.nms) → (∀ p ∈ ps, okN p.2 = true) → (∀ g ∈ gs, ∀ x i, (x, i) ∈ w.env g → Wr.nu (rho ps) i x ∉ a.fr) → Q (.ref d) H'
end TG
namespace TF18
open PySem PySem.Spec L2 TG TA
open PyProof.Rows hiding St
abbrev sCatch : Stmt := top 56
theorem scCatch : FnScope ["layout", "gone", "inner", "around", "at", "binder", "free", "name", "catching", "used", "_"] ["layout", "gone", "inner"] (defScope sCatch) := ⟨rfl, rfl, rfl, by decide +kernel, rfl, by decide +kernel, by decide +kernel⟩
section
variable {P : Program} {w : World} {K : PySem.W.Frag} {mg : Str → Option Value} {base : Heap} {f f1 f2 f3 : Addr} {fd fd1 fd2 fd3 : FuncData}
theorem takeW_all {l m : List Nat} (h : ∀ i ∈ m, i ∉ l) : m.takeWhile (fun i => decide (i ∉ l)) = m := by
  induction m with
  | nil => rfl
  | cons x m ih =>
    rw [List.takeWhile_cons_of_pos (p := fun i => decide (i ∉ l)) (decide_eq_true (h x List.mem_cons_self)), ih fun i hi => h i (List.mem_cons_of_mem _ hi)]
theorem takeW_cut {l m r : List Nat} {i : Nat} (h : ∀ i ∈ m, i ∉ l) (hi : i ∈ l) : (m ++ i :: r).takeWhile (fun i => decide (i ∉ l)) = m := by
  induction m with
  | nil => exact List.takeWhile_cons_of_neg (p := fun i => decide (i ∉ l)) (fun e => (of_decide_eq_true e) hi)
  | cons x m ih =>
    show (x :: (m ++ i :: r)).takeWhile _ = _
    rw [List.takeWhile_cons_of_pos (p := fun i => decide (i ∉ l)) (decide_eq_true (h x List.mem_cons_self)), ih fun i hi => h i (List.mem_cons_of_mem _ hi)]
theorem ok_catch {C fI : Addr} (F : Fun K "names_for_catching" "names_for_catching" sCatch f fd) (T : Bn mg) (Z : LayC K mg C fI) (D_free_in : Df K mg "free_in" sFreeI f1 fd1 ["layout"]) (G_free_in : FnOk P w K mg base CX0 2 f1 fd1 ["layout"] (spFreeI C))
    (D_new_names : Df K mg "new_names" sNew f2 fd2 ["count", "used"]) (G_new_names : FnOk P w K mg base CX0 1 f2 fd2 ["count", "used"] (spNew P w)) : FnOk P w K mg base CX0 3 f fd ["layout", "gone", "inner"] (spCatch C) := by
  refine F.ok scCatch (fun vs H Q E h => ?_) (fun cdv A outer s H vs Q E hr h => ?_)
  · obtain ⟨l, gd, t, wr, a, gs, rfl, _⟩ := h
    rfl
  obtain ⟨l, gd, t, wr, a, gs, rfl, hL, hA, hn, hn2, hok, hok2, hgd, hgl2, hgs, q⟩ := h
  refine ⟨_, (pss_cons (ps_set (i := 3) scCatch.nd rfl (.inl rfl) pe_dnewK)
      (pss_cons (ps_lock (ps_for PassesOwn.never rfl (pi_keys (pv 1)) (pg_name (i := 4) scCatch.nd rfl (.inl rfl))
        (pss_cons (ps_set (i := 5) scCatch.nd rfl (.inl rfl) (pe_ix ix_list (pe_fld (pv 0) (by rfl)) (pv 4) (fun _ _ => rfl)))
        (pss_one (ps_while PassesOwn.never (PW.pt (pw_and (pt_cmpR op_notN (pv 5) pe_non (nomark _)) (pw_and1 (pt_cmp (pc_dnotin (hu_of hr) (pv 5) (pv 3))))))
          (pss_cons (ps_dput (hu_of hr) (pv 3) (pv 5) pe_bl rfl)
          (pss_one (ps_set (i := 5) scCatch.nd rfl (.inl rfl) (pe_ix ix_list (pe_fld (pv 0) (by rfl)) (pv 5) (fun _ _ => rfl))))))))))
      (pss_cons (ps_set (i := 6) scCatch.nd rfl (.inr rfl) (pe_dcS (own := [("name", 7)]) (g := (gName 7)) (stK_ok _ _) rfl scCatch.nd (pi_tup (pe_cd D_free_in G_free_in hr (by decide) (pa_cons (pv 2) pa_nil))) (blkOk_by (own := [("name", 7)]) (N := ["layout", "gone", "inner", "around", "at", "binder", "free", "name", "catching", "used", "_"]) (sc := defScope sCatch) (by decide +kernel)) (fun _ _ _ _ _ => (pg_name (i := 7) scCatch.nd rfl (.inl rfl))) (fun _ _ _ _ _ => pts_nil) (fun _ _ _ _ _ => (pv 7)) (fun _ _ _ _ _ => pe_bl)))
      (pss_cons (ps_lock (ps_setLc (i := 8) (own := [("binder", 5)]) (g := (gName 5)) rfl scCatch.nd rfl rfl (sw_true rfl rfl rfl (by decide +kernel)) (pi_keys (pv 3)) (blkOk_by (own := [("binder", 5)]) (N := ["layout", "gone", "inner", "around", "at", "binder", "free", "name", "catching", "used", "_"]) (sc := defScope sCatch) (by decide +kernel)) (fun _ _ _ _ _ => (pg_name (i := 5) scCatch.nd rfl (.inl rfl))) (fun _ _ _ _ _ => (pts_one (pt_cmp (pc_din (hu_of hr) (pe_ix (show IxR _ (rIxT K) from ix_tup) (pe_ix (show IxR _ (rIxL K) from ix_list) (show PE _ _ (tFld K (tVar 0) "signs") from pe_fld (pv 0) (by rfl)) (pv 5) (fun _ _ => rfl)) pe_int (fun _ _ => rfl)) (pv 6))))) (fun _ _ _ _ _ => (pv 5))))
      (pss_cons (ps_setDcS (i := 9) (own := [("_", 10), ("name", 7)]) (g := (gTup K 2 (gCons (gName 10) (gCons (gName 7) gNil)))) (stN_ok _ _) rfl scCatch.nd rfl rfl (swD rfl rfl rfl (by decide +kernel)) (pi_list (pe_op op_cat (pe_fld (pv 0) (by rfl)) (pe_fld (pv 2) (by rfl)))) (blkOk_by (own := [("_", 10), ("name", 7)]) (N := ["layout", "gone", "inner", "around", "at", "binder", "free", "name", "catching", "used", "_"]) (sc := defScope sCatch) (by decide +kernel)) (fun _ _ _ _ _ => (pg_tup (by rfl) (pgs_cons (pg_name (i := 10) scCatch.nd rfl (.inl rfl)) (pgs_cons (pg_name (i := 7) scCatch.nd rfl (.inl rfl)) pgs_nil)))) (fun _ _ _ _ _ => pts_nil) (fun _ _ _ _ _ => (pv 7)) (fun _ _ _ _ _ => pe_bl))
      (pss_one (ps_ret (pe_dcS (own := [("binder", 5), ("name", 7)]) (g := (gTup K 2 (gCons (gName 5) (gCons (gName 7) gNil)))) (stK_ok _ _) rfl scCatch.nd (pi_zip (by rfl) T.b_zip (pa_cons (pv 8) (pa_cons (pe_cd D_new_names G_new_names hr (by decide) (pa_cons (pe_callB call_len_seq (by rfl) T.b_len (by decide +kernel) (pa_cons (pv 8) pa_nil)) (pa_cons (pv 9) pa_nil))) pa_nil))) (blkOk_by (own := [("binder", 5), ("name", 7)]) (N := ["layout", "gone", "inner", "around", "at", "binder", "free", "name", "catching", "used", "_"]) (sc := defScope sCatch) (by decide +kernel)) (fun _ _ _ _ _ => (pg_tup (by rfl) (pgs_cons (pg_name (i := 5) scCatch.nd rfl (.inl rfl)) (pgs_cons (pg_name (i := 7) scCatch.nd rfl (.inl rfl)) pgs_nil)))) (fun _ _ _ _ _ => pts_nil) (fun _ _ _ _ _ => (pv 5)) (fun _ _ _ _ _ => (pv 7)))))))))), ?_⟩
  refine fun ar har => ?_
  have ar0 : H ar = none := har
  have s1 : Same H (L2.upd H ar (.dK [])) := same_new har
  have nga : gd ≠ ar := ne_of_none hgd har
  obtain ⟨g, e, b, ad, d, dx, hl, ⟨ts, hg, hgl, hgt⟩, he, hb, ⟨xs, ha, hx, hxs⟩, hd⟩ := id hL
  obtain ⟨g2, e2, b2, ad2, d2, dx2, hl2, ⟨ts2, hg2, hgl2', hgt2⟩, _⟩ := id hA
  have ng : ∀ {c : Addr} {o : HO}, H c = some o → (∀ k, o ≠ .dK k) → c ≠ gd := fun h k z => by rw [z, hgd] at h; exact k _ (Option.some.inj h).symm
  refine ⟨gd, _, s1 _ _ hgd, True.intro, fun od => ⟨_, rfl, gd, od, rfl, .inl ⟨keysB gs, upd_same, ?_⟩⟩⟩
  refine for_it (walk_keys (kvs := keysB gs)) (fun k σ G => ∃ (As : List Nat) (v4 v5 : Option V), σ = [some (.ref l), some (.ref gd), some (.ref t), some (.ref ar), v4, v5, none, none, none, none, none] ∧ G gd = some (.frz od (.dK (keysB gs))) ∧ (∀ c o, c ≠ gd → H c = some o → G c = some o) ∧ G ar = some (.dK (keysB As)) ∧ ((k = 0 → As = []) ∧ As = (gs.take k).foldl wr.stepA []) ∧ As.length ≤ wr.sg ∧ As.Nodup ∧ wr.Closed As ∧
    (∀ j g, j < k → gs[j]? = some g → ∀ i ∈ wr.ix g, i ∈ As)) ?_ ?_ ?_ ?_
  · exact ⟨[], none, none, rfl, upd_same, fun c o n h => by rw [upd_ne n]; exact s1 _ _ h, by rw [upd_ne (Ne.symm nga), upd_same]; rfl, ⟨fun _ => rfl, by rw [List.take_zero]; rfl⟩, Nat.zero_le _, List.nodup_nil, fun j hj => absurd hj List.not_mem_nil, fun j g hj => absurd hj (Nat.not_lt_zero j)⟩
  · rintro k σ G _ ⟨_, _, _, _, h, _⟩
    exact h
  · rintro k x σ G G' hk ⟨As, v4, v5, rfl, hz, hkeep, har2, ⟨hk0, hAf⟩, hAl, hAn, hAc, hdone⟩ ⟨rfl, kk, vv, hkv, rfl⟩
    unfold keysB at hkv
    rw [List.getElem?_map] at hkv
    obtain ⟨gi, hgi, ekv⟩ := Option.map_eq_some_iff.mp hkv
    cases ekv
    have hgin := hgs gi (mem_get hgi)
    have hl3 := hkeep _ _ (ng hl (fun k z => by cases z)) hl
    have ha3 := hkeep _ _ (ng ha (fun k z => by cases z)) ha
    refine ⟨_, rfl, l, C, dx, _, _, rfl, hl3, Z.cl, Z.nA, lay_around g e b ad d, _, rfl, ad, _, _, _, rfl, rfl, SqL.of ha3, atI_nat (hxs gi hgin), ?_⟩
    refine ⟨fun m σ G1 => ∃ (As1 : List Nat) (er : List (Str × Nat)), m = er.length ∧ σ = [some (.ref l), some (.ref gd), some (.ref t), some (.ref ar), some (.int (gi : Int)), some (optV (er.head?.map (·.2))), none, none, none, none, none] ∧ G1 gd = some (.frz od (.dK (keysB gs))) ∧ (∀ c o, c ≠ gd → H c = some o → G1 c = some o) ∧ G1 ar = some (.dK (keysB As1)) ∧
      wr.Chain er ∧ As1.Nodup ∧ (∀ i ∈ As1, i < wr.sg) ∧ (∃ dn, wr.env gi = dn ++ er ∧ As1 = As ++ dn.map (·.2) ∧ ∀ i ∈ dn.map (·.2), i ∉ As), ⟨_, As, wr.env gi, rfl, rfl, hz, hkeep, har2, wr.chain_env hgin, hAn, fun i hi => ?_, [], rfl, (List.append_nil _).symm, fun i hi => absurd hi List.not_mem_nil⟩, ?_⟩
    · obtain ⟨⟨x, b', hb'⟩, _⟩ := hAc i hi
      exact Wr.subs_lt hb'
    rintro m σ G1 ⟨As1, er, rfl, rfl, hz1, hk1, har1, hch, hnd1, hlt1, dn, edn, eAs, hdn⟩
    have fold1 : As1 = As ++ (wr.ix gi).takeWhile (fun i => decide (i ∉ As)) → As1 = (gs.take (k + 1)).foldl wr.stepA [] := fun e => by
      rw [take_snoc hgi, List.foldl_append, ← hAf]
      exact e
    have lenA : As1.length ≤ wr.sg := by
      have := nodup_le (m := List.range wr.sg) hnd1 fun i hi => List.mem_range.mpr (hlt1 i hi)
      rw [List.length_range] at this
      exact this
    have ndE : ((dn ++ er).map (·.2)).Nodup := by
      rw [← edn]
      exact Wr.env_nodup hgin
    cases er with
    | nil =>
      refine ⟨_, rfl, rfl, _, rfl, iteF ?_⟩
      refine ⟨As1, _, _, rfl, hz1, hk1, har1, ⟨fun h => absurd h (Nat.succ_ne_zero _), fold1 (by rw [List.append_nil] at edn; unfold Wr.ix; rw [edn]; exact eAs.trans (congrArg (As ++ ·) (takeW_all hdn).symm))⟩, lenA, hnd1, ?_, fun j g' hj hg' i hi => ?_⟩
      · rw [eAs]
        refine Wr.closed_app hAc ?_
        rw [List.append_nil] at edn
        rw [← edn]
        exact wr.chain_env hgin
      · rw [eAs]
        by_cases c : j < k
        · exact List.mem_append_left _ (hdone j g' c hg' i hi)
        · obtain rfl : j = k := by omega
          rw [hgi] at hg'
          cases hg'
          unfold Wr.ix at hi
          rw [edn, List.append_nil] at hi
          exact List.mem_append_right _ hi
    | cons p er =>
      obtain ⟨x, i⟩ := p
      obtain ⟨⟨b', hb'⟩, hei, hch2⟩ := hch
      refine ⟨_, rfl, rfl, _, rfl, iteT ⟨_, rfl, _, rfl, ar, _, rfl, DGet.k (k := Sum.inl (i : Int)) har1, _, rfl, ?_⟩⟩
      rw [keysB_val]
      by_cases c : i ∈ As1
      · rw [decide_eq_true c]
        refine iteF ?_
        have iA : i ∈ As := by
          rw [eAs] at c
          rcases List.mem_append.mp c with c | c
          · exact c
          · exfalso
            rw [List.map_append] at ndE
            exact (List.nodup_append.mp ndE).2.2 i c i List.mem_cons_self rfl
        have rest : ∀ j ∈ ((x, i) :: er).map (·.2), j ∈ As := by
          intro j hj
          rcases List.mem_cons.mp hj with hj | hj
          · exact hj ▸ iA
          · refine (hAc i iA).2 j ?_
            unfold Wr.ix
            rw [hei]
            exact hj
        have dnA : ∀ j ∈ dn.map (·.2), j ∈ As1 := fun j hj => by rw [eAs]; exact List.mem_append_right _ hj
        refine ⟨As1, _, _, rfl, hz1, hk1, har1, ⟨fun h => absurd h (Nat.succ_ne_zero _), fold1 (by unfold Wr.ix; rw [edn, List.map_append]; exact eAs.trans (congrArg (As ++ ·) (takeW_cut hdn iA).symm))⟩, lenA, hnd1, ?_, fun j g' hj hg' y hy => ?_⟩
        · intro j hj
          rw [eAs] at hj
          rcases List.mem_append.mp hj with hj | hj
          · exact ⟨(hAc j hj).1, fun y hy => by rw [eAs]; exact List.mem_append_left _ ((hAc j hj).2 y hy)⟩
          · have cl := Wr.closed_app (l := []) (fun j hj => absurd hj List.not_mem_nil) (wr.chain_env hgin) j (by
              rw [List.nil_append, edn, List.map_append]
              exact List.mem_append_left _ hj)
            refine ⟨cl.1, fun y hy => ?_⟩
            have h5 := cl.2 y hy
            rw [List.nil_append, edn, List.map_append] at h5
            rcases List.mem_append.mp h5 with h5 | h5
            · exact dnA y h5
            · rw [eAs]
              exact List.mem_append_left _ (rest y h5)
        · by_cases c2 : j < k
          · rw [eAs]
            exact List.mem_append_left _ (hdone j g' c2 hg' y hy)
          · obtain rfl : j = k := by omega
            rw [hgi] at hg'
            cases hg'
            unfold Wr.ix at hy
            rw [edn, List.map_append] at hy
            rcases List.mem_append.mp hy with hy | hy
            · exact dnA y hy
            · rw [eAs]
              exact List.mem_append_left _ (rest y hy)
      · rw [decide_eq_false c]
        refine iteT ⟨_, fun σ' H' z => z, ?_⟩
        have lenlt : (keysB As1).length < sizeLine := by rw [keysB_len]; exact small_le (by omega)
        refine ⟨_, rfl, _, rfl, ar, _, rfl, DPut.k (k := Sum.inl (i : Int)) har1 lenlt, ?_⟩
        rw [keysB_put c]
        have hk2 : ∀ c o, c ≠ gd → H c = some o → (L2.upd G1 ar (.dK (keysB (As1 ++ [i])))) c = some o := fun c o n h => by
          rw [upd_ne (ne_of_none h ar0)]
          exact hk1 c o n h
        have h5 := hxs i (Wr.subs_lt hb')
        rw [hei] at h5
        refine ⟨_, rfl, l, C, dx, _, _, rfl, hk2 _ _ (ng hl (fun k z => by cases z)) hl, Z.cl, Z.nA, lay_around g e b ad d, _, rfl, ad, _, _, _, rfl, rfl, SqL.of (hk2 _ _ (ng ha (fun k z => by cases z)) ha), atI_nat h5, ?_⟩
        refine ⟨er.length, Nat.lt_succ_self _, As1 ++ [i], er, rfl, rfl, by rw [upd_ne nga]; exact hz1, hk2, upd_same, hch2, ?_, ?_, dn ++ [(x, i)], by rw [edn, List.append_assoc]; rfl, by rw [eAs, List.map_append, List.append_assoc]; rfl, fun j hj => ?_⟩
        · exact List.nodup_append.mpr ⟨hnd1, List.nodup_cons.mpr ⟨List.not_mem_nil, List.nodup_nil⟩, fun y hy z hz => by rw [List.mem_singleton.mp hz]; exact fun e => c (e ▸ hy)⟩
        · intro y hy
          rcases List.mem_append.mp hy with hy | hy
          · exact hlt1 y hy
          · rw [List.mem_singleton.mp hy]
            exact Wr.subs_lt hb'
        · rw [List.map_append] at hj
          rcases List.mem_append.mp hj with hj | hj
          · exact hdn j hj
          · have hj : j = i := List.mem_singleton.mp hj
            subst hj
            exact fun h => c (by rw [eAs]; exact List.mem_append_left _ h)
  · rintro σ G ⟨As, v4, v5, rfl, hz, hkeep, har2, ⟨hk0, hAf⟩, hAl, hAn, hAc, hdone⟩
    refine ⟨hz, ?_⟩
    obtain ⟨G0, eG0⟩ : ∃ G0, G0 = L2.upd G gd (HO.dK (keysB gs)) := ⟨_, rfl⟩
    rw [← eG0]
    have s2 : Same H G0 := fun c o h => by
      rw [eG0]
      by_cases n : c = gd
      · subst n
        rw [upd_same, ← hgd, h]
      · rw [upd_ne n]; exact hkeep _ _ n h
    have har0 : G0 ar = some (.dK (keysB As)) := by rw [eG0, upd_ne (Ne.symm nga)]; exact har2
    clear eG0 hkeep har2 hz
    refine ⟨_, rfl, t, a, rfl, hA.same s2, hn2, fun tf H2 s3 hf => ⟨tf, rfl, ⟨_, SqT.of hf⟩, fun D D0 => ?_⟩⟩
    refine dc_it (walk_tup (K := K) (a := tf) (xs := a.fr.map V.str)) (fun k G => Same H2 G ∧ G D = some (.dK (keysT ((a.fr.take k).foldl Wr.ins [])))) ?_ ?_ ?_ ?_
    · exact ⟨same_new D0, by rw [List.take_zero, upd_same]; rfl⟩
    · rintro k G1 _ ⟨s4, _⟩
      exact SqT.of (s4 _ _ hf)
    · rintro k x G1 _ _ ⟨s4, h4⟩ ⟨rfl, hx⟩
      rw [List.getElem?_map] at hx
      obtain ⟨z, hz, rfl⟩ := Option.map_eq_some_iff.mp hx
      refine ⟨rfl, _, rfl, _, Sum.inr z, rfl, h4, ?_, same_put s4 D0, ?_⟩
      · rw [keysT_len]
        have h5 := foldl_len (a.fr.take k) []
        have h6 := a.fr_len
        rw [List.length_take] at h5
        exact small_le (by have : ([] : List Str).length = 0 := rfl; omega)
      · rw [upd_same, keysT_put, take_snoc hz, List.foldl_append]
        rfl
    rintro G1 ⟨s4, h4⟩
    rw [List.length_map, List.take_of_length_le (Nat.le_refl _)] at h4
    have s5 : Same H G1 := s2.trans (s3.trans s4)
    have har1 : G1 ar = some (.dK (keysB As)) := s4 _ _ (s3 _ _ har0)
    have hasD : ∀ x : Str, (valV (keysT (a.fr.foldl Wr.ins [])) (Sum.inr x : Key)).isSome = decide (x ∈ a.fr) := fun x => by
      rw [keysT_val]
      exact decide_eq_decide.mpr (mem_ins.trans (by simp))
    refine ⟨ar, _, har1, True.intro, fun od1 => ⟨_, rfl, ar, od1, rfl, .inl ⟨keysB As, upd_same, fun L L0 => ?_⟩⟩⟩
    have nLa : L ≠ ar := fun z => by rw [z, upd_same] at L0; cases L0
    have L1 : G1 L = none := by rw [upd_ne nLa] at L0; exact L0
    refine lc_it (walk_keys (kvs := keysB As)) (fun k G => (∀ c o, c ≠ ar → G1 c = some o → G c = some o) ∧ G ar = some (.frz od1 (.dK (keysB As))) ∧ G L = some (.lst (natV ((As.take k).filter fun i => decide (wr.nmAt i ∈ a.fr))))) ?_ ?_ ?_ ?_
    · exact ⟨fun c o n h => by rw [upd_ne (ne_of_none h L1), upd_ne n]; exact h, by rw [upd_ne (Ne.symm nLa), upd_same], by rw [List.take_zero, upd_same]; rfl⟩
    · rintro k G _ ⟨_, h, _⟩
      exact h
    · rintro k x _ G hk ⟨k1, k2, k3⟩ ⟨rfl, kk, vv, hkv, rfl⟩
      unfold keysB at hkv
      rw [List.getElem?_map] at hkv
      obtain ⟨i, hi, ekv⟩ := Option.map_eq_some_iff.mp hkv
      cases ekv
      obtain ⟨x, b', hb'⟩ := (hAc i (mem_get hi)).1
      have hin := Wr.subs_lt hb'
      obtain ⟨tp, ht⟩ : ∃ tp, ts[i]? = some tp := get_lt (by rw [hgl]; exact hin)
      have ht2 := s5 _ _ (hgt i _ tp hb' ht)
      have keep : ∀ {c : Addr} {o : HO}, G1 c = some o → (∀ k, o ≠ .dK k) → G c = some o := fun {c o} h nk => k1 _ _ (fun z => by rw [z, har1] at h; exact nk _ (Option.some.inj h).symm) h
      refine ⟨rfl, _, rfl, l, C, dx, _, _, rfl, keep (s5 _ _ hl) (fun k z => by cases z), Z.cl, Z.nS, lay_signs g e b ad d, _, rfl, g, _, _, .ref tp, rfl, rfl, SqL.of (keep (s5 _ _ hg) (fun k z => by cases z)), atI_nat (j := i) (by rw [List.getElem?_map, ht]; rfl), ?_⟩
      refine ⟨tp, _, _, .str x, rfl, rfl, SqT.of (keep ht2 (fun k z => by cases z)), rfl, _, rfl, D, _, rfl, DGet.k (k := Sum.inr x) (k1 _ _ (Ne.symm (ne_of_none (s3 _ _ har0) D0)) h4), _, rfl, ?_⟩
      rw [hasD]
      have nx : wr.nmAt i = x := by unfold Wr.nmAt; rw [hb']
      have step : (As.take (k + 1)).filter (fun i => decide (wr.nmAt i ∈ a.fr)) = (As.take k).filter (fun i => decide (wr.nmAt i ∈ a.fr)) ++ if x ∈ a.fr then [i] else [] := by
        rw [take_snoc hi, List.filter_append]
        congr 1
        by_cases c : x ∈ a.fr
        · rw [if_pos c, List.filter_cons_of_pos (by rw [nx]; exact decide_eq_true c)]
          rfl
        · rw [if_neg c, List.filter_cons_of_neg (by rw [nx, decide_eq_false c]; exact Bool.false_ne_true)]
          rfl
      by_cases c : x ∈ a.fr
      · rw [if_pos c] at step
        rw [decide_eq_true c]
        refine iteT ⟨_, rfl, _, k3, ?_, ?_, ?_, ?_⟩
        · unfold natV
          rw [List.length_map]
          have h5 := List.length_filter_le (fun i => decide (wr.nmAt i ∈ a.fr)) (As.take k)
          rw [List.length_take] at h5
          exact small_le (by omega)
        · exact fun c o n h => by rw [upd_ne (ne_of_none h L1)]; exact k1 c o n h
        · rw [upd_ne (Ne.symm nLa)]; exact k2
        · rw [upd_same, step]
          unfold natV
          rw [List.map_append]
          rfl
      · rw [if_neg c, List.append_nil] at step
        rw [decide_eq_false c]
        exact iteF ⟨k1, k2, by rw [step]; exact k3⟩
    rintro G2 ⟨k1, k2, k3⟩
    rw [keysB_len, List.take_of_length_le (Nat.le_refl _)] at k3
    obtain ⟨cat, ecat⟩ : ∃ cat, cat = As.filter fun i => decide (wr.nmAt i ∈ a.fr) := ⟨_, rfl⟩
    rw [← ecat] at k3
    have catN : cat.Nodup := by rw [ecat]; exact hAn.filter _
    have catL : cat.length ≤ 2000 := by rw [ecat]; exact Nat.le_trans (List.length_filter_le _ _) (Nat.le_trans hAl hn)
    refine ⟨k2, ?_⟩
    have s6 : Same H (L2.upd G2 ar (HO.dK (keysB As))) := fun c o h => by
      rw [upd_ne (ne_of_none h ar0)]
      exact k1 _ _ (ne_of_none h ar0) (s5 _ _ h)
    have hL3 : (L2.upd G2 ar (HO.dK (keysB As))) L = some (.lst (natV cat)) := by rw [upd_ne nLa]; exact k3
    clear k1 k2 k3
    generalize L2.upd G2 ar (HO.dK (keysB As)) = G3 at s6 hL3 ⊢
    have hsg : (ts.map V.ref ++ ts2.map V.ref).length = wr.sg + a.sg := by rw [List.length_append, List.length_map, List.length_map, hgl, hgl2']
    refine ⟨_, rfl, l, C, dx, _, _, rfl, s6 _ _ hl, Z.cl, Z.nS, lay_signs g e b ad d, _, rfl, t, C, dx2, _, _, rfl, s6 _ _ hl2, Z.cl, Z.nS, lay_signs g2 e2 b2 ad2 d2, g, g2, _, _, rfl, rfl, s6 _ _ hg, s6 _ _ hg2, ?_, fun p p0 => ⟨p, rfl, ⟨_, SqL.of upd_same⟩, fun D2 D20 => ?_⟩⟩
    · rw [← List.length_append, hsg]
      exact Nat.le_of_lt (small_le (by omega))
    have s7 : Same H (L2.upd G3 p (.lst (ts.map V.ref ++ ts2.map V.ref))) := same_put s6 (s6.free p0)
    have hp7 : (L2.upd G3 p (.lst (ts.map V.ref ++ ts2.map V.ref))) p = some (.lst (ts.map V.ref ++ ts2.map V.ref)) := upd_same
    have hL7 : (L2.upd G3 p (.lst (ts.map V.ref ++ ts2.map V.ref))) L = some (.lst (natV cat)) := by rw [upd_ne (ne_of_none hL3 p0)]; exact hL3
    generalize L2.upd G3 p (HO.lst (ts.map V.ref ++ ts2.map V.ref)) = G7 at s7 hp7 hL7 D20 ⊢
    have at7 : ∀ {k : Nat} {x : V}, (ts.map V.ref ++ ts2.map V.ref)[k]? = some x → ∃ (s : Wr) (tp : Addr), x = .ref tp ∧ (wr.subs ++ a.subs)[k]? = some s ∧ H tp = some (.tup [.str s.wd, nvV s]) := by
      intro k x hx
      by_cases c : k < wr.sg
      · rw [List.getElem?_append_left (by rw [List.length_map, hgl]; exact c), List.getElem?_map] at hx
        obtain ⟨tp, ht, rfl⟩ := Option.map_eq_some_iff.mp hx
        obtain ⟨s', hs'⟩ := wr_get wr c
        exact ⟨s', tp, rfl, by rw [List.getElem?_append_left (lt_get hs')]; exact hs', hgt k s' tp hs' ht⟩
      · rw [List.getElem?_append_right (by rw [List.length_map, hgl]; omega), List.getElem?_map, List.length_map, hgl] at hx
        obtain ⟨tp, ht, rfl⟩ := Option.map_eq_some_iff.mp hx
        obtain ⟨s', hs'⟩ := wr_get a (i := k - wr.sg) (by have := lt_get ht; omega)
        refine ⟨s', tp, rfl, ?_, hgt2 _ s' tp hs' ht⟩
        rw [List.getElem?_append_right (by rw [Wr.subs_len]; omega), Wr.subs_len]
        exact hs'
    refine dc_it (walk_list (K := K) (a := p) (xs := ts.map V.ref ++ ts2.map V.ref)) (fun k G => Same G7 G ∧ NAt P w G D2 ((((wr.subs ++ a.subs).take k).map Wr.nvO).foldl insN [])) ?_ ?_ ?_ ?_
    · exact ⟨same_new D20, by rw [List.take_zero]; exact .inr ⟨rfl, upd_same⟩⟩
    · rintro k G _ ⟨s8, _⟩
      exact SqL.of (s8 _ _ hp7)
    · rintro k x _ G hk ⟨s8, hN⟩ ⟨rfl, hx⟩
      obtain ⟨s', tp, rfl, hs', ht⟩ := at7 hx
      have ht := s8 _ _ (s7 _ _ ht)
      refine ⟨tp, _, rfl, SqT.of ht, rfl, _, _, rfl, _, _, rfl, rfl, rfl, _, rfl, _, s'.nvO, Wr.nvO_v s', hN, ?_, same_put s8 D20, .inl ?_⟩
      · have h5 := insN_len (((wr.subs ++ a.subs).take k).map Wr.nvO) []
        rw [List.length_map, List.length_take, List.length_append, Wr.subs_len, Wr.subs_len] at h5
        have : ([] : List (Option Str)).length = 0 := rfl
        omega
      · rw [upd_same, take_snoc hs', List.map_append, List.foldl_append]
        rfl
    rintro G8 ⟨s8, hN⟩
    rw [hsg, List.take_of_length_le (by rw [List.length_append, Wr.subs_len, Wr.subs_len]; exact Nat.le_refl _)] at hN
    obtain ⟨ns, ens⟩ : ∃ ns, ns = ((wr.subs ++ a.subs).map Wr.nvO).foldl insN [] := ⟨_, rfl⟩
    rw [← ens] at hN
    have nsL : ns.length ≤ 4200 := by
      have h5 := insN_len ((wr.subs ++ a.subs).map Wr.nvO) []
      rw [← ens, List.length_map, List.length_append, Wr.subs_len, Wr.subs_len] at h5
      have : ([] : List (Option Str)).length = 0 := rfl
      omega
    have nsM : ∀ z ∈ wr.nms ++ a.nms, some z ∈ ns := by
      intro z hz
      rw [ens, mem_insN]
      right
      rcases List.mem_append.mp hz with h | h
      · obtain ⟨s', hs', e⟩ := Wr.nms_subs h
        exact List.mem_map.mpr ⟨s', List.mem_append_left _ hs', e⟩
      · obtain ⟨s', hs', e⟩ := Wr.nms_subs h
        exact List.mem_map.mpr ⟨s', List.mem_append_right _ hs', e⟩
    have hlc : (natV cat).length = cat.length := List.length_map _
    have hL8 := s8 _ _ hL7
    refine ⟨_, rfl, _, rfl, L, _, rfl, .inl (SqL.of hL8), _, rfl, ?_⟩
    rw [hlc]
    refine ⟨cat.length, D2, ns, rfl, hN, catL, nsL, fun nw nl G9 s9 hnw nlL nlN nlM nlE => ?_⟩
    have s10 : Same H G9 := s7.trans (s8.trans s9)
    refine ⟨L, nw, _, _, rfl, SqL.of (s9 _ _ hL8), SqL.of hnw, fun D3 D30 => ?_⟩
    have hln : (natV cat).length = cat.length ∧ (nl.map V.str).length = cat.length := ⟨hlc, by rw [List.length_map]; exact nlL⟩
    refine dc_it (walk_zip (K := K) (a := L) (b := nw) (xs := natV cat) (ys := nl.map V.str) (n := cat.length) (by rw [hln.1, hln.2, Nat.min_self])) (fun k G => Same G9 G ∧ G D3 = some (.dK (rhoD ((cat.zip nl).take k)))) ?_ ?_ ?_ ?_
    · exact ⟨same_new D30, by rw [List.take_zero]; exact upd_same⟩
    · rintro k G _ ⟨s11, _⟩
      exact ⟨SqL.of (s11 _ _ (s9 _ _ hL8)), SqL.of (s11 _ _ hnw)⟩
    · rintro k x G G' hk ⟨s11, h11⟩ ⟨T', x1, x2, rfl, T0, rfl, e1, e2⟩
      have e1 : (cat.map fun (i : Nat) => V.int (i : Int))[k]? = some x1 := e1
      have e2 : (nl.map V.str)[k]? = some x2 := e2
      rw [List.getElem?_map] at e1 e2
      obtain ⟨i, hi, rfl⟩ := Option.map_eq_some_iff.mp e1
      obtain ⟨y, hy, rfl⟩ := Option.map_eq_some_iff.mp e2
      have nT : D3 ≠ T' := ne_of_none h11 T0
      refine ⟨T', _, rfl, SqT.of upd_same, rfl, _, _, rfl, _, _, rfl, rfl, rfl, _, rfl, _, rfl, _, Sum.inl (i : Int), rfl, (by rw [upd_ne nT]; exact h11), ?_, ?_, ?_⟩
      · show ((cat.zip nl).take k |>.map _).length < sizeLine
        rw [List.length_map, List.length_take, List.length_zip]
        exact small_le (by omega)
      · exact same_put (same_put s11 (s11.free T0)) D30
      · have hz : (cat.zip nl)[k]? = some (i, y) := List.getElem?_zip_eq_some.mpr ⟨hi, hy⟩
        rw [upd_same, take_snoc hz, putK_new]
        · show _ = some (HO.dK (List.map _ (_ ++ _)))
          rw [List.map_append]
          rfl
        · rw [rhoD_val]
          have none : rho ((cat.zip nl).take k) i = none := by
            unfold rho
            rw [List.lookup_eq_none_iff]
            rintro ⟨j, y'⟩ hp
            obtain ⟨m, hm⟩ := List.getElem?_of_mem hp
            rw [List.getElem?_take] at hm
            by_cases c : m < k
            · rw [if_pos c] at hm
              have h6 := (List.getElem?_zip_eq_some.mp hm).1
              refine bne_iff_ne.mpr fun e => ?_
              have e : i = j := e
              subst e
              have := nodup_get catN h6 hi
              omega
            · rw [if_neg c] at hm; cases hm
          rw [none]
          rfl
    rintro G10 ⟨s11, h11⟩
    rw [List.take_of_length_le (by rw [List.length_zip, nlL, Nat.min_self]; exact Nat.le_refl _)] at h11
    have look : ∀ {i : Nat} {y : Str}, rho (cat.zip nl) i = some y → ∃ m : Nat, cat[m]? = some i ∧ nl[m]? = some y := by
      intro i y h
      obtain ⟨l1, l2, e, _⟩ := List.lookup_eq_some_iff.mp h
      have hm : (i, y) ∈ cat.zip nl := by rw [e]; exact List.mem_append_right _ List.mem_cons_self
      obtain ⟨m, hm⟩ := List.getElem?_of_mem hm
      exact ⟨m, List.getElem?_zip_eq_some.mp hm⟩
    have eps : cat.zip nl = Wr.catPs wr a gs := by
      have eA : As = wr.asL gs := by
        rw [keysB_len, List.take_of_length_le (Nat.le_refl _)] at hAf
        exact hAf
      have ec : cat = Wr.catL wr a gs := by rw [ecat, eA]; rfl
      have en : ns = Wr.usedL wr a := ens
      rw [nlE, ec, en]
      rfl
    refine q D3 (cat.zip nl) G10 (s10.trans s11) h11 ?_ eps ?_ ⟨?_, ?_⟩ ?_ ?_
    · rw [List.length_zip, nlL, Nat.min_self]; exact catL
    · intro e
      rw [ecat, hk0 (by rw [keysB_len, e]; rfl)]
      rfl
    · intro j y h hm
      obtain ⟨m, _, hy⟩ := look h
      exact (nlM y (mem_get hy)).1 (nsM y hm)
    · intro j k y h1 h2
      obtain ⟨m, hj, hy⟩ := look h1
      obtain ⟨m2, hk, hy2⟩ := look h2
      obtain rfl := nodup_get nlN hy hy2
      rw [hj] at hk
      exact Option.some.inj hk
    · rintro ⟨i, y⟩ hp
      obtain ⟨m, hm⟩ := List.getElem?_of_mem hp
      exact (nlM y (mem_get (List.getElem?_zip_eq_some.mp hm).2)).2
    · intro g' hg' x i hxi hfr
      have hAs : i ∈ As := by
        obtain ⟨j, hj⟩ := List.getElem?_of_mem hg'
        refine hdone j g' (by rw [keysB_len]; exact lt_get hj) hj i ?_
        exact List.mem_map.mpr ⟨(x, i), hxi, rfl⟩
      unfold Wr.nu at hfr
      cases hr : rho (cat.zip nl) i with
      | some y =>
        rw [hr] at hfr
        obtain ⟨m, _, hy⟩ := look hr
        exact (nlM y (mem_get hy)).1 (nsM y (List.mem_append_right _ (Wr.fr_nms hfr)))
      | none =>
        rw [hr] at hfr
        have hfr : x ∈ a.fr := hfr
        have hsub : wr.nmAt i = x := by
          have key : ∀ {e : List (Str × Nat)}, wr.Chain e → (x, i) ∈ e → ∃ b, wr.subs[i]? = some (.of x b) := by
            intro e
            induction e with
            | nil => intro _ h; exact absurd h List.not_mem_nil
            | cons p e ih =>
              obtain ⟨x', i'⟩ := p
              rintro ⟨hb, _, hc⟩ h
              rcases List.mem_cons.mp h with h | h
              · cases h; exact hb
              · exact ih hc h
          obtain ⟨b', hb'⟩ := key (wr.chain_env (hgs g' hg')) hxi
          unfold Wr.nmAt
          rw [hb']
        have hc : i ∈ cat := by
          rw [ecat]
          exact List.mem_filter.mpr ⟨hAs, by rw [hsub]; exact decide_eq_true hfr⟩
        obtain ⟨m, hm⟩ := List.getElem?_of_mem hc
        obtain ⟨y, hy⟩ := get_lt (xs := nl) (i := m) (by rw [nlL]; exact lt_get hm)
        have hz : (i, y) ∈ cat.zip nl := mem_get (List.getElem?_zip_eq_some.mpr ⟨hm, hy⟩)
        have := List.lookup_eq_none_iff.mp hr (i, y) hz
        simp at this
end
end TF18
/-! what put builds: a row of pairs, and which writing it is -/
namespace TG
open PySem PySem.Spec L2
open PyProof.Rows hiding St
namespace Wr
/-- as ren, a value in the place of what is put in -/
def renT (ρ : Nat → Option Str) (nam : Str) (pv : V) : Wr → Nat → List (Str × Nat) → Tr
  | nm z, _, e => .lf (match find z e with
    | none => if z = nam then pv else .str z
    | some j => .str (nu ρ j z))
  | of x b, o, e => .of (nu ρ o x) (renT ρ nam pv b (o + 1) ((x, o) :: e))
  | to a b, o, e => .to (renT ρ nam pv a (o + 1) e) (renT ρ nam pv b (o + 1 + a.sg) e)
/-- one pair of it -/
def entR (ρ : Nat → Option Str) (nam : Str) (pv : V) : Wr → List (Str × Nat) → Nat → V × V
  | nm z, l, _ => (.str "name", match find z l with
    | none => if z = nam then pv else .str z
    | some j => .str (nu ρ j z))
  | of x _, _, k => (.str "of", .str (nu ρ k x))
  | to _ _, _, _ => (.str "to", .non)
theorem renT_sz (ρ : Nat → Option Str) (nam : Str) (pv : V) : ∀ (w : Wr) (o : Nat) (e : List (Str × Nat)), (renT ρ nam pv w o e).sz = w.sg
  | nm _, _, _ => rfl
  | of x b, o, e => congrArg (· + 1) (renT_sz ρ nam pv b (o + 1) ((x, o) :: e))
  | to a b, o, e => by
    show (renT ρ nam pv a _ e).sz + (renT ρ nam pv b _ e).sz + 1 = _
    rw [renT_sz ρ nam pv a, renT_sz ρ nam pv b]
    rfl
theorem renT_ents (ρ : Nat → Option Str) (nam : Str) (pv : V) : ∀ (w : Wr) (o : Nat) (e : List (Str × Nat)), (renT ρ nam pv w o e).ents = ((w.subs.zip (w.envs o e)).zipIdx o).map fun p => entR ρ nam pv p.1.1 p.1.2 p.2
  | nm _, _, _ => rfl
  | of x b, o, e => by
    show _ :: (renT ρ nam pv b (o + 1) ((x, o) :: e)).ents = _
    rw [renT_ents ρ nam pv b]
    rfl
  | to a b, o, e => by
    show _ :: ((renT ρ nam pv a (o + 1) e).ents ++ (renT ρ nam pv b (o + 1 + a.sg) e).ents) = _
    rw [renT_ents ρ nam pv a, renT_ents ρ nam pv b, ← List.map_append]
    show _ = List.map _ (((to a b).subs.zip ((to a b).envs o e)).zipIdx o)
    have e1 : ((to a b).subs.zip ((to a b).envs o e)) = (to a b, e) :: ((a.subs.zip (a.envs (o + 1) e)) ++ (b.subs.zip (b.envs (o + 1 + a.sg) e))) := by
      show (_ :: (a.subs ++ b.subs)).zip (e :: (a.envs (o + 1) e ++ b.envs (o + 1 + a.sg) e)) = _
      rw [List.zip_cons_cons, List.zip_append (by rw [subs_len, envs_len])]
    rw [e1, List.zipIdx_cons, List.map_cons, List.zipIdx_append]
    have e2 : (a.subs.zip (a.envs (o + 1) e)).length = a.sg := by rw [List.length_zip, subs_len, envs_len, Nat.min_self]
    rw [e2]
    rfl
theorem renT_at {ρ : Nat → Option Str} {nam : Str} {pv : V} {w s : Wr} {i : Nat} (h : w.subs[i]? = some s) : (renT ρ nam pv w 0 []).ents[i]? = some (entR ρ nam pv s (w.env i) i) := by
  have h2 : (w.subs.zip (w.envs 0 []))[i]? = some (s, w.env i) := List.getElem?_zip_eq_some.mpr ⟨h, env_eq (subs_lt h)⟩
  rw [renT_ents, List.getElem?_map, List.getElem?_zipIdx, h2]
  show some (entR ρ nam pv s (w.env i) (0 + i)) = _
  rw [Nat.zero_add]
theorem renT_tw {ρ : Nat → Option Str} {nam : Str} {pv : V} {t : Wr} {H : Hp} (hp : WA H pv t) : ∀ (w : Wr) (o : Nat) (e : List (Str × Nat)), TW H (renT ρ nam pv w o e) (ren ρ nam t w o e)
  | nm z, o, e => by
    show TW H (.lf (match find z e with | none => if z = nam then pv else .str z | some j => .str (nu ρ j z))) (match find z e with | none => if z = nam then t else nm z | some j => nm (nu ρ j z))
    cases find z e with
    | none =>
      by_cases c : z = nam
      · dsimp only
        rw [if_pos c, if_pos c]
        exact .lf hp
      · dsimp only
        rw [if_neg c, if_neg c]
        exact .lf (.nm z)
    | some j => exact .lf (.nm _)
  | of x b, o, e => .of (renT_tw hp b _ _)
  | to a b, o, e => .to (renT_tw hp a _ _) (renT_tw hp b _ _)
theorem ren_ok {ρ : Nat → Option Str} {nam : Str} {t : Wr} (hr : ∀ j y, ρ j = some y → okN y = true) (ht : t.all okN = true) : ∀ (w : Wr) (o : Nat) (e : List (Str × Nat)), w.all okN = true → (ren ρ nam t w o e).all okN = true := by
  have nuok : ∀ j x, okN x = true → okN (nu ρ j x) = true := by
    intro j x hx
    unfold nu
    cases q : ρ j with
    | none => exact hx
    | some y => exact hr j y q
  intro w
  induction w with
  | nm z =>
    intro o e hw
    have hw : okN z = true := hw
    show (match find z e with | none => if z = nam then t else nm z | some j => nm (nu ρ j z)).all okN = true
    cases find z e with
    | none =>
      dsimp only
      by_cases c : z = nam
      · rw [if_pos c]; exact ht
      · rw [if_neg c]; exact hw
    | some j => exact nuok j z hw
  | of x b ih =>
    intro o e hw
    have hw : (okN x && b.all okN) = true := hw
    rw [Bool.and_eq_true] at hw
    show (okN (nu ρ o x) && (ren ρ nam t b _ _).all okN) = true
    rw [nuok o x hw.1, ih _ _ hw.2]
    rfl
  | to a b i1 i2 =>
    intro o e hw
    have hw : (a.all okN && b.all okN) = true := hw
    rw [Bool.and_eq_true] at hw
    show ((ren ρ nam t a _ _).all okN && (ren ρ nam t b _ _).all okN) = true
    rw [i1 _ _ hw.1, i2 _ _ hw.2]
    rfl
theorem subs_nms : ∀ {w s : Wr} {z : Str}, s ∈ w.subs → s.nvO = some z → z ∈ w.nms
  | nm y, s, z, h, e => by
    rw [List.mem_singleton.mp h] at e
    cases e
    exact List.mem_singleton_self _
  | of x b, s, z, h, e => by
    rcases List.mem_cons.mp h with rfl | h
    · cases e; exact List.mem_cons_self
    · exact List.mem_cons_of_mem _ (subs_nms h e)
  | to a b, s, z, h, e => by
    rcases List.mem_cons.mp h with rfl | h
    · cases e
    · rcases List.mem_append.mp h with h | h
      · exact List.mem_append_left _ (subs_nms h e)
      · exact List.mem_append_right _ (subs_nms h e)
/-- at which signs something is put in -/
def goneL (w : Wr) (nam : Str) : List Nat := w.frIx.filter fun i => decide (w.nmAt i = nam)
theorem gone_nil {w : Wr} {nam : Str} (h : nam ∉ w.nms) : w.goneL nam = [] := by
  unfold goneL
  refine List.filter_eq_nil_iff.mpr fun i hi => ?_
  obtain ⟨z, hz, _, hn⟩ := frIx_nm hi
  intro e
  have e := of_decide_eq_true e
  refine h (e ▸ hn ▸ ?_)
  exact subs_nms (List.mem_of_getElem? hz) rfl
theorem gone_iff {w : Wr} {nam z : Str} {i : Nat} (h : w.subs[i]? = some (nm z)) : i ∈ w.goneL nam ↔ find z (w.env i) = none ∧ z = nam := by
  have hn : w.nmAt i = z := by unfold nmAt; rw [h]
  unfold goneL
  rw [List.mem_filter, hn, decide_eq_true_eq, frIx_eq, List.mem_filter, List.mem_range]
  have hp : frP w i = decide (find z (w.env i) = none) := by unfold frP; rw [h]
  rw [hp, decide_eq_true_eq]
  exact ⟨fun q => ⟨q.1.2, q.2⟩, fun q => ⟨⟨subs_lt h, q.1⟩, q.2⟩⟩
theorem gone_not {w s : Wr} {nam : Str} {i : Nat} (h : w.subs[i]? = some s) (k : ∀ z, s ≠ nm z) : i ∉ w.goneL nam := by
  intro hm
  obtain ⟨z, hz, _⟩ := frIx_nm (List.mem_filter.mp hm).1
  rw [h] at hz
  exact k z (Option.some.inj hz)
/-- counted outwards it is what must be -/
theorem put_cnt {w a : Wr} {nam : Str} {ρ : Nat → Option Str} (N : New ρ (w.nms ++ a.nms)) (hz : w.goneL nam = [] → ρ = fun _ => none) (cover : ∀ g ∈ w.goneL nam, ∀ x i, (x, i) ∈ w.env g → nu ρ i x ∉ a.fr) :
    (ren ρ nam a w 0 []).cnt [] = (w.cnt []).sub nam (a.cnt []) := by
  have h2 : ∀ i x b l, w.subs[i]? = some (of x b) → (w.envs 0 [])[i]? = some l → nam ∈ b.frL (x :: l.map (·.1)) → nu ρ (0 + i) x ∉ a.fr := by
    intro i x b l hs hl hm
    rw [env_eq (subs_lt hs)] at hl
    cases hl
    obtain ⟨g, hg, hn, hx⟩ := gone_around hs hm
    rw [Nat.zero_add]
    exact cover g (List.mem_filter.mpr ⟨hg, decide_eq_true hn⟩) x i hx
  by_cases c : nam ∈ w.nms
  · exact ren_cnt N (List.mem_append_left _ c) w 0 [] (fun z hz => List.mem_append_left _ hz) List.nodup_nil (fun p hp => absurd hp List.not_mem_nil) (fun z _ _ => List.not_mem_nil) h2
  · have e := hz (gone_nil c)
    have N2 : New ρ (nam :: w.nms) := ⟨fun j y h => by (rw [e] at h; cases h), fun j k y h _ => by (rw [e] at h; cases h)⟩
    exact ren_cnt N2 List.mem_cons_self w 0 [] (fun z hz => List.mem_cons_of_mem _ hz) List.nodup_nil (fun p hp => absurd hp List.not_mem_nil) (fun z _ _ => List.not_mem_nil) h2
/-- what put makes: a function of the two writings and the name -/
def putF (w : Wr) (x : Str) (a : Wr) : Wr := ren (rho (catPs w a (w.goneL x))) x a w 0 []
end Wr
/-- as spPut, and which writing it is: the same for equal writings -/
def spPutF (K : PySem.W.Frag) : Sp := fun vs H Q _ => ∃ (v u : V) (x : Str) (d e : PyData) (w a : Wr), vs = [v, .str x, u] ∧ Dp K H v d ∧ Tells d w ∧ w.all okN = true ∧ w.sg ≤ 2000 ∧ okN x = true ∧ Dp K H u e ∧ Tells e a ∧ a.all okN = true ∧ a.sg ≤ 2000 ∧
  ∀ (v' : V) (w' : Wr) (H' : Hp), Same H H' → WA H' v' w' → w'.all okN = true → w'.cnt [] = (w.cnt []).sub x (a.cnt []) → w' = w.putF x a → Q v' H'
theorem putF_put {K : PySem.W.Frag} (vs : List V) (H : Hp) (Q : VK) (E : XK) (h : spPut K vs H Q E) : spPutF K vs H Q E := by
  obtain ⟨v, u, x, d, e, w, a, e1, h1, h2, h3, h4, _, h5, h6, h7, h8, h9, _, _, _, q⟩ := h
  exact ⟨v, u, x, d, e, w, a, e1, h1, h2, h3, h4, h5, h6, h7, h8, h9, fun v' w' H' s hw ok c _ => q v' w' H' s hw ok c⟩
end TG
namespace TF18
open PySem PySem.Spec L2 TG TA
open PyProof.Rows hiding St
abbrev sPt : Stmt := top 55
theorem scPt : FnScope ["writing", "name", "other", "layout", "inner", "gone", "at", "names", "part", "signs", "word", "old", "binder"] ["writing", "name", "other"] (defScope sPt) := ⟨rfl, rfl, rfl, by decide +kernel, rfl, by decide +kernel, by decide +kernel⟩
section
variable {P : Program} {w : World} {K : PySem.W.Frag} {mg : Str → Option Value} {base : Heap} {f f1 f2 f3 f4 f5 f6 f7 : Addr} {fd fd1 fd2 fd3 fd4 fd5 fd6 fd7 : FuncData}
theorem ok_putF {C fI : Addr} (F : Fun K "put" "put" sPt f fd) (T : Bn mg) (W : Lw mg) (Z : LayC K mg C fI) (D_laid_out : Df K mg "laid_out" sLaid f1 fd1 ["value", "part"]) (G_laid_out : FnOk P w K mg base CX0 5 f1 fd1 ["value", "part"] (spLaid K C))
    (D_is_name : Df K mg "is_name" sName f2 fd2 ["value"]) (G_is_name : FnOk P w K mg base CX0 3 f2 fd2 ["value"] (spName K))
    (D_free_signs : Df K mg "free_signs" sFreeS f3 fd3 ["layout"]) (G_free_signs : FnOk P w K mg base CX0 1 f3 fd3 ["layout"] (spFreeS C))
    (D_names_for_catching : Df K mg "names_for_catching" sCatch f4 fd4 ["layout", "gone", "inner"]) (G_names_for_catching : FnOk P w K mg base CX0 3 f4 fd4 ["layout", "gone", "inner"] (spCatch C))
    (D_built_part : Df K mg "built_part" sPart f5 fd5 ["layout", "at"]) (G_built_part : FnOk P w K mg base CX0 2 f5 fd5 ["layout", "at"] (spPart C))
    (D_built : Df K mg "built" sBuilt f6 fd6 ["signs"]) (G_built : FnOk P w K mg base CX0 1 f6 fd6 ["signs"] spBuilt) : FnOk P w K mg base CX0 6 f fd ["writing", "name", "other"] (spPutF K) := by
  refine F.ok scPt (fun vs H Q E h => ?_) (fun cdv A outer s H vs Q E hr h => ?_)
  · obtain ⟨v, u, x, d, e, wr, a, rfl, _⟩ := h
    rfl
  obtain ⟨v, u, x, d, e, wr, a, rfl, hd, ht, hok, hn, hx, hd2, ht2, hok2, hn2, q⟩ := h
  obtain ⟨tNm, gNm⟩ := W.nm_
  obtain ⟨tOf, gOf⟩ := W.of_
  refine ⟨_, (pss_cons (ps_set (i := 3) scPt.nd rfl (.inr rfl) (pe_cd D_laid_out G_laid_out hr (by decide) (pa_cons (pv 0) (pa_cons pe_str pa_nil))))
      (pss_cons (ps_if (pt_not (pt_val (pe_cd D_is_name G_is_name hr (by decide) (pa_cons (pv 1) pa_nil)))) (pss_one ps_never) pss_nil)
      (pss_cons (ps_set (i := 4) scPt.nd rfl (.inl rfl) (pe_cd D_laid_out G_laid_out hr (by decide) (pa_cons (pv 2) (pa_cons pe_str pa_nil))))
      (pss_cons (ps_setDcS (i := 5) (own := [("at", 6)]) (g := (gName 6)) (stK_ok _ _) rfl scPt.nd rfl rfl (swD rfl rfl rfl (by decide +kernel)) (pi_list (pe_cd D_free_signs G_free_signs hr (by decide) (pa_cons (pv 3) pa_nil))) (blkOk_by (own := [("at", 6)]) (N := ["writing", "name", "other", "layout", "inner", "gone", "at", "names", "part", "signs", "word", "old", "binder"]) (sc := defScope sPt) (by decide +kernel)) (fun _ _ _ _ _ => (pg_name (i := 6) scPt.nd rfl (.inl rfl))) (fun _ _ _ _ _ => (pts_one (pt_cmpR op_eq (pe_ix (show IxR _ (rIxT K) from ix_tup) (pe_ix (show IxR _ (rIxL K) from ix_list) (show PE _ _ (tFld K (tVar 3) "signs") from pe_fld (pv 3) (by rfl)) (pv 6) (fun _ _ => rfl)) pe_int (fun _ _ => rfl)) (pv 1) (nomark _)))) (fun _ _ _ _ _ => (pv 6)) (fun _ _ _ _ _ => pe_bl))
      (pss_cons (ps_set (i := 7) scPt.nd rfl (.inl rfl) (pe_cd D_names_for_catching G_names_for_catching hr (by decide) (pa_cons (pv 3) (pa_cons (pv 5) (pa_cons (pv 4) pa_nil)))))
      (pss_cons (ps_set (i := 8) scPt.nd rfl (.inl rfl) (pe_cd D_built_part G_built_part hr (by decide) (pa_cons (pv 4) (pa_cons pe_int pa_nil))))
      (pss_cons (ps_set (i := 9) scPt.nd rfl (.inl rfl) (pe_lst pa_nil))
      (pss_cons (ps_for PassesOwn.never rfl (pi_enum (by rfl) T.b_enumerate (pa_cons (pe_fld (pv 3) (by rfl)) pa_nil)) (pg_tup (by rfl) (pgs_cons (pg_name (i := 6) scPt.nd rfl (.inl rfl)) (pgs_cons (pg_tup (by rfl) (pgs_cons (pg_name (i := 10) scPt.nd rfl (.inl rfl)) (pgs_cons (pg_name (i := 11) scPt.nd rfl (.inl rfl)) pgs_nil))) pgs_nil)))
        (pss_one (ps_if (pt_cmp (pc_din (hu_of hr) (pv 6) (pv 5))) (pss_one (ps_expr (pe_bm PySem.F.plainAttrs_list PySem.F.slot_list_append PySem.F.type_list_append mt_append (pv 9) (pa_cons (pe_tup (pa_cons (pe_glob (v := .str "name") rfl gNm ⟨_, rfl⟩) (pa_cons (pv 8) pa_nil))) pa_nil)))) (pss_cons (ps_set (i := 12) scPt.nd rfl (.inl rfl) (pe_ifExp (pt_cmpR op_eq (pv 10) (pe_glob (v := .str "of") rfl gOf ⟨_, rfl⟩) (nomark _)) (pv 6) (pe_ix ix_list (pe_fld (pv 3) (by rfl)) (pv 6) (fun _ _ => rfl))))
          (pss_one (ps_expr (pe_bm PySem.F.plainAttrs_list PySem.F.slot_list_append PySem.F.type_list_append mt_append (pv 9) (pa_cons (pe_tup (pa_cons (pv 10) (pa_cons (pe_dget2N (hu_of hr) (pv 7) (pv 12) (pv 11) ⟨rfl, rfl, rfl, rfl⟩) pa_nil))) pa_nil))))))))
      (pss_one (ps_ret (pe_cd D_built G_built hr (by decide) (pa_cons (pv 9) pa_nil)))))))))))), ?_⟩
  refine ⟨_, rfl, v, _, d, wr, rfl, hd, ht, hok, hn, fun l H1 s1 hL => ?_⟩
  refine ⟨_, rfl, .str x, "str", rfl, HasTy.str x, (fun y hy => by cases hy; exact okN_short hx), fun H2 s2 => ?_⟩
  have hnm : nameV (.str x) = true := (nameB_ok x).trans hx
  rw [hnm]
  refine ⟨_, rfl, iteF ?_⟩
  refine ⟨_, rfl, u, _, e, a, rfl, dp_same (s1.trans s2) hd2, ht2, hok2, hn2, fun t H3 s3 hA => ?_⟩
  have hL3 := hL.same (s2.trans s3)
  refine ⟨_, rfl, l, wr, rfl, hL3, hn, fun ix H4 s4 hix => ⟨ix, rfl, ⟨_, SqL.of hix⟩, fun gd gd0 => ?_⟩⟩
  obtain ⟨g, e', b, ad, d', dx, hl, ⟨ts, hg, hgl, hgt⟩, he, hb, ha, ⟨xs, hbd, hbl, hbx⟩⟩ := hL3.same s4
  refine dc_it (walk_list (K := K) (a := ix) (xs := natV wr.frIx)) (fun k G => Same H4 G ∧ G gd = some (.dK (keysB ((wr.frIx.take k).filter fun i => decide (wr.nmAt i = x))))) ?_ ?_ ?_ ?_
  · exact ⟨same_new gd0, by rw [List.take_zero]; exact upd_same⟩
  · rintro k G _ ⟨s5, _⟩
    exact SqL.of (s5 _ _ hix)
  · rintro k y _ G hk ⟨s5, h5⟩ ⟨rfl, hy⟩
    have hy : (wr.frIx.map fun (i : Nat) => V.int (i : Int))[k]? = some y := hy
    rw [List.getElem?_map] at hy
    obtain ⟨i, hi, rfl⟩ := Option.map_eq_some_iff.mp hy
    obtain ⟨z, hz, _, hzn⟩ := frIx_nm (mem_get hi)
    have hin := Wr.subs_lt hz
    obtain ⟨tp, htp⟩ : ∃ tp, ts[i]? = some tp := get_lt (by rw [hgl]; exact hin)
    have ht2 := hgt i _ tp hz htp
    refine ⟨rfl, _, rfl, l, C, dx, _, _, rfl, s5 _ _ hl, Z.cl, Z.nS, lay_signs g e' b ad d', _, rfl, g, _, _, .ref tp, rfl, rfl, SqL.of (s5 _ _ hg), atI_nat (j := i) (by rw [List.getElem?_map, htp]; rfl), tp, _, _, .str z, rfl, rfl, SqT.of (s5 _ _ ht2), rfl, _, rfl, ?_⟩
    have step : (wr.frIx.take (k + 1)).filter (fun i => decide (wr.nmAt i = x)) = (wr.frIx.take k).filter (fun i => decide (wr.nmAt i = x)) ++ if z = x then [i] else [] := by
      rw [take_snoc hi, List.filter_append]
      congr 1
      by_cases c : z = x
      · rw [if_pos c, List.filter_cons_of_pos (by rw [hzn]; exact decide_eq_true c)]
        rfl
      · rw [if_neg c, List.filter_cons_of_neg (by rw [hzn, decide_eq_false c]; exact Bool.false_ne_true)]
        rfl
    refine ⟨rfl, _, rfl, ?_⟩
    by_cases c : z = x
    · rw [if_pos c] at step
      rw [show decide (V.str z = V.str x) = true from decide_eq_true (congrArg V.str c)]
      refine iteT ⟨_, rfl, _, Sum.inl (i : Int), rfl, h5, ?_, same_put s5 gd0, ?_⟩
      · rw [keysB_len]
        have h6 := List.length_filter_le (fun i => decide (wr.nmAt i = x)) (wr.frIx.take k)
        rw [List.length_take] at h6
        have h7 := frIx_len wr
        exact small_le (by omega)
      · rw [upd_same, step, keysB_put]
        intro hm
        obtain ⟨j, hj⟩ := List.getElem?_of_mem (List.mem_filter.mp hm).1
        rw [List.getElem?_take] at hj
        by_cases c2 : j < k
        · rw [if_pos c2] at hj
          have := nodup_get (by rw [frIx_eq]; exact List.nodup_range.filter _) hj hi
          omega
        · rw [if_neg c2] at hj; cases hj
    · rw [if_neg c, List.append_nil] at step
      rw [show decide (V.str z = V.str x) = false from decide_eq_false fun h => c (by injection h)]
      refine iteF ⟨s5, ?_⟩
      rw [step]
      exact h5
  rintro G1 ⟨s5, hgd⟩
  rw [natV_len, List.take_of_length_le (Nat.le_refl _)] at hgd
  have hgd : G1 gd = some (.dK (keysB (wr.goneL x))) := hgd
  refine ⟨_, rfl, _, rfl, _, rfl, l, gd, t, wr, a, wr.goneL x, rfl, (hL3.same s4).same s5, (hA.same s4).same s5, hn, hn2, hok, hok2, hgd, ?_, ?_, fun nd ps H5 s6 hnd psl peq psz hnew psok cover => ?_⟩
  · have h6 := List.length_filter_le (fun i => decide (wr.nmAt i = x)) wr.frIx
    have h7 := frIx_len wr
    exact Nat.le_trans h6 (Nat.le_trans h7 hn)
  · intro i hi
    obtain ⟨z, hz, _⟩ := frIx_nm (List.mem_filter.mp hi).1
    exact Wr.subs_lt hz
  refine ⟨_, rfl, t, a, a, 0, rfl, ((hA.same s4).same s5).same s6, hn2, by cases a <;> rfl, fun pv H6 s7 hpv => ?_⟩
  refine ⟨Nat.zero_le _, fun L hL0 => ?_⟩
  have L0 : H6 L = none := hL0
  have sA : Same H4 H6 := s5.trans (s6.trans s7)
  have sL : Same H6 (L2.upd H6 L (.lst [])) := same_new hL0
  have hnd6 := s7 _ _ hnd
  have hgd6 := s7 _ _ (s6 _ _ hgd)
  refine ⟨_, rfl, l, C, dx, _, _, rfl, sL _ _ (sA _ _ hl), Z.cl, Z.nS, lay_signs g e' b ad d', g, _, rfl, SqL.of (sL _ _ (sA _ _ hg)), ?_⟩
  have hnl : (ts.map V.ref).length = wr.sg := by rw [List.length_map, hgl]
  refine for_it (walk_enum (xs := ts.map V.ref)) (fun k σ G => ∃ (v6 v10 v11 v12 : Option V) (qs : List Addr), σ = [some v, some (.str x), some u, some (.ref l), some (.ref t), some (.ref gd), v6, some (.ref nd), some pv, some (.ref L), v10, v11, v12] ∧ Same H6 G ∧ G L = some (.lst (qs.map V.ref)) ∧ qs.length = k ∧
    ∀ i s p, i < k → wr.subs[i]? = some s → qs[i]? = some p → G p = some (.tup [(Wr.entR (rho ps) x pv s (wr.env i) i).1, (Wr.entR (rho ps) x pv s (wr.env i) i).2])) ?_ ?_ ?_ ?_
  · exact ⟨_, none, none, none, [], rfl, sL, upd_same, rfl, fun i s p hi => absurd hi (Nat.not_lt_zero i)⟩
  · rintro i σ G _ ⟨_, _, _, _, _, _, s8, _⟩
    exact SqL.of (s8 _ _ (sA _ _ hg))
  · rintro k y σ G G' hk ⟨v6, v10, v11, v12, qs, rfl, s8, hLq, hql, hqs⟩ ⟨tp, y1, y2, rfl, htp, rfl, e1, e2⟩
    cases e1
    rw [hnl] at hk
    obtain ⟨s', hs'⟩ := wr_get wr hk
    have e2 : (ts.map V.ref)[k]? = some y2 := e2
    rw [List.getElem?_map] at e2
    obtain ⟨tq, htq, rfl⟩ := Option.map_eq_some_iff.mp e2
    have s9 : Same H6 (L2.upd G tp (.tup [.int ((k : Nat) : Int), .ref tq])) := s8.trans (same_new htp)
    have ht2 := s9 _ _ (sA _ _ (hgt k s' tq hs' htq))
    have nLt : L ≠ tp := ne_of_none hLq htp
    have hL9 : (L2.upd G tp (.tup [.int ((k : Nat) : Int), .ref tq])) L = some (.lst (qs.map V.ref)) := by rw [upd_ne nLt]; exact hLq
    have hq9 : ∀ i s p, i < k → wr.subs[i]? = some s → qs[i]? = some p → (L2.upd G tp (.tup [.int ((k : Nat) : Int), .ref tq])) p = some (.tup [(Wr.entR (rho ps) x pv s (wr.env i) i).1, (Wr.entR (rho ps) x pv s (wr.env i) i).2]) := fun i s p a1 a2 a3 => by
      have := hqs i s p a1 a2 a3
      rw [upd_ne (ne_of_none this htp)]
      exact this
    refine ⟨tp, _, rfl, SqT.of upd_same, rfl, _, _, rfl, _, _, rfl, tq, _, rfl, SqT.of ht2, rfl, _, _, rfl, _, _, rfl, rfl, rfl, ?_⟩
    generalize (L2.upd G tp (.tup [.int ((k : Nat) : Int), .ref tq])) = G9 at s9 ht2 hL9 hq9 ⊢
    have fin : ∀ (pr : V × V), Wr.entR (rho ps) x pv s' (wr.env k) k = pr → ∀ (tn : Addr), G9 tn = none → ∀ v6 v10 v11 v12 : Option V, ∃ (w6 w10 w11 w12 : Option V) (qz : List Addr), [some v, some (V.str x), some u, some (.ref l), some (.ref t), some (.ref gd), v6, some (.ref nd), some pv, some (.ref L), v10, v11, v12] = [some v, some (V.str x), some u, some (.ref l), some (.ref t), some (.ref gd), w6, some (.ref nd), some pv, some (.ref L), w10, w11, w12] ∧
        Same H6 (L2.upd (L2.upd G9 tn (.tup [pr.1, pr.2])) L (.lst (qs.map V.ref ++ [.ref tn]))) ∧ (L2.upd (L2.upd G9 tn (.tup [pr.1, pr.2])) L (.lst (qs.map V.ref ++ [.ref tn]))) L = some (.lst (qz.map V.ref)) ∧ qz.length = k + 1 ∧
        ∀ i s p, i < k + 1 → wr.subs[i]? = some s → qz[i]? = some p → (L2.upd (L2.upd G9 tn (.tup [pr.1, pr.2])) L (.lst (qs.map V.ref ++ [.ref tn]))) p = some (.tup [(Wr.entR (rho ps) x pv s (wr.env i) i).1, (Wr.entR (rho ps) x pv s (wr.env i) i).2]) := by
      intro pr hpr tn tn0 v6 v10 v11 v12
      have nLn : L ≠ tn := ne_of_none hL9 tn0
      refine ⟨_, _, _, _, qs ++ [tn], rfl, same_put (s9.trans (same_new tn0)) L0, by rw [upd_same, List.map_append]; rfl, by rw [List.length_append, hql]; rfl, fun i s p hi hs hp => ?_⟩
      by_cases z : i < k
      · rw [List.getElem?_append_left (by omega)] at hp
        have h3 := hq9 i s p z hs hp
        rw [upd_ne (fun e => by rw [e, hL9] at h3; cases h3), upd_ne (ne_of_none h3 tn0)]
        exact h3
      · obtain rfl : i = k := by omega
        rw [List.getElem?_append_right (by omega), hql, Nat.sub_self] at hp
        cases hp
        rw [hs'] at hs
        cases hs
        rw [upd_ne (Ne.symm nLn), upd_same, hpr]
    have hcl : (qs.map V.ref).length < sizeLine := by rw [List.length_map]; exact small_le (by omega)
    refine ⟨_, rfl, _, rfl, gd, _, rfl, DGet.k (k := Sum.inl (k : Int)) (s9 _ _ hgd6), _, rfl, ?_⟩
    rw [keysB_val]
    have hnd9 := s9 _ _ hnd6
    have hl9 := s9 _ _ (sA _ _ hl)
    have hb9 := s9 _ _ (sA _ _ hbd)
    have hrho : ∀ (j : Nat) (z : Str), ((valV (rhoD ps) (Sum.inl (j : Int) : Key)).getD (.str z)) = .str (Wr.nu (rho ps) j z) := fun j z => by
      rw [rhoD_val]
      unfold Wr.nu
      cases rho ps j <;> rfl
    by_cases c : k ∈ wr.goneL x
    · rw [decide_eq_true c]
      refine iteT ?_
      refine ⟨_, rfl, .inl ⟨rfl, _, SqL.of hL9⟩, _, rfl, (by show 2 ≤ sizeLine; decide), fun tn tn0 => ?_⟩
      refine ⟨L, _, _, rfl, rfl, by rw [upd_ne (ne_of_none hL9 tn0)]; exact hL9, hcl, fin (.str "name", pv) ?_ tn tn0 _ _ _ _⟩
      cases s' with
      | nm z =>
        obtain ⟨q1, q2⟩ := (Wr.gone_iff hs').mp c
        show (V.str "name", (match Wr.find z (wr.env k) with | none => if z = x then pv else .str z | some j => .str (Wr.nu (rho ps) j z))) = _
        rw [q1]
        dsimp only
        rw [if_pos q2]
      | of y b' => exact absurd c (Wr.gone_not hs' fun z h => nomatch h)
      | to b' c' => exact absurd c (Wr.gone_not hs' fun z h => nomatch h)
    · rw [decide_eq_false c]
      refine iteF ?_
      cases s' with
      | of y b' =>
        refine ⟨_, rfl, rfl, _, rfl, ?_⟩
        rw [show decide (V.str (Wr.of y b').wd = V.str "of") = true from (by decide +kernel : decide (V.str "of" = V.str "of") = true)]
        refine iteT ⟨_, rfl, ?_⟩
        refine ⟨_, rfl, .inl ⟨rfl, _, SqL.of hL9⟩, _, rfl, _, rfl, nd, rfl, .inl ⟨_, .inl hnd9⟩, _, rfl, _, rfl, .inl ⟨_, DGet.k (k := Sum.inl (k : Int)) hnd9, (by show 2 ≤ sizeLine; decide), fun tn tn0 => ?_⟩⟩
        have h2 := fin (.str "of", .str (Wr.nu (rho ps) k y)) rfl tn tn0
        rw [← hrho] at h2
        exact ⟨L, _, _, rfl, rfl, by rw [upd_ne (ne_of_none hL9 tn0)]; exact hL9, hcl, h2 _ _ _ _⟩
      | to b' c' =>
        refine ⟨_, rfl, rfl, _, rfl, ?_⟩
        rw [show decide (V.str (Wr.to b' c').wd = V.str "of") = false from (by decide +kernel : decide (V.str "to" = V.str "of") = false)]
        have eb : wr.bnd k = none := by unfold Wr.bnd; rw [hs']
        refine iteF ⟨_, rfl, l, C, dx, _, _, rfl, hl9, Z.cl, Z.nI, lay_binders g e' b ad d', _, rfl, d', _, _, V.non, rfl, rfl, SqL.of hb9, atI_nat (j := k) (by rw [hbx k hk, eb]; rfl), ?_⟩
        refine ⟨_, rfl, .inl ⟨rfl, _, SqL.of hL9⟩, _, rfl, _, rfl, nd, rfl, .inl ⟨_, .inl hnd9⟩, _, rfl, _, rfl, .inr ⟨_, rfl, hnd9, (by show 2 ≤ sizeLine; decide), fun tn tn0 => ?_⟩⟩
        exact ⟨L, _, _, rfl, rfl, by rw [upd_ne (ne_of_none hL9 tn0)]; exact hL9, hcl, fin (.str "to", .non) rfl tn tn0 _ _ _ _⟩
      | nm z =>
        refine ⟨_, rfl, rfl, _, rfl, ?_⟩
        rw [show decide (V.str (Wr.nm z).wd = V.str "of") = false from (by decide +kernel : decide (V.str "name" = V.str "of") = false)]
        have eb : wr.bnd k = Wr.find z (wr.env k) := by unfold Wr.bnd; rw [hs']
        cases cf : Wr.find z (wr.env k) with
        | none =>
          have nz : z ≠ x := fun h => c ((Wr.gone_iff hs').mpr ⟨cf, h⟩)
          refine iteF ⟨_, rfl, l, C, dx, _, _, rfl, hl9, Z.cl, Z.nI, lay_binders g e' b ad d', _, rfl, d', _, _, V.non, rfl, rfl, SqL.of hb9, atI_nat (j := k) (by rw [hbx k hk, eb, cf]; rfl), ?_⟩
          refine ⟨_, rfl, .inl ⟨rfl, _, SqL.of hL9⟩, _, rfl, _, rfl, nd, rfl, .inl ⟨_, .inl hnd9⟩, _, rfl, _, rfl, .inr ⟨_, rfl, hnd9, (by show 2 ≤ sizeLine; decide), fun tn tn0 => ?_⟩⟩
          refine ⟨L, _, _, rfl, rfl, by rw [upd_ne (ne_of_none hL9 tn0)]; exact hL9, hcl, fin (.str "name", .str z) ?_ tn tn0 _ _ _ _⟩
          show (V.str "name", (match Wr.find z (wr.env k) with | none => if z = x then pv else .str z | some j => .str (Wr.nu (rho ps) j z))) = _
          rw [cf]
          dsimp only
          rw [if_neg nz]
        | some j =>
          refine iteF ⟨_, rfl, l, C, dx, _, _, rfl, hl9, Z.cl, Z.nI, lay_binders g e' b ad d', _, rfl, d', _, _, V.int (j : Int), rfl, rfl, SqL.of hb9, atI_nat (j := k) (by rw [hbx k hk, eb, cf]; rfl), ?_⟩
          refine ⟨_, rfl, .inl ⟨rfl, _, SqL.of hL9⟩, _, rfl, _, rfl, nd, rfl, .inl ⟨_, .inl hnd9⟩, _, rfl, _, rfl, .inl ⟨_, DGet.k (k := Sum.inl (j : Int)) hnd9, (by show 2 ≤ sizeLine; decide), fun tn tn0 => ?_⟩⟩
          have h2 := fin (.str "name", .str (Wr.nu (rho ps) j z)) (by
            show (V.str "name", (match Wr.find z (wr.env k) with | none => if z = x then pv else .str z | some j => .str (Wr.nu (rho ps) j z))) = _
            rw [cf]) tn tn0
          rw [← hrho] at h2
          exact ⟨L, _, _, rfl, rfl, by rw [upd_ne (ne_of_none hL9 tn0)]; exact hL9, hcl, h2 _ _ _ _⟩
  · rintro σ G ⟨v6, v10, v11, v12, qs, rfl, s8, hLq, hql, hqs⟩
    rw [hnl] at hql hqs
    have rok : ∀ j y, rho ps j = some y → okN y = true := by
      intro j y h
      obtain ⟨l1, l2, e1, _⟩ := List.lookup_eq_some_iff.mp h
      exact psok (j, y) (by rw [e1]; exact List.mem_append_right _ List.mem_cons_self)
    have rnil : wr.goneL x = [] → rho ps = fun _ => none := fun h => by rw [psz h]; rfl
    refine ⟨_, rfl, L, Wr.renT (rho ps) x pv wr 0 [], rfl, ⟨qs, hLq, by rw [hql, Wr.renT_sz], fun i p ad' hp had => ?_⟩, by rw [Wr.renT_sz]; omega, fun v' H7 s10 hv => ?_⟩
    · have hi : i < wr.sg := by have := lt_get had; omega
      obtain ⟨s', hs'⟩ := wr_get wr hi
      rw [Wr.renT_at hs'] at hp
      cases hp
      exact hqs i s' ad' hi hs' had
    · exact q v' _ H7 ((((s1.trans s2).trans (s3.trans s4)).trans sA).trans (s8.trans s10)) (hv.wa (Wr.renT_tw (hpv.same (s8.trans s10)) wr 0 [])) (Wr.ren_ok rok hok2 wr 0 [] hok) (Wr.put_cnt hnew rnil cover) (by rw [peq]; rfl)
theorem ok_put {C fI : Addr} (F : Fun K "put" "put" sPt f fd) (T : Bn mg) (W : Lw mg) (Z : LayC K mg C fI) (D_laid_out : Df K mg "laid_out" sLaid f1 fd1 ["value", "part"]) (G_laid_out : FnOk P w K mg base CX0 5 f1 fd1 ["value", "part"] (spLaid K C))
    (D_is_name : Df K mg "is_name" sName f2 fd2 ["value"]) (G_is_name : FnOk P w K mg base CX0 3 f2 fd2 ["value"] (spName K))
    (D_free_signs : Df K mg "free_signs" sFreeS f3 fd3 ["layout"]) (G_free_signs : FnOk P w K mg base CX0 1 f3 fd3 ["layout"] (spFreeS C))
    (D_names_for_catching : Df K mg "names_for_catching" sCatch f4 fd4 ["layout", "gone", "inner"]) (G_names_for_catching : FnOk P w K mg base CX0 3 f4 fd4 ["layout", "gone", "inner"] (spCatch C))
    (D_built_part : Df K mg "built_part" sPart f5 fd5 ["layout", "at"]) (G_built_part : FnOk P w K mg base CX0 2 f5 fd5 ["layout", "at"] (spPart C))
    (D_built : Df K mg "built" sBuilt f6 fd6 ["signs"]) (G_built : FnOk P w K mg base CX0 1 f6 fd6 ["signs"] spBuilt) : FnOk P w K mg base CX0 6 f fd ["writing", "name", "other"] (spPut K) :=
  (ok_putF F T W Z D_laid_out G_laid_out D_is_name G_is_name D_free_signs G_free_signs D_names_for_catching G_names_for_catching D_built_part G_built_part D_built G_built).imp putF_put
end
end TF18
set_option maxHeartbeats 400000
/-! the place of each sign -/
namespace TG
open PySem PySem.Spec L2
open PyProof.Rows hiding St
namespace Wr
/-- the places of the signs, p is where the whole stands -/
def pths : Wr → List Nat → List (List Nat)
  | nm _, p => [p]
  | of _ b, p => p :: b.pths (p ++ [0])
  | to a b, p => p :: (a.pths (p ++ [0]) ++ b.pths (p ++ [1]))
theorem pths_len : ∀ (w : Wr) (p : List Nat), (w.pths p).length = w.sg
  | nm _, _ => rfl
  | of x b, p => by show (b.pths _).length + 1 = _; rw [pths_len b]; rfl
  | to a b, p => by show (a.pths _ ++ b.pths _).length + 1 = _; rw [List.length_append, pths_len a, pths_len b]; rfl
theorem pths_zero : ∀ (w : Wr) (p : List Nat), (w.pths p)[0]? = some p
  | nm _, _ => rfl
  | of _ _, _ => rfl
  | to _ _, _ => rfl
theorem pths_at : ∀ {w s : Wr} {i : Nat} {p : List Nat}, w.subs[i]? = some s → ∃ e, ∀ j, j < s.sg → (w.pths p)[i + j]? = (s.pths e)[j]?
  | w, s, 0, p, h => by
    rw [subs_zero] at h
    cases h
    exact ⟨p, fun j _ => by rw [Nat.zero_add]⟩
  | nm _, s, i + 1, p, h => nomatch h
  | of x b, s, i + 1, p, h => by
    obtain ⟨e, he⟩ := pths_at (w := b) (p := p ++ [0]) (show b.subs[i]? = some s from h)
    refine ⟨e, fun j hj => ?_⟩
    rw [show i + 1 + j = (i + j) + 1 by omega]
    exact he j hj
  | to a b, s, i + 1, p, h => by
    have h : (a.subs ++ b.subs)[i]? = some s := h
    by_cases c : i < a.subs.length
    · rw [List.getElem?_append_left c] at h
      obtain ⟨e, he⟩ := pths_at (w := a) (p := p ++ [0]) h
      refine ⟨e, fun j hj => ?_⟩
      rw [show i + 1 + j = (i + j) + 1 by omega]
      show (a.pths (p ++ [0]) ++ _)[i + j]? = _
      have f := subs_fit h
      rw [List.getElem?_append_left (by rw [pths_len]; omega)]
      exact he j hj
    · rw [List.getElem?_append_right (by omega), subs_len] at h
      rw [subs_len] at c
      obtain ⟨e, he⟩ := pths_at (w := b) (p := p ++ [1]) h
      refine ⟨e, fun j hj => ?_⟩
      rw [show i + 1 + j = (i + j) + 1 by omega]
      show (a.pths (p ++ [0]) ++ b.pths (p ++ [1]))[i + j]? = _
      rw [List.getElem?_append_right (by rw [pths_len]; omega), pths_len, show i + j - a.sg = (i - a.sg) + j by omega]
      exact he j hj
/-- the place of the sign at i -/
def path (w : Wr) (i : Nat) : List Nat := ((w.pths [])[i]?).getD []
theorem path_zero (w : Wr) : w.path 0 = [] := by
  unfold path
  rw [pths_zero]
  rfl
theorem pths_kid : ∀ {s : Wr} {e : List Nat} {st d : Nat}, s.kids[st]? = some d → d < s.sg ∧ (s.pths e)[d]? = some (e ++ [st])
  | nm _, _, st, d, h => nomatch h
  | of x b, e, 0, d, h => by
    cases h
    have := b.sg_pos
    exact ⟨by show 1 < b.sg + 1; omega, pths_zero b _⟩
  | of x b, e, st + 1, d, h => nomatch h
  | to a b, e, 0, d, h => by
    cases h
    have := a.sg_pos
    refine ⟨by show 1 < a.sg + b.sg + 1; omega, ?_⟩
    show (a.pths (e ++ [0]) ++ b.pths (e ++ [1]))[0]? = _
    rw [List.getElem?_append_left (by rw [pths_len]; omega)]
    exact pths_zero a _
  | to a b, e, 1, d, h => by
    cases h
    have := b.sg_pos
    refine ⟨by show 1 + a.sg < a.sg + b.sg + 1; omega, ?_⟩
    rw [show 1 + a.sg = a.sg + 1 by omega]
    show (a.pths (e ++ [0]) ++ b.pths (e ++ [1]))[a.sg]? = _
    rw [List.getElem?_append_right (by rw [pths_len]; omega), pths_len, Nat.sub_self]
    exact pths_zero b _
  | to a b, e, st + 2, d, h => nomatch h
theorem path_kid {w s : Wr} {i st d : Nat} (h : w.subs[i]? = some s) (hk : s.kids[st]? = some d) : w.path (i + d) = w.path i ++ [st] := by
  obtain ⟨e, he⟩ := pths_at (p := []) h
  obtain ⟨l, k⟩ := pths_kid (e := e) hk
  unfold path
  rw [he d l, k]
  have h0 := he 0 s.sg_pos
  rw [Nat.add_zero, pths_zero] at h0
  rw [h0]
  rfl
theorem path_at {w : Wr} {i : Nat} (h : i < w.sg) : (w.pths [])[i]? = some (w.path i) := by
  have l : i < (w.pths []).length := by rw [pths_len]; exact h
  unfold path
  rw [List.getElem?_eq_getElem l]
  rfl
theorem path_len {w : Wr} : ∀ {i : Nat}, i < w.sg → (w.path i).length ≤ i := by
  intro i
  induction i using Nat.strongRecOn with
  | ind i ih =>
    intro hi
    rcases Nat.eq_zero_or_pos i with rfl | pos
    · rw [path_zero]; exact Nat.le_refl 0
    obtain ⟨j, s, k, hj, hs, hk, rfl⟩ := has_par pos hi
    obtain ⟨st, hst⟩ := List.mem_iff_getElem?.mp hk
    rw [path_kid hs hst, List.length_append]
    have := ih j hj (by omega)
    show _ + 1 ≤ _
    omega
theorem pths_pre : ∀ (w : Wr) (e : List Nat), w.pths e = (w.pths []).map (e ++ ·)
  | nm _, e => by show [e] = [e ++ []]; rw [List.append_nil]
  | of x b, e => by
    show e :: b.pths (e ++ [0]) = (e ++ []) :: (b.pths [0]).map (e ++ ·)
    rw [pths_pre b (e ++ [0]), pths_pre b [0], List.append_nil, List.map_map]
    congr 1
    exact List.map_congr_left fun z _ => List.append_assoc e [0] z
  | to a b, e => by
    show e :: (a.pths (e ++ [0]) ++ b.pths (e ++ [1])) = (e ++ []) :: (a.pths [0] ++ b.pths [1]).map (e ++ ·)
    rw [pths_pre a (e ++ [0]), pths_pre b (e ++ [1]), pths_pre a [0], pths_pre b [1], List.append_nil, List.map_append, List.map_map, List.map_map]
    congr 2
    · exact List.map_congr_left fun z _ => List.append_assoc e [0] z
    · exact List.map_congr_left fun z _ => List.append_assoc e [1] z
/-- the place of a sign within a part -/
theorem path_in {w s : Wr} {j m : Nat} (h : w.subs[j]? = some s) (hm : m < s.sg) : w.path (j + m) = w.path j ++ s.path m := by
  obtain ⟨e, he⟩ := pths_at (p := []) h
  have h0 := he 0 s.sg_pos
  rw [Nat.add_zero, pths_zero] at h0
  have h1 := he m hm
  rw [pths_pre s e, List.getElem?_map, path_at hm] at h1
  unfold path
  rw [h1, h0]
  rfl
/-- a sign within a part, not the part's first, is within one of its own parts -/
theorem descend : ∀ {s : Wr} {m : Nat}, 0 < m → m < s.sg → ∃ (st d : Nat) (s' : Wr), s.kids[st]? = some d ∧ s.subs[d]? = some s' ∧ d ≤ m ∧ m < d + s'.sg
  | nm _, m, h, h2 => by
    have h2 : m < 1 := h2
    omega
  | of x b, m, h, h2 => by
    have h2 : m < b.sg + 1 := h2
    exact ⟨0, 1, b, rfl, subs_zero b, by omega, by omega⟩
  | to a b, m, h, h2 => by
    have h2 : m < a.sg + b.sg + 1 := h2
    have pa := a.sg_pos
    by_cases c : m < 1 + a.sg
    · refine ⟨0, 1, a, rfl, ?_, by omega, by omega⟩
      show (a.subs ++ b.subs)[0]? = _
      rw [List.getElem?_append_left (by rw [subs_len]; omega)]
      exact subs_zero a
    · refine ⟨1, 1 + a.sg, b, rfl, ?_, by omega, by omega⟩
      rw [show 1 + a.sg = a.sg + 1 by omega]
      show (a.subs ++ b.subs)[a.sg]? = _
      rw [List.getElem?_append_right (by rw [subs_len]; omega), subs_len, Nat.sub_self]
      exact subs_zero b
/-- one step down the way to the sign m of a part -/
theorem down {s : Wr} {m : Nat} (h : 0 < m) (h2 : m < s.sg) : ∃ (st d : Nat) (s' : Wr), s.kids[st]? = some d ∧ s.subs[d]? = some s' ∧ d ≤ m ∧ m - d < s'.sg ∧ s.path m = st :: s'.path (m - d) := by
  obtain ⟨st, d, s', h3, h4, h5, h6⟩ := descend h h2
  refine ⟨st, d, s', h3, h4, h5, by omega, ?_⟩
  have e := path_in h4 (m := m - d) (by omega)
  rw [show d + (m - d) = m by omega] at e
  have e2 := path_kid (w := s) (i := 0) (subs_zero s) h3
  rw [Nat.zero_add, path_zero] at e2
  rw [e, e2]
  rfl
end Wr
end TG
namespace TF18
open PySem PySem.Spec L2 TG TA
open PyProof.Rows hiding St
abbrev sIsStep : Stmt := top 62
abbrev sPlaces : Stmt := top 35
abbrev sSteps : Stmt := top 63
abbrev sPlain : Stmt := top 64
theorem scIsStep : FnScope ["layout", "at"] ["layout", "at"] (defScope sIsStep) := ⟨rfl, rfl, rfl, by decide +kernel, rfl, by decide +kernel, by decide +kernel⟩
theorem scPlaces : FnScope ["layout", "places", "at", "parts", "step", "part"] ["layout"] (defScope sPlaces) := ⟨rfl, rfl, rfl, by decide +kernel, rfl, by decide +kernel, by decide +kernel⟩
theorem scSteps : FnScope ["writing", "layout", "at", "place"] ["writing"] (defScope sSteps) := ⟨rfl, rfl, rfl, by decide +kernel, rfl, by decide +kernel, by decide +kernel⟩
theorem scPlain : FnScope ["writing"] ["writing"] (defScope sPlain) := ⟨rfl, rfl, rfl, by decide +kernel, rfl, by decide +kernel, by decide +kernel⟩
/-- a writing that is a step at its first sign -/
def stepP : Wr → Bool
  | .to (.of _ _) _ => true
  | _ => false
def spIsStep (C : Addr) : Sp := fun vs H Q _ => ∃ (l : Addr) (w s : Wr) (i : Nat), vs = [.ref l, .int (i : Int)] ∧ LayAt C H l w ∧ w.subs[i]? = some s ∧ Q (.bl (stepP s)) H
section
variable {P : Program} {w : World} {K : PySem.W.Frag} {mg : Str → Option Value} {base : Heap} {f f1 f2 f3 : Addr} {fd fd1 fd2 fd3 : FuncData}
theorem ok_isStep {C fI : Addr} (F : Fun K "is_step" "is_step" sIsStep f fd) (T : Bn mg) (W : Lw mg) (Z : LayC K mg C fI) : FnOk P w K mg base CX0 1 f fd ["layout", "at"] (spIsStep C) := by
  refine F.ok scIsStep (fun vs H Q E h => ?_) (fun cdv A outer s H vs Q E hr h => ?_)
  · obtain ⟨l, wr, s, i, rfl, _⟩ := h
    rfl
  obtain ⟨l, wr, s', i, rfl, ⟨g, e, b, a, d, dx, hl, ⟨ts, hg, hgl, hgt⟩, he, hb, ha, hd⟩, hs, q⟩ := h
  obtain ⟨tTo, gTo⟩ := W.to_
  obtain ⟨tOf, gOf⟩ := W.of_
  have sign : ∀ {j : Nat} {u : Wr}, wr.subs[j]? = some u → ∃ t, (ts.map V.ref)[j]? = some (.ref t) ∧ ∃ x, H t = some (.tup [.str u.wd, x]) := fun {j u} hu => by
    have lj : j < ts.length := by rw [hgl]; exact Wr.subs_lt hu
    exact ⟨ts[j], by rw [List.getElem?_map, List.getElem?_eq_getElem lj]; rfl, _, hgt j u _ hu (List.getElem?_eq_getElem lj)⟩
  refine ⟨_, (pss_one (ps_ret (pe_and (pe_cmpR op_eq (pe_ix ix_tup (pe_ix ix_list (pe_fld (pv 0) (by rfl)) (pv 1) (fun _ _ => rfl)) pe_int (fun _ _ => rfl)) (pe_glob (v := .str "to") rfl gTo ⟨_, rfl⟩) (nomark _)) (pe_one (pe_cmpR op_eq (pe_ix ix_tup (pe_ix ix_list (pe_fld (pv 0) (by rfl)) (pe_op op_add (pv 1) pe_int) (fun _ _ => rfl)) pe_int (fun _ _ => rfl)) (pe_glob (v := .str "of") rfl gOf ⟨_, rfl⟩) (nomark _)))))), ?_⟩
  obtain ⟨t, ht, y, hy⟩ := sign hs
  refine ⟨_, rfl, l, C, dx, _, _, rfl, hl, Z.cl, Z.nS, lay_signs g e b a d, _, rfl, g, _, _, _, rfl, rfl, SqL.of hg, atI_nat ht, t, _, _, _, rfl, rfl, SqT.of hy, atI_nat (j := 0) rfl, rfl, _, rfl, ?_⟩
  cases s' with
  | nm z =>
    rw [show decide (V.str (Wr.nm z).wd = V.str "to") = false from (by decide +kernel : decide (V.str "name" = V.str "to") = false)]
    exact iteF q
  | of x b' =>
    rw [show decide (V.str (Wr.of x b').wd = V.str "to") = false from (by decide +kernel : decide (V.str "of" = V.str "to") = false)]
    exact iteF q
  | to b' c' =>
    rw [show decide (V.str (Wr.to b' c').wd = V.str "to") = true from decide_eq_true rfl]
    refine iteT ?_
    obtain ⟨t2, ht2, y2, hy2⟩ := sign (Wr.kid_one hs)
    refine ⟨_, rfl, l, C, dx, _, _, rfl, hl, Z.cl, Z.nS, lay_signs g e b a d, _, rfl, _, _, rfl, rfl, g, _, _, _, rfl, rfl, SqL.of hg, atI_nat (j := i + 1) ht2, t2, _, _, _, rfl, rfl, SqT.of hy2, atI_nat (j := 0) rfl, rfl, ?_⟩
    cases b' with
    | nm z =>
      rw [show decide (V.str (Wr.nm z).wd = V.str "of") = false from (by decide +kernel : decide (V.str "name" = V.str "of") = false)]
      exact q
    | of x u =>
      rw [show decide (V.str (Wr.of x u).wd = V.str "of") = true from decide_eq_true rfl]
      exact q
    | to u v =>
      rw [show decide (V.str (Wr.to u v).wd = V.str "of") = false from (by decide +kernel : decide (V.str "to" = V.str "of") = false)]
      exact q
/-- the list of the signs' places -/
def PlaceT (H : Hp) (a : Addr) (ns : List Nat) : Prop := H a = some (.tup (ns.map fun n => V.int ((n : Nat) : Int)))
def PlsAt (H : Hp) (p : Addr) (w : Wr) : Prop := ∃ as : List Addr, H p = some (.lst (as.map V.ref)) ∧ as.length = w.sg ∧ ∀ (i : Nat) (a : Addr), as[i]? = some a → PlaceT H a (w.path i)
def spPlaces (C : Addr) : Sp := fun vs H Q _ => ∃ (l : Addr) (w : Wr), vs = [.ref l] ∧ LayAt C H l w ∧ w.sg ≤ 2000 ∧ ∀ (p : Addr) (H' : Hp), Same H H' → H p = none → PlsAt H' p w → Q (.ref p) H'
theorem ok_places {C fI : Addr} (F : Fun K "places_in" "places_in" sPlaces f fd) (T : Bn mg) (Z : LayC K mg C fI) : FnOk P w K mg base CX0 1 f fd ["layout"] (spPlaces C) := by
  refine F.ok scPlaces (fun vs H Q E h => ?_) (fun cdv A outer s H vs Q E hr h => ?_)
  · obtain ⟨l, wr, rfl, _⟩ := h
    rfl
  obtain ⟨l, wr, rfl, ⟨g, e, b, a, d, dx, hl, ⟨ts, hg, hgl, hgt⟩, he, ⟨bs, hb, hbl, hbt⟩, ha, hd⟩, hn, q⟩ := h
  refine ⟨_, (pss_cons (ps_set (i := 1) scPlaces.nd rfl (.inl rfl) (pe_op op_rep (pe_lst (pa_cons (pe_tup pa_nil) pa_nil)) (pe_callB call_len_seq (by rfl) T.b_len (by decide +kernel) (pa_cons (pe_fld (pv 0) (by rfl)) pa_nil))))
      (pss_cons (ps_for PassesOwn.never rfl (pi_enum (by rfl) T.b_enumerate (pa_cons (pe_fld (pv 0) (by rfl)) pa_nil)) (pg_tup (by rfl) (pgs_cons (pg_name (i := 2) scPlaces.nd rfl (.inl rfl)) (pgs_cons (pg_name (i := 3) scPlaces.nd rfl (.inl rfl)) pgs_nil)))
        (pss_one (ps_for PassesOwn.never rfl (pi_enum (by rfl) T.b_enumerate (pa_cons (pv 3) pa_nil)) (pg_tup (by rfl) (pgs_cons (pg_name (i := 4) scPlaces.nd rfl (.inl rfl)) (pgs_cons (pg_name (i := 5) scPlaces.nd rfl (.inl rfl)) pgs_nil)))
          (pss_one (ps_asg (pe_op op_catA (pe_ix ix_list (pv 1) (pv 2) (fun _ _ => rfl)) (pe_tup (pa_cons (pv 4) pa_nil))) (pg_sub (pv 1) (pv 5) set_list))))))
      (pss_one (ps_ret (pv 1))))), ?_⟩
  have hn2 : (ts.map V.ref).length = wr.sg := by rw [List.length_map, hgl]
  refine ⟨(by show 0 ≤ sizeLine; exact Nat.zero_le _), fun t0 ht0 => ⟨(by show 1 ≤ sizeLine; decide), fun l0 hl0 => ?_⟩⟩
  have s0 : Same H (L2.upd (L2.upd H t0 (.tup [])) l0 (.lst [.ref t0])) := (same_new ht0).trans (same_new hl0)
  have h00 : (L2.upd (L2.upd H t0 (.tup [])) l0 (.lst [.ref t0])) t0 = some (.tup []) := (same_new hl0) _ _ upd_same
  refine ⟨_, rfl, l, C, dx, _, _, rfl, s0 _ _ hl, Z.cl, Z.nS, lay_signs g e b a d, g, _, rfl, .inl (SqL.of (s0 _ _ hg)), ?_⟩
  rw [hn2]
  refine ⟨_, _, _, rfl, rfl, upd_same, by omega, by omega, (by show 1 * ((wr.sg : Int)).toNat ≤ sizeLine; exact Nat.le_of_lt (small_le (by omega))), fun p hp => ?_⟩
  have p0 : H p = none := s0.free hp
  have np0 : p ≠ t0 := fun z => by rw [z, h00] at hp; cases hp
  have rep : (List.replicate ((wr.sg : Int)).toNat [V.ref t0]).flatten = (List.replicate wr.sg t0).map V.ref := by
    rw [Int.toNat_natCast, List.map_replicate]
    generalize wr.sg = n
    induction n with
    | zero => rfl
    | succ n ih => rw [List.replicate_succ, List.flatten_cons, ih, List.replicate_succ]; rfl
  rw [rep]
  have s1 : Same H (L2.upd (L2.upd (L2.upd H t0 (.tup [])) l0 (.lst [.ref t0])) p (.lst ((List.replicate wr.sg t0).map V.ref))) := s0.trans (same_new hp)
  have h01 := (same_new (o := .lst ((List.replicate wr.sg t0).map V.ref)) hp) _ _ h00
  have hp1 : (L2.upd (L2.upd (L2.upd H t0 (.tup [])) l0 (.lst [.ref t0])) p (.lst ((List.replicate wr.sg t0).map V.ref))) p = some (.lst ((List.replicate wr.sg t0).map V.ref)) := upd_same
  generalize L2.upd (L2.upd (L2.upd H t0 (.tup [])) l0 (.lst [.ref t0])) p (.lst ((List.replicate wr.sg t0).map V.ref)) = Ha at s1 h01 hp1 ⊢
  clear s0 h00 hp rep
  have hbn : (bs.map V.ref).length = wr.sg := by rw [List.length_map, hbl]
  refine ⟨_, rfl, l, C, dx, _, _, rfl, s1 _ _ hl, Z.cl, Z.nB, lay_below g e b a d, b, _, rfl, SqL.of (s1 _ _ hb), ?_⟩
  refine for_it (walk_enum (xs := bs.map V.ref)) (fun k σ G => ∃ (as : List Addr) (v2 v3 v4 v5 : Option V), σ = [some (.ref l), some (.ref p), v2, v3, v4, v5] ∧ Same H G ∧ G p = some (.lst (as.map V.ref)) ∧ as.length = wr.sg ∧
    (∀ a, as[0]? = some a → PlaceT G a []) ∧ ∀ (i : Nat) (s : Wr) (st d : Nat) (a : Addr), i < k → wr.subs[i]? = some s → s.kids[st]? = some d → as[i + d]? = some a → PlaceT G a (wr.path (i + d))) ?_ ?_ ?_ ?_
  · refine ⟨_, none, none, none, none, rfl, s1, hp1, List.length_replicate, fun a h => ?_, fun i s st d a h => absurd h (Nat.not_lt_zero i)⟩
    have e := List.eq_of_mem_replicate (List.mem_of_getElem? h)
    rw [e]
    exact h01
  · rintro i σ G _ ⟨as, v2, v3, v4, v5, rfl, s2, _⟩
    exact SqL.of (s2 _ _ hb)
  · rintro k x σ G G3 hk ⟨as, v2, v3, v4, v5, rfl, s2, hpG, hal, has0, has⟩ ⟨tp, y1, y2, rfl, htp, rfl, e1, e2⟩
    cases e1
    rw [hbn] at hk
    obtain ⟨s, hs⟩ := wr_get wr hk
    have e2 : (bs.map V.ref)[k]? = some y2 := e2
    rw [List.getElem?_map] at e2
    obtain ⟨bk, hbk1, rfl⟩ := Option.map_eq_some_iff.mp e2
    have hbk2 := hbt k s bk hs hbk1
    have ntp : p ≠ tp := ne_of_none hpG htp
    have x3 := new_same (o := .tup [.int ((k : Nat) : Int), .ref bk]) htp
    have s3 := s2.trans x3
    obtain ⟨ak, hak⟩ : ∃ ak, as[k]? = some ak := get_lt (by rw [hal]; exact hk)
    have hkp : PlaceT G ak (wr.path k) := by
      rcases Nat.eq_zero_or_pos k with rfl | pos
      · rw [Wr.path_zero]
        exact has0 ak hak
      · obtain ⟨j, s', d', hj, hs', hd', rfl⟩ := Wr.has_par pos hk
        obtain ⟨st, hst⟩ := List.mem_iff_getElem?.mp hd'
        exact has j s' st d' ak hj hs' hst hak
    refine ⟨tp, _, rfl, SqT.of upd_same, rfl, _, _, rfl, _, _, rfl, rfl, ?_⟩
    refine ⟨_, rfl, bk, _, rfl, SqL.of (s3 _ _ hbk2), ?_⟩
    refine for_it (walk_enum (xs := kidV k s)) (fun t σ G4 => ∃ (as : List Addr) (v4 v5 : Option V), σ = [some (.ref l), some (.ref p), some (.int (k : Int)), some (.ref bk), v4, v5] ∧ Same H G4 ∧ G4 p = some (.lst (as.map V.ref)) ∧ as.length = wr.sg ∧ (∃ ak, as[k]? = some ak ∧ PlaceT G4 ak (wr.path k)) ∧
      (∀ a, as[0]? = some a → PlaceT G4 a []) ∧ (∀ (i : Nat) (s : Wr) (st d : Nat) (a : Addr), i < k → wr.subs[i]? = some s → s.kids[st]? = some d → as[i + d]? = some a → PlaceT G4 a (wr.path (i + d))) ∧
      ∀ (st d : Nat) (a : Addr), st < t → s.kids[st]? = some d → as[k + d]? = some a → PlaceT G4 a (wr.path (k + d))) ?_ ?_ ?_ ?_
    · exact ⟨as, v4, v5, rfl, s3, x3 _ _ hpG, hal, ⟨ak, hak, x3 _ _ hkp⟩, fun a h => x3 _ _ (has0 a h), fun i s st d a h1 h2 h3 h4 => x3 _ _ (has i s st d a h1 h2 h3 h4), fun st d a h => absurd h (Nat.not_lt_zero st)⟩
    · rintro t σ G4 _ ⟨as, v4, v5, rfl, s4, _⟩
      exact SqL.of (s4 _ _ hbk2)
    · rintro t x σ G4 G5 ht ⟨as, v4, v5, rfl, s4, hp4, hal4, ⟨ak, hak, hkp⟩, has0, has, hast⟩ ⟨tq, z1, z2, rfl, htq, rfl, e1, e2⟩
      cases e1
      have e2 : (s.kids.map fun k2 => V.int ((k + k2 : Nat) : Int))[t]? = some z2 := e2
      rw [List.getElem?_map] at e2
      obtain ⟨d', hd', rfl⟩ := Option.map_eq_some_iff.mp e2
      have x5 := new_same (o := .tup [.int ((t : Nat) : Int), .int ((k + d' : Nat) : Int)]) htq
      have ntq : p ≠ tq := ne_of_none hp4 htq
      have kd : k + d' < wr.sg := by
        have f := Wr.subs_fit hs
        have := (Wr.pths_kid (e := []) hd').1
        omega
      have long := Wr.path_len hk
      refine ⟨tq, _, rfl, SqT.of upd_same, rfl, _, _, rfl, _, _, rfl, rfl, ?_⟩
      refine ⟨_, rfl, _, rfl, p, _, _, .ref ak, rfl, rfl, SqL.of (x5 _ _ hp4), atI_nat (j := k) (by rw [List.getElem?_map, hak]; rfl), _, rfl, (by show 1 ≤ sizeLine; decide), fun tt htt => ?_⟩
      have x6 := x5.trans (new_same (o := .tup [.int ((t : Nat) : Int)]) htt)
      have hkp6 := x6 _ _ hkp
      refine ⟨ak, tt, _, _, rfl, rfl, SqT.of hkp6, SqT.of upd_same, by rw [List.length_map, sizeLine_eq]; show _ + 1 ≤ _; omega, fun e => ?_, fun _ e => absurd e (List.cons_ne_nil _ _), fun _ _ a' ha' => ?_⟩
      focus
        have e3 : wr.path k = [] := List.map_eq_nil_iff.mp e
        have new : PlaceT (L2.upd (L2.upd G4 tq (.tup [.int ((t : Nat) : Int), .int ((k + d' : Nat) : Int)])) tt (.tup [.int ((t : Nat) : Int)])) tt (wr.path (k + d')) := by
          unfold PlaceT
          rw [Wr.path_kid hs hd', e3, upd_same]
          rfl
        generalize L2.upd (L2.upd G4 tq (.tup [.int ((t : Nat) : Int), .int ((k + d' : Nat) : Int)])) tt (.tup [.int ((t : Nat) : Int)]) = G6 at x6 new ⊢
        generalize tt = a' at new ⊢
      rotate_left
      focus
        have x7 := x6.trans (new_same (o := .tup ((wr.path k).map (fun n => V.int ((n : Nat) : Int)) ++ [.int ((t : Nat) : Int)])) ha')
        have new : PlaceT (L2.upd (L2.upd (L2.upd G4 tq (.tup [.int ((t : Nat) : Int), .int ((k + d' : Nat) : Int)])) tt (.tup [.int ((t : Nat) : Int)])) a' (.tup ((wr.path k).map (fun n => V.int ((n : Nat) : Int)) ++ [.int ((t : Nat) : Int)]))) a' (wr.path (k + d')) := by
          unfold PlaceT
          rw [Wr.path_kid hs hd', List.map_append, upd_same]
          rfl
        clear x6 hkp6
        have x6 := x7
        clear x7
        generalize L2.upd (L2.upd (L2.upd G4 tq (.tup [.int ((t : Nat) : Int), .int ((k + d' : Nat) : Int)])) tt (.tup [.int ((t : Nat) : Int)])) a' (.tup ((wr.path k).map (fun n => V.int ((n : Nat) : Int)) ++ [.int ((t : Nat) : Int)])) = G6 at x6 new ⊢
      all_goals
        have hp6 := x6 _ _ hp4
        have keepP : ∀ {c : Addr} {ns : List Nat} {o : HO}, PlaceT G6 c ns → PlaceT (L2.upd G6 p o) c ns := fun {c ns o} h => by
          unfold PlaceT at h ⊢
          rw [upd_ne (ne_of h hp6 (by intro z; cases z))]
          exact h
        have ones : ∀ {i : Nat} {c : Addr}, (as.set (k + d') a')[i]? = some c → (i = k + d' ∧ c = a') ∨ as[i]? = some c := fun {i c} h => by
          by_cases e : k + d' = i
          · rw [← e, List.getElem?_set_self (by omega)] at h
            exact .inl ⟨e.symm, (Option.some.inj h).symm⟩
          · rw [List.getElem?_set_ne e] at h
            exact .inr h
        have s6 := s4.trans x6
        refine ⟨_, rfl, _, rfl, p, _, _, k + d', rfl, rfl, hp6, ixN_of (by rw [List.length_map]; omega), ?_⟩
        refine ⟨as.set (k + d') a', _, _, rfl, same_put s6 p0, by rw [upd_same, List.map_set], by rw [List.length_set]; exact hal4, ?_, fun c h => ?_, fun i s2 st d2 c h1 h2 h3 h4 => ?_, fun st d2 c h1 h2 h3 => ?_⟩
        · obtain ⟨c, hc⟩ : ∃ c, (as.set (k + d') a')[k]? = some c := get_lt (by rw [List.length_set, hal4]; exact hk)
          refine ⟨c, hc, keepP ?_⟩
          rcases ones hc with ⟨e, rfl⟩ | h
          · rw [e]; exact new
          · rw [hak] at h; cases h; exact x6 _ _ hkp
        · refine keepP ?_
          rcases ones h with ⟨e, rfl⟩ | h
          · rw [← e, Wr.path_zero] at new; exact new
          · exact x6 _ _ (has0 c h)
        · refine keepP ?_
          rcases ones h4 with ⟨e, rfl⟩ | h
          · rw [e]; exact new
          · exact x6 _ _ (has i s2 st d2 c h1 h2 h3 h)
        · refine keepP ?_
          rcases Nat.lt_or_ge st t with lt | ge
          · rcases ones h3 with ⟨e, rfl⟩ | h
            · rw [e]; exact new
            · exact x6 _ _ (hast st d2 c lt h2 h)
          · obtain rfl : st = t := by omega
            rw [hd'] at h2
            cases h2
            rw [List.getElem?_set_self (by omega)] at h3
            cases h3
            exact new
    rintro σ G4 ⟨as, v4, v5, rfl, s4, hp4, hal4, _, has0, has, hast⟩
    refine ⟨as, _, _, v4, v5, rfl, s4, hp4, hal4, has0, fun i s' st d a h1 h2 h3 h4 => ?_⟩
    rcases Nat.lt_or_ge i k with c | c
    · exact has i s' st d a c h2 h3 h4
    · obtain rfl : i = k := by omega
      rw [hs] at h2
      cases h2
      exact hast st d a (by unfold kidV; rw [List.length_map]; exact lt_get h3) h3 h4
  · rintro σ G ⟨as, v2, v3, v4, v5, rfl, s2, hpG, hal, has0, has⟩
    rw [hbn] at has
    refine ⟨_, rfl, q p G s2 p0 ⟨as, hpG, hal, fun i a h => ?_⟩⟩
    have hi : i < wr.sg := by rw [← hal]; exact lt_get h
    rcases Nat.eq_zero_or_pos i with rfl | pos
    · rw [Wr.path_zero]
      exact has0 a h
    · obtain ⟨j, s', d', hj, hs', hd', rfl⟩ := Wr.has_par pos hi
      obtain ⟨st, hst⟩ := List.mem_iff_getElem?.mp hd'
      exact has j s' st d' a (by omega) hs' hst h
theorem paired_join {α β : Type} {R : α → β → Prop} : ∀ {xs xs' : List α} {ys ys' : List β}, Paired R xs ys → Paired R xs' ys' → Paired R (xs ++ xs') (ys ++ ys')
  | _, _, _, _, .nil, h => h
  | _, _, _, _, .cons a t, h => .cons a (paired_join t h)
/-- the places of the steps, in the signs' order -/
def stepsL (w : Wr) : List (List Nat) := ((List.range w.sg).filter fun i => match w.subs[i]? with | some s => stepP s | none => false).map w.path
def TupsN (H : Hp) (as : List Addr) (ps : List (List Nat)) : Prop := Paired (fun a ns => PlaceT H a ns) as ps
def spSteps (K : PySem.W.Frag) : Sp := fun vs H Q _ => ∃ (v : V) (d : PyData) (w : Wr), vs = [v] ∧ Dp K H v d ∧ Tells d w ∧ w.all okN = true ∧ w.sg ≤ 2000 ∧
  ∀ (t : Addr) (as : List Addr) (H' : Hp), Same H H' → SqT K H' t (as.map V.ref) → TupsN H' as (stepsL w) → Q (.ref t) H'
theorem ok_steps {C fI : Addr} (F : Fun K "steps_of" "steps_of" sSteps f fd) (T : Bn mg) (Z : LayC K mg C fI) (D_laid_out : Df K mg "laid_out" sLaid f1 fd1 ["value", "part"]) (G_laid_out : FnOk P w K mg base CX0 5 f1 fd1 ["value", "part"] (spLaid K C))
    (D_places_in : Df K mg "places_in" sPlaces f2 fd2 ["layout"]) (G_places_in : FnOk P w K mg base CX0 1 f2 fd2 ["layout"] (spPlaces C))
    (D_is_step : Df K mg "is_step" sIsStep f3 fd3 ["layout", "at"]) (G_is_step : FnOk P w K mg base CX0 1 f3 fd3 ["layout", "at"] (spIsStep C)) : FnOk P w K mg base CX0 6 f fd ["writing"] (spSteps K) := by
  refine F.ok scSteps (fun vs H Q E h => ?_) (fun cdv A outer s H vs Q E hr h => ?_)
  · obtain ⟨v, d, wr, rfl, _⟩ := h
    rfl
  obtain ⟨v, d, wr, rfl, hd, ht, hok, hn, q⟩ := h
  refine ⟨_, (pss_cons (ps_set (i := 1) scSteps.nd rfl (.inr rfl) (pe_cd D_laid_out G_laid_out hr (by decide) (pa_cons (pv 0) (pa_cons pe_str pa_nil))))
      (pss_one (ps_ret (pe_callTy call_tuple_of (by rfl) T.b_tuple (by decide +kernel) (pa_cons (pe_lc (own := [("at", 2), ("place", 3)]) (g := (gTup K 2 (gCons (gName 2) (gCons (gName 3) gNil)))) (by rfl) scSteps.nd (pi_enum (by rfl) T.b_enumerate (pa_cons (pe_cd D_places_in G_places_in hr (by decide) (pa_cons (pv 1) pa_nil)) pa_nil)) (blkOk_by (own := [("at", 2), ("place", 3)]) (N := ["writing", "layout", "at", "place"]) (sc := defScope sSteps) (by decide +kernel)) (fun _ _ _ _ _ => (pg_tup (by rfl) (pgs_cons (pg_name (i := 2) scSteps.nd rfl (.inl rfl)) (pgs_cons (pg_name (i := 3) scSteps.nd rfl (.inl rfl)) pgs_nil)))) (fun _ _ _ _ _ => (pts_one (pt_val (pe_cd D_is_step G_is_step hr (by decide) (pa_cons (pv 1) (pa_cons (pv 2) pa_nil)))))) (fun _ _ _ _ _ => (pv 3))) pa_nil))))), ?_⟩
  refine ⟨_, rfl, v, _, d, wr, rfl, hd, ht, hok, hn, fun l H1 s1 hL => ?_⟩
  refine ⟨_, rfl, l, wr, rfl, hL, hn, fun p H2 s2 _ hP => ?_⟩
  obtain ⟨as, hp, hal, has⟩ := hP
  have hL2 := hL.same s2
  have hn2 : (as.map V.ref).length = wr.sg := by rw [List.length_map, hal]
  obtain ⟨sp, hsp⟩ : ∃ sp : Nat → Bool, sp = fun i => match wr.subs[i]? with | some s => stepP s | none => false := ⟨_, rfl⟩
  refine ⟨p, _, rfl, SqL.of hp, fun D hD => ?_⟩
  refine lc_it (walk_enum (xs := as.map V.ref)) (fun i G => Same H2 G ∧ ∃ bs : List Addr, G D = some (.lst (bs.map V.ref)) ∧ bs.length ≤ i ∧ Paired (fun a ns => PlaceT H2 a ns) bs (((List.range i).filter sp).map wr.path)) ?_ ?_ ?_ ?_
  · exact ⟨same_new hD, [], upd_same, Nat.le_refl _, .nil⟩
  · rintro i G _ ⟨s3, _⟩
    exact SqL.of (s3 _ _ hp)
  · rintro i x G G3 hi ⟨s3, bs, hDG, hbl, hbs⟩ ⟨tp, y1, y2, rfl, htp, rfl, e1, e2⟩
    cases e1
    rw [hn2] at hi
    obtain ⟨s', hs'⟩ := wr_get wr hi
    have e2 : (as.map V.ref)[i]? = some y2 := e2
    rw [List.getElem?_map] at e2
    obtain ⟨a, ha, rfl⟩ := Option.map_eq_some_iff.mp e2
    have x4 := new_same (o := .tup [.int ((i : Nat) : Int), .ref a]) htp
    have nDt : D ≠ tp := ne_of_none hDG htp
    have es : sp i = stepP s' := by rw [hsp]; show (match wr.subs[i]? with | some s => stepP s | none => false) = _; rw [hs']
    refine ⟨tp, _, rfl, SqT.of upd_same, rfl, _, _, rfl, _, _, rfl, rfl, ?_⟩
    have hDG4 : (L2.upd G tp (.tup [.int ((i : Nat) : Int), .ref a])) D = some (.lst (bs.map V.ref)) := by rw [upd_ne nDt]; exact hDG
    have s34 := s3.trans x4
    refine ⟨rfl, _, rfl, _, rfl, l, wr, s', i, rfl, hL2.same s34, hs', ⟨_, rfl, ?_⟩⟩
    by_cases c : stepP s' = true
    · rw [c]
      refine iteT ⟨_, rfl, _, hDG4, by rw [List.length_map]; exact small_le (by omega), same_put s34 hD, bs ++ [a], by rw [upd_same, List.map_append]; rfl, by rw [List.length_append]; show _ + 1 ≤ _; omega, ?_⟩
      rw [List.range_succ, List.filter_append, List.filter_cons_of_pos (by rw [es]; exact c), List.map_append]
      exact paired_join hbs (.cons (has i a ha) .nil)
    · have c2 : stepP s' = false := by cases z : stepP s' with | true => exact absurd z c | false => rfl
      rw [c2]
      refine iteF ⟨s34, bs, hDG4, by omega, ?_⟩
      rw [List.range_succ, List.filter_append, List.filter_cons_of_neg (by rw [es]; exact c)]
      simpa using hbs
  rintro G ⟨s3, bs, hDG, hbl, hbs⟩
  rw [hn2] at hbs
  refine ⟨D, _, rfl, .inl ⟨SqL.of hDG, fun t ht => ?_⟩⟩
  have x4 := s3.trans (new_same (o := .tup (bs.map V.ref)) ht)
  refine q t bs _ (s1.trans (s2.trans x4)) (SqT.of upd_same) (paired_imp (fun _ _ h => x4 _ _ h) ?_)
  rw [hsp] at hbs
  exact hbs
def plD (ns : List Nat) : PyData := .tuple (ns.map fun n => PyData.int ((n : Nat) : Int))
def plsD (ps : List (List Nat)) : PyData := .tuple (ps.map plD)
theorem place_dp {H : Hp} {a : Addr} {ns : List Nat} (h : PlaceT H a ns) : Dp K H (.ref a) (plD ns) := by
  refine .tup (SqT.of h) ?_
  clear h
  induction ns with
  | nil => exact .nil
  | cons n ns ih => exact .cons (.int _) ih
theorem places_dp {H : Hp} {t : Addr} {as : List Addr} {ps : List (List Nat)} (h : SqT K H t (as.map V.ref)) (k : TupsN H as ps) : Dp K H (.ref t) (plsD ps) := by
  refine .tup h ?_
  clear h
  unfold TupsN at k
  induction k with
  | nil => exact .nil
  | cons a _ ih => exact .cons (place_dp a) ih
theorem pl_lay (ns : List Nat) : (plD ns).canLay0 = true ∧ (plD ns).depth ≤ 1 := by
  unfold plD
  induction ns with
  | nil => exact ⟨rfl, Nat.le_refl _⟩
  | cons n ns ih =>
    obtain ⟨i1, i2⟩ := ih
    refine ⟨i1, ?_⟩
    exact i2
theorem pls_lay (ps : List (List Nat)) : (plsD ps).canLay0 = true ∧ (plsD ps).depth ≤ 2 := by
  unfold plsD
  induction ps with
  | nil => exact ⟨rfl, by decide⟩
  | cons ns ps ih =>
    obtain ⟨i1, i2⟩ := ih
    obtain ⟨j1, j2⟩ := pl_lay ns
    refine ⟨?_, ?_⟩
    · show ((plD ns).canLay0 && PyData.canLayAll0 (ps.map plD)) = true
      rw [j1]
      exact i1
    · have i3 : PyData.depthAll (ps.map plD) + 1 ≤ 2 := i2
      show max (plD ns).depth (PyData.depthAll (ps.map plD)) + 1 ≤ 2
      omega
theorem pls_shaped (ps : List (List Nat)) : SeqAt.shaped (plsD ps) = true := by
  obtain ⟨h1, h2⟩ := pls_lay ps
  unfold SeqAt.shaped
  rw [h1, decide_eq_true (by omega : (plsD ps).depth ≤ 64)]
  rfl
def spPlain (K : PySem.W.Frag) : Sp := fun vs H Q _ => ∃ (v : V) (d : PyData) (w : Wr), vs = [v] ∧ Dp K H v d ∧ Tells d w ∧ w.all okN = true ∧ w.sg ≤ 2000 ∧ ∀ (H' : Hp), Same H H' → Q (.bl (decide (stepsL w = []))) H'
theorem ok_plain (F : Fun K "is_plain" "is_plain" sPlain f fd) (T : Bn mg) (D_steps_of : Df K mg "steps_of" sSteps f1 fd1 ["writing"]) (G_steps_of : FnOk P w K mg base CX0 6 f1 fd1 ["writing"] (spSteps K)) : FnOk P w K mg base CX0 7 f fd ["writing"] (spPlain K) := by
  refine F.ok scPlain (fun vs H Q E h => ?_) (fun cdv A outer s H vs Q E hr h => ?_)
  · obtain ⟨v, d, wr, rfl, _⟩ := h
    rfl
  obtain ⟨v, d, wr, rfl, hd, ht, hok, hn, q⟩ := h
  refine ⟨_, (pss_one (ps_ret (pe_cmpR (op_eqD hr.units) (pe_cd D_steps_of G_steps_of hr (by decide) (pa_cons (pv 0) pa_nil)) (pe_tup pa_nil) (nomark _)))), ?_⟩
  refine ⟨_, rfl, v, _, wr, rfl, hd, ht, hok, hn, fun t as H1 s1 hT hP => ⟨(by show 0 ≤ sizeLine; exact Nat.zero_le _), fun e he => ?_⟩⟩
  have x2 := new_same (o := .tup []) he
  refine ⟨_, _, places_dp (sqT_same hT x2) (paired_imp (fun _ _ h => x2 _ _ h) hP), .tup (SqT.of upd_same) .nil, pls_shaped _, rfl, ?_⟩
  rw [show PyData.eqv (plsD (stepsL wr)) (.tuple []) = decide (stepsL wr = []) from by cases stepsL wr <;> rfl]
  exact q _ (s1.trans x2)
end
end TF18
/-! own rules: the sum of a tuple, enumerate of a tuple, zip of tuples as a walk; one of two readings -/
namespace TG
open PySem PySem.Spec L2
open PyProof.Rows hiding St
section
variable {X : Cx}
/-- sum(t), t a tuple of ints -/
def rSumT (K : PySem.W.Frag) : List V → Hp → VK → Prop := fun vs H Q => ∃ (t : Addr) (ns : List Int), vs = [V.ref t] ∧ SqT K H t (ns.map V.int) ∧ Q (.int ns.sum) H
theorem cr_sumT (hc : X.calm = true) : CallR X (.builtin "sum") (rSumT X.K) := by
  intro pins s σ H vs us Q I r h
  obtain ⟨t, ns, rfl, ht, q⟩ := h
  obtain ⟨its, rv, it, _⟩ := I.tuple ht
  cases Vals.ref1 r
  obtain ⟨xs, e⟩ := rv.ints.allInts.items
  have hn := rv.ints.numsOf
  rw [e] at it
  refine PySem.W.ktm_sumG (I.ok.hd hc) it fun h' tk t' k => ⟨.int ns.sum, H, I.kept k, ⟨t', ?_⟩, q⟩
  have e2 : numsOf (intItems xs).toList = ns := by
    rw [← e]
    exact hn
  rw [nums_intItems] at e2
  rw [preSum_eq, List.take_of_length_le (by simp), e2]
end
/-! ### enumerate(tuple) -/
theorem meets_enum1 {v : Value} {o : Obj} {G : Heap → Prop} (B : Begins v o G) :
    Meets (Builtin.«enumerate.__new__» ⟨[.type "enumerate", v], []⟩) (fun _ R s => G s.heap ∧
      R (.ok (.ret (.ref (s.heap.push o).objs.size))) { s with heap := (s.heap.push o).push { cls := .type "enumerate", data := .fields #[.none, .bool false, .ref s.heap.objs.size, rawInt 0, .none, .none] } }) := by
  refine .of_wp fun prog w A R s h => ?_
  obtain ⟨hp, g, d, tk, os⟩ := s
  obtain ⟨g1, h⟩ := h
  have hsub := sub_enumerate
  have step : ∀ {A2 : Around} {E : Value → Shared → Prop} {Q : Value → Shared → Prop}, Q (.ref hp.objs.size) ⟨hp.push o, g, d, tk, os⟩ → wpAny (model prog w) A2 (pyIter v) Q E ⟨hp, g, d, tk, os⟩ := by
    intro A2 E Q q
    exact B.iter prog w _ _ ⟨hp, g, d, tk, os⟩ _ g1 q
  wp_walk using step
  refine wpAny_stack_any fun st => wpAny_pure ?_
  split
  · rename_i c _ _ _ _ _
    by_cases e : (c == Value.type "enumerate") = true
    all_goals
      simp only [e]
      wp_walk using step
      exact ⟨_, rfl, h⟩
  · wp_walk using step
    exact ⟨_, rfl, h⟩
section
variable {prog : Program} {w : World} {A : Around} {E : Value → Shared → Prop} {s : Shared}
theorem call_enum1 {v : Value} {o : Obj} {G : Heap → Prop} {Q : Value → Shared → Prop} (B : Begins v o G) (g1 : G s.heap)
    (h : ∀ h2, IsEnum h2 (s.heap.objs.size + 1) s.heap.objs.size 0 .none → h2.get? s.heap.objs.size = some o → (∀ b u, s.heap.get? b = some u → h2.get? b = some u) → Q (.ref (s.heap.objs.size + 1)) { s with heap := h2 }) :
    wpAny (model prog w) A (call (.type "enumerate") [v]) Q E s := by
  have hz : (s.heap.push o).objs.size = s.heap.objs.size + 1 := Heap.size_push ..
  refine callType_new F.called_enumerate (by decide) (F.typeCall_enumerate_1 v) (F.newCall_enumerate_1 v) (fun x => F.args_object_init_2 x v) F.entry_enumerate_new (meets_enum1 B) ⟨g1, ?_⟩
  have at1 : ((s.heap.push o).push { cls := .type "enumerate", data := .fields #[.none, .bool false, .ref s.heap.objs.size, rawInt 0, .none, .none] }).get? (s.heap.push o).objs.size = some { cls := .type "enumerate", data := .fields #[.none, .bool false, .ref s.heap.objs.size, rawInt 0, .none, .none] } :=
    Heap.get?_push_size _ rfl
  rw [hz] at at1
  show _ ∧ _
  rw [hz]
  exact ⟨⟨_, at1, rfl⟩, h _ at1 (Heap.get?_push_of_some _ (Heap.get?_push_size _ B.free)) fun b u e => Heap.get?_push_of_some _ (Heap.get?_push_of_some _ e)⟩
end
/-- the tuple at a as it stands at each turn, each item in a new pair -/
def IteT (K : PySem.W.Frag) (a : Addr) : It :=
  ⟨fun i H => ∃ (xs : List V) (x : V), SqT K H a xs ∧ xs[i]? = some x,
   fun i H v H' => ∃ T x, v = .ref T ∧ H T = none ∧ H' = upd H T (.tup [.int (i : Nat), x]) ∧ ∀ xs, SqT K H a xs → xs[i]? = some x,
   fun i H => ∃ xs : List V, SqT K H a xs ∧ xs.length ≤ i⟩
theorem turn_enumT {P : Program} {w : World} {K : PySem.W.Frag} {elts : List Expr} {kk : Nat} {tpos : Pos} (a e it : Addr) :
    Turn P w K (.Tuple elts kk tpos) (IteT K a) [e, it] e (fun i h => (∃ old, IsEnum h e it ((i : Nat) : Int) old) ∧ h.IsTupleIter it a i ∧ e ≠ it) := by
  refine ⟨by simp, fun i h st b hb => ?_, fun i h h2 st k => ?_, ?_, ?_, ?_⟩
  · obtain ⟨⟨old, he⟩, ⟨o, ho, _, hd⟩, _⟩ := st
    rcases List.mem_cons.mp hb with rfl | hb
    · exact ⟨_, he, fun v q => nomatch q⟩
    · cases List.mem_singleton.mp hb
      exact ⟨o, ho, fun v q => nomatch hd.symm.trans q⟩
  · obtain ⟨⟨old, he⟩, hi, ne⟩ := st
    exact ⟨⟨old, k e List.mem_cons_self _ he⟩, hi.at fun o q => k it (by simp) o q, ne⟩
  · intro X hP hw hK hc i pins s σ H E I hf st hg
    cases hP; cases hw; cases hK
    obtain ⟨⟨old, he⟩, hit, ne⟩ := st
    obtain ⟨xs, x, hq, hx⟩ := hg
    obtain ⟨its, rv, tp, _⟩ := I.tuple hq
    obtain ⟨u, hu, ru⟩ := rv.get hx
    have le : e < s.heap.objs.size := Heap.lt_size he
    have li : it < s.heap.objs.size := let ⟨_, q, _⟩ := hit; Heap.lt_size q
    have ae : e ∉ [it, a] := by
      intro z
      rcases List.mem_cons.mp z with z | z
      · exact ne z
      · cases List.mem_singleton.mp z
        obtain ⟨o, ho, hcl, _⟩ := id tp
        have z2 := he.symm.trans ho
        cases z2
        exact nomatch (show Value.type "enumerate" = Value.type "tuple" from hcl)
    have ai : a ≠ it := by
      intro z
      subst z
      obtain ⟨o, ho, hcl, _⟩ := id tp
      obtain ⟨o2, ho2, hcl2, _⟩ := id hit
      have z2 := ho.symm.trans ho2
      cases z2
      exact nomatch (show Value.type "tuple" = Value.type "tuple_iterator" from hcl.symm.trans hcl2)
    have hI : its.toArray[i]? = some u := by simpa using hu
    have hlt : i < its.toArray.size := (Array.getElem?_eq_some_iff.mp hI).1
    refine wpAny_pyNext_enum_itemD (Draws.tuple (A := X.A.in1) (by simpa using I.ok.hd hc) it a ai its.toArray) he ⟨hit, tp⟩ hlt ne ae fun y h2 tk hy ho st2 hT _ hk => ?_
    cases Option.some.inj (hI.symm.trans hy)
    refine ⟨_, rfl, wpAny_letOwnedTupleGo_enum (s := { s with heap := h2, toks := tk + 1 }) ho fun h3 he3 sb => ?_⟩
    have hT3 : h3.get? s.heap.objs.size = some { cls := .type "tuple", data := .seq #[.int i tk, u] } := (sb.2 _ (Nat.ne_of_gt le)).trans hT
    have fresh := I.hok.fresh (Nat.le_refl s.heap.objs.size)
    have I1 : Inv X pins σ (upd H s.heap.objs.size (.tup [.int (i : Nat), x])) { s with heap := h3, toks := tk + 1 } := by
      refine I.turnedNew (ch := [e, it]) (fun b ob hb q => ?_) hf (Nat.le_refl _) ⟨by show 2 ≤ sizeLine; decide, [.int i tk, u], .cons ⟨_, rfl⟩ (.cons ru .nil), ⟨_, hT3, rfl, _, rfl⟩⟩
      have b1 : b ≠ e := fun z => hb (by simp [z])
      have b2 : b ≠ it := fun z => hb (by simp [z])
      exact (sb.2 b b1).trans (hk b ob b1 b2 q)
    refine ⟨.ref s.heap.objs.size, _, I1, rfl, ⟨_, x, rfl, fresh, rfl, fun ys hy => by rw [I.tuple_inj hy hq]; exact hx⟩, ⟨⟨u, by simpa using he3⟩, st2.1.at fun o q => (sb.2 it (Ne.symm ne)).trans q, ne⟩, fun b hb => ?_⟩
    have lb : b < s.heap.objs.size := by
      rcases List.mem_cons.mp hb with rfl | hb
      · exact le
      · cases List.mem_singleton.mp hb
        exact li
    rw [upd_ne (Nat.ne_of_lt lb)]
    exact (hf b hb).1
  · intro X hP hw hK hc i pins s σ H E I hf st hg
    cases hP; cases hw; cases hK
    obtain ⟨⟨old, he⟩, hit, ne⟩ := st
    obtain ⟨xs, hq, hx⟩ := hg
    obtain ⟨its, rv, tp, _⟩ := I.tuple hq
    have ai : a ≠ it := by
      intro z
      subst z
      obtain ⟨o, ho, hcl, _⟩ := id tp
      obtain ⟨o2, ho2, hcl2, _⟩ := id hit
      have z2 := ho.symm.trans ho2
      cases z2
      exact nomatch (show Value.type "tuple" = Value.type "tuple_iterator" from hcl.symm.trans hcl2)
    obtain ⟨f0, f1, f2, f3, f4, f5⟩ := hf it (by simp)
    have hl := rv.length
    have hT : s.TypeIs (.ref e) "enumerate" := ⟨_, he, rfl⟩
    unfold pyNext
    refine wpAny_bind (wpAny_attempt (wpAny_callSpecial?_slot (name := Str.ofString "__next__") hT F.slot_enumerate_next (wpAny_call_entry F.slot_enumerate_next hT F.entry_enumerate_next ?_ (F.args_enumerate_next_1 _))))
    show wpAny _ _ (field (.ref e) 2 >>= _) _ _ _
    refine wpAny_bind (wpAny_field he rfl (x := .ref it) rfl ?_)
    refine wpAny_bind (wpAny_nextOf_tuple_end (by simpa using I.ok.hd hc) hit tp (by simp; omega) fun h2 x ex hx2 => ?_)
    obtain ⟨o, ho, hcl⟩ := hx2
    refine wpAny_bind (wpAny_isInstance (T := "StopIteration") (b := true) ⟨o, ho, hcl⟩ isSubtype_stop ?_)
    exact wpAny_pure ⟨rfl, I.turned (t' := s.toks) (fun b u hb q => ex b u hb q) f0 f1 f3 f4 f5⟩
  · intro A i s Q E st h
    obtain ⟨⟨_, he⟩, _⟩ := st
    exact wpAny_pyIter_enum he h
def iEnumT (K : PySem.W.Frag) (ta : L2.TA) : TI := fun σ H R => ta σ H fun vs H1 => ∃ a xs, vs = [.ref a] ∧ SqT K H1 a xs ∧ R (IteT K a) H1
theorem pi_enumT {X : Cx} {e : Expr} {ta : L2.TA} {p pos tpos : Pos} {elts : List Expr} {kk : Nat} (hg : Gl X "enumerate") (hm : X.mg "enumerate" = none) (ha : PA X [e] ta) (hs : starEach [e] X.env = [(false, eval e X.env)] := by rfl) :
    PI X (.Tuple elts kk tpos) (.Call (.Name "enumerate" p) [e] [] pos) (iEnumT X.K ta) := by
  refine ⟨fun pins s σ H R I h => Call_ (ld_blt I hg hm boot_enumerate (PyProof.Rows.callWith_type1 (thn (ha.run pos pins s σ H _ I h) fun us s1 ⟨vs, H1, I1, r1, q1⟩ => ?_) hs rfl))⟩
  obtain ⟨a, xs, rfl, hq, q⟩ := q1
  cases Vals.ref1 r1
  obtain ⟨its, rv, tp, _⟩ := I1.tuple hq
  refine call_enum1 (begins_tuple a its.toArray) tp fun h2 he hit hk => wpAny_pyIter_enum he ?_
  have I2 : Inv X pins σ H1 { s1 with heap := h2 } := I1.kept (t' := s1.toks) hk
  refine ⟨s1.heap.objs.size + 1, [s1.heap.objs.size + 1, s1.heap.objs.size], _, _, H1, rfl, I2, turn_enumT a (s1.heap.objs.size + 1) s1.heap.objs.size, ⟨⟨.none, he⟩, ⟨_, hit, rfl, rfl⟩, Nat.succ_ne_self _⟩, fun b hb => ?_, q⟩
  have lb : s1.heap.objs.size ≤ b := by
    rcases List.mem_cons.mp hb with rfl | hb
    · omega
    · cases List.mem_singleton.mp hb
      exact Nat.le_refl _
  exact I1.fpOk lb (I1.hok.fresh lb)
section
variable {K : PySem.W.Frag} {a b : Addr} {xs ys : List V}
theorem walk_enumT : Walk (IteT K a) xs.length (fun H => SqT K H a xs) (YPair (fun i => some (.int (i : Nat))) (fun i => xs[i]?)) := by
  constructor
  · exact fun i _ hi q => ⟨xs, xs[i], q, by simp [hi]⟩
  · exact fun _ q => ⟨xs, q, Nat.le_refl _⟩
  · rintro i H v H' _ q ⟨T, x, h1, h2, h3, h4⟩
    exact ⟨T, .int (i : Nat), x, h1, h2, h3, rfl, h4 xs q⟩
theorem walk_zipT {n : Nat} (hn : n = min xs.length ys.length) : Walk (RZ.ItzT K a b) n (fun H => SqT K H a xs ∧ SqT K H b ys) (YPair (fun i => xs[i]?) (fun i => ys[i]?)) := by
  constructor
  · intro i _ hi q
    have h1 : i < xs.length := by omega
    have h2 : i < ys.length := by omega
    exact ⟨xs, ys, xs[i], ys[i], q.1, q.2, by simp [h1], by simp [h2]⟩
  · exact fun _ q => ⟨xs, ys, q.1, q.2, by omega⟩
  · rintro i H v H' _ q ⟨T, x, z, h1, h2, h3, h4, h5⟩
    exact ⟨T, x, z, h1, h2, h3, h4 xs q.1, h5 ys q.2⟩
end
/-! ### one of two readings -/
section
variable {X : Cx}
def eTwo (t1 t2 : TE) : TE := fun σ H Q => t1 σ H Q ∨ t2 σ H Q
def sTwo (t1 t2 : TS) : TS := fun D σ H => t1 D σ H ∨ t2 D σ H
theorem pe_or2 {e : Expr} {t1 t2 : TE} (h1 : PE X e t1) (h2 : PE X e t2) : PE X e (eTwo t1 t2) :=
  ⟨fun pins s σ H Q I h => h.elim (fun h => h1.run pins s σ H Q I h) fun h => h2.run pins s σ H Q I h⟩
theorem ps_or2 {st : Stmt} {t1 t2 : TS} (h1 : PS X st t1) (h2 : PS X st t2) : PS X st (sTwo t1 t2) :=
  ⟨fun pins s σ H D I h => h.elim (fun h => h1.run pins s σ H D I h) fun h => h2.run pins s σ H D I h⟩
end
/-! ### a walk whose body is whatever stands there -/
section
variable {J : It} {n : Nat} {G : Hp → Prop} {Y : Nat → Hp → V → Hp → Prop}
theorem walk_in (w : Walk J n G Y) {Fin : Hp → Prop} {Body : V → Hp → (Hp → Prop) → Prop} {H0 : Hp} (Pv : Nat → Hp → Prop) (h0 : Pv 0 H0) (hG : ∀ i H, i ≤ n → Pv i H → G H)
    (hs : ∀ i x H H2, i < n → Pv i H → Y i H x H2 → Body x H2 (Pv (i + 1))) (hd : ∀ H, Pv n H → Fin H) :
    ∃ W : Nat → Nat → Hp → Prop, (∃ m, W 0 m H0) ∧ ∀ i m H, W i m H → (J.stop i H ∧ Fin H) ∨ (J.go i H ∧ ∃ Nx : Hp → Prop, (∀ H2, Nx H2 → ∃ m2, m2 < m ∧ W (i + 1) m2 H2) ∧ ∀ x H2, J.yld i H x H2 → Body x H2 Nx) := by
  refine ⟨fun i m H => m + i = n ∧ Pv i H, ⟨n, rfl, h0⟩, fun i m H hw => ?_⟩
  obtain ⟨e, p⟩ := hw
  have g := hG i H (by omega) p
  by_cases c : i < n
  · exact .inr ⟨w.goes i H c g, Pv (i + 1), fun H2 p2 => ⟨m - 1, by omega, by omega, p2⟩, fun x H2 y => hs i x H H2 c p (w.yields i H x H2 c g y)⟩
  · have e2 : i = n := by omega
    subst e2
    exact .inl ⟨w.stops H g, hd H p⟩
end
/-! ### a list or a tuple to be taken apart -/
section
variable {X : Cx}
def gTwo (t1 t2 : TG) : TG := fun v σ H Q => t1 v σ H Q ∨ t2 v σ H Q
theorem pg_or2 {e : Expr} {t1 t2 : TG} (h1 : PG X e t1) (h2 : PG X e t2) : PG X e (gTwo t1 t2) := by
  constructor
  intro pins s σ H x v Q I r h
  exact h.elim (fun h => h1.run pins s σ H x v Q I r h) fun h => h2.run pins s σ H x v Q I r h
end
/-! ### a list or a tuple, whichever it is -/
def SqX (K : PySem.W.Frag) (H : Hp) (a : Addr) (xs : List V) : Prop := SqL K H a xs ∨ SqT K H a xs
theorem SqX.of {K : PySem.W.Frag} {H : Hp} {a : Addr} {xs : List V} (h : H a = some (.lst xs) ∨ H a = some (.tup xs)) : SqX K H a xs := h.imp SqL.of SqT.of
section
variable {X : Cx} {tg : Expr}
def iSeq (K : PySem.W.Frag) (te : TE) : TI := fun σ H R => te σ H fun x H1 => ∃ a xs, x = .ref a ∧ SqX K H1 a xs ∧
  ∀ (J : It) (G : Hp → Prop), Walk J xs.length G (YAt xs) → (∀ H2, (∀ o, H1 a = some o → H2 a = some o) → G H2) → R J H1
theorem pi_seq {e : Expr} {te : TE} (he : PE X e te) : PI X tg e (iSeq X.K te) := by
  refine ⟨fun pins s σ H R I h => thn (he.run pins s σ H _ I h) fun v s1 ⟨x, H1, I1, r1, a, xs, ex, hq, q⟩ => ?_⟩
  cases ex
  cases r1
  have fp : ∀ b ∈ [s1.heap.objs.size], FpOk X pins H1 b := fun b hb => by
    cases List.mem_singleton.mp hb
    exact I1.fpOk (Nat.le_refl _) (I1.hok.fresh (Nat.le_refl _))
  rcases hq with hq | hq
  · obtain ⟨its, rv, pl, _⟩ := I1.list hq
    exact wpAny_pyIter_list pl.isList ⟨s1.heap.objs.size, [s1.heap.objs.size], _, _, H1, rfl, I1.kept (t' := s1.toks) fun b o z => Heap.get?_push_of_some _ z, turn_list a _, ⟨_, Heap.get?_push_size _ rfl, rfl, rfl⟩, fp, q _ _ walk_list fun H2 k => hq.imp (Or.imp (k _) fun ⟨o, z⟩ => ⟨o, k _ z⟩) id⟩
  · obtain ⟨its, rv, pl, _⟩ := I1.tuple hq
    exact wpAny_pyIter_tuple (show s1.heap.IsTuple a its.toArray from pl) ⟨s1.heap.objs.size, [s1.heap.objs.size], _, _, H1, rfl, I1.kept (t' := s1.toks) fun b o z => Heap.get?_push_of_some _ z, turn_tuple a _, ⟨_, Heap.get?_push_size _ rfl, rfl, rfl⟩, fp, q _ _ walk_tup fun H2 k => hq.imp (Or.imp (k _) fun ⟨o, z⟩ => ⟨o, k _ z⟩) id⟩
theorem stays {H G0 G : Hp} {a : Addr} {u v : HO} (hk : H a = some u ∨ H a = some v) (s0 : Same H G0) (s : Same H G) : ∀ o, G0 a = some o → G a = some o := by
  intro o e
  rcases hk with h | h
  · cases Option.some.inj ((s0 _ _ h).symm.trans e)
    exact s _ _ h
  · cases Option.some.inj ((s0 _ _ h).symm.trans e)
    exact s _ _ h
/-- tuple(x), x a list or a tuple -/
def rTupX (K : PySem.W.Frag) : List V → Hp → VK → Prop := fun vs H Q => ∃ a xs, vs = [V.ref a] ∧ SqX K H a xs ∧ ∀ p H2, Same H H2 → SqT K H2 p xs → Q (.ref p) H2
theorem call_tupX : CallR X (.type "tuple") (rTupX X.K) := by
  intro pins s σ H vs us Q I r h
  obtain ⟨a, xs, rfl, hq, q⟩ := h
  refine call_tuple_of pins s σ H _ us Q I r ⟨a, xs, rfl, ?_⟩
  rcases hq with hq | hq
  · exact .inl ⟨hq, fun l hl => q l _ (fun b o hb => by rw [upd_ne (ne_of_none hb hl)]; exact hb) (SqT.of upd_same)⟩
  · exact .inr ⟨hq, q a H (fun _ _ z => z) hq⟩
end
section
variable {X : Cx}
/-- list(x), x a list or a tuple -/
def rListX (K : PySem.W.Frag) : List V → Hp → VK → Prop := fun vs H Q => ∃ a xs, vs = [V.ref a] ∧ SqX K H a xs ∧ ∀ p, H p = none → Q (.ref p) (upd H p (.lst xs))
theorem call_listX : CallR X (.type "list") (rListX X.K) := call_list_of
end
/-- what is taken apart into two -/
theorem apart2 {K : PySem.W.Frag} {n : Nat} {t : TGs} {σ : L2.St} {H : Hp} {Q : L2.St → Hp → Prop} {a : Addr} {u x : V} (h : H a = some (.lst [u, x]) ∨ H a = some (.tup [u, x])) (hn : 2 = n) (q : t [u, x] σ H Q) : gTwo (gTup K n t) (gLst K n t) (.ref a) σ H Q := by
  rcases h with h | h
  · exact .inr ⟨a, _, rfl, SqL.of h, hn, q⟩
  · exact .inl ⟨a, _, rfl, SqT.of h, hn, q⟩
end TG
namespace TF18
open PySem PySem.Spec L2 TG TA
open PyProof.Rows hiding St
abbrev sIdx : Stmt := top 53
theorem scIdx : FnScope ["layout", "place", "at", "step", "parts"] ["layout", "place"] (defScope sIdx) := ⟨rfl, rfl, rfl, by decide +kernel, rfl, by decide +kernel, by decide +kernel⟩
/-- a place told as a tuple or as a list -/
def spIdx (K : PySem.W.Frag) (C : Addr) : Sp := fun vs H Q _ => ∃ (l a : Addr) (w : Wr) (i : Nat), vs = [.ref l, .ref a] ∧ LayAt C H l w ∧ i < w.sg ∧ w.sg ≤ 2000 ∧ (H a = some (.lst ((w.path i).map fun n => V.int ((n : Nat) : Int))) ∨ H a = some (.tup ((w.path i).map fun n => V.int ((n : Nat) : Int)))) ∧ ∀ H', Same H H' → Q (.int (i : Int)) H'
section
variable {P : Program} {w : World} {K : PySem.W.Frag} {mg : Str → Option Value} {base : Heap} {f f1 f2 f3 : Addr} {fd fd1 fd2 fd3 : FuncData}
theorem ok_idx {C fI : Addr} (F : Fun K "index_at" "index_at" sIdx f fd) (T : Bn mg) (Z : LayC K mg C fI) (D_is_within : Df K mg "is_within" sWithin f1 fd1 ["value", "least", "most"]) (G_is_within : FnOk P w K mg base CX0 2 f1 fd1 ["value", "least", "most"] (spWithin K)) : FnOk P w K mg base CX0 3 f fd ["layout", "place"] (spIdx K C) := by
  refine F.ok scIdx (fun vs H Q E h => ?_) (fun cdv A outer s H vs Q E hr h => ?_)
  · obtain ⟨l, a, wr, i, rfl, _⟩ := h
    rfl
  obtain ⟨l, pa, wr, i, rfl, hL, hi, hn, hx, q⟩ := h
  refine ⟨_, (pss_cons (ps_if (pt_not (pt_val (pe_callB call_isiT (by rfl) T.b_isinstance (by decide +kernel) (pa_cons (pv 1) (pa_cons (pe_tup (pa_cons (pe_bltn (v := .ty "list") (u := .type "list") (by rfl) T.b_list (by decide +kernel) rfl) (pa_cons (pe_bltn (v := .ty "tuple") (u := .type "tuple") (by rfl) T.b_tuple (by decide +kernel) rfl) pa_nil))) pa_nil))))) (pss_one ps_never) pss_nil)
      (pss_cons (ps_set (i := 2) scIdx.nd rfl (.inl rfl) pe_int)
      (pss_cons (ps_for PassesOwn.never rfl (pi_seq (pv 1)) (pg_name (i := 3) scIdx.nd rfl (.inl rfl))
        (pss_cons (ps_set (i := 4) scIdx.nd rfl (.inl rfl) (pe_ix ix_list (pe_fld (pv 0) (by rfl)) (pv 2) (fun _ _ => rfl)))
        (pss_cons (ps_if (pt_not (pt_val (pe_cd D_is_within G_is_within hr (by decide) (pa_cons (pv 3) (pa_cons pe_int (pa_cons (pe_op op_sub (pe_callB call_len_seq (by rfl) T.b_len (by decide +kernel) (pa_cons (pv 4) pa_nil)) pe_int) pa_nil)))))) (pss_one ps_never) pss_nil)
        (pss_one (ps_set (i := 2) scIdx.nd rfl (.inl rfl) (pe_ix ix_list (pv 4) (pv 3) (fun _ _ => rfl)))))))
      (pss_one (ps_ret (pv 2)))))), ?_⟩
  have hv : ∃ n : String, HasTy K H (.ref pa) n ∧ (n == "list" || n == "tuple") = true := by
    rcases hx with h | h
    · exact ⟨"list", HasTy.lst h, rfl⟩
    · exact ⟨"tuple", HasTy.tup h, rfl⟩
  obtain ⟨ty, hv, hty⟩ := hv
  obtain ⟨g, e, b, a, d, dx, hl, ⟨ts, hg, hgl, hgt⟩, he, ⟨bs, hb, hbl, hbt⟩, ha, hd⟩ := hL
  refine ⟨_, rfl, (by show 2 ≤ sizeLine; decide), fun tp htp => ?_⟩
  have s1 := new_same (o := .tup [.ty "list", .ty "tuple"]) htp
  refine ⟨.ref pa, tp, _, _, [.type "list", .type "tuple"], _, rfl, upd_same, .cons (.ty _) (.cons (.ty _) .nil), tyx_same hv.1 s1, kit_lt hv.2, _, rfl, ?_⟩
  rw [hty]
  refine iteF ?_
  have hx1 := hx.imp (s1 _ _) (s1 _ _)
  generalize L2.upd H tp (.tup [.ty "list", .ty "tuple"]) = H1 at s1 hx1 ⊢
  refine ⟨_, rfl, pa, _, rfl, SqX.of hx1, fun J G wk hGG => ?_⟩
  refine for_it wk (fun k σ G4 => ∃ (j : Nat) (s : Wr) (v3 v4 : Option V), σ = [some (.ref l), some (.ref pa), some (.int (j : Int)), v3, v4] ∧ Same H G4 ∧ wr.subs[j]? = some s ∧ j ≤ i ∧ i - j < s.sg ∧ (wr.path i).drop k = s.path (i - j)) ?_ ?_ ?_ ?_
  · exact ⟨0, wr, none, none, rfl, s1, Wr.subs_zero wr, Nat.zero_le _, hi, rfl⟩
  · rintro k σ G4 _ ⟨j, s, v3, v4, rfl, s4, _⟩
    exact hGG G4 (stays hx s1 s4)
  · rintro k x σ G4 G5 hk ⟨j, s, v3, v4, rfl, s4, hs, hj, hm, hp⟩ ⟨rfl, hx2⟩
    rw [List.getElem?_map] at hx2
    obtain ⟨st, hst, rfl⟩ := Option.map_eq_some_iff.mp hx2
    obtain ⟨lk, ek⟩ := List.getElem?_eq_some_iff.mp hst
    rw [List.drop_eq_getElem_cons lk, ek] at hp
    have pos : 0 < i - j := by
      rcases Nat.eq_zero_or_pos (i - j) with z | z
      · rw [z, Wr.path_zero] at hp
        cases hp
      · exact z
    obtain ⟨st', d', s', hk1, hs1, hd1, hm1, e1⟩ := Wr.down pos hm
    rw [e1] at hp
    injection hp with e2 hp
    subst e2
    have lst := lt_get hk1
    obtain ⟨bj, hbj⟩ : ∃ bj, bs[j]? = some bj := get_lt (by rw [hbl]; exact Wr.subs_lt hs)
    have hbj2 := s4 _ _ (hbt j s bj hs hbj)
    have klen : (kidV j s).length = s.kids.length := List.length_map _
    have kat : (kidV j s)[st]? = some (.int ((j + d' : Nat) : Int)) := by
      unfold kidV
      rw [List.getElem?_map, hk1]
      rfl
    refine ⟨_, rfl, l, C, dx, _, _, rfl, s4 _ _ hl, Z.cl, Z.nB, lay_below g e b a d, _, rfl, b, _, _, .ref bj, rfl, rfl, SqL.of (s4 _ _ hb), atI_nat (j := j) (by rw [List.getElem?_map, hbj]; rfl), ?_⟩
    refine ⟨_, rfl, _, rfl, bj, _, rfl, .inl (SqL.of hbj2), _, _, rfl, rfl, _, _, _, "int", rfl, HasTy.int _, .inr ⟨0, rfl⟩, .inr ⟨_, rfl⟩, _, rfl, ?_⟩
    have within : withinV (.int ((st : Nat) : Int)) (.int 0) (.int (((kidV j s).length : Nat) - 1)) = true := by
      show (decide ((0 : Int) ≤ (st : Int)) && decide ((st : Int) ≤ ((kidV j s).length : Nat) - 1)) = true
      rw [klen, decide_eq_true (by omega), decide_eq_true (by omega)]
      rfl
    rw [within]
    refine iteF ?_
    refine ⟨_, rfl, _, rfl, bj, _, _, _, rfl, rfl, SqL.of hbj2, atI_nat (j := st) kat, ?_⟩
    refine ⟨j + d', s', _, _, rfl, s4, ?_, by omega, by omega, ?_⟩
    · have f := (Wr.pths_kid (e := []) hk1).1
      rw [Wr.subs_at hs d' f]
      exact hs1
    · rw [hp, show i - (j + d') = i - j - d' by omega]
  · rintro σ G4 ⟨j, s, v3, v4, rfl, s4, hs, hj, hm, hp⟩
    rw [List.length_map, List.drop_length] at hp
    have ej : i = j := by
      rcases Nat.eq_zero_or_pos (i - j) with z | z
      · omega
      · obtain ⟨st, d', s', _, _, _, _, e⟩ := Wr.down z hm
        rw [e] at hp
        cases hp
    subst ej
    exact ⟨_, rfl, q G4 s4⟩
end
end TF18
set_option maxHeartbeats 400000
/-! a part in the place of a part -/
namespace TG
open PySem PySem.Spec L2
open PyProof.Rows hiding St
namespace Wr
/-- with the value pv in the place of what begins at i -/
def putT (pv : V) : Wr → Nat → Tr
  | _, 0 => .lf pv
  | nm z, _ + 1 => .lf (.str z)
  | of x b, i + 1 => .of x (putT pv b i)
  | to a b, i + 1 => if i < a.sg then .to (putT pv a i) b.tr else .to a.tr (putT pv b (i - a.sg))
/-- with the writing t in the place of what begins at i -/
def repl (t : Wr) : Wr → Nat → Wr
  | _, 0 => t
  | nm z, _ + 1 => nm z
  | of x b, i + 1 => of x (repl t b i)
  | to a b, i + 1 => if i < a.sg then to (repl t a i) b else to a (repl t b (i - a.sg))
theorem tr_elen (w : Wr) : w.tr.ents.length = w.sg := by rw [tr_ents, List.length_map, subs_len]
theorem putT_ents {pv : V} : ∀ {w s : Wr} {i : Nat}, w.subs[i]? = some s → (putT pv w i).ents = w.tr.ents.take i ++ (V.str "name", pv) :: w.tr.ents.drop (i + s.sg)
  | w, s, 0, h => by
    rw [subs_zero] at h
    cases h
    have l := tr_elen w
    rw [Nat.zero_add, List.drop_of_length_le (by omega), List.take_zero]
    cases w <;> rfl
  | nm _, s, i + 1, h => nomatch h
  | of x b, s, i + 1, h => by
    have e := putT_ents (pv := pv) (w := b) (s := s) (i := i) h
    rw [show i + 1 + s.sg = (i + s.sg) + 1 by omega]
    show Tr.hd _ :: (putT pv b i).ents = _ :: (b.tr.ents.take i ++ _ :: b.tr.ents.drop (i + s.sg))
    rw [e]
    rfl
  | to a b, s, i + 1, h => by
    have h : (a.subs ++ b.subs)[i]? = some s := h
    have la := tr_elen a
    rw [show i + 1 + s.sg = (i + s.sg) + 1 by omega]
    by_cases c : i < a.sg
    · rw [List.getElem?_append_left (by rw [subs_len]; exact c)] at h
      have e := putT_ents (pv := pv) h
      have f := subs_fit h
      have e0 : putT pv (to a b) (i + 1) = .to (putT pv a i) b.tr := if_pos c
      rw [e0]
      show Tr.hd _ :: ((putT pv a i).ents ++ b.tr.ents) = _ :: ((a.tr.ents ++ b.tr.ents).take i ++ _ :: (a.tr.ents ++ b.tr.ents).drop (i + s.sg))
      rw [e, List.take_append_of_le_length (by omega), List.drop_append_of_le_length (by omega), List.append_assoc]
      rfl
    · rw [List.getElem?_append_right (by rw [subs_len]; omega), subs_len] at h
      have e := putT_ents (pv := pv) h
      have e0 : putT pv (to a b) (i + 1) = .to a.tr (putT pv b (i - a.sg)) := if_neg c
      rw [e0]
      show Tr.hd _ :: (a.tr.ents ++ (putT pv b (i - a.sg)).ents) = _ :: ((a.tr.ents ++ b.tr.ents).take i ++ _ :: (a.tr.ents ++ b.tr.ents).drop (i + s.sg))
      rw [e, List.take_append, List.drop_append, List.take_of_length_le (l := a.tr.ents) (i := i) (by omega), List.drop_of_length_le (l := a.tr.ents) (i := i + s.sg) (by omega), la, List.append_assoc, List.nil_append, show i + s.sg - a.sg = i - a.sg + s.sg by omega]
      rfl
theorem putT_sz {pv : V} {w s : Wr} {i : Nat} (h : w.subs[i]? = some s) : (putT pv w i).sz + s.sg = w.sg + 1 := by
  have e := congrArg List.length (putT_ents (pv := pv) h)
  have f := subs_fit h
  have l := tr_elen w
  rw [Tr.ents_len, List.length_append, List.length_cons, List.length_take, List.length_drop, l] at e
  omega
/-- the tree with the value tells the writing with the part -/
theorem putT_tw {H : Hp} {pv : V} {t : Wr} (hp : WA H pv t) : ∀ (w : Wr) (i : Nat), TW H (putT pv w i) (repl t w i)
  | nm _, 0 => .lf hp
  | of _ _, 0 => .lf hp
  | to _ _, 0 => .lf hp
  | nm z, i + 1 => .lf (.nm z)
  | of x b, i + 1 => .of (putT_tw hp b i)
  | to a b, i + 1 => by
    show TW H (if i < a.sg then .to (putT pv a i) b.tr else .to a.tr (putT pv b (i - a.sg))) (if i < a.sg then to (repl t a i) b else to a (repl t b (i - a.sg)))
    by_cases c : i < a.sg
    · rw [if_pos c, if_pos c]
      exact .to (putT_tw hp a i) (Wr.tr_tw H b)
    · rw [if_neg c, if_neg c]
      exact .to (Wr.tr_tw H a) (putT_tw hp b (i - a.sg))
theorem repl_all {p : Str → Bool} {t : Wr} (ht : t.all p = true) : ∀ {w : Wr} {i : Nat}, w.all p = true → (repl t w i).all p = true
  | w, 0, _ => by cases w <;> exact ht
  | nm z, i + 1, h => h
  | of x b, i + 1, h => by
    obtain ⟨h1, h2⟩ := Bool.and_eq_true_iff.mp (show (p x && b.all p) = true from h)
    show (p x && (repl t b i).all p) = true
    rw [h1, repl_all ht h2]
    rfl
  | to a b, i + 1, h => by
    obtain ⟨h1, h2⟩ := Bool.and_eq_true_iff.mp (show (a.all p && b.all p) = true from h)
    show (if i < a.sg then to (repl t a i) b else to a (repl t b (i - a.sg))).all p = true
    by_cases c : i < a.sg
    · rw [if_pos c]
      show ((repl t a i).all p && b.all p) = true
      rw [repl_all ht h1, h2]
      rfl
    · rw [if_neg c]
      show (a.all p && (repl t b (i - a.sg)).all p) = true
      rw [h1, repl_all ht h2]
      rfl
end Wr
end TG
namespace TF18
open PySem PySem.Spec L2 TG TA
open PyProof.Rows hiding St
abbrev sWB : Stmt := top 32
theorem scWB : FnScope ["layout", "at", "part"] ["layout", "at", "part"] (defScope sWB) := ⟨rfl, rfl, rfl, by decide +kernel, rfl, by decide +kernel, by decide +kernel⟩
def spWB (C : Addr) : Sp := fun vs H Q _ => ∃ (l : Addr) (part : V) (w s t : Wr) (i : Nat), vs = [.ref l, .int (i : Int), part] ∧ LayAt C H l w ∧ w.subs[i]? = some s ∧ w.sg ≤ 2000 ∧ WA H part t ∧
  ∀ (v : V) (H' : Hp), Same H H' → WA H' v (Wr.repl t w i) → Q v H'
theorem pd_take {α β : Type} {R : α → β → Prop} : ∀ {xs : List α} {ys : List β} (n : Nat), Paired R xs ys → Paired R (xs.take n) (ys.take n)
  | _, _, 0, _ => by rw [List.take_zero, List.take_zero]; exact .nil
  | _, _, n + 1, .nil => .nil
  | _, _, n + 1, .cons a t => .cons a (pd_take n t)
theorem pd_drop {α β : Type} {R : α → β → Prop} : ∀ {xs : List α} {ys : List β} (n : Nat), Paired R xs ys → Paired R (xs.drop n) (ys.drop n)
  | _, _, 0, h => h
  | _, _, n + 1, .nil => .nil
  | _, _, n + 1, .cons _ t => pd_drop n t
theorem pd_make {α β : Type} {R : α → β → Prop} : ∀ {xs : List α} {ys : List β}, xs.length = ys.length → (∀ (i : Nat) (x : α) (y : β), xs[i]? = some x → ys[i]? = some y → R x y) → Paired R xs ys
  | [], [], _, _ => .nil
  | [], _ :: _, h, _ => nomatch h
  | _ :: _, [], h, _ => nomatch h
  | x :: xs, y :: ys, h, k => .cons (k 0 x y rfl rfl) (pd_make (Nat.succ.inj h) fun i u v hu hv => k (i + 1) u v hu hv)
theorem pd_get {α β : Type} {R : α → β → Prop} : ∀ {xs : List α} {ys : List β}, Paired R xs ys → xs.length = ys.length ∧ ∀ (i : Nat) (x : α) (y : β), xs[i]? = some x → ys[i]? = some y → R x y
  | _, _, .nil => ⟨rfl, fun i x y h => by simp at h⟩
  | _, _, .cons a t => by
    obtain ⟨l, k⟩ := pd_get t
    refine ⟨congrArg (· + 1) l, fun i x y h1 h2 => ?_⟩
    match i, h1, h2 with
    | 0, h1, h2 => cases h1; cases h2; exact a
    | i + 1, h1, h2 => exact k i x y h1 h2
section
variable {P : Program} {w : World} {K : PySem.W.Frag} {mg : Str → Option Value} {base : Heap} {f f1 f2 f3 : Addr} {fd fd1 fd2 fd3 : FuncData}
theorem ok_wb {C fI : Addr} (F : Fun K "with_built" "with_built" sWB f fd) (T : Bn mg) (W : Lw mg) (Z : LayC K mg C fI) (D_built : Df K mg "built" sBuilt f1 fd1 ["signs"]) (G_built : FnOk P w K mg base CX0 1 f1 fd1 ["signs"] spBuilt) : FnOk P w K mg base CX0 2 f fd ["layout", "at", "part"] (spWB C) := by
  refine F.ok scWB (fun vs H Q E h => ?_) (fun cdv A outer s H vs Q E hr h => ?_)
  · obtain ⟨l, part, wr, s', t, i, rfl, _⟩ := h
    rfl
  obtain ⟨l, part, wr, s', t, i, rfl, ⟨g, e, b, a, d, dx, hl, ⟨ts, hg, hgl, hgt⟩, ⟨es, he, hel, hes⟩, hb, ha, hd⟩, hs, hn, hp, q⟩ := h
  obtain ⟨tNm, gNm⟩ := W.nm_
  refine ⟨_, (pss_one (ps_ret (pe_cd D_built G_built hr (by decide) (pa_cons (pe_op op_cat (pe_op op_cat (pe_slice sl_list (pe_fld (pv 0) (by rfl)) po_none (po_some (pv 1))) (pe_lst (pa_cons (pe_tup (pa_cons (pe_glob (v := .str "name") rfl gNm ⟨_, rfl⟩) (pa_cons (pv 2) pa_nil))) pa_nil))) (pe_slice sl_list (pe_fld (pv 0) (by rfl)) (po_some (pe_ix ix_list (pe_fld (pv 0) (by rfl)) (pv 1) (fun _ _ => rfl))) po_none)) pa_nil)))), ?_⟩
  have fit := Wr.subs_fit hs
  have hin := Wr.subs_lt hs
  refine ⟨_, rfl, l, C, dx, _, _, rfl, hl, Z.cl, Z.nS, lay_signs g e b a d, _, rfl, _, rfl, g, _, rfl, SqL.of hg, fun p1 hp1 => ?_⟩
  have cut1 : cutV (ts.map V.ref) none (some (i : Int)) = (ts.take i).map V.ref := by
    unfold cutV
    rw [HT.sIx_nat, List.length_map, hgl, Nat.min_eq_left (by omega), List.map_take]
    rfl
  rw [cut1]
  have small2 : ∀ m : Nat, m ≤ 5000 → m ≤ sizeLine := fun m hm => by rw [sizeLine_eq]; omega
  have h1 : (L2.upd H p1 (.lst ((ts.take i).map V.ref))) p1 = some (.lst ((ts.take i).map V.ref)) := upd_same
  have s1 := new_same (o := .lst ((ts.take i).map V.ref)) hp1
  generalize L2.upd H p1 (.lst ((ts.take i).map V.ref)) = H1 at h1 s1 ⊢
  refine ⟨_, rfl, (by show 2 ≤ sizeLine; decide), fun n0 hn0 => ⟨(by show 1 ≤ sizeLine; decide), fun p2 hp2 => ?_⟩⟩
  have x2 := (new_same (o := .tup [.str "name", part]) hn0).trans (new_same (o := .lst [.ref n0]) hp2)
  have hn1 : (L2.upd (L2.upd H1 n0 (.tup [.str "name", part])) p2 (.lst [.ref n0])) n0 = some (.tup [.str "name", part]) := new_same hp2 _ _ upd_same
  have h2 : (L2.upd (L2.upd H1 n0 (.tup [.str "name", part])) p2 (.lst [.ref n0])) p2 = some (.lst (([n0] : List Addr).map V.ref)) := upd_same
  have h1 := x2 _ _ h1
  have s2 := s1.trans x2
  generalize L2.upd (L2.upd H1 n0 (.tup [.str "name", part])) p2 (.lst [.ref n0]) = H2 at h1 hn1 h2 s2 ⊢
  refine ⟨p1, p2, _, _, rfl, rfl, h1, h2, by rw [List.length_map, List.length_map, List.length_take]; exact small2 _ (by show _ + 1 ≤ _; omega), fun p3 hp3 => ?_⟩
  have s3 := s2.trans (new_same (o := .lst ((ts.take i).map V.ref ++ ([n0] : List Addr).map V.ref)) hp3)
  have hn1 := new_same (o := .lst ((ts.take i).map V.ref ++ ([n0] : List Addr).map V.ref)) hp3 _ _ hn1
  have h3 : (L2.upd H2 p3 (.lst ((ts.take i).map V.ref ++ ([n0] : List Addr).map V.ref))) p3 = some (.lst ((ts.take i ++ [n0]).map V.ref)) := by rw [upd_same, List.map_append]
  generalize L2.upd H2 p3 (.lst ((ts.take i).map V.ref ++ ([n0] : List Addr).map V.ref)) = H3 at s3 hn1 h3 ⊢
  refine ⟨_, rfl, l, C, dx, _, _, rfl, s3 _ _ hl, Z.cl, Z.nS, lay_signs g e b a d, _, rfl, l, C, dx, _, _, rfl, s3 _ _ hl, Z.cl, Z.nE, lay_ends g e b a d, _, rfl, e, _, _, _, rfl, rfl, SqL.of (s3 _ _ he), atI_nat (hes i s' hs), _, rfl, g, _, rfl, SqL.of (s3 _ _ hg), fun p4 hp4 => ?_⟩
  have cut2 : cutV (ts.map V.ref) (some ((i + s'.sg : Nat) : Int)) none = (ts.drop (i + s'.sg)).map V.ref := by
    unfold cutV
    rw [HT.sIx_nat, List.length_map, hgl, Nat.min_eq_left (by omega)]
    rw [show HT.sIx wr.sg wr.sg none = wr.sg from rfl, List.take_of_length_le (by rw [List.length_drop, List.length_map, hgl]; exact Nat.le_refl _), List.map_drop]
  rw [cut2]
  have x4 := new_same (o := .lst ((ts.drop (i + s'.sg)).map V.ref)) hp4
  have s4 := s3.trans x4
  have h3 := x4 _ _ h3
  have hn1 := x4 _ _ hn1
  have h4 : (L2.upd H3 p4 (.lst ((ts.drop (i + s'.sg)).map V.ref))) p4 = some (.lst ((ts.drop (i + s'.sg)).map V.ref)) := upd_same
  generalize L2.upd H3 p4 (.lst ((ts.drop (i + s'.sg)).map V.ref)) = H4 at s4 h3 hn1 h4 ⊢
  refine ⟨p3, p4, _, _, rfl, rfl, h3, h4, by rw [List.length_map, List.length_map, List.length_append, List.length_take, List.length_drop]; exact small2 _ (by show min i ts.length + 1 + _ ≤ _; omega), fun p5 hp5 => ?_⟩
  have x5 := new_same (o := .lst ((ts.take i ++ [n0]).map V.ref ++ (ts.drop (i + s'.sg)).map V.ref)) hp5
  have s5 := s4.trans x5
  have hn1 := x5 _ _ hn1
  have h5 : (L2.upd H4 p5 (.lst ((ts.take i ++ [n0]).map V.ref ++ (ts.drop (i + s'.sg)).map V.ref))) p5 = some (.lst ((ts.take i ++ (n0 :: ts.drop (i + s'.sg))).map V.ref)) := by
    rw [upd_same, ← List.map_append, List.append_assoc]
    rfl
  generalize L2.upd H4 p5 (.lst ((ts.take i ++ [n0]).map V.ref ++ (ts.drop (i + s'.sg)).map V.ref)) = H5 at s5 hn1 h5 ⊢
  have all : Paired (fun (p : V × V) a => H5 a = some (.tup [p.1, p.2])) wr.tr.ents ts := by
    refine pd_make (by rw [Wr.tr_elen, hgl]) fun j x y hx hy => ?_
    rw [Wr.tr_ents, List.getElem?_map] at hx
    obtain ⟨u, hu, rfl⟩ := Option.map_eq_some_iff.mp hx
    exact s5 _ _ (hgt j u y hu hy)
  have mine : Paired (fun (p : V × V) a => H5 a = some (.tup [p.1, p.2])) (Wr.putT part wr i).ents (ts.take i ++ (n0 :: ts.drop (i + s'.sg))) := by
    rw [Wr.putT_ents hs]
    exact paired_join (pd_take i all) (.cons hn1 (pd_drop (i + s'.sg) all))
  obtain ⟨m1, m2⟩ := pd_get mine
  have z := Wr.putT_sz (pv := part) hs
  have zp := s'.sg_pos
  refine ⟨p5, Wr.putT part wr i, rfl, ⟨_, h5, by rw [← m1, Tr.ents_len], m2⟩, by omega, fun v H' s6 hv => q v H' (s5.trans s6) (hv.wa (Wr.putT_tw (hp.same (s5.trans s6)) wr i))⟩
end
end TF18
namespace TF18
open PySem PySem.Spec L2 TG TA
open PyProof.Rows hiding St
abbrev sStep : Stmt := top 65
theorem scStep : FnScope ["writing", "place", "layout", "at", "one", "other", "body"] ["writing", "place"] (defScope sStep) := ⟨rfl, rfl, rfl, by decide +kernel, rfl, by decide +kernel, by decide +kernel⟩
def spStep (K : PySem.W.Frag) : Sp := fun vs H Q _ => ∃ (v : V) (pa : Addr) (d : PyData) (w b c : Wr) (x : Str) (i : Nat), vs = [v, .ref pa] ∧ Dp K H v d ∧ Tells d w ∧ w.all okN = true ∧ w.sg ≤ 2000 ∧ w.subs[i]? = some (.to (.of x b) c) ∧
  (H pa = some (.lst ((w.path i).map fun n => V.int ((n : Nat) : Int))) ∨ H pa = some (.tup ((w.path i).map fun n => V.int ((n : Nat) : Int)))) ∧
  ∀ (v' : V) (t : Wr) (H' : Hp), Same H H' → WA H' v' (Wr.repl t w i) → t.all okN = true → t.cnt [] = (b.cnt []).sub x (c.cnt []) → t = b.putF x c → Q v' H'
section
variable {P : Program} {w : World} {K : PySem.W.Frag} {mg : Str → Option Value} {base : Heap} {f f1 f2 f3 f4 f5 f6 : Addr} {fd fd1 fd2 fd3 fd4 fd5 fd6 : FuncData}
theorem ok_step {C fI : Addr} (F : Fun K "step_at" "step_at" sStep f fd) (T : Bn mg) (Z : LayC K mg C fI) (D_laid_out : Df K mg "laid_out" sLaid f1 fd1 ["value", "part"]) (G_laid_out : FnOk P w K mg base CX0 5 f1 fd1 ["value", "part"] (spLaid K C))
    (D_index_at : Df K mg "index_at" sIdx f2 fd2 ["layout", "place"]) (G_index_at : FnOk P w K mg base CX0 3 f2 fd2 ["layout", "place"] (spIdx K C))
    (D_is_step : Df K mg "is_step" sIsStep f3 fd3 ["layout", "at"]) (G_is_step : FnOk P w K mg base CX0 1 f3 fd3 ["layout", "at"] (spIsStep C))
    (D_built_part : Df K mg "built_part" sPart f4 fd4 ["layout", "at"]) (G_built_part : FnOk P w K mg base CX0 2 f4 fd4 ["layout", "at"] (spPart C))
    (D_put : Df K mg "put" sPt f5 fd5 ["writing", "name", "other"]) (G_put : FnOk P w K mg base CX0 6 f5 fd5 ["writing", "name", "other"] (spPutF K))
    (D_with_built : Df K mg "with_built" sWB f6 fd6 ["layout", "at", "part"]) (G_with_built : FnOk P w K mg base CX0 2 f6 fd6 ["layout", "at", "part"] (spWB C)) : FnOk P w K mg base CX0 7 f fd ["writing", "place"] (spStep K) := by
  refine F.ok scStep (fun vs H Q E h => ?_) (fun cdv A outer s H vs Q E hr h => ?_)
  · obtain ⟨v, pa, d, wr, b, c, x, i, rfl, _⟩ := h
    rfl
  obtain ⟨v, pa, d, wr, b, c, x, i, rfl, hd, ht, hok, hn, hs, hpl, q⟩ := h
  refine ⟨_, (pss_cons (ps_set (i := 2) scStep.nd rfl (.inl rfl) (pe_cd D_laid_out G_laid_out hr (by decide) (pa_cons (pv 0) (pa_cons pe_str pa_nil))))
      (pss_cons (ps_set (i := 3) scStep.nd rfl (.inl rfl) (pe_cd D_index_at G_index_at hr (by decide) (pa_cons (pv 2) (pa_cons (pv 1) pa_nil))))
      (pss_cons (ps_if (pt_not (pt_val (pe_cd D_is_step G_is_step hr (by decide) (pa_cons (pv 2) (pa_cons (pv 3) pa_nil))))) (pss_one ps_never) pss_nil)
      (pss_cons (ps_asg (pe_ix ix_list (pe_fld (pv 2) (by rfl)) (pv 3) (fun _ _ => rfl)) (pg_or2 (pg_tup (by rfl) (pgs_cons (pg_name (i := 4) scStep.nd rfl (.inl rfl)) (pgs_cons (pg_name (i := 5) scStep.nd rfl (.inl rfl)) pgs_nil))) (pg_lst (by rfl) (pgs_cons (pg_name (i := 4) scStep.nd rfl (.inl rfl)) (pgs_cons (pg_name (i := 5) scStep.nd rfl (.inl rfl)) pgs_nil)))))
      (pss_cons (ps_set (i := 6) scStep.nd rfl (.inl rfl) (pe_cd D_built_part G_built_part hr (by decide) (pa_cons (pv 2) (pa_cons (pe_op op_add (pv 4) pe_int) pa_nil))))
      (pss_one (ps_ret (pe_cd D_with_built G_with_built hr (by decide) (pa_cons (pv 2) (pa_cons (pv 3) (pa_cons (pe_cd D_put G_put hr (by decide) (pa_cons (pv 6) (pa_cons (pe_ix ix_tup (pe_ix ix_list (pe_fld (pv 2) (by rfl)) (pv 4) (fun _ _ => rfl)) pe_int (fun _ _ => rfl)) (pa_cons (pe_cd D_built_part G_built_part hr (by decide) (pa_cons (pv 2) (pa_cons (pv 5) pa_nil))) pa_nil)))) pa_nil))))))))))), ?_⟩
  have hin := Wr.subs_lt hs
  refine ⟨_, rfl, v, _, d, wr, rfl, hd, ht, hok, hn, fun l H1 s1 hL => ?_⟩
  refine ⟨_, rfl, _, rfl, l, pa, wr, i, rfl, hL, hin, hn, hpl.imp (s1 _ _) (s1 _ _), fun H2 s2 => ?_⟩
  have hL2 := hL.same s2
  have s02 := s1.trans s2
  refine ⟨_, rfl, _, rfl, l, wr, _, i, rfl, hL2, hs, _, rfl, iteF ?_⟩
  have k1 := Wr.kid_one hs
  have k2 := Wr.kid_of k1
  have k3 := Wr.kid_two hs
  have okS : ∀ {u s : Wr} {j : Nat}, u.all okN = true → u.subs[j]? = some s → s.all okN = true := fun {u} => by
    induction u with
    | nm z => intro s j h e; match j, e with | 0, e => cases e; exact h
    | of y u ih =>
      intro s j h e
      match j, e with
      | 0, e => cases e; exact h
      | j + 1, e => exact ih (Bool.and_eq_true_iff.mp (show (okN y && u.all okN) = true from h)).2 e
    | to u1 u2 i1 i2 =>
      intro s j h e
      obtain ⟨h1, h2⟩ := Bool.and_eq_true_iff.mp (show (u1.all okN && u2.all okN) = true from h)
      match j, e with
      | 0, e => cases e; exact h
      | j + 1, e =>
        rcases List.mem_append.mp (List.mem_of_getElem? (show (u1.subs ++ u2.subs)[j]? = some s from e)) with m | m
        · obtain ⟨j', hj⟩ := List.mem_iff_getElem?.mp m
          exact i1 h1 hj
        · obtain ⟨j', hj⟩ := List.mem_iff_getElem?.mp m
          exact i2 h2 hj
  have ob := okS hok k2
  have oc := okS hok k3
  have ox : okN x = true := (Bool.and_eq_true_iff.mp (show (okN x && b.all okN) = true from okS hok k1)).1
  have fb := Wr.subs_fit k2
  have fc := Wr.subs_fit k3
  obtain ⟨g, e, bl, a, dd, dx, hl, ⟨ts, hg, hgl, hgt⟩, he, ⟨bs, hb, hbl, hbt⟩, ha, hd2⟩ := id hL2
  obtain ⟨bi, hbi⟩ : ∃ bi, bs[i]? = some bi := get_lt (by rw [hbl]; exact hin)
  have hbi2 := hbt i _ bi hs hbi
  refine ⟨_, rfl, l, C, dx, _, _, rfl, hl, Z.cl, Z.nB, lay_below g e bl a dd, _, rfl, bl, _, _, .ref bi, rfl, rfl, SqL.of hb, atI_nat (j := i) (by rw [List.getElem?_map, hbi]; rfl), .inr ⟨bi, _, rfl, SqL.of hbi2, rfl, _, _, rfl, _, _, rfl, rfl, ?_⟩⟩
  refine ⟨_, rfl, _, rfl, _, _, rfl, rfl, l, wr, b, i + 1 + 1, rfl, hL2, hn, k2, fun vb H3 s3 hvb => ?_⟩
  obtain ⟨t1, ht1⟩ : ∃ t1, ts[i + 1]? = some t1 := get_lt (by rw [hgl]; exact Wr.subs_lt k1)
  have ht2 := s3 _ _ (hgt (i + 1) _ t1 k1 ht1)
  refine ⟨_, rfl, _, rfl, _, rfl, _, rfl, l, C, dx, _, _, rfl, s3 _ _ hl, Z.cl, Z.nS, lay_signs g e bl a dd, _, rfl, g, _, _, .ref t1, rfl, rfl, SqL.of (s3 _ _ hg), atI_nat (j := i + 1) (by rw [List.getElem?_map, ht1]; rfl), t1, _, _, .str x, rfl, rfl, SqT.of ht2, atI_nat (j := 1) rfl, ?_⟩
  refine ⟨_, rfl, _, rfl, l, wr, c, i + (1 + (Wr.of x b).sg), rfl, hL2.same s3, hn, by rw [← Nat.add_assoc]; exact k3, fun vc H4 s4 hvc => ?_⟩
  refine ⟨vb, vc, x, _, _, b, c, rfl, (hvb.same s4).dp, tells_d _, ob, by omega, ox, hvc.dp, tells_d _, oc, by omega, fun v4 t4 H5 s5 hv4 ok4 e4 f4 => ?_⟩
  refine ⟨l, v4, wr, _, t4, i, rfl, hL2.same (s3.trans (s4.trans s5)), hs, hn, hv4, fun v5 H6 s6 hv5 => q v5 t4 H6 (s02.trans (s3.trans (s4.trans (s5.trans s6)))) hv5 ok4 e4 f4⟩
end
end TF18
set_option maxHeartbeats 400000
/-! rows of codes: parts, depths, steps -/
namespace TG
open PySem PySem.Spec L2
open PyProof.Rows hiding St
namespace Bt
def deps : Bt → Nat → List Nat
  | bd _, d => [d]
  | fr _, d => [d]
  | of b, d => d :: b.deps (d + 1)
  | to a b, d => d :: (a.deps d ++ b.deps d)
theorem cd_len : ∀ b : Bt, b.cd.length = b.sg
  | bd _ => rfl
  | fr _ => rfl
  | of b => congrArg (· + 1) (cd_len b)
  | to a b => by
    show (a.cd ++ b.cd).length + 1 = a.sg + b.sg + 1
    rw [List.length_append, cd_len a, cd_len b]
theorem deps_len : ∀ (b : Bt) (d : Nat), (b.deps d).length = b.sg
  | bd _, _ => rfl
  | fr _, _ => rfl
  | of b, d => congrArg (· + 1) (deps_len b (d + 1))
  | to a b, d => by
    show (a.deps d ++ b.deps d).length + 1 = a.sg + b.sg + 1
    rw [List.length_append, deps_len a d, deps_len b d]
/-- each code with how many "of"s are around it -/
def zc (b : Bt) (d : Nat) : List (Cd × Nat) := b.cd.zip (b.deps d)
theorem zc_len (b : Bt) (d : Nat) : (b.zc d).length = b.sg := by
  unfold zc
  rw [List.length_zip, cd_len, deps_len, Nat.min_self]
theorem zc_of (b : Bt) (d : Nat) : (of b).zc d = (.inl "of", d) :: b.zc (d + 1) := rfl
theorem zc_to (a b : Bt) (d : Nat) : (to a b).zc d = (.inl "to", d) :: (a.zc d ++ b.zc d) := by
  show (Sum.inl ("to" : Str) :: (a.cd ++ b.cd)).zip (d :: (a.deps d ++ b.deps d)) = _
  rw [List.zip_cons_cons, List.zip_append (by rw [cd_len, deps_len])]
  rfl
/-- with so many "of"s more around -/
def lift (by_ : Nat) : Nat → Bt → Bt
  | k, bd n => bd (if k ≤ n then n + by_ else n)
  | _, fr z => fr z
  | k, of b => of (lift by_ (k + 1) b)
  | k, to a b => to (lift by_ k a) (lift by_ k b)
/-- the body of an "of" with what it is handed -/
def hand (t : Bt) : Nat → Bt → Bt
  | k, bd n => if n = k then lift k 0 t else bd (if k < n then n - 1 else n)
  | _, fr z => fr z
  | k, of b => of (hand t (k + 1) b)
  | k, to a b => to (hand t k a) (hand t k b)
def liftC (by_ : Nat) : Cd × Nat → Cd
  | (.inr n, d) => .inr (if d ≤ n then n + by_ else n)
  | (.inl z, _) => .inl z
theorem lift_cd (by_ : Nat) : ∀ (b : Bt) (k : Nat), (lift by_ k b).cd = (b.zc k).map (liftC by_)
  | bd n, k => rfl
  | fr z, k => rfl
  | of b, k => by
    rw [zc_of]
    show Sum.inl ("of" : Str) :: (lift by_ (k + 1) b).cd = _
    rw [lift_cd by_ b (k + 1)]
    rfl
  | to a b, k => by
    rw [zc_to]
    show Sum.inl ("to" : Str) :: ((lift by_ k a).cd ++ (lift by_ k b).cd) = _
    rw [lift_cd by_ a k, lift_cd by_ b k, List.map_cons, List.map_append]
    rfl
def handC (t : Bt) : Cd × Nat → List Cd
  | (.inr n, d) => if n = d then (lift d 0 t).cd else [.inr (if d < n then n - 1 else n)]
  | (.inl z, _) => [.inl z]
theorem hand_cd (t : Bt) : ∀ (b : Bt) (k : Nat), (hand t k b).cd = (b.zc k).flatMap (handC t)
  | bd n, k => by
    show (if n = k then lift k 0 t else bd (if k < n then n - 1 else n)).cd = (if n = k then (lift k 0 t).cd else [.inr (if k < n then n - 1 else n)]) ++ []
    rw [List.append_nil]
    by_cases e : n = k
    · rw [if_pos e, if_pos e]
    · rw [if_neg e, if_neg e]; rfl
  | fr z, k => rfl
  | of b, k => by
    rw [zc_of]
    show Sum.inl ("of" : Str) :: (hand t (k + 1) b).cd = [Sum.inl ("of" : Str)] ++ _
    rw [hand_cd t b (k + 1)]
    rfl
  | to a b, k => by
    rw [zc_to]
    show Sum.inl ("to" : Str) :: ((hand t k a).cd ++ (hand t k b).cd) = [Sum.inl ("to" : Str)] ++ (a.zc k ++ b.zc k).flatMap (handC t)
    rw [hand_cd t a k, hand_cd t b k, List.flatMap_append]
    rfl
/-! ### parts -/
def subs : Bt → List Bt
  | bd n => [bd n]
  | fr z => [fr z]
  | of b => of b :: b.subs
  | to a b => to a b :: (a.subs ++ b.subs)
theorem subs_len : ∀ b : Bt, b.subs.length = b.sg
  | bd _ => rfl
  | fr _ => rfl
  | of b => congrArg (· + 1) (subs_len b)
  | to a b => by
    show (a.subs ++ b.subs).length + 1 = a.sg + b.sg + 1
    rw [List.length_append, subs_len a, subs_len b]
theorem subs_zero : ∀ b : Bt, b.subs[0]? = some b
  | bd _ => rfl
  | fr _ => rfl
  | of _ => rfl
  | to _ _ => rfl
theorem subs_lt {b s : Bt} {i : Nat} (h : b.subs[i]? = some s) : i < b.sg := by
  rw [← subs_len]
  exact (List.getElem?_eq_some_iff.mp h).1
/-- a part's codes stand in a row -/
theorem cd_part : ∀ {b s : Bt} {i : Nat}, b.subs[i]? = some s → b.cd = b.cd.take i ++ s.cd ++ b.cd.drop (i + s.sg) ∧ i + s.sg ≤ b.sg
  | b, s, 0, h => by
    rw [subs_zero] at h
    cases h
    rw [List.take_zero, List.nil_append, Nat.zero_add, List.drop_of_length_le (by rw [cd_len]; exact Nat.le_refl _), List.append_nil]
    exact ⟨rfl, Nat.le_refl _⟩
  | bd _, s, i + 1, h => nomatch h
  | fr _, s, i + 1, h => nomatch h
  | of b, s, i + 1, h => by
    obtain ⟨e, l⟩ := cd_part (b := b) (i := i) h
    refine ⟨?_, by show i + 1 + s.sg ≤ b.sg + 1; omega⟩
    show Sum.inl ("of" : Str) :: b.cd = Sum.inl ("of" : Str) :: b.cd.take i ++ s.cd ++ (of b).cd.drop (i + 1 + s.sg)
    rw [show i + 1 + s.sg = (i + s.sg) + 1 by omega]
    show Sum.inl ("of" : Str) :: b.cd = Sum.inl ("of" : Str) :: (b.cd.take i ++ s.cd ++ b.cd.drop (i + s.sg))
    rw [← e]
  | to a b, s, i + 1, h => by
    have h : (a.subs ++ b.subs)[i]? = some s := h
    have la := cd_len a
    rw [show i + 1 + s.sg = (i + s.sg) + 1 by omega]
    by_cases c : i < a.sg
    · rw [List.getElem?_append_left (by rw [subs_len]; exact c)] at h
      obtain ⟨e, l⟩ := cd_part h
      refine ⟨?_, by show i + s.sg + 1 ≤ a.sg + b.sg + 1; omega⟩
      show Sum.inl ("to" : Str) :: (a.cd ++ b.cd) = Sum.inl ("to" : Str) :: ((a.cd ++ b.cd).take i ++ s.cd ++ (a.cd ++ b.cd).drop (i + s.sg))
      rw [List.take_append_of_le_length (by omega), List.drop_append_of_le_length (by omega), ← List.append_assoc, ← e]
    · rw [List.getElem?_append_right (by rw [subs_len]; omega), subs_len] at h
      obtain ⟨e, l⟩ := cd_part h
      refine ⟨?_, by show i + s.sg + 1 ≤ a.sg + b.sg + 1; omega⟩
      show Sum.inl ("to" : Str) :: (a.cd ++ b.cd) = Sum.inl ("to" : Str) :: ((a.cd ++ b.cd).take i ++ s.cd ++ (a.cd ++ b.cd).drop (i + s.sg))
      rw [List.take_append, List.drop_append, List.take_of_length_le (l := a.cd) (by omega), List.drop_of_length_le (l := a.cd) (by omega), la, List.nil_append, show i + s.sg - a.sg = i - a.sg + s.sg by omega, List.append_assoc, List.append_assoc, ← List.append_assoc (b.cd.take _), ← e]
theorem sub_all {p : Str → Bool} : ∀ {b s : Bt} {i : Nat}, b.all p = true → b.subs[i]? = some s → s.all p = true
  | b, s, 0, hb, h => by
    rw [subs_zero] at h
    cases h
    exact hb
  | bd _, s, i + 1, _, h => nomatch h
  | fr _, s, i + 1, _, h => nomatch h
  | of b, s, i + 1, hb, h => sub_all (b := b) (i := i) hb h
  | to a b, s, i + 1, hb, h => by
    obtain ⟨h1, h2⟩ := Bool.and_eq_true_iff.mp (show (a.all p && b.all p) = true from hb)
    have h : (a.subs ++ b.subs)[i]? = some s := h
    by_cases c : i < a.subs.length
    · rw [List.getElem?_append_left c] at h
      exact sub_all h1 h
    · rw [List.getElem?_append_right (by omega)] at h
      exact sub_all h2 h
/-! ### steps by the sign's index -/
def stepAt : Bt → Nat → Bt
  | to (of b) c, 0 => hand c 0 b
  | of b, i + 1 => of (stepAt b i)
  | to a b, i + 1 => if i < a.sg then to (stepAt a i) b else to a (stepAt b (i - a.sg))
  | b, _ => b
def isStep : Bt → Bool
  | to (of _) _ => true
  | _ => false
theorem cd_step {x c : Bt} : ∀ {b : Bt} {i : Nat}, b.subs[i]? = some (to (of x) c) → (stepAt b i).cd = b.cd.take i ++ (hand c 0 x).cd ++ b.cd.drop (i + (x.sg + c.sg + 2))
  | b, 0, h => by
    rw [subs_zero] at h
    cases h
    rw [List.take_zero, List.nil_append, Nat.zero_add, List.drop_of_length_le (by rw [cd_len]; show x.sg + 1 + c.sg + 1 ≤ _; omega), List.append_nil]
    rfl
  | bd _, i + 1, h => nomatch h
  | fr _, i + 1, h => nomatch h
  | of b, i + 1, h => by
    have e := cd_step (b := b) (i := i) h
    rw [show i + 1 + (x.sg + c.sg + 2) = (i + (x.sg + c.sg + 2)) + 1 by omega]
    show Sum.inl ("of" : Str) :: (stepAt b i).cd = Sum.inl ("of" : Str) :: (b.cd.take i ++ _ ++ b.cd.drop (i + (x.sg + c.sg + 2)))
    rw [e]
  | to a b, i + 1, h => by
    have h : (a.subs ++ b.subs)[i]? = some (to (of x) c) := h
    have la := cd_len a
    rw [show i + 1 + (x.sg + c.sg + 2) = (i + (x.sg + c.sg + 2)) + 1 by omega]
    have e0 : stepAt (to a b) (i + 1) = if i < a.sg then to (stepAt a i) b else to a (stepAt b (i - a.sg)) := by
      cases a <;> rfl
    rw [e0]
    by_cases c' : i < a.sg
    · rw [List.getElem?_append_left (by rw [subs_len]; exact c')] at h
      have e := cd_step h
      obtain ⟨_, l⟩ := cd_part h
      have l : i + (x.sg + 1 + c.sg + 1) ≤ a.sg := l
      rw [if_pos c']
      show Sum.inl ("to" : Str) :: ((stepAt a i).cd ++ b.cd) = Sum.inl ("to" : Str) :: ((a.cd ++ b.cd).take i ++ _ ++ (a.cd ++ b.cd).drop (i + (x.sg + c.sg + 2)))
      rw [e, List.take_append_of_le_length (by omega), List.drop_append_of_le_length (by omega), ← List.append_assoc]
    · rw [List.getElem?_append_right (by rw [subs_len]; omega), subs_len] at h
      have e := cd_step h
      rw [if_neg c']
      show Sum.inl ("to" : Str) :: (a.cd ++ (stepAt b (i - a.sg)).cd) = Sum.inl ("to" : Str) :: ((a.cd ++ b.cd).take i ++ _ ++ (a.cd ++ b.cd).drop (i + (x.sg + c.sg + 2)))
      rw [e, List.take_append, List.drop_append, List.take_of_length_le (l := a.cd) (by omega), List.drop_of_length_le (l := a.cd) (by omega), la, List.nil_append, show i + (x.sg + c.sg + 2) - a.sg = i - a.sg + (x.sg + c.sg + 2) by omega, List.append_assoc, List.append_assoc, List.append_assoc]
/-- a step stands where "to" and "of" stand one behind the other -/
def toOf (l : List Cd) (i : Nat) : Bool := decide (l[i]? = some (.inl "to")) && decide (l[i + 1]? = some (.inl "of"))
theorem ne_of {z : Str} (h : okN z = true) : z ≠ "of" := fun e => by subst e; exact absurd (not_of.symm.trans h) Bool.false_ne_true
theorem ne_to {z : Str} (h : okN z = true) : z ≠ "to" := fun e => by subst e; exact absurd (not_to.symm.trans h) Bool.false_ne_true
theorem head_of {b : Bt} (h : b.all okN = true) : b.cd[0]? = some (.inl "of") ↔ ∃ x, b = of x := by
  cases b with
  | bd n => exact ⟨fun e => (nomatch e), fun ⟨x, e⟩ => (nomatch e)⟩
  | fr z => exact ⟨fun e => absurd (Sum.inl.inj (Option.some.inj e)) (ne_of h), fun ⟨x, e⟩ => (nomatch e)⟩
  | of x => exact ⟨fun _ => ⟨x, rfl⟩, fun _ => rfl⟩
  | to a c => exact ⟨fun e => absurd (Sum.inl.inj (Option.some.inj e)) (by decide +kernel), fun ⟨x, e⟩ => (nomatch e)⟩
theorem head_to {b : Bt} (h : b.all okN = true) : b.cd[0]? = some (.inl "to") ↔ ∃ x c, b = to x c := by
  cases b with
  | bd n => exact ⟨fun e => (nomatch e), fun ⟨x, c, e⟩ => (nomatch e)⟩
  | fr z => exact ⟨fun e => absurd (Sum.inl.inj (Option.some.inj e)) (ne_to h), fun ⟨x, c, e⟩ => (nomatch e)⟩
  | of x => exact ⟨fun e => absurd (Sum.inl.inj (Option.some.inj e)) (by decide +kernel), fun ⟨x, c, e⟩ => (nomatch e)⟩
  | to a c => exact ⟨fun _ => ⟨a, c, rfl⟩, fun _ => rfl⟩
theorem cd_at {b s : Bt} {i j : Nat} (h : b.subs[i]? = some s) (hj : j < s.sg) : b.cd[i + j]? = s.cd[j]? := by
  obtain ⟨e, l⟩ := cd_part h
  have lt : (b.cd.take i).length = i := by rw [List.length_take, cd_len]; omega
  rw [e, List.append_assoc, List.getElem?_append_right (by omega), lt, List.getElem?_append_left (by rw [cd_len]; omega), show i + j - i = j by omega]
theorem sg_one (b : Bt) : 1 ≤ b.sg := b.sg_pos
theorem toOf_step {b s : Bt} {i : Nat} (hb : b.all okN = true) (h : b.subs[i]? = some s) : toOf b.cd i = isStep s := by
  have hs := sub_all hb h
  have h0 := cd_at (j := 0) h (sg_one s)
  rw [Nat.add_zero] at h0
  unfold toOf
  rw [h0]
  cases s with
  | bd n => rfl
  | fr z =>
    rw [show decide ((fr z).cd[0]? = some (Sum.inl ("to" : Str))) = false from decide_eq_false (fun e => ne_to hs (Sum.inl.inj (Option.some.inj e)))]
    rfl
  | of x =>
    rw [show decide ((of x).cd[0]? = some (Sum.inl ("to" : Str))) = false from decide_eq_false (fun e => absurd (Sum.inl.inj (Option.some.inj e)) (by decide +kernel : ¬ ("of" : Str) = "to"))]
    rfl
  | to a c =>
    have l1 := sg_one a
    have h1 := cd_at (j := 1) h (by show 1 < a.sg + c.sg + 1; omega)
    rw [decide_eq_true (show (to a c).cd[0]? = some (.inl "to") from rfl), h1, Bool.true_and]
    have e1 : (to a c).cd[1]? = a.cd[0]? := by
      show (a.cd ++ c.cd)[0]? = _
      rw [List.getElem?_append_left (by rw [cd_len]; omega)]
    rw [e1]
    have ha := (Bool.and_eq_true_iff.mp (show (a.all okN && c.all okN) = true from hs)).1
    by_cases q : a.cd[0]? = some (.inl "of")
    · obtain ⟨x, rfl⟩ := (head_of ha).mp q
      rw [decide_eq_true q]
      rfl
    · rw [decide_eq_false q]
      cases a with
      | of x => exact absurd rfl q
      | bd _ => rfl
      | fr _ => rfl
      | to _ _ => rfl
theorem sub_get (b : Bt) {i : Nat} (h : i < b.sg) : ∃ s, b.subs[i]? = some s := by
  rw [← subs_len] at h
  exact ⟨b.subs[i], List.getElem?_eq_getElem h⟩
/-- where the first step can be done -/
def fstI (b : Bt) : Option Nat := (List.range b.sg).find? (toOf b.cd)
theorem fst_some {b : Bt} {i : Nat} (hb : b.all okN = true) (h : fstI b = some i) : ∃ x c, b.subs[i]? = some (to (of x) c) := by
  have h1 := List.find?_some h
  have h2 : i < b.sg := List.mem_range.mp (List.mem_of_find?_eq_some h)
  obtain ⟨s, hs⟩ := sub_get b h2
  rw [toOf_step hb hs] at h1
  match s, h1 with
  | to (of x) c, _ => exact ⟨x, c, hs⟩
theorem fst_none {b : Bt} (h : fstI b = none) {i : Nat} : toOf b.cd i = false := by
  by_cases c : i < b.sg
  · have := List.find?_eq_none.mp h i (List.mem_range.mpr c)
    cases e : toOf b.cd i with
    | true => exact absurd e this
    | false => rfl
  · unfold toOf
    rw [List.getElem?_eq_none (by rw [cd_len]; omega)]
    rfl
theorem fst_least {b : Bt} {i : Nat} (h : fstI b = some i) {j : Nat} (hj : j < i) : toOf b.cd j = false := by
  unfold fstI at h
  rw [List.find?_range_eq_some] at h
  have := h.2.2 j hj
  cases e : toOf b.cd j with
  | true => rw [e] at this; cases this
  | false => rfl
/-- after a step at i no step stands two places ahead of it or more -/
theorem after_step {b x c : Bt} {i : Nat} (h : b.subs[i]? = some (to (of x) c)) (hf : ∀ j, j < i → toOf b.cd j = false) {j : Nat} (hj : j + 1 < i) : toOf (stepAt b i).cd j = false := by
  have e := cd_step h
  have l := subs_lt h
  have lt : (b.cd.take i).length = i := by rw [List.length_take, cd_len]; omega
  have get : ∀ k, k < i → (stepAt b i).cd[k]? = b.cd[k]? := fun k hk => by
    rw [e, List.append_assoc, List.getElem?_append_left (by omega), List.getElem?_take_of_lt hk]
  unfold toOf
  rw [get j (by omega), get (j + 1) hj]
  exact hf j (by omega)
theorem step_all {x c : Bt} {p : Str → Bool} : ∀ {b : Bt} {i : Nat}, b.all p = true → b.subs[i]? = some (to (of x) c) → (stepAt b i).all p = true
  | b, 0, hb, h => by
    rw [subs_zero] at h
    cases h
    obtain ⟨h1, h2⟩ := Bool.and_eq_true_iff.mp (show (x.all p && c.all p) = true from hb)
    have li : ∀ (by_ : Nat) (t : Bt) (k : Nat), t.all p = true → (lift by_ k t).all p = true := by
      intro by_ t
      induction t with
      | bd n => intro k _; rfl
      | fr z => intro k h; exact h
      | of t ih => intro k h; exact ih (k + 1) h
      | to t u i1 i2 =>
        intro k h
        obtain ⟨a, b⟩ := Bool.and_eq_true_iff.mp (show (t.all p && u.all p) = true from h)
        show ((lift by_ k t).all p && (lift by_ k u).all p) = true
        rw [i1 k a, i2 k b]
        rfl
    have ha : ∀ (t : Bt) (k : Nat), t.all p = true → (hand c k t).all p = true := by
      intro t
      induction t with
      | bd n =>
        intro k _
        show (if n = k then lift k 0 c else bd _).all p = true
        by_cases e : n = k
        · rw [if_pos e]; exact li k c 0 h2
        · rw [if_neg e]; rfl
      | fr z => intro k h; exact h
      | of t ih => intro k h; exact ih (k + 1) h
      | to t u i1 i2 =>
        intro k h
        obtain ⟨a, b⟩ := Bool.and_eq_true_iff.mp (show (t.all p && u.all p) = true from h)
        show ((hand c k t).all p && (hand c k u).all p) = true
        rw [i1 k a, i2 k b]
        rfl
    exact ha x 0 h1
  | bd _, i + 1, _, h => nomatch h
  | fr _, i + 1, _, h => nomatch h
  | of b, i + 1, hb, h => step_all (b := b) (i := i) hb h
  | to a b, i + 1, hb, h => by
    obtain ⟨h1, h2⟩ := Bool.and_eq_true_iff.mp (show (a.all p && b.all p) = true from hb)
    have h : (a.subs ++ b.subs)[i]? = some (to (of x) c) := h
    have e0 : stepAt (to a b) (i + 1) = if i < a.sg then to (stepAt a i) b else to a (stepAt b (i - a.sg)) := by
      cases a <;> rfl
    rw [e0]
    by_cases c' : i < a.sg
    · rw [List.getElem?_append_left (by rw [subs_len]; exact c')] at h
      rw [if_pos c']
      show ((stepAt a i).all p && b.all p) = true
      rw [step_all h1 h, h2]
      rfl
    · rw [List.getElem?_append_right (by rw [subs_len]; omega), subs_len] at h
      rw [if_neg c']
      show (a.all p && (stepAt b (i - a.sg)).all p) = true
      rw [h1, step_all h2 h]
      rfl
end Bt
end TG
set_option maxHeartbeats 400000
/-! rows of codes on the heap: what is promised of them -/
namespace TG
open PySem PySem.Spec L2
open PyProof.Rows hiding St
abbrev FoB := List (Bt × Nat)
def fbS (fs : FoB) : List Bt := fs.flatMap fun p => p.1.subs
def fbD (fs : FoB) : List Nat := fs.flatMap fun p => p.1.deps p.2
def fbV (fs : FoB) : List V := fs.reverse.map fun p => V.int (p.2 : Int)
theorem fbV_cons (p : Bt × Nat) (fs : FoB) : fbV (p :: fs) = fbV fs ++ [V.int (p.2 : Int)] := by
  unfold fbV
  rw [List.reverse_cons, List.map_append]
  rfl
theorem fbV_len (fs : FoB) : (fbV fs).length = fs.length := by unfold fbV; rw [List.length_map, List.length_reverse]
theorem fbS_len : ∀ fs : FoB, fs.length ≤ (fbS fs).length
  | [] => Nat.zero_le _
  | p :: fs => by
    have h1 := p.1.sg_pos
    have h2 := fbS_len fs
    show fs.length + 1 ≤ (p.1.subs ++ fbS fs).length
    rw [List.length_append, p.1.subs_len]
    omega
theorem fbS_head : ∀ {fs : FoB} {s : Bt} {r : List Bt}, fbS fs = s :: r → ∃ d fs', fs = (s, d) :: fs' ∧ s.subs ++ fbS fs' = s :: r
  | [], s, r, h => nomatch h
  | (t, d) :: fs, s, r, h => by
    have h : t.subs ++ fbS fs = s :: r := h
    have e : t = s := by
      cases t <;> (injection h with h1 _)
    subst e
    exact ⟨d, fs, rfl, h⟩
namespace Bt
/-- a part's first code -/
def hdC : Bt → Cd
  | bd n => .inr n
  | fr z => .inl z
  | of _ => .inl "of"
  | to _ _ => .inl "to"
theorem cd_head : ∀ b : Bt, b.cd[0]? = some b.hdC
  | bd _ => rfl
  | fr _ => rfl
  | of _ => rfl
  | to _ _ => rfl
theorem cd_sub {b s : Bt} {i : Nat} (h : b.subs[i]? = some s) : b.cd[i]? = some s.hdC := by
  have e := cd_at (j := 0) h s.sg_pos
  rw [Nat.add_zero, cd_head] at e
  exact e
end Bt
def cvs (b : Bt) : List V := b.cd.map cdV
theorem cvs_len (b : Bt) : (cvs b).length = b.sg := by
  unfold cvs
  rw [List.length_map, Bt.cd_len]
theorem cvs_at {b s : Bt} {i : Nat} (h : b.subs[i]? = some s) : (cvs b)[i]? = some (cdV s.hdC) := by
  unfold cvs
  rw [List.getElem?_map, Bt.cd_sub h]
  rfl
def spDepthsB : Sp := fun vs H Q _ => ∃ (r : Addr) (b : Bt), vs = [.ref r] ∧ H r = some (.lst (cvs b)) ∧ b.all okN = true ∧ b.sg ≤ 2000 ∧
  ∀ (a : Addr) (H' : Hp), Same H H' → H a = none → H' a = some (.lst (natV (b.deps 0))) → Q (.ref a) H'
/-- a writing's words as a row -/
def skel : Wr → Bt
  | .nm _ => .fr "name"
  | .of _ b => .of (skel b)
  | .to a b => .to (skel a) (skel b)
theorem skel_cvs : ∀ w : Wr, cvs (skel w) = wdV w
  | .nm _ => rfl
  | .of x b => congrArg (V.str "of" :: ·) (skel_cvs b)
  | .to a b => by
    show V.str "to" :: ((skel a).cd ++ (skel b).cd).map cdV = V.str "to" :: (a.subs ++ b.subs).map fun s => V.str s.wd
    rw [List.map_append, List.map_append]
    exact congrArg (V.str "to" :: ·) (congr (congrArg _ (skel_cvs a)) (skel_cvs b))
theorem skel_ok : ∀ w : Wr, (skel w).all okN = true
  | .nm _ => (by decide +kernel : okN "name" = true)
  | .of x b => skel_ok b
  | .to a b => by
    show ((skel a).all okN && (skel b).all okN) = true
    rw [skel_ok a, skel_ok b]
    rfl
theorem skel_deps : ∀ (w : Wr) (d : Nat), (skel w).deps d = w.deps d
  | .nm _, _ => rfl
  | .of x b, d => congrArg (d :: ·) (skel_deps b (d + 1))
  | .to a b, d => by
    show d :: ((skel a).deps d ++ (skel b).deps d) = d :: (a.deps d ++ b.deps d)
    rw [skel_deps a, skel_deps b]
theorem skel_sg : ∀ w : Wr, (skel w).sg = w.sg
  | .nm _ => rfl
  | .of x b => congrArg (· + 1) (skel_sg b)
  | .to a b => by
    show (skel a).sg + (skel b).sg + 1 = a.sg + b.sg + 1
    rw [skel_sg a, skel_sg b]
/-- a row from a place on: a part ahead of something -/
def spPartEnd : Sp := fun vs H Q _ => ∃ (r : Addr) (l : List V) (s : Bt) (i : Nat), vs = [.ref r, .int (i : Int)] ∧ H r = some (.lst l) ∧ (∃ rest, l.drop i = cvs s ++ rest) ∧ s.all okN = true ∧ s.sg ≤ 4000 ∧ Q (.int ((i + s.sg : Nat) : Int)) H
def looseB : Cd × Nat → Bool
  | (.inr n, d) => decide (d ≤ n)
  | (.inl _, _) => false
def spIsLoose : Sp := fun vs H Q _ => ∃ (c : Cd) (d : Nat), vs = [cdV c, .int (d : Int)] ∧ Q (.bl (looseB (c, d))) H
/-- the loose places of a row -/
def looseI (t : Bt) : List Nat := (List.range t.sg).filter fun i => match (t.zc 0)[i]? with | some (.inr n, d) => decide (d ≤ n) | _ => false
def spMoved : Sp := fun vs H Q _ => ∃ (r l : Addr) (t : Bt) (k : Nat), vs = [.ref r, .ref l, .int (k : Int)] ∧ H r = some (.lst (cvs t)) ∧ H l = some (.lst (natV (looseI t))) ∧ t.sg ≤ 2000 ∧
  ∀ (a : Addr) (H' : Hp), Same H H' → H a = none → H' a = some (.lst (cvs (Bt.lift k 0 t))) → Q (.ref a) H'
def spPutIn : Sp := fun vs H Q _ => ∃ (r o : Addr) (b t : Bt), vs = [.ref r, .ref o] ∧ H r = some (.lst (cvs b)) ∧ H o = some (.lst (cvs t)) ∧ b.all okN = true ∧ t.all okN = true ∧ b.sg + t.sg ≤ 2000 ∧
  ∀ (a : Addr) (H' : Hp), Same H H' → H a = none → H' a = some (.lst (cvs (Bt.hand t 0 b))) → Q (.ref a) H'
def spStepped : Sp := fun vs H Q _ => ∃ (r : Addr) (b x c : Bt) (i : Nat), vs = [.ref r, .int (i : Int)] ∧ H r = some (.lst (cvs b)) ∧ b.all okN = true ∧ b.sg ≤ 2000 ∧ b.subs[i]? = some (.to (.of x) c) ∧
  ∀ (a : Addr) (H' : Hp), Same H H' → H' a = some (.lst (cvs (Bt.stepAt b i))) → Q (.ref a) H'
def spFirst : Sp := fun vs H Q _ => ∃ (r : Addr) (b : Bt) (i : Nat), vs = [.ref r, .int (i : Int)] ∧ H r = some (.lst (cvs b)) ∧ b.all okN = true ∧ b.sg ≤ 2000 ∧ i ≤ 4000 ∧ (∀ j, j < i → Bt.toOf b.cd j = false) ∧
  Q (match Bt.fstI b with | none => .non | some k => .int (k : Int)) H
theorem lift_sg (by_ : Nat) : ∀ (t : Bt) (k : Nat), (Bt.lift by_ k t).sg = t.sg
  | .bd _, _ => rfl
  | .fr _, _ => rfl
  | .of b, k => congrArg (· + 1) (lift_sg by_ b (k + 1))
  | .to a b, k => by
    show (Bt.lift by_ k a).sg + (Bt.lift by_ k b).sg + 1 = a.sg + b.sg + 1
    rw [lift_sg by_ a k, lift_sg by_ b k]
theorem hand_sg (t : Bt) : ∀ (b : Bt) (k : Nat), (Bt.hand t k b).sg ≤ b.sg * t.sg
  | .bd n, k => by
    have := t.sg_pos
    show (if n = k then Bt.lift k 0 t else .bd _).sg ≤ 1 * t.sg
    by_cases e : n = k
    · rw [if_pos e, lift_sg]; omega
    · rw [if_neg e]; show 1 ≤ _; omega
  | .fr z, k => by
    have := t.sg_pos
    show 1 ≤ 1 * t.sg
    omega
  | .of b, k => by
    have h := hand_sg t b (k + 1)
    have := t.sg_pos
    show (Bt.hand t (k + 1) b).sg + 1 ≤ (b.sg + 1) * t.sg
    rw [Nat.add_mul]
    omega
  | .to a b, k => by
    have h1 := hand_sg t a k
    have h2 := hand_sg t b k
    have := t.sg_pos
    show (Bt.hand t k a).sg + (Bt.hand t k b).sg + 1 ≤ (a.sg + b.sg + 1) * t.sg
    rw [Nat.add_mul, Nat.add_mul]
    omega
end TG
namespace TF18
open PySem PySem.Spec L2 TG TA
open PyProof.Rows hiding St
abbrev sDepths : Stmt := top 39
abbrev sCodes : Stmt := top 40
theorem scDepths : FnScope ["row", "depths", "left", "item", "depth"] ["row"] (defScope sDepths) := ⟨rfl, rfl, rfl, by decide +kernel, rfl, by decide +kernel, by decide +kernel⟩
theorem scCodes : FnScope ["layout", "depths", "word", "_", "codes", "at", "name", "binder"] ["layout"] (defScope sCodes) := ⟨rfl, rfl, rfl, by decide +kernel, rfl, by decide +kernel, by decide +kernel⟩
section
variable {P : Program} {w : World} {K : PySem.W.Frag} {mg : Str → Option Value} {base : Heap} {f f1 f2 f3 : Addr} {fd fd1 fd2 fd3 : FuncData}
theorem ok_depths (F : Fun K "depths_in" "depths_in" sDepths f fd) (T : Bn mg) (W : Lw mg) : FnOk P w K mg base CX0 1 f fd ["row"] spDepthsB := by
  refine F.ok scDepths (fun vs H Q E h => ?_) (fun cdv A outer s H vs Q E hr h => ?_)
  · obtain ⟨r, wr, rfl, _⟩ := h
    rfl
  obtain ⟨r, wr, rfl, hr0, hok, hn, q⟩ := h
  obtain ⟨tOf, gOf⟩ := W.of_
  obtain ⟨tTo, gTo⟩ := W.to_
  refine ⟨_, (pss_cons (ps_set (i := 1) scDepths.nd rfl (.inl rfl) (pe_lst pa_nil))
      (pss_cons (ps_set (i := 2) scDepths.nd rfl (.inl rfl) (pe_lst (pa_cons pe_int pa_nil)))
      (pss_cons (ps_for PassesOwn.never rfl (pi_list (pv 0)) (pg_name (i := 3) scDepths.nd rfl (.inl rfl))
        (pss_cons (ps_set (i := 4) scDepths.nd rfl (.inl rfl) (pe_bm0 PySem.F.plainAttrs_list PySem.F.slot_list_pop PySem.F.type_list_pop mt_pop (pv 2)))
        (pss_cons (ps_expr (pe_bm PySem.F.plainAttrs_list PySem.F.slot_list_append PySem.F.type_list_append mt_append (pv 1) (pa_cons (pv 4) pa_nil)))
        (pss_one (ps_if (pt_cmpR op_eq (pv 3) (pe_glob (v := .str "of") rfl gOf ⟨_, rfl⟩) (nomark _)) (pss_one (ps_expr (pe_bm PySem.F.plainAttrs_list PySem.F.slot_list_append PySem.F.type_list_append mt_append (pv 2) (pa_cons (pe_op op_add (pv 4) pe_int) pa_nil)))) (pss_one (ps_if (pt_cmpR op_eq (pv 3) (pe_glob (v := .str "to") rfl gTo ⟨_, rfl⟩) (nomark _)) (pss_one (ps_expr (pe_bm PySem.F.plainAttrs_list PySem.F.slot_list_extend PySem.F.type_list_extend mt_extend (pv 2) (pa_cons (pe_lst (pa_cons (pv 4) (pa_cons (pv 4) pa_nil))) pa_nil)))) pss_nil)))))))
      (pss_one (ps_ret (pv 1)))))), ?_⟩
  refine ⟨Nat.zero_le _, fun D hD => ⟨(by show 1 ≤ sizeLine; decide), fun L hL => ⟨_, rfl, r, rfl, ?_⟩⟩⟩
  have s1 : Same H (L2.upd H D (.lst [])) := same_new hD
  have D0 : H D = none := hD
  have L0 : H L = none := s1.free hL
  have nDL : D ≠ L := ne_of_none upd_same hL
  have s2 : Same H (L2.upd (L2.upd H D (.lst [])) L (.lst [.int 0])) := same_put s1 L0
  refine ⟨⟨_, SqL.of (s2 _ _ hr0)⟩, ?_⟩
  refine for_list (xs := cvs wr) (fun k σ H2 => ∃ (v3 v4 : Option V) (fs : FoB) (dn : List Nat), σ = [some (.ref r), some (.ref D), some (.ref L), v3, v4] ∧ Same H H2 ∧ H2 D = some (.lst (natV dn)) ∧ H2 L = some (.lst (fbV fs)) ∧ wr.subs.drop k = fbS fs ∧ wr.deps 0 = dn ++ fbD fs ∧ dn.length = k) ?_ ?_ ?_ ?_
  · exact ⟨none, none, [(wr, 0)], [], rfl, s2, by rw [upd_ne nDL, upd_same]; rfl, by rw [upd_same]; rfl, by show wr.subs = wr.subs ++ []; rw [List.append_nil], by show wr.deps 0 = wr.deps 0 ++ []; rw [List.append_nil], rfl⟩
  · rintro k σ H2 _ ⟨_, _, _, _, _, s3, _⟩
    exact SqL.of (s3 _ _ hr0)
  · rintro k x σ H2 hx ⟨v3, v4, fs, dn, rfl, s3, hd, hl, hdr, hde, hk⟩
    have hkn : k < wr.sg := by rw [← cvs_len]; exact lt_get hx
    obtain ⟨s', hs'⟩ := wr.sub_get hkn
    rw [cvs_at hs'] at hx
    cases hx
    have hdr2 : fbS fs = s' :: wr.subs.drop (k + 1) := by rw [← hdr, List.drop_eq_getElem_cons (by rw [wr.subs_len]; exact hkn)]; congr 1; exact (List.getElem?_eq_some_iff.mp hs').2
    obtain ⟨d, fs', rfl, hrest⟩ := fbS_head hdr2
    rw [fbV_cons] at hl
    have hfl : fs'.length + 1 ≤ 2000 := by
      have h1 := fbS_len ((s', d) :: fs')
      rw [hdr2] at h1
      have h2 : (wr.subs.drop (k + 1)).length + 1 ≤ wr.sg := by rw [List.length_drop, wr.subs_len]; omega
      have h3 : fs'.length + 1 ≤ (wr.subs.drop (k + 1)).length + 1 := h1
      omega
    refine ⟨_, rfl, .inl ⟨rfl, _, SqL.of hl⟩, L, _, .int (d : Int), rfl, rfl, hl, last_snoc _ _, ?_⟩
    rw [List.dropLast_concat]
    have hd1 : (L2.upd H2 L (.lst (fbV fs'))) D = some (.lst (natV dn)) := by rw [upd_ne nDL]; exact hd
    refine ⟨_, rfl, .inl ⟨rfl, _, SqL.of hd1⟩, _, rfl, D, _, _, rfl, rfl, hd1, by rw [natV_len]; exact small_le (by omega), ?_⟩
    have s4 : Same H (L2.upd (L2.upd H2 L (.lst (fbV fs'))) D (.lst (natV dn ++ [.int (d : Int)]))) := same_put (same_put s3 L0) D0
    have hd2 : (L2.upd (L2.upd H2 L (.lst (fbV fs'))) D (.lst (natV dn ++ [.int (d : Int)]))) D = some (.lst (natV (dn ++ [d]))) := by rw [upd_same, natV_app]; rfl
    have hl2 : (L2.upd (L2.upd H2 L (.lst (fbV fs'))) D (.lst (natV dn ++ [.int (d : Int)]))) L = some (.lst (fbV fs')) := by rw [upd_ne (Ne.symm nDL), upd_same]
    generalize (L2.upd (L2.upd H2 L (.lst (fbV fs'))) D (.lst (natV dn ++ [.int (d : Int)]))) = H3 at s4 hd2 hl2 ⊢
    have hk2 : (dn ++ [d]).length = k + 1 := by rw [List.length_append, hk]; rfl
    cases s' with
    | bd n =>
      refine ⟨_, rfl, rfl, _, rfl, ?_⟩
      rw [show decide (cdV (Bt.bd n).hdC = V.str "of") = false from decide_eq_false (fun e => V.noConfusion e)]
      refine iteF ⟨_, rfl, rfl, _, rfl, ?_⟩
      rw [show decide (cdV (Bt.bd n).hdC = V.str "to") = false from decide_eq_false (fun e => V.noConfusion e)]
      refine iteF ⟨_, _, fs', dn ++ [d], rfl, s4, hd2, hl2, ?_, ?_, hk2⟩
      · injection hrest with _ h; exact h.symm
      · rw [hde, List.append_assoc]; rfl
    | fr z =>
      have hz : okN z = true := Bt.sub_all hok hs'
      refine ⟨_, rfl, rfl, _, rfl, ?_⟩
      rw [show decide (cdV (Bt.fr z).hdC = V.str "of") = false from decide_eq_false (fun e => Bt.ne_of hz (by injection e))]
      refine iteF ⟨_, rfl, rfl, _, rfl, ?_⟩
      rw [show decide (cdV (Bt.fr z).hdC = V.str "to") = false from decide_eq_false (fun e => Bt.ne_to hz (by injection e))]
      refine iteF ⟨_, _, fs', dn ++ [d], rfl, s4, hd2, hl2, ?_, ?_, hk2⟩
      · injection hrest with _ h; exact h.symm
      · rw [hde, List.append_assoc]; rfl
    | of b =>
      refine ⟨_, rfl, rfl, _, rfl, iteT ?_⟩
      refine ⟨_, rfl, .inl ⟨rfl, _, SqL.of hl2⟩, _, rfl, _, _, rfl, rfl, L, _, _, rfl, rfl, hl2, by rw [fbV_len]; exact small_le (by omega), ?_⟩
      refine ⟨_, _, (b, d + 1) :: fs', dn ++ [d], rfl, same_put s4 L0, by rw [upd_ne nDL]; exact hd2, by rw [upd_same, fbV_cons]; rfl, ?_, ?_, hk2⟩
      · injection hrest with _ h; exact h.symm
      · rw [hde, List.append_assoc]; rfl
    | to a b =>
      refine ⟨_, rfl, rfl, _, rfl, ?_⟩
      rw [show decide (cdV (Bt.to a b).hdC = V.str "of") = false from (by decide +kernel : decide (V.str "to" = V.str "of") = false)]
      refine iteF ⟨_, rfl, rfl, _, rfl, iteT ?_⟩
      refine ⟨_, rfl, .inl ⟨rfl, _, SqL.of hl2⟩, _, rfl, _, rfl, (by show 2 ≤ sizeLine; decide), fun z hz => ?_⟩
      have nLz : L ≠ z := ne_of_none hl2 hz
      have nDz : D ≠ z := ne_of_none hd2 hz
      refine ⟨L, z, _, _, rfl, rfl, by rw [upd_ne nLz]; exact hl2, upd_same, by rw [fbV_len]; exact Nat.le_of_lt (small_le (by show fs'.length + 2 ≤ 1000000; omega)), ?_⟩
      refine ⟨_, _, (a, d) :: (b, d) :: fs', dn ++ [d], rfl, same_put (s4.trans (same_new hz)) L0, by rw [upd_ne nDL, upd_ne nDz]; exact hd2, by rw [upd_same, fbV_cons, fbV_cons, List.append_assoc]; rfl, ?_, ?_, hk2⟩
      · injection hrest with _ h
        rw [← h]
        show (a.subs ++ b.subs) ++ fbS fs' = a.subs ++ (b.subs ++ fbS fs')
        rw [List.append_assoc]
      · rw [hde, List.append_assoc]
        show dn ++ (d :: (a.deps d ++ b.deps d) ++ fbD fs') = dn ++ (d :: (a.deps d ++ (b.deps d ++ fbD fs')))
        rw [List.cons_append, List.append_assoc]
  · rintro σ H2 ⟨v3, v4, fs, dn, rfl, s3, hd, hl, hdr, hde, hk⟩
    rw [cvs_len] at hk
    have e : dn = wr.deps 0 := by
      have h1 := wr.deps_len 0
      rw [hde, List.length_append] at h1
      have h2 : fbD fs = [] := List.length_eq_zero_iff.mp (by omega)
      rw [hde, h2, List.append_nil]
    rw [e] at hd
    exact ⟨_, rfl, q D H2 s3 hD hd⟩
theorem ok_codes {C fI : Addr} (F : Fun K "codes_of" "codes_of" sCodes f fd) (T : Bn mg) (W : Lw mg) (Z : LayC K mg C fI) (D_depths_in : Df K mg "depths_in" sDepths f1 fd1 ["row"]) (G_depths_in : FnOk P w K mg base CX0 1 f1 fd1 ["row"] spDepthsB) : FnOk P w K mg base CX0 2 f fd ["layout"] (spCodes C) := by
  refine F.ok scCodes (fun vs H Q E h => ?_) (fun cdv A outer s H vs Q E hr h => ?_)
  · obtain ⟨l, wr, rfl, _⟩ := h
    rfl
  obtain ⟨l, wr, rfl, ⟨g, e, b, a, d, dx, hl, ⟨ts, hg, hgl, hgt⟩, he, hb, ha, ⟨xs, hd, hx, hxs⟩⟩, hn, q⟩ := h
  obtain ⟨tNm, gNm⟩ := W.nm_
  refine ⟨_, (pss_cons (ps_set (i := 1) scCodes.nd rfl (.inl rfl) (pe_cd D_depths_in G_depths_in hr (by decide) (pa_cons (pe_lc (own := [("word", 2), ("_", 3)]) (g := (gTup K 2 (gCons (gName 2) (gCons (gName 3) gNil)))) (by rfl) scCodes.nd (pi_list (pe_fld (pv 0) (by rfl))) (blkOk_by (own := [("word", 2), ("_", 3)]) (N := ["layout", "depths", "word", "_", "codes", "at", "name", "binder"]) (sc := defScope sCodes) (by decide +kernel)) (fun _ _ _ _ _ => (pg_tup (by rfl) (pgs_cons (pg_name (i := 2) scCodes.nd rfl (.inl rfl)) (pgs_cons (pg_name (i := 3) scCodes.nd rfl (.inl rfl)) pgs_nil)))) (fun _ _ _ _ _ => pts_nil) (fun _ _ _ _ _ => (pv 2))) pa_nil)))
      (pss_cons (ps_set (i := 4) scCodes.nd rfl (.inl rfl) (pe_lst pa_nil))
      (pss_cons (ps_for PassesOwn.never rfl (pi_enum (by rfl) T.b_enumerate (pa_cons (pe_fld (pv 0) (by rfl)) pa_nil)) (pg_tup (by rfl) (pgs_cons (pg_name (i := 5) scCodes.nd rfl (.inl rfl)) (pgs_cons (pg_tup (by rfl) (pgs_cons (pg_name (i := 2) scCodes.nd rfl (.inl rfl)) (pgs_cons (pg_name (i := 6) scCodes.nd rfl (.inl rfl)) pgs_nil))) pgs_nil)))
        (pss_cons (ps_set (i := 7) scCodes.nd rfl (.inl rfl) (pe_ix ix_list (pe_fld (pv 0) (by rfl)) (pv 5) (fun _ _ => rfl)))
        (pss_one (ps_if (pt_cmpR op_ne (pv 2) (pe_glob (v := .str "name") rfl gNm ⟨_, rfl⟩) (nomark _)) (pss_one (ps_expr (pe_bm PySem.F.plainAttrs_list PySem.F.slot_list_append PySem.F.type_list_append mt_append (pv 4) (pa_cons (pv 2) pa_nil)))) (pss_one (ps_if (pt_cmpR op_isN (pv 7) pe_non (nomark _)) (pss_one (ps_expr (pe_bm PySem.F.plainAttrs_list PySem.F.slot_list_append PySem.F.type_list_append mt_append (pv 4) (pa_cons (pv 6) pa_nil)))) (pss_one (ps_expr (pe_bm PySem.F.plainAttrs_list PySem.F.slot_list_append PySem.F.type_list_append mt_append (pv 4) (pa_cons (pe_op op_sub (pe_op op_sub (pe_ix ix_list (pv 1) (pv 5) (fun _ _ => rfl)) (pe_ix ix_list (pv 1) (pv 7) (fun _ _ => rfl))) pe_int) pa_nil))))))))))
      (pss_one (ps_ret (pv 4)))))), ?_⟩
  have hnl : (ts.map V.ref).length = wr.sg := by rw [List.length_map, hgl]
  refine ⟨_, rfl, l, C, dx, _, _, rfl, hl, Z.cl, Z.nS, lay_signs g e b a d, g, rfl, ⟨_, SqL.of hg⟩, fun D hD => ?_⟩
  refine lc_it (walk_list (xs := ts.map V.ref)) (fun i H2 => Same H H2 ∧ H2 D = some (.lst ((wdV wr).take i))) ?_ ?_ ?_ ?_
  · exact ⟨same_new hD, by rw [upd_same, List.take_zero]⟩
  · rintro i H2 _ ⟨s2, _⟩
    exact SqL.of (s2 _ _ hg)
  · rintro i x H2 H3 hi ⟨s2, h2⟩ ⟨rfl, hx'⟩
    rw [List.getElem?_map] at hx'
    obtain ⟨t, ht, rfl⟩ := Option.map_eq_some_iff.mp hx'
    rw [hnl] at hi
    obtain ⟨s', hs'⟩ := wr_get wr hi
    have ht2 := s2 _ _ (hgt i s' t hs' ht)
    exact ⟨t, _, rfl, SqT.of ht2, rfl, _, _, rfl, _, _, rfl, rfl, rfl, _, rfl, _, h2, by rw [List.length_take, wdV_len]; exact small_le (by omega), same_put s2 hD, by rw [upd_same, take_snoc (wdV_at hs')]⟩
  rintro H2 ⟨s2, h2⟩
  rw [hnl, List.take_of_length_le (by rw [wdV_len]; exact Nat.le_refl _)] at h2
  refine ⟨D, skel wr, rfl, by rw [skel_cvs]; exact h2, skel_ok wr, by rw [skel_sg]; exact hn, fun dp H3 s3 _ hdp => ?_⟩
  rw [skel_deps] at hdp
  have s13 : Same H H3 := s2.trans s3
  refine ⟨Nat.zero_le _, fun c hc => ?_⟩
  have c0 : H c = none := s13.free hc
  have ndc : dp ≠ c := ne_of_none hdp hc
  have s4 : Same H (L2.upd H3 c (.lst [])) := same_put s13 c0
  refine ⟨_, rfl, l, C, dx, _, _, rfl, s4 _ _ hl, Z.cl, Z.nS, lay_signs g e b a d, g, _, rfl, SqL.of (s4 _ _ hg), ?_⟩
  refine for_it (walk_enum (xs := ts.map V.ref)) (fun k σ H5 => ∃ (v2 v3 v5 v6 v7 : Option V) (ys : List Cd), σ = [some (.ref l), some (.ref dp), v2, v3, some (.ref c), v5, v6, v7] ∧ Same H H5 ∧ H5 dp = some (.lst (natV (wr.deps 0))) ∧ H5 c = some (.lst (ys.map cdV)) ∧ ys.length = k ∧ ∀ i s, i < k → wr.subs[i]? = some s → ys[i]? = some (Wr.codeAt (s, wr.env i))) ?_ ?_ ?_ ?_
  · exact ⟨_, _, none, none, none, [], rfl, s4, by rw [upd_ne ndc]; exact hdp, upd_same, rfl, fun i s hi => absurd hi (Nat.not_lt_zero i)⟩
  · rintro i σ H5 _ ⟨_, _, _, _, _, _, _, s5, _⟩
    exact SqL.of (s5 _ _ hg)
  · rintro k x σ H5 H6 hk ⟨v2, v3, v5, v6, v7, ys, rfl, s5, hdp5, hc5, hyl, hys⟩ ⟨tp, y1, y2, rfl, htp, rfl, e1, e2⟩
    cases e1
    rw [hnl] at hk
    obtain ⟨s', hs'⟩ := wr_get wr hk
    have e2 : (ts.map V.ref)[k]? = some y2 := e2
    rw [List.getElem?_map] at e2
    obtain ⟨t, ht, rfl⟩ := Option.map_eq_some_iff.mp e2
    have s6 : Same H (L2.upd H5 tp (.tup [.int ((k : Nat) : Int), .ref t])) := s5.trans (same_new htp)
    have ht2 := s6 _ _ (hgt k s' t hs' ht)
    have nct : c ≠ tp := ne_of_none hc5 htp
    have ndt : dp ≠ tp := ne_of_none hdp5 htp
    have hc6 : (L2.upd H5 tp (.tup [.int ((k : Nat) : Int), .ref t])) c = some (.lst (ys.map cdV)) := by rw [upd_ne nct]; exact hc5
    have hdp6 : (L2.upd H5 tp (.tup [.int ((k : Nat) : Int), .ref t])) dp = some (.lst (natV (wr.deps 0))) := by rw [upd_ne ndt]; exact hdp5
    refine ⟨tp, _, rfl, SqT.of upd_same, rfl, _, _, rfl, _, _, rfl, t, _, rfl, SqT.of ht2, rfl, _, _, rfl, _, _, rfl, rfl, rfl, ?_⟩
    generalize (L2.upd H5 tp (.tup [.int ((k : Nat) : Int), .ref t])) = H6 at s6 ht2 hc6 hdp6 ⊢
    refine ⟨_, rfl, l, C, dx, _, _, rfl, s6 _ _ hl, Z.cl, Z.nI, lay_binders g e b a d, _, rfl, d, _, _, _, rfl, rfl, SqL.of (s6 _ _ hd), atI_nat (hxs k hk), ?_⟩
    have fin : ∀ cd : Cd, Wr.codeAt (s', wr.env k) = cd → ∀ v2 v3 v5 v6 v7 : Option V, ∃ (w2 w3 w5 w6 w7 : Option V) (zs : List Cd), [some (V.ref l), some (.ref dp), v2, v3, some (.ref c), v5, v6, v7] = [some (.ref l), some (.ref dp), w2, w3, some (.ref c), w5, w6, w7] ∧ Same H (L2.upd H6 c (.lst (ys.map cdV ++ [cdV cd]))) ∧
        (L2.upd H6 c (.lst (ys.map cdV ++ [cdV cd]))) dp = some (.lst (natV (wr.deps 0))) ∧ (L2.upd H6 c (.lst (ys.map cdV ++ [cdV cd]))) c = some (.lst (zs.map cdV)) ∧ zs.length = k + 1 ∧ ∀ i s, i < k + 1 → wr.subs[i]? = some s → zs[i]? = some (Wr.codeAt (s, wr.env i)) := by
      intro cd hcd v2 v3 v5 v6 v7
      refine ⟨_, _, _, _, _, ys ++ [cd], rfl, same_put s6 c0, by rw [upd_ne ndc]; exact hdp6, by rw [upd_same, List.map_append]; rfl, by rw [List.length_append, hyl]; rfl, fun i s hi hs => ?_⟩
      by_cases z : i < k
      · rw [List.getElem?_append_left (by omega)]
        exact hys i s z hs
      · obtain rfl : i = k := by omega
        rw [List.getElem?_append_right (by omega), hyl, Nat.sub_self]
        rw [hs'] at hs
        cases hs
        rw [hcd]
        rfl
    have hcl : (ys.map cdV).length < sizeLine := by rw [List.length_map]; exact small_le (by omega)
    refine ⟨_, rfl, rfl, _, rfl, ?_⟩
    cases s' with
    | of x b' =>
      rw [show (!decide (V.str (Wr.of x b').wd = V.str "name")) = true from (by decide +kernel : (!decide (V.str "of" = V.str "name")) = true)]
      exact iteT ⟨_, rfl, .inl ⟨rfl, _, SqL.of hc6⟩, _, rfl, c, _, _, rfl, rfl, hc6, hcl, fin (.inl "of") rfl _ _ _ _ _⟩
    | to b' c' =>
      rw [show (!decide (V.str (Wr.to b' c').wd = V.str "name")) = true from (by decide +kernel : (!decide (V.str "to" = V.str "name")) = true)]
      exact iteT ⟨_, rfl, .inl ⟨rfl, _, SqL.of hc6⟩, _, rfl, c, _, _, rfl, rfl, hc6, hcl, fin (.inl "to") rfl _ _ _ _ _⟩
    | nm z =>
      have eb : wr.bnd k = Wr.find z (wr.env k) := by unfold Wr.bnd; rw [hs']
      rw [show (!decide (V.str (Wr.nm z).wd = V.str "name")) = false from (by decide +kernel : (!decide (V.str "name" = V.str "name")) = false)]
      refine iteF ⟨_, rfl, rfl, _, rfl, ?_⟩
      rw [eb] at *
      cases cf : Wr.find z (wr.env k) with
      | none =>
        refine iteT ⟨_, rfl, .inl ⟨rfl, _, SqL.of hc6⟩, _, rfl, c, _, _, rfl, rfl, hc6, hcl, ?_⟩
        refine fin (.inl z) ?_ _ _ _ _ _
        show (if z ∈ (wr.env k).map (·.1) then _ else _) = _
        rw [if_neg (Wr.find_none.mp cf)]
      | some j =>
        obtain ⟨h1, h2⟩ := Wr.find_depth (wr.chain_env hk) cf
        have hm : z ∈ (wr.env k).map (·.1) := by
          by_cases c : z ∈ (wr.env k).map (·.1)
          · exact c
          · rw [Wr.find_none.mpr c] at cf; cases cf
        refine iteF ⟨_, rfl, .inl ⟨rfl, _, SqL.of hc6⟩, _, rfl, _, rfl, dp, _, _, _, rfl, rfl, SqL.of hdp6, atI_nat (natV_at (Wr.deps_at hk)), _, rfl, _, rfl, dp, _, _, _, rfl, rfl, SqL.of hdp6, atI_nat (natV_at (Wr.deps_at h2)), _, _, rfl, rfl, _, _, rfl, rfl, c, _, _, rfl, rfl, hc6, hcl, ?_⟩
        have e3 : V.int (((wr.env k).length : Int) - ((wr.env j).length : Int) - 1) = cdV (.inr (((wr.env k).map (·.1)).idxOf z)) := by
          show _ = V.int ((((wr.env k).map (·.1)).idxOf z : Nat) : Int)
          congr 1
          omega
        have f2 := fin (.inr (((wr.env k).map (·.1)).idxOf z)) (by
          show (if z ∈ (wr.env k).map (·.1) then _ else _) = _
          rw [if_pos hm])
        rw [← e3] at f2
        exact f2 _ _ _ _ _
  · rintro σ H5 ⟨v2, v3, v5, v6, v7, ys, rfl, s5, hdp5, hc5, hyl, hys⟩
    rw [hnl] at hyl hys
    rw [Wr.code_list wr ys hyl fun i s hs => hys i s (Wr.subs_lt hs) hs] at hc5
    exact ⟨_, rfl, q c H5 s5 hc5⟩
end
end TF18
set_option maxHeartbeats 400000
/-! own rule: d.get(k, x) of a dict of the module's top with texts for ints, k a text or an integer -/
namespace TG
open PySem PySem.Spec L2
open PyProof.Rows hiding St
/-- texts and what stands with them -/
def ksOf : List DictEntry → Option (List (Str × Int))
  | [] => some []
  | e :: r => match e.key, e.val with
    | .str x _, .int n _ => (ksOf r).map ((x, n) :: ·)
    | _, _ => none
def findS : List (Str × Int) → Str → Option Int
  | [], _ => none
  | (y, n) :: r, x => if y = x then some n else findS r x
theorem ks_shape : ∀ {l : List DictEntry} {ks : List (Str × Int)}, ksOf l = some ks → ∀ (k : Key), match (match k with | .inl _ => none | .inr x => findS ks x) with
    | none => l.find? (fun e => keyIs k e.key) = none
    | some n => ∃ e t, l.find? (fun e => keyIs k e.key) = some e ∧ e.val = .int n t
  | [], ks, h, k => by
    have h : some [] = some ks := h
    cases h
    cases k <;> exact rfl
  | e :: r, ks, h, k => by
    unfold ksOf at h
    split at h
    · rename_i x t n u ek ev
      obtain ⟨ks', h1, rfl⟩ := Option.map_eq_some_iff.mp h
      have ih := ks_shape h1 k
      cases k with
      | inl i =>
        have f : keyIs (.inl i) e.key = false := by rw [ek]; rfl
        show List.find? _ (e :: r) = none
        rw [List.find?_cons, f]
        exact ih
      | inr y =>
        show (match (if x = y then some n else findS ks' y) with | none => _ | some n => _)
        by_cases c : x = y
        · subst c
          rw [if_pos rfl]
          have f : keyIs (.inr x) e.key = true := by rw [ek]; exact keyIs_str x t
          exact ⟨e, u, by rw [List.find?_cons, f], ev⟩
        · rw [if_neg c]
          have f : keyIs (.inr y) e.key = false := by
            cases q : keyIs (.inr y) e.key with
            | false => rfl
            | true =>
              rcases keyIs_shape q with ⟨i, t', e1, _⟩ | ⟨z, t', e1, e2⟩
              · cases e1
              · cases e1
                rw [ek] at e2
                injection e2 with e2
                exact absurd e2 c
          rw [List.find?_cons, f]
          exact ih
    · cases h
/-- such a dict stands there, and holds just these -/
def KDis (K : PySem.W.Frag) (w : World) (a : Addr) (ks : List (Str × Int)) : Prop := ∃ es n, K.lookup a = some ⟨.type "dict", none, .dict es n, #[]⟩ ∧ PySem.W.KeysLit w.params es.toList ∧ (a == sysModules) = false ∧ ksOf es.toList = some ks
def kdGet (ks : List (Str × Int)) (k : Key) : Option Int := match k with | .inl _ => none | .inr x => findS ks x
def gotV (ks : List (Str × Int)) (k : Key) (z : V) : V := match kdGet ks k with | some n => .int n | none => z
def tKGetM (K : PySem.W.Frag) (w : World) (td ty tx : TE) : TE := fun σ H Q => td σ H fun x H1 => ∃ a ks, x = .ref a ∧ KDis K w a ks ∧ ty σ H1 fun y H2 => tx σ H2 fun z H3 => ∃ k : Key, y = kV k ∧ Q (gotV ks k z) H3
section
variable {X : Cx} {o e f : Expr} {apos cpos : Pos} {td ty tx : TE}
theorem pe_kgetM (ho : PE X o td) (he : PE X e ty) (hf : PE X f tx) (m : M2 X o "get" apos e f cpos) : PE X (.Call (.Attribute o "get" apos) [e, f] [] cpos) (tKGetM X.K X.w td ty tx) := by
  refine ⟨fun pins s σ H Q I h => ?_⟩
  refine wpAny_Call_method m.base m.few m.line PySem.F.plainAttrs_dict PySem.F.slot_dict_get PySem.F.type_dict_get (thn (ho.run pins s σ H _ I h) fun u s1 ⟨x, H1, I1, rx, a, ks, ex, ⟨es, n, hl, hk, hs, hks⟩, q1⟩ => ?_)
  subst ex
  obtain rfl : u = Value.ref a := rx
  have hm1 := PySem.W.mapOf_K (prog := X.prog) (w := X.w) I1.kIn hl hk
  refine ⟨hm1.typeIs, fun b q => ?_, ?_⟩
  · cases q
    exact ⟨_, I1.kIn _ _ hl, rfl⟩
  rw [m.trees]
  refine Calls.callWith_builtin rfl (Calls.evalArgs_plain (Calls.spliced_cons (thn (he.run pins s1 σ H1 _ I1 q1) fun iv s2 ⟨y, H2, I2, ry, q2⟩ =>
    Calls.spliced_cons (thn (hf.run pins s2 σ H2 _ I2 q2) fun fv s3 ⟨z, H3, I3, rz, k, ey, q3⟩ => Calls.spliced_nil ?_))))
  subst ey
  have hm0 := PySem.W.mapOf_K (prog := X.prog) (w := X.w) I3.kIn hl hk
  have hm : s3.heap.MapOf (mixKind X.prog X.w) a (fun k => findBy keyIs es k) := ⟨_, es, n, I3.kIn _ _ hl, ⟨rfl, rfl, rfl⟩, rfl, fun e he => by
    obtain ⟨x, t, e1, e2⟩ := hk.all e (Array.mem_toList_iff.mpr he)
    exact ⟨.inr x, by rw [e1]; exact keyIs_str x t, e2⟩, fun _ => rfl⟩
  refine call_meetsIn PySem.F.slot_dict_get hm0.typeIs PySem.F.entry_dict_get (PySem.F.args_dict_get_3 _ _ _) (meets_dict_get_default (mixKind X.prog X.w) a (kV_is ry) hs fv) ⟨_, hm, ?_⟩
  have sh := ks_shape hks k
  have ef : findBy keyIs es k = (es.toList.find? fun e => keyIs k e.key).map (·.val) := by
    obtain ⟨l⟩ := es
    unfold findBy
    rw [List.find?_toArray]
  rw [ef]
  unfold gotV kdGet at q3
  cases hc : (match k with | .inl _ => none | .inr x => findS ks x : Option Int) with
  | none =>
    rw [hc] at sh q3
    rw [show es.toList.find? (fun e => keyIs k e.key) = none from sh]
    exact ⟨z, H3, I3.tok _, rz, q3⟩
  | some n =>
    rw [hc] at sh q3
    obtain ⟨e, t, e1, e2⟩ := (show ∃ e t, es.toList.find? (fun e => keyIs k e.key) = some e ∧ e.val = .int n t from sh)
    rw [e1]
    refine ⟨.int n, H3, I3.tok _, ?_, q3⟩
    show RelV (.int n) e.val
    rw [e2]
    exact ⟨_, rfl⟩
end
end TG
set_option maxHeartbeats 400000
/-! rows of codes: the parts behind each item; the dict of their numbers -/
namespace TG
open PySem PySem.Spec L2
open PyProof.Rows hiding St
def partsD : List (Str × Int) := [("of", 1), ("to", 2), (">", 2)]
structure Pm (K : PySem.W.Frag) (w : World) (mg : Str → Option Value) : Prop where
  at_ : ∃ a, mg "PARTS" = some (.ref a) ∧ KDis K w a partsD
def kidsB : Bt → List Bt
  | .of b => [b]
  | .to a b => [a, b]
  | _ => []
def cdK : Cd → Key
  | .inl z => .inr z
  | .inr n => .inl (n : Int)
theorem cdK_V (c : Cd) : cdV c = kV (cdK c) := by cases c <;> rfl
theorem not_gt : okN (">" : Str) = false := by decide +kernel
theorem kids_get {b : Bt} (h : b.all okN = true) : gotV partsD (cdK b.hdC) (V.int 0) = V.int ((kidsB b).length : Int) := by
  cases b with
  | bd n => rfl
  | fr z =>
    have hz : okN z = true := h
    have e : findS partsD z = none := by
      show (if ("of" : Str) = z then some (1 : Int) else if ("to" : Str) = z then some 2 else if (">" : Str) = z then some 2 else none) = none
      rw [if_neg (fun e => Bt.ne_of hz e.symm), if_neg (fun e => Bt.ne_to hz e.symm), if_neg (fun e => by subst e; exact absurd (not_gt.symm.trans hz) Bool.false_ne_true)]
    show (match findS partsD z with | some n => V.int n | none => V.int 0) = V.int 0
    rw [e]
  | of b => rfl
  | to a b =>
    show (match findS partsD "to" with | some n => V.int n | none => V.int 0) = V.int 2
    rw [show findS partsD "to" = some 2 from by decide +kernel]
theorem kids_ok {b : Bt} (h : b.all okN = true) : ∀ k ∈ kidsB b, k.all okN = true := by
  cases b with
  | bd n => exact fun k hk => nomatch hk
  | fr z => exact fun k hk => nomatch hk
  | of b => exact fun k hk => by rw [List.mem_singleton.mp hk]; exact h
  | to a b =>
    have h : (a.all okN && b.all okN) = true := h
    rw [Bool.and_eq_true] at h
    intro k hk
    rcases List.mem_cons.mp hk with rfl | hk
    · exact h.1
    · rw [List.mem_singleton.mp hk]; exact h.2
def rowV (fs : List Bt) : List V := fs.flatMap cvs
def sgs (fs : List Bt) : Nat := (fs.map Bt.sg).sum
theorem cvs_kids (b : Bt) : cvs b = cdV b.hdC :: rowV (kidsB b) := by
  cases b with
  | bd n => rfl
  | fr z => rfl
  | of b =>
    show cdV (.inl "of") :: cvs b = cdV (.inl "of") :: (cvs b ++ [])
    rw [List.append_nil]
  | to a b =>
    show cdV (.inl "to") :: (a.cd ++ b.cd).map cdV = cdV (.inl "to") :: (cvs a ++ (cvs b ++ []))
    rw [List.append_nil, List.map_append]
    rfl
theorem rowV_cons (b : Bt) (fs : List Bt) : rowV (b :: fs) = cdV b.hdC :: rowV (kidsB b ++ fs) := by
  show cvs b ++ rowV fs = _
  rw [cvs_kids]
  show cdV b.hdC :: (rowV (kidsB b) ++ rowV fs) = cdV b.hdC :: (kidsB b ++ fs).flatMap cvs
  rw [List.flatMap_append]
  rfl
theorem sgs_cons (b : Bt) (fs : List Bt) : sgs (b :: fs) = sgs (kidsB b ++ fs) + 1 := by
  show b.sg + sgs fs = ((kidsB b ++ fs).map Bt.sg).sum + 1
  rw [List.map_append, List.sum_append]
  show b.sg + sgs fs = ((kidsB b).map Bt.sg).sum + sgs fs + 1
  have e : b.sg = ((kidsB b).map Bt.sg).sum + 1 := by
    cases b with
    | bd n => rfl
    | fr z => rfl
    | of b => rfl
    | to a b => show a.sg + b.sg + 1 = a.sg + (b.sg + 0) + 1; omega
  omega
theorem sgs_len : ∀ fs : List Bt, fs.length ≤ sgs fs
  | [] => Nat.zero_le _
  | b :: fs => by
    have h1 := b.sg_pos
    have h2 := sgs_len fs
    show fs.length + 1 ≤ b.sg + sgs fs
    omega
end TG
set_option maxHeartbeats 400000
/-! loose codes of a row; what is handed in, code by code -/
namespace TG
open PySem PySem.Spec L2
open PyProof.Rows hiding St
theorem mem_loose {t : Bt} {j : Nat} {p : Cd × Nat} (h : (t.zc 0)[j]? = some p) : j ∈ looseI t ↔ looseB p = true := by
  unfold looseI
  rw [List.mem_filter, h]
  have hl : j < t.sg := by rw [← t.zc_len 0]; exact lt_get h
  obtain ⟨c, d⟩ := p
  cases c with
  | inl z => exact ⟨fun x => absurd x.2 Bool.false_ne_true, fun x => absurd x Bool.false_ne_true⟩
  | inr n => exact ⟨fun x => x.2, fun x => ⟨List.mem_range.mpr hl, x⟩⟩
theorem loose_lt {t : Bt} {j : Nat} (h : j ∈ looseI t) : j < t.sg := List.mem_range.mp (List.mem_filter.mp h).1
theorem loose_nodup (t : Bt) : (looseI t).Nodup := List.nodup_range.sublist List.filter_sublist
theorem zc_get {t : Bt} {j : Nat} (h : j < t.sg) (d : Nat) : ∃ p, (t.zc d)[j]? = some p := get_lt (by rw [t.zc_len]; exact h)
theorem zc_cd {t : Bt} {j d : Nat} {p : Cd × Nat} (h : (t.zc d)[j]? = some p) : t.cd[j]? = some p.1 ∧ (t.deps d)[j]? = some p.2 := by
  unfold Bt.zc at h
  rw [List.getElem?_zip_eq_some] at h
  exact h
theorem lift_not {k : Nat} {p : Cd × Nat} (h : looseB p = false) : Bt.liftC k p = p.1 := by
  obtain ⟨c, d⟩ := p
  cases c with
  | inl z => rfl
  | inr n =>
    show Sum.inr (if d ≤ n then n + k else n) = _
    rw [if_neg (of_decide_eq_false h)]
theorem lift_loose {k : Nat} {p : Cd × Nat} (h : looseB p = true) : ∃ n, p.1 = .inr n ∧ Bt.liftC k p = .inr (n + k) := by
  obtain ⟨c, d⟩ := p
  cases c with
  | inl z => exact absurd h Bool.false_ne_true
  | inr n =>
    refine ⟨n, rfl, ?_⟩
    show Sum.inr (if d ≤ n then n + k else n) = _
    rw [if_pos (of_decide_eq_true h)]
theorem lift_at {t : Bt} {k j : Nat} {p : Cd × Nat} (h : (t.zc 0)[j]? = some p) : (cvs (Bt.lift k 0 t))[j]? = some (cdV (Bt.liftC k p)) := by
  unfold cvs
  rw [Bt.lift_cd, List.getElem?_map, List.getElem?_map, h]
  rfl
/-- the values of one code of the body -/
theorem hand_eq {t : Bt} {n d : Nat} (h : n = d) : Bt.handC t (.inr n, d) = (Bt.lift d 0 t).cd := by
  show (if n = d then _ else _) = _
  rw [if_pos h]
theorem hand_gt {t : Bt} {n d : Nat} (h : n ≠ d) (h2 : looseB (.inr n, d) = true) : Bt.handC t (.inr n, d) = [.inr (n - 1)] ∧ 1 ≤ n := by
  have h2 : d ≤ n := of_decide_eq_true h2
  refine ⟨?_, by omega⟩
  show (if n = d then _ else [Sum.inr (if d < n then n - 1 else n)]) = _
  rw [if_neg h, if_pos (by omega)]
theorem hand_lt {t : Bt} {p : Cd × Nat} (h : looseB p = false) : Bt.handC t p = [p.1] := by
  obtain ⟨c, d⟩ := p
  cases c with
  | inl z => rfl
  | inr n =>
    have h : ¬ d ≤ n := of_decide_eq_false h
    show (if n = d then _ else [Sum.inr (if d < n then n - 1 else n)]) = _
    rw [if_neg (by omega), if_neg (by omega)]
theorem hand_len (t : Bt) : ∀ (l : List (Cd × Nat)), (l.flatMap (Bt.handC t)).length ≤ l.length * t.sg
  | [] => Nat.zero_le _
  | p :: l => by
    have ih := hand_len t l
    have h1 := t.sg_pos
    have h2 : (Bt.handC t p).length ≤ t.sg := by
      obtain ⟨c, d⟩ := p
      cases c with
      | inl z => exact h1
      | inr n =>
        show (if n = d then (Bt.lift d 0 t).cd else [_]).length ≤ _
        by_cases e : n = d
        · rw [if_pos e, Bt.cd_len, lift_sg]; exact Nat.le_refl _
        · rw [if_neg e]; exact h1
    show (Bt.handC t p ++ l.flatMap (Bt.handC t)).length ≤ (l.length + 1) * t.sg
    rw [List.length_append, Nat.add_mul]
    omega
/-- the loose places below i -/
def loU (t : Bt) (i : Nat) : List Nat := (List.range i).filter fun i => match (t.zc 0)[i]? with | some (.inr n, d) => decide (d ≤ n) | _ => false
theorem loU_succ {t : Bt} {i : Nat} {p : Cd × Nat} (h : (t.zc 0)[i]? = some p) : loU t (i + 1) = loU t i ++ if looseB p then [i] else [] := by
  unfold loU
  rw [List.range_succ, List.filter_append]
  congr 1
  obtain ⟨c, d⟩ := p
  cases c with
  | inl z => simp [h, looseB]
  | inr n => simp [h, looseB, List.filter_cons]
theorem loU_len (t : Bt) (i : Nat) : (loU t i).length ≤ i := by
  unfold loU
  refine Nat.le_trans (List.length_filter_le _ _) ?_
  rw [List.length_range]
  exact Nat.le_refl _
theorem cvs_zc {t : Bt} {i d : Nat} {p : Cd × Nat} (h : (t.zc d)[i]? = some p) : (cvs t)[i]? = some (cdV p.1) ∧ (natV (t.deps d))[i]? = some (.int (p.2 : Int)) := by
  obtain ⟨h1, h2⟩ := zc_cd h
  exact ⟨by unfold cvs; rw [List.getElem?_map, h1]; rfl, natV_at h2⟩
end TG
set_option maxHeartbeats 400000
/-! a row cut at a step -/
namespace TG
open PySem PySem.Spec L2
open PyProof.Rows hiding St
theorem cut_mid {xs : List V} {i j : Nat} (h : i ≤ j) (h2 : j ≤ xs.length) : cutV xs (some (i : Int)) (some (j : Int)) = (xs.drop i).take (j - i) := by
  unfold cutV
  rw [HT.sIx_nat, HT.sIx_nat, Nat.min_eq_left h2, Nat.min_eq_left (Nat.le_trans h h2)]
theorem step_cut {b x c : Bt} {i : Nat} (h : b.subs[i]? = some (.to (.of x) c)) : ∃ pre suf : List V, pre.length = i ∧ cvs b = pre ++ (cdV (.inl "to") :: (cvs (.of x) ++ (cvs c ++ suf))) ∧ cvs (Bt.stepAt b i) = pre ++ cvs (Bt.hand c 0 x) ++ suf := by
  obtain ⟨e, l⟩ := Bt.cd_part h
  have e2 := Bt.cd_step h
  refine ⟨(b.cd.take i).map cdV, (b.cd.drop (i + (x.sg + c.sg + 2))).map cdV, ?_, ?_, ?_⟩
  · rw [List.length_map, List.length_take, Bt.cd_len]
    omega
  · have l' : (Bt.to (.of x) c).sg = x.sg + c.sg + 2 := by show x.sg + 1 + c.sg + 1 = _; omega
    rw [l'] at e
    have e3 := congrArg (List.map cdV) e
    rw [List.map_append, List.map_append, List.append_assoc] at e3
    refine e3.trans (congrArg _ ?_)
    show cdV (.inl "to") :: (((Bt.of x).cd ++ c.cd).map cdV ++ _) = _
    rw [List.map_append, List.append_assoc]
    rfl
  · have e3 := congrArg (List.map cdV) e2
    rw [List.map_append, List.map_append] at e3
    exact e3
theorem drop_pre {α : Type} {pre r : List α} {i : Nat} (h : pre.length = i) : (pre ++ r).drop i = r := by subst h; exact List.drop_left
theorem take_pre {α : Type} {pre r : List α} {i : Nat} (h : pre.length = i) : (pre ++ r).take i = pre := by subst h; exact List.take_left
theorem cdV_str {c : Cd} {z : Str} : decide (cdV c = V.str z) = decide (c = .inl z) := by
  refine decide_eq_decide.mpr ?_
  cases c with
  | inl y => exact ⟨fun e => by injection e with e; rw [e], fun e => by injection e with e; rw [e]; rfl⟩
  | inr n => exact ⟨fun e => V.noConfusion e, fun e => nomatch e⟩
theorem scal_cd {c : Cd} {z : Str} : scal (cdV c) (V.str z) = true := by cases c <;> rfl
theorem toOf_end {b : Bt} {j : Nat} (h : b.sg ≤ j + 1) : Bt.toOf b.cd j = false := by
  unfold Bt.toOf
  rw [List.getElem?_eq_none (l := b.cd) (i := j + 1) (by rw [Bt.cd_len]; exact h)]
  exact Bool.and_false _
theorem fst_is {b : Bt} {m : Nat} (hm : m + 1 < b.sg) (h : Bt.toOf b.cd m = true) (h2 : ∀ j, j < m → Bt.toOf b.cd j = false) : Bt.fstI b = some m := by
  unfold Bt.fstI
  rw [List.find?_range_eq_some]
  exact ⟨h, List.mem_range.mpr (by omega), fun j hj => by rw [h2 j hj]; rfl⟩
theorem fst_no {b : Bt} (h2 : ∀ j, j + 1 < b.sg → Bt.toOf b.cd j = false) : Bt.fstI b = none := by
  unfold Bt.fstI
  rw [List.find?_eq_none]
  intro j hj
  by_cases c : j + 1 < b.sg
  · rw [h2 j c]; exact Bool.false_ne_true
  · rw [toOf_end (by omega)]; exact Bool.false_ne_true
end TG
/-! own rule: for i, (x, y) in enumerate(zip(list, list)), both of one length -/
namespace TG
open PySem PySem.Spec L2
open PyProof.Rows hiding St
/-- a zip, whatever it knows of the tuple that it gave out -/
abbrev ZZ (h : Heap) (z t o : Addr) (m : Value) (f : Bool) : Prop := h.get? z = some { cls := .type "zip", dict := none, data := .fields #[m, .bool f, .bool false, .ref t, .ref o], slots := #[] }
def Outs (m : Value) : Prop := m = .none ∨ ∃ T : Nat, m = rawInt T
/-- no other cells than these change -/
def Only (l : List Addr) (h h' : Heap) : Prop := ∀ c o, c ∉ l → h.get? c = some o → h'.get? c = some o
section
variable {prog : Program} {w : World} {A : Around} {E : Value → Shared → Prop} {s : Shared}
theorem zip_free {z t o : Addr} {m : Value} {f : Bool} {Q : Bool → Shared → Prop} (hz : ZZ s.heap z t o m f) (hm : Outs m) (qT : Q true s) (qF : ∀ h', ZZ h' z t o m true → Heap.SameBut z s.heap h' → Q false { s with heap := h' }) :
    wpAny (model prog w) A (Builtin.SmallTypes.ownedTupleIsFree (.ref z)) Q E s := by
  unfold Builtin.SmallTypes.ownedTupleIsFree
  rcases hm with rfl | ⟨T, rfl⟩
  · exact wpAny_bind (wpAny_field hz rfl (x := .none) rfl (wpAny_pure qT))
  · refine wpAny_bind (wpAny_field hz rfl (x := rawInt T) rfl ?_)
    show wpAny _ _ (loadIfAlive ((T : Int).toNat) >>= _) _ _ _
    rw [Int.toNat_natCast]
    have alive : ∀ {R : Option Obj → Shared → Prop}, R (s.heap.get? T) s → wpAny (model prog w) A (loadIfAlive T) R E s := fun h Γ p hΓ => h
    refine wpAny_bind (alive ?_)
    cases hT : s.heap.get? T with
    | none => exact wpAny_pure qT
    | some oT =>
      simp only [Option.isNone_some, Bool.false_eq_true, if_false]
      refine wpAny_bind (wpAny_field hz rfl (x := .bool f) rfl ?_)
      cases f with
      | true => exact wpAny_pure (qF s.heap hz (Heap.SameBut.refl _ _))
      | false => exact wpAny_bind (wpAny_setField_rec hz (by simp) fun h1 k1 k2 => wpAny_pure (qF h1 k1 k2))
theorem zip_item {z t o j1 j2 a b : Addr} {f : Bool} {m : Value} {k : Nat} {xs ys : Array Value} {x y c d : Value} {Q : Value → Shared → Prop} (D : ZipApart z t o j1 j2 a b) (hm : Outs m)
    (hz : ZZ s.heap z t o m f) (ht : IsPair s.heap t (.ref j1) (.ref j2)) (ho : IsPair s.heap o c d)
    (h1 : s.heap.IsListIter j1 a k) (h2 : s.heap.IsListIter j2 b k) (ha : s.heap.IsList a xs) (hb : s.heap.IsList b ys) (hx : xs[k]? = some x) (hy : ys[k]? = some y)
    (hQ : ∀ h' m' f' c' d', Outs m' → ZZ h' z t o m' f' → IsPair h' o c' d' → h'.IsListIter j1 a (k + 1) → h'.IsListIter j2 b (k + 1) → IsPair h' s.heap.objs.size x y → h'.objs.size = s.heap.objs.size + 1 → Only [z, o, j1, j2] s.heap h' → Q (.ref s.heap.objs.size) { s with heap := h' }) :
    wpAny (model prog w) A (Builtin.«zip.__next__» ⟨[.ref z], []⟩) (fun fin s' => ∃ v, fin = .done (.ret v) ∧ Q v s') E s := by
  show wpAny _ _ (field (.ref z) 2 >>= _) _ _ _
  refine wpAny_bind (wpAny_field hz rfl (x := .bool false) rfl ?_)
  refine wpAny_bind (wpAny_field hz rfl (x := .ref t) rfl ?_)
  refine wpAny_bind (wpAny_seqItems ht rfl ?_)
  show wpAny _ _ (Builtin.SmallTypes.ownedTupleIsFree (.ref z) >>= _) _ _ _
  refine wpAny_bind (zip_free hz hm ?_ fun g1 z1 s1 => ?_)
  · simp only [if_true]
    refine wpAny_bind (wpAny_rule ?_)
    refine wpAny_bind (wpAny_field hz rfl (x := .ref o) rfl ?_)
    refine wpAny_bind (wpAny_setField_rec hz (by simp) fun g1 z1 s1 => ?_)
    replace z1 : ZZ g1 z t o .ellipsis f := z1
    refine wpAny_bind ?_
    simp only [List.forIn_cons, List.forIn_nil, List.zipIdx_cons, List.zipIdx_nil]
    refine wpAny_bind (wpAny_bind (wpAny_onRaise (?_)))
    show wpAny _ _ (Builtin.SmallTypes.nextOf (.ref j1) >>= _) _ _ _
    refine wpAny_bind (wpAny_nextOf_list_item (h1.extBut s1.extBut D.i1z) (ha.extBut s1.extBut D.l1z) hx fun g2 i2 s2 => wpAny_pure ?_)
    have o2 : IsPair g2 o c d := s2.extBut _ _ D.TOi1 (s1.extBut _ _ D.TOz ho)
    refine wpAny_bind (wpAny_seqItems o2 rfl ?_)
    refine wpAny_bind (wpAny_updateSeq_pair o2 fun g3 o3 s3 => ?_)
    replace o3 : IsPair g3 o x d := o3
    refine wpAny_bind (wpAny_letGo (wpAny_pure (?_)))
    refine wpAny_bind (wpAny_bind (wpAny_onRaise (?_)))
    show wpAny _ _ (Builtin.SmallTypes.nextOf (.ref j2) >>= _) _ _ _
    refine wpAny_bind (wpAny_nextOf_list_item (((h2.extBut s1.extBut D.i2z).extBut s2.extBut D.i12.symm).extBut s3.extBut D.TOi2.symm)
      (((hb.extBut s1.extBut D.l2z).extBut s2.extBut D.l2i1).extBut s3.extBut D.l2TO) hy fun g4 i4 s4 => wpAny_pure ?_)
    have o4 : IsPair g4 o x d := s4.extBut _ _ D.TOi2 o3
    refine wpAny_bind (wpAny_seqItems o4 rfl ?_)
    refine wpAny_bind (wpAny_updateSeq_pair o4 fun g5 o5 s5 => ?_)
    replace o5 : IsPair g5 o x y := o5
    refine wpAny_bind (wpAny_letGo (wpAny_pure (wpAny_pure (?_))))
    refine wpAny_bind (wpAny_seqItems o5 rfl ?_)
    refine wpAny_bind (wpAny_newTuple (?_))
    have hsz : g5.objs.size = s.heap.objs.size := by rw [s5.1, s4.1, s3.1, s2.1, s1.1]
    have z5 : ZZ g5 z t o .ellipsis f := s5.extBut _ _ D.TOz.symm (s4.extBut _ _ D.i2z.symm (s3.extBut _ _ D.TOz.symm (s2.extBut _ _ D.i1z.symm z1)))
    have k5 : Only [z, o, j1, j2] s.heap g5 := fun c o' hc e => by
      simp only [List.mem_cons, List.not_mem_nil, or_false, not_or] at hc
      exact s5.extBut _ _ hc.2.1 (s4.extBut _ _ hc.2.2.2 (s3.extBut _ _ hc.2.1 (s2.extBut _ _ hc.2.2.1 (s1.extBut _ _ hc.1 e))))
    have i5 : g5.IsListIter j1 a (k + 1) := ((i2.extBut s3.extBut D.TOi1.symm).extBut s4.extBut D.i12).extBut s5.extBut D.TOi1.symm
    have n5 : g5.IsListIter j2 b (k + 1) := i4.extBut s5.extBut D.TOi2.symm
    have lz : z < g5.objs.size := Heap.lt_size z5
    show wpAny _ _ (Builtin.SmallTypes.ownedTupleHandOut (.ref z) (.ref g5.objs.size) >>= _) _ _ _
    refine wpAny_bind (?_)
    unfold Builtin.SmallTypes.ownedTupleHandOut
    have z6 : ZZ (g5.push { cls := .type "tuple", data := .seq #[x, y] }) z t o .ellipsis f := Heap.get?_push_of_some _ z5
    refine wpAny_bind (wpAny_setField_rec z6 (by simp) fun g7 z7 s7 => ?_)
    replace z7 : ZZ g7 z t o (rawInt g5.objs.size) f := z7
    refine wpAny_setField_rec z7 (by simp) fun g8 z8 s8 => ?_
    replace z8 : ZZ g8 z t o (rawInt g5.objs.size) false := z8
    have up : ∀ c o', c ≠ z → g5.get? c = some o' → g8.get? c = some o' := fun c o' c1 e => s8.extBut _ _ c1 (s7.extBut _ _ c1 (Heap.get?_push_of_some _ e))
    have t8 : IsPair g8 g5.objs.size x y := s8.extBut _ _ (Nat.ne_of_gt lz) (s7.extBut _ _ (Nat.ne_of_gt lz) (Heap.get?_push_size _ rfl))
    have e8 : g8.objs.size = g5.objs.size + 1 := by rw [s8.1, s7.1, Heap.size_push]
    rw [hsz] at t8 e8
    refine wpAny_pure ⟨_, rfl, (?_)⟩
    show Q (.ref g5.objs.size) _
    have fin := hQ g8 _ _ _ _ (.inr ⟨_, rfl⟩) z8 (up _ _ D.TOz o5) (i5.at fun o' e => up _ o' D.i1z e) (n5.at fun o' e => up _ o' D.i2z e) t8 e8 fun c o' hc e => up c o' (fun q => hc (by simp [q])) (k5 c o' hc e)
    rw [← hsz] at fin
    exact fin
  · simp only [Bool.false_eq_true, if_false]
    refine wpAny_bind (?_)
    rw [← Array.forIn_toList]
    simp only [List.forIn_nil, List.forIn_cons]
    refine wpAny_bind (wpAny_bind (wpAny_holding (?_)))
    show wpAny _ _ (Builtin.SmallTypes.nextOf (.ref j1) >>= _) _ _ _
    refine wpAny_bind (wpAny_nextOf_list_item (s := { s with heap := g1 }) (h1.extBut s1.extBut D.i1z) (ha.extBut s1.extBut D.l1z) hx fun g2 i2 s2 => wpAny_pure (?_))
    refine wpAny_pure (?_)
    refine wpAny_bind (wpAny_bind (wpAny_holding (?_)))
    show wpAny _ _ (Builtin.SmallTypes.nextOf (.ref j2) >>= _) _ _ _
    refine wpAny_bind (wpAny_nextOf_list_item (s := { s with heap := g2 }) ((h2.extBut s1.extBut D.i2z).extBut s2.extBut D.i12.symm) ((hb.extBut s1.extBut D.l2z).extBut s2.extBut D.l2i1) hy fun g3 i3 s3 => wpAny_pure (?_))
    refine wpAny_pure (wpAny_pure (?_))
    show wpAny _ _ (newTuple ([x, y]) >>= _) _ _ _
    refine wpAny_bind (wpAny_newTuple (?_))
    have hsz : g3.objs.size = s.heap.objs.size := by rw [s3.1, s2.1, s1.1]
    have z3 : ZZ g3 z t o m true := s3.extBut _ _ D.i2z.symm (s2.extBut _ _ D.i1z.symm z1)
    have o3 : IsPair g3 o c d := s3.extBut _ _ D.TOi2 (s2.extBut _ _ D.TOi1 (s1.extBut _ _ D.TOz ho))
    have k3 : Only [z, o, j1, j2] s.heap g3 := fun c o' hc e => by
      simp only [List.mem_cons, List.not_mem_nil, or_false, not_or] at hc
      exact s3.extBut _ _ hc.2.2.2 (s2.extBut _ _ hc.2.2.1 (s1.extBut _ _ hc.1 e))
    have i3' : g3.IsListIter j1 a (k + 1) := i2.extBut s3.extBut D.i12
    refine wpAny_pure ⟨_, rfl, (?_)⟩
    show Q (.ref g3.objs.size) _
    have t4 : IsPair (g3.push { cls := .type "tuple", data := .seq #[x, y] }) g3.objs.size x y := Heap.get?_push_size _ rfl
    have e4 : (g3.push { cls := .type "tuple", data := .seq #[x, y] }).objs.size = g3.objs.size + 1 := Heap.size_push ..
    rw [hsz] at t4 e4
    have fin := hQ _ _ _ _ _ hm (Heap.get?_push_of_some _ z3) (Heap.get?_push_of_some _ o3) (i3'.at fun o' e => Heap.get?_push_of_some _ e) (i3.at fun o' e => Heap.get?_push_of_some _ e) t4 e4 fun c o' hc e => Heap.get?_push_of_some _ (k3 c o' hc e)
    rw [← hsz] at fin
    exact fin
theorem zip_done {z t o j1 j2 a b : Addr} {f : Bool} {m : Value} {k : Nat} {xs : Array Value} {c d : Value} {Q : Fin → Shared → Prop} (hh : A.handled = none) (D : ZipApart z t o j1 j2 a b) (hm : Outs m)
    (hz : ZZ s.heap z t o m f) (ht : IsPair s.heap t (.ref j1) (.ref j2)) (ho : IsPair s.heap o c d)
    (h1 : s.heap.IsListIter j1 a k) (ha : s.heap.IsList a xs) (hx : xs[k]? = none)
    (hE : ∀ h' e, Only [z, o, j1, j2] s.heap h' → (∃ o', h'.get? e = some o' ∧ o'.cls = .type "StopIteration") → E (.ref e) { s with heap := h' }) :
    wpAny (model prog w) A (Builtin.«zip.__next__» ⟨[.ref z], []⟩) Q E s := by
  show wpAny _ _ (field (.ref z) 2 >>= _) _ _ _
  refine wpAny_bind (wpAny_field hz rfl (x := .bool false) rfl ?_)
  refine wpAny_bind (wpAny_field hz rfl (x := .ref t) rfl ?_)
  refine wpAny_bind (wpAny_seqItems ht rfl ?_)
  show wpAny _ _ (Builtin.SmallTypes.ownedTupleIsFree (.ref z) >>= _) _ _ _
  refine wpAny_bind (zip_free hz hm ?_ fun g1 z1 s1 => ?_)
  · simp only [if_true]
    refine wpAny_bind (wpAny_rule ?_)
    refine wpAny_bind (wpAny_field hz rfl (x := .ref o) rfl ?_)
    refine wpAny_bind (wpAny_setField_rec hz (by simp) fun g1 z1 s1 => ?_)
    replace z1 : ZZ g1 z t o .ellipsis f := z1
    refine wpAny_bind ?_
    simp only [List.forIn_cons, List.forIn_nil, List.zipIdx_cons, List.zipIdx_nil]
    refine wpAny_bind (wpAny_bind (wpAny_onRaise (?_)))
    show wpAny _ _ (Builtin.SmallTypes.nextOf (.ref j1) >>= _) _ _ _
    refine wpAny_bind (wpAny_nextOf_list_end hh (h1.extBut s1.extBut D.i1z) (ha.extBut s1.extBut D.l1z) hx fun g2 e s2 he => ?_)
    obtain ⟨oe, h3, h4⟩ := he
    have z2 : ZZ g2 z t o .ellipsis f := s2 _ _ D.i1z.symm z1
    have hez : e ≠ z := fun q => by subst q; rw [z2] at h3; cases h3; simp at h4
    refine wpAny_setField_rec z2 (by simp) fun g3 _ s3 => hE g3 e (fun c o' hc x => ?_) ⟨oe, s3.extBut _ _ hez h3, h4⟩
    simp only [List.mem_cons, List.not_mem_nil, or_false, not_or] at hc
    exact s3.extBut _ _ hc.1 (s2 _ _ hc.2.2.1 (s1.extBut _ _ hc.1 x))
  · simp only [Bool.false_eq_true, if_false]
    refine wpAny_bind (?_)
    rw [← Array.forIn_toList]
    simp only [List.forIn_nil, List.forIn_cons]
    refine wpAny_bind (wpAny_bind (wpAny_holding (?_)))
    show wpAny _ _ (Builtin.SmallTypes.nextOf (.ref j1) >>= _) _ _ _
    refine wpAny_bind (wpAny_nextOf_list_end (s := { s with heap := g1 }) hh (h1.extBut s1.extBut D.i1z) (ha.extBut s1.extBut D.l1z) hx fun g2 e s2 he => ?_)
    refine hE g2 e (fun c o' hc x => ?_) he
    simp only [List.mem_cons, List.not_mem_nil, or_false, not_or] at hc
    exact s2 _ _ hc.2.2.1 (s1.extBut _ _ hc.1 x)
/-- the next pair of such a walk -/
theorem ez_item {e z t o j1 j2 a b : Addr} {f : Bool} {m : Value} {k : Nat} {xs ys : Array Value} {x y c d old : Value} {Q : Option Value → Shared → Prop} (D : ZipApart z t o j1 j2 a b) (hm : Outs m) (he : IsEnum s.heap e z k old)
    (hz : ZZ s.heap z t o m f) (ht : IsPair s.heap t (.ref j1) (.ref j2)) (ho : IsPair s.heap o c d) (ne : e ∉ [z, o, j1, j2])
    (h1 : s.heap.IsListIter j1 a k) (h2 : s.heap.IsListIter j2 b k) (ha : s.heap.IsList a xs) (hb : s.heap.IsList b ys) (hx : xs[k]? = some x) (hy : ys[k]? = some y)
    (hQ : ∀ g1 h' tk m' f' c' d', IsPair g1 s.heap.objs.size x y → g1.objs.size = s.heap.objs.size + 1 → Only [z, o, j1, j2] s.heap g1 → (∀ b u, b ≠ e → g1.get? b = some u → h'.get? b = some u) → IsEnumOut h' e z ((k : Int) + 1) (.ref s.heap.objs.size) (s.heap.objs.size + 1) → Outs m' → ZZ h' z t o m' f' → IsPair h' o c' d' → h'.IsListIter j1 a (k + 1) → h'.IsListIter j2 b (k + 1) →
      IsPair h' s.heap.objs.size x y → IsPair h' (s.heap.objs.size + 1) (.int k tk) (.ref s.heap.objs.size) → Q (some (.ref (s.heap.objs.size + 1))) { s with heap := h', toks := tk + 1 }) :
    wpAny (model prog w) A (pyNext (.ref e)) Q E s := by
  have hT : s.TypeIs (.ref e) "enumerate" := ⟨_, he, rfl⟩
  have hTz : s.TypeIs (.ref z) "zip" := ⟨_, hz, rfl⟩
  unfold pyNext
  refine wpAny_bind (wpAny_attempt (wpAny_callSpecial?_slot (name := Str.ofString "__next__") hT F.slot_enumerate_next (wpAny_call_entry F.slot_enumerate_next hT F.entry_enumerate_next ?_ (F.args_enumerate_next_1 _))))
  show wpAny _ _ (field (.ref e) 2 >>= _) _ _ _
  refine wpAny_bind (wpAny_field he rfl (x := .ref z) rfl ?_)
  refine wpAny_bind ?_
  unfold Builtin.SmallTypes.nextOf
  refine wpAny_bind (wpAny_callSpecial?_slot (name := Str.ofString "__next__") hTz F.slot_zip_next (wpAny_call_entry F.slot_zip_next hTz F.entry_zip_next (zip_item D hm hz ht ho h1 h2 ha hb hx hy fun g1 m' f' c' d' n1 n2 n3 n4 n5 n6 n7 n8 => wpAny_pure ?_) (F.args_zip_next_1 _)))
  have e1 : IsEnum g1 e z k old := n8 e _ ne he
  have lt := Heap.lt_size he
  obtain ⟨hp, g, d', tk, os⟩ := s
  replace n6 : IsPair g1 hp.objs.size x y := n6
  replace n7 : g1.objs.size = hp.objs.size + 1 := n7
  replace n8 : Only [z, o, j1, j2] hp g1 := n8
  simp only [List.mem_cons, List.not_mem_nil, or_false, not_or] at ne
  show wpAny _ _ (field (.ref e) 3 >>= _) _ _ ⟨g1, g, d', tk, os⟩
  refine wpAny_bind (wpAny_field e1 rfl (x := rawInt k) rfl ?_)
  show wpAny _ _ (field (.ref e) 4 >>= _) _ _ ⟨g1, g, d', tk, os⟩
  refine wpAny_bind (wpAny_field e1 rfl (x := .none) rfl ?_)
  show wpAny _ _ (mkInt k >>= _) _ _ ⟨g1, g, d', tk, os⟩
  refine wpAny_bind (wpAny_mkInt (?_))
  show wpAny _ _ (setField (.ref e) 3 (rawInt ((k : Int) + 1)) >>= _) _ _ ⟨g1, g, d', tk + 1, os⟩
  refine wpAny_bind (wpAny_setField_rec e1 (by simp) fun g2 e2 s2 => ?_)
  replace s2 : Heap.SameBut e g1 g2 := s2
  replace e2 : IsEnum g2 e z ((k : Int) + 1) old := e2
  show wpAny _ _ (setField (.ref e) 4 .none >>= _) _ _ ⟨g2, g, d', tk + 1, os⟩
  refine wpAny_bind (wpAny_setField_rec e2 (by simp) fun g3 e3 s3 => ?_)
  replace s3 : Heap.SameBut e g2 g3 := s3
  replace e3 : IsEnum g3 e z ((k : Int) + 1) old := e3
  show wpAny _ _ (newTuple [.int k tk, .ref hp.objs.size] >>= _) _ _ ⟨g3, g, d', tk + 1, os⟩
  refine wpAny_bind (wpAny_newTuple (?_))
  have e4 : IsEnum (g3.push { cls := .type "tuple", data := .seq #[.int k tk, .ref hp.objs.size] }) e z ((k : Int) + 1) old := Heap.get?_push_of_some _ e3
  have hsz : g3.objs.size = hp.objs.size + 1 := by rw [s3.1, s2.1, n7]
  have t4 : IsPair (g3.push { cls := .type "tuple", data := .seq #[.int k tk, .ref hp.objs.size] }) (hp.objs.size + 1) (.int k tk) (.ref hp.objs.size) := by rw [← hsz]; exact Heap.get?_push_size _ rfl
  have w4 : (g3.push { cls := .type "tuple", data := .seq #[.int k tk, .ref hp.objs.size] }).objs.size = hp.objs.size + 2 := by rw [Heap.size_push, hsz]
  have k4 : ∀ b u, b ≠ e → g1.get? b = some u → (g3.push { cls := .type "tuple", data := .seq #[.int k tk, .ref hp.objs.size] }).get? b = some u := fun b u hb q => Heap.get?_push_of_some _ (s3.extBut b u hb (s2.extBut b u hb q))
  generalize g3.push { cls := .type "tuple", data := .seq #[.int k tk, .ref hp.objs.size] } = g4 at e4 t4 w4 k4
  show wpAny _ _ (Builtin.SmallTypes.ownedTupleIsFree (.ref e) >>= _) _ _ ⟨g4, g, d', tk + 1, os⟩
  rw [hsz]
  refine wpAny_bind (?_)
  unfold Builtin.SmallTypes.ownedTupleIsFree
  refine wpAny_bind (wpAny_field e4 rfl (x := .none) rfl (wpAny_pure ?_))
  simp only [if_true]
  refine wpAny_bind (wpAny_rule (?_))
  refine wpAny_bind (wpAny_field e4 rfl (x := old) rfl ?_)
  refine wpAny_bind (wpAny_setField_rec e4 (by simp) fun g5 e5 s5 => ?_)
  replace s5 : Heap.SameBut e g4 g5 := s5
  replace e5 : IsEnum g5 e z ((k : Int) + 1) (.ref hp.objs.size) := e5
  show wpAny _ _ (Builtin.SmallTypes.ownedTupleHandOut (.ref e) (.ref (hp.objs.size + 1)) >>= _) _ _ ⟨g5, g, d', tk + 1, os⟩
  refine wpAny_bind (?_)
  unfold Builtin.SmallTypes.ownedTupleHandOut
  refine wpAny_bind (wpAny_setField_rec e5 (by simp) fun g6 e6 s6 => ?_)
  replace s6 : Heap.SameBut e g5 g6 := s6
  replace e6 : IsEnumOut g6 e z ((k : Int) + 1) (.ref hp.objs.size) (hp.objs.size + 1) := e6
  refine wpAny_setField_rec e6 (by simp) fun g7 e7 s7 => ?_
  replace s7 : Heap.SameBut e g6 g7 := s7
  replace e7 : IsEnumOut g7 e z ((k : Int) + 1) (.ref hp.objs.size) (hp.objs.size + 1) := e7
  have k7 : ∀ b u, b ≠ e → g1.get? b = some u → g7.get? b = some u := fun b u hb q => s7.extBut b u hb (s6.extBut b u hb (s5.extBut b u hb (k4 b u hb q)))
  refine wpAny_bind (wpAny_letGo (wpAny_pure ⟨_, rfl, wpAny_pure ?_⟩))
  refine hQ g1 g7 tk m' f' c' _ n6 n7 n8 k7 e7 n1 (k7 _ _ (Ne.symm ne.1) n2) (k7 _ _ (Ne.symm ne.2.1) n3) (n4.at fun u q => k7 _ u (Ne.symm ne.2.2.1) q) (n5.at fun u q => k7 _ u (Ne.symm ne.2.2.2) q) (k7 _ _ (Nat.ne_of_gt lt) n6) ?_
  exact s7.extBut _ _ (Nat.ne_of_gt (Nat.lt_succ_of_lt lt)) (s6.extBut _ _ (Nat.ne_of_gt (Nat.lt_succ_of_lt lt)) (s5.extBut _ _ (Nat.ne_of_gt (Nat.lt_succ_of_lt lt)) t4))
theorem ez_done {e z t o j1 j2 a b : Addr} {f : Bool} {m : Value} {k : Nat} {n : Int} {xs : Array Value} {c d old : Value} {Q : Option Value → Shared → Prop} (hh : A.handled = none) (D : ZipApart z t o j1 j2 a b) (hm : Outs m) (he : IsEnum s.heap e z n old)
    (hz : ZZ s.heap z t o m f) (ht : IsPair s.heap t (.ref j1) (.ref j2)) (ho : IsPair s.heap o c d) (h1 : s.heap.IsListIter j1 a k) (ha : s.heap.IsList a xs) (hx : xs[k]? = none)
    (hQ : ∀ h', Only [z, o, j1, j2] s.heap h' → Q none { s with heap := h' }) : wpAny (model prog w) A (pyNext (.ref e)) Q E s := by
  have hT : s.TypeIs (.ref e) "enumerate" := ⟨_, he, rfl⟩
  have hTz : s.TypeIs (.ref z) "zip" := ⟨_, hz, rfl⟩
  unfold pyNext
  refine wpAny_bind (wpAny_attempt (wpAny_callSpecial?_slot (name := Str.ofString "__next__") hT F.slot_enumerate_next (wpAny_call_entry F.slot_enumerate_next hT F.entry_enumerate_next ?_ (F.args_enumerate_next_1 _))))
  show wpAny _ _ (field (.ref e) 2 >>= _) _ _ _
  refine wpAny_bind (wpAny_field he rfl (x := .ref z) rfl ?_)
  refine wpAny_bind ?_
  unfold Builtin.SmallTypes.nextOf
  refine wpAny_bind (wpAny_callSpecial?_slot (name := Str.ofString "__next__") hTz F.slot_zip_next (wpAny_call_entry F.slot_zip_next hTz F.entry_zip_next (zip_done hh D hm hz ht ho h1 ha hx fun h' x k he => ?_) (F.args_zip_next_1 _)))
  obtain ⟨oe, h3, h4⟩ := he
  refine wpAny_bind (wpAny_isInstance (T := "StopIteration") (b := true) ⟨oe, h3, h4⟩ isSubtype_stop (?_))
  exact wpAny_pure (hQ _ k)
theorem meets_enumZ {z t o : Addr} :
    Meets (Builtin.«enumerate.__new__» ⟨[.type "enumerate", .ref z], []⟩) (fun _ R s => (∃ m f, ZZ s.heap z t o m f) ∧
      R (.ok (.ret (.ref s.heap.objs.size))) { s with heap := s.heap.push { cls := .type "enumerate", data := .fields #[.none, .bool false, .ref z, rawInt 0, .none, .none] } }) := by
  refine .of_wp fun prog w A R s h => ?_
  obtain ⟨hp, g, d, tk, os⟩ := s
  obtain ⟨⟨m, f, g1⟩, h⟩ := h
  have hsub := sub_enumerate
  have step : ∀ {A2 : Around} {E : Value → Shared → Prop} {Q : Value → Shared → Prop}, Q (.ref z) ⟨hp, g, d, tk, os⟩ → wpAny (model prog w) A2 (pyIter (.ref z)) Q E ⟨hp, g, d, tk, os⟩ := by
    intro A2 E Q q
    have hT : (⟨hp, g, d, tk, os⟩ : Shared).TypeIs (.ref z) "zip" := ⟨_, g1, rfl⟩
    refine wpAny_pyIter_slot hT F.slot_zip_iter (wpAny_call_entry F.slot_zip_iter hT F.entry_zip_iter ?_ (F.args_zip_iter_1 _))
    exact wpAny_pure ⟨_, rfl, "zip", _, hT, F.slot_zip_next.lookup, q⟩
  wp_walk using step
  refine wpAny_stack_any fun st => wpAny_pure ?_
  split
  · rename_i c _ _ _ _ _
    by_cases e : (c == Value.type "enumerate") = true
    all_goals
      simp only [e]
      wp_walk using step
      exact ⟨_, rfl, h⟩
  · wp_walk using step
    exact ⟨_, rfl, h⟩
theorem call_enumZ {z t o : Addr} {Q : Value → Shared → Prop} (hz : ∃ m f, ZZ s.heap z t o m f)
    (h : ∀ h2, IsEnum h2 s.heap.objs.size z 0 .none → (∀ b u, s.heap.get? b = some u → h2.get? b = some u) → Q (.ref s.heap.objs.size) { s with heap := h2 }) :
    wpAny (model prog w) A (call (.type "enumerate") [.ref z]) Q E s := by
  refine callType_new F.called_enumerate (by decide) (F.typeCall_enumerate_1 _) (F.newCall_enumerate_1 _) (fun x => F.args_object_init_2 x _) F.entry_enumerate_new (meets_enumZ (t := t) (o := o)) ⟨hz, ?_⟩
  have at1 : (s.heap.push { cls := .type "enumerate", data := .fields #[.none, .bool false, .ref z, rawInt 0, .none, .none] }).get? s.heap.objs.size = some { cls := .type "enumerate", data := .fields #[.none, .bool false, .ref z, rawInt 0, .none, .none] } :=
    Heap.get?_push_size _ rfl
  exact ⟨⟨_, at1, rfl⟩, h _ at1 fun b u e => Heap.get?_push_of_some _ e⟩
end
/-- the lists at a and b as they stand at each turn: a number and a new pair of their items in a new pair -/
def IteZ (K : PySem.W.Frag) (a b : Addr) : It :=
  ⟨fun i H => ∃ (xs ys : List V) (x y : V), SqL K H a xs ∧ SqL K H b ys ∧ xs[i]? = some x ∧ ys[i]? = some y,
   fun i H v H' => ∃ T U x y, v = .ref T ∧ H U = none ∧ upd H U (.tup [x, y]) T = none ∧ H' = upd (upd H U (.tup [x, y])) T (.tup [.int (i : Nat), .ref U]) ∧ (∀ xs, SqL K H a xs → xs[i]? = some x) ∧ ∀ ys, SqL K H b ys → ys[i]? = some y,
   fun i H => ∃ xs : List V, SqL K H a xs ∧ xs.length ≤ i⟩
theorem turn_enumZ {P : Program} {w : World} {K : PySem.W.Frag} {elts : List Expr} {kk : Nat} {tpos : Pos} {e z t o j1 j2 a b : Addr} (D : ZipApart z t o j1 j2 a b) (ne : e ∉ [z, t, o, j1, j2]) :
    Turn P w K (.Tuple elts kk tpos) (IteZ K a b) [e, z, t, o, j1, j2] e (fun i h => (∃ old, IsEnum h e z ((i : Nat) : Int) old) ∧ (∃ m f, Outs m ∧ ZZ h z t o m f) ∧ IsPair h t (.ref j1) (.ref j2) ∧ (∃ x y, IsPair h o x y) ∧ h.IsListIter j1 a i ∧ h.IsListIter j2 b i) := by
  have ne' : e ∉ [z, o, j1, j2] := fun h => ne (by simp only [List.mem_cons, List.not_mem_nil, or_false] at h ⊢; rcases h with h | h | h | h <;> simp [h])
  have nt : t ∉ [z, o, j1, j2] := by
    simp only [List.mem_cons, List.not_mem_nil, or_false, not_or]
    exact ⟨D.TIz, D.TITO, D.TIi1, D.TIi2⟩
  have net : t ≠ e := fun h => ne (by simp [h])
  refine ⟨by simp, fun i h st c hc => ?_, fun i h h' st k => ?_, ?_, ?_, ?_⟩
  · obtain ⟨⟨old, he⟩, ⟨m, f, _, hz⟩, ht, ⟨x, y, ho⟩, ⟨o1, e1, _, d1⟩, ⟨o2, e2, _, d2⟩⟩ := st
    simp only [List.mem_cons, List.not_mem_nil, or_false] at hc
    rcases hc with q | q | q | q | q | q
    · rw [q]; exact ⟨_, he, fun v q => nomatch q⟩
    · rw [q]; exact ⟨_, hz, fun v q => nomatch q⟩
    · rw [q]; exact ⟨_, ht, fun v q => nomatch q⟩
    · rw [q]; exact ⟨_, ho, fun v q => nomatch q⟩
    · rw [q]; exact ⟨o1, e1, fun v q => by rw [d1] at q; cases q⟩
    · rw [q]; exact ⟨o2, e2, fun v q => by rw [d2] at q; cases q⟩
  · obtain ⟨⟨old, he⟩, ⟨m, f, hm, hz⟩, ht, ⟨x, y, ho⟩, h1, h2⟩ := st
    exact ⟨⟨old, k e (by simp) _ he⟩, ⟨m, f, hm, k z (by simp) _ hz⟩, k t (by simp) _ ht, ⟨x, y, k o (by simp) _ ho⟩, h1.at fun u q => k j1 (by simp) u q, h2.at fun u q => k j2 (by simp) u q⟩
  · intro X hP hw hK hc i pins s σ H E I hf st hg
    cases hP; cases hw; cases hK
    obtain ⟨⟨old, he⟩, ⟨m, f, hm, hz⟩, ht, ⟨x0, y0, ho⟩, h1, h2⟩ := st
    obtain ⟨xs, ys, x, y, hqx, hqy, hx, hy⟩ := hg
    obtain ⟨its, rv, p, _⟩ := I.list hqx
    obtain ⟨its2, rv2, p2, _⟩ := I.list hqy
    obtain ⟨u, hu, ru⟩ := rv.get hx
    obtain ⟨u2, hu2, ru2⟩ := rv2.get hy
    have le : e < s.heap.objs.size := Heap.lt_size he
    refine ez_item D hm he hz ht ho ne' h1 h2 p.isList p2.isList (x := u) (y := u2) (by simpa using hu) (by simpa using hu2) fun g1 h' tk m' f' c' d' a1 a2 a3 a4 a5 a6 a7 a8 a9 b1 b2 b3 => ?_
    refine ⟨_, rfl, wpAny_letOwnedTupleGo_enum (s := { s with heap := h', toks := tk + 1 }) a5 fun h3 he3 sb => ?_⟩
    have I1 : Inv X pins σ (upd H s.heap.objs.size (.tup [x, y])) { s with heap := g1 } := by
      refine I.turnedNew (t' := s.toks) (ch := [z, o, j1, j2]) (fun c o' hb q => a3 c o' hb q) (fun c hc => hf c (by simp only [List.mem_cons, List.not_mem_nil, or_false] at hc ⊢; rcases hc with q | q | q | q <;> simp [q])) (Nat.le_refl _) ⟨by show 2 ≤ sizeLine; decide, [u, u2], .cons ru (.cons ru2 .nil), ⟨_, a1, rfl, _, rfl⟩⟩
    have hU : upd H s.heap.objs.size (.tup [x, y]) (s.heap.objs.size + 1) = none := I1.hok.fresh (by show g1.objs.size ≤ _; rw [a2]; exact Nat.le_refl _)
    have T3 : h3.get? (s.heap.objs.size + 1) = some { cls := .type "tuple", data := .seq #[.int i tk, .ref s.heap.objs.size] } := (sb.2 _ (Nat.ne_of_gt (Nat.lt_succ_of_lt le))).trans b3
    have hfe : ∀ c ∈ [e], FpOk X pins (upd H s.heap.objs.size (.tup [x, y])) c := by
      intro c hc
      rw [List.mem_singleton.mp hc]
      obtain ⟨f0, fr⟩ := hf e (by simp)
      exact ⟨by rw [upd_ne (Nat.ne_of_lt le)]; exact f0, fr⟩
    have I2 : Inv X pins σ (upd (upd H s.heap.objs.size (.tup [x, y])) (s.heap.objs.size + 1) (.tup [.int (i : Nat), .ref s.heap.objs.size])) { s with heap := h3, toks := tk + 1 } := by
      refine I1.turnedNew (ch := [e]) (fun c o' hb q => ?_) hfe (by show g1.objs.size ≤ _; rw [a2]; exact Nat.le_refl _) ⟨by show 2 ≤ sizeLine; decide, [.int i tk, .ref s.heap.objs.size], .cons ⟨_, rfl⟩ (.cons rfl .nil), ⟨_, T3, rfl, _, rfl⟩⟩
      have c1 : c ≠ e := fun q => hb (by simp [q])
      exact (sb.2 c c1).trans (a4 c o' c1 q)
    have up : ∀ c o', c ≠ e → h'.get? c = some o' → h3.get? c = some o' := fun c o' hc q => (sb.2 c hc).trans q
    refine ⟨.ref (s.heap.objs.size + 1), _, I2, rfl, ⟨_, _, x, y, rfl, I.hok.fresh (Nat.le_refl _), hU, rfl, fun l hl => by rw [I.list_inj hl hqx]; exact hx, fun l hl => by rw [I.list_inj hl hqy]; exact hy⟩, ⟨⟨_, by simpa using he3⟩, ⟨m', f', a6, up _ _ (fun q => ne (by simp [q])) a7⟩, up _ _ net (a4 _ _ net (a3 _ _ nt ht)), ⟨_, _, up _ _ (fun q => ne (by simp [q])) a8⟩, a9.at fun o' q => up _ o' (fun q => ne (by simp [q])) q, b1.at fun o' q => up _ o' (fun q => ne (by simp [q])) q⟩, fun c hcm => ?_⟩
    have hlt : c < s.heap.objs.size := by
      simp only [List.mem_cons, List.not_mem_nil, or_false] at hcm
      rcases hcm with q | q | q | q | q | q
      · rw [q]; exact le
      · rw [q]; exact Heap.lt_size hz
      · rw [q]; exact Heap.lt_size ht
      · rw [q]; exact Heap.lt_size ho
      · rw [q]; obtain ⟨_, e1, _⟩ := h1; exact Heap.lt_size e1
      · rw [q]; obtain ⟨_, e2, _⟩ := h2; exact Heap.lt_size e2
    rw [upd_ne (Nat.ne_of_lt (Nat.lt_succ_of_lt hlt)), upd_ne (Nat.ne_of_lt hlt)]
    exact (hf c hcm).1
  · intro X hP hw hK hc i pins s σ H E I hf st hg
    cases hP; cases hw; cases hK
    obtain ⟨⟨old, he⟩, ⟨m, f, hm, hz⟩, ht, ⟨x0, y0, ho⟩, h1, h2⟩ := st
    obtain ⟨xs, hqx, hend⟩ := hg
    obtain ⟨its, rv, p, _⟩ := I.list hqx
    have l1 := rv.length
    exact ez_done (I.ok.hd hc) D hm he hz ht ho h1 p.isList (by simp; omega) fun h' hk => ⟨rfl, I.turnedL (t' := s.toks) (ch := [z, o, j1, j2]) (fun c o' hb q => hk c o' hb q) fun c hc => hf c (by simp only [List.mem_cons, List.not_mem_nil, or_false] at hc ⊢; rcases hc with q | q | q | q <;> simp [q])⟩
  · intro A i s Q E st h
    obtain ⟨⟨_, he⟩, _⟩ := st
    exact wpAny_pyIter_enum he h
def iEnumZ (K : PySem.W.Frag) (ta : L2.TA) : TI := fun σ H R => ta σ H fun vs H1 => ∃ a b xs ys, vs = [.ref a, .ref b] ∧ SqL K H1 a xs ∧ SqL K H1 b ys ∧ R (IteZ K a b) H1
theorem walk_enumZ {K : PySem.W.Frag} {a b : Addr} {xs ys : List V} (hn : xs.length = ys.length) : Walk (IteZ K a b) xs.length (fun H => SqL K H a xs ∧ SqL K H b ys)
    (fun i H v H' => ∃ T U x y, v = .ref T ∧ H U = none ∧ upd H U (.tup [x, y]) T = none ∧ H' = upd (upd H U (.tup [x, y])) T (.tup [.int (i : Nat), .ref U]) ∧ xs[i]? = some x ∧ ys[i]? = some y) := by
  constructor
  · intro i _ hi q
    exact ⟨xs, ys, xs[i], ys[i], q.1, q.2, by simp [hi], by simp [hn ▸ hi]⟩
  · exact fun _ q => ⟨xs, q.1, Nat.le_refl _⟩
  · rintro i H v H' _ q ⟨T, U, x, y, h1, h2, h3, h4, h5, h6⟩
    exact ⟨T, U, x, y, h1, h2, h3, h4, h5 xs q.1, h6 ys q.2⟩
theorem pi_enumZ {X : Cx} {e e2 : Expr} {ta : L2.TA} {p p2 pos pos2 tpos : Pos} {elts : List Expr} {kk : Nat} (hg : Gl X "enumerate") (hm : X.mg "enumerate" = none) (hgz : Gl X "zip") (hmz : X.mg "zip" = none) (ha : PA X [e, e2] ta)
    (hs0 : starEach [.Call (.Name "zip" p2) [e, e2] [] pos2] X.env = [(false, eval (.Call (.Name "zip" p2) [e, e2] [] pos2) X.env)] := by rfl)
    (hs : starEach [e, e2] X.env = (false, eval e X.env) :: starEach [e2] X.env := by rfl) (hpl : (backTo pos2 (starEach [e2] X.env)).any (·.1) = false := by rfl) :
    PI X (.Tuple elts kk tpos) (.Call (.Name "enumerate" p) [.Call (.Name "zip" p2) [e, e2] [] pos2] [] pos) (iEnumZ X.K ta) := by
  refine ⟨fun pins s σ H R I h => ?_⟩
  refine Call_ (ld_blt I hg hm boot_enumerate (PyProof.Rows.callWith_type1 ?_ hs0 rfl))
  rw [hs0]
  refine Calls.spliced_cons ?_
  refine Call_ (ld_blt I hgz hmz PyProof.Rows.boot_zip (PyProof.Rows.callWith_type1 (thn (ha.run pos2 pins s σ H _ I h) fun us s1 ⟨vs, H1, I1, r1, q1⟩ => ?_) hs hpl))
  obtain ⟨a, b, xs, ys, rfl, hqx, hqy, q⟩ := q1
  cases r1 with
  | cons r rr =>
    cases rr with
    | cons r' rr =>
      cases rr
      cases r
      cases r'
      obtain ⟨its, rv, p1, _⟩ := I1.list hqx
      obtain ⟨its2, rv2, p2, _⟩ := I1.list hqy
      have la : a < s1.heap.objs.size := p1.lt
      have lb : b < s1.heap.objs.size := p2.lt
      refine call_zip_2 p1.isList p2.isList fun g1 n1 n2 n3 n4 n5 n6 n7 => Calls.spliced_nil (call_enumZ ⟨_, _, n1⟩ fun g2 he k2 => wpAny_pyIter_enum he ?_)
      have k12 : ∀ c u, s1.heap.get? c = some u → g2.get? c = some u := fun c u h => k2 c u (n7 c u h)
      have I2 : Inv X pins σ H1 { s1 with heap := g2 } := I1.kept (t' := s1.toks) k12
      have e5 : (⟨g1, s1.gens, s1.drawn, s1.toks, s1.os⟩ : Shared).heap.objs.size = s1.heap.objs.size + 5 := n6
      rw [e5] at he
      have ne : s1.heap.objs.size + 5 ∉ [s1.heap.objs.size + 4, s1.heap.objs.size + 2, s1.heap.objs.size + 3, s1.heap.objs.size, s1.heap.objs.size + 1] := by
        simp
      refine ⟨s1.heap.objs.size + 5, [s1.heap.objs.size + 5, s1.heap.objs.size + 4, s1.heap.objs.size + 2, s1.heap.objs.size + 3, s1.heap.objs.size, s1.heap.objs.size + 1], _, _, H1, ?_, I2, turn_enumZ (PySem.W.ktu_apart s1.heap.objs.size a b la lb) ne, ⟨⟨_, he⟩, ⟨_, _, .inl rfl, k2 _ _ n1⟩, k2 _ _ n2, ⟨_, _, k2 _ _ n3⟩, n4.at fun o q => k2 _ o q, n5.at fun o q => k2 _ o q⟩, fun c hcm => ?_, q⟩
      · show Value.ref g1.objs.size = _
        rw [n6]
      · have hle : s1.heap.objs.size ≤ c := by
          simp only [List.mem_cons, List.not_mem_nil, or_false] at hcm
          have e6 := e5
          clear he ne e5 I2 q
          rcases hcm with h | h | h | h | h | h <;> (try rw [e6] at h) <;> rw [h] <;> first | exact Nat.le_refl _ | exact Nat.le_add_right _ _ | skip
        exact I1.fpOk hle (I1.hok.fresh hle)
end TG
set_option maxHeartbeats 400000
/-! own rule: the read of xs[i] += e, i within the list from its front -/
namespace TG
open PySem PySem.Spec L2
open PyProof.Rows hiding St
def rGetN (K : PySem.W.Frag) : V → V → Hp → VK → Prop := fun x y H Q => ∃ (p : Addr) (xs : List V) (n : Nat) (v : V), x = .ref p ∧ y = .int (n : Int) ∧ SqL K H p xs ∧ xs[n]? = some v ∧ Q v H
theorem get_list {X : Cx} : PGet X (rGetN X.K) := by
  intro pins s σ H x y v u Q I rx ry h
  obtain ⟨p, xs, n, z, rfl, rfl, hq, he, q⟩ := h
  cases rx
  obtain ⟨t, rfl⟩ := ry
  obtain ⟨its, r, pl, hz⟩ := I.list hq
  obtain ⟨w, ew, rw'⟩ := r.get he
  have hl := r.length
  have hn := line63
  have lt : n < xs.length := (List.getElem?_eq_some_iff.mp he).1
  exact wpAny_getItem_list (k := (n : Int)) pl.isList (by omega) (by omega) (x := w) (by simpa using ew) ⟨z, H, I, rw', q⟩
end TG
namespace TF18
open PySem PySem.Spec L2 TG TA
open PyProof.Rows hiding St
abbrev sPE : Stmt := top 19
abbrev sLoose : Stmt := top 45
abbrev sMoved : Stmt := top 46
abbrev sPutIn : Stmt := top 44
abbrev sStepped : Stmt := top 43
abbrev sFirst : Stmt := top 42
theorem scPE : FnScope ["row", "start", "end", "missing"] ["row", "start"] (defScope sPE) := ⟨rfl, rfl, rfl, by decide +kernel, rfl, by decide +kernel, by decide +kernel⟩
theorem scLoose : FnScope ["code", "depth"] ["code", "depth"] (defScope sLoose) := ⟨rfl, rfl, rfl, by decide +kernel, rfl, by decide +kernel, by decide +kernel⟩
theorem scMoved : FnScope ["codes", "loose", "by", "done", "at"] ["codes", "loose", "by"] (defScope sMoved) := ⟨rfl, rfl, rfl, by decide +kernel, rfl, by decide +kernel, by decide +kernel⟩
theorem scPutIn : FnScope ["body", "other", "loose", "at", "code", "depth", "done"] ["body", "other"] (defScope sPutIn) := ⟨rfl, rfl, rfl, by decide +kernel, rfl, by decide +kernel, by decide +kernel⟩
theorem scStepped : FnScope ["codes", "at", "middle", "end"] ["codes", "at"] (defScope sStepped) := ⟨rfl, rfl, rfl, by decide +kernel, rfl, by decide +kernel, by decide +kernel⟩
theorem scFirst : FnScope ["codes", "start", "at"] ["codes", "start"] (defScope sFirst) := ⟨rfl, rfl, rfl, by decide +kernel, rfl, by decide +kernel, by decide +kernel⟩
section
variable {P : Program} {w : World} {K : PySem.W.Frag} {mg : Str → Option Value} {base : Heap} {f f1 f2 f3 : Addr} {fd fd1 fd2 fd3 : FuncData}
theorem ok_pe (F : Fun K "part_end" "part_end" sPE f fd) (T : Bn mg) (Z : Pm K w mg) : FnOk P w K mg base CX0 1 f fd ["row", "start"] spPartEnd := by
  refine F.ok scPE (fun vs H Q E h => ?_) (fun cdv A outer sc0 H vs Q E hr h => ?_)
  · obtain ⟨r, l, b, i, rfl, _⟩ := h
    rfl
  obtain ⟨r, l, b, i, rfl, hr0, ⟨rest, hd⟩, hok, hn, q⟩ := h
  obtain ⟨aP, gP, kd⟩ := Z.at_
  refine ⟨_, (pss_cons (ps_set (i := 2) scPE.nd rfl (.inl rfl) (pv 1))
      (pss_cons (ps_set (i := 3) scPE.nd rfl (.inl rfl) pe_int)
      (pss_cons (ps_while PassesOwn.never (pt_cmpR op_gt (pv 3) pe_int (nomark _))
        (pss_cons (ps_aug (i := 3) scPE.nd rfl (.inl rfl) (pe_op op_sub (pe_kgetM (pe_glob (v := .ref aP) rfl gP rfl) (pe_ix ix_list (pv 0) (pv 2) (fun _ _ => rfl)) pe_int ⟨rfl, rfl, rfl, rfl⟩) pe_int) ip_add)
        (pss_one (ps_aug (i := 2) scPE.nd rfl (.inl rfl) pe_int ip_add))))
      (pss_one (ps_ret (pv 2)))))), ?_⟩
  refine ⟨_, rfl, ?_⟩
  refine ⟨fun m σ H2 => ∃ (fs : List Bt) (j : Nat), σ = [some (.ref r), some (.int (i : Int)), some (.int (j : Int)), some (.int (fs.length : Int))] ∧ H2 = H ∧ l.drop j = rowV fs ++ rest ∧ (∀ p ∈ fs, p.all okN = true) ∧ j + sgs fs = i + b.sg ∧ m = sgs fs, ⟨_, [b], i, rfl, rfl, by rw [hd]; show _ = (cvs b ++ []) ++ rest; rw [List.append_nil], fun p hp => by rw [List.mem_singleton.mp hp]; exact hok, by show i + (b.sg + 0) = _; rfl, rfl⟩, ?_⟩
  rintro m σ H2 ⟨fs, j, rfl, rfl, hdr, hall, hsum, rfl⟩
  refine ⟨_, rfl, _, _, rfl, rfl, _, rfl, ?_⟩
  cases fs with
  | nil =>
    rw [if_neg (by simp)]
    refine ⟨_, rfl, ?_⟩
    have e : j = i + b.sg := hsum
    rw [e]
    exact q
  | cons p fs =>
    rw [if_pos (by simp)]
    refine ⟨fun σ' H' => ∃ m', m' < sgs (p :: fs) ∧ _, fun _ _ h => h, ?_⟩
    have hp : p.all okN = true := hall p List.mem_cons_self
    rw [rowV_cons] at hdr
    have hj : l[j]? = some (cdV p.hdC) := by
      have e : (l.drop j)[0]? = some (cdV p.hdC) := by rw [hdr]; rfl
      rw [List.getElem?_drop, Nat.add_zero] at e
      exact e
    refine ⟨_, rfl, aP, _, rfl, kd, _, rfl, _, rfl, r, _, _, _, rfl, rfl, SqL.of hr0, atI_nat hj, cdK p.hdC, cdK_V _, ?_⟩
    rw [kids_get hp]
    refine ⟨_, _, rfl, rfl, _, _, rfl, rfl, _, rfl, _, _, rfl, rfl, ?_⟩
    refine ⟨_, ?_, kidsB p ++ fs, j + 1, ?_, rfl, ?_, ?_, ?_, rfl⟩
    · rw [sgs_cons]; omega
    · have e1 : ((p :: fs).length : Int) + (((kidsB p).length : Int) - 1) = ((kidsB p ++ fs).length : Int) := by rw [List.length_append, List.length_cons]; omega
      show [some (V.ref r), some (V.int (i : Int)), some (V.int ((j : Int) + 1)), some (V.int (((p :: fs).length : Int) + (((kidsB p).length : Int) - 1)))] = _
      rw [e1]
      rfl
    · rw [← List.tail_drop, hdr]; rfl
    · intro k hk
      rcases List.mem_append.mp hk with h | h
      · exact kids_ok hp k h
      · exact hall k (List.mem_cons_of_mem _ h)
    · rw [← hsum, sgs_cons]; omega
theorem ok_loose (F : Fun K "is_loose" "is_loose" sLoose f fd) (T : Bn mg) : FnOk P w K mg base CX0 1 f fd ["code", "depth"] spIsLoose := by
  refine F.ok scLoose (fun vs H Q E h => ?_) (fun cdv A outer sc0 H vs Q E hr h => ?_)
  · obtain ⟨c, d, rfl, _⟩ := h
    rfl
  obtain ⟨c, d, rfl, q⟩ := h
  refine ⟨_, (pss_one (ps_ret (pe_and (pe_callB call_isi (by rfl) T.b_isinstance (by decide +kernel) (pa_cons (pv 0) (pa_cons (pe_bltn (v := .ty "int") (u := .type "int") (by rfl) T.b_int (by decide +kernel) rfl) pa_nil))) (pe_one (pe_cmpR op_ge (pv 0) (pv 1) (nomark _)))))), ?_⟩
  cases c with
  | inl z =>
    refine ⟨_, rfl, V.str z, _, _, _, _, rfl, .ty "int", .base (.str _), kit_int (n := "str") (by decide), _, rfl, ?_⟩
    exact iteF q
  | inr n =>
    refine ⟨_, rfl, V.int (n : Int), _, _, _, _, rfl, .ty "int", .base (.int _), kit_int (n := "int") (by decide), _, rfl, ?_⟩
    refine iteT ⟨_, rfl, _, rfl, _, _, rfl, rfl, ?_⟩
    have e : decide ((d : Int) ≤ (n : Int)) = decide (d ≤ n) := decide_eq_decide.mpr Int.ofNat_le
    show Q (.bl (decide ((d : Int) ≤ (n : Int)))) H
    rw [e]
    exact q
theorem ok_moved (F : Fun K "moved" "moved" sMoved f fd) (T : Bn mg) : FnOk P w K mg base CX0 1 f fd ["codes", "loose", "by"] spMoved := by
  refine F.ok scMoved (fun vs H Q E h => ?_) (fun cdv A outer sc0 H vs Q E hr h => ?_)
  · obtain ⟨r, l, t, k, rfl, _⟩ := h
    rfl
  obtain ⟨r, l, t, k, rfl, hr0, hl0, hn, q⟩ := h
  refine ⟨_, (pss_cons (ps_set (i := 3) scMoved.nd rfl (.inl rfl) (pe_callTy call_list_of (by rfl) T.b_list (by decide +kernel) (pa_cons (pv 0) pa_nil)))
      (pss_cons (ps_for PassesOwn.never rfl (pi_list (pv 1)) (pg_name (i := 4) scMoved.nd rfl (.inl rfl))
        (pss_one (ps_augS (pv 3) (pv 4) get_list (pv 2) ip_add set_list)))
      (pss_one (ps_ret (pv 3))))), ?_⟩
  refine ⟨_, rfl, r, _, rfl, .inl (SqL.of hr0), fun D hD => ?_⟩
  have s1 : Same H (L2.upd H D (.lst (cvs t))) := same_new hD
  refine ⟨_, rfl, l, rfl, ⟨_, SqL.of (s1 _ _ hl0)⟩, ?_⟩
  refine for_list (xs := natV (looseI t)) (fun i σ H2 => ∃ (v4 : Option V) (xs : List V), σ = [some (.ref r), some (.ref l), some (.int (k : Int)), some (.ref D), v4] ∧ Same H H2 ∧ H2 D = some (.lst xs) ∧ xs.length = t.sg ∧ ∀ j p, (t.zc 0)[j]? = some p → xs[j]? = some (cdV (if j ∈ (looseI t).take i then Bt.liftC k p else p.1))) ?_ ?_ ?_ ?_
  · refine ⟨none, cvs t, rfl, s1, upd_same, cvs_len t, fun j p hp => ?_⟩
    rw [List.take_zero, if_neg List.not_mem_nil]
    unfold cvs
    rw [List.getElem?_map, (zc_cd hp).1]
    rfl
  · rintro i σ H2 _ ⟨_, _, _, s2, _⟩
    exact SqL.of (s2 _ _ hl0)
  · rintro i x σ H2 hx ⟨v4, xs, rfl, s2, hd, hlen, hxs⟩
    have hil : i < (looseI t).length := by rw [← natV_len]; exact lt_get hx
    obtain ⟨j, hj⟩ := get_lt hil
    rw [natV_at hj] at hx
    cases hx
    have hm := mem_get hj
    have hjl := loose_lt hm
    obtain ⟨p, hp⟩ := zc_get hjl 0
    have hlo := (mem_loose hp).mp hm
    obtain ⟨n, e1, e2⟩ := lift_loose (k := k) hlo
    have hnot : j ∉ (looseI t).take i := by
      intro h
      obtain ⟨i', h1⟩ := List.getElem?_of_mem h
      have hi' : i' < i := by
        have := (List.getElem?_eq_some_iff.mp h1).1
        rw [List.length_take] at this
        omega
      rw [List.getElem?_take_of_lt hi'] at h1
      obtain ⟨a1, b1⟩ := List.getElem?_eq_some_iff.mp h1
      obtain ⟨a2, b2⟩ := List.getElem?_eq_some_iff.mp hj
      exact (List.pairwise_iff_getElem.mp (loose_nodup t)) i' i a1 a2 hi' (b1.trans b2.symm)
    have hxj := hxs j p hp
    rw [if_neg hnot, e1] at hxj
    refine ⟨_, rfl, _, rfl, D, xs, j, _, rfl, rfl, SqL.of hd, hxj, _, rfl, _, _, rfl, rfl, D, xs, (j : Int), j, rfl, rfl, hd, ixN_of (by omega), ?_⟩
    refine ⟨_, xs.set j (V.int ((n : Int) + (k : Int))), rfl, same_put s2 hD, upd_same, by rw [List.length_set]; exact hlen, fun j' p' hp' => ?_⟩
    rw [List.take_succ, hj]
    by_cases c : j' = j
    · subst c
      rw [hp] at hp'
      cases hp'
      rw [if_pos (List.mem_append_right _ (by simp)), e2, List.getElem?_set_self (by omega)]
      rfl
    · rw [List.getElem?_set_ne (Ne.symm c), hxs j' p' hp']
      have e : (j' ∈ (looseI t).take i ++ (some j).toList) ↔ j' ∈ (looseI t).take i := by
        rw [List.mem_append]
        exact ⟨fun h => h.elim id fun h => absurd (by simpa using h) c, .inl⟩
      simp only [e]
  · rintro σ H2 ⟨v4, xs, rfl, s2, hd, hlen, hxs⟩
    rw [natV_len, List.take_length] at hxs
    refine ⟨_, rfl, ?_⟩
    have e : xs = cvs (Bt.lift k 0 t) := by
      refine List.ext_getElem? fun j => ?_
      by_cases c : j < t.sg
      · obtain ⟨p, hp⟩ := zc_get c 0
        rw [hxs j p hp, lift_at hp]
        by_cases c2 : looseB p = true
        · rw [if_pos ((mem_loose hp).mpr c2)]
        · rw [if_neg fun h => c2 ((mem_loose hp).mp h), lift_not (by simpa using c2)]
      · rw [List.getElem?_eq_none (by omega), List.getElem?_eq_none (by rw [cvs_len, lift_sg]; omega)]
    rw [e] at hd
    exact q D H2 s2 hD hd
theorem ok_putIn (F : Fun K "put_in" "put_in" sPutIn f fd) (T : Bn mg) (D_depths_in : Df K mg "depths_in" sDepths f1 fd1 ["row"]) (G_depths_in : FnOk P w K mg base CX0 1 f1 fd1 ["row"] spDepthsB)
    (D_is_loose : Df K mg "is_loose" sLoose f2 fd2 ["code", "depth"]) (G_is_loose : FnOk P w K mg base CX0 1 f2 fd2 ["code", "depth"] spIsLoose) (D_moved : Df K mg "moved" sMoved f3 fd3 ["codes", "loose", "by"]) (G_moved : FnOk P w K mg base CX0 1 f3 fd3 ["codes", "loose", "by"] spMoved) : FnOk P w K mg base CX0 2 f fd ["body", "other"] spPutIn := by
  refine F.ok scPutIn (fun vs H Q E h => ?_) (fun cdv A outer sc0 H vs Q E hr h => ?_)
  · obtain ⟨r, o, b, t, rfl, _⟩ := h
    rfl
  obtain ⟨r, o, b, t, rfl, hr0, ho0, hb, ht, hn, q⟩ := h
  refine ⟨_, (pss_cons (ps_setLc (i := 2) (own := [("at", 3), ("code", 4), ("depth", 5)]) (g := (gTup K 2 (gCons (gName 3) (gCons (gTup K 2 (gCons (gName 4) (gCons (gName 5) gNil))) gNil)))) rfl scPutIn.nd rfl rfl (sw_true rfl rfl rfl (by decide +kernel)) (pi_enumZ (by rfl) T.b_enumerate (by rfl) T.b_zip (pa_cons (pv 1) (pa_cons (pe_cd D_depths_in G_depths_in hr (by decide) (pa_cons (pv 1) pa_nil)) pa_nil))) (blkOk_by (own := [("at", 3), ("code", 4), ("depth", 5)]) (N := ["body", "other", "loose", "at", "code", "depth", "done"]) (sc := defScope sPutIn) (by decide +kernel)) (fun _ _ _ _ _ => (pg_tup (by rfl) (pgs_cons (pg_name (i := 3) scPutIn.nd rfl (.inl rfl)) (pgs_cons (pg_tup (by rfl) (pgs_cons (pg_name (i := 4) scPutIn.nd rfl (.inl rfl)) (pgs_cons (pg_name (i := 5) scPutIn.nd rfl (.inl rfl)) pgs_nil))) pgs_nil)))) (fun _ _ _ _ _ => (pts_one (pt_val (pe_cd D_is_loose G_is_loose hr (by decide) (pa_cons (pv 4) (pa_cons (pv 5) pa_nil)))))) (fun _ _ _ _ _ => (pv 3)))
      (pss_cons (ps_set (i := 6) scPutIn.nd rfl (.inl rfl) (pe_lst pa_nil))
      (pss_cons (ps_for PassesOwn.never rfl (pi_zip (by rfl) T.b_zip (pa_cons (pv 0) (pa_cons (pe_cd D_depths_in G_depths_in hr (by decide) (pa_cons (pv 0) pa_nil)) pa_nil))) (pg_tup (by rfl) (pgs_cons (pg_name (i := 4) scPutIn.nd rfl (.inl rfl)) (pgs_cons (pg_name (i := 5) scPutIn.nd rfl (.inl rfl)) pgs_nil)))
        (pss_one (ps_if (pt_cmpR op_eq (pv 4) (pv 5) (nomark _)) (pss_one (ps_expr (pe_bm PySem.F.plainAttrs_list PySem.F.slot_list_extend PySem.F.type_list_extend mt_extend (pv 6) (pa_cons (pe_cd D_moved G_moved hr (by decide) (pa_cons (pv 1) (pa_cons (pv 2) (pa_cons (pv 5) pa_nil)))) pa_nil)))) (pss_one (ps_if (pt_val (pe_cd D_is_loose G_is_loose hr (by decide) (pa_cons (pv 4) (pa_cons (pv 5) pa_nil)))) (pss_one (ps_expr (pe_bm PySem.F.plainAttrs_list PySem.F.slot_list_append PySem.F.type_list_append mt_append (pv 6) (pa_cons (pe_op op_sub (pv 4) pe_int) pa_nil)))) (pss_one (ps_expr (pe_bm PySem.F.plainAttrs_list PySem.F.slot_list_append PySem.F.type_list_append mt_append (pv 6) (pa_cons (pv 4) pa_nil)))))))))
      (pss_one (ps_ret (pv 6)))))), ?_⟩
  refine ⟨_, rfl, _, rfl, o, t, rfl, ho0, ht, by omega, fun dp H1 s1 _ hdp => ?_⟩
  have hl : (cvs t).length = (natV (t.deps 0)).length := by rw [cvs_len, natV_len, t.deps_len]
  refine ⟨o, dp, _, _, rfl, SqL.of (s1 _ _ ho0), SqL.of hdp, fun D hD => ?_⟩
  have sD : Same H (L2.upd H1 D (.lst [])) := s1.trans (same_new hD)
  have D0 : H D = none := s1.free hD
  have ndD : dp ≠ D := ne_of_none hdp hD
  refine lc_it (walk_enumZ (xs := cvs t) (ys := natV (t.deps 0)) hl) (fun i H2 => Same H1 H2 ∧ H2 D = some (.lst (natV (loU t i)))) ?_ ?_ ?_ ?_
  · exact ⟨same_new hD, upd_same⟩
  · rintro i H2 _ ⟨s2, _⟩
    exact ⟨SqL.of (s2 _ _ (s1 _ _ ho0)), SqL.of (s2 _ _ hdp)⟩
  · rintro i x H2 H3 hi ⟨s2, hd2⟩ ⟨T', U, x', y', rfl, hU, hT, rfl, e1, e2⟩
    rw [cvs_len] at hi
    obtain ⟨p, hp⟩ := zc_get hi 0
    obtain ⟨p1, p2⟩ := cvs_zc hp
    cases Option.some.inj (p1.symm.trans e1)
    cases Option.some.inj (p2.symm.trans e2)
    have nU : D ≠ U := ne_of_none hd2 hU
    have nT : D ≠ T' := ne_of_none (by rw [upd_ne nU]; exact hd2) hT
    have nUT : U ≠ T' := ne_of_none upd_same hT
    have s3 : Same H1 (L2.upd (L2.upd H2 U (.tup [cdV p.1, .int (p.2 : Int)])) T' (.tup [.int ((i : Nat) : Int), .ref U])) := (s2.trans (same_new hU)).trans (same_new hT)
    have hd3 : (L2.upd (L2.upd H2 U (.tup [cdV p.1, .int (p.2 : Int)])) T' (.tup [.int ((i : Nat) : Int), .ref U])) D = some (.lst (natV (loU t i))) := by rw [upd_ne nT, upd_ne nU]; exact hd2
    have hu3 : (L2.upd (L2.upd H2 U (.tup [cdV p.1, .int (p.2 : Int)])) T' (.tup [.int ((i : Nat) : Int), .ref U])) U = some (.tup [cdV p.1, .int (p.2 : Int)]) := by rw [upd_ne nUT, upd_same]
    refine ⟨T', _, rfl, SqT.of upd_same, rfl, _, _, rfl, _, _, rfl, U, _, rfl, SqT.of hu3, rfl, _, _, rfl, _, _, rfl, rfl, rfl, rfl, ?_⟩
    generalize (L2.upd (L2.upd H2 U (.tup [cdV p.1, .int (p.2 : Int)])) T' (.tup [.int ((i : Nat) : Int), .ref U])) = H3 at s3 hd3 ⊢
    refine ⟨_, rfl, _, rfl, p.1, p.2, rfl, _, rfl, ?_⟩
    rw [loU_succ hp]
    cases c : looseB p with
    | false =>
      refine iteF ⟨s3, ?_⟩
      rw [hd3]
      show _ = some (HO.lst (natV (loU t i ++ [])))
      rw [List.append_nil]
    | true =>
      refine iteT ⟨_, rfl, _, hd3, by rw [natV_len]; exact small_le (by have := loU_len t i; omega), same_put s3 hD, ?_⟩
      rw [upd_same]
      show _ = some (HO.lst (natV (loU t i ++ [i])))
      rw [natV_app]
      rfl
  rintro H2 ⟨s2, hlo⟩
  rw [cvs_len] at hlo
  have sH : Same H H2 := s1.trans s2
  refine ⟨Nat.zero_le _, fun c hc => ?_⟩
  have c0 : H c = none := sH.free hc
  have nDc : D ≠ c := ne_of_none hlo hc
  have s3 : Same H (L2.upd H2 c (.lst [])) := same_put sH c0
  have hlo3 : (L2.upd H2 c (.lst [])) D = some (.lst (natV (looseI t))) := by rw [upd_ne nDc]; exact hlo
  have hc3 : (L2.upd H2 c (.lst [])) c = some (.lst []) := upd_same
  generalize (L2.upd H2 c (.lst [])) = H3 at s3 hlo3 hc3 ⊢
  refine ⟨_, rfl, _, rfl, r, b, rfl, s3 _ _ hr0, hb, by omega, fun dq H4 s4 hdq0 hdq => ?_⟩
  refine ⟨r, dq, _, _, rfl, SqL.of (s4 _ _ (s3 _ _ hr0)), SqL.of hdq, ?_⟩
  refine for_it (walk_zip (xs := cvs b) (ys := natV (b.deps 0)) (n := b.sg) (by rw [cvs_len, natV_len, b.deps_len, Nat.min_self])) (fun k σ G => ∃ (v4 v5 : Option V), σ = [some (.ref r), some (.ref o), some (.ref D), none, v4, v5, some (.ref c)] ∧ Same H G ∧ Keep c H4 G ∧ G c = some (.lst ((((b.zc 0).take k).flatMap (Bt.handC t)).map cdV))) ?_ ?_ ?_ ?_
  · exact ⟨none, none, rfl, s3.trans s4, Keep.refl _ _, by rw [s4 _ _ hc3]; rfl⟩
  · rintro k σ G _ ⟨_, _, _, sg, kp, _⟩
    exact ⟨SqL.of (sg _ _ hr0), SqL.of (kp _ _ (ne_of_none hc3 hdq0).symm hdq)⟩
  · rintro k x σ G G2 hk ⟨v4, v5, rfl, sg, kp, hc4⟩ ⟨tp, x', y', rfl, htp, rfl, e1, e2⟩
    obtain ⟨p, hp⟩ := zc_get hk 0
    obtain ⟨p1, p2⟩ := cvs_zc hp
    cases Option.some.inj (p1.symm.trans e1)
    cases Option.some.inj (p2.symm.trans e2)
    have nct : c ≠ tp := ne_of_none hc4 htp
    have sg2 : Same H (L2.upd G tp (.tup [cdV p.1, .int (p.2 : Int)])) := sg.trans (same_new htp)
    have kp2 : Keep c H4 (L2.upd G tp (.tup [cdV p.1, .int (p.2 : Int)])) := kp.trans (Keep.of_same (same_new htp))
    have hc5 : (L2.upd G tp (.tup [cdV p.1, .int (p.2 : Int)])) c = some (.lst ((((b.zc 0).take k).flatMap (Bt.handC t)).map cdV)) := by rw [upd_ne nct]; exact hc4
    refine ⟨tp, _, rfl, SqT.of upd_same, rfl, _, _, rfl, _, _, rfl, rfl, ?_⟩
    generalize (L2.upd G tp (.tup [cdV p.1, .int (p.2 : Int)])) = G3 at sg2 kp2 hc5 ⊢
    have step : (((b.zc 0).take (k + 1)).flatMap (Bt.handC t)).map cdV = (((b.zc 0).take k).flatMap (Bt.handC t)).map cdV ++ (Bt.handC t p).map cdV := by
      rw [List.take_succ, hp, List.flatMap_append, List.map_append]
      congr 1
      show ([p].flatMap (Bt.handC t)).map cdV = _
      rw [List.flatMap_singleton]
    have plen : ((((b.zc 0).take k).flatMap (Bt.handC t)).map cdV).length ≤ 4000000 := by
      rw [List.length_map]
      refine Nat.le_trans (hand_len t _) ?_
      have : ((b.zc 0).take k).length ≤ 2000 := by rw [List.length_take, b.zc_len]; omega
      exact Nat.mul_le_mul this (show t.sg ≤ 2000 by omega)
    have sl := sizeLine_eq
    have one : ∀ (v4 v5 : Option V) (u : Cd), Bt.handC t p = [u] → ∃ (w4 w5 : Option V), [some (V.ref r), some (.ref o), some (.ref D), none, v4, v5, some (.ref c)] = [some (.ref r), some (.ref o), some (.ref D), none, w4, w5, some (.ref c)] ∧ Same H (L2.upd G3 c (.lst ((((b.zc 0).take k).flatMap (Bt.handC t)).map cdV ++ [cdV u]))) ∧ Keep c H4 (L2.upd G3 c (.lst ((((b.zc 0).take k).flatMap (Bt.handC t)).map cdV ++ [cdV u]))) ∧
        (L2.upd G3 c (.lst ((((b.zc 0).take k).flatMap (Bt.handC t)).map cdV ++ [cdV u]))) c = some (.lst ((((b.zc 0).take (k + 1)).flatMap (Bt.handC t)).map cdV)) := by
      intro v4 v5 u hu
      refine ⟨_, _, rfl, same_put sg2 c0, kp2.trans Keep.upd_p, ?_⟩
      rw [upd_same, step, hu]
      rfl
    have hlt : ((((b.zc 0).take k).flatMap (Bt.handC t)).map cdV).length < sizeLine := by omega
    obtain ⟨cc, d⟩ := p
    cases cc with
    | inl z =>
      refine ⟨_, rfl, _, rfl, rfl, _, rfl, ?_⟩
      rw [show decide (cdV (Sum.inl z) = V.int (d : Int)) = false from decide_eq_false (fun e => V.noConfusion e)]
      refine iteF ⟨_, rfl, _, rfl, .inl z, d, rfl, _, rfl, ?_⟩
      refine iteF ⟨_, rfl, .inl ⟨rfl, _, SqL.of hc5⟩, _, rfl, c, _, _, rfl, rfl, hc5, hlt, ?_⟩
      exact one _ _ _ (hand_lt rfl)
    | inr n =>
      refine ⟨_, rfl, _, rfl, rfl, _, rfl, ?_⟩
      by_cases e : n = d
      · rw [show decide (cdV (Sum.inr n) = V.int (d : Int)) = true from decide_eq_true (by rw [e]; rfl)]
        refine iteT ⟨_, rfl, .inl ⟨rfl, _, SqL.of hc5⟩, _, rfl, _, rfl, _, rfl, o, D, t, d, rfl, sg2 _ _ ho0, kp2 _ _ nDc (s4 _ _ hlo3), by omega, fun a G4 s5 a0 ha => ?_⟩
        refine ⟨c, a, _, _, rfl, rfl, s5 _ _ hc5, ha, ?_, ?_⟩
        · rw [cvs_len, lift_sg]; omega
        refine ⟨_, _, rfl, same_put (sg2.trans s5) c0, (kp2.trans (Keep.of_same s5)).trans Keep.upd_p, ?_⟩
        rw [upd_same, step, hand_eq e]
        rfl
      · rw [show decide (cdV (Sum.inr n) = V.int (d : Int)) = false from decide_eq_false (fun h => e (by injection h with h; omega))]
        refine iteF ⟨_, rfl, _, rfl, .inr n, d, rfl, _, rfl, ?_⟩
        cases cl : looseB (.inr n, d) with
        | false =>
          refine iteF ⟨_, rfl, .inl ⟨rfl, _, SqL.of hc5⟩, _, rfl, c, _, _, rfl, rfl, hc5, hlt, ?_⟩
          exact one _ _ _ (hand_lt cl)
        | true =>
          obtain ⟨h1, h2⟩ := hand_gt (t := t) e cl
          refine iteT ⟨_, rfl, .inl ⟨rfl, _, SqL.of hc5⟩, _, rfl, _, _, rfl, rfl, c, _, _, rfl, rfl, hc5, hlt, ?_⟩
          have o1 := one (some (cdV (.inr n))) (some (.int (d : Int))) _ h1
          rw [show cdV (Sum.inr (n - 1)) = V.int ((n : Int) - 1) from congrArg V.int (by show ((n - 1 : Nat) : Int) = _; omega)] at o1
          exact o1
  · rintro σ G ⟨v4, v5, rfl, sg, kp, hc4⟩
    rw [List.take_of_length_le (by rw [b.zc_len]; exact Nat.le_refl _)] at hc4
    refine ⟨_, rfl, q c G sg c0 ?_⟩
    rw [hc4]
    unfold cvs
    rw [Bt.hand_cd]
theorem ok_stepped (F : Fun K "stepped" "stepped" sStepped f fd) (T : Bn mg) (D_part_end : Df K mg "part_end" sPE f1 fd1 ["row", "start"]) (G_part_end : FnOk P w K mg base CX0 1 f1 fd1 ["row", "start"] spPartEnd)
    (D_put_in : Df K mg "put_in" sPutIn f2 fd2 ["body", "other"]) (G_put_in : FnOk P w K mg base CX0 2 f2 fd2 ["body", "other"] spPutIn) : FnOk P w K mg base CX0 3 f fd ["codes", "at"] spStepped := by
  refine F.ok scStepped (fun vs H Q E h => ?_) (fun cdv A outer sc0 H vs Q E hr h => ?_)
  · obtain ⟨r, b, x, c, i, rfl, _⟩ := h
    rfl
  obtain ⟨r, b, x, c, i, rfl, hr0, hb, hn, hs, q⟩ := h
  refine ⟨_, (pss_cons (ps_set (i := 2) scStepped.nd rfl (.inl rfl) (pe_cd D_part_end G_part_end hr (by decide) (pa_cons (pv 0) (pa_cons (pe_op op_add (pv 1) pe_int) pa_nil))))
      (pss_cons (ps_set (i := 3) scStepped.nd rfl (.inl rfl) (pe_cd D_part_end G_part_end hr (by decide) (pa_cons (pv 0) (pa_cons (pv 2) pa_nil))))
      (pss_one (ps_ret (pe_op op_cat (pe_op op_cat (pe_slice sl_list (pv 0) po_none (po_some (pv 1))) (pe_cd D_put_in G_put_in hr (by decide) (pa_cons (pe_slice sl_list (pv 0) (po_some (pe_op op_add (pv 1) pe_int)) (po_some (pv 2))) (pa_cons (pe_slice sl_list (pv 0) (po_some (pv 2)) (po_some (pv 3))) pa_nil)))) (pe_slice sl_list (pv 0) (po_some (pv 3)) po_none)))))), ?_⟩
  have hall : (Bt.to (.of x) c).all okN = true := Bt.sub_all hb hs
  have hall2 : (x.all okN && c.all okN) = true := hall
  rw [Bool.and_eq_true] at hall2
  obtain ⟨hx, hc⟩ := hall2
  have hfit := (Bt.cd_part hs).2
  have hfit : i + (x.sg + 1 + c.sg + 1) ≤ b.sg := hfit
  obtain ⟨pre, suf, hpre, hb1, hb2⟩ := step_cut hs
  have lx := cvs_len x
  have lc := cvs_len c
  have lo : (cvs (.of x)).length = x.sg + 1 := cvs_len _
  have lb := cvs_len b
  have d1 : (cvs b).drop (i + 1) = cvs (.of x) ++ (cvs c ++ suf) := by
    rw [hb1, ← List.drop_drop, drop_pre hpre]; rfl
  have d2 : (cvs b).drop (i + 1 + (x.sg + 1)) = cvs c ++ suf := by
    rw [← List.drop_drop, d1, drop_pre lo]
  have d3 : (cvs b).drop (i + 1 + (x.sg + 1) + c.sg) = suf := by
    rw [← List.drop_drop, d2, drop_pre lc]
  have d4 : (cvs b).drop (i + 2) = cvs x ++ (cvs c ++ suf) := by
    rw [show i + 2 = (i + 1) + 1 from rfl, ← List.drop_drop, d1]; rfl
  have e1 : (i : Int) + 1 = ((i + 1 : Nat) : Int) := rfl
  refine ⟨_, rfl, _, rfl, _, _, rfl, rfl, r, cvs b, .of x, i + 1, rfl, hr0, ⟨_, d1⟩, hx, by show x.sg + 1 ≤ _; omega, ?_⟩
  refine ⟨_, rfl, _, rfl, r, cvs b, c, i + 1 + (x.sg + 1), rfl, hr0, ⟨_, d2⟩, hc, by omega, ?_⟩
  have m1 : i + 1 + (Bt.of x).sg = i + x.sg + 2 := by show i + 1 + (x.sg + 1) = _; omega
  have m2 : i + 1 + (x.sg + 1) + c.sg = i + x.sg + 2 + c.sg := by omega
  rw [m1, m2]
  rw [show i + 1 + (x.sg + 1) = i + x.sg + 2 by omega] at d2
  rw [m2] at d3
  refine ⟨_, rfl, _, rfl, _, rfl, r, _, rfl, SqL.of hr0, fun p1 hp1 => ?_⟩
  rw [cut_to _ _ (by omega), show (cvs b).take i = pre by rw [hb1, take_pre hpre]]
  have s1 := new_same (o := .lst pre) hp1
  have h1 : (L2.upd H p1 (.lst pre)) p1 = some (.lst pre) := upd_same
  generalize L2.upd H p1 (.lst pre) = H1 at h1 s1 ⊢
  refine ⟨_, rfl, _, rfl, _, _, rfl, rfl, _, rfl, _, rfl, _, rfl, r, _, rfl, SqL.of (s1 _ _ hr0), fun p2 hp2 => ?_⟩
  rw [show ((i : Int) + 2) = ((i + 2 : Nat) : Int) from rfl, cut_mid (by omega) (by omega), show ((cvs b).drop (i + 2)).take (i + x.sg + 2 - (i + 2)) = cvs x by rw [d4, take_pre (by omega)]]
  have s2 := s1.trans (new_same (o := .lst (cvs x)) hp2)
  have h1 := new_same (o := .lst (cvs x)) hp2 _ _ h1
  have h2 : (L2.upd H1 p2 (.lst (cvs x))) p2 = some (.lst (cvs x)) := upd_same
  generalize L2.upd H1 p2 (.lst (cvs x)) = H2 at h1 h2 s2 ⊢
  refine ⟨_, rfl, _, rfl, _, rfl, _, rfl, _, rfl, r, _, rfl, SqL.of (s2 _ _ hr0), fun p3 hp3 => ?_⟩
  rw [cut_mid (by omega) (by omega), show ((cvs b).drop (i + x.sg + 2)).take (i + x.sg + 2 + c.sg - (i + x.sg + 2)) = cvs c by rw [d2, take_pre (by omega)]]
  have s3 := s2.trans (new_same (o := .lst (cvs c)) hp3)
  have h1 := new_same (o := .lst (cvs c)) hp3 _ _ h1
  have h2 := new_same (o := .lst (cvs c)) hp3 _ _ h2
  have h3 : (L2.upd H2 p3 (.lst (cvs c))) p3 = some (.lst (cvs c)) := upd_same
  generalize L2.upd H2 p3 (.lst (cvs c)) = H3 at h1 h2 h3 s3 ⊢
  refine ⟨p2, p3, x, c, rfl, h2, h3, hx, hc, by omega, fun a H4 s4 _ ha => ?_⟩
  have hl := hand_sg c x 0
  have hl2 : x.sg * c.sg ≤ 2000 * 2000 := Nat.mul_le_mul (by omega) (by omega)
  have ll := cvs_len (Bt.hand c 0 x)
  have sl := sizeLine_eq
  have hlb : pre.length + (x.sg + c.sg + 2 + suf.length) = b.sg := by
    rw [← lb, hb1, List.length_append, List.length_cons, List.length_append, List.length_append]; omega
  refine ⟨p1, a, _, _, rfl, rfl, s4 _ _ h1, ha, by omega, fun p4 hp4 => ?_⟩
  have s5 := (s3.trans s4).trans (new_same (o := .lst (pre ++ cvs (Bt.hand c 0 x))) hp4)
  have h4 : (L2.upd H4 p4 (.lst (pre ++ cvs (Bt.hand c 0 x)))) p4 = some (.lst (pre ++ cvs (Bt.hand c 0 x))) := upd_same
  generalize L2.upd H4 p4 (.lst (pre ++ cvs (Bt.hand c 0 x))) = H5 at h4 s5 ⊢
  refine ⟨_, rfl, _, rfl, _, rfl, r, _, rfl, SqL.of (s5 _ _ hr0), fun p5 hp5 => ?_⟩
  rw [cut_from _ _ (by omega), d3]
  have s6 := s5.trans (new_same (o := .lst suf) hp5)
  have h4 := new_same (o := .lst suf) hp5 _ _ h4
  have h5 : (L2.upd H5 p5 (.lst suf)) p5 = some (.lst suf) := upd_same
  generalize L2.upd H5 p5 (.lst suf) = H6 at h4 h5 s6 ⊢
  refine ⟨p4, p5, _, _, rfl, rfl, h4, h5, by rw [List.length_append]; omega, fun p6 hp6 => ?_⟩
  refine q p6 _ (s6.trans (new_same hp6)) ?_
  rw [upd_same, hb2]
theorem ok_first (F : Fun K "first_step" "first_step" sFirst f fd) (T : Bn mg) (W : Lw mg) : FnOk P w K mg base CX0 1 f fd ["codes", "start"] spFirst := by
  refine F.ok scFirst (fun vs H Q E h => ?_) (fun cdv A outer sc0 H vs Q E hr h => ?_)
  · obtain ⟨r, b, i, rfl, _⟩ := h
    rfl
  obtain ⟨r, b, i, rfl, hr0, hb, hn, hi, hj, q⟩ := h
  obtain ⟨tOf, gOf⟩ := W.of_
  obtain ⟨tTo, gTo⟩ := W.to_
  refine ⟨_, (pss_cons (ps_for PassesOwn.never rfl (pi_range2 (by rfl) T.b_range (pa_cons (pv 1) (pa_cons (pe_op op_sub (pe_callB call_len_seq (by rfl) T.b_len (by decide +kernel) (pa_cons (pv 0) pa_nil)) pe_int) pa_nil))) (pg_name (i := 2) scFirst.nd rfl (.inl rfl))
        (pss_one (ps_if (PW.pt (pw_and (pt_cmpR op_eq (pe_ix ix_list (pv 0) (pv 2) (fun _ _ => rfl)) (pe_glob (v := .str "to") rfl gTo ⟨_, rfl⟩) (nomark _)) (pw_and1 (pt_cmpR op_eq (pe_ix ix_list (pv 0) (pe_op op_add (pv 2) pe_int) (fun _ _ => rfl)) (pe_glob (v := .str "of") rfl gOf ⟨_, rfl⟩) (nomark _))))) (pss_one (ps_ret (pv 2))) pss_nil)))
      (pss_one (ps_ret pe_non))), ?_⟩
  refine ⟨_, rfl, _, rfl, r, _, rfl, .inl (SqL.of hr0), ?_⟩
  have lb := cvs_len b
  have hsg := b.sg_pos
  refine ⟨_, _, rfl, rfl, _, _, rfl, ⟨by omega, by omega, by omega, by omega⟩, ?_⟩
  have hn2 : (((cvs b).length : Int) - 1 - (i : Int)).toNat = b.sg - 1 - i := by omega
  rw [hn2]
  refine for_range (lo := (i : Int)) (n := b.sg - 1 - i) (fun k σ G => ∃ v2 : Option V, σ = [some (.ref r), some (.int (i : Int)), v2] ∧ G = H ∧ ∀ j, j < i + k → Bt.toOf b.cd j = false) ?_ ?_ ?_
  · exact ⟨none, rfl, rfl, hj⟩
  · rintro k σ G hk ⟨v2, rfl, rfl, hj2⟩
    obtain ⟨m, hm⟩ : ∃ m, m = i + k := ⟨_, rfl⟩
    have em : (i : Int) + (k : Int) = (m : Int) := by omega
    have hml : m + 1 < b.sg := by omega
    have em1 : (m : Int) + 1 = ((m + 1 : Nat) : Int) := rfl
    rw [em]
    rw [← hm] at hj2
    obtain ⟨c0, h0⟩ := get_lt (xs := b.cd) (i := m) (by rw [Bt.cd_len]; omega)
    obtain ⟨c1, h1⟩ := get_lt (xs := b.cd) (i := m + 1) (by rw [Bt.cd_len]; omega)
    have g0 : (cvs b)[m]? = some (cdV c0) := by unfold cvs; rw [List.getElem?_map, h0]; rfl
    have g1 : (cvs b)[m + 1]? = some (cdV c1) := by unfold cvs; rw [List.getElem?_map, h1]; rfl
    have et : Bt.toOf b.cd m = (decide (cdV c0 = V.str "to") && decide (cdV c1 = V.str "of")) := by
      unfold Bt.toOf
      rw [cdV_str, cdV_str, h0, h1]
      congr 1 <;> exact decide_eq_decide.mpr ⟨fun e => Option.some.inj e, fun e => by rw [e]⟩
    have go : Bt.toOf b.cd m = false → ∀ v2 : Option V, ∃ w2 : Option V, [some (V.ref r), some (.int (i : Int)), v2] = [some (.ref r), some (.int (i : Int)), w2] ∧ G = G ∧ ∀ j, j < i + (k + 1) → Bt.toOf b.cd j = false := fun e v2 => ⟨_, rfl, rfl, fun j hj => by
      by_cases c : j < m
      · exact hj2 j c
      · obtain rfl : j = m := by omega
        exact e⟩
    refine ⟨_, rfl, _, rfl, r, _, _, _, rfl, rfl, SqL.of hr0, atI_nat g0, scal_cd, _, rfl, ?_⟩
    cases e0 : decide (cdV c0 = V.str "to") with
    | false =>
      rw [e0] at et
      exact iteF (iteF (go et _))
    | true =>
      refine iteT ⟨_, rfl, _, rfl, _, _, rfl, rfl, r, _, _, _, rfl, rfl, SqL.of hr0, atI_nat g1, scal_cd, _, rfl, ?_⟩
      cases e1 : decide (cdV c1 = V.str "of") with
      | false =>
        rw [e0, e1] at et
        exact iteF (go et _)
      | true =>
        rw [e0, e1] at et
        rw [fst_is hml et hj2] at q
        exact iteT ⟨_, rfl, q⟩
  · rintro σ G ⟨v2, rfl, rfl, hj2⟩
    rw [fst_no fun j hj => hj2 j (by omega)] at q
    exact q
end
end TF18
set_option maxHeartbeats 400000
/-! a writing of a row of codes: new names by depth -/
namespace TG
open PySem PySem.Spec L2
open PyProof.Rows hiding St
namespace Bt
/-- each number is bound within -/
def cl : Bt → Nat → Bool
  | bd n, d => decide (n < d)
  | fr _, _ => true
  | of b, d => cl b (d + 1)
  | to a b, d => cl a d && cl b d
theorem deps_lt : ∀ (b : Bt) (d : Nat), ∀ x ∈ b.deps d, d ≤ x ∧ x < d + b.sg
  | bd _, d, x, h => by rw [List.mem_singleton.mp h]; exact ⟨Nat.le_refl _, Nat.lt_succ_self _⟩
  | fr _, d, x, h => by rw [List.mem_singleton.mp h]; exact ⟨Nat.le_refl _, Nat.lt_succ_self _⟩
  | of b, d, x, h => by
    show d ≤ x ∧ x < d + (b.sg + 1)
    rcases List.mem_cons.mp h with rfl | h
    · exact ⟨Nat.le_refl _, by omega⟩
    · have := deps_lt b (d + 1) x h
      omega
  | to a b, d, x, h => by
    show d ≤ x ∧ x < d + (a.sg + b.sg + 1)
    rcases List.mem_cons.mp h with rfl | h
    · exact ⟨Nat.le_refl _, by omega⟩
    · rcases List.mem_append.mp h with h | h
      · have := deps_lt a d x h
        omega
      · have := deps_lt b d x h
        omega
theorem deps_self (b : Bt) (d : Nat) : d ∈ b.deps d := by cases b <;> exact List.mem_cons_self
/-- its free names -/
def frs : Bt → List Str
  | bd _ => []
  | fr z => [z]
  | of b => b.frs
  | to a b => a.frs ++ b.frs
theorem frs_cd : ∀ (b : Bt) (z : Str), z ∈ b.frs → Sum.inl z ∈ b.cd
  | fr y, z, h => by rw [List.mem_singleton.mp h]; exact List.mem_cons_self
  | of b, z, h => List.mem_cons_of_mem _ (frs_cd b z h)
  | to a b, z, h => by
    refine List.mem_cons_of_mem _ ?_
    rcases List.mem_append.mp h with h | h
    · exact List.mem_append_left _ (frs_cd a z h)
    · exact List.mem_append_right _ (frs_cd b z h)
end Bt
/-- so many names, one for each depth -/
def nmW (l : List Str) : Nat → Bt → Wr
  | d, .bd n => .nm (l[d - n - 1]?.getD "x")
  | _, .fr z => .nm z
  | d, .of b => .of (l[d]?.getD "x") (nmW l (d + 1) b)
  | d, .to a b => .to (nmW l d a) (nmW l d b)
theorem nmW_sg (l : List Str) : ∀ (b : Bt) (d : Nat), (nmW l d b).sg = b.sg
  | .bd _, _ => rfl
  | .fr _, _ => rfl
  | .of b, d => congrArg (· + 1) (nmW_sg l b (d + 1))
  | .to a b, d => by
    show (nmW l d a).sg + (nmW l d b).sg + 1 = a.sg + b.sg + 1
    rw [nmW_sg l a d, nmW_sg l b d]
theorem nmW_cnt {l : List Str} (hnd : l.Nodup) : ∀ (b : Bt) (d : Nat), b.cl d = true → (∀ x ∈ b.deps d, x < l.length) → (∀ z ∈ b.frs, z ∉ l) → (nmW l d b).cnt (l.take d).reverse = b
  | .bd n, d, hc, hd, _ => by
    have hn : n < d := of_decide_eq_true hc
    have hdl : d < l.length := hd d (Bt.deps_self _ d)
    have hi : d - n - 1 < l.length := by omega
    have e : l[d - n - 1]?.getD "x" = l[d - n - 1] := by rw [List.getElem?_eq_getElem hi]; rfl
    have hrl : n < (l.take d).reverse.length := by rw [List.length_reverse, List.length_take]; omega
    have e2 : (l.take d).reverse[n] = l[d - n - 1] := by
      rw [List.getElem_reverse, List.getElem_take]
      congr 1
      rw [List.length_take]
      omega
    have nd : ((l.take d).reverse).Nodup := List.pairwise_reverse.mpr ((hnd.sublist (List.take_sublist _ _)).imp fun h => Ne.symm h)
    show (if (l[d - n - 1]?.getD "x") ∈ (l.take d).reverse then Bt.bd ((l.take d).reverse.idxOf (l[d - n - 1]?.getD "x")) else _) = _
    rw [e, ← e2, if_pos (List.getElem_mem _)]
    exact congrArg Bt.bd (List.Nodup.idxOf_getElem nd _ hrl)
  | .fr z, d, _, _, hf => by
    have hz : z ∉ l := hf z List.mem_cons_self
    show (if z ∈ (l.take d).reverse then _ else Bt.fr z) = _
    rw [if_neg fun h => hz (List.mem_of_mem_take (List.mem_reverse.mp h))]
  | .of b, d, hc, hd, hf => by
    have hdl : d < l.length := hd d (Bt.deps_self _ d)
    have e : l[d]?.getD "x" = l[d] := by rw [List.getElem?_eq_getElem hdl]; rfl
    have ih := nmW_cnt hnd b (d + 1) hc (fun x hx => hd x (List.mem_cons_of_mem _ hx)) hf
    have e2 : (l.take (d + 1)).reverse = l[d] :: (l.take d).reverse := by
      rw [List.take_succ, List.getElem?_eq_getElem hdl, List.reverse_append]
      rfl
    rw [e2] at ih
    show Bt.of ((nmW l (d + 1) b).cnt ((l[d]?.getD "x") :: (l.take d).reverse)) = _
    rw [e, ih]
  | .to a b, d, hc, hd, hf => by
    have hc : (a.cl d && b.cl d) = true := hc
    rw [Bool.and_eq_true] at hc
    show Bt.to ((nmW l d a).cnt _) ((nmW l d b).cnt _) = _
    rw [nmW_cnt hnd a d hc.1 (fun x hx => hd x (List.mem_cons_of_mem _ (List.mem_append_left _ hx))) fun z hz => hf z (List.mem_append_left _ hz),
      nmW_cnt hnd b d hc.2 (fun x hx => hd x (List.mem_cons_of_mem _ (List.mem_append_right _ hx))) fun z hz => hf z (List.mem_append_right _ hz)]
theorem nmW_ok {l : List Str} (hl : ∀ z ∈ l, okN z = true) : ∀ (b : Bt) (d : Nat), b.all okN = true → b.cl d = true → (∀ x ∈ b.deps d, x < l.length) → (nmW l d b).all okN = true
  | .bd n, d, _, hc, hd => by
    have hn : n < d := of_decide_eq_true hc
    have hdl : d < l.length := hd d (Bt.deps_self _ d)
    have hi : d - n - 1 < l.length := by omega
    show okN (l[d - n - 1]?.getD "x") = true
    rw [List.getElem?_eq_getElem hi]
    exact hl _ (List.getElem_mem _)
  | .fr z, d, ho, _, _ => ho
  | .of b, d, ho, hc, hd => by
    have hdl : d < l.length := hd d (Bt.deps_self _ d)
    show (okN (l[d]?.getD "x") && (nmW l (d + 1) b).all okN) = true
    rw [List.getElem?_eq_getElem hdl, nmW_ok hl b (d + 1) ho hc fun x hx => hd x (List.mem_cons_of_mem _ hx)]
    show (okN l[d] && true) = true
    rw [hl _ (List.getElem_mem _)]
    rfl
  | .to a b, d, ho, hc, hd => by
    have ho : (a.all okN && b.all okN) = true := ho
    have hc : (a.cl d && b.cl d) = true := hc
    rw [Bool.and_eq_true] at hc ho
    show ((nmW l d a).all okN && (nmW l d b).all okN) = true
    rw [nmW_ok hl a d ho.1 hc.1 fun x hx => hd x (List.mem_cons_of_mem _ (List.mem_append_left _ hx)), nmW_ok hl b d ho.2 hc.2 fun x hx => hd x (List.mem_cons_of_mem _ (List.mem_append_right _ hx))]
    rfl
/-- the names that a row uses, and the greatest depth -/
def cdO : Cd → Option (Option Str)
  | .inl z => some (some z)
  | .inr _ => none
def useB (b : Bt) : List (Option Str) := (b.cd.filterMap cdO).foldl insN []
def mxL : List Nat → Nat
  | [] => 0
  | x :: l => max x (mxL l)
theorem mxL_ge : ∀ {l : List Nat} {x : Nat}, x ∈ l → x ≤ mxL l
  | y :: l, x, h => by
    show x ≤ max y (mxL l)
    rcases List.mem_cons.mp h with rfl | h
    · exact Nat.le_max_left _ _
    · exact Nat.le_trans (mxL_ge h) (Nat.le_max_right _ _)
theorem mxL_mem : ∀ {l : List Nat}, l ≠ [] → mxL l ∈ l
  | [x], _ => by
    show max x 0 ∈ [x]
    rw [Nat.max_eq_left (Nat.zero_le _)]
    exact List.mem_cons_self
  | x :: y :: l, _ => by
    have ih := mxL_mem (l := y :: l) (List.cons_ne_nil _ _)
    show max x (mxL (y :: l)) ∈ _
    by_cases c : mxL (y :: l) ≤ x
    · rw [Nat.max_eq_left c]; exact List.mem_cons_self
    · rw [Nat.max_eq_right (by omega)]; exact List.mem_cons_of_mem _ ih
def nmsB (b : Bt) : List Str := (nwL (useB b) (mxL (b.deps 0) + 1 + (useB b).length)).take (mxL (b.deps 0) + 1)
/-- the writing with these codes -/
def nmd (b : Bt) : Wr := nmW (nmsB b) 0 b
theorem mx_lt (b : Bt) : mxL (b.deps 0) < b.sg := by
  have h := mxL_mem (l := b.deps 0) (List.ne_nil_of_mem (b.deps_self 0))
  have := (b.deps_lt 0 _ h).2
  omega
theorem useB_len (b : Bt) : (useB b).length ≤ b.sg := by
  have h := insN_len (b.cd.filterMap cdO) []
  have h2 := List.length_filterMap_le cdO b.cd
  rw [Bt.cd_len] at h2
  have : ([] : List (Option Str)).length = 0 := rfl
  unfold useB
  omega
/-- what each sign of such a writing keeps -/
def entB (l : List Str) : Cd × Nat → V × V
  | (.inr n, d) => (.str "name", .str (l[d - n - 1]?.getD "x"))
  | (.inl z, d) => if z = "of" then (.str "of", .str (l[d]?.getD "x")) else if z = "to" then (.str "to", .non) else (.str "name", .str z)
theorem nmW_ents (l : List Str) : ∀ (b : Bt) (d : Nat), b.all okN = true → (nmW l d b).tr.ents = (b.zc d).map (entB l)
  | .bd n, d, _ => rfl
  | .fr z, d, h => by
    have hz : okN z = true := h
    show [(V.str "name", V.str z)] = [if z = "of" then _ else if z = "to" then _ else _]
    rw [if_neg (Bt.ne_of hz), if_neg (Bt.ne_to hz)]
  | .of b, d, h => by
    rw [Bt.zc_of]
    show (V.str "of", V.str (l[d]?.getD "x")) :: (nmW l (d + 1) b).tr.ents = entB l (.inl "of", d) :: (b.zc (d + 1)).map (entB l)
    rw [nmW_ents l b (d + 1) h]
    rfl
  | .to a b, d, h => by
    have h : (a.all okN && b.all okN) = true := h
    rw [Bool.and_eq_true] at h
    rw [Bt.zc_to]
    show (V.str "to", V.non) :: ((nmW l d a).tr.ents ++ (nmW l d b).tr.ents) = entB l (.inl "to", d) :: (a.zc d ++ b.zc d).map (entB l)
    rw [nmW_ents l a d h.1, nmW_ents l b d h.2, List.map_append]
    congr 1
theorem zc_bound : ∀ (b : Bt) (d : Nat), b.cl d = true → ∀ (n e : Nat), (Sum.inr n, e) ∈ b.zc d → n < e
  | .bd m, d, h, n, e, hm => by
    have hm : (Sum.inr n, e) ∈ [((Sum.inr m : Cd), d)] := hm
    cases List.mem_singleton.mp hm
    exact of_decide_eq_true h
  | .fr z, d, h, n, e, hm => by
    have hm : (Sum.inr n, e) ∈ [((Sum.inl z : Cd), d)] := hm
    cases List.mem_singleton.mp hm
  | .of b, d, h, n, e, hm => by
    rw [Bt.zc_of] at hm
    rcases List.mem_cons.mp hm with hm | hm
    · cases hm
    · exact zc_bound b (d + 1) h n e hm
  | .to a b, d, h, n, e, hm => by
    have h : (a.cl d && b.cl d) = true := h
    rw [Bool.and_eq_true] at h
    rw [Bt.zc_to] at hm
    rcases List.mem_cons.mp hm with hm | hm
    · cases hm
    · rcases List.mem_append.mp hm with hm | hm
      · exact zc_bound a d h.1 n e hm
      · exact zc_bound b d h.2 n e hm
def spNamed : Sp := fun vs H Q _ => ∃ (r : Addr) (b : Bt), vs = [.ref r] ∧ H r = some (.lst (cvs b)) ∧ b.all okN = true ∧ b.cl 0 = true ∧ b.sg ≤ 2000 ∧
  ∀ (v : V) (H' : Hp), Same H H' → WA H' v (nmd b) → Q v H'
/-- layers of a row -/
def spLayers : Sp := fun vs H Q _ => ∃ (r : Addr) (b : Bt), vs = [.ref r] ∧ H r = some (.lst (cvs b)) ∧ b.all okN = true ∧ b.sg ≤ 4000 ∧ ∀ H', Same H H' → Q (.int (b.ly : Int)) H'
end TG
set_option maxHeartbeats 400000
/-! what is left of a row behind so many codes; layers -/
namespace TG
open PySem PySem.Spec L2
open PyProof.Rows hiding St
def nxB : List Bt → List Bt
  | [] => []
  | p :: r => kidsB p ++ r
def foB (b : Bt) : Nat → List Bt
  | 0 => [b]
  | i + 1 => nxB (foB b i)
theorem sgs_foB (b : Bt) : ∀ i, i ≤ b.sg → sgs (foB b i) + i = b.sg
  | 0, _ => by show b.sg + 0 + 0 = b.sg; rfl
  | i + 1, h => by
    have ih := sgs_foB b i (by omega)
    show sgs (nxB (foB b i)) + (i + 1) = b.sg
    cases q : foB b i with
    | nil =>
      rw [q] at ih
      have : 0 + i = b.sg := ih
      omega
    | cons p r =>
      rw [q, sgs_cons] at ih
      show sgs (kidsB p ++ r) + (i + 1) = b.sg
      omega
theorem foB_row (b : Bt) : ∀ i, i ≤ b.sg → (cvs b).drop i = rowV (foB b i)
  | 0, _ => by show cvs b = cvs b ++ []; rw [List.append_nil]
  | i + 1, h => by
    have ih := foB_row b i (by omega)
    rw [← List.tail_drop, ih]
    show _ = rowV (nxB (foB b i))
    cases q : foB b i with
    | nil => rfl
    | cons p r => rw [rowV_cons]; rfl
theorem foB_head (b : Bt) {i : Nat} (h : i < b.sg) : ∃ p r, foB b i = p :: r ∧ foB b (i + 1) = kidsB p ++ r ∧ (cvs b)[i]? = some (cdV p.hdC) := by
  have e := foB_row b i (by omega)
  have s := sgs_foB b i (by omega)
  cases q : foB b i with
  | nil =>
    rw [q] at s
    have : 0 + i = b.sg := s
    omega
  | cons p r =>
    refine ⟨p, r, rfl, by show nxB (foB b i) = _; rw [q]; rfl, ?_⟩
    rw [q, rowV_cons] at e
    have e2 : ((cvs b).drop i)[0]? = some (cdV p.hdC) := by rw [e]; rfl
    rw [List.getElem?_drop, Nat.add_zero] at e2
    exact e2
theorem foB_end (b : Bt) : foB b b.sg = [] := by
  have s := sgs_foB b b.sg (Nat.le_refl _)
  have l := sgs_len (foB b b.sg)
  exact List.length_eq_zero_iff.mp (by omega)
theorem foB_ok {b : Bt} (h : b.all okN = true) : ∀ i, ∀ p ∈ foB b i, p.all okN = true
  | 0, p, hp => by rw [List.mem_singleton.mp hp]; exact h
  | i + 1, p, hp => by
    have hp : p ∈ nxB (foB b i) := hp
    cases q : foB b i with
    | nil => rw [q] at hp; exact absurd hp List.not_mem_nil
    | cons s r =>
      rw [q] at hp
      rcases List.mem_append.mp hp with hp | hp
      · exact kids_ok (foB_ok h i s (by rw [q]; exact List.mem_cons_self)) p hp
      · exact foB_ok h i p (by rw [q]; exact List.mem_cons_of_mem _ hp)
def lyS (fs : List Bt) : List V := (fs.map fun p => V.int (p.ly : Int)).reverse
theorem lyS_cons (p : Bt) (fs : List Bt) : lyS (p :: fs) = lyS fs ++ [V.int (p.ly : Int)] := by
  unfold lyS
  rw [List.map_cons, List.reverse_cons]
theorem lyS_len (fs : List Bt) : (lyS fs).length = fs.length := by unfold lyS; rw [List.length_reverse, List.length_map]
/-- the most layers among the first ones -/
def mxK : List Bt → Nat
  | [] => 0
  | p :: r => max p.ly (mxK r)
def mxT (l : List Bt) (t : Nat) : Nat := (l.take t).foldl (fun m p => max m p.ly) 0
theorem ly_kids (p : Bt) : mxT (kidsB p) (kidsB p).length + 1 = p.ly := by
  cases p with
  | bd n => rfl
  | fr z => rfl
  | of b => show max 0 b.ly + 1 = b.ly + 1; rw [Nat.max_eq_right (Nat.zero_le _)]
  | to a b => show max (max 0 a.ly) b.ly + 1 = max a.ly b.ly + 1; rw [Nat.max_eq_right (Nat.zero_le _)]
theorem mxT_succ {l : List Bt} {t : Nat} {p : Bt} (h : l[t]? = some p) : mxT l (t + 1) = max (mxT l t) p.ly := by
  unfold mxT
  rw [List.take_succ, h, List.foldl_append]
  rfl
end TG
namespace TF18
open PySem PySem.Spec L2 TG TA
open PyProof.Rows hiding St
abbrev sNamed : Stmt := top 41
abbrev sLI : Stmt := top 20
theorem scNamed : FnScope ["codes", "depths", "used", "code", "names", "signs", "depth"] ["codes"] (defScope sNamed) := ⟨rfl, rfl, rfl, by decide +kernel, rfl, by decide +kernel, by decide +kernel⟩
theorem scLI : FnScope ["row", "layers", "item", "most", "_"] ["row"] (defScope sLI) := ⟨rfl, rfl, rfl, by decide +kernel, rfl, by decide +kernel, by decide +kernel⟩
section
variable {P : Program} {w : World} {K : PySem.W.Frag} {mg : Str → Option Value} {base : Heap} {f f1 f2 f3 : Addr} {fd fd1 fd2 fd3 : FuncData}
theorem ok_named (F : Fun K "named" "named" sNamed f fd) (T : Bn mg) (W : Lw mg) (D_depths_in : Df K mg "depths_in" sDepths f1 fd1 ["row"]) (G_depths_in : FnOk P w K mg base CX0 1 f1 fd1 ["row"] spDepthsB)
    (D_new_names : Df K mg "new_names" sNew f2 fd2 ["count", "used"]) (G_new_names : FnOk P w K mg base CX0 1 f2 fd2 ["count", "used"] (spNew P w)) (D_built : Df K mg "built" sBuilt f3 fd3 ["signs"]) (G_built : FnOk P w K mg base CX0 1 f3 fd3 ["signs"] spBuilt) : FnOk P w K mg base CX0 2 f fd ["codes"] spNamed := by
  refine F.ok scNamed (fun vs H Q E h => ?_) (fun cdv A outer sc0 H vs Q E hr h => ?_)
  · obtain ⟨r, b, rfl, _⟩ := h
    rfl
  obtain ⟨r, b, rfl, hr0, hb, hcl, hn, q⟩ := h
  obtain ⟨tOf, gOf⟩ := W.of_
  obtain ⟨tTo, gTo⟩ := W.to_
  obtain ⟨tNm, gNm⟩ := W.nm_
  refine ⟨_, (pss_cons (ps_set (i := 1) scNamed.nd rfl (.inl rfl) (pe_cd D_depths_in G_depths_in hr (by decide) (pa_cons (pv 0) pa_nil)))
      (pss_cons (ps_setDcS (i := 2) (own := [("code", 3)]) (g := (gName 3)) (stN_ok _ _) rfl scNamed.nd rfl rfl (swD rfl rfl rfl (by decide +kernel)) (pi_list (pv 0)) (blkOk_by (own := [("code", 3)]) (N := ["codes", "depths", "used", "code", "names", "signs", "depth"]) (sc := defScope sNamed) (by decide +kernel)) (fun _ _ _ _ _ => (pg_name (i := 3) scNamed.nd rfl (.inl rfl))) (fun _ _ _ _ _ => (pts_one (pt_val (pe_callB (show CallR _ (.builtin "isinstance") (rIsi K) from call_isi) (by rfl) T.b_isinstance (by decide +kernel) (pa_cons (pv 3) (pa_cons (pe_bltn (v := .ty "str") (u := .type "str") (by rfl) T.b_str (by decide +kernel) rfl) pa_nil)))))) (fun _ _ _ _ _ => (pv 3)) (fun _ _ _ _ _ => pe_bl))
      (pss_cons (ps_set (i := 4) scNamed.nd rfl (.inl rfl) (pe_cd D_new_names G_new_names hr (by decide) (pa_cons (pe_op op_add (pe_callB (cr_max rfl) (by rfl) T.b_max (by decide +kernel) (pa_cons (pv 1) pa_nil)) pe_int) (pa_cons (pv 2) pa_nil))))
      (pss_cons (ps_set (i := 5) scNamed.nd rfl (.inl rfl) (pe_lst pa_nil))
      (pss_cons (ps_for PassesOwn.never rfl (pi_zip (by rfl) T.b_zip (pa_cons (pv 0) (pa_cons (pv 1) pa_nil))) (pg_tup (by rfl) (pgs_cons (pg_name (i := 3) scNamed.nd rfl (.inl rfl)) (pgs_cons (pg_name (i := 6) scNamed.nd rfl (.inl rfl)) pgs_nil)))
        (pss_one (ps_if (pt_cmpR op_eq (pv 3) (pe_glob (v := .str "of") rfl gOf ⟨_, rfl⟩) (nomark _)) (pss_one (ps_expr (pe_bm PySem.F.plainAttrs_list PySem.F.slot_list_append PySem.F.type_list_append mt_append (pv 5) (pa_cons (pe_tup (pa_cons (pe_glob (v := .str "of") rfl gOf ⟨_, rfl⟩) (pa_cons (pe_ix ix_list (pv 4) (pv 6) (fun _ _ => rfl)) pa_nil))) pa_nil)))) (pss_one (ps_if (pt_cmpR op_eq (pv 3) (pe_glob (v := .str "to") rfl gTo ⟨_, rfl⟩) (nomark _)) (pss_one (ps_expr (pe_bm PySem.F.plainAttrs_list PySem.F.slot_list_append PySem.F.type_list_append mt_append (pv 5) (pa_cons (pe_tup (pa_cons (pe_glob (v := .str "to") rfl gTo ⟨_, rfl⟩) (pa_cons pe_non pa_nil))) pa_nil)))) (pss_one (ps_if (pt_val (pe_callB (show CallR _ (.builtin "isinstance") (rIsi K) from call_isi) (by rfl) T.b_isinstance (by decide +kernel) (pa_cons (pv 3) (pa_cons (pe_bltn (v := .ty "str") (u := .type "str") (by rfl) T.b_str (by decide +kernel) rfl) pa_nil)))) (pss_one (ps_expr (pe_bm PySem.F.plainAttrs_list PySem.F.slot_list_append PySem.F.type_list_append mt_append (pv 5) (pa_cons (pe_tup (pa_cons (pe_glob (v := .str "name") rfl gNm ⟨_, rfl⟩) (pa_cons (pv 3) pa_nil))) pa_nil)))) (pss_one (ps_expr (pe_bm PySem.F.plainAttrs_list PySem.F.slot_list_append PySem.F.type_list_append mt_append (pv 5) (pa_cons (pe_tup (pa_cons (pe_glob (v := .str "name") rfl gNm ⟨_, rfl⟩) (pa_cons (pe_ix ix_list (pv 4) (pe_op op_sub (pe_op op_sub (pv 6) (pv 3)) pe_int) (fun _ _ => rfl)) pa_nil))) pa_nil)))))))))))
      (pss_one (ps_ret (pe_cd D_built G_built hr (by decide) (pa_cons (pv 5) pa_nil))))))))), ?_⟩
  refine ⟨_, rfl, r, b, rfl, hr0, hb, hn, fun dp H1 s1 _ hdp => ?_⟩
  refine ⟨_, rfl, r, rfl, ⟨_, SqL.of (s1 _ _ hr0)⟩, fun D hD => ?_⟩
  have D0 : H D = none := s1.free hD
  refine dc_it (walk_list (K := K) (a := r) (xs := cvs b)) (fun k G => Same H1 G ∧ NAt P w G D (((b.cd.take k).filterMap cdO).foldl insN [])) ?_ ?_ ?_ ?_
  · exact ⟨same_new hD, by rw [List.take_zero]; exact .inr ⟨rfl, upd_same⟩⟩
  · rintro k G _ ⟨s2, _⟩
    exact SqL.of (s2 _ _ (s1 _ _ hr0))
  · rintro k x _ G hk ⟨s2, hN⟩ ⟨rfl, hx⟩
    have hkl : k < b.cd.length := by rw [Bt.cd_len, ← cvs_len]; exact lt_get hx
    obtain ⟨c, hc⟩ := get_lt hkl
    have e : (cvs b)[k]? = some (cdV c) := by unfold cvs; rw [List.getElem?_map, hc]; rfl
    cases Option.some.inj (e.symm.trans hx)
    have step : ((b.cd.take (k + 1)).filterMap cdO) = (b.cd.take k).filterMap cdO ++ (cdO c).toList := by
      rw [List.take_succ, hc, List.filterMap_append]
      congr 1
    have nl : (((b.cd.take k).filterMap cdO).foldl insN []).length < 100000 := by
      have h1 := insN_len ((b.cd.take k).filterMap cdO) []
      have h2 := List.length_filterMap_le cdO (b.cd.take k)
      rw [List.length_take, Bt.cd_len] at h2
      have : ([] : List (Option Str)).length = 0 := rfl
      omega
    cases c with
    | inl z =>
      refine ⟨rfl, _, rfl, V.str z, _, _, _, _, rfl, .ty "str", .base (.str _), kit_str (n := "str") (by decide), _, rfl, iteT ⟨_, rfl, _, some z, rfl, hN, nl, same_put s2 hD, .inl ?_⟩⟩
      rw [upd_same, step, List.foldl_append]
      rfl
    | inr n =>
      refine ⟨rfl, _, rfl, V.int (n : Int), _, _, _, _, rfl, .ty "str", .base (.int _), kit_str (n := "int") (by decide), _, rfl, iteF ⟨s2, ?_⟩⟩
      rw [step]
      show NAt P w G D (((b.cd.take k).filterMap cdO ++ []).foldl insN [])
      rw [List.append_nil]
      exact hN
  rintro G ⟨s2, hN⟩
  rw [List.take_of_length_le (by rw [cvs_len, Bt.cd_len]; exact Nat.le_refl _)] at hN
  have hN : NAt P w G D (useB b) := hN
  have ul := useB_len b
  have ml := mx_lt b
  have dpos : 0 < (b.deps 0).length := by rw [b.deps_len]; exact b.sg_pos
  refine ⟨_, rfl, dp, (b.deps 0).map (fun n : Nat => (n : Int)), rfl, SqL.of (by rw [s2 _ _ hdp]; unfold natV; rw [List.map_map]; rfl), by rw [List.length_map]; exact dpos, fun m hm1 hm2 => ?_⟩
  have em : m = ((mxL (b.deps 0) : Nat) : Int) := by
    obtain ⟨x, hx, rfl⟩ := List.mem_map.mp hm1
    have h1 := mxL_ge hx
    have h2 := hm2 _ (List.mem_map.mpr ⟨_, mxL_mem (List.ne_nil_of_length_pos dpos), rfl⟩)
    have h2 : ((mxL (b.deps 0) : Nat) : Int) ≤ (x : Int) := h2
    omega
  subst em
  refine ⟨_, _, rfl, rfl, _, rfl, mxL (b.deps 0) + 1, D, useB b, rfl, hN, by omega, by omega, fun L l G2 s3 hl hll hnd hno hle => ?_⟩
  have hle : l = nmsB b := hle
  have sG : Same H G2 := (s1.trans s2).trans s3
  refine ⟨Nat.zero_le _, fun c hc => ?_⟩
  have c0 : H c = none := sG.free hc
  have nLc : L ≠ c := ne_of_none hl hc
  have ndc : dp ≠ c := ne_of_none (s3 _ _ (s2 _ _ hdp)) hc
  have s4 : Same H (L2.upd G2 c (.lst [])) := same_put sG c0
  have hl4 : (L2.upd G2 c (.lst [])) L = some (.lst (l.map V.str)) := by rw [upd_ne nLc]; exact hl
  have hd4 : (L2.upd G2 c (.lst [])) dp = some (.lst (natV (b.deps 0))) := by rw [upd_ne ndc]; exact s3 _ _ (s2 _ _ hdp)
  have hc4 : (L2.upd G2 c (.lst [])) c = some (.lst []) := upd_same
  generalize (L2.upd G2 c (.lst [])) = G4 at s4 hl4 hd4 hc4 ⊢
  refine ⟨_, rfl, _, rfl, r, dp, _, _, rfl, SqL.of (s4 _ _ hr0), SqL.of hd4, ?_⟩
  refine for_it (walk_zip (xs := cvs b) (ys := natV (b.deps 0)) (n := b.sg) (by rw [cvs_len, natV_len, b.deps_len, Nat.min_self])) (fun k σ G => ∃ (v3 v6 : Option V) (ts : List Addr), σ = [some (.ref r), some (.ref dp), some (.ref D), v3, some (.ref L), some (.ref c), v6] ∧ Same H G ∧ Keep c G4 G ∧ G c = some (.lst (ts.map V.ref)) ∧ ts.length = k ∧
    ∀ (i : Nat) (p : Cd × Nat) (a : Addr), (b.zc 0)[i]? = some p → ts[i]? = some a → a ≠ c ∧ G a = some (.tup [(entB l p).1, (entB l p).2])) ?_ ?_ ?_ ?_
  · exact ⟨none, none, [], rfl, s4, Keep.refl _ _, hc4, rfl, fun i p a _ h => by simp at h⟩
  · rintro k σ G _ ⟨_, _, _, _, sg, kp, _⟩
    exact ⟨SqL.of (sg _ _ hr0), SqL.of (kp _ _ ndc hd4)⟩
  · rintro k x σ G G5 hk ⟨v3, v6, ts, rfl, sg, kp, hcg, hlen, hts⟩ ⟨tp, x', y', rfl, htp, rfl, e1, e2⟩
    obtain ⟨p, hp⟩ := zc_get hk 0
    obtain ⟨p1, p2⟩ := cvs_zc hp
    cases Option.some.inj (p1.symm.trans e1)
    cases Option.some.inj (p2.symm.trans e2)
    have nct : c ≠ tp := ne_of_none hcg htp
    have sg2 : Same H (L2.upd G tp (.tup [cdV p.1, .int (p.2 : Int)])) := sg.trans (same_new htp)
    have kp2 : Keep c G4 (L2.upd G tp (.tup [cdV p.1, .int (p.2 : Int)])) := kp.trans (Keep.of_same (same_new htp))
    have hc5 : (L2.upd G tp (.tup [cdV p.1, .int (p.2 : Int)])) c = some (.lst (ts.map V.ref)) := by rw [upd_ne nct]; exact hcg
    have hts5 : ∀ (i : Nat) (q : Cd × Nat) (a : Addr), (b.zc 0)[i]? = some q → ts[i]? = some a → a ≠ c ∧ (L2.upd G tp (.tup [cdV p.1, .int (p.2 : Int)])) a = some (.tup [(entB l q).1, (entB l q).2]) := fun i q a h1 h2 => ⟨(hts i q a h1 h2).1, same_new htp _ _ (hts i q a h1 h2).2⟩
    refine ⟨tp, _, rfl, SqT.of upd_same, rfl, _, _, rfl, _, _, rfl, rfl, ?_⟩
    generalize (L2.upd G tp (.tup [cdV p.1, .int (p.2 : Int)])) = G5 at sg2 kp2 hc5 hts5 ⊢
    have hlt : (ts.map V.ref).length < sizeLine := by rw [List.length_map]; exact small_le (by omega)
    have ldp : ∀ x ∈ b.deps 0, x < l.length := fun x hx => by rw [hll]; have := mxL_ge hx; omega
    have fin : ∀ (u v : V) (a : Addr) (v3 v6 : Option V), entB l p = (u, v) → G5 a = none → ∃ (w3 w6 : Option V) (ts' : List Addr), [some (V.ref r), some (.ref dp), some (.ref D), v3, some (.ref L), some (.ref c), v6] = [some (.ref r), some (.ref dp), some (.ref D), w3, some (.ref L), some (.ref c), w6] ∧
        Same H (L2.upd (L2.upd G5 a (.tup [u, v])) c (.lst (ts.map V.ref ++ [.ref a]))) ∧ Keep c G4 (L2.upd (L2.upd G5 a (.tup [u, v])) c (.lst (ts.map V.ref ++ [.ref a]))) ∧ (L2.upd (L2.upd G5 a (.tup [u, v])) c (.lst (ts.map V.ref ++ [.ref a]))) c = some (.lst (ts'.map V.ref)) ∧ ts'.length = k + 1 ∧
        ∀ (i : Nat) (p : Cd × Nat) (a' : Addr), (b.zc 0)[i]? = some p → ts'[i]? = some a' → a' ≠ c ∧ (L2.upd (L2.upd G5 a (.tup [u, v])) c (.lst (ts.map V.ref ++ [.ref a]))) a' = some (.tup [(entB l p).1, (entB l p).2]) := by
      intro u v a v3 v6 he ha
      have nca : c ≠ a := ne_of_none hc5 ha
      refine ⟨_, _, ts ++ [a], rfl, same_put (sg2.trans (same_new ha)) c0, (kp2.trans (Keep.of_same (same_new ha))).trans Keep.upd_p, by rw [upd_same, List.map_append]; rfl, by rw [List.length_append, hlen]; rfl, fun i q a' hq ha' => ?_⟩
      by_cases z : i < k
      · rw [List.getElem?_append_left (by omega)] at ha'
        obtain ⟨n1, n2⟩ := hts5 i q a' hq ha'
        exact ⟨n1, by rw [upd_ne n1]; exact same_new ha _ _ n2⟩
      · rw [List.getElem?_append_right (by omega)] at ha'
        have hi : i - ts.length = 0 := by
          have := lt_get ha'
          simp at this
          omega
        rw [hi] at ha'
        have ea : a = a' := by simpa using ha'
        subst ea
        have ei : i = k := by omega
        subst ei
        rw [hp] at hq
        cases hq
        rw [he]
        exact ⟨Ne.symm nca, by rw [upd_ne (Ne.symm nca), upd_same]⟩
    obtain ⟨cc, d⟩ := p
    have hdm : d ∈ b.deps 0 := mem_get (zc_cd hp).2
    cases cc with
    | inl z =>
      refine ⟨_, rfl, rfl, _, rfl, ?_⟩
      by_cases z1 : z = "of"
      · subst z1
        rw [show decide (cdV (Sum.inl ("of" : Str)) = V.str "of") = true from decide_eq_true rfl]
        refine iteT ⟨_, rfl, .inl ⟨rfl, _, SqL.of hc5⟩, _, rfl, _, rfl, L, _, _, _, rfl, rfl, SqL.of (kp2 _ _ nLc hl4), atI_nat (by rw [List.getElem?_map, List.getElem?_eq_getElem (ldp d hdm)]; rfl), (by show 2 ≤ sizeLine; decide), fun a ha => ⟨c, _, _, rfl, rfl, by rw [upd_ne (ne_of_none hc5 ha)]; exact hc5, hlt, ?_⟩⟩
        refine fin _ _ a _ _ ?_ ha
        show (if ("of" : Str) = "of" then (V.str "of", V.str (l[d]?.getD "x")) else if ("of" : Str) = "to" then (V.str "to", V.non) else (V.str "name", V.str "of")) = _
        rw [if_pos rfl, List.getElem?_eq_getElem (ldp d hdm)]
        rfl
      · rw [show decide (cdV (Sum.inl z) = V.str "of") = false from decide_eq_false (fun e => z1 (by injection e))]
        refine iteF ⟨_, rfl, rfl, _, rfl, ?_⟩
        by_cases z2 : z = "to"
        · subst z2
          rw [show decide (cdV (Sum.inl ("to" : Str)) = V.str "to") = true from decide_eq_true rfl]
          refine iteT ⟨_, rfl, .inl ⟨rfl, _, SqL.of hc5⟩, (by show 2 ≤ sizeLine; decide), fun a ha => ⟨c, _, _, rfl, rfl, by rw [upd_ne (ne_of_none hc5 ha)]; exact hc5, hlt, ?_⟩⟩
          refine fin _ _ a _ _ ?_ ha
          show (if ("to" : Str) = "of" then (V.str "of", V.str (l[d]?.getD "x")) else if ("to" : Str) = "to" then (V.str "to", V.non) else (V.str "name", V.str "to")) = _
          rw [if_neg (by decide +kernel), if_pos rfl]
        · rw [show decide (cdV (Sum.inl z) = V.str "to") = false from decide_eq_false (fun e => z2 (by injection e))]
          refine iteF ⟨_, rfl, V.str z, _, _, _, _, rfl, .ty "str", .base (.str _), kit_str (n := "str") (by decide), _, rfl, ?_⟩
          refine iteT ⟨_, rfl, .inl ⟨rfl, _, SqL.of hc5⟩, _, rfl, (by show 2 ≤ sizeLine; decide), fun a ha => ⟨c, _, _, rfl, rfl, by rw [upd_ne (ne_of_none hc5 ha)]; exact hc5, hlt, ?_⟩⟩
          refine fin _ _ a _ _ ?_ ha
          show (if z = "of" then (V.str "of", V.str (l[d]?.getD "x")) else if z = "to" then (V.str "to", V.non) else (V.str "name", V.str z)) = _
          rw [if_neg z1, if_neg z2]
          rfl
    | inr n =>
      have hnd := zc_bound b 0 hcl n d (mem_get hp)
      have hld := ldp d hdm
      refine ⟨_, rfl, rfl, _, rfl, ?_⟩
      rw [show decide (cdV (Sum.inr n) = V.str "of") = false from decide_eq_false (fun e => V.noConfusion e)]
      refine iteF ⟨_, rfl, rfl, _, rfl, ?_⟩
      rw [show decide (cdV (Sum.inr n) = V.str "to") = false from decide_eq_false (fun e => V.noConfusion e)]
      refine iteF ⟨_, rfl, V.int (n : Int), _, _, _, _, rfl, .ty "str", .base (.int _), kit_str (n := "int") (by decide), _, rfl, ?_⟩
      have hi : d - n - 1 < l.length := by omega
      refine iteF ⟨_, rfl, .inl ⟨rfl, _, SqL.of hc5⟩, _, rfl, _, rfl, _, rfl, _, _, rfl, rfl, _, _, rfl, rfl, L, _, ((d - n - 1 : Nat) : Int), V.str l[d - n - 1], rfl, congrArg V.int (by omega), SqL.of (kp2 _ _ nLc hl4), atI_nat (by rw [List.getElem?_map, List.getElem?_eq_getElem hi]; rfl), (by show 2 ≤ sizeLine; decide), fun a ha => ⟨c, _, _, rfl, rfl, by rw [upd_ne (ne_of_none hc5 ha)]; exact hc5, hlt, ?_⟩⟩
      refine fin _ _ a _ _ ?_ ha
      show (V.str "name", V.str (l[d - n - 1]?.getD "x")) = _
      rw [List.getElem?_eq_getElem hi]
      rfl
  · rintro σ G ⟨v3, v6, ts, rfl, sg, kp, hcg, hlen, hts⟩
    have hsz : (nmd b).tr.sz = b.sg := by rw [Wr.tr_sz]; exact nmW_sg _ _ _
    refine ⟨_, rfl, c, (nmd b).tr, rfl, ⟨ts, hcg, by rw [hlen, hsz], fun i p a hp ha => ?_⟩, by omega, fun v G6 s6 hv => q v G6 (sg.trans s6) (hv.wa (Wr.tr_tw _ _))⟩
    have e : (nmd b).tr.ents = (b.zc 0).map (entB l) := by rw [hle]; exact nmW_ents _ b 0 hb
    rw [e, List.getElem?_map] at hp
    obtain ⟨u, hu, rfl⟩ := Option.map_eq_some_iff.mp hp
    exact (hts i u a hu ha).2
theorem ok_layers (F : Fun K "layers_in" "layers_in" sLI f fd) (T : Bn mg) (Z : Pm K w mg) : FnOk P w K mg base CX0 1 f fd ["row"] spLayers := by
  refine F.ok scLI (fun vs H Q E h => ?_) (fun cdv A outer sc0 H vs Q E hr h => ?_)
  · obtain ⟨r, b, rfl, _⟩ := h
    rfl
  obtain ⟨r, b, rfl, hr0, hb, hn, q⟩ := h
  obtain ⟨aP, gP, kd⟩ := Z.at_
  refine ⟨_, (pss_cons (ps_set (i := 1) scLI.nd rfl (.inl rfl) (pe_lst pa_nil))
      (pss_cons (ps_for PassesOwn.never rfl (pi_reversed (by rfl) T.b_reversed (pa_cons (pv 0) pa_nil)) (pg_name (i := 2) scLI.nd rfl (.inl rfl))
        (pss_cons (ps_set (i := 3) scLI.nd rfl (.inl rfl) pe_int)
        (pss_cons (ps_for PassesOwn.never rfl (pi_range1 (by rfl) T.b_range (pa_cons (pe_kgetM (pe_glob (v := .ref aP) rfl gP rfl) (pv 2) pe_int ⟨rfl, rfl, rfl, rfl⟩) pa_nil)) (pg_name (i := 4) scLI.nd rfl (.inl rfl))
          (pss_one (ps_set (i := 3) scLI.nd rfl (.inl rfl) (pe_callB (call_max2 rfl) (by rfl) T.b_max (by decide +kernel) (pa_cons (pv 3) (pa_cons (pe_bm0 PySem.F.plainAttrs_list PySem.F.slot_list_pop PySem.F.type_list_pop mt_pop (pv 1)) pa_nil))))))
        (pss_one (ps_expr (pe_bm PySem.F.plainAttrs_list PySem.F.slot_list_append PySem.F.type_list_append mt_append (pv 1) (pa_cons (pe_op op_add (pv 3) pe_int) pa_nil)))))))
      (pss_one (ps_ret (pe_ix ix_list (pv 1) pe_int (fun _ _ => rfl)))))), ?_⟩
  refine ⟨Nat.zero_le _, fun L hL => ?_⟩
  have s1 : Same H (L2.upd H L (.lst [])) := same_new hL
  have hl1 : (L2.upd H L (.lst [])) L = some (.lst []) := upd_same
  have L0 : H L = none := hL
  generalize (L2.upd H L (.lst [])) = H1 at s1 hl1 ⊢
  refine ⟨_, rfl, r, _, rfl, SqL.of (s1 _ _ hr0), ?_⟩
  refine for_it (walk_rev (xs := cvs b)) (fun k σ G => ∃ (v2 v3 v4 : Option V), σ = [some (.ref r), some (.ref L), v2, v3, v4] ∧ Same H G ∧ G L = some (.lst (lyS (foB b (b.sg - k))))) ?_ ?_ ?_ ?_
  · exact ⟨none, none, none, rfl, s1, by rw [Nat.sub_zero, foB_end]; exact hl1⟩
  · rintro k σ G _ ⟨_, _, _, _, sg, _⟩
    exact SqL.of (sg _ _ hr0)
  · rintro k x σ G G' hk ⟨v2, v3, v4, rfl, sg, hlg⟩ ⟨rfl, hx⟩
    rw [cvs_len] at hk hx
    obtain ⟨j, hj⟩ : ∃ j, j = b.sg - 1 - k := ⟨_, rfl⟩
    obtain ⟨p, fs, e1, e2, e3⟩ := foB_head b (i := j) (by omega)
    rw [← hj] at hx
    cases Option.some.inj (e3.symm.trans hx)
    have hp : p.all okN = true := foB_ok hb j p (by rw [e1]; exact List.mem_cons_self)
    rw [show b.sg - k = j + 1 by omega, e2] at hlg
    rw [show b.sg - (k + 1) = j by omega, e1]
    have hfl : (kidsB p ++ fs).length ≤ 4000 := by
      have h1 := sgs_len (foB b (j + 1))
      have h2 := sgs_foB b (j + 1) (by omega)
      rw [e2] at h1 h2
      omega
    rw [List.length_append] at hfl
    refine ⟨aP, _, rfl, kd, _, rfl, cdK p.hdC, cdK_V _, ?_⟩
    rw [kids_get hp]
    refine ⟨_, rfl, by omega, by omega, ?_⟩
    rw [show (((kidsB p).length : Int)).toNat = (kidsB p).length from rfl]
    refine for_range (lo := 0) (n := (kidsB p).length) (fun t σ G => ∃ v4 : Option V, σ = [some (.ref r), some (.ref L), some (cdV p.hdC), some (.int ((mxT (kidsB p) t : Nat) : Int)), v4] ∧ Same H G ∧ G L = some (.lst (lyS ((kidsB p).drop t ++ fs)))) ?_ ?_ ?_
    · exact ⟨v4, rfl, sg, hlg⟩
    · rintro t σ G2 ht ⟨v5, rfl, sg2, hl2⟩
      obtain ⟨u, hu⟩ := get_lt ht
      have ed : (kidsB p).drop t = u :: (kidsB p).drop (t + 1) := by
        rw [List.drop_eq_getElem_cons ht]
        congr 1
        exact (List.getElem?_eq_some_iff.mp hu).2
      rw [ed, List.cons_append, lyS_cons] at hl2
      refine ⟨_, rfl, _, rfl, .inl ⟨rfl, _, SqL.of hl2⟩, L, _, _, rfl, rfl, hl2, last_snoc _ _, ?_⟩
      rw [List.dropLast_concat]
      refine ⟨_, _, rfl, some (V.int (0 + (t : Int))), ?_, same_put sg2 L0, upd_same⟩
      rw [mxT_succ hu]
      have em : (if (u.ly : Int) > ((mxT (kidsB p) t : Nat) : Int) then (u.ly : Int) else ((mxT (kidsB p) t : Nat) : Int)) = ((max (mxT (kidsB p) t) u.ly : Nat) : Int) := by
        by_cases c : mxT (kidsB p) t < u.ly
        · rw [if_pos (by omega), Nat.max_eq_right (by omega)]
        · rw [if_neg (by omega), Nat.max_eq_left (by omega)]
      show [some (V.ref r), some (V.ref L), some (cdV p.hdC), some (V.int (if (u.ly : Int) > ((mxT (kidsB p) t : Nat) : Int) then (u.ly : Int) else ((mxT (kidsB p) t : Nat) : Int))), some (V.int (0 + (t : Int)))] = _
      rw [em]
    · rintro σ G2 ⟨v5, rfl, sg2, hl2⟩
      rw [List.drop_length, List.nil_append] at hl2
      refine ⟨_, rfl, .inl ⟨rfl, _, SqL.of hl2⟩, _, rfl, _, _, rfl, rfl, L, _, _, rfl, rfl, hl2, by rw [lyS_len]; exact small_le (by omega), ?_⟩
      refine ⟨_, _, _, rfl, same_put sg2 L0, ?_⟩
      rw [upd_same, lyS_cons, ← ly_kids p]
      rfl
  · rintro σ G ⟨v2, v3, v4, rfl, sg, hlg⟩
    rw [cvs_len, Nat.sub_self] at hlg
    refine ⟨_, rfl, L, _, (0 : Int), _, rfl, rfl, SqL.of hlg, ?_, q G sg⟩
    rfl
end
end TF18
set_option maxHeartbeats 400000
/-! TooMany raised: what and most -/
namespace TG
open PySem PySem.Spec L2
open PyProof.Rows hiding St
/-- the __init__ of an error with two fields -/
def spX2 (K : PySem.W.Frag) (g1 g2 : Str) : Sp := fun vs H Q _ => ∃ (a C : Addr) (v1 v2 : V), vs = [.ref a, v1, v2] ∧ OexC K C ∧ PySem.W.findIn K (.ref C) g1 = some none ∧ PySem.W.findIn K (.ref C) g2 = some none ∧ H a = some (exo a C none) ∧
  ∀ (dx : Addr) (H' : Hp), H dx = none → dx ≠ a → H' a = some (exo a C (some dx)) → H' dx = some (exd dx [(g2, v2), (g1, v1)]) → (∀ b o, b ≠ a → H b = some o → H' b = some o) → Q .non H'
/-- such a class at the module's top -/
structure Er2 (P : Program) (w : World) (K : PySem.W.Frag) (mg : Str → Option Value) (base : Heap) (x : Str) (C f : Addr) (fd : FuncData) (g1 g2 : Str) : Prop where
  o : OexC K C
  i : PySem.W.findIn K (.ref C) "__init__" = some (some (.ref f))
  t : PySem.W.typeIn K (.ref f) = some (.type "function")
  G : FnOk P w K mg base CX0 1 f fd ["self", g1, g2] (spX2 K g1 g2)
  n1 : PySem.W.findIn K (.ref C) g1 = some none
  n2 : PySem.W.findIn K (.ref C) g2 = some none
  m : mg x = some (.ref C)
  b : Binds K fd ["self", g1, g2] []
/-- it was raised with these -/
def OutX (C : Addr) (H : Hp) (E : XK) (u : Str) (n : Nat) : Prop := ∀ (d : Addr) (H' : Hp), Same H H' → H d = none → H' d = some (.xd [("most", .int (n : Int)), ("what", .str u)]) → E (.ref C) (some d) H'
/-- too great a row -/
def grt (b : Bt) : Option (Str × Nat) := if b.sg > 2000 then some ("signs", 2000) else if b.sg > 200 ∧ b.ly > 200 then some ("layers", 200) else none
def spRefuse (C : Addr) : Sp := fun vs H Q E => ∃ (r : Addr) (b : Bt), vs = [.ref r] ∧ H r = some (.lst (cvs b)) ∧ b.all okN = true ∧ b.sg ≤ 5000000 ∧
  match grt b with
  | none => ∀ H', Same H H' → Q .non H'
  | some (u, n) => OutX C H E u n
theorem mkO_end {C a dx : Addr} {H1 H2 : Hp} {g1 g2 : Str} {v1 v2 : V} (ha : H1 a = none) (hd : upd H1 a (exo a C none) dx = none) (hne : dx ≠ a) (k : ∀ b o, b ≠ a → upd H1 a (exo a C none) b = some o → H2 b = some o) :
    H1 dx = none ∧ Same H1 (upd (del H2 a) dx (.xd [(g2, v2), (g1, v1)])) := by
  rw [upd_ne hne] at hd
  refine ⟨hd, fun b o e => ?_⟩
  have hb : b ≠ a := ne_of_none e ha
  rw [upd_ne (ne_of_none e hd), del_ne hb]
  exact k b o hb (by rw [upd_ne hb]; exact e)
end TG
namespace TF18
open PySem PySem.Spec L2 TG TA
open PyProof.Rows hiding St
abbrev sTMI : Stmt := inClass (top 15) 0
abbrev sRG : Stmt := top 67
theorem scTMI : FnScope ["self", "what", "most"] ["self", "what", "most"] (defScope sTMI) := ⟨rfl, rfl, rfl, by decide +kernel, rfl, by decide +kernel, by decide +kernel⟩
theorem scRG : FnScope ["codes"] ["codes"] (defScope sRG) := ⟨rfl, rfl, rfl, by decide +kernel, rfl, by decide +kernel, by decide +kernel⟩
/-- the numbers at the top -/
structure Mst (mg : Str → Option Value) : Prop where
  si : ∃ t, mg "MOST_SIGNS" = some (.int 2000 t)
  ly : ∃ t, mg "MOST_LAYERS" = some (.int 200 t)
  st : ∃ t, mg "MOST_STEPS" = some (.int 1000 t)
section
variable {P : Program} {w : World} {K : PySem.W.Frag} {mg : Str → Option Value} {base : Heap} {f f1 f2 f3 : Addr} {fd fd1 fd2 fd3 : FuncData}
theorem ok_tmi (F : Fun K "__init__" "TooMany.__init__" sTMI f fd) : FnOk P w K mg base CX0 1 f fd ["self", "what", "most"] (spX2 K "what" "most") := by
  refine F.ok scTMI (fun vs H Q E h => ?_) (fun cdv A outer s H vs Q E hr h => ?_)
  · obtain ⟨a, C, v, v2, rfl, _⟩ := h
    rfl
  obtain ⟨a, C, v, v2, rfl, T, hf, hf2, ha, q⟩ := h
  refine ⟨_, (pss_cons (ps_ost (pv 0) (pv 1))
      (pss_one (ps_ost (pv 0) (pv 2)))), ?_⟩
  refine ⟨_, rfl, _, rfl, a, C, rfl, T, hf, .inl ⟨ha, fun dx hd hne => ?_⟩⟩
  have x1 : (upd (upd H dx (exd dx [("what", v)])) a (exo a C (some dx))) a = some (exo a C (some dx)) := upd_same
  have x2 : (upd (upd H dx (exd dx [("what", v)])) a (exo a C (some dx))) dx = some (exd dx [("what", v)]) := by rw [upd_ne hne, upd_same]
  refine ⟨_, rfl, _, rfl, a, C, rfl, T, hf2, .inr ⟨dx, _, x1, x2, (by show 1 ≤ 900; decide), ?_⟩⟩
  refine q dx _ hd hne (by rw [upd_ne (Ne.symm hne)]; exact x1) upd_same fun b o hb e => ?_
  rw [upd_ne (ne_of_none e hd), upd_ne hb, upd_ne (ne_of_none e hd)]
  exact e
theorem ok_rg {C fI : Addr} {fdI : FuncData} (F : Fun K "refuse_great" "refuse_great" sRG f fd) (T : Bn mg) (M : Mst mg) (R : Er2 P w K mg base "TooMany" C fI fdI "what" "most") (D_layers_in : Df K mg "layers_in" sLI f1 fd1 ["row"]) (G_layers_in : FnOk P w K mg base CX0 1 f1 fd1 ["row"] spLayers) : FnOk P w K mg base (L2.CX P w) 3 f fd ["codes"] (spRefuse C) := by
  refine F.okX scRG (fun vs H Q E h => ?_) (fun cdv A outer s H vs Q E hr h => ?_)
  · obtain ⟨r, b, rfl, _⟩ := h
    rfl
  obtain ⟨r, b, rfl, hr0, hb, hn, q⟩ := h
  obtain ⟨tS, gS⟩ := M.si
  obtain ⟨tL, gL⟩ := M.ly
  refine ⟨_, (pss_cons (ps_if (pt_cmpR op_gt (pe_callB call_len_seq (by rfl) T.b_len (by decide +kernel) (pa_cons (pv 0) pa_nil)) (pe_glob (v := .int 2000) rfl gS ⟨_, rfl⟩) (nomark _)) (pss_one (ps_raise rfl (takes_of rfl rfl rfl rfl) (pmk_oex R.o R.i R.t R.G (hr.mono (by decide)) R.b .nil pass0 rfl R.m (pa_cons pe_str (pa_cons (pe_glob (v := .int 2000) rfl gS ⟨_, rfl⟩) pa_nil))))) pss_nil)
      (pss_one (ps_if (PW.pt (pw_and (pt_cmpR op_gt (pe_callB call_len_seq (by rfl) T.b_len (by decide +kernel) (pa_cons (pv 0) pa_nil)) (pe_glob (v := .int 200) rfl gL ⟨_, rfl⟩) (nomark _)) (pw_and1 (pt_cmpR op_gt (pe_cd D_layers_in G_layers_in hr (by decide) (pa_cons (pv 0) pa_nil)) (pe_glob (v := .int 200) rfl gL ⟨_, rfl⟩) (nomark _))))) (pss_one (ps_raise rfl (takes_of rfl rfl rfl rfl) (pmk_oex R.o R.i R.t R.G (hr.mono (by decide)) R.b .nil pass0 rfl R.m (pa_cons pe_str (pa_cons (pe_glob (v := .int 200) rfl gL ⟨_, rfl⟩) pa_nil))))) pss_nil))), ?_⟩
  have lb := cvs_len b
  have rs : ∀ (u : Str) (n : Nat) (σ : L2.St) (H1 : Hp), Same H H1 → OutX C H E u n → tMkO C (spX2 K "what" "most") [] (tCons (tC (.str u)) (tCons (tC (.int (n : Int))) tNil)) σ H1 fun cls d H' => E cls d H' := by
    intro u n σ H1 s1 x
    refine ⟨by show 2 ≤ 1000; decide, fun a ha => ⟨a, C, _, _, rfl, R.o, R.n1, R.n2, upd_same, fun dx H2 hd hne h1 h2 k => ?_⟩⟩
    obtain ⟨e1, e2⟩ := mkO_end (g1 := "what") (g2 := "most") (v1 := .str u) (v2 := .int (n : Int)) ha hd hne k
    exact ⟨rfl, dx, _, h1, h2, e1, x dx _ (s1.trans e2) (s1.free e1) upd_same⟩
  refine ⟨_, rfl, r, _, rfl, .inl (SqL.of hr0), _, _, rfl, rfl, _, rfl, ?_⟩
  unfold grt at q
  by_cases c1 : b.sg > 2000
  · rw [if_pos c1] at q
    rw [if_pos (decide_eq_true (by omega))]
    exact rs _ _ _ _ (fun _ _ h => h) q
  · rw [if_neg c1] at q
    rw [if_neg (by simp; omega)]
    refine ⟨_, rfl, r, _, rfl, .inl (SqL.of hr0), _, _, rfl, rfl, _, rfl, ?_⟩
    by_cases c2 : b.sg > 200
    · rw [show decide ((200 : Int) < ((cvs b).length : Int)) = true from decide_eq_true (by omega)]
      refine iteT ⟨_, rfl, r, b, rfl, hr0, hb, by omega, fun H1 s1 => ⟨_, _, rfl, rfl, _, rfl, ?_⟩⟩
      by_cases c3 : b.ly > 200
      · rw [if_pos ⟨c2, c3⟩] at q
        rw [show decide ((200 : Int) < (b.ly : Int)) = true from decide_eq_true (by omega)]
        exact iteT (rs _ _ _ _ s1 q)
      · rw [if_neg fun h => c3 h.2] at q
        rw [show decide ((200 : Int) < (b.ly : Int)) = false from decide_eq_false (by omega)]
        exact iteF (q H1 s1)
    · rw [if_neg fun h => c2 h.1] at q
      rw [show decide ((200 : Int) < ((cvs b).length : Int)) = false from decide_eq_false (by omega)]
      exact iteF (iteF (q H (fun _ _ h => h)))
end
end TF18
set_option maxHeartbeats 400000
/-! tuples all the way in, each laid by the program -/
namespace TG
open PySem PySem.Spec L2
open PyProof.Rows hiding St
mutual
inductive TkD (H : Hp) : V → PyData → Prop
  | non : TkD H .non .none
  | bl (b : Bool) : TkD H (.bl b) (.bool b)
  | int (i : Int) : TkD H (.int i) (.int i)
  | str (x : Str) : TkD H (.str x) (.str x)
  | tup {a : Addr} {xs : List V} {ds : List PyData} : H a = some (.tup xs) → TkAll H xs ds → TkD H (.ref a) (.tuple ds)
inductive TkAll (H : Hp) : List V → List PyData → Prop
  | nil : TkAll H [] []
  | cons {v : V} {vs : List V} {d : PyData} {ds : List PyData} : TkD H v d → TkAll H vs ds → TkAll H (v :: vs) (d :: ds)
end
mutual
theorem TkD.keep {H H' : Hp} (k : ∀ a xs, H a = some (.tup xs) → H' a = some (.tup xs)) : ∀ {d : PyData} {v : V}, TkD H v d → TkD H' v d
  | _, _, .non => .non
  | _, _, .bl b => .bl b
  | _, _, .int i => .int i
  | _, _, .str x => .str x
  | _, _, .tup h t => .tup (k _ _ h) (TkAll.keep k t)
theorem TkAll.keep {H H' : Hp} (k : ∀ a xs, H a = some (.tup xs) → H' a = some (.tup xs)) : ∀ {ds : List PyData} {vs : List V}, TkAll H vs ds → TkAll H' vs ds
  | _, _, .nil => .nil
  | _, _, .cons a t => .cons (TkD.keep k a) (TkAll.keep k t)
end
mutual
theorem TkD.dp {K : PySem.W.Frag} {H : Hp} : ∀ {d : PyData} {v : V}, TkD H v d → Dp K H v d
  | _, _, .non => .non
  | _, _, .bl b => .bl b
  | _, _, .int i => .int i
  | _, _, .str x => .str x
  | _, _, .tup h t => .tup (SqT.of h) (TkAll.dp t)
theorem TkAll.dp {K : PySem.W.Frag} {H : Hp} : ∀ {ds : List PyData} {vs : List V}, TkAll H vs ds → DpAll K H vs ds
  | _, _, .nil => .nil
  | _, _, .cons a t => .cons (TkD.dp a) (TkAll.dp t)
end
mutual
def dpD : PyData → Nat
  | .list ds => dpAll ds + 1
  | .tuple ds => dpAll ds + 1
  | _ => 0
def dpAll : List PyData → Nat
  | [] => 0
  | d :: ds => max (dpD d) (dpAll ds)
end
mutual
def szD : PyData → Nat
  | .list ds => szAll ds + 1
  | .tuple ds => szAll ds + 1
  | _ => 1
def szAll : List PyData → Nat
  | [] => 0
  | d :: ds => szD d + szAll ds
end
theorem szD_pos (d : PyData) : 1 ≤ szD d := by
  cases d with
  | list ds => exact Nat.le_add_left _ _
  | tuple ds => exact Nat.le_add_left _ _
  | _ => exact Nat.le_refl _
theorem szAll_len : ∀ ds : List PyData, ds.length ≤ szAll ds
  | [] => Nat.zero_le _
  | d :: ds => by
    have h1 := szD_pos d
    have h2 := szAll_len ds
    show ds.length + 1 ≤ szD d + szAll ds
    omega
theorem szAll_le : ∀ {ds : List PyData} {d : PyData}, d ∈ ds → szD d ≤ szAll ds
  | e :: ds, d, h => by
    show szD d ≤ szD e + szAll ds
    rcases List.mem_cons.mp h with rfl | h
    · exact Nat.le_add_right _ _
    · exact Nat.le_trans (szAll_le h) (Nat.le_add_left _ _)
theorem dpAll_le : ∀ {ds : List PyData} {d : PyData}, d ∈ ds → dpD d ≤ dpAll ds
  | e :: ds, d, h => by
    show dpD d ≤ max (dpD e) (dpAll ds)
    rcases List.mem_cons.mp h with rfl | h
    · exact Nat.le_max_left _ _
    · exact Nat.le_trans (dpAll_le h) (Nat.le_max_right _ _)
theorem tkAll_get {H : Hp} : ∀ {vs : List V} {ds : List PyData}, TkAll H vs ds → vs.length = ds.length ∧ ∀ (i : Nat) (v : V), vs[i]? = some v → ∃ d, ds[i]? = some d ∧ TkD H v d
  | _, _, .nil => ⟨rfl, fun i v h => by simp at h⟩
  | _, _, .cons a t => by
    obtain ⟨l, k⟩ := tkAll_get t
    refine ⟨congrArg (· + 1) l, fun i v h => ?_⟩
    match i, h with
    | 0, h => cases h; exact ⟨_, rfl, a⟩
    | i + 1, h => exact k i v h
theorem tkAll_snoc {H : Hp} : ∀ {vs : List V} {ds : List PyData} {v : V} {d : PyData}, TkAll H vs ds → TkD H v d → TkAll H (vs ++ [v]) (ds ++ [d])
  | _, _, _, _, .nil, h => .cons h .nil
  | _, _, _, _, .cons a t, h => .cons a (tkAll_snoc t h)
theorem WA.tk {H : Hp} {v : V} {w : Wr} (h : WA H v w) : TkD H v w.d := by
  induction h with
  | nm z => exact .str z
  | of e _ ih => exact .tup e (.cons (.str _) (.cons (.str _) (.cons ih .nil)))
  | to e _ _ i1 i2 => exact .tup e (.cons (.str _) (.cons i1 (.cons i2 .nil)))
theorem TkD.wa {H : Hp} : ∀ {w : Wr} {v : V}, TkD H v w.d → WA H v w
  | .nm z, _, h => by
    have h : TkD H _ (.str z) := h
    cases h with | str => exact .nm z
  | .of x b, _, h => by
    have h : TkD H _ (.tuple [.str "of", .str x, b.d]) := h
    cases h with
    | tup e t =>
      cases t with | cons h1 t =>
      cases t with | cons h2 t =>
      cases t with | cons h3 t =>
      cases t
      cases h1
      cases h2
      exact .of e (TkD.wa h3)
  | .to a b, _, h => by
    have h : TkD H _ (.tuple [.str "to", a.d, b.d]) := h
    cases h with
    | tup e t =>
      cases t with | cons h1 t =>
      cases t with | cons h2 t =>
      cases t with | cons h3 t =>
      cases t
      cases h1
      exact .to e (TkD.wa h2) (TkD.wa h3)
theorem Wr.d_dp : ∀ w : Wr, dpD w.d + 1 ≤ w.ly
  | .nm z => Nat.le_refl _
  | .of x b => by
    have := Wr.d_dp b
    show max 0 (max 0 (max (dpD b.d) 0)) + 1 + 1 ≤ b.ly + 1
    omega
  | .to a b => by
    have h1 := Wr.d_dp a
    have h2 := Wr.d_dp b
    show max 0 (max (dpD a.d) (max (dpD b.d) 0)) + 1 + 1 ≤ max a.ly b.ly + 1
    omega
theorem Wr.d_sz : ∀ w : Wr, szD w.d ≤ 4 * w.sg
  | .nm z => by show 1 ≤ 4 * 1; omega
  | .of x b => by
    have := Wr.d_sz b
    show 1 + (1 + (szD b.d + 0)) + 1 ≤ 4 * (b.sg + 1)
    omega
  | .to a b => by
    have h1 := Wr.d_sz a
    have h2 := Wr.d_sz b
    show 1 + (szD a.d + (szD b.d + 0)) + 1 ≤ 4 * (a.sg + b.sg + 1)
    omega
def spFixed (n : Nat) : Sp := fun vs H Q _ => ∃ (v : V) (d : PyData), vs = [v] ∧ TkD H v d ∧ dpD d < n ∧ szD d ≤ 100000 ∧ ∀ (v' : V) (H' : Hp), Same H H' → TkD H' v' d → Q v' H'
end TG
namespace TF18
open PySem PySem.Spec L2 TG TA
open PyProof.Rows hiding St
abbrev sFix : Stmt := top 48
theorem scFix : FnScope ["value", "items", "item"] ["value"] (defScope sFix) := ⟨rfl, rfl, rfl, by decide +kernel, rfl, by decide +kernel, by decide +kernel⟩
section
variable {P : Program} {w : World} {K : PySem.W.Frag} {mg : Str → Option Value} {base : Heap} {f f1 f2 f3 : Addr} {fd fd1 fd2 fd3 : FuncData}
theorem ok_fixed (D_fixed : Df K mg "fixed" sFix f fd ["value"]) (T : Bn mg) : ∀ n, FnOk P w K mg base CX0 n f fd ["value"] (spFixed n) := by
  intro n
  induction n with
  | zero => exact ⟨fun vs H Q E ⟨v, d, _, _, h, _⟩ => absurd h (Nat.not_lt_zero _), fun A outer s H args us vs Q E _ _ _ _ ⟨v, d, _, _, h, _⟩ => absurd h (Nat.not_lt_zero _)⟩
  | succ n G_fixed =>
    refine D_fixed.F.ok scFix (fun vs H Q E h => ?_) (fun cdv A outer sc0 H vs Q E hr h => ?_)
    · obtain ⟨v, d, rfl, _⟩ := h
      rfl
    obtain ⟨v, d, rfl, hd, hn, hz, q⟩ := h
    refine ⟨_, (pss_cons (ps_if (pt_not (pt_val (pe_callB call_isiT (by rfl) T.b_isinstance (by decide +kernel) (pa_cons (pv 0) (pa_cons (pe_tup (pa_cons (pe_bltn (v := .ty "list") (u := .type "list") (by rfl) T.b_list (by decide +kernel) rfl) (pa_cons (pe_bltn (v := .ty "tuple") (u := .type "tuple") (by rfl) T.b_tuple (by decide +kernel) rfl) pa_nil))) pa_nil))))) (pss_one (ps_ret (pv 0))) pss_nil)
      (pss_cons (ps_set (i := 1) scFix.nd rfl (.inl rfl) (pe_lst pa_nil))
      (pss_cons (ps_for PassesOwn.never rfl (pi_seq (pv 0)) (pg_name (i := 2) scFix.nd rfl (.inl rfl))
        (pss_one (ps_expr (pe_bm PySem.F.plainAttrs_list PySem.F.slot_list_append PySem.F.type_list_append mt_append (pv 1) (pa_cons (pe_cd D_fixed G_fixed hr (Nat.le_refl _) (pa_cons (pv 2) pa_nil)) pa_nil)))))
      (pss_one (ps_ret (pe_callTy call_tuple_of (by rfl) T.b_tuple (by decide +kernel) (pa_cons (pv 1) pa_nil))))))), ?_⟩
    have ty := HasTy.dp (hd.dp (K := K))
    refine ⟨_, rfl, (by show 2 ≤ sizeLine; decide), fun tp htp => ?_⟩
    have s1 := new_same (o := .tup [.ty "list", .ty "tuple"]) htp
    refine ⟨v, tp, _, _, [.type "list", .type "tuple"], _, rfl, upd_same, .cons (.ty _) (.cons (.ty _) .nil), tyx_same ty.1 s1, kit_lt ty.2, _, rfl, ?_⟩
    generalize L2.upd H tp (.tup [.ty "list", .ty "tuple"]) = H1 at s1 ⊢
    have alt : ((tyD d == "list" || tyD d == "tuple") = false) ∨ ∃ a xs ds, v = .ref a ∧ H a = some (.tup xs) ∧ TkAll H xs ds ∧ dpAll ds < n ∧ szAll ds ≤ 100000 ∧ d = .tuple ds := by
      cases hd with
      | non => exact .inl rfl
      | bl b => exact .inl rfl
      | int i => exact .inl rfl
      | str z => exact .inl rfl
      | tup hs ha => exact .inr ⟨_, _, _, rfl, hs, ha, Nat.lt_of_succ_lt_succ hn, Nat.le_trans (Nat.le_succ _) hz, rfl⟩
    rcases alt with e1 | ⟨a, xs, ds, rfl, hx, ha, hlt, hzs, rfl⟩
    · rw [e1]
      exact iteT ⟨_, rfl, q v H1 s1 (hd.keep fun a xs h => s1 _ _ h)⟩
    · refine iteF ⟨Nat.zero_le _, fun L hL => ?_⟩
      have L0 : H L = none := s1.free hL
      have naL : a ≠ L := ne_of_none (s1 _ _ hx) hL
      have s2 : Same H (L2.upd H1 L (.lst [])) := same_put s1 L0
      have hl2 : (L2.upd H1 L (.lst [])) L = some (.lst []) := upd_same
      generalize (L2.upd H1 L (.lst [])) = H2 at s2 hl2 ⊢
      obtain ⟨hlen, hget⟩ := tkAll_get ha
      have dl := szAll_len ds
      refine ⟨_, rfl, a, xs, rfl, .inr (SqT.of (s2 _ _ hx)), fun J G wk hGG => ?_⟩
      refine for_it wk (fun k σ G4 => ∃ (v2 : Option V) (ys : List V), σ = [some (.ref a), some (.ref L), v2] ∧ Same H G4 ∧ G4 L = some (.lst ys) ∧ ys.length = k ∧ TkAll G4 ys (ds.take k)) ?_ ?_ ?_ ?_
      · exact ⟨none, [], rfl, s2, hl2, rfl, .nil⟩
      · rintro k σ G4 _ ⟨_, _, _, s4, _⟩
        exact hGG G4 fun o h => by
          cases Option.some.inj ((s2 _ _ hx).symm.trans h)
          exact s4 _ _ hx
      · rintro k x σ G4 G5 hk ⟨v2, ys, rfl, s4, hl4, hyl, hys⟩ ⟨rfl, hxk⟩
        obtain ⟨d', hd1, hd2⟩ := hget k x hxk
        have hdm : dpD d' < n := Nat.lt_of_le_of_lt (dpAll_le (mem_get hd1)) hlt
        have hds : szD d' ≤ 100000 := Nat.le_trans (szAll_le (mem_get hd1)) hzs
        have hxl : k < xs.length := hk
        refine ⟨_, rfl, .inl ⟨rfl, _, SqL.of hl4⟩, _, rfl, x, d', rfl, hd2.keep fun a xs h => s4 _ _ h, hdm, hds, fun v' G6 s6 hv' => ?_⟩
        have hl6 := s6 _ _ hl4
        have kp : ∀ a xs, G6 a = some (.tup xs) → (L2.upd G6 L (.lst (ys ++ [v']))) a = some (.tup xs) := fun a xs h => by
          rw [upd_ne fun z => ?_]
          · exact h
          · subst z
            rw [hl6] at h
            cases h
        refine ⟨L, ys, _, rfl, rfl, hl6, small_le (by omega), ?_⟩
        refine ⟨_, ys ++ [v'], rfl, same_put (s4.trans s6) L0, upd_same, by rw [List.length_append, hyl]; rfl, ?_⟩
        rw [List.take_succ, hd1]
        exact tkAll_snoc (hys.keep fun a xs h => kp _ _ (s6 _ _ h)) (hv'.keep kp)
      · rintro σ G4 ⟨v2, ys, rfl, s4, hl4, hyl, hys⟩
        rw [hlen, List.take_length] at hys
        refine ⟨_, rfl, L, ys, rfl, .inl ⟨SqL.of hl4, fun p hp => q (.ref p) _ (s4.trans (same_new hp)) ?_⟩⟩
        exact .tup upd_same (hys.keep fun a xs h => same_new hp _ _ h)
end
end TF18
/-! errors as values: made by place or by name, their fields read, isinstance asked of them -/
namespace PySem
namespace TAX
open PySem.W PySem.Calls PyProof.Rows PySem.HandSPX Builtin Builtin.ObjectAttr
section
variable {prog : Program} {w : World} {M : Model} {A : Around} {E : Value → Shared → Prop} {R : Result → Shared → Prop} {h : Heap} {g : Array GenState} {d : Drawn} {t : Nat} {os : OsState}
variable {nm q : Str} {C N : Addr} {bs bm bmB : List Value} {hdct : Bool} {sn : List Str} {sub : List Value} {ab : Bool} {col : Option Bool} {dd : Option Addr} {k0 k1 k2 k3 k5 : Option Value} {B newId initId : String}
theorem chk_new_kw (F : ExcBaseFacts B newId initId bmB) (hT : ∀ X : String, bm.contains (.type X) = bmB.contains (.type X)) {us : List Value} {kw : List (Str × Value)} {Q : Unit → Shared → Prop}
    (hC : h.get? C = some (excClassObj nm q C N bs bm hdct sn sub ab col dd k0 k1 k2 k3 k5 newId)) (hq : Q () ⟨h, g, d, t, os⟩) :
    wpAny M A (checkBuiltinCall newId ⟨.ref C :: us, kw⟩) Q E ⟨h, g, d, t, os⟩ := by
  have hc1 : (Value.ref C :: bm).contains (.type B) = true := by rw [List.contains_cons, hT, F.hasB, Bool.or_true]
  have hs1 := F.noStar
  simp only [checkBuiltinCall, F.newKind, F.newSplit, F.newRow]
  repeat (first | with_reducible refine wpAny_loadPart_at hC ?_ | (with_reducible refine wpAny_isSubtype_exc hC ?_; rw [hc1]) | refine wpAny_staticBase_exc hC ?_ | refine wpAny_madeBy_exc hC ?_ | simp only [bne_self_eq_false, Bool.false_eq_true, if_false] | wp_step)
  exact hq
theorem new_kw (F : ExcBaseFacts B newId initId bmB) (hT : ∀ X : String, bm.contains (.type X) = bmB.contains (.type X)) {us : List Value} {kw : List (Str × Value)}
    (hC : h.get? C = some (excClassObj nm q C N bs bm hdct sn sub ab col dd k0 k1 k2 k3 k5 newId)) (hl : us.length ≤ sizeLine)
    (hq : R (.ok (.ret (.ref (h.objs.size + 1)))) ⟨(h.push (W.kdv_tup us)).push (excO C h.objs.size), g, d, t, os⟩) :
    codeAny (model prog w) A (.builtin newId ⟨.ref C :: us, kw⟩) R ⟨h, g, d, t, os⟩ := by
  have he1 := F.ends
  have h1 : (Value.ref C :: bm).contains (.type B) = true := by rw [List.contains_cons, hT, F.hasB, Bool.or_true]
  have h2 : (Value.ref C :: bm).contains (.type "AttributeError") = false := by rw [List.contains_cons, hT, F.noAttr]; rfl
  have h3 : (Value.ref C :: bm).contains (.type "NameError") = false := by rw [List.contains_cons, hT, F.noName]; rfl
  refine codeAny_builtinAt F.entry ?_
  unfold Builtin.«BaseException.__new__»
  refine wpAt_bind ?_
  show wpAt _ _ _ (stack >>= _) _ _ _
  refine wpAt_bind (wpAt_stack fun p below => wpAt_of_wpAny ?_)
  wp_walk
  refine wpAt_of_wpAny ?_
  rw [F.owner]
  repeat (first | with_reducible refine wpAny_madeHere_exc F.canon hC ?_ | with_reducible refine wpAny_loadPart_at hC ?_ | (with_reducible refine wpAny_isSubtype_exc hC ?_; first | rw [h1] | rw [h2] | rw [h3]) | wp_step)
  show R _ _
  rw [Heap.size_push]
  exact hq
theorem tcall_kw (F : ExcBaseFacts B newId initId bmB) (hT : ∀ X : String, bm.contains (.type X) = bmB.contains (.type X)) {us : List Value} {kw : List (Str × Value)} {fI : Addr} {Q : Fin → Shared → Prop}
    (hC : h.get? C = some (excClassObj nm q C N bs bm hdct sn sub ab col dd k0 k1 k2 k3 k5 newId))
    (hi : W.Looks (model prog w) h (typeLookup (.ref C) "__init__") (some (.ref fI))) (hb : ∀ self, W.Looks (model prog w) h (bindSpecial (.ref fI) self) (.ref fI, [self])) (hl : us.length ≤ sizeLine)
    (hq : codeAny (model prog w) A (.call (.ref fI) ⟨.ref (h.objs.size + 1) :: us, kw⟩)
      (fun r s' => match r with | .ok (.ret v) => v = .none ∧ Q (.done (.ret (.ref (h.objs.size + 1)))) s' | .ok _ => False | .error e => E e s')
      ⟨(h.push (W.kdv_tup us)).push (excO C h.objs.size), g, d, t, os⟩) :
    wpAny (model prog w) A (Builtin.«type.__call__» ⟨.ref C :: us, kw⟩) Q E ⟨h, g, d, t, os⟩ := by
  repeat (first | with_reducible refine wpAny_loadPart_at hC ?_ | with_reducible refine wpAny_madeBy_exc hC ?_ | wp_step)
  refine codeAny_call_builtin_code (Code.quiet_builtin _ F.quiet) (chk_new_kw F hT hC ?_)
  refine new_kw F hT hC hl ?_
  show wpAny _ _ _ _ _ _
  have kk : ∀ b o, h.get? b = some o → ((h.push (W.kdv_tup us)).push (excO C h.objs.size)).get? b = some o := fun b o e => Heap.get?_push_of_some _ (Heap.get?_push_of_some _ e)
  have hC1 := kk _ _ hC
  have hg : ((h.push (W.kdv_tup us)).push (excO C h.objs.size)).get? (h.objs.size + 1) = some (excO C h.objs.size) := by heap_get
  have hCC : (Value.ref C :: bm).contains (.ref C) = true := by simp
  have j1 := hi.keeps kk
  have j2 := (hb (.ref (h.objs.size + 1))).keeps kk
  unfold isInstance
  repeat (first | with_reducible refine wpAny_loadPart_at hg ?_ | (with_reducible refine wpAny_isSubtype_exc hC1 ?_; rw [hCC]) | wp_step)
  show wpAny _ _ (typeLookup (.ref C) _) _ _ _
  refine j1.at ?_
  refine wpAny_holding (wpAny_bind (j2.at ?_))
  refine wpAny_bind (wpAny_call (codeAny_mono hq fun r s' z => ?_))
  rcases r with e | (v | _ | _ | _) <;> first | exact z | exact z.elim | skip
  obtain ⟨rfl, z⟩ := z
  first
    | exact wpAny_pure (wpAny_pure z)
    | (wp_walk; exact z)
theorem call_kw (F : ExcBaseFacts B newId initId bmB) (hT : ∀ X : String, bm.contains (.type X) = bmB.contains (.type X)) {us : List Value} {kw : List (Str × Value)} {fI : Addr}
    (hC : h.get? C = some (excClassObj nm q C N bs bm hdct sn sub ab col dd k0 k1 k2 k3 k5 newId))
    (hi : W.Looks (model prog w) h (typeLookup (.ref C) "__init__") (some (.ref fI))) (hb : ∀ self, W.Looks (model prog w) h (bindSpecial (.ref fI) self) (.ref fI, [self])) (hl : us.length ≤ sizeLine)
    (hq : codeAny (model prog w) (A.under (.builtin "type.__call__" ⟨.ref C :: us, kw⟩)) (.call (.ref fI) ⟨.ref (h.objs.size + 1) :: us, kw⟩) (W.InitBack (h.objs.size + 1) R)
      ⟨(h.push (W.kdv_tup us)).push (excO C h.objs.size), g, d, t, os⟩) :
    codeAny (model prog w) A (.call (.ref C) ⟨us, kw⟩) R ⟨h, g, d, t, os⟩ := by
  have z1 := tc_lookup
  have z2 := tc_bind (.ref C)
  have hTy : (⟨h, g, d, t, os⟩ : Shared).TypeIs (.ref C) "type" := ⟨_, hC, rfl⟩
  refine codeAny_of_tree ?_
  show wpAny _ _ (callAny (.ref C) _) _ _ _
  repeat (any_goals (first | assumption | with_reducible refine wpAny_loadPart_at hC ?_ | wp_step))
  refine ⟨rfl, ?_⟩
  refine codeAny_call_builtin_at (Code.quiet_builtin _ (by decide +kernel)) entry_typeCall (wpAny_check_type_call_sub hC (tcall_kw F hT hC hi hb hl ?_))
  refine codeAny_mono hq fun r s' z => ?_
  rcases r with e | (v | _ | _ | _) <;> exact z
end
end TAX
end PySem
namespace TA
open PySem PySem.Spec L2
open PyProof.Rows hiding St
/-- C(e, .., k = v, ..), an error class with an own __init__: the new error itself -/
def tMkX (C : Addr) (n m : Nat) (sp : Sp) (gV : List V → List V → List V) (t tk : TA) : TE := fun σ H Q => t σ H fun vs H1 => tk σ H1 fun zs H2 => vs.length = n ∧ zs.length = m ∧
  ∀ a, H2 a = none → sp (gV (.ref a :: vs) zs) (upd H2 a (exo a C none)) (fun v H3 => v = .non ∧ Q (.ref a) H3) E0
section
variable {X : Cx} {k n : Nat} {f C : Addr} {fd : FuncData} {ps ks : List Str} {sp : Sp} {x : Str} {p pos : Pos} {e : Expr} {es : List Expr} {kws : List Keyword} {t tk : TA} {g : List Value → List Value → List Value} {gV : List V → List V → List V}
theorem run_mkx {pins : List (Addr × Obj)} {σ : St} {H : Hp} {s : Shared} {Q : VK} {us ws : List Value} {vs zs : List V} (T : OexC X.K C) (iC : PySem.W.findIn X.K (.ref C) "__init__" = some (some (.ref f))) (tI : PySem.W.typeIn X.K (.ref f) = some (.type "function"))
    (F : FnOk X.prog X.w X.K X.mg X.base CX0 k f fd ps sp) (hr : Room (k + 1) X.A) (hb : KBn X.K fd ps (n + 1) ks g gV) (hn : n ≤ 1000) (I : Inv X pins σ H s) (r : Vals vs us) (rz : Vals zs ws) (l1 : vs.length = n) (l2 : zs.length = ks.length)
    (h : ∀ a, H a = none → sp (gV (.ref a :: vs) zs) (upd H a (exo a C none)) (fun v H2 => v = .non ∧ Q (.ref a) H2) E0) :
    wpAny (model X.prog X.w) X.A (call (.ref C) us (ks.zip ws)) (EP X pins σ Q) X.xe s := by
  obtain ⟨nm, q, N, bs, bm, sn, sub, ab, col, dd, k0, k1, k2, k3, k5, hC, hbm⟩ := T.cls
  obtain ⟨hp, gg, dr, tk, os⟩ := s
  have hsz : hp.objs.size ≤ hp.objs.size + 1 := Nat.le_succ _
  have hq := h (hp.objs.size + 1) (I.hok.fresh hsz)
  have kk : ∀ b o, hp.get? b = some o → ((hp.push (PySem.W.kdv_tup us)).push (PySem.HandSPX.excO C hp.objs.size)).get? b = some o := fun b o e => Heap.get?_push_of_some _ (Heap.get?_push_of_some _ e)
  have hget : ((hp.push (PySem.W.kdv_tup us)).push (PySem.HandSPX.excO C hp.objs.size)).get? (hp.objs.size + 1) = some (PySem.HandSPX.excO C hp.objs.size) := by heap_get
  have I2 : Inv X pins σ (upd H (hp.objs.size + 1) (exo (hp.objs.size + 1) C none)) ⟨(hp.push (PySem.W.kdv_tup us)).push (PySem.HandSPX.excO C hp.objs.size), gg, dr, tk, os⟩ :=
    I.laid (t' := tk) (a := hp.objs.size + 1) (o := exo (hp.objs.size + 1) C none) kk hsz (exo_ok hget)
  have r1 : Vals (V.ref (hp.objs.size + 1) :: vs) (Value.ref (hp.objs.size + 1) :: us) := .cons rfl r
  have r2 := hb.rel r1 rz
  have n1 : (Value.ref (hp.objs.size + 1) :: us).length = n + 1 := by
    rw [List.length_cons, ← r.length, l1]
  have hus : us.length ≤ sizeLine := by
    rw [← Paired.length r, sizeLine_eq]
    omega
  refine wpAny_call (PySem.TAX.call_kw PySem.F.excBase_ValueError (fun Y => PySem.HandSPX.refsVE_contains Y bm hbm) (I.kIn _ _ hC) (PySem.W.looks_findIn I.kIn iC) (fun self => PySem.W.bind_fn I.kIn self tI) hus
    (codeAny_mono (F.run _ X.stack _ _ ⟨Value.ref (hp.objs.size + 1) :: us, ks.zip ws⟩ (g (Value.ref (hp.objs.size + 1) :: us) ws) _ _ E0 (hr.make C us (ks.zip ws)) (I2.env0.make C us (ks.zip ws))
      (hb.to _ (Value.ref (hp.objs.size + 1) :: us) ws I2.kIn n1 (rz.length.symm.trans l2)) r2 hq) fun r s' hq' => ?_))
  cases r with
  | error er => exact False.elim hq'
  | ok fl =>
    cases fl with
    | ret u =>
      obtain ⟨v, H', I3, rv, ev, q3⟩ := I2.after hq'
      subst ev
      exact ⟨rv, ⟨V.ref (hp.objs.size + 1), H', I3, rfl, q3⟩⟩
    | next => exact False.elim hq'
    | brk => exact False.elim hq'
    | cont => exact False.elim hq'
/-- C(k = v, ..) -/
theorem pe_mkx0 (T : OexC X.K C) (iC : PySem.W.findIn X.K (.ref C) "__init__" = some (some (.ref f))) (tI : PySem.W.typeIn X.K (.ref f) = some (.type "function")) (F : FnOk X.prog X.w X.K X.mg X.base CX0 k f fd ps sp) (hr : Room (k + 1) X.A) (hg : Gl X x) (hm : X.mg x = some (.ref C))
    (hb : KBn X.K fd ps 1 ks g gV) (hkw : PK X kws tk) (hall : (backToKw pos (keywordEach kws X.env)).all (·.1.isSome) = true := by rfl) (hks : (backToKw pos (keywordEach kws X.env)).filterMap (·.1) = ks := by rfl)
    (hdb : (x == ("__debug__" : Str)) = false := by decide) (hpl : ((backTo pos (starEach [] X.env)).any (·.1) || (backToKw pos (keywordEach kws X.env)).any (·.1.isNone)) = false := by rfl) :
    PE X (.Call (.Name x p) [] kws pos) (tMkX C 0 ks.length sp gV tNil tk) := by
  refine ⟨fun pins s σ H Q I h => ?_⟩
  refine wpAny_Call_Name_kw (ld_glob I hg hm ?_ hdb)
  refine PySem.W.callWith_KW0 (h₀ := X.base) I.ok.mod.kin T.kC hall ?_ hpl
  refine thn (hkw.run pos pins s σ H _ I h) fun ws s2 ⟨zs, H2, I2, rz, l1, l2, q2⟩ => ⟨I2.kIn, ?_⟩
  rw [hks]
  exact run_mkx (us := []) (vs := []) T iC tI F hr hb (by omega) I2 .nil rz rfl l2 q2
/-- C(e, ..) -/
theorem pe_mkx (T : OexC X.K C) (iC : PySem.W.findIn X.K (.ref C) "__init__" = some (some (.ref f))) (tI : PySem.W.typeIn X.K (.ref f) = some (.type "function")) (F : FnOk X.prog X.w X.K X.mg X.base CX0 k f fd ps sp) (hr : Room (k + 1) X.A) (hg : Gl X x) (hm : X.mg x = some (.ref C))
    (hb : KBn X.K fd ps (n + 1) [] g gV) (hn : n ≤ 1000) (ha : PA X (e :: es) t) (hdb : (x == ("__debug__" : Str)) = false := by decide) (he : starEach (e :: es) X.env = (false, eval e X.env) :: starEach es X.env := by rfl)
    (hpl : (backTo pos (starEach es X.env)).any (·.1) = false := by rfl) : PE X (.Call (.Name x p) (e :: es) [] pos) (tMkX C n 0 sp gV t tNil) := by
  refine ⟨fun pins s σ H Q I h => ?_⟩
  refine wpAny_Call_Name_kw (ld_glob I hg hm ?_ hdb)
  refine PySem.W.callWith_K (h₀ := X.base) I.ok.mod.kin T.kC (thn (ha.run pos pins s σ H _ I h) fun us s1 ⟨vs, H1, I1, r, l1, l2, q⟩ => ⟨I1.kIn, ?_⟩) he hpl
  exact run_mkx (us := us) (vs := vs) (zs := []) (ws := []) (ks := []) T iC tI F hr hb hn I1 r .nil l1 rfl q
end
/-- how C's parameters bind, all given by place -/
theorem kbn_pos {K : PySem.W.Frag} {fd : FuncData} {ps : List Str} {n : Nat} (h : ∀ us : List Value, us.length = n → bindArgs fd ⟨us, []⟩ = pure (ps.zip us)) : KBn K fd ps n [] (fun us _ => us) (fun vs _ => vs) :=
  ⟨fun s us ws _ l1 _ => .of_eq (h us l1), fun r _ => r⟩
end TA
namespace PySem.W
open PySem PySem.Spec PySem.Calls PyProof.Rows
section
variable {prog : Program} {w : World} {A : Around} {E : Value → Shared → Prop} {s : Shared} {K : Frag} {x D : Addr} {ox : Obj} {od : Option Obj}
theorem ta_findcls (hd : hasDictIn K D = true) (ha : findIn K (.ref D) "__class__" = some (some (.builtin "object.__class__")))
    (hn : specialIn K (.builtin "object.__class__") "__get__" = some (some (.builtin "getset_descriptor.__get__"))) (ht : takesIn K (.builtin "object.__class__") = some true) :
    findObj K D od "__class__" = some (.bind (.builtin "getset_descriptor.__get__") (.builtin "object.__class__")) := by
  obtain ⟨cd, hc, _⟩ := any_some hd
  unfold findObj
  rw [hc, Option.bind_some, ha, Option.bind_some]
  simp [hn, ht]
/-- __class__ of an error that has its dict -/
theorem ta_class {Q : Option Value → Shared → Prop} (c : L2.ExcC K D) (X : K.In s.heap) (I : InstAt s.heap x ox D od) (h : Q (some (.ref D)) { s with toks := s.toks + 1 }) : wpAny (model prog w) A (getAttr? (.ref x) "__class__") Q E s := by
  have hf := ta_findcls (od := od) c.hd c.ha c.hn c.ht
  obtain ⟨hp, g, d, t, os⟩ := s
  have L0 := I.type (M := model prog w)
  have L1 := looks_findIn (M := model prog w) X c.hg
  have L2 := looks_findIn (M := model prog w) X c.hk
  have L3 := looks_find (M := model prog w) X I hf
  have isB : Looks (model prog w) hp (isInstance (.ref x) (.type "BaseException")) true := L0.andThen (looks_subIn X c.hs)
  have e2 : (Value.builtin "BaseException.__getattribute__" == Value.builtin "object.__getattribute__") = false := by decide +kernel
  have e1 : (onTheHeap (Value.ref D) && Value.builtin "BaseException.__getattribute__" == Value.builtin "object.__getattribute__") = false := by rw [e2]; rfl
  unfold getAttr? getAttrBy? getAttrBy
  refine wpAny_bind (wpAny_mkText (wpAny_bind (wpAny_attempt (wpAny_holding (wpAny_bind (L0.at (wpAny_bind (L1.at ?_))))))))
  show wpAny _ _ (if (onTheHeap (Value.ref D) && Value.builtin "BaseException.__getattribute__" == Value.builtin "object.__getattribute__") = true then _ else _) _ _ _
  rw [e1, if_neg Bool.false_ne_true]
  unfold getAttrByItsOwn hookBefore
  refine wpAny_bind ?_
  rw [if_pos (show onTheHeap (Value.ref D) = true from rfl)]
  refine L2.at ?_
  refine wpAny_bind (wpAny_attempt (wpAny_holding ?_))
  unfold callGetattribute
  rw [if_neg (show ¬ (false && onTheHeap (Value.builtin "BaseException.__getattribute__")) = true from Bool.false_ne_true)]
  unfold boundAndCalled
  rw [PySem.F.excAttr_ValueError.ga.bind (.ref x)]
  refine wpAny_bind (wpAny_pure ?_)
  show wpAny _ _ (call (.builtin "BaseException.__getattribute__") [.ref x, .str "__class__" t]) _ _ _
  refine wpAny_call (codeAny_call_builtin PySem.F.excAttr_ValueError.ga.plain PySem.F.entry_bexc_ga ?_)
  refine @check_slot (model prog w) _ _ ⟨hp, g, d, t + 1, os⟩ "BaseException.__getattribute__" "BaseException" "__getattribute__" (.ref x) [.str "__class__" t] [] _ (by decide +kernel) (by decide +kernel) isB (PySem.F.args_bexc_ga (.ref x) (.str "__class__" t)) ?_
  unfold Builtin.«object.__getattribute__»
  refine wpAny_bind (wpAny_of_eq (a := ((Value.ref x : Value), [Value.str "__class__" t])) (by first | rfl | (simp only [slotArgs]; rfl)) ?_)
  refine wpAny_bind (wpAny_pure (wpAny_bind (L0.at (wpAny_bind (L3.at ?_)))))
  show wpAny _ _ (holding [Value.builtin "object.__class__"] (call (.builtin "getset_descriptor.__get__") [.builtin "object.__class__", .ref x, .ref D]) >>= ret) _ _ _
  refine wpAny_bind (wpAny_holding (wpAny_call (class_get (s := ⟨hp, g, d, t + 1, os⟩) (ox := ox) (od := od) X I c.hm ?_)))
  refine wpAny_pure ?_
  show wpAny _ _ (handedOut (.ref D)) _ _ _
  rw [handedOut_of (v := .ref D) rfl]
  first
    | exact wpAny_pure (wpAny_pure h)
    | exact wpAny_pure h
    | exact wpAny_pure (wpAny_bind (wpAny_pure (wpAny_pure h)))
theorem ta_clsOut (hd : hasDictIn K D = true) : ∃ c' d' cd sl, K.lookup D = some ⟨c', d', .cls cd, sl⟩ := by
  obtain ⟨cd, hc, _⟩ := any_some hd
  unfold clsIn at hc
  split at hc
  · rename_i c' d' cd' sl' ho
    exact ⟨c', d', cd', sl', ho⟩
  · cases hc
theorem ta_kitx (c : L2.ExcC K D) : KitX K (.ref x) (.ref D) (fun h => InstAt h x ox D od) where
  ty := fun _ _ _ I => I.type
  it := fun _ _ X _ => by
    obtain ⟨c', d', cd, sl, ho⟩ := ta_clsOut c.hd
    intro A' Q' E' s' k q
    unfold isType loadHead
    exact wpAny_bind (wpAny_loadPart (k _ _ (X _ _ ho)) (wpAny_pure q))
  ne := fun h tp dd its n sl X htp => by
    obtain ⟨c', d', cd, sl', ho⟩ := ta_clsOut c.hd
    refine Bool.eq_false_iff.mpr fun q => ?_
    obtain rfl : D = tp := Value.ref.inj (beq_iff_eq.mp q)
    cases (X _ _ ho).symm.trans htp
  ca := fun X I k => ta_class c X I k
end
end PySem.W
namespace TA
open PySem PySem.Spec L2
open PyProof.Rows hiding St
/-- what is known of an error class: it is one, its objects are asked rightly -/
structure XCl (K : PySem.W.Frag) (C : Addr) : Prop where
  o : OexC K C
  i : ExcC K C
/-- an error that was made, with its fields -/
def ErrAt (H : Hp) (a C : Addr) (fs : List (Str × V)) : Prop := ∃ dd, H a = some (exo a C (some dd)) ∧ H dd = some (exd dd fs)
theorem ErrAt.keep {H H' : Hp} {a C : Addr} {fs : List (Str × V)} (h : ErrAt H a C fs) (k : ∀ b o, H b = some o → (∃ e c d, o = exo e c d) ∨ (∃ e f, o = exd e f) → H' b = some o) : ErrAt H' a C fs := by
  obtain ⟨dd, h1, h2⟩ := h
  exact ⟨dd, k _ _ h1 (.inl ⟨_, _, _, rfl⟩), k _ _ h2 (.inr ⟨_, _, rfl⟩)⟩
section
variable {X : Cx} {pins : List (Addr × Obj)} {σ : L2.St} {H : Hp} {s : Shared}
theorem err_inst {a C : Addr} {fs : List (Str × V)} (I : Inv X pins σ H s) (h : ErrAt H a C fs) : ∃ (ox od : Obj) (mA : Str → Option Value), PySem.W.InstAt s.heap a ox C (some od) ∧ (∀ n, PySem.W.lookIn n od = some (mA n)) ∧ ∀ f, RelO (fs.lookup f) (mA f) := by
  obtain ⟨dd, h1, h2⟩ := h
  obtain ⟨t1, ho⟩ := exo_at I.hok h1
  obtain ⟨mA, hns, rel⟩ := exd_at I.hok h2
  obtain ⟨od, hod, hl⟩ := lookIn_ns hns
  exact ⟨_, od, mA, ⟨ho, rfl, rfl, hod⟩, hl, rel⟩
/-- e.f -/
def tOfl (K : PySem.W.Frag) (f : Str) (te : TE) : TE := fun σ H Q => te σ H fun x H1 => ∃ (a C : Addr) (fs : List (Str × V)) (v : V), x = .ref a ∧ ErrAt H1 a C fs ∧ XCl K C ∧ PySem.W.findIn K (.ref C) f = some none ∧ fs.lookup f = some v ∧ Q v H1
theorem pe_ofl {e : Expr} {te : TE} {n : Str} {pos : Pos} (he : PE X e te) (hb : attributeBase e n X.env (eval e X.env) = eval e X.env := by rfl) : PE X (.Attribute e n pos) (tOfl X.K n te) := by
  refine ⟨fun pins s σ H Q I h => ?_⟩
  refine attr_of hb (thn (he.run pins s σ H _ I h) fun u s1 hh => ?_)
  obtain ⟨x, H1, I1, rx, a, C, fs, v, ex, ea, T, hno, l, q⟩ := hh
  subst ex
  obtain rfl : u = Value.ref a := rx
  obtain ⟨ox, od, mA, J, hl, rel⟩ := err_inst I1 ea
  obtain ⟨u, hu, ru⟩ := RelO.some_of (v := v) (o := mA n) (by rw [← l]; exact rel n)
  exact HandSPX.exc_get I1.kIn J T.i.hg T.i.hk T.i.hs (PySem.W.findObj_own T.i.hd hno rfl (by rw [hl, hu])) (handed_of ru) ⟨v, H1, I1.tok _, ru, q⟩
/-- isinstance(e, c) of an error that was made: c a class, or a tuple of classes -/
def rErr (K : PySem.W.Frag) : List V → Hp → VK → Prop := fun xs H Q => ∃ (a C : Addr) (fs : List (Str × V)) (c : V) (u : Value) (b : Bool), xs = [.ref a, c] ∧ ErrAt H a C fs ∧ XCl K C ∧ ClsV c u ∧ PySem.W.kitOne K (.ref C) u = some b ∧ Q (.bl b) H
def rErrT (K : PySem.W.Frag) : List V → Hp → VK → Prop := fun xs H Q => ∃ (a C : Addr) (fs : List (Str × V)) (tp : Addr) (cs : List V) (us : List Value) (b : Bool), xs = [.ref a, .ref tp] ∧ ErrAt H a C fs ∧ XCl K C ∧ H tp = some (.tup cs) ∧ Paired ClsV cs us ∧ PySem.W.kitAny K (.ref C) us = some b ∧ Q (.bl b) H
theorem call_err : CallR X (.builtin "isinstance") (rErr X.K) := by
  intro pins s σ H xs us Q I r h
  obtain ⟨a, C, fs, c, u, b, rfl, hE, T, k, e, q⟩ := h
  obtain ⟨u1, u2, rfl, r1, r2⟩ := vals2 r
  cases (show u1 = Value.ref a from r1)
  have e2 := k.eq r2
  subst e2
  obtain ⟨ox, od, mA, J, _, _⟩ := err_inst I hE
  exact PySem.W.kia_one (PySem.W.ta_kitx T.i) I.kIn J e (fun z => nomatch z) fun tk => ⟨.bl b, H, I.tok tk, rfl, q⟩
theorem call_errT : CallR X (.builtin "isinstance") (rErrT X.K) := by
  intro pins s σ H xs us Q I r h
  obtain ⟨a, C, fs, tp, cs, ws, b, rfl, hE, T, hT, k, e, q⟩ := h
  obtain ⟨u1, u2, rfl, r1, r2⟩ := vals2 r
  cases (show u1 = Value.ref a from r1)
  cases (show u2 = Value.ref tp from r2)
  obtain ⟨ox, od, mA, J, _, _⟩ := err_inst I hE
  obtain ⟨_, its, rv, o, h1, h2, n, h3⟩ := (show ObjOk X.prog X.w H s.heap tp (.tup cs) from I.hok tp _ hT)
  have e3 := ClsV.all k rv
  subst e3
  obtain ⟨oc, od', dt, sl⟩ := o
  simp only at h2 h3
  subst h2 h3
  exact PySem.W.kia_tup (PySem.W.ta_kitx T.i) I.kIn J h1 e (fun z => nomatch z) fun tk => ⟨.bl b, H, I.tok tk, rfl, q⟩
end
end TA
namespace TA
open PySem PySem.Spec L2
open PyProof.Rows hiding St
/-- C.m is a plain def, read off the class -/
structure CDef (K : PySem.W.Frag) (C : Addr) (mc : Value) (m : Str) (f : Addr) : Prop where
  r : ClX.CRead K C mc
  at_ : PySem.W.findCls K (.ref C) mc m = some (.val (.ref f))
/-- C.m(e, ..) -/
def tCDef (C : Addr) (sp : Sp) (dvs : List V) (E : XK) (ta : TE) (t : TA) : TE := fun σ H Q => ta σ H fun x H1 => x = .ref C ∧ t σ H1 fun vs H2 => sp (vs ++ dvs) H2 Q E
section
variable {X : Cx} {CX : CXT} {k : Nat} {f C : Addr} {fd : FuncData} {ps : List Str} {sp : Sp} {dvs : List V} {ds : List Value} {E : XK} {m : Str} {mc : Value} {pos apos : Pos} {e o : Expr} {es : List Expr} {ta : TE} {t : TA}
theorem pe_cdef {pl : Sem Bool} (he : PE X o ta) (c : CDef X.K C mc m f) (F : FnOk X.prog X.w X.K X.mg X.base CX k f fd ps sp) (hr : Room k X.A) (hk : PySem.W.keepIn X.K (.ref f) = true) (hb : Binds X.K fd ps ds) (hd : Vals dvs ds) (hx : Passes CX X E) (ha : PA X (e :: es) t)
    (hst : starEach (e :: es) X.env = (false, eval e X.env) :: starEach es X.env := by rfl) (hpl : (backTo pos (starEach es X.env)).any (·.1) = false := by rfl)
    (ht : eval (.Call (.Attribute o m apos) (e :: es) [] pos) X.env = (do
      let ov ← eval o X.env
      standAt apos.atName
      let (f, first) ← holding [ov] (getMethod ov m pl)
      callWith pos f first (backTo pos (starEach (e :: es) X.env)) (backToKw pos (keywordEach [] X.env))) := by rfl) :
    PE X (.Call (.Attribute o m apos) (e :: es) [] pos) (tCDef C sp dvs E ta t) := by
  refine ⟨fun pins s σ H Q I h => ?_⟩
  refine PySem.W.methodCall_KW (pl := pl) (thn (he.run pins s σ H _ I h) fun u s1 ⟨x, H1, I1, rx, ex, q⟩ => ?_) ht
  subst ex
  obtain rfl : u = Value.ref C := rx
  refine PySem.W.method_cls I1.kIn c.r.ga (PySem.W.cls_value I1.kIn c.r.rd c.at_ rfl ?_)
  have I2 := I1.tok (s1.toks + 1)
  exact PySem.W.callWith_K (h₀ := X.base) (first := []) I2.ok.mod.kin hk (thn (ha.run pos pins _ σ H1 _ I2 q) fun us s3 ⟨vs, H2, I3, rv, q2⟩ => ⟨I3.kIn, run_fn F hr hb hd hx I3 rv q2⟩) hst hpl
end
end TA
set_option maxHeartbeats 400000
/-! own rule: C.m(e, ..) of a class's def that takes what it is given by a promise of all its arguments (a def with *parts) -/
namespace TG
open PySem PySem.Spec L2 _root_.TA
open PyProof.Rows hiding St
section
variable {X : Cx} {CX : CXT} {k : Nat} {f C : Addr} {sp : Sp} {E : XK} {m : Str} {mc : Value} {pos apos : Pos} {e o : Expr} {es : List Expr} {ta : TE} {t : L2.TA}
theorem pe_cdefR {pl : Sem Bool} (he : PE X o ta) (c : CDef X.K C mc m f) (F : FnR X.prog X.w X.K X.mg X.base CX k f sp) (hr : Room k X.A) (hk : PySem.W.keepIn X.K (.ref f) = true) (hx : Passes CX X E) (ha : PA X (e :: es) t)
    (hst : starEach (e :: es) X.env = (false, eval e X.env) :: starEach es X.env := by rfl) (hpl : (backTo pos (starEach es X.env)).any (·.1) = false := by rfl)
    (ht : eval (.Call (.Attribute o m apos) (e :: es) [] pos) X.env = (do
      let recv ← eval o X.env
      standAt apos.atName
      let (g, first) ← holding [recv] (getMethod recv m pl)
      callWith pos g first (backTo pos (starEach (e :: es) X.env)) (backToKw pos (keywordEach [] X.env))) := by rfl) :
    PE X (.Call (.Attribute o m apos) (e :: es) [] pos) (tCDef C sp [] E ta t) := by
  refine ⟨fun pins s σ H Q I h => ?_⟩
  refine PySem.W.methodCall_KW (pl := pl) (thn (he.run pins s σ H _ I h) fun u s1 ⟨x, H1, I1, rx, ex, q⟩ => ?_) ht
  subst ex
  obtain rfl : u = Value.ref C := rx
  refine PySem.W.method_cls I1.kIn c.r.ga (PySem.W.cls_value I1.kIn c.r.rd c.at_ rfl ?_)
  have I2 := I1.tok (s1.toks + 1)
  refine PySem.W.callWith_K (h₀ := X.base) (first := []) I2.ok.mod.kin hk (thn (ha.run pos pins _ σ H1 _ I2 q) fun us s3 ⟨vs, H2, I3, rv, q2⟩ => ⟨I3.kIn, ?_⟩) hst hpl
  have q3 : sp (vs ++ []) H2 Q E := q2
  rw [List.append_nil] at q3
  exact wpAny_call (run_fnR F hr hx I3 rv q3)
end
end TG
namespace TF18
open PySem PySem.Spec L2 TG TA
open PyProof.Rows hiding St
abbrev sPapI : Stmt := inClass (top 50) 0
abbrev sPlnI : Stmt := inClass (top 61) 0
theorem scPapI : FnScope ["self", "word", "parts"] ((["self", "word"] : List Str) ++ (["parts"] : List Str)) (defScope sPapI) := ⟨rfl, rfl, rfl, by decide +kernel, rfl, by decide +kernel, by decide +kernel⟩
theorem scPlnI : FnScope ["self", "writing", "steps"] ["self", "writing", "steps"] (defScope sPlnI) := ⟨rfl, rfl, rfl, by decide +kernel, rfl, by decide +kernel, by decide +kernel⟩
section
variable {P : Program} {w : World} {K : PySem.W.Frag} {mg : Str → Option Value} {base : Heap} {f f1 f2 f3 : Addr} {fd fd1 fd2 fd3 : FuncData}
/-- a paper's making: its word, its parts with each list as a tuple -/
def spPapI (n : Nat) : Sp := fun vs H Q _ => ∃ (p C dx q : Addr) (z : Str) (ds : List PyData) (xs : List V), vs = [.ref p, .str z, .ref q] ∧ Cls K C ∧ NoAttr K C "word" ∧ NoAttr K C "parts" ∧ H p = some (.ins C dx []) ∧ H q = some (.tup xs) ∧ TkAll H xs ds ∧ dpAll ds + 1 < n ∧ szAll ds + 1 ≤ 100000 ∧
  ∀ (v : V) (H' : Hp), (∀ b o, b ≠ p → H b = some o → H' b = some o) → TkD H' v (.tuple ds) → H' p = some (.ins C dx [("word", .str z), ("parts", v)]) → Q .non H'
theorem ok_papI (F : Fun K "__init__" "Paper.__init__" sPapI f fd) (T : Bn mg) (n : Nat) (D_fixed : Df K mg "fixed" sFix f1 fd1 ["value"]) (G_fixed : FnOk P w K mg base CX0 n f1 fd1 ["value"] (spFixed n)) :
    FnR P w K mg base CX0 (n + 1) f (fun vs H Q E => ∃ ws rest, vs = ws ++ rest ∧ ws.length = ["self", "word"].length ∧ rest.length ≤ sizeLine ∧ ∀ p, H p = Option.none → spPapI (K := K) n (ws ++ [V.ref p]) (upd H p (.tup rest)) Q E) := by
  obtain ⟨oc, od, kV, doc, pm, an, cdv, ct, osl, rfl, lk, hcd⟩ := F.ex
  refine StX.fn_star (ps := ["self", "word"]) (pv := "parts") lk hcd scPapI StX.cxUp_none (StX.bind_star2 (B := fun us => bindArgs (PySem.W.fnOf "__init__" "Paper.__init__" (defArgs sPapI) (defBody sPapI) (defScope sPapI) .none kV doc pm an cdv ct) ⟨us, []⟩) (p1 := "self") (p2 := "word") (pv := "parts") (fun a b => by rfl) (fun a b r rs => by rfl)) fun A outer sc0 H vs Q E hr h => ?_
  obtain ⟨p, C, dx, q, z, ds, xs, rfl, hC, nW, nP, hp, hq, ha, hn, hz, fin⟩ := h
  refine ⟨_, (pss_cons (ps_fld (pv 0) (pv 1) rfl)
      (pss_one (ps_fld (pv 0) (pe_cd D_fixed G_fixed (hr.mono (by omega)) (Nat.le_refl _) (pa_cons (pv 2) pa_nil)) rfl))), ?_⟩
  refine ⟨_, rfl, _, rfl, p, C, dx, [], rfl, hp, hC, nW, (by show 0 < 1000; decide), ?_⟩
  have tk : ∀ {G : Hp} {fs : List (Str × V)} {o : HO}, G p = some (.ins C dx fs) → ∀ a xs, G a = some (.tup xs) → (L2.upd G p o) a = some (.tup xs) := fun {G fs o} e a xs h => by
    rw [upd_ne fun z => ?_]
    · exact h
    · subst z
      rw [e] at h
      cases h
  have k1 : ∀ b o, b ≠ p → H b = some o → (L2.upd H p (.ins C dx [("word", .str z)])) b = some o := fun b o n e => by rw [upd_ne n]; exact e
  have hq1 := tk hp (o := .ins C dx [("word", .str z)]) _ _ hq
  have ha1 := ha.keep (tk hp (o := .ins C dx [("word", .str z)]))
  have hp1 : (L2.upd H p (.ins C dx [("word", .str z)])) p = some (.ins C dx [("word", .str z)]) := upd_same
  rw [show putF ("word" : Str) (V.str z) [] = [(("word" : Str), V.str z)] from rfl]
  generalize (L2.upd H p (.ins C dx [("word", .str z)])) = H1 at k1 hq1 ha1 hp1 ⊢
  refine ⟨_, rfl, .ref q, .tuple ds, rfl, .tup hq1 ha1, hn, hz, fun v' H2 s2 hv => ?_⟩
  refine ⟨_, rfl, p, C, dx, _, rfl, s2 _ _ hp1, hC, nP, (by show 1 < 1000; decide), ?_⟩
  rw [show putF ("parts" : Str) v' [(("word" : Str), V.str z)] = [(("word" : Str), V.str z), (("parts" : Str), v')] from by unfold putF; rfl]
  refine fin v' _ (fun b o n e => by rw [upd_ne n]; exact s2 _ _ (k1 b o n e)) (hv.keep (tk (s2 _ _ hp1))) upd_same
/-- the making of a Plain of a writing and a number -/
def spPlnI (n : Nat) : Sp := fun vs H Q _ => ∃ (p C dx : Addr) (v : V) (t : Wr) (k : Nat), vs = [.ref p, v, .int (k : Int)] ∧ Cls K C ∧ NoAttr K C "word" ∧ NoAttr K C "parts" ∧ NoAttr K C "writing" ∧ NoAttr K C "steps" ∧ H p = some (.ins C dx []) ∧ WA H v t ∧ t.ly + 3 ≤ n ∧ t.sg ≤ 2000 ∧
  ∀ (q : Addr) (v' : V) (H' : Hp), (∀ b o, b ≠ p → H b = some o → H' b = some o) → WA H' v' t → H' q = some (.tup [v', .int (k : Int)]) → H' p = some (.ins C dx [("word", .str "plain"), ("parts", .ref q), ("writing", v'), ("steps", .int (k : Int))]) → Q .non H'
theorem ok_plnI {CP : Addr} {mc : Value} (F : Fun K "__init__" "Plain.__init__" sPlnI f fd) (T : Bn mg) (n : Nat) (gP : mg "Paper" = some (.ref CP)) (cP : TA.CDef K CP mc "__init__" f1) (kP : PySem.W.keepIn K (.ref f1) = true)
    (G_pap : FnR P w K mg base CX0 (n + 1) f1 (fun vs H Q E => ∃ ws rest, vs = ws ++ rest ∧ ws.length = ["self", "word"].length ∧ rest.length ≤ sizeLine ∧ ∀ p, H p = Option.none → spPapI (K := K) n (ws ++ [V.ref p]) (upd H p (.tup rest)) Q E)) : FnOk P w K mg base CX0 (n + 2) f fd ["self", "writing", "steps"] (spPlnI (K := K) n) := by
  refine F.ok scPlnI (fun vs H Q E h => ?_) (fun cdv A outer sc0 H vs Q E hr h => ?_)
  · obtain ⟨p, C, dx, v, t, k, rfl, _⟩ := h
    rfl
  obtain ⟨p, C, dx, v, t, k, rfl, hC, nW, nP, nWr, nS, hp, hv, hn, hz, q⟩ := h
  refine ⟨_, (pss_cons (ps_expr (pe_cdefR (pe_glob (v := .ref CP) rfl gP rfl) cP G_pap (hr.mono (by omega)) kP pass0 (pa_cons (pv 0) (pa_cons pe_str (pa_cons (pv 1) (pa_cons (pv 2) pa_nil))))))
      (pss_one (ps_asg (pe_fld (pv 0) (by rfl)) (pg_tup (by rfl) (pgs_cons (pg_fld (pv 0)) (pgs_cons (pg_fld (pv 0)) pgs_nil)))))), ?_⟩
  have hly := Wr.d_dp t
  have hsz := Wr.d_sz t
  refine ⟨rfl, _, rfl, _, rfl, _, rfl, [.ref p, .str "plain"], [v, .int (k : Int)], rfl, rfl, (by show 2 ≤ sizeLine; decide), fun q0 hq0 => ?_⟩
  have s1 := new_same (o := .tup [v, .int (k : Int)]) hq0
  refine ⟨p, C, dx, q0, "plain", [t.d, .int (k : Int)], [v, .int (k : Int)], rfl, hC, nW, nP, s1 _ _ hp, upd_same, .cons (hv.tk.keep fun a xs h => s1 _ _ h) (.cons (.int _) .nil), ?_, ?_, fun v1 H1 k1 hv1 hp1 => ?_⟩
  · show max (dpD t.d) (max 0 0) + 1 < n
    omega
  · show szD t.d + (1 + 0) + 1 ≤ 100000
    omega
  cases hv1 with
  | @tup q1 xs _ hq1 ha1 =>
  cases ha1 with | @cons v' _ _ _ h1 ha1 =>
  cases ha1 with | cons h2 ha1 =>
  cases ha1
  cases h2
  have nqp : q1 ≠ p := fun z => by
    subst z
    rw [hp1] at hq1
    cases hq1
  have tk : ∀ {G : Hp} {fs : List (Str × V)} {o : HO}, G p = some (.ins C dx fs) → ∀ a xs, G a = some (.tup xs) → (L2.upd G p o) a = some (.tup xs) := fun {G fs o} e a xs h => by
    rw [upd_ne fun z => ?_]
    · exact h
    · subst z
      rw [e] at h
      cases h
  refine ⟨_, rfl, p, C, dx, _, .ref q1, rfl, hp1, hC, nP, rfl, ?_⟩
  refine ⟨q1, _, rfl, SqT.of hq1, rfl, _, _, rfl, ?_⟩
  refine ⟨_, rfl, p, C, dx, _, rfl, hp1, hC, nWr, (by show 2 < 1000; decide), _, _, rfl, _, rfl, p, C, dx, _, rfl, upd_same, hC, nS, (by show 3 < 1000; decide), rfl, ?_⟩
  have e1 : putF ("writing" : Str) v' [(("word" : Str), V.str "plain"), (("parts" : Str), V.ref q1)] = [(("word" : Str), V.str "plain"), (("parts" : Str), V.ref q1), (("writing" : Str), v')] := by unfold putF; rfl
  have e2 : putF ("steps" : Str) (V.int (k : Int)) [(("word" : Str), V.str "plain"), (("parts" : Str), V.ref q1), (("writing" : Str), v')] = [(("word" : Str), V.str "plain"), (("parts" : Str), V.ref q1), (("writing" : Str), v'), (("steps" : Str), V.int (k : Int))] := by unfold putF; rfl
  rw [e1, e2]
  refine q q1 v' _ (fun b o n e => ?_) ((h1.keep (tk hp1)).keep (tk upd_same)).wa (tk upd_same _ _ (tk hp1 _ _ hq1)) upd_same
  rw [upd_ne n, upd_ne n]
  exact k1 b o n (s1 _ _ e)
end
end TF18
set_option maxHeartbeats 400000
/-! what plain comes to -/
namespace TG
open PySem PySem.Spec L2
open PyProof.Rows hiding St
namespace Bt
theorem lift_cl (by_ d : Nat) : ∀ (t : Bt) (j : Nat), t.cl (d + j) = true → (lift by_ j t).cl (d + by_ + j) = true
  | bd n, j, h => by
    have h : n < d + j := of_decide_eq_true h
    refine decide_eq_true (?_ : (if j ≤ n then n + by_ else n) < _)
    by_cases c : j ≤ n
    · rw [if_pos c]; omega
    · rw [if_neg c]; omega
  | fr _, _, _ => rfl
  | of b, j, h => lift_cl by_ d b (j + 1) h
  | to a b, j, h => by
    have h : (a.cl (d + j) && b.cl (d + j)) = true := h
    rw [Bool.and_eq_true] at h
    show ((lift by_ j a).cl _ && (lift by_ j b).cl _) = true
    rw [lift_cl by_ d a j h.1, lift_cl by_ d b j h.2]
    rfl
theorem hand_cl {t : Bt} {d : Nat} (ht : t.cl d = true) : ∀ (b : Bt) (k : Nat), b.cl (d + k + 1) = true → (hand t k b).cl (d + k) = true
  | bd n, k, h => by
    have h : n < d + k + 1 := of_decide_eq_true h
    show (if n = k then lift k 0 t else bd (if k < n then n - 1 else n)).cl _ = true
    by_cases c : n = k
    · rw [if_pos c]
      exact lift_cl k d t 0 ht
    · rw [if_neg c]
      refine decide_eq_true (?_ : (if k < n then n - 1 else n) < d + k)
      by_cases c2 : k < n
      · rw [if_pos c2]; omega
      · rw [if_neg c2]; omega
  | fr _, _, _ => rfl
  | of b, k, h => hand_cl ht b (k + 1) h
  | to a b, k, h => by
    have h : (a.cl (d + k + 1) && b.cl (d + k + 1)) = true := h
    rw [Bool.and_eq_true] at h
    show ((hand t k a).cl _ && (hand t k b).cl _) = true
    rw [hand_cl ht a k h.1, hand_cl ht b k h.2]
    rfl
theorem step_cl {x c : Bt} : ∀ {b : Bt} {i d : Nat}, b.cl d = true → b.subs[i]? = some (to (of x) c) → (stepAt b i).cl d = true
  | b, 0, d, h, hs => by
    rw [subs_zero] at hs
    cases hs
    have h : (x.cl (d + 1) && c.cl d) = true := h
    rw [Bool.and_eq_true] at h
    exact hand_cl h.2 x 0 h.1
  | bd _, i + 1, d, h, hs => nomatch hs
  | fr _, i + 1, d, h, hs => nomatch hs
  | of b, i + 1, d, h, hs => step_cl (b := b) (d := d + 1) h hs
  | to a b, i + 1, d, h, hs => by
    have h : (a.cl d && b.cl d) = true := h
    rw [Bool.and_eq_true] at h
    have hs : (a.subs ++ b.subs)[i]? = some (to (of x) c) := hs
    have e0 : stepAt (to a b) (i + 1) = if i < a.sg then to (stepAt a i) b else to a (stepAt b (i - a.sg)) := by
      cases a <;> rfl
    rw [e0]
    by_cases c' : i < a.sg
    · rw [List.getElem?_append_left (by rw [subs_len]; exact c')] at hs
      rw [if_pos c']
      show ((stepAt a i).cl d && b.cl d) = true
      rw [step_cl h.1 hs, h.2]
      rfl
    · rw [List.getElem?_append_right (by rw [subs_len]; omega), subs_len] at hs
      rw [if_neg c']
      show (a.cl d && (stepAt b (i - a.sg)).cl d) = true
      rw [h.1, step_cl h.2 hs]
      rfl
theorem step_sg {b x c : Bt} {i : Nat} (h : b.subs[i]? = some (to (of x) c)) : (stepAt b i).sg ≤ b.sg + x.sg * c.sg ∧ x.sg + c.sg ≤ b.sg := by
  have e := congrArg List.length (cd_step h)
  have l := (cd_part h).2
  have l : i + (x.sg + 1 + c.sg + 1) ≤ b.sg := l
  have hs := hand_sg c x 0
  rw [List.length_append, List.length_append, List.length_take, List.length_drop, cd_len, cd_len, cd_len] at e
  exact ⟨by omega, by omega⟩
end Bt
theorem cnt_cl : ∀ (w : Wr) (ar : List Str), (w.cnt ar).cl ar.length = true
  | .nm z, ar => by
    show (if z ∈ ar then Bt.bd (ar.idxOf z) else .fr z).cl ar.length = true
    by_cases c : z ∈ ar
    · rw [if_pos c]
      exact decide_eq_true (List.idxOf_lt_length_of_mem c)
    · rw [if_neg c]; rfl
  | .of x b, ar => cnt_cl b (x :: ar)
  | .to a b, ar => by
    show ((a.cnt ar).cl _ && (b.cnt ar).cl _) = true
    rw [cnt_cl a ar, cnt_cl b ar]
    rfl
theorem nmW_ly (l : List Str) : ∀ (b : Bt) (d : Nat), (nmW l d b).ly = b.ly
  | .bd _, _ => rfl
  | .fr _, _ => rfl
  | .of b, d => congrArg (· + 1) (nmW_ly l b (d + 1))
  | .to a b, d => by
    show max (nmW l d a).ly (nmW l d b).ly + 1 = max a.ly b.ly + 1
    rw [nmW_ly l a d, nmW_ly l b d]
theorem ly_sg : ∀ b : Bt, b.ly ≤ b.sg
  | .bd _ => Nat.le_refl _
  | .fr _ => Nat.le_refl _
  | .of b => Nat.succ_le_succ (ly_sg b)
  | .to a b => by
    have h1 := ly_sg a
    have h2 := ly_sg b
    show max a.ly b.ly + 1 ≤ a.sg + b.sg + 1
    omega
theorem grt_none {b : Bt} (h : grt b = none) : b.sg ≤ 2000 ∧ b.ly ≤ 200 := by
  unfold grt at h
  by_cases c1 : b.sg > 2000
  · rw [if_pos c1] at h; cases h
  · rw [if_neg c1] at h
    by_cases c2 : b.sg > 200 ∧ b.ly > 200
    · rw [if_pos c2] at h; cases h
    · have := ly_sg b
      exact ⟨by omega, by omega⟩
/-- what plain tells: a row and how many steps, or what there is too much of -/
inductive Otc where
  | plain (b : Bt) (k : Nat)
  | many (u : Str) (n : Nat)
def runP (most : Nat) : Nat → Bt → Nat → Otc
  | 0, _, _ => .many "steps" most
  | f + 1, b, k => match grt b with
    | some (u, n) => .many u n
    | none => match Bt.fstI b with
      | none => .plain b k
      | some i => if k = most then .many "steps" most else runP most f (Bt.stepAt b i) (k + 1)
theorem runP_great {most f k : Nat} {b : Bt} {u : Str} {n : Nat} (h : grt b = some (u, n)) : runP most (f + 1) b k = .many u n := by
  unfold runP; rw [h]
theorem runP_end {most f k : Nat} {b : Bt} (h : grt b = none) (h2 : Bt.fstI b = none) : runP most (f + 1) b k = .plain b k := by
  unfold runP; rw [h, h2]
theorem runP_most {most f : Nat} {b : Bt} {i : Nat} (h : grt b = none) (h2 : Bt.fstI b = some i) : runP most (f + 1) b most = .many "steps" most := by
  unfold runP; rw [h, h2]; exact if_pos rfl
theorem runP_step {most f k : Nat} {b : Bt} {i : Nat} (h : grt b = none) (h2 : Bt.fstI b = some i) (h3 : k ≠ most) : runP most (f + 1) b k = runP most f (Bt.stepAt b i) (k + 1) := by
  conv => lhs; unfold runP
  rw [h, h2]
  exact if_neg h3
/-- a Plain that stands at p -/
def PlnAt (C : Addr) (H : Hp) (p : Addr) (t : Wr) (k : Nat) : Prop := ∃ (dx q : Addr) (v : V), WA H v t ∧ H q = some (.tup [v, .int (k : Int)]) ∧ H p = some (.ins C dx [("word", .str "plain"), ("parts", .ref q), ("writing", v), ("steps", .int (k : Int))])
def otcOk (CP CT : Addr) (wr : Wr) (H : Hp) (Q : VK) (E : XK) : Otc → Prop
  | .plain b k => ∀ (p : Addr) (H' : Hp), Same H H' → PlnAt CP H' p (if k = 0 then wr else nmd b) k → Q (.ref p) H'
  | .many u n => OutX CT H E u n
def spPl (K : PySem.W.Frag) (CP CT : Addr) : Sp := fun vs H Q E => ∃ (v : V) (d : PyData) (wr : Wr) (m : Nat), vs = [v, .int (m : Int)] ∧ Dp K H v d ∧ Tells d wr ∧ wr.all okN = true ∧ wr.sg ≤ 2000 ∧ m ≤ 1000 ∧ otcOk CP CT wr H Q E (runP m (m + 1) (wr.cnt []) 0)
theorem OutX.same {C : Addr} {H H' : Hp} {E : XK} {u : Str} {n : Nat} (h : OutX C H E u n) (s : Same H H') : OutX C H' E u n := fun d G g1 g2 g3 => h d G (s.trans g1) (s.free g2) g3
/-- the class of the plain ones, as the top leaves it -/
structure PlnC (K : PySem.W.Frag) (mg : Str → Option Value) (C fI : Addr) : Prop where
  cl : Cls K C
  nW : NoAttr K C "word"
  nP : NoAttr K C "parts"
  nR : NoAttr K C "writing"
  nS : NoAttr K C "steps"
  mgC : mg "Plain" = some (.ref C)
  mk_ : Mk K C fI
end TG
namespace TF18
open PySem PySem.Spec L2 TG TA
open PyProof.Rows hiding St
abbrev sPl : Stmt := top 66
theorem scPl : FnScope ["writing", "most", "layout", "codes", "steps", "at"] ["writing", "most"] (defScope sPl) := ⟨rfl, rfl, rfl, by decide +kernel, rfl, by decide +kernel, by decide +kernel⟩
section
variable {P : Program} {w : World} {K : PySem.W.Frag} {mg : Str → Option Value} {base : Heap} {f f1 f2 f3 f4 f5 f6 f7 f8 fI fJ : Addr} {fd fd1 fd2 fd3 fd4 fd5 fd6 fd7 fd8 fdI fdJ : FuncData}
theorem ok_pl {CP CT CL fL : Addr} (F : Fun K "plain" "plain" sPl f fd) (T : Bn mg) (W : Lw mg) (M : Mst mg) (Z : LayC K mg CL fL) (Y : PlnC K mg CP fJ) (R : Er2 P w K mg base "TooMany" CT fI fdI "what" "most")
    (D_laid_out : Df K mg "laid_out" sLaid f1 fd1 ["value", "part"]) (G_laid_out : FnOk P w K mg base CX0 5 f1 fd1 ["value", "part"] (spLaid K CL))
    (D_is_within : Df K mg "is_within" sWithin f2 fd2 ["value", "least", "most"]) (G_is_within : FnOk P w K mg base CX0 2 f2 fd2 ["value", "least", "most"] (spWithin K))
    (D_codes_of : Df K mg "codes_of" sCodes f3 fd3 ["layout"]) (G_codes_of : FnOk P w K mg base CX0 2 f3 fd3 ["layout"] (spCodes CL))
    (D_refuse_great : Df K mg "refuse_great" sRG f4 fd4 ["codes"]) (G_refuse_great : FnOk P w K mg base (L2.CX P w) 3 f4 fd4 ["codes"] (spRefuse CT))
    (D_first_step : Df K mg "first_step" sFirst f5 fd5 ["codes", "start"]) (G_first_step : FnOk P w K mg base CX0 1 f5 fd5 ["codes", "start"] spFirst)
    (D_stepped : Df K mg "stepped" sStepped f6 fd6 ["codes", "at"]) (G_stepped : FnOk P w K mg base CX0 3 f6 fd6 ["codes", "at"] spStepped)
    (D_named : Df K mg "named" sNamed f7 fd7 ["codes"]) (G_named : FnOk P w K mg base CX0 2 f7 fd7 ["codes"] spNamed)
    (D_built : Df K mg "built" sBuilt f8 fd8 ["signs"]) (G_built : FnOk P w K mg base CX0 1 f8 fd8 ["signs"] spBuilt)
    (bPl : Binds K fdJ ["self", "writing", "steps"] []) (G_Plain : FnOk P w K mg base CX0 205 fJ fdJ ["self", "writing", "steps"] (spPlnI (K := K) 203)) : FnOk P w K mg base (L2.CX P w) 207 f fd ["writing", "most"] (spPl K CP CT) := by
  refine F.okX scPl (fun vs H Q E h => ?_) (fun cdv A outer sc0 H vs Q E hr h => ?_)
  · obtain ⟨v, d, wr, m, rfl, _⟩ := h
    rfl
  obtain ⟨v, d, wr, m, rfl, hd, ht, hok, hsg, hm, q⟩ := h
  obtain ⟨tT, gT⟩ := M.st
  refine ⟨_, (pss_cons (ps_set (i := 2) scPl.nd rfl (.inl rfl) (pe_cd D_laid_out G_laid_out hr (by decide) (pa_cons (pv 0) (pa_cons pe_str pa_nil))))
      (pss_cons (ps_if (pt_not (pt_val (pe_cd D_is_within G_is_within hr (by decide) (pa_cons (pv 1) (pa_cons pe_int (pa_cons (pe_glob (v := .int 1000) rfl gT ⟨_, rfl⟩) pa_nil)))))) (pss_one ps_never) pss_nil)
      (pss_cons (ps_set (i := 3) scPl.nd rfl (.inl rfl) (pe_cd D_codes_of G_codes_of hr (by decide) (pa_cons (pv 2) pa_nil)))
      (pss_cons (ps_set (i := 4) scPl.nd rfl (.inl rfl) pe_int)
      (pss_cons (ps_expr (pe_callS G_refuse_great (hr.mono (by decide)) rfl D_refuse_great.m D_refuse_great.F.kp D_refuse_great.b (fun σ => passAt (W := fun cls d _ H => E cls d H) (takes_of rfl rfl rfl rfl) σ) (pa_cons (pv 3) pa_nil)))
      (pss_cons (ps_set (i := 5) scPl.nd rfl (.inl rfl) (pe_cd D_first_step G_first_step hr (by decide) (pa_cons (pv 3) (pa_cons pe_int pa_nil))))
      (pss_cons (ps_while (passes_of rfl) (pt_cmpR op_notN (pv 5) pe_non (nomark _))
        (pss_cons (ps_if (pt_cmpR op_eq (pv 4) (pv 1) (nomark _)) (pss_one (ps_raise rfl (takes_of rfl rfl rfl rfl) (pmk_oex R.o R.i R.t R.G (hr.mono (by decide)) R.b .nil pass0 rfl R.m (pa_cons pe_str (pa_cons (pv 1) pa_nil))))) pss_nil)
        (pss_cons (ps_set (i := 3) scPl.nd rfl (.inl rfl) (pe_cd D_stepped G_stepped hr (by decide) (pa_cons (pv 3) (pa_cons (pv 5) pa_nil))))
        (pss_cons (ps_aug (i := 4) scPl.nd rfl (.inl rfl) pe_int ip_add)
        (pss_cons (ps_expr (pe_callS G_refuse_great (hr.mono (by decide)) rfl D_refuse_great.m D_refuse_great.F.kp D_refuse_great.b (fun σ => passAt (W := fun cls d _ H => E cls d H) (takes_of rfl rfl rfl rfl) σ) (pa_cons (pv 3) pa_nil)))
        (pss_one (ps_set (i := 5) scPl.nd rfl (.inl rfl) (pe_cd D_first_step G_first_step hr (by decide) (pa_cons (pv 3) (pa_cons (pe_callB (call_max2 rfl) (by rfl) T.b_max (by decide +kernel) (pa_cons (pe_op op_sub (pv 5) pe_int) (pa_cons pe_int pa_nil))) pa_nil))))))))))
      (pss_one (ps_ret (pe_make Y.mk_ G_Plain (hr.mono (by decide)) rfl Y.mgC bPl .nil pass0 (pa_cons (pe_ifExp (pt_cmpR op_gt (pv 4) pe_int (nomark _)) (pe_cd D_named G_named hr (by decide) (pa_cons (pv 3) pa_nil)) (pe_cd D_built G_built hr (by decide) (pa_cons (pe_fld (pv 2) (by rfl)) pa_nil))) (pa_cons (pv 4) pa_nil)))))))))))), ?_⟩
  have hin : withinV (.int (m : Int)) (.int 0) (.int 1000) = true := by
    show (decide ((0 : Int) ≤ (m : Int)) && decide ((m : Int) ≤ 1000)) = true
    rw [decide_eq_true (by omega), decide_eq_true (by omega)]
    rfl
  have rs : ∀ (u : Str) (n : Nat) (σ : L2.St) (H1 : Hp) (ta : L2.TA), OutX CT H1 E u n → (∀ Q : List V → Hp → Prop, Q [.str u, .int (n : Int)] H1 → ta σ H1 Q) → tMkO CT (spX2 K "what" "most") [] ta σ H1 fun cls d H' => E cls d H' := by
    intro u n σ H1 ta x hta
    refine hta _ ⟨by show 2 ≤ 1000; decide, fun a ha => ⟨a, CT, _, _, rfl, R.o, R.n1, R.n2, upd_same, fun dx H2 hd hne h1 h2 k => ?_⟩⟩
    obtain ⟨e1, e2⟩ := mkO_end (g1 := "what") (g2 := "most") (v1 := .str u) (v2 := .int (n : Int)) ha hd hne k
    exact ⟨rfl, dx, _, h1, h2, e1, x dx _ e2 e1 upd_same⟩
  refine ⟨_, rfl, v, _, d, wr, rfl, hd, ht, hok, hsg, fun l H1 s1 hL => ?_⟩
  refine ⟨_, rfl, .int (m : Int), _, _, "int", rfl, HasTy.int _, .inr ⟨_, rfl⟩, .inr ⟨_, rfl⟩, _, rfl, ?_⟩
  rw [hin]
  refine iteF ⟨_, rfl, l, wr, rfl, hL, hsg, fun c0 H2 s2 hc0 => ?_⟩
  obtain ⟨b0, hb0⟩ : ∃ b0, b0 = wr.cnt [] := ⟨_, rfl⟩
  rw [← hb0] at q hc0
  have hb0ok : b0.all okN = true := by rw [hb0]; exact Wr.cnt_all [] hok
  have hb0cl : b0.cl 0 = true := by rw [hb0]; exact cnt_cl wr []
  have hb0sg : b0.sg ≤ 2000 := by rw [hb0, Wr.cnt_sg]; exact hsg
  have s12 : Same H H2 := s1.trans s2
  refine ⟨_, rfl, c0, b0, rfl, hc0, hb0ok, by omega, ?_⟩
  cases hg0 : grt b0 with
  | some un =>
    obtain ⟨u, n⟩ := un
    rw [runP_great hg0] at q
    exact OutX.same q s12
  | none =>
  intro H3 s3
  refine ⟨_, rfl, c0, b0, 0, rfl, s3 _ _ hc0, hb0ok, hb0sg, by omega, (fun j hj => absurd hj (Nat.not_lt_zero _)), ?_⟩
  refine ⟨fun m' σ G => ∃ (b : Bt) (k : Nat) (c : Addr), σ = [some v, some (.int (m : Int)), some (.ref l), some (.ref c), some (.int (k : Int)), some (match Bt.fstI b with | none => V.non | some i => .int (i : Int))] ∧ Same H G ∧ LayAt CL G l wr ∧ G c = some (.lst (cvs b)) ∧ b.all okN = true ∧ b.cl 0 = true ∧ grt b = none ∧ k ≤ m ∧
    runP m (m - k + 1) b k = runP m (m + 1) b0 0 ∧ (k = 0 → b = b0) ∧ m' = m - k, ⟨_, b0, 0, c0, rfl, s12.trans s3, (hL.same s2).same s3, s3 _ _ hc0, hb0ok, hb0cl, hg0, Nat.zero_le _, rfl, fun _ => rfl, rfl⟩, ?_⟩
  rintro m' σ G ⟨b, k, c, rfl, sg, hLG, hcg, hb, hcl, hg, hk, hrun, hk0, rfl⟩
  obtain ⟨bsg, bly⟩ := grt_none hg
  refine ⟨_, rfl, rfl, _, rfl, ?_⟩
  cases hf : Bt.fstI b with
  | none =>
    rw [runP_end hg hf] at hrun
    rw [← hrun] at q
    have mk : ∀ (t : Wr) (v1 : V) (G1 : Hp), Same G G1 → WA G1 v1 t → t = (if k = 0 then wr else nmd b) → t.ly ≤ 200 → t.sg ≤ 2000 → ∀ x dx, G1 x = none → G1 dx = none → dx ≠ x → spPlnI (K := K) 203 [.ref x, v1, .int (k : Int)] (upd (upd G1 dx (.own x)) x (.ins CP dx [])) (fun v H2 => v = .non ∧ Q (.ref x) H2) E0 := by
      intro t v1 G1 sg1 hv et hly hs2 x dx hx hdx ne
      have s2 : Same G1 (upd (upd G1 dx (.own x)) x (.ins CP dx [])) := same_put (same_new hdx) hx
      refine ⟨x, CP, dx, v1, t, k, rfl, Y.cl, Y.nW, Y.nP, Y.nR, Y.nS, upd_same, hv.same s2, by omega, by omega, fun q1 v2 G2 k2 hv2 hq2 hp2 => ⟨rfl, q x G2 (fun c o e => ?_) ⟨dx, q1, v2, by rw [← et]; exact hv2, hq2, hp2⟩⟩⟩
      have e1 := sg1 _ _ (sg _ _ e)
      exact k2 c o (ne_of_none e1 hx) (s2 _ _ e1)
    refine iteF ⟨_, rfl, _, _, rfl, rfl, _, rfl, ?_⟩
    by_cases hk1 : k = 0
    · have hbb := hk0 hk1
      rw [show decide ((0 : Int) < (k : Int)) = false from decide_eq_false (by omega)]
      obtain ⟨g, e, b', a, d', dx', hl, ⟨ts, hgs, hgl, hgt⟩, he, hb', ha', hd'⟩ := hLG
      have hly : wr.ly ≤ 200 := by
        rw [hbb, hb0, Wr.cnt_ly] at bly
        exact bly
      refine iteF ⟨_, rfl, l, CL, dx', _, _, rfl, hl, Z.cl, Z.nS, lay_signs g e b' a d', g, wr.tr, rfl, ⟨ts, hgs, by rw [hgl, wr.tr_sz], fun i p a hp ha => ?_⟩, by rw [wr.tr_sz]; omega, fun v1 G1 s4 hv => ⟨_, rfl, mk wr v1 G1 s4 (hv.wa (Wr.tr_tw _ _)) (by rw [if_pos hk1]) hly hsg⟩⟩
      rw [wr.tr_ents, List.getElem?_map] at hp
      obtain ⟨u, hu, rfl⟩ := Option.map_eq_some_iff.mp hp
      exact hgt i u a hu ha
    · rw [show decide ((0 : Int) < (k : Int)) = true from decide_eq_true (by omega)]
      exact iteT ⟨_, rfl, c, b, rfl, hcg, hb, hcl, bsg, fun v1 G1 s4 hv => ⟨_, rfl, mk (nmd b) v1 G1 s4 hv (by rw [if_neg hk1]) (by show (nmW _ 0 b).ly ≤ 200; rw [nmW_ly]; exact bly) (by show (nmW _ 0 b).sg ≤ 2000; rw [nmW_sg]; exact bsg)⟩⟩
  | some i =>
    obtain ⟨x, y, hs⟩ := Bt.fst_some hb hf
    have hil : i < b.sg := by
      have := (Bt.cd_part hs).2
      have : i + (x.sg + 1 + y.sg + 1) ≤ b.sg := this
      omega
    refine iteT ⟨fun σ' H' => ∃ m', m' < m - k ∧ _, fun _ _ h => h, ?_⟩
    refine ⟨_, rfl, _, rfl, rfl, _, rfl, ?_⟩
    by_cases hkm : k = m
    · subst hkm
      rw [runP_most hg hf] at hrun
      rw [← hrun] at q
      rw [show decide (V.int (k : Int) = V.int (k : Int)) = true from decide_eq_true rfl]
      exact iteT (rs "steps" k _ _ _ (OutX.same q sg) fun Q hQ => ⟨_, rfl, hQ⟩)
    · rw [show decide (V.int (k : Int) = V.int (m : Int)) = false from decide_eq_false (fun e => hkm (by injection e with e; omega))]
      have hrun2 : runP m (m - (k + 1) + 1) (Bt.stepAt b i) (k + 1) = runP m (m + 1) b0 0 := by
        rw [runP_step hg hf hkm] at hrun
        rw [show m - (k + 1) + 1 = m - k by omega]
        exact hrun
      obtain ⟨ss1, ss2⟩ := Bt.step_sg hs
      have ss3 : x.sg * y.sg ≤ 2000 * 2000 := Nat.mul_le_mul (by omega) (by omega)
      have hok2 : (Bt.stepAt b i).all okN = true := Bt.step_all hb hs
      have hcl2 := Bt.step_cl hcl hs
      refine iteF ⟨_, rfl, _, rfl, c, b, x, y, i, rfl, hcg, hb, bsg, hs, fun c2 G2 s4 hc2 => ?_⟩
      refine ⟨_, rfl, _, _, rfl, rfl, ?_⟩
      refine ⟨_, rfl, c2, Bt.stepAt b i, rfl, hc2, hok2, by omega, ?_⟩
      cases hg2 : grt (Bt.stepAt b i) with
      | some un =>
        obtain ⟨u, n⟩ := un
        rw [runP_great hg2] at hrun2
        rw [← hrun2] at q
        exact OutX.same q (sg.trans s4)
      | none =>
      intro G3 s5
      obtain ⟨bsg2, bly2⟩ := grt_none hg2
      refine ⟨_, rfl, _, rfl, _, _, rfl, rfl, _, _, rfl, ?_⟩
      rw [show (if (0 : Int) > (i : Int) - 1 then (0 : Int) else (i : Int) - 1) = ((i - 1 : Nat) : Int) from by split <;> omega]
      refine ⟨c2, Bt.stepAt b i, i - 1, rfl, s5 _ _ hc2, hok2, bsg2, by omega, fun j hj => Bt.after_step hs (fun j hj => Bt.fst_least hf hj) (by omega), ?_⟩
      exact ⟨m - (k + 1), by omega, Bt.stepAt b i, k + 1, c2, rfl, (sg.trans s4).trans s5, (hLG.same s4).same s5, s5 _ _ hc2, hok2, hcl2, hg2, by omega, hrun2, fun h => absurd h (Nat.succ_ne_zero k), rfl⟩
end
end TF18
namespace TF18
open PySem PySem.Spec L2 TG TA
open PyProof.Rows hiding St
section
variable {X : Cx} {k j : Nat} {f : Addr} {fd : FuncData} {ps : List Str} {sp : Sp} {x : Str} {st : Stmt} {p pos : Pos} {e : Expr} {es : List Expr} {t tk : TA}
theorem pe_cg (D : Df X.K X.mg x st f fd ps) (F : FnG X.prog X.w X.K X.mg X.base CX0 k f fd ps sp) (hr : RoomG j X.A) (hj : k ≤ j) (ha : PA X (e :: es) t) (hg : Gl X x := by rfl)
    (hdb : (x == ("__debug__" : Str)) = false := by decide) (he : starEach (e :: es) X.env = (false, eval e X.env) :: starEach es X.env := by rfl) (hpl : (backTo pos (starEach es X.env)).any (·.1) = false := by rfl) :
    PE X (.Call (.Name x p) (e :: es) [] pos) (tCall sp [] E0 t) := pe_cdG F hr hj D.m D.F.kp D.b pass0 ha hg hdb he hpl
end
theorem WA.keep {n : Nat} {p c : Addr} {H H' : Hp} {v : V} {w : Wr} (h : WA H v w) (hp : PenAt n H p c) (k : Keep p H H') : WA H' v w := by
  obtain ⟨xs, e⟩ := hp.lst
  exact h.mono fun a ys ha => k a _ (fun z => by subst z; rw [e] at ha; cases ha) ha
/-! ### bound names as whole numbers -/
/-- a counted writing, a bound name its number, a free one its text -/
inductive BA (H : Hp) : V → Bt → Prop where
  | bd (n : Nat) : BA H (.int (n : Int)) (.bd n)
  | fr (z : Str) : BA H (.str z) (.fr z)
  | of {a : Addr} {v : V} {b : Bt} : H a = some (.tup [.str "of", v]) → BA H v b → BA H (.ref a) (.of b)
  | to {a : Addr} {u v : V} {b c : Bt} : H a = some (.tup [.str "to", u, v]) → BA H u b → BA H v c → BA H (.ref a) (.to b c)
theorem BA.mono {H H' : Hp} {v : V} {b : Bt} (h : BA H v b) (k : ∀ a xs, H a = some (.tup xs) → H' a = some (.tup xs)) : BA H' v b := by
  induction h with
  | bd n => exact .bd n
  | fr z => exact .fr z
  | of e _ ih => exact .of (k _ _ e) ih
  | to e _ _ i1 i2 => exact .to (k _ _ e) i1 i2
theorem BA.same {H H' : Hp} {v : V} {b : Bt} (h : BA H v b) (s : Same H H') : BA H' v b := h.mono fun a xs e => s _ _ e
abbrev sBare : Stmt := top 73
theorem scBare : FnScope ["writing", "around"] ["writing", "around"] (defScope sBare) := ⟨rfl, rfl, rfl, by decide +kernel, rfl, by decide +kernel, by decide +kernel⟩
def spBare (n : Nat) : Sp := fun vs H Q _ => ∃ (v : V) (r : Addr) (ar : List Str) (w : Wr), vs = [v, .ref r] ∧ WA H v w ∧ w.ly ≤ n ∧ ar.length + w.ly ≤ 1000 ∧ H r = some (.lst (ar.map V.str)) ∧
  ∀ (v' : V) (H' : Hp), Same H H' → BA H' v' (w.cnt ar) → Q v' H'
theorem idx_strs {z : Str} : ∀ {ar : List Str}, z ∈ ar → (ar.map V.str)[ar.idxOf z]? = some (.str z) ∧ ∀ (m : Nat) (z' : V), m < ar.idxOf z → (ar.map V.str)[m]? = some z' → eqV z' (.str z) = false
  | x :: r, h => by
    by_cases e : x = z
    · subst e
      rw [List.idxOf_cons_self]
      exact ⟨rfl, fun m _ hm => absurd hm (Nat.not_lt_zero m)⟩
    · have hz : z ∈ r := (List.mem_cons.mp h).resolve_left fun q => e q.symm
      obtain ⟨h1, h2⟩ := idx_strs hz
      rw [show (x :: r).idxOf z = r.idxOf z + 1 by rw [List.idxOf_cons, beq_eq_false_iff_ne.mpr e]; rfl]
      refine ⟨h1, fun m z' hm hz' => ?_⟩
      cases m with
      | zero =>
        cases hz'
        show (x == z) = false
        exact beq_eq_false_iff_ne.mpr e
      | succ m => exact h2 m z' (by omega) hz'
section
variable {P : Program} {w : World} {K : PySem.W.Frag} {mg : Str → Option Value} {base : Heap} {f : Addr} {fd : FuncData}
theorem ok_bare (F : Fun K "_law_bare" "_law_bare" sBare f fd) (T : Bn mg) (D__law_bare : Df K mg "_law_bare" sBare f fd ["writing", "around"]) : ∀ n : Nat, FnG P w K mg base CX0 (n + 1) f fd ["writing", "around"] (spBare n) := by
  intro n
  induction n with
  | zero =>
    refine fun_okG F scBare (fun vs H Q E h => ?_) (fun cdv A outer s H vs Q E hr h => ?_)
    · obtain ⟨v, r, ar, w, rfl, _⟩ := h
      rfl
    obtain ⟨v, r, ar, w, rfl, _, h1, _⟩ := h
    have := w.ly_pos
    omega
  | succ n G__law_bare =>
  refine fun_okG F scBare (fun vs H Q E h => ?_) (fun cdv A outer s H vs Q E hr h => ?_)
  · obtain ⟨v, r, ar, w, rfl, _⟩ := h
    rfl
  obtain ⟨v, r, ar, w, rfl, hw, hl, hlen, hr', q⟩ := h
  refine ⟨_, (pss_cons (ps_if (pt_val (pe_callB call_isi (by rfl) T.b_isinstance (by decide +kernel) (pa_cons (pv 0) (pa_cons (pe_bltn (v := .ty "str") (u := .type "str") (by rfl) T.b_str (by decide +kernel) rfl) pa_nil)))) (pss_one (ps_ret (pe_ifExp (pt_cmpR op_in_seq (pv 0) (pv 1) (by rfl)) (pe_bm PySem.F.plainAttrs_list PySem.F.slot_list_index PySem.F.type_list_index mt_index (pv 1) (pa_cons (pv 0) pa_nil)) (pv 0)))) pss_nil)
      (pss_cons (ps_if (pt_cmpR op_eq (pe_ix ix_tup (pv 0) pe_int (fun _ _ => rfl)) pe_str (nomark _)) (pss_one (ps_ret (pe_tup (pa_cons pe_str (pa_cons (pe_cg D__law_bare G__law_bare hr (by omega) (pa_cons (pe_ix ix_tup (pv 0) pe_int (fun _ _ => rfl)) (pa_cons (pe_op op_cat (pe_lst (pa_cons (pe_ix ix_tup (pv 0) pe_int (fun _ _ => rfl)) pa_nil)) (pv 1)) pa_nil))) pa_nil))))) pss_nil)
      (pss_one (ps_ret (pe_tup (pa_cons pe_str (pa_cons (pe_cg D__law_bare G__law_bare hr (by omega) (pa_cons (pe_ix ix_tup (pv 0) pe_int (fun _ _ => rfl)) (pa_cons (pv 1) pa_nil))) (pa_cons (pe_cg D__law_bare G__law_bare hr (by omega) (pa_cons (pe_ix ix_tup (pv 0) pe_int (fun _ _ => rfl)) (pa_cons (pv 1) pa_nil))) pa_nil)))))))), ?_⟩
  cases hw with
  | nm z =>
    refine ⟨_, rfl, _, _, _, _, true, rfl, .ty "str", .base (.str z), kit_ty rfl, _, rfl, iteT ?_⟩
    refine ⟨_, rfl, _, rfl, r, _, rfl, .inl (SqL.of hr'), rfl, flat_strs _, _, rfl, ?_⟩
    rw [if_neg Bool.false_ne_true, inV_strs]
    have ez : (Wr.nm z).cnt ar = if z ∈ ar then Bt.bd (ar.idxOf z) else .fr z := rfl
    by_cases hz : z ∈ ar
    · rw [decide_eq_true hz]
      rw [if_pos hz] at ez
      obtain ⟨i1, i2⟩ := idx_strs hz
      refine iteT ⟨_, rfl, .inl ⟨rfl, _, SqL.of hr'⟩, _, rfl, r, _, .str z, ar.idxOf z, .str z, rfl, rfl, SqL.of hr', rfl, flat_strs _, i1, by show (z == z) = true; exact beq_self_eq_true z, i2, ?_⟩
      exact q _ _ (fun _ _ e => e) (by rw [ez]; exact .bd _)
    · rw [decide_eq_false hz]
      rw [if_neg hz] at ez
      refine iteF ⟨_, rfl, ?_⟩
      exact q _ _ (fun _ _ e => e) (by rw [ez]; exact .fr z)
  | @of a x vb b ha hb =>
    have l1 : b.ly + 1 ≤ n + 1 := hl
    have l2 : ar.length + (b.ly + 1) ≤ 1000 := hlen
    refine ⟨_, rfl, _, _, _, _, false, rfl, .ty "str", .base (.tup ha), kit_ty rfl, _, rfl, iteF ?_⟩
    refine ⟨_, rfl, a, _, _, _, rfl, rfl, SqT.of ha, rfl, rfl, _, rfl, ?_⟩
    refine ite2 (fun _ => ?_) (fun z => absurd (decide_eq_true rfl) z)
    refine ⟨_, rfl, a, _, _, _, rfl, rfl, SqT.of ha, rfl, _, rfl, a, _, _, _, rfl, rfl, SqT.of ha, rfl, (by show 1 ≤ sizeLine; decide), fun N hN => ⟨_, rfl, N, r, _, _, rfl, rfl, upd_same, new_same hN _ _ hr', ?_, fun C hC => ?_⟩⟩
    · rw [List.length_map, sizeLine_eq]
      show 1 + ar.length ≤ _
      omega
    have s1 := (new_same (o := .lst [.str x]) hN).trans (new_same (o := .lst ([.str x] ++ ar.map V.str)) hC)
    refine ⟨vb, C, x :: ar, b, rfl, hb.same s1, by omega, by show ar.length + 1 + b.ly ≤ 1000; omega, upd_same, fun v' H' s2 t => ⟨(by show 2 ≤ sizeLine; decide), fun u hu => ?_⟩⟩
    exact q _ _ ((s1.trans s2).trans (new_same hu)) (.of upd_same (t.same (new_same hu)))
  | @to a va vb b c ha hb hc =>
    have l1 : max b.ly c.ly + 1 ≤ n + 1 := hl
    have l2 : ar.length + (max b.ly c.ly + 1) ≤ 1000 := hlen
    refine ⟨_, rfl, _, _, _, _, false, rfl, .ty "str", .base (.tup ha), kit_ty rfl, _, rfl, iteF ?_⟩
    refine ⟨_, rfl, a, _, _, _, rfl, rfl, SqT.of ha, rfl, rfl, _, rfl, ?_⟩
    refine ite2 (fun z => absurd z (by decide +kernel)) (fun _ => ?_)
    refine ⟨_, rfl, a, _, _, _, rfl, rfl, SqT.of ha, rfl, _, rfl, va, r, ar, b, rfl, hb, by omega, by omega, hr', fun v1 H1 s1 t1 => ?_⟩
    refine ⟨_, rfl, a, _, _, _, rfl, rfl, SqT.of (s1 _ _ ha), rfl, _, rfl, vb, r, ar, c, rfl, hc.same s1, by omega, by omega, s1 _ _ hr', fun v2 H2 s2 t2 => ⟨(by show 3 ≤ sizeLine; decide), fun u hu => ?_⟩⟩
    exact q _ _ ((s1.trans s2).trans (new_same hu)) (.to upd_same ((t1.same s2).same (new_same hu)) (t2.same (new_same hu)))
end
end TF18
set_option maxHeartbeats 400000
namespace TF18
open PySem PySem.Spec L2 TG TA
open PyProof.Rows hiding St
/-! ### what is handed in -/
open TG.Bt (lift)
abbrev sLift : Stmt := top 74
theorem scLift : FnScope ["bare", "by", "inner"] ["bare", "by", "inner"] (defScope sLift) := ⟨rfl, rfl, rfl, by decide +kernel, rfl, by decide +kernel, by decide +kernel⟩
def spLift (n : Nat) : Sp := fun vs H Q _ => ∃ (v : V) (by_ k : Nat) (b : Bt), vs = [v, .int (by_ : Int), .int (k : Int)] ∧ BA H v b ∧ b.ly ≤ n ∧ ∀ (v' : V) (H' : Hp), Same H H' → BA H' v' (lift by_ k b) → Q v' H'
section
variable {P : Program} {w : World} {K : PySem.W.Frag} {mg : Str → Option Value} {base : Heap} {f f1 : Addr} {fd d1 : FuncData}
theorem ok_lift (F : Fun K "_law_lifted" "_law_lifted" sLift f fd) (T : Bn mg) (D__law_lifted : Df K mg "_law_lifted" sLift f fd ["bare", "by", "inner"]) : ∀ n : Nat, FnG P w K mg base CX0 (n + 1) f fd ["bare", "by", "inner"] (spLift n) := by
  intro n
  induction n with
  | zero =>
    refine fun_okG F scLift (fun vs H Q E h => ?_) (fun cdv A outer s H vs Q E hr h => ?_)
    · obtain ⟨v, by_, k, b, rfl, _⟩ := h
      rfl
    obtain ⟨v, by_, k, b, rfl, _, h1, _⟩ := h
    cases b <;> exact absurd h1 (Nat.not_succ_le_zero _)
  | succ n G__law_lifted =>
  refine fun_okG F scLift (fun vs H Q E h => ?_) (fun cdv A outer s H vs Q E hr h => ?_)
  · obtain ⟨v, by_, k, b, rfl, _⟩ := h
    rfl
  obtain ⟨v, by_, k, b, rfl, hb, hl, q⟩ := h
  refine ⟨_, (pss_cons (ps_if (pt_val (pe_callB call_isi (by rfl) T.b_isinstance (by decide +kernel) (pa_cons (pv 0) (pa_cons (pe_bltn (v := .ty "int") (u := .type "int") (by rfl) T.b_int (by decide +kernel) rfl) pa_nil)))) (pss_one (ps_ret (pe_ifExp (pt_cmpR op_ge (pv 0) (pv 2) (nomark _)) (pe_op op_add (pv 0) (pv 1)) (pv 0)))) pss_nil)
      (pss_cons (ps_if (pt_val (pe_callB call_isi (by rfl) T.b_isinstance (by decide +kernel) (pa_cons (pv 0) (pa_cons (pe_bltn (v := .ty "str") (u := .type "str") (by rfl) T.b_str (by decide +kernel) rfl) pa_nil)))) (pss_one (ps_ret (pv 0))) pss_nil)
      (pss_cons (ps_if (pt_cmpR op_eq (pe_ix ix_tup (pv 0) pe_int (fun _ _ => rfl)) pe_str (nomark _)) (pss_one (ps_ret (pe_tup (pa_cons pe_str (pa_cons (pe_cg D__law_lifted G__law_lifted hr (by omega) (pa_cons (pe_ix ix_tup (pv 0) pe_int (fun _ _ => rfl)) (pa_cons (pv 1) (pa_cons (pe_op op_add (pv 2) pe_int) pa_nil)))) pa_nil))))) pss_nil)
      (pss_one (ps_ret (pe_tup (pa_cons pe_str (pa_cons (pe_cg D__law_lifted G__law_lifted hr (by omega) (pa_cons (pe_ix ix_tup (pv 0) pe_int (fun _ _ => rfl)) (pa_cons (pv 1) (pa_cons (pv 2) pa_nil)))) (pa_cons (pe_cg D__law_lifted G__law_lifted hr (by omega) (pa_cons (pe_ix ix_tup (pv 0) pe_int (fun _ _ => rfl)) (pa_cons (pv 1) (pa_cons (pv 2) pa_nil)))) pa_nil))))))))), ?_⟩
  cases hb with
  | bd m =>
    refine ⟨_, rfl, _, _, _, _, true, rfl, .ty "int", .base (.int _), kit_ty rfl, _, rfl, iteT ?_⟩
    refine ⟨_, rfl, _, rfl, _, _, rfl, rfl, _, rfl, ?_⟩
    have e1 : lift by_ k (.bd m) = .bd (if k ≤ m then m + by_ else m) := rfl
    by_cases c : k ≤ m
    · rw [decide_eq_true (by omega)]
      rw [if_pos c] at e1
      refine iteT ⟨_, rfl, _, rfl, _, _, rfl, rfl, q _ _ (fun _ _ e => e) ?_⟩
      rw [e1]
      exact .bd (m + by_)
    · rw [decide_eq_false (by omega)]
      rw [if_neg c] at e1
      refine iteF ⟨_, rfl, q _ _ (fun _ _ e => e) ?_⟩
      rw [e1]
      exact .bd m
  | fr z =>
    refine ⟨_, rfl, _, _, _, _, false, rfl, .ty "int", .base (.str z), kit_ty rfl, _, rfl, iteF ?_⟩
    refine ⟨_, rfl, _, _, _, _, true, rfl, .ty "str", .base (.str z), kit_ty rfl, _, rfl, iteT ?_⟩
    exact ⟨_, rfl, q _ _ (fun _ _ e => e) (.fr z)⟩
  | @of a u c e hc =>
    have l1 : c.ly + 1 ≤ n + 1 := hl
    refine ⟨_, rfl, _, _, _, _, false, rfl, .ty "int", .base (.tup e), kit_ty rfl, _, rfl, iteF ?_⟩
    refine ⟨_, rfl, _, _, _, _, false, rfl, .ty "str", .base (.tup e), kit_ty rfl, _, rfl, iteF ?_⟩
    refine ⟨_, rfl, a, _, _, _, rfl, rfl, SqT.of e, rfl, rfl, _, rfl, ?_⟩
    refine ite2 (fun _ => ?_) (fun z => absurd (decide_eq_true rfl) z)
    refine ⟨_, rfl, a, _, _, _, rfl, rfl, SqT.of e, rfl, _, rfl, _, rfl, _, _, rfl, rfl, u, by_, k + 1, c, rfl, hc, by omega, fun v' H' s2 h2 => ⟨(by show 2 ≤ sizeLine; decide), fun a' ha' => ?_⟩⟩
    exact q _ _ (s2.trans (new_same ha')) (.of upd_same (h2.same (new_same ha')))
  | @to a u v c g e hc hg =>
    have l1 : max c.ly g.ly + 1 ≤ n + 1 := hl
    refine ⟨_, rfl, _, _, _, _, false, rfl, .ty "int", .base (.tup e), kit_ty rfl, _, rfl, iteF ?_⟩
    refine ⟨_, rfl, _, _, _, _, false, rfl, .ty "str", .base (.tup e), kit_ty rfl, _, rfl, iteF ?_⟩
    refine ⟨_, rfl, a, _, _, _, rfl, rfl, SqT.of e, rfl, rfl, _, rfl, ?_⟩
    rw [show decide (V.str "to" = V.str "of") = false by decide +kernel]
    refine iteF ⟨_, rfl, a, _, _, _, rfl, rfl, SqT.of e, rfl, _, rfl, _, rfl, u, by_, k, c, rfl, hc, by omega, fun v1 H1 s1 h1 => ?_⟩
    refine ⟨_, rfl, a, _, _, _, rfl, rfl, SqT.of (s1 _ _ e), rfl, _, rfl, _, rfl, v, by_, k, g, rfl, hg.same s1, by omega, fun v2 H2 s2 h2 => ⟨(by show 3 ≤ sizeLine; decide), fun a' ha' => ?_⟩⟩
    exact q _ _ (s1.trans (s2.trans (new_same ha'))) (.to upd_same (h1.same (s2.trans (new_same ha'))) (h2.same (new_same ha')))
end
end TF18
set_option maxHeartbeats 400000
namespace TF18
open PySem PySem.Spec L2 TG TA
open PyProof.Rows hiding St
/-! ### a body with what it is handed -/
open TG.Bt (lift hand)
abbrev sHand : Stmt := top 75
theorem scHand : FnScope ["body", "other", "inner"] ["body", "other", "inner"] (defScope sHand) := ⟨rfl, rfl, rfl, by decide +kernel, rfl, by decide +kernel, by decide +kernel⟩
def spHand (n : Nat) : Sp := fun vs H Q _ => ∃ (v u : V) (k : Nat) (b t : Bt), vs = [v, u, .int (k : Int)] ∧ BA H v b ∧ BA H u t ∧ b.ly ≤ n ∧ t.ly ≤ 200 ∧ ∀ (v' : V) (H' : Hp), Same H H' → BA H' v' (hand t k b) → Q v' H'
section
variable {P : Program} {w : World} {K : PySem.W.Frag} {mg : Str → Option Value} {base : Heap} {f f1 : Addr} {fd d1 : FuncData}
theorem ok_hand (F : Fun K "_law_handed" "_law_handed" sHand f fd) (T : Bn mg) (D__law_handed : Df K mg "_law_handed" sHand f fd ["body", "other", "inner"])
    (D__law_lifted : Df K mg "_law_lifted" sLift f1 d1 ["bare", "by", "inner"]) (G__law_lifted : FnG P w K mg base CX0 201 f1 d1 ["bare", "by", "inner"] (spLift 200)) : ∀ n : Nat, FnG P w K mg base CX0 (n + 202) f fd ["body", "other", "inner"] (spHand n) := by
  intro n
  induction n with
  | zero =>
    refine fun_okG F scHand (fun vs H Q E h => ?_) (fun cdv A outer s H vs Q E hr h => ?_)
    · obtain ⟨v, u, k, b, t, rfl, _⟩ := h
      rfl
    obtain ⟨v, u, k, b, t, rfl, _, _, h1, _⟩ := h
    cases b <;> exact absurd h1 (Nat.not_succ_le_zero _)
  | succ n G__law_handed =>
  refine fun_okG F scHand (fun vs H Q E h => ?_) (fun cdv A outer s H vs Q E hr h => ?_)
  · obtain ⟨v, u, k, b, t, rfl, _⟩ := h
    rfl
  obtain ⟨v, o, k, b, t, rfl, hb, ho, hl, hlt, q⟩ := h
  refine ⟨_, (pss_cons (ps_if (pt_val (pe_callB call_isi (by rfl) T.b_isinstance (by decide +kernel) (pa_cons (pv 0) (pa_cons (pe_bltn (v := .ty "int") (u := .type "int") (by rfl) T.b_int (by decide +kernel) rfl) pa_nil)))) (pss_one (ps_ret (pe_ifExp (pt_cmpR op_eq (pv 0) (pv 2) (nomark _)) (pe_cg D__law_lifted G__law_lifted hr (by omega) (pa_cons (pv 1) (pa_cons (pv 2) (pa_cons pe_int pa_nil)))) (pe_op op_sub (pv 0) (pe_callTy call_int1 (by rfl) T.b_int (by decide +kernel) (pa_cons (pe_cmpR op_gt (pv 0) (pv 2) (nomark _)) pa_nil)))))) pss_nil)
      (pss_cons (ps_if (pt_val (pe_callB call_isi (by rfl) T.b_isinstance (by decide +kernel) (pa_cons (pv 0) (pa_cons (pe_bltn (v := .ty "str") (u := .type "str") (by rfl) T.b_str (by decide +kernel) rfl) pa_nil)))) (pss_one (ps_ret (pv 0))) pss_nil)
      (pss_cons (ps_if (pt_cmpR op_eq (pe_ix ix_tup (pv 0) pe_int (fun _ _ => rfl)) pe_str (nomark _)) (pss_one (ps_ret (pe_tup (pa_cons pe_str (pa_cons (pe_cg D__law_handed G__law_handed hr (by omega) (pa_cons (pe_ix ix_tup (pv 0) pe_int (fun _ _ => rfl)) (pa_cons (pv 1) (pa_cons (pe_op op_add (pv 2) pe_int) pa_nil)))) pa_nil))))) pss_nil)
      (pss_one (ps_ret (pe_tup (pa_cons pe_str (pa_cons (pe_cg D__law_handed G__law_handed hr (by omega) (pa_cons (pe_ix ix_tup (pv 0) pe_int (fun _ _ => rfl)) (pa_cons (pv 1) (pa_cons (pv 2) pa_nil)))) (pa_cons (pe_cg D__law_handed G__law_handed hr (by omega) (pa_cons (pe_ix ix_tup (pv 0) pe_int (fun _ _ => rfl)) (pa_cons (pv 1) (pa_cons (pv 2) pa_nil)))) pa_nil))))))))), ?_⟩
  cases hb with
  | bd m =>
    refine ⟨_, rfl, _, _, _, _, true, rfl, .ty "int", .base (.int _), kit_ty rfl, _, rfl, iteT ?_⟩
    have e1 : hand t k (.bd m) = if m = k then lift k 0 t else .bd (if k < m then m - 1 else m) := rfl
    refine ⟨_, rfl, _, rfl, rfl, _, rfl, ?_⟩
    by_cases c : m = k
    · rw [if_pos c] at e1
      rw [decide_eq_true (by rw [c])]
      refine iteT ⟨_, rfl, _, rfl, o, k, 0, t, rfl, ho, hlt, fun v' H' s2 h2 => q v' H' s2 ?_⟩
      rw [e1]
      exact h2
    · rw [if_neg c] at e1
      rw [decide_eq_false (fun e => c (by injection e with e; omega))]
      refine iteF ⟨_, rfl, _, rfl, _, rfl, _, _, rfl, rfl, .inr ⟨_, rfl, _, _, rfl, rfl, q _ _ (fun _ _ e => e) ?_⟩⟩
      rw [e1]
      by_cases c2 : k < m
      · rw [if_pos c2, decide_eq_true (by omega), if_pos rfl]
        show BA H (.int ((m : Int) - 1)) _
        rw [show ((m : Int) - 1) = ((m - 1 : Nat) : Int) by omega]
        exact .bd (m - 1)
      · rw [if_neg c2, decide_eq_false (by omega), if_neg Bool.false_ne_true]
        show BA H (.int ((m : Int) - 0)) _
        rw [show ((m : Int) - 0) = (m : Int) by omega]
        exact .bd m
  | fr z =>
    refine ⟨_, rfl, _, _, _, _, false, rfl, .ty "int", .base (.str z), kit_ty rfl, _, rfl, iteF ?_⟩
    refine ⟨_, rfl, _, _, _, _, true, rfl, .ty "str", .base (.str z), kit_ty rfl, _, rfl, iteT ?_⟩
    exact ⟨_, rfl, q _ _ (fun _ _ e => e) (.fr z)⟩
  | @of a u c e hc =>
    have l1 : c.ly + 1 ≤ n + 1 := hl
    refine ⟨_, rfl, _, _, _, _, false, rfl, .ty "int", .base (.tup e), kit_ty rfl, _, rfl, iteF ?_⟩
    refine ⟨_, rfl, _, _, _, _, false, rfl, .ty "str", .base (.tup e), kit_ty rfl, _, rfl, iteF ?_⟩
    refine ⟨_, rfl, a, _, _, _, rfl, rfl, SqT.of e, rfl, rfl, _, rfl, ?_⟩
    refine ite2 (fun _ => ?_) (fun z => absurd (decide_eq_true rfl) z)
    refine ⟨_, rfl, a, _, _, _, rfl, rfl, SqT.of e, rfl, _, rfl, _, rfl, _, _, rfl, rfl, u, o, k + 1, c, t, rfl, hc, ho, by omega, hlt, fun v' H' s2 h2 => ⟨(by show 2 ≤ sizeLine; decide), fun a' ha' => ?_⟩⟩
    exact q _ _ (s2.trans (new_same ha')) (.of upd_same (h2.same (new_same ha')))
  | @to a u v c g e hc hg =>
    have l1 : max c.ly g.ly + 1 ≤ n + 1 := hl
    refine ⟨_, rfl, _, _, _, _, false, rfl, .ty "int", .base (.tup e), kit_ty rfl, _, rfl, iteF ?_⟩
    refine ⟨_, rfl, _, _, _, _, false, rfl, .ty "str", .base (.tup e), kit_ty rfl, _, rfl, iteF ?_⟩
    refine ⟨_, rfl, a, _, _, _, rfl, rfl, SqT.of e, rfl, rfl, _, rfl, ?_⟩
    rw [show decide (V.str "to" = V.str "of") = false by decide +kernel]
    refine iteF ⟨_, rfl, a, _, _, _, rfl, rfl, SqT.of e, rfl, _, rfl, _, rfl, u, o, k, c, t, rfl, hc, ho, by omega, hlt, fun v1 H1 s1 h1 => ?_⟩
    refine ⟨_, rfl, a, _, _, _, rfl, rfl, SqT.of (s1 _ _ e), rfl, _, rfl, _, rfl, v, o, k, g, t, rfl, hg.same s1, ho.same s1, by omega, hlt, fun v2 H2 s2 h2 => ⟨(by show 3 ≤ sizeLine; decide), fun a' ha' => ?_⟩⟩
    exact q _ _ (s1.trans (s2.trans (new_same ha'))) (.to upd_same (h1.same (s2.trans (new_same ha'))) (h2.same (new_same ha')))
end
end TF18
set_option maxHeartbeats 400000
namespace TF18
open PySem PySem.Spec L2 TG TA
open PyProof.Rows hiding St
/-! ### what is ready for a step -/
def readyB : Bt → Bool
  | .to (.of _) _ => true
  | _ => false
abbrev sReady : Stmt := top 76
theorem scReady : FnScope ["bare"] ["bare"] (defScope sReady) := ⟨rfl, rfl, rfl, by decide +kernel, rfl, by decide +kernel, by decide +kernel⟩
def spReady : Sp := fun vs H Q _ => ∃ (v : V) (b : Bt), vs = [v] ∧ BA H v b ∧ Q (.bl (readyB b)) H
section
variable {P : Program} {w : World} {K : PySem.W.Frag} {mg : Str → Option Value} {base : Heap} {f f1 : Addr} {fd d1 : FuncData}
theorem ok_ready (F : Fun K "_law_is_ready" "_law_is_ready" sReady f fd) (T : Bn mg) : FnG P w K mg base CX0 1 f fd ["bare"] spReady := by
  refine fun_okG F scReady (fun vs H Q E h => ?_) (fun cdv A outer s H vs Q E hr h => ?_)
  · obtain ⟨v, b, rfl, _⟩ := h
    rfl
  obtain ⟨v, b, rfl, hb, q⟩ := h
  refine ⟨_, (pss_one (ps_ret (pe_and (pe_callB call_isi (by rfl) T.b_isinstance (by decide +kernel) (pa_cons (pv 0) (pa_cons (pe_bltn (v := .ty "tuple") (u := .type "tuple") (by rfl) T.b_tuple (by decide +kernel) rfl) pa_nil))) (pe_and (pe_cmpR op_eq (pe_ix ix_tup (pv 0) pe_int (fun _ _ => rfl)) pe_str (nomark _)) (pe_and (pe_callB call_isi (by rfl) T.b_isinstance (by decide +kernel) (pa_cons (pe_ix ix_tup (pv 0) pe_int (fun _ _ => rfl)) (pa_cons (pe_bltn (v := .ty "tuple") (u := .type "tuple") (by rfl) T.b_tuple (by decide +kernel) rfl) pa_nil))) (pe_one (pe_cmpR op_eq (pe_ix ix_tup (pe_ix ix_tup (pv 0) pe_int (fun _ _ => rfl)) pe_int (fun _ _ => rfl)) pe_str (nomark _)))))))), ?_⟩
  cases hb with
  | bd m => exact ⟨_, rfl, _, _, _, _, false, rfl, .ty "tuple", .base (.int _), kit_ty rfl, _, rfl, iteF q⟩
  | fr z => exact ⟨_, rfl, _, _, _, _, false, rfl, .ty "tuple", .base (.str z), kit_ty rfl, _, rfl, iteF q⟩
  | @of a u c e hc =>
    refine ⟨_, rfl, _, _, _, _, true, rfl, .ty "tuple", .base (.tup e), kit_ty rfl, _, rfl, iteT ?_⟩
    refine ⟨_, rfl, a, _, _, _, rfl, rfl, SqT.of e, rfl, rfl, _, rfl, ?_⟩
    rw [show decide (V.str "of" = V.str "to") = false by decide +kernel]
    exact iteF q
  | @to a u v c g e hc hg =>
    refine ⟨_, rfl, _, _, _, _, true, rfl, .ty "tuple", .base (.tup e), kit_ty rfl, _, rfl, iteT ?_⟩
    refine ⟨_, rfl, a, _, _, _, rfl, rfl, SqT.of e, rfl, rfl, _, rfl, ?_⟩
    rw [show decide (V.str "to" = V.str "to") = true by decide +kernel]
    refine iteT ⟨_, rfl, a, _, _, _, rfl, rfl, SqT.of e, rfl, ?_⟩
    cases hc with
    | bd m => exact ⟨_, _, _, _, false, rfl, .ty "tuple", .base (.int _), kit_ty rfl, _, rfl, iteF q⟩
    | fr z => exact ⟨_, _, _, _, false, rfl, .ty "tuple", .base (.str z), kit_ty rfl, _, rfl, iteF q⟩
    | @of a2 u2 c2 e2 hc2 =>
      refine ⟨_, _, _, _, true, rfl, .ty "tuple", .base (.tup e2), kit_ty rfl, _, rfl, iteT ?_⟩
      refine ⟨_, rfl, a, _, _, _, rfl, rfl, SqT.of e, rfl, a2, _, _, _, rfl, rfl, SqT.of e2, rfl, rfl, ?_⟩
      exact q
    | @to a2 u2 v2 c2 g2 e2 hc2 hg2 =>
      refine ⟨_, _, _, _, true, rfl, .ty "tuple", .base (.tup e2), kit_ty rfl, _, rfl, iteT ?_⟩
      refine ⟨_, rfl, a, _, _, _, rfl, rfl, SqT.of e, rfl, a2, _, _, _, rfl, rfl, SqT.of e2, rfl, rfl, ?_⟩
      rw [show decide (V.str "to" = V.str "of") = false by decide +kernel]
      exact q
end
end TF18
set_option maxHeartbeats 400000
namespace TF18
open PySem PySem.Spec L2 TG TA
open PyProof.Rows hiding St
/-! ### the step at a place -/
open TG.Bt (lift hand)
def stepB : List Nat → Bt → Bt
  | [], .to (.of b) c => hand c 0 b
  | _ :: ns, .of b => .of (stepB ns b)
  | 0 :: ns, .to a b => .to (stepB ns a) b
  | _ :: ns, .to a b => .to a (stepB ns b)
  | _, b => b
/-- a place of a step -/
def okP : List Nat → Bt → Prop
  | [], .to (.of _) _ => True
  | 0 :: ns, .of b => okP ns b
  | 0 :: ns, .to a _ => okP ns a
  | 1 :: ns, .to _ b => okP ns b
  | _, _ => False
abbrev sOwnSt : Stmt := top 78
theorem scOwnSt : FnScope ["bare", "place"] ["bare", "place"] (defScope sOwnSt) := ⟨rfl, rfl, rfl, by decide +kernel, rfl, by decide +kernel, by decide +kernel⟩
def spOwnSt (n : Nat) : Sp := fun vs H Q _ => ∃ (v : V) (pa : Addr) (b : Bt) (ns : List Nat), vs = [v, .ref pa] ∧ BA H v b ∧ b.ly ≤ 200 ∧ PlaceT H pa ns ∧ ns.length < n ∧ okP ns b ∧ ∀ (v' : V) (H' : Hp), Same H H' → BA H' v' (stepB ns b) → Q v' H'
section
variable {P : Program} {w : World} {K : PySem.W.Frag} {mg : Str → Option Value} {base : Heap} {f f1 : Addr} {fd d1 : FuncData}
theorem ok_ownSt (F : Fun K "_law_stepped" "_law_stepped" sOwnSt f fd) (T : Bn mg) (D__law_stepped : Df K mg "_law_stepped" sOwnSt f fd ["bare", "place"])
    (D__law_handed : Df K mg "_law_handed" sHand f1 d1 ["body", "other", "inner"]) (G__law_handed : FnG P w K mg base CX0 402 f1 d1 ["body", "other", "inner"] (spHand 200)) : ∀ n : Nat, FnG P w K mg base CX0 (n + 403) f fd ["bare", "place"] (spOwnSt n) := by
  intro n
  induction n with
  | zero =>
    refine fun_okG F scOwnSt (fun vs H Q E h => ?_) (fun cdv A outer s H vs Q E hr h => ?_)
    · obtain ⟨v, pa, b, ns, rfl, _⟩ := h
      rfl
    obtain ⟨v, pa, b, ns, rfl, _, _, _, h1, _⟩ := h
    exact absurd h1 (Nat.not_lt_zero _)
  | succ n G__law_stepped =>
  refine fun_okG F scOwnSt (fun vs H Q E h => ?_) (fun cdv A outer s H vs Q E hr h => ?_)
  · obtain ⟨v, pa, b, ns, rfl, _⟩ := h
    rfl
  obtain ⟨v, pa, b, ns, rfl, hb, hl, hp, hn, ok, q⟩ := h
  refine ⟨_, (pss_cons (ps_if (pt_cmpR (op_eqD hr.units) (pv 1) (pe_tup pa_nil) (nomark _)) (pss_one (ps_ret (pe_cg D__law_handed G__law_handed hr (by omega) (pa_cons (pe_ix ix_tup (pe_ix ix_tup (pv 0) pe_int (fun _ _ => rfl)) pe_int (fun _ _ => rfl)) (pa_cons (pe_ix ix_tup (pv 0) pe_int (fun _ _ => rfl)) (pa_cons pe_int pa_nil)))))) pss_nil)
      (pss_cons (ps_if (pt_cmpR op_eq (pe_ix ix_tup (pv 0) pe_int (fun _ _ => rfl)) pe_str (nomark _)) (pss_one (ps_ret (pe_tup (pa_cons pe_str (pa_cons (pe_cg D__law_stepped G__law_stepped hr (by omega) (pa_cons (pe_ix ix_tup (pv 0) pe_int (fun _ _ => rfl)) (pa_cons (pe_slice sl_tupA (pv 1) (po_some pe_int) po_none) pa_nil))) pa_nil))))) pss_nil)
      (pss_cons (ps_if (pt_cmpR op_eq (pe_ix ix_tup (pv 1) pe_int (fun _ _ => rfl)) pe_int (nomark _)) (pss_one (ps_ret (pe_tup (pa_cons pe_str (pa_cons (pe_cg D__law_stepped G__law_stepped hr (by omega) (pa_cons (pe_ix ix_tup (pv 0) pe_int (fun _ _ => rfl)) (pa_cons (pe_slice sl_tupA (pv 1) (po_some pe_int) po_none) pa_nil))) (pa_cons (pe_ix ix_tup (pv 0) pe_int (fun _ _ => rfl)) pa_nil)))))) pss_nil)
      (pss_one (ps_ret (pe_tup (pa_cons pe_str (pa_cons (pe_ix ix_tup (pv 0) pe_int (fun _ _ => rfl)) (pa_cons (pe_cg D__law_stepped G__law_stepped hr (by omega) (pa_cons (pe_ix ix_tup (pv 0) pe_int (fun _ _ => rfl)) (pa_cons (pe_slice sl_tupA (pv 1) (po_some pe_int) po_none) pa_nil))) pa_nil))))))))), ?_⟩
  refine ⟨_, rfl, (by show 0 ≤ sizeLine; exact Nat.zero_le _), fun e0 he0 => ?_⟩
  have x1 := new_same (o := .tup []) he0
  have hp1 : PlaceT (L2.upd H e0 (.tup [])) pa ns := x1 _ _ hp
  have hb1 := hb.same x1
  have shp : SeqAt.shaped (plD ns) = true := by
    obtain ⟨y1, y2⟩ := pl_lay ns
    unfold SeqAt.shaped
    rw [y1, decide_eq_true (by omega : (plD ns).depth ≤ 64)]
    rfl
  refine ⟨_, _, place_dp hp1, .tup (SqT.of upd_same) .nil, shp, rfl, ?_⟩
  rw [show PyData.eqv (plD ns) (.tuple []) = decide (ns = []) from by cases ns <;> rfl]
  generalize L2.upd H e0 (.tup []) = H1 at x1 hp1 hb1 ⊢
  refine ⟨_, rfl, ?_⟩
  cases ns with
  | nil =>
    rw [decide_eq_true rfl]
    refine iteT ?_
    cases hb1 with
    | bd m => exact ok.elim
    | fr z => exact ok.elim
    | of e hc => exact ok.elim
    | @to a u v c g e hc hg =>
      cases hc with
      | bd m => exact ok.elim
      | fr z => exact ok.elim
      | to e2 _ _ => exact ok.elim
      | @of a2 u2 c2 e2 hc2 =>
        have l1 : max (c2.ly + 1) g.ly + 1 ≤ 200 := hl
        exact ⟨_, rfl, a, _, _, _, rfl, rfl, SqT.of e, rfl, a2, _, _, _, rfl, rfl, SqT.of e2, rfl, _, rfl, a, _, _, _, rfl, rfl, SqT.of e, rfl, u2, v, 0, c2, g, rfl, hc2, hg, by omega, by omega, fun v' H' s2 h2 => q v' H' (x1.trans s2) h2⟩
  | cons n0 ns =>
    rw [decide_eq_false (List.cons_ne_nil _ _)]
    refine iteF ?_
    have len : ((n0 :: ns).map fun n => V.int ((n : Nat) : Int)).length = ns.length + 1 := List.length_map _
    have ecut : cutV ((n0 :: ns).map fun n => V.int ((n : Nat) : Int)) (some 1) none = ns.map fun n => V.int ((n : Nat) : Int) := (cut_from ((n0 :: ns).map fun n => V.int ((n : Nat) : Int)) 1 (Nat.succ_le_succ (Nat.zero_le _))).trans rfl
    have notAll : HT.sIx ((n0 :: ns).map fun n => V.int ((n : Nat) : Int)).length 0 (some 1) = 0 ∧ HT.sIx ((n0 :: ns).map fun n => V.int ((n : Nat) : Int)).length ((n0 :: ns).map fun n => V.int ((n : Nat) : Int)).length none = ((n0 :: ns).map fun n => V.int ((n : Nat) : Int)).length → False := fun z => by
      have z1 := z.1
      rw [len, show ((1 : Int)) = ((1 : Nat) : Int) from rfl, HT.sIx_nat] at z1
      omega
    have tail : ∀ {G : Hp} {p : Addr}, PlaceT (L2.upd G p (.tup (cutV ((n0 :: ns).map fun n => V.int ((n : Nat) : Int)) (some 1) none))) p ns := fun {G p} => by
      unfold PlaceT
      rw [upd_same, ecut]
    have ln : ns.length < n := by have : ns.length + 1 < n + 1 := hn; omega
    cases hb1 with
    | bd m => cases n0 with | zero => exact ok.elim | succ n0 => cases n0 with | zero => exact ok.elim | succ _ => exact ok.elim
    | fr z => cases n0 with | zero => exact ok.elim | succ n0 => cases n0 with | zero => exact ok.elim | succ _ => exact ok.elim
    | @of a u c e hc =>
      have ok2 : okP ns c := by
        cases n0 with
        | zero => exact ok
        | succ n0 => cases n0 with | zero => exact ok.elim | succ _ => exact ok.elim
      have l1 : c.ly + 1 ≤ 200 := hl
      have es : stepB (n0 :: ns) (.of c) = .of (stepB ns c) := by cases n0 <;> rfl
      refine ⟨_, rfl, a, _, _, _, rfl, rfl, SqT.of e, rfl, rfl, _, rfl, ?_⟩
      refine ite2 (fun _ => ?_) (fun z => absurd (decide_eq_true rfl) z)
      refine ⟨_, rfl, a, _, _, _, rfl, rfl, SqT.of e, rfl, _, rfl, _, rfl, pa, _, rfl, SqT.of hp1, fun z => (notAll z).elim, fun _ p hp => ?_⟩
      have x2 := new_same (o := .tup (cutV ((n0 :: ns).map fun n => V.int ((n : Nat) : Int)) (some 1) none)) hp
      refine ⟨u, p, c, ns, rfl, hc.same x2, by omega, tail, ln, ok2, fun v' H' s2 h2 => ⟨(by show 2 ≤ sizeLine; decide), fun a' ha' => ?_⟩⟩
      refine q _ _ (x1.trans (x2.trans (s2.trans (new_same ha')))) ?_
      rw [es]
      exact .of upd_same (h2.same (new_same ha'))
    | @to a u v c g e hc hg =>
      have l1 : max c.ly g.ly + 1 ≤ 200 := hl
      refine ⟨_, rfl, a, _, _, _, rfl, rfl, SqT.of e, rfl, rfl, _, rfl, ?_⟩
      rw [show decide (V.str "to" = V.str "of") = false by decide +kernel]
      refine iteF ⟨_, rfl, pa, _, _, .int ((n0 : Nat) : Int), rfl, rfl, SqT.of hp1, atI_nat (j := 0) rfl, rfl, _, rfl, ?_⟩
      have x2 : ∀ {G : Hp} {p : Addr}, G p = none → Same G (L2.upd G p (.tup (cutV ((n0 :: ns).map fun n => V.int ((n : Nat) : Int)) (some 1) none))) := fun hp => new_same hp
      cases n0 with
      | zero =>
        rw [show decide (V.int ((0 : Nat) : Int) = V.int 0) = true from decide_eq_true rfl]
        refine iteT ⟨_, rfl, a, _, _, _, rfl, rfl, SqT.of e, rfl, _, rfl, _, rfl, pa, _, rfl, SqT.of hp1, fun z => (notAll z).elim, fun _ p hp => ?_⟩
        refine ⟨u, p, c, ns, rfl, hc.same (x2 hp), by omega, tail, ln, ok, fun v' H' s2 h2 => ?_⟩
        have s3 := (x2 hp).trans s2
        refine ⟨_, rfl, a, _, _, _, rfl, rfl, SqT.of (s3 _ _ e), rfl, (by show 3 ≤ sizeLine; decide), fun a' ha' => ?_⟩
        exact q _ _ (x1.trans (s3.trans (new_same ha'))) (.to upd_same (h2.same (new_same ha')) ((hg.same s3).same (new_same ha')))
      | succ n0 =>
        cases n0 with
        | succ _ => exact ok.elim
        | zero =>
          rw [show decide (V.int ((0 + 1 : Nat) : Int) = V.int 0) = false by decide +kernel]
          refine iteF ⟨_, rfl, a, _, _, _, rfl, rfl, SqT.of e, rfl, _, rfl, a, _, _, _, rfl, rfl, SqT.of e, rfl, _, rfl, _, rfl, pa, _, rfl, SqT.of hp1, fun z => (notAll z).elim, fun _ p hp => ?_⟩
          refine ⟨v, p, g, ns, rfl, hg.same (x2 hp), by omega, tail, ln, ok, fun v' H' s2 h2 => ⟨(by show 3 ≤ sizeLine; decide), fun a' ha' => ?_⟩⟩
          have s3 := (x2 hp).trans s2
          exact q _ _ (x1.trans (s3.trans (new_same ha'))) (.to upd_same ((hc.same s3).same (new_same ha')) (h2.same (new_same ha')))
end
end TF18
set_option maxHeartbeats 400000
namespace TF18
open PySem PySem.Spec L2 TG TA
open PyProof.Rows hiding St
/-! ### free names of a counted part -/
def freeB : Bt → List Str
  | .bd _ => []
  | .fr z => [z]
  | .of b => freeB b
  | .to a b => freeB a ++ freeB b
theorem freeB_sg : ∀ b : Bt, (freeB b).length ≤ b.sg
  | .bd _ => Nat.zero_le _
  | .fr _ => Nat.le_refl _
  | .of b => Nat.le_succ_of_le (freeB_sg b)
  | .to a b => by
    have h1 := freeB_sg a
    have h2 := freeB_sg b
    show (freeB a ++ freeB b).length ≤ a.sg + b.sg + 1
    rw [List.length_append]
    omega
def placesB : Bt → List (List Nat)
  | .bd _ => []
  | .fr _ => []
  | .of b => (placesB b).map (0 :: ·)
  | .to a b => ((if readyB (.to a b) = true then [[]] else []) ++ (placesB a).map (0 :: ·)) ++ (placesB b).map (1 :: ·)
def plK (ks : List Bt) (i : Nat) : List (List Nat) := (placesB (ks.getD i (.bd 0))).map (i :: ·)
/-- a counted value: a number, a name, or a tuple of a word and parts -/
theorem ba_parts {H : Hp} {v : V} {b : Bt} (h : BA H v b) : (∃ m : Nat, v = .int (m : Int) ∧ b = .bd m) ∨ (∃ z, v = .str z ∧ b = .fr z) ∨ ∃ (a : Addr) (x0 : V) (xs : List V) (ks : List Bt), v = .ref a ∧ H a = some (.tup (x0 :: xs)) ∧ Paired (BA H) xs ks ∧ xs ≠ [] ∧ ks.length = xs.length ∧
    freeB b = ks.flatMap freeB ∧ (∀ k ∈ ks, k.ly + 1 ≤ b.ly) ∧ (∀ k ∈ ks, k.sg + 1 ≤ b.sg) ∧ xs.length ≤ 2 ∧
    placesB b = (if readyB b = true then [[]] else []) ++ (List.range ks.length).flatMap (plK ks) := by
  cases h with
  | bd n => exact .inl ⟨n, rfl, rfl⟩
  | fr z => exact .inr (.inl ⟨z, rfl, rfl⟩)
  | @of a u c e hc =>
    refine .inr (.inr ⟨a, _, [u], [c], rfl, e, .cons hc .nil, List.cons_ne_nil _ _, rfl, ?_, fun k hk => ?_, fun k hk => ?_, (by show 1 ≤ 2; decide), ?_⟩)
    · show freeB c = freeB c ++ []
      rw [List.append_nil]
    · rw [List.mem_singleton.mp hk]; exact Nat.le_refl _
    · rw [List.mem_singleton.mp hk]; exact Nat.le_refl _
    · show (placesB c).map (0 :: ·) = [] ++ ((placesB c).map (0 :: ·) ++ [])
      rw [List.append_nil]
      rfl
  | @to a u v c g e hc hg =>
    refine .inr (.inr ⟨a, _, [u, v], [c, g], rfl, e, .cons hc (.cons hg .nil), List.cons_ne_nil _ _, rfl, ?_, fun k hk => ?_, fun k hk => ?_, (by show 2 ≤ 2; decide), ?_⟩)
    · show freeB c ++ freeB g = freeB c ++ (freeB g ++ [])
      rw [List.append_nil]
    · show k.ly + 1 ≤ max c.ly g.ly + 1
      rcases List.mem_cons.mp hk with h | hk
      · rw [h]; omega
      · rw [List.mem_singleton.mp hk]; omega
    · show k.sg + 1 ≤ c.sg + g.sg + 1
      rcases List.mem_cons.mp hk with h | hk
      · rw [h]; omega
      · rw [List.mem_singleton.mp hk]; omega
    · show (_ ++ (placesB c).map (0 :: ·)) ++ (placesB g).map (1 :: ·) = _ ++ ((placesB c).map (0 :: ·) ++ ((placesB g).map (1 :: ·) ++ []))
      rw [List.append_nil, List.append_assoc]
end TF18
set_option maxHeartbeats 400000
namespace TF18
open PySem PySem.Spec L2 TG TA
open PyProof.Rows hiding St
/-! ### the places of steps, of a counted part -/
theorem places_sg : ∀ b : Bt, (placesB b).length ≤ b.sg
  | .bd _ => Nat.zero_le _
  | .fr _ => Nat.zero_le _
  | .of b => by
    show ((placesB b).map (0 :: ·)).length ≤ b.sg + 1
    rw [List.length_map]
    exact Nat.le_succ_of_le (places_sg b)
  | .to a b => by
    have h1 := places_sg a
    have h2 := places_sg b
    show (((if readyB (.to a b) = true then [[]] else []) ++ (placesB a).map (0 :: ·)) ++ (placesB b).map (1 :: ·)).length ≤ a.sg + b.sg + 1
    rw [List.length_append, List.length_append, List.length_map, List.length_map]
    have h3 : (if readyB (.to a b) = true then [([] : List Nat)] else []).length ≤ 1 := by
      by_cases c : readyB (.to a b) = true
      · rw [if_pos c]; exact Nat.le_refl 1
      · rw [if_neg c]; exact Nat.zero_le 1
    omega
theorem places_ly : ∀ (b : Bt) (ns : List Nat), ns ∈ placesB b → ns.length < b.ly
  | .bd _, _, h => absurd h List.not_mem_nil
  | .fr _, _, h => absurd h List.not_mem_nil
  | .of b, ns, h => by
    obtain ⟨m, hm, rfl⟩ := List.mem_map.mp h
    have := places_ly b m hm
    show m.length + 1 < b.ly + 1
    omega
  | .to a b, ns, h => by
    show ns.length < max a.ly b.ly + 1
    rcases List.mem_append.mp h with h | h
    · rcases List.mem_append.mp h with h | h
      · by_cases c : readyB (.to a b) = true
        · rw [if_pos c] at h
          rw [List.mem_singleton.mp h]
          exact Nat.succ_pos _
        · rw [if_neg c] at h
          exact absurd h List.not_mem_nil
      · obtain ⟨m, hm, rfl⟩ := List.mem_map.mp h
        have := places_ly a m hm
        show m.length + 1 < _
        omega
    · obtain ⟨m, hm, rfl⟩ := List.mem_map.mp h
      have := places_ly b m hm
      show m.length + 1 < _
      omega
theorem tups_same {G G' : Hp} {as : List Addr} {ps : List (List Nat)} (h : TupsN G as ps) (s : Same G G') : TupsN G' as ps := TG.paired_imp (fun _ _ h => s _ _ h) h
theorem tups_upd {G : Hp} {D : Addr} {xs ys : List V} {as : List Addr} {ps : List (List Nat)} (h : TupsN G as ps) (hD : G D = some (.lst xs)) : TupsN (L2.upd G D (.lst ys)) as ps :=
  TG.paired_imp (fun a ns h => by
    unfold PlaceT at h ⊢
    rw [upd_ne (ne_of h hD (by intro z; cases z))]
    exact h) h
abbrev sPlaces19 : Stmt := top 77
theorem scPlaces19 : FnScope ["bare", "found", "spot", "place"] ["bare"] (defScope sPlaces19) := ⟨rfl, rfl, rfl, by decide +kernel, rfl, by decide +kernel, by decide +kernel⟩
def spPlaces19 (n : Nat) : Sp := fun vs H Q _ => ∃ (v : V) (b : Bt), vs = [v] ∧ BA H v b ∧ b.ly ≤ n ∧ n ≤ 190 ∧ b.sg ≤ 6000 ∧ ∀ (r : Addr) (as : List Addr) (H' : Hp), Same H H' → H r = none → H' r = some (.lst (as.map V.ref)) → TupsN H' as (placesB b) → Q (.ref r) H'
section
variable {P : Program} {w : World} {K : PySem.W.Frag} {mg : Str → Option Value} {base : Heap} {f f1 : Addr} {fd d1 : FuncData}
theorem ok_places19 (F : Fun K "_law_places" "_law_places" sPlaces19 f fd) (T : Bn mg) (D__law_places : Df K mg "_law_places" sPlaces19 f fd ["bare"])
    (D__law_is_ready : Df K mg "_law_is_ready" sReady f1 d1 ["bare"]) (G__law_is_ready : FnG P w K mg base CX0 1 f1 d1 ["bare"] spReady) : ∀ n : Nat, FnG P w K mg base CX0 (n + 2) f fd ["bare"] (spPlaces19 n) := by
  intro n
  induction n with
  | zero =>
    refine fun_okG F scPlaces19 (fun vs H Q E h => ?_) (fun cdv A outer s H vs Q E hr h => ?_)
    · obtain ⟨v, b, rfl, _⟩ := h
      rfl
    obtain ⟨v, b, rfl, _, h1, _⟩ := h
    cases b <;> exact absurd h1 (Nat.not_succ_le_zero _)
  | succ n G__law_places =>
  refine fun_okG F scPlaces19 (fun vs H Q E h => ?_) (fun cdv A outer s H vs Q E hr h => ?_)
  · obtain ⟨v, b, rfl, _⟩ := h
    rfl
  obtain ⟨v, b, rfl, hb, hl, hn, hg, q⟩ := h
  refine ⟨_, (pss_cons (ps_if (pt_not (pt_val (pe_callB call_isi (by rfl) T.b_isinstance (by decide +kernel) (pa_cons (pv 0) (pa_cons (pe_bltn (v := .ty "tuple") (u := .type "tuple") (by rfl) T.b_tuple (by decide +kernel) rfl) pa_nil))))) (pss_one (ps_ret (pe_lst pa_nil))) pss_nil)
      (pss_cons (ps_set (i := 1) scPlaces19.nd rfl (.inl rfl) (pe_ifExp (pt_val (pe_cg D__law_is_ready G__law_is_ready hr (by omega) (pa_cons (pv 0) pa_nil))) (pe_lst (pa_cons (pe_tup pa_nil) pa_nil)) (pe_lst pa_nil)))
      (pss_cons (ps_for PassesOwn.never rfl (pi_range1 (by rfl) T.b_range (pa_cons (pe_op op_sub (pe_callB call_len_seq (by rfl) T.b_len (by decide +kernel) (pa_cons (pv 0) pa_nil)) pe_int) pa_nil)) (pg_name (i := 2) scPlaces19.nd rfl (.inr rfl))
        (pss_one (ps_expr (pe_bm PySem.F.plainAttrs_list PySem.F.slot_list_extend PySem.F.type_list_extend mt_extend (pv 1) (pa_cons (pe_lc (own := [("place", 3)]) (g := (gName 3)) (by rfl) scPlaces19.nd (pi_list (pe_cg D__law_places G__law_places hr (by omega) (pa_cons (pe_ix ix_tup (pv 0) (pe_op op_add (pv 2) pe_int) (fun _ _ => rfl)) pa_nil))) (blkOk_by (own := [("place", 3)]) (N := ["bare", "found", "spot", "place"]) (sc := defScope sPlaces19) (by decide +kernel)) (fun _ _ _ _ _ => (pg_name (i := 3) scPlaces19.nd rfl (.inl rfl))) (fun _ _ _ _ _ => pts_nil) (fun _ _ _ _ _ => (pe_op (show OpR _ _ (rCatA K) from op_catA) (pe_tup (pa_cons (pv 2) pa_nil)) (pv 3)))) pa_nil)))))
      (pss_one (ps_ret (pv 1)))))), ?_⟩
  have hd : ∃ (m : Nat) (hd : List (List Nat)), hd = (if readyB b = true then [[]] else []) ∧ hd.length ≤ 1 := ⟨0, _, rfl, by
    by_cases c : readyB b = true
    · rw [if_pos c]; exact Nat.le_refl 1
    · rw [if_neg c]; exact Nat.zero_le 1⟩
  obtain ⟨_, hd, ehd, lhd⟩ := hd
  rcases ba_parts hb with ⟨m, rfl, rfl⟩ | ⟨z, rfl, rfl⟩ | ⟨a, x0, xs, ks, rfl, e, pk, ne, lk, _, lys, sgs, lx, epl⟩
  · exact ⟨_, rfl, _, _, _, _, false, rfl, .ty "tuple", .base (.int _), kit_ty rfl, _, rfl, iteT ⟨Nat.zero_le _, fun r hr0 => q r [] _ (new_same hr0) hr0 upd_same .nil⟩⟩
  · exact ⟨_, rfl, _, _, _, _, false, rfl, .ty "tuple", .base (.str z), kit_ty rfl, _, rfl, iteT ⟨Nat.zero_le _, fun r hr0 => q r [] _ (new_same hr0) hr0 upd_same .nil⟩⟩
  refine ⟨_, rfl, _, _, _, _, true, rfl, .ty "tuple", .base (.tup e), kit_ty rfl, _, rfl, iteF ?_⟩
  rw [← ehd] at epl
  have pre : ∀ m, (hd ++ (List.range m).flatMap (plK ks)).length ≤ 1 + ((List.range m).flatMap (plK ks)).length := fun m => by
    rw [List.length_append]
    omega
  have go : ∀ (f0 : Addr) (H1 : Hp) (as0 : List Addr), Same H H1 → H f0 = none → H1 f0 = some (.lst (as0.map V.ref)) → as0.length ≤ 1 → TupsN H1 as0 hd →
      tSeq (tFor (iRng1 (tCons (tOp (rI0 fun i j => V.int (i - j)) (tCB (fun xs H_1 Q => ∃ p ys, xs = [V.ref p] ∧ (SqL K H_1 p ys ∨ SqT K H_1 p ys) ∧ Q (V.int ↑ys.length) H_1) (tCons (tVar 0) tNil)) (tC (V.int 1))) tNil)) (gName 2)
        (tDrop (tBM K "list" rExtend (tVar 1) (tCons (tLc (iList K (tCall (spPlaces19 n) [] E0 (tCons (tOp (rIxT K) (tVar 0) (tOp (rI0 fun i j => V.int (i + j)) (tVar 2) (tC (V.int 1)))) tNil))) (gName 3) tYes (tOp (rCatA K) (tTup (tCons (tVar 2) tNil)) (tVar 3)) (List.map (fun x => x.snd) [(("place" : Str), 3)])) tNil)))) (tRet (tVar 1)) { nx := fun x H' => Q V.non H', rt := Q } [some (.ref a), some (.ref f0), none, none] H1 := by
    intro f0 H1 as0 s1 hf0 hf1 la0 ht1
    refine ⟨_, rfl, a, _, rfl, .inr (SqT.of (s1 _ _ e)), _, _, rfl, rfl, _, rfl, ?_, ?_, ?_⟩
    · show (-2 ^ 62 : Int) ≤ ((xs.length + 1 : Nat) : Int) - 1
      omega
    · show ((xs.length + 1 : Nat) : Int) - 1 < (2 ^ 62 : Int)
      omega
    rw [show (((x0 :: xs).length : Int) - 1).toNat = xs.length by show (((xs.length + 1 : Nat) : Int) - 1).toNat = _; omega]
    refine for_range (fun k σ G => ∃ (as : List Addr) (v2 v3 : Option V), σ = [some (.ref a), some (.ref f0), v2, v3] ∧ Same H G ∧ G f0 = some (.lst (as.map V.ref)) ∧ as.length ≤ 1 + 6000 * k ∧ TupsN G as (hd ++ (List.range k).flatMap (plK ks))) ?_ ?_ ?_
    · exact ⟨as0, none, none, rfl, s1, hf1, la0, by rw [show (List.range 0).flatMap (plK ks) = [] from rfl, List.append_nil]; exact ht1⟩
    · rintro i σ G hi ⟨as, v2, v3, rfl, s2, hf2, las, ht2⟩
      have hi2 : i < xs.length := hi
      obtain ⟨x, hx⟩ : ∃ x, xs[i]? = some x := get_lt hi2
      obtain ⟨k, hk, bk⟩ := TG.paired_get pk hx
      have mk := List.mem_of_getElem? hk
      have l1 := lys k mk
      have l2 := sgs k mk
      refine ⟨_, rfl, .inl ⟨rfl, _, SqL.of hf2⟩, _, rfl, _, rfl, _, _, rfl, rfl, a, _, _, x, rfl, rfl, SqT.of (s2 _ _ e), at_of (j := i + 1) (by omega) hx, x, k, rfl, bk.same s2, by omega, by omega, by omega, fun r bs G1 s3 hr0 hr1 ht3 => ?_⟩
      refine ⟨r, rfl, ⟨_, SqL.of hr1⟩, fun D hD => ?_⟩
      have nf : f0 ≠ D := ne_of_none (s3 _ _ hf2) hD
      have HD0 : H D = none := (s2.trans s3).free hD
      refine lc_list (K := K) (a := r) (xs := bs.map V.ref) (fun m G2 => Same G1 G2 ∧ ∃ cs : List Addr, G2 D = some (.lst (cs.map V.ref)) ∧ cs.length ≤ m ∧ TupsN G2 cs (((placesB k).take m).map (i :: ·))) ?_ ?_ ?_ ?_
      · exact ⟨same_new hD, [], upd_same, Nat.le_refl _, .nil⟩
      · rintro m G2 _ ⟨s4, _⟩
        exact SqL.of (s4 _ _ hr1)
      · rintro m y G2 hy ⟨s4, cs, hc1, hc2, hc3⟩
        rw [List.getElem?_map] at hy
        obtain ⟨b2, hb2, rfl⟩ := Option.map_eq_some_iff.mp hy
        obtain ⟨ns, hns, hp⟩ := TG.paired_get ht3 hb2
        have hp2 := s4 _ _ hp
        have lm : m < (placesB k).length := lt_get hns
        have lk2 := places_sg k
        have ln := places_ly k ns (List.mem_of_getElem? hns)
        have nx : ∀ (c : Addr) (G3 : Hp), Same G2 G3 → PlaceT G3 c (i :: ns) → ∃ acc, G3 D = some (.lst acc) ∧ acc.length < sizeLine ∧ Same G1 (L2.upd G3 D (.lst (acc ++ [.ref c]))) ∧ ∃ cs : List Addr, (L2.upd G3 D (.lst (acc ++ [.ref c]))) D = some (.lst (cs.map V.ref)) ∧ cs.length ≤ m + 1 ∧ TupsN (L2.upd G3 D (.lst (acc ++ [.ref c]))) cs (((placesB k).take (m + 1)).map (i :: ·)) := fun c G3 s5 hc => by
          refine ⟨_, s5 _ _ hc1, by rw [List.length_map]; exact small_le (by omega), same_put (s4.trans s5) hD, cs ++ [c], by rw [upd_same, List.map_append]; rfl, by rw [List.length_append]; show _ + 1 ≤ _; omega, ?_⟩
          rw [take_more hns, List.map_append]
          exact tups_upd (paired_join (tups_same hc3 s5) (.cons hc .nil)) (s5 _ _ hc1)
        refine ⟨rfl, _, rfl, (by show 1 ≤ sizeLine; decide), fun tt htt => ?_⟩
        have x5 := new_same (o := .tup [.int (0 + (i : Int))]) htt
        have htt2 : PlaceT (L2.upd G2 tt (.tup [.int (0 + (i : Int))])) tt [i] := by
          unfold PlaceT
          rw [upd_same, Int.zero_add]
          rfl
        refine ⟨_, rfl, tt, b2, _, _, rfl, rfl, SqT.of upd_same, SqT.of (x5 _ _ hp2), ?_, fun e => absurd e (List.cons_ne_nil _ _), fun _ e => ?_, fun _ _ a' ha' => ?_⟩
        · rw [List.length_map]
          exact Nat.le_of_lt (small_le (show 1 + _ ≤ 1000000 by omega))
        · have e3 : ns = [] := List.map_eq_nil_iff.mp e
          subst e3
          exact nx tt _ x5 htt2
        · refine nx a' _ (x5.trans (new_same ha')) ?_
          unfold PlaceT
          rw [upd_same, Int.zero_add]
          rfl
      · rintro G2 ⟨s4, cs, hc1, hc2, hc3⟩
        have s34 := s3.trans s4
        have lc : cs.length ≤ 6000 := by
          have h1 := TG.paired_len hc3
          rw [List.length_map, List.length_take] at h1
          have := places_sg k
          omega
        have eg : plK ks i = (placesB k).map (i :: ·) := by
          unfold plK
          rw [List.getD_eq_getElem?_getD, hk]
          rfl
        refine ⟨f0, D, _, _, rfl, rfl, s34 _ _ hf2, hc1, ?_, as ++ cs, _, _, rfl, same_put (s2.trans s34) hf0, by rw [upd_same, List.map_append], by rw [List.length_append]; omega, ?_⟩
        · rw [List.length_map, List.length_map]
          exact Nat.le_of_lt (small_le (by omega))
        · rw [List.range_succ, List.flatMap_append, ← List.append_assoc]
          show TupsN _ _ (_ ++ (plK ks i ++ []))
          rw [List.append_nil, eg]
          refine tups_upd (paired_join (tups_same ht2 s34) ?_) (s34 _ _ hf2)
          rw [List.take_of_length_le (by rw [List.length_map]; exact Nat.le_of_eq (TG.paired_len ht3).symm)] at hc3
          exact hc3
    · rintro σ G ⟨as, v2, v3, rfl, s2, hf2, las, ht2⟩
      refine ⟨_, rfl, q f0 as G s2 hf0 hf2 ?_⟩
      rw [epl, lk]
      exact ht2
  refine ⟨_, rfl, _, b, rfl, hb, _, rfl, ite2 (fun c => ?_) (fun c => ?_)⟩
  · refine ⟨(by show 0 ≤ sizeLine; exact Nat.zero_le _), fun t0 ht0 => ⟨(by show 1 ≤ sizeLine; decide), fun f0 hf0 => ?_⟩⟩
    refine go f0 _ [t0] ((new_same ht0).trans (new_same hf0)) ((new_same ht0).free hf0) upd_same (Nat.le_refl 1) ?_
    rw [ehd, if_pos c]
    exact .cons (by unfold PlaceT; rw [upd_ne (ne_of_none upd_same hf0)]; exact upd_same) .nil
  · refine ⟨Nat.zero_le _, fun f0 hf0 => ?_⟩
    refine go f0 _ [] (new_same hf0) hf0 upd_same (Nat.zero_le _) ?_
    rw [ehd, if_neg c]
    exact .nil
end
end TF18
set_option maxHeartbeats 400000
namespace TF18
open PySem PySem.Spec L2 TG TA
open PyProof.Rows hiding St
/-! ### the first place of a step -/
def firstK : List (Option (List Nat)) → Nat → Option (List Nat)
  | [], _ => none
  | some p :: _, i => some (i :: p)
  | none :: r, i => firstK r (i + 1)
def firstB : Bt → Option (List Nat)
  | .bd _ => none
  | .fr _ => none
  | .of b => firstK [firstB b] 0
  | .to a b => if readyB (.to a b) = true then some [] else firstK [firstB a, firstB b] 0
theorem firstK_drop {l : List (Option (List Nat))} : ∀ (k : Nat), (∀ j, j < k → l[j]? = some none) → k ≤ l.length → ∀ i, firstK l i = firstK (l.drop k) (i + k) := by
  induction l with
  | nil => intro k h hk i; rw [List.drop_nil]; rfl
  | cons x l ih =>
    intro k h hk i
    cases k with
    | zero => rfl
    | succ k =>
      have e := h 0 (Nat.succ_pos _)
      cases e
      show firstK l (i + 1) = firstK (l.drop k) (i + (k + 1))
      rw [ih k (fun j hj => h (j + 1) (Nat.succ_lt_succ hj)) (Nat.le_of_succ_le_succ hk) (i + 1)]
      congr 1
      omega
theorem firstB_len : ∀ (b : Bt) (ns : List Nat), firstB b = some ns → ns.length < b.ly
  | .bd _, ns, h => nomatch h
  | .fr _, ns, h => nomatch h
  | .of b, ns, h => by
    have h : firstK [firstB b] 0 = some ns := h
    cases e : firstB b with
    | none => rw [e] at h; cases h
    | some p =>
      rw [e] at h
      cases h
      have := firstB_len b p e
      show p.length + 1 < b.ly + 1
      omega
  | .to a b, ns, h => by
    have h : (if readyB (.to a b) = true then some [] else firstK [firstB a, firstB b] 0) = some ns := h
    show ns.length < max a.ly b.ly + 1
    by_cases c : readyB (.to a b) = true
    · rw [if_pos c] at h; cases h; exact Nat.succ_pos _
    · rw [if_neg c] at h
      cases e : firstB a with
      | some p =>
        rw [e] at h
        cases h
        have := firstB_len a p e
        show p.length + 1 < _
        omega
      | none =>
        rw [e] at h
        cases e2 : firstB b with
        | none => rw [e2] at h; cases h
        | some p =>
          rw [e2] at h
          cases h
          have := firstB_len b p e2
          show p.length + 1 < _
          omega
/-- as ba_parts, for the first place -/
theorem ba_first {H : Hp} {v : V} {b : Bt} (h : BA H v b) : (∃ m : Nat, v = .int (m : Int) ∧ b = .bd m) ∨ (∃ z, v = .str z ∧ b = .fr z) ∨ ∃ (a : Addr) (x0 : V) (xs : List V) (ks : List Bt), v = .ref a ∧ H a = some (.tup (x0 :: xs)) ∧ Paired (BA H) xs ks ∧ ks.length = xs.length ∧ xs.length ≤ 2 ∧ (∀ k ∈ ks, k.ly + 1 ≤ b.ly) ∧
    firstB b = if readyB b = true then some [] else firstK (ks.map firstB) 0 := by
  cases h with
  | bd n => exact .inl ⟨n, rfl, rfl⟩
  | fr z => exact .inr (.inl ⟨z, rfl, rfl⟩)
  | @of a u c e hc =>
    refine .inr (.inr ⟨a, _, [u], [c], rfl, e, .cons hc .nil, rfl, (by show 1 ≤ 2; decide), fun k hk => ?_, rfl⟩)
    rw [List.mem_singleton.mp hk]; exact Nat.le_refl _
  | @to a u v c g e hc hg =>
    refine .inr (.inr ⟨a, _, [u, v], [c, g], rfl, e, .cons hc (.cons hg .nil), rfl, (by show 2 ≤ 2; decide), fun k hk => ?_, rfl⟩)
    show k.ly + 1 ≤ max c.ly g.ly + 1
    rcases List.mem_cons.mp hk with h | hk
    · rw [h]; omega
    · rw [List.mem_singleton.mp hk]; omega
abbrev sFst : Stmt := top 79
theorem scFst : FnScope ["bare", "spot", "place"] ["bare"] (defScope sFst) := ⟨rfl, rfl, rfl, by decide +kernel, rfl, by decide +kernel, by decide +kernel⟩
def spFst (n : Nat) : Sp := fun vs H Q _ => ∃ (v : V) (b : Bt), vs = [v] ∧ BA H v b ∧ b.ly ≤ n ∧ n ≤ 400 ∧ match firstB b with
  | none => ∀ H', Same H H' → Q .non H'
  | some ns => ∀ (r : Addr) (H' : Hp), Same H H' → PlaceT H' r ns → Q (.ref r) H'
section
variable {P : Program} {w : World} {K : PySem.W.Frag} {mg : Str → Option Value} {base : Heap} {f f1 : Addr} {fd d1 : FuncData}
theorem ok_fst (F : Fun K "_law_first" "_law_first" sFst f fd) (T : Bn mg) (D__law_first : Df K mg "_law_first" sFst f fd ["bare"])
    (D__law_is_ready : Df K mg "_law_is_ready" sReady f1 d1 ["bare"]) (G__law_is_ready : FnG P w K mg base CX0 1 f1 d1 ["bare"] spReady) : ∀ n : Nat, FnG P w K mg base CX0 (n + 2) f fd ["bare"] (spFst n) := by
  intro n
  induction n with
  | zero =>
    refine fun_okG F scFst (fun vs H Q E h => ?_) (fun cdv A outer s H vs Q E hr h => ?_)
    · obtain ⟨v, b, rfl, _⟩ := h
      rfl
    obtain ⟨v, b, rfl, _, h1, _⟩ := h
    cases b <;> exact absurd h1 (Nat.not_succ_le_zero _)
  | succ n G__law_first =>
  refine fun_okG F scFst (fun vs H Q E h => ?_) (fun cdv A outer s H vs Q E hr h => ?_)
  · obtain ⟨v, b, rfl, _⟩ := h
    rfl
  obtain ⟨v, b, rfl, hb, hl, hn, q⟩ := h
  refine ⟨_, (pss_cons (ps_if (pt_not (pt_val (pe_callB call_isi (by rfl) T.b_isinstance (by decide +kernel) (pa_cons (pv 0) (pa_cons (pe_bltn (v := .ty "tuple") (u := .type "tuple") (by rfl) T.b_tuple (by decide +kernel) rfl) pa_nil))))) (pss_one (ps_ret pe_non)) pss_nil)
      (pss_cons (ps_if (pt_val (pe_cg D__law_is_ready G__law_is_ready hr (by omega) (pa_cons (pv 0) pa_nil))) (pss_one (ps_ret (pe_tup pa_nil))) pss_nil)
      (pss_cons (ps_for PassesOwn.never rfl (pi_range1 (by rfl) T.b_range (pa_cons (pe_op op_sub (pe_callB call_len_seq (by rfl) T.b_len (by decide +kernel) (pa_cons (pv 0) pa_nil)) pe_int) pa_nil)) (pg_name (i := 1) scFst.nd rfl (.inl rfl))
        (pss_cons (ps_set (i := 2) scFst.nd rfl (.inl rfl) (pe_cg D__law_first G__law_first hr (by omega) (pa_cons (pe_ix ix_tup (pv 0) (pe_op op_add (pv 1) pe_int) (fun _ _ => rfl)) pa_nil)))
        (pss_one (ps_if (pt_cmpR op_notN (pv 2) pe_non (nomark _)) (pss_one (ps_ret (pe_op op_catA (pe_tup (pa_cons (pv 1) pa_nil)) (pv 2)))) pss_nil))))
      (pss_one (ps_ret pe_non))))), ?_⟩
  rcases ba_first hb with ⟨m, rfl, rfl⟩ | ⟨z, rfl, rfl⟩ | ⟨a, x0, xs, ks, rfl, e, pk, lk, lx, lys, ef⟩
  · exact ⟨_, rfl, _, _, _, _, false, rfl, .ty "tuple", .base (.int _), kit_ty rfl, _, rfl, iteT (q H (fun _ _ h => h))⟩
  · exact ⟨_, rfl, _, _, _, _, false, rfl, .ty "tuple", .base (.str z), kit_ty rfl, _, rfl, iteT (q H (fun _ _ h => h))⟩
  refine ⟨_, rfl, _, _, _, _, true, rfl, .ty "tuple", .base (.tup e), kit_ty rfl, _, rfl, iteF ?_⟩
  rw [ef] at q
  refine ⟨_, rfl, _, b, rfl, hb, _, rfl, ?_⟩
  by_cases c : readyB b = true
  · rw [if_pos c] at q
    rw [c]
    refine iteT ⟨(by show 0 ≤ sizeLine; exact Nat.zero_le _), fun t0 ht0 => q t0 _ (new_same ht0) ?_⟩
    unfold PlaceT
    rw [upd_same]
    rfl
  rw [if_neg c] at q
  rw [show readyB b = false by simpa using c]
  refine iteF ?_
  refine ⟨_, rfl, a, _, rfl, .inr (SqT.of e), _, _, rfl, rfl, _, rfl, ?_, ?_, ?_⟩
  · show (-2 ^ 62 : Int) ≤ ((xs.length + 1 : Nat) : Int) - 1
    omega
  · show ((xs.length + 1 : Nat) : Int) - 1 < (2 ^ 62 : Int)
    omega
  rw [show (((x0 :: xs).length : Int) - 1).toNat = xs.length by show (((xs.length + 1 : Nat) : Int) - 1).toNat = _; omega]
  refine for_range (fun k σ G => ∃ (v1 v2 : Option V), σ = [some (.ref a), v1, v2] ∧ Same H G ∧ ∀ j, j < k → (ks.map firstB)[j]? = some none) ?_ ?_ ?_
  · exact ⟨none, none, rfl, fun _ _ h => h, fun j hj => absurd hj (Nat.not_lt_zero _)⟩
  · rintro i σ G hi ⟨v1, v2, rfl, s2, hno⟩
    have hi2 : i < xs.length := hi
    obtain ⟨x, hx⟩ : ∃ x, xs[i]? = some x := get_lt hi2
    obtain ⟨k, hk, bk⟩ := TG.paired_get pk hx
    have l1 := lys k (List.mem_of_getElem? hk)
    have ek : (ks.map firstB)[i]? = some (firstB k) := by rw [List.getElem?_map, hk]; rfl
    have ed : firstK (ks.map firstB) 0 = firstK (firstB k :: (ks.map firstB).drop (i + 1)) i := by
      have hil : i < (ks.map firstB).length := lt_get ek
      rw [firstK_drop i hno (by omega) 0, List.drop_eq_getElem_cons hil, Nat.zero_add]
      rw [(List.getElem?_eq_some_iff.mp ek).2]
    refine ⟨_, rfl, _, rfl, _, _, rfl, rfl, a, _, _, x, rfl, rfl, SqT.of (s2 _ _ e), at_of (j := i + 1) (by omega) hx, x, k, rfl, bk.same s2, by omega, by omega, ?_⟩
    cases hf : firstB k with
    | none =>
      intro G2 s3
      refine ⟨_, rfl, rfl, _, rfl, iteF ⟨_, _, rfl, s2.trans s3, fun j hj => ?_⟩⟩
      by_cases z : j < i
      · exact hno j z
      · obtain rfl : j = i := by omega
        rw [ek, hf]
    | some ns =>
      intro r G2 s3 hp
      rw [ed, hf] at q
      have q : ∀ (r : Addr) (H' : Hp), Same H H' → PlaceT H' r (i :: ns) → Q (.ref r) H' := q
      have ln := firstB_len k ns hf
      refine ⟨_, rfl, rfl, _, rfl, iteT ?_⟩
      have s23 := s2.trans s3
      refine ⟨_, rfl, (by show 1 ≤ sizeLine; decide), fun tt htt => ?_⟩
      have x5 := new_same (o := .tup [.int (0 + (i : Int))]) htt
      have htt2 : PlaceT (L2.upd G2 tt (.tup [.int (0 + (i : Int))])) tt [i] := by
        unfold PlaceT
        rw [upd_same, Int.zero_add]
        rfl
      refine ⟨_, rfl, tt, r, _, _, rfl, rfl, SqT.of upd_same, SqT.of (x5 _ _ hp), ?_, fun e => absurd e (List.cons_ne_nil _ _), fun _ e => ?_, fun _ _ a' ha' => ?_⟩
      · rw [List.length_map]
        exact Nat.le_of_lt (small_le (show 1 + _ ≤ 1000000 by omega))
      · have e3 : ns = [] := List.map_eq_nil_iff.mp e
        subst e3
        exact q tt _ (s23.trans x5) htt2
      · refine q a' _ ((s23.trans x5).trans (new_same ha')) ?_
        unfold PlaceT
        rw [upd_same, Int.zero_add]
        rfl
  · rintro σ G ⟨v1, v2, rfl, s2, hno⟩
    have e0 : firstK (ks.map firstB) 0 = none := by
      rw [firstK_drop ks.length (fun j hj => hno j (by omega)) (by rw [List.length_map]; exact Nat.le_refl _) 0, List.drop_of_length_le (by rw [List.length_map]; exact Nat.le_refl _)]
      rfl
    rw [e0] at q
    exact q G s2
end
end TF18
set_option maxHeartbeats 400000
namespace TF18
open PySem PySem.Spec L2 TG TA
open PyProof.Rows hiding St
/-! ### signs and layers of a counted part -/
def sumK (ks : List Bt) : Nat := (ks.map Bt.sg).sum
def topK (ks : List Bt) : Nat := ks.foldl (fun m k => max m (k.ly + 1)) 1
theorem topK_snoc (ks : List Bt) (k : Bt) : topK (ks ++ [k]) = max (topK ks) (k.ly + 1) := by
  unfold topK
  rw [List.foldl_append]
  rfl
theorem ba_sizes {H : Hp} {v : V} {b : Bt} (h : BA H v b) : (∃ m : Nat, v = .int (m : Int) ∧ b = .bd m) ∨ (∃ z, v = .str z ∧ b = .fr z) ∨ ∃ (a : Addr) (x0 : V) (xs : List V) (ks : List Bt), v = .ref a ∧ H a = some (.tup (x0 :: xs)) ∧ Paired (BA H) xs ks ∧ ks.length = xs.length ∧ xs ≠ [] ∧ xs.length ≤ 2 ∧ (∀ k ∈ ks, k.ly + 1 ≤ b.ly) ∧ (∀ k ∈ ks, k.sg + 1 ≤ b.sg) ∧
    b.sg = 1 + sumK ks ∧ b.ly = topK ks := by
  cases h with
  | bd n => exact .inl ⟨n, rfl, rfl⟩
  | fr z => exact .inr (.inl ⟨z, rfl, rfl⟩)
  | @of a u c e hc =>
    refine .inr (.inr ⟨a, _, [u], [c], rfl, e, .cons hc .nil, rfl, List.cons_ne_nil _ _, (by show 1 ≤ 2; decide), fun k hk => ?_, fun k hk => ?_, ?_, ?_⟩)
    · rw [List.mem_singleton.mp hk]; exact Nat.le_refl _
    · rw [List.mem_singleton.mp hk]; exact Nat.le_refl _
    · show c.sg + 1 = 1 + (c.sg + 0); omega
    · show c.ly + 1 = max 1 (c.ly + 1); omega
  | @to a u v c g e hc hg =>
    refine .inr (.inr ⟨a, _, [u, v], [c, g], rfl, e, .cons hc (.cons hg .nil), rfl, List.cons_ne_nil _ _, (by show 2 ≤ 2; decide), fun k hk => ?_, fun k hk => ?_, ?_, ?_⟩)
    · show k.ly + 1 ≤ max c.ly g.ly + 1
      rcases List.mem_cons.mp hk with h | hk
      · rw [h]; omega
      · rw [List.mem_singleton.mp hk]; omega
    · show k.sg + 1 ≤ c.sg + g.sg + 1
      rcases List.mem_cons.mp hk with h | hk
      · rw [h]; omega
      · rw [List.mem_singleton.mp hk]; omega
    · show c.sg + g.sg + 1 = 1 + (c.sg + (g.sg + 0)); omega
    · show max c.ly g.ly + 1 = max (max 1 (c.ly + 1)) (g.ly + 1); omega
abbrev sSizes : Stmt := top 80
theorem scSizes : FnScope ["bare", "signs", "layers", "part", "more", "deeper"] ["bare"] (defScope sSizes) := ⟨rfl, rfl, rfl, by decide +kernel, rfl, by decide +kernel, by decide +kernel⟩
def spSizes (n : Nat) : Sp := fun vs H Q _ => ∃ (v : V) (b : Bt), vs = [v] ∧ BA H v b ∧ b.ly ≤ n ∧ ∀ (r : Addr) (H' : Hp), Same H H' → H' r = some (.tup [.int (b.sg : Int), .int (b.ly : Int)]) → Q (.ref r) H'
section
variable {P : Program} {w : World} {K : PySem.W.Frag} {mg : Str → Option Value} {base : Heap} {f f1 : Addr} {fd d1 : FuncData}
theorem ok_sizes (F : Fun K "_law_sizes" "_law_sizes" sSizes f fd) (T : Bn mg) (D__law_sizes : Df K mg "_law_sizes" sSizes f fd ["bare"]) : ∀ n : Nat, FnG P w K mg base CX0 (n + 1) f fd ["bare"] (spSizes n) := by
  intro n
  induction n with
  | zero =>
    refine fun_okG F scSizes (fun vs H Q E h => ?_) (fun cdv A outer s H vs Q E hr h => ?_)
    · obtain ⟨v, b, rfl, _⟩ := h
      rfl
    obtain ⟨v, b, rfl, _, h1, _⟩ := h
    cases b <;> exact absurd h1 (Nat.not_succ_le_zero _)
  | succ n G__law_sizes =>
  refine fun_okG F scSizes (fun vs H Q E h => ?_) (fun cdv A outer s H vs Q E hr h => ?_)
  · obtain ⟨v, b, rfl, _⟩ := h
    rfl
  obtain ⟨v, b, rfl, hb, hl, q⟩ := h
  refine ⟨_, (pss_cons (ps_if (pt_not (pt_val (pe_callB call_isi (by rfl) T.b_isinstance (by decide +kernel) (pa_cons (pv 0) (pa_cons (pe_bltn (v := .ty "tuple") (u := .type "tuple") (by rfl) T.b_tuple (by decide +kernel) rfl) pa_nil))))) (pss_one (ps_ret (pe_tup (pa_cons pe_int (pa_cons pe_int pa_nil))))) pss_nil)
      (pss_cons (ps_asg (pe_tup (pa_cons pe_int (pa_cons pe_int pa_nil))) (pg_tup (by rfl) (pgs_cons (pg_name (i := 1) scSizes.nd rfl (.inl rfl)) (pgs_cons (pg_name (i := 2) scSizes.nd rfl (.inl rfl)) pgs_nil))))
      (pss_cons (ps_for PassesOwn.never rfl (pi_tup (pe_slice sl_tupA (pv 0) (po_some pe_int) po_none)) (pg_name (i := 3) scSizes.nd rfl (.inl rfl))
        (pss_cons (ps_asg (pe_cg D__law_sizes G__law_sizes hr (by omega) (pa_cons (pv 3) pa_nil)) (pg_tup (by rfl) (pgs_cons (pg_name (i := 4) scSizes.nd rfl (.inl rfl)) (pgs_cons (pg_name (i := 5) scSizes.nd rfl (.inl rfl)) pgs_nil))))
        (pss_one (ps_par (i := 1) (j := 2) (by rfl) scSizes.nd rfl rfl (by decide) rfl rfl (pa_cons (pe_op op_add (pv 1) (pv 4)) (pa_cons (pe_callB (call_max2 rfl) (by rfl) T.b_max (by decide +kernel) (pa_cons (pv 2) (pa_cons (pe_op op_add (pv 5) pe_int) pa_nil))) pa_nil)) (by rfl)))))
      (pss_one (ps_ret (pe_tup (pa_cons (pv 1) (pa_cons (pv 2) pa_nil)))))))), ?_⟩
  rcases ba_sizes hb with ⟨m, rfl, rfl⟩ | ⟨z, rfl, rfl⟩ | ⟨a, x0, xs, ks, rfl, e, pk, lk, ne, lx, lys, sgs, esg, ely⟩
  · exact ⟨_, rfl, _, _, _, _, false, rfl, .ty "tuple", .base (.int _), kit_ty rfl, _, rfl, iteT ⟨(by show 2 ≤ sizeLine; decide), fun r hr0 => q r _ (new_same hr0) upd_same⟩⟩
  · exact ⟨_, rfl, _, _, _, _, false, rfl, .ty "tuple", .base (.str z), kit_ty rfl, _, rfl, iteT ⟨(by show 2 ≤ sizeLine; decide), fun r hr0 => q r _ (new_same hr0) upd_same⟩⟩
  refine ⟨_, rfl, _, _, _, _, true, rfl, .ty "tuple", .base (.tup e), kit_ty rfl, _, rfl, iteF ?_⟩
  refine ⟨(by show 2 ≤ sizeLine; decide), fun t0 ht0 => ⟨t0, _, rfl, SqT.of upd_same, rfl, _, _, rfl, _, _, rfl, rfl, ?_⟩⟩
  have s0 := new_same (o := .tup [.int 1, .int 1]) ht0
  generalize L2.upd H t0 (.tup [.int 1, .int 1]) = H0 at s0 ⊢
  have ecut : cutV (x0 :: xs) (some (1 : Int)) none = xs := by
    have := cut_from (x0 :: xs) 1 (by show 1 ≤ xs.length + 1; omega)
    exact this
  have notAll : ¬ (HT.sIx (x0 :: xs).length 0 (some 1) = 0 ∧ HT.sIx (x0 :: xs).length (x0 :: xs).length none = (x0 :: xs).length) := fun z => by
    have z1 := z.1
    rw [show HT.sIx (x0 :: xs).length 0 (some 1) = min 1 (x0 :: xs).length from HT.sIx_nat _ _ 1, List.length_cons] at z1
    omega
  refine ⟨_, rfl, _, rfl, a, _, rfl, SqT.of (s0 _ _ e), fun z => (notAll z).elim, fun _ p hp => ?_⟩
  rw [ecut]
  have s1 := s0.trans (new_same (o := .tup xs) hp)
  have hp1 : (L2.upd H0 p (.tup xs)) p = some (.tup xs) := upd_same
  generalize L2.upd H0 p (.tup xs) = H1 at s1 hp1 ⊢
  refine ⟨p, rfl, ⟨_, SqT.of hp1⟩, ?_⟩
  refine for_it (walk_tup (xs := xs)) (fun k σ G => ∃ (v3 v4 v5 : Option V), σ = [some (.ref a), some (.int ((1 + sumK (ks.take k) : Nat) : Int)), some (.int ((topK (ks.take k) : Nat) : Int)), v3, v4, v5] ∧ Same H G ∧ G p = some (.tup xs)) ?_ ?_ ?_ ?_
  · exact ⟨none, none, none, rfl, s1, hp1⟩
  · rintro k σ G _ ⟨_, _, _, _, _, hpg⟩
    exact SqT.of hpg
  · rintro i x σ G G' hi ⟨v3, v4, v5, rfl, s2, hpg⟩ ⟨rfl, hx⟩
    obtain ⟨k, hk, bk⟩ := TG.paired_get pk hx
    have l1 := lys k (List.mem_of_getElem? hk)
    refine ⟨_, rfl, x, k, rfl, bk.same s2, by omega, fun r G2 s3 hr2 => ⟨r, _, rfl, SqT.of hr2, rfl, _, _, rfl, _, _, rfl, rfl, ?_⟩⟩
    refine ⟨_, rfl, _, rfl, _, _, rfl, rfl, _, rfl, _, rfl, _, _, rfl, rfl, _, _, rfl, ?_⟩
    have et : ks.take (i + 1) = ks.take i ++ [k] := by rw [List.take_succ, hk]; rfl
    have es : sumK (ks.take (i + 1)) = sumK (ks.take i) + k.sg := by
      rw [et]
      unfold sumK
      rw [List.map_append, List.sum_append]
      show _ + (k.sg + 0) = _
      rfl
    have em : (if (k.ly : Int) + 1 > ((topK (ks.take i) : Nat) : Int) then (k.ly : Int) + 1 else ((topK (ks.take i) : Nat) : Int)) = ((topK (ks.take (i + 1)) : Nat) : Int) := by
      rw [et, topK_snoc]
      by_cases c : topK (ks.take i) < k.ly + 1
      · rw [if_pos (by omega), Nat.max_eq_right (by omega)]
        rfl
      · rw [if_neg (by omega), Nat.max_eq_left (by omega)]
    refine ⟨_, _, rfl, some x, some (.int (k.sg : Int)), some (.int (k.ly : Int)), ?_, s2.trans s3, s3 _ _ hpg⟩
    show [some (V.ref a), some (V.int (((1 + sumK (ks.take i) : Nat) : Int) + (k.sg : Int))), some (V.int (if (k.ly : Int) + 1 > ((topK (ks.take i) : Nat) : Int) then (k.ly : Int) + 1 else ((topK (ks.take i) : Nat) : Int))), some x, some (V.int (k.sg : Int)), some (V.int (k.ly : Int))] = _
    rw [em, es, show ((1 + sumK (ks.take i) : Nat) : Int) + (k.sg : Int) = ((1 + (sumK (ks.take i) + k.sg) : Nat) : Int) by omega]
  · rintro σ G ⟨v3, v4, v5, rfl, s2, hpg⟩
    rw [← lk, List.take_length]
    refine ⟨_, rfl, _, rfl, (by show 2 ≤ sizeLine; decide), fun r hr0 => q r _ (s2.trans (new_same hr0)) ?_⟩
    rw [upd_same, esg, ely]
end
end TF18
set_option maxHeartbeats 400000
/-! all ways come to one: rows of codes under substitutions; steps at once -/
namespace TG
open PySem PySem.Spec L2
open PyProof.Rows hiding St
namespace Bt
def upr (f : Nat → Nat) : Nat → Nat
  | 0 => 0
  | n + 1 => f n + 1
def ren (f : Nat → Nat) : Bt → Bt
  | bd n => bd (f n)
  | fr z => fr z
  | of b => of (ren (upr f) b)
  | to a b => to (ren f a) (ren f b)
def ups (σ : Nat → Bt) : Nat → Bt
  | 0 => bd 0
  | n + 1 => ren Nat.succ (σ n)
def sbs (σ : Nat → Bt) : Bt → Bt
  | bd n => σ n
  | fr z => fr z
  | of b => of (sbs (ups σ) b)
  | to a b => to (sbs σ a) (sbs σ b)
def con (c : Bt) : Nat → Bt
  | 0 => c
  | n + 1 => bd n
theorem upr_comp (f g : Nat → Nat) : (fun n => upr f (upr g n)) = upr fun n => f (g n) := funext fun n => by cases n <;> rfl
theorem ren_ren : ∀ (t : Bt) (f g : Nat → Nat), ren f (ren g t) = ren (fun n => f (g n)) t
  | bd _, _, _ => rfl
  | fr _, _, _ => rfl
  | of b, f, g => by
    show of (ren (upr f) (ren (upr g) b)) = of (ren (upr fun n => f (g n)) b)
    rw [ren_ren b, upr_comp]
  | to a b, f, g => by
    show to (ren f (ren g a)) (ren f (ren g b)) = _
    rw [ren_ren a, ren_ren b]; rfl
theorem ren_id : ∀ (t : Bt), ren (fun n => n) t = t
  | bd _ => rfl
  | fr _ => rfl
  | of b => by
    have e : upr (fun n => n) = fun n => n := funext fun n => by cases n <;> rfl
    show of (ren (upr fun n => n) b) = _
    rw [e, ren_id b]
  | to a b => by
    show to (ren _ a) (ren _ b) = _
    rw [ren_id a, ren_id b]
theorem sbs_ren : ∀ (t : Bt) (σ : Nat → Bt) (f : Nat → Nat), sbs σ (ren f t) = sbs (fun n => σ (f n)) t
  | bd _, _, _ => rfl
  | fr _, _, _ => rfl
  | of b, σ, f => by
    have e : (fun n => ups σ (upr f n)) = ups fun n => σ (f n) := funext fun n => by cases n <;> rfl
    show of (sbs (ups σ) (ren (upr f) b)) = of (sbs (ups fun n => σ (f n)) b)
    rw [sbs_ren b, e]
  | to a b, σ, f => by
    show to (sbs σ (ren f a)) (sbs σ (ren f b)) = _
    rw [sbs_ren a, sbs_ren b]; rfl
theorem ren_sbs : ∀ (t : Bt) (f : Nat → Nat) (σ : Nat → Bt), ren f (sbs σ t) = sbs (fun n => ren f (σ n)) t
  | bd _, _, _ => rfl
  | fr _, _, _ => rfl
  | of b, f, σ => by
    have e : (fun n => ren (upr f) (ups σ n)) = ups fun n => ren f (σ n) := funext fun n => by
      cases n with
      | zero => rfl
      | succ n =>
        show ren (upr f) (ren Nat.succ (σ n)) = ren Nat.succ (ren f (σ n))
        rw [ren_ren, ren_ren]
        rfl
    show of (ren (upr f) (sbs (ups σ) b)) = of (sbs (ups fun n => ren f (σ n)) b)
    rw [ren_sbs b, e]
  | to a b, f, σ => by
    show to (ren f (sbs σ a)) (ren f (sbs σ b)) = _
    rw [ren_sbs a, ren_sbs b]; rfl
theorem sbs_sbs : ∀ (t : Bt) (σ τ : Nat → Bt), sbs σ (sbs τ t) = sbs (fun n => sbs σ (τ n)) t
  | bd _, _, _ => rfl
  | fr _, _, _ => rfl
  | of b, σ, τ => by
    have e : (fun n => sbs (ups σ) (ups τ n)) = ups fun n => sbs σ (τ n) := funext fun n => by
      cases n with
      | zero => rfl
      | succ n =>
        show sbs (ups σ) (ren Nat.succ (τ n)) = ren Nat.succ (sbs σ (τ n))
        rw [sbs_ren, ren_sbs]
        rfl
    show of (sbs (ups σ) (sbs (ups τ) b)) = of (sbs (ups fun n => sbs σ (τ n)) b)
    rw [sbs_sbs b, e]
  | to a b, σ, τ => by
    show to (sbs σ (sbs τ a)) (sbs σ (sbs τ b)) = _
    rw [sbs_sbs a, sbs_sbs b]; rfl
theorem sbs_id : ∀ (t : Bt), sbs bd t = t
  | bd _ => rfl
  | fr _ => rfl
  | of b => by
    have e : ups bd = bd := funext fun n => by cases n <;> rfl
    show of (sbs (ups bd) b) = _
    rw [e, sbs_id b]
  | to a b => by
    show to (sbs bd a) (sbs bd b) = _
    rw [sbs_id a, sbs_id b]
theorem ren_con (f : Nat → Nat) (c x : Bt) : ren f (sbs (con c) x) = sbs (con (ren f c)) (ren (upr f) x) := by
  rw [ren_sbs, sbs_ren]
  congr 1
  funext n
  cases n <;> rfl
theorem sbs_con (σ : Nat → Bt) (c x : Bt) : sbs σ (sbs (con c) x) = sbs (con (sbs σ c)) (sbs (ups σ) x) := by
  rw [sbs_sbs, sbs_sbs]
  congr 1
  funext n
  cases n with
  | zero => rfl
  | succ n =>
    show sbs σ (bd n) = sbs (con (sbs σ c)) (ren Nat.succ (σ n))
    rw [sbs_ren]
    exact (sbs_id (σ n)).symm
/-! the program's own words -/
def lf (by_ j : Nat) (n : Nat) : Nat := if j ≤ n then n + by_ else n
theorem upr_lf (by_ j : Nat) : upr (lf by_ j) = lf by_ (j + 1) := funext fun n => by
  cases n with
  | zero => rfl
  | succ n =>
    show (if j ≤ n then n + by_ else n) + 1 = if j + 1 ≤ n + 1 then n + 1 + by_ else n + 1
    by_cases c : j ≤ n
    · rw [if_pos c, if_pos (Nat.succ_le_succ c)]; omega
    · rw [if_neg c, if_neg (by omega)]
theorem lift_ren (by_ : Nat) : ∀ (t : Bt) (j : Nat), lift by_ j t = ren (lf by_ j) t
  | bd _, _ => rfl
  | fr _, _ => rfl
  | of b, j => by
    show of (lift by_ (j + 1) b) = of (ren (upr (lf by_ j)) b)
    rw [lift_ren by_ b, upr_lf]
  | to a b, j => by
    show to (lift by_ j a) (lift by_ j b) = _
    rw [lift_ren by_ a, lift_ren by_ b]; rfl
def hs (t : Bt) (k : Nat) (n : Nat) : Bt := if n = k then lift k 0 t else bd (if k < n then n - 1 else n)
theorem ups_hs (t : Bt) (k : Nat) : ups (hs t k) = hs t (k + 1) := funext fun n => by
  cases n with
  | zero =>
    show bd 0 = if 0 = k + 1 then _ else bd (if k + 1 < 0 then 0 - 1 else 0)
    rw [if_neg (by omega), if_neg (by omega)]
  | succ n =>
    show ren Nat.succ (if n = k then lift k 0 t else bd (if k < n then n - 1 else n)) = if n + 1 = k + 1 then lift (k + 1) 0 t else bd (if k + 1 < n + 1 then n + 1 - 1 else n + 1)
    by_cases c : n = k
    · rw [if_pos c, if_pos (by omega), lift_ren, lift_ren, ren_ren]
      congr 1
    · have c3 : ¬ n + 1 = k + 1 := by omega
      rw [if_neg c, if_neg c3]
      show bd ((if k < n then n - 1 else n) + 1) = _
      congr 1
      by_cases c2 : k < n
      · rw [if_pos c2, if_pos (by omega)]; omega
      · rw [if_neg c2, if_neg (by omega)]
theorem hand_sbs (t : Bt) : ∀ (b : Bt) (k : Nat), hand t k b = sbs (hs t k) b
  | bd _, _ => rfl
  | fr _, _ => rfl
  | of b, k => by
    show of (hand t (k + 1) b) = of (sbs (ups (hs t k)) b)
    rw [hand_sbs t b, ups_hs]
  | to a b, k => by
    show to (hand t k a) (hand t k b) = _
    rw [hand_sbs t a, hand_sbs t b]; rfl
theorem hand_con (t b : Bt) : hand t 0 b = sbs (con t) b := by
  rw [hand_sbs]
  congr 1
  funext n
  cases n with
  | zero =>
    show (if 0 = 0 then lift 0 0 t else _) = t
    rw [if_pos rfl, lift_ren]
    have e : lf 0 0 = fun n => n := funext fun n => if_pos (Nat.zero_le n)
    rw [e, ren_id]
  | succ n =>
    show (if n + 1 = 0 then _ else bd (if 0 < n + 1 then n + 1 - 1 else n + 1)) = bd n
    rw [if_neg (by omega), if_pos (by omega)]
    rfl
/-! steps, one by one and at once -/
inductive Stp : Bt → Bt → Prop
  | top (x c : Bt) : Stp (to (of x) c) (hand c 0 x)
  | of {b b' : Bt} : Stp b b' → Stp (of b) (of b')
  | toL {a a' b : Bt} : Stp a a' → Stp (to a b) (to a' b)
  | toR {a b b' : Bt} : Stp b b' → Stp (to a b) (to a b')
inductive Par : Bt → Bt → Prop
  | bd (n : Nat) : Par (bd n) (bd n)
  | fr (z : Str) : Par (fr z) (fr z)
  | of {b b' : Bt} : Par b b' → Par (of b) (of b')
  | to {a a' b b' : Bt} : Par a a' → Par b b' → Par (to a b) (to a' b')
  | top {x x' c c' : Bt} : Par x x' → Par c c' → Par (to (of x) c) (sbs (con c') x')
theorem Par.refl : ∀ b : Bt, Par b b
  | Bt.bd n => .bd n
  | Bt.fr z => .fr z
  | Bt.of b => .of (Par.refl b)
  | Bt.to a b => .to (Par.refl a) (Par.refl b)
theorem Stp.par {a b : Bt} (h : Stp a b) : Par a b := by
  induction h with
  | top x c => rw [hand_con]; exact .top (Par.refl x) (Par.refl c)
  | of _ ih => exact .of ih
  | toL _ ih => exact .to ih (Par.refl _)
  | toR _ ih => exact .to (Par.refl _) ih
theorem Par.ren {a b : Bt} (h : Par a b) : ∀ f : Nat → Nat, Par (Bt.ren f a) (Bt.ren f b) := by
  induction h with
  | bd n => exact fun f => .bd _
  | fr z => exact fun f => .fr z
  | of _ ih => exact fun f => .of (ih _)
  | to _ _ i1 i2 => exact fun f => .to (i1 f) (i2 f)
  | top _ _ i1 i2 => exact fun f => by rw [ren_con]; exact .top (i1 _) (i2 f)
theorem par_ups {σ τ : Nat → Bt} (h : ∀ n, Par (σ n) (τ n)) : ∀ n, Par (ups σ n) (ups τ n)
  | 0 => .bd 0
  | n + 1 => (h n).ren _
theorem Par.sbs {a b : Bt} (h : Par a b) : ∀ {σ τ : Nat → Bt}, (∀ n, Par (σ n) (τ n)) → Par (Bt.sbs σ a) (Bt.sbs τ b) := by
  induction h with
  | bd n => exact fun k => k n
  | fr z => exact fun _ => .fr z
  | of _ ih => exact fun k => .of (ih (par_ups k))
  | to _ _ i1 i2 => exact fun k => .to (i1 k) (i2 k)
  | top _ _ i1 i2 => exact fun k => by rw [sbs_con]; exact .top (i1 (par_ups k)) (i2 k)
theorem par_con {c c' : Bt} (h : Par c c') : ∀ n, Par (con c n) (con c' n)
  | 0 => h
  | n + 1 => .bd n
/-- all steps that stand there at once -/
def dev : Bt → Bt
  | bd n => bd n
  | fr z => fr z
  | of b => of (dev b)
  | to (of x) c => sbs (con (dev c)) (dev x)
  | to a b => to (dev a) (dev b)
theorem Par.dev {a b : Bt} (h : Par a b) : Par b (Bt.dev a) := by
  induction h with
  | bd n => exact .bd n
  | fr z => exact .fr z
  | of _ ih => exact .of ih
  | @to a a' c c' h1 h2 i1 i2 =>
    cases a with
    | of x =>
      cases h1 with
      | of h3 =>
        cases i1 with
        | of i3 => exact .top i3 i2
    | bd n => exact .to i1 i2
    | fr z => exact .to i1 i2
    | to u v => exact .to i1 i2
  | top _ _ i1 i2 => exact i1.sbs (par_con i2)
inductive Star (R : Bt → Bt → Prop) : Bt → Bt → Prop
  | refl (a : Bt) : Star R a a
  | step {a b c : Bt} : R a b → Star R b c → Star R a c
theorem Star.trans {R : Bt → Bt → Prop} {a b c : Bt} (h : Star R a b) (k : Star R b c) : Star R a c := by
  induction h with
  | refl _ => exact k
  | step r _ ih => exact .step r (ih k)
theorem Star.one {R : Bt → Bt → Prop} {a b : Bt} (h : R a b) : Star R a b := .step h (.refl _)
theorem Star.map {R S : Bt → Bt → Prop} {f : Bt → Bt} (k : ∀ {a b}, R a b → S (f a) (f b)) {a b : Bt} (h : Star R a b) : Star S (f a) (f b) := by
  induction h with
  | refl _ => exact .refl _
  | step r _ ih => exact .step (k r) ih
theorem strip {a b c : Bt} (h : Par a b) (k : Star Par a c) : ∃ d, Star Par b d ∧ Par c d := by
  induction k generalizing b with
  | refl a => exact ⟨b, .refl _, h⟩
  | @step a u c r _ ih =>
    obtain ⟨d, h1, h2⟩ := ih r.dev
    exact ⟨d, .step h.dev h1, h2⟩
theorem meet {a b c : Bt} (h : Star Par a b) (k : Star Par a c) : ∃ d, Star Par b d ∧ Star Par c d := by
  induction h generalizing c with
  | refl a => exact ⟨c, k, .refl _⟩
  | @step a u b r _ ih =>
    obtain ⟨d, h1, h2⟩ := strip r k
    obtain ⟨e, h3, h4⟩ := ih h1
    exact ⟨e, h3, .step h2 h4⟩
/-- nothing is left to be done -/
def noR : Bt → Bool
  | bd _ => true
  | fr _ => true
  | of b => noR b
  | to (of _) _ => false
  | to a b => noR a && noR b
theorem noR_par {a b : Bt} (h : Par a b) : noR a = true → b = a := by
  induction h with
  | bd n => exact fun _ => rfl
  | fr z => exact fun _ => rfl
  | of _ ih => exact fun n => by rw [ih n]
  | @to a a' c c' h1 h2 i1 i2 =>
    intro n
    cases a with
    | of x => exact absurd n Bool.false_ne_true
    | bd m =>
      have n : (noR (bd m) && noR c) = true := n
      rw [Bool.and_eq_true] at n
      rw [i1 n.1, i2 n.2]
    | fr z =>
      have n : (noR (fr z) && noR c) = true := n
      rw [Bool.and_eq_true] at n
      rw [i1 n.1, i2 n.2]
    | to u v =>
      have n : (noR (to u v) && noR c) = true := n
      rw [Bool.and_eq_true] at n
      rw [i1 n.1, i2 n.2]
  | top _ _ _ _ => exact fun n => absurd n Bool.false_ne_true
theorem noR_star {a b : Bt} (h : Star Par a b) : noR a = true → b = a := by
  induction h with
  | refl _ => exact fun _ => rfl
  | step r _ ih =>
    intro n
    have e := noR_par r n
    subst e
    exact ih n
/-- a row comes to one end at most -/
theorem one_end {a b c : Bt} (h : Star Stp a b) (k : Star Stp a c) (hb : noR b = true) (hc : noR c = true) : b = c := by
  obtain ⟨d, h1, h2⟩ := meet (Star.map (f := fun x => x) (fun r => Stp.par r) h) (Star.map (f := fun x => x) (fun r => Stp.par r) k)
  rw [← noR_star h1 hb, ← noR_star h2 hc]
/-- where a step stands in it, by the sign's index -/
theorem stp_at {x c : Bt} : ∀ {b : Bt} {i : Nat}, b.subs[i]? = some (to (of x) c) → Stp b (stepAt b i)
  | b, 0, h => by
    rw [subs_zero] at h
    cases h
    exact .top x c
  | bd _, i + 1, h => nomatch h
  | fr _, i + 1, h => nomatch h
  | of b, i + 1, h => .of (stp_at (b := b) (i := i) h)
  | to a b, i + 1, h => by
    have h : (a.subs ++ b.subs)[i]? = some (to (of x) c) := h
    have e0 : stepAt (to a b) (i + 1) = if i < a.sg then to (stepAt a i) b else to a (stepAt b (i - a.sg)) := by
      cases a <;> rfl
    rw [e0]
    by_cases c' : i < a.sg
    · rw [List.getElem?_append_left (by rw [subs_len]; exact c')] at h
      rw [if_pos c']
      exact .toL (stp_at h)
    · rw [List.getElem?_append_right (by rw [subs_len]; omega), subs_len] at h
      rw [if_neg c']
      exact .toR (stp_at h)
end Bt
end TG
set_option maxHeartbeats 400000
namespace TF18
open PySem PySem.Spec L2 TG TA
open PyProof.Rows hiding St
/-! ### the first place and its index -/
open TG.Bt (stepAt isStep fstI subs)
theorem ready_step : ∀ b : Bt, readyB b = isStep b
  | .bd _ => rfl
  | .fr _ => rfl
  | .of _ => rfl
  | .to (.of _) _ => rfl
  | .to (.bd _) _ => rfl
  | .to (.fr _) _ => rfl
  | .to (.to _ _) _ => rfl
def firstI : Bt → Option Nat
  | .bd _ => none
  | .fr _ => none
  | .of b => (firstI b).map (· + 1)
  | .to a b => if readyB (.to a b) = true then some 0 else match firstI a with
    | some i => some (i + 1)
    | none => (firstI b).map (· + (a.sg + 1))
theorem firstI_none : ∀ {b : Bt}, firstI b = none → ∀ (j : Nat) (s : Bt), (subs b)[j]? = some s → isStep s = false
  | .bd n, _, 0, s, h => by cases h; rfl
  | .bd n, _, j + 1, s, h => nomatch h
  | .fr z, _, 0, s, h => by cases h; rfl
  | .fr z, _, j + 1, s, h => nomatch h
  | .of b, _, 0, s, h => by cases h; rfl
  | .of b, e, j + 1, s, h => firstI_none (b := b) (Option.map_eq_none_iff.mp e) j s h
  | .to a b, e, j, s, h => by
    have e : (if readyB (.to a b) = true then some 0 else match firstI a with | some i => some (i + 1) | none => (firstI b).map (· + (a.sg + 1))) = none := e
    by_cases c : readyB (.to a b) = true
    · rw [if_pos c] at e; cases e
    · rw [if_neg c] at e
      cases ea : firstI a with
      | some i => rw [ea] at e; cases e
      | none =>
        rw [ea] at e
        have eb : firstI b = none := Option.map_eq_none_iff.mp e
        cases j with
        | zero =>
          cases h
          rw [← ready_step]
          simpa using c
        | succ j =>
          have h : (a.subs ++ b.subs)[j]? = some s := h
          by_cases z : j < a.sg
          · rw [List.getElem?_append_left (by rw [Bt.subs_len]; exact z)] at h
            exact firstI_none ea j s h
          · rw [List.getElem?_append_right (by rw [Bt.subs_len]; omega)] at h
            exact firstI_none eb _ s h
theorem firstI_some : ∀ {b : Bt} {i : Nat}, firstI b = some i → (∃ s, (subs b)[i]? = some s ∧ isStep s = true) ∧ ∀ (j : Nat) (s : Bt), j < i → (subs b)[j]? = some s → isStep s = false
  | .bd n, _, e => nomatch e
  | .fr z, _, e => nomatch e
  | .of b, i, e => by
    obtain ⟨k, hk, rfl⟩ := Option.map_eq_some_iff.mp (show (firstI b).map (· + 1) = some i from e)
    obtain ⟨⟨s, h1, h2⟩, h3⟩ := firstI_some hk
    refine ⟨⟨s, h1, h2⟩, fun j u hj hu => ?_⟩
    cases j with
    | zero => cases hu; rfl
    | succ j => exact h3 j u (Nat.lt_of_succ_lt_succ hj) hu
  | .to a b, i, e => by
    have e : (if readyB (.to a b) = true then some 0 else match firstI a with | some i => some (i + 1) | none => (firstI b).map (· + (a.sg + 1))) = some i := e
    by_cases c : readyB (.to a b) = true
    · rw [if_pos c] at e
      cases e
      exact ⟨⟨_, Bt.subs_zero _, by rw [← ready_step]; exact c⟩, fun j s hj => absurd hj (Nat.not_lt_zero _)⟩
    · rw [if_neg c] at e
      have c0 : isStep (.to a b) = false := by rw [← ready_step]; simpa using c
      cases ea : firstI a with
      | some k =>
        rw [ea] at e
        cases e
        obtain ⟨⟨s, h1, h2⟩, h3⟩ := firstI_some ea
        have hk := Bt.subs_lt h1
        refine ⟨⟨s, ?_, h2⟩, fun j u hj hu => ?_⟩
        · show (a.subs ++ b.subs)[k]? = some s
          rw [List.getElem?_append_left (by rw [Bt.subs_len]; exact hk)]
          exact h1
        · cases j with
          | zero => cases hu; exact c0
          | succ j =>
            have hu : (a.subs ++ b.subs)[j]? = some u := hu
            rw [List.getElem?_append_left (by rw [Bt.subs_len]; omega)] at hu
            exact h3 j u (Nat.lt_of_succ_lt_succ hj) hu
      | none =>
        rw [ea] at e
        obtain ⟨k, hk, rfl⟩ := Option.map_eq_some_iff.mp e
        obtain ⟨⟨s, h1, h2⟩, h3⟩ := firstI_some hk
        refine ⟨⟨s, ?_, h2⟩, fun j u hj hu => ?_⟩
        · show (a.subs ++ b.subs)[k + a.sg]? = some s
          rw [List.getElem?_append_right (by rw [Bt.subs_len]; omega), Bt.subs_len, Nat.add_sub_cancel]
          exact h1
        · cases j with
          | zero => cases hu; exact c0
          | succ j =>
            have hu : (a.subs ++ b.subs)[j]? = some u := hu
            by_cases z : j < a.sg
            · rw [List.getElem?_append_left (by rw [Bt.subs_len]; exact z)] at hu
              exact firstI_none ea j u hu
            · rw [List.getElem?_append_right (by rw [Bt.subs_len]; omega), Bt.subs_len] at hu
              have hj : j + 1 < k + (a.sg + 1) := hj
              exact h3 _ u (by omega) hu
theorem firstI_eq {b : Bt} (hb : b.all okN = true) : firstI b = fstI b := by
  cases e : firstI b with
  | none =>
    refine (TG.fst_no fun j hj => ?_).symm
    obtain ⟨s, hs⟩ := Bt.sub_get b (i := j) (by omega)
    rw [Bt.toOf_step hb hs]
    exact firstI_none e j s hs
  | some i =>
    obtain ⟨⟨s, h1, h2⟩, h3⟩ := firstI_some e
    have l := (Bt.cd_part h1).2
    have l2 : 2 ≤ s.sg := by
      cases s with
      | to a c =>
        have h4 := a.sg_pos
        show 2 ≤ a.sg + c.sg + 1
        have h5 := c.sg_pos
        omega
      | _ => exact absurd h2 Bool.false_ne_true
    refine (TG.fst_is (m := i) (by omega) (by rw [Bt.toOf_step hb h1]; exact h2) fun j hj => ?_).symm
    obtain ⟨u, hu⟩ := Bt.sub_get b (i := j) (by omega)
    rw [Bt.toOf_step hb hu]
    exact h3 j u hj hu
/-- the step at the first place, told both ways -/
theorem first_both : ∀ b : Bt, match firstB b with
    | none => firstI b = none
    | some ns => okP ns b ∧ ∃ i, firstI b = some i ∧ stepB ns b = stepAt b i
  | .bd _ => rfl
  | .fr _ => rfl
  | .of b => by
    have ih := first_both b
    show match firstK [firstB b] 0 with | none => _ | some ns => _
    cases e : firstB b with
    | none =>
      rw [e] at ih
      show (firstI b).map (· + 1) = none
      rw [ih]; rfl
    | some p =>
      rw [e] at ih
      obtain ⟨h1, i, h2, h3⟩ := ih
      refine ⟨h1, i + 1, ?_, ?_⟩
      · show (firstI b).map (· + 1) = _
        rw [h2]; rfl
      · show Bt.of (stepB p b) = Bt.of (stepAt b i)
        rw [h3]
  | .to a b => by
    have ia := first_both a
    have ib := first_both b
    show match (if readyB (.to a b) = true then some [] else firstK [firstB a, firstB b] 0) with | none => _ | some ns => _
    have e0 : firstI (.to a b) = if readyB (.to a b) = true then some 0 else match firstI a with | some i => some (i + 1) | none => (firstI b).map (· + (a.sg + 1)) := rfl
    by_cases c : readyB (.to a b) = true
    · rw [if_pos c]
      rw [if_pos c] at e0
      cases a with
      | of x => exact ⟨True.intro, 0, e0, rfl⟩
      | _ => exact absurd c Bool.false_ne_true
    · rw [if_neg c]
      rw [if_neg c] at e0
      have st : ∀ i, stepAt (.to a b) (i + 1) = if i < a.sg then .to (stepAt a i) b else .to a (stepAt b (i - a.sg)) := fun i => by cases a <;> rfl
      cases ea : firstB a with
      | some p =>
        rw [ea] at ia
        obtain ⟨h1, i, h2, h3⟩ := ia
        have hi : i < a.sg := by
          obtain ⟨⟨s, hs, _⟩, _⟩ := firstI_some h2
          exact Bt.subs_lt hs
        refine ⟨h1, i + 1, by rw [e0, h2], ?_⟩
        rw [st, if_pos hi, ← h3]
        rfl
      | none =>
        rw [ea] at ia
        rw [show firstI a = none from ia] at e0
        cases eb : firstB b with
        | none =>
          rw [eb] at ib
          show firstI (.to a b) = none
          rw [e0, show firstI b = none from ib]
          rfl
        | some p =>
          rw [eb] at ib
          obtain ⟨h1, i, h2, h3⟩ := ib
          refine ⟨h1, i + (a.sg + 1), by rw [e0, h2]; rfl, ?_⟩
          rw [show i + (a.sg + 1) = (i + a.sg) + 1 from rfl, st, if_neg (by omega), Nat.add_sub_cancel, ← h3]
          rfl
theorem lift_ly (by_ : Nat) : ∀ (t : Bt) (k : Nat), (Bt.lift by_ k t).ly = t.ly
  | .bd _, _ => rfl
  | .fr _, _ => rfl
  | .of b, k => congrArg (· + 1) (lift_ly by_ b (k + 1))
  | .to a b, k => by
    show max (Bt.lift by_ k a).ly (Bt.lift by_ k b).ly + 1 = max a.ly b.ly + 1
    rw [lift_ly by_ a, lift_ly by_ b]
theorem hand_ly (t : Bt) : ∀ (b : Bt) (k : Nat), (Bt.hand t k b).ly ≤ b.ly + t.ly
  | .bd n, k => by
    show (if n = k then Bt.lift k 0 t else .bd _).ly ≤ 1 + t.ly
    by_cases c : n = k
    · rw [if_pos c, lift_ly]; omega
    · rw [if_neg c]; exact Nat.le_add_right _ _
  | .fr _, _ => Nat.le_add_right _ _
  | .of b, k => by
    have := hand_ly t b (k + 1)
    show (Bt.hand t (k + 1) b).ly + 1 ≤ b.ly + 1 + t.ly
    omega
  | .to a b, k => by
    have h1 := hand_ly t a k
    have h2 := hand_ly t b k
    show max (Bt.hand t k a).ly (Bt.hand t k b).ly + 1 ≤ max a.ly b.ly + 1 + t.ly
    omega
theorem step_ly : ∀ (b : Bt) (i : Nat), (stepAt b i).ly ≤ 2 * b.ly
  | .bd _, i => by cases i <;> (show 1 ≤ 2 * 1; omega)
  | .fr _, i => by cases i <;> (show 1 ≤ 2 * 1; omega)
  | .of b, 0 => by show b.ly + 1 ≤ 2 * (b.ly + 1); omega
  | .of b, i + 1 => by
    have := step_ly b i
    show (stepAt b i).ly + 1 ≤ 2 * (b.ly + 1)
    omega
  | .to (.of x) c, 0 => by
    have := hand_ly c x 0
    show (Bt.hand c 0 x).ly ≤ 2 * (max (x.ly + 1) c.ly + 1)
    omega
  | .to (.bd n) c, 0 => by show max 1 c.ly + 1 ≤ 2 * (max 1 c.ly + 1); omega
  | .to (.fr z) c, 0 => by show max 1 c.ly + 1 ≤ 2 * (max 1 c.ly + 1); omega
  | .to (.to u v) c, 0 => by show max (max u.ly v.ly + 1) c.ly + 1 ≤ 2 * (max (max u.ly v.ly + 1) c.ly + 1); omega
  | .to a b, i + 1 => by
    have e0 : stepAt (.to a b) (i + 1) = if i < a.sg then .to (stepAt a i) b else .to a (stepAt b (i - a.sg)) := by cases a <;> rfl
    have h1 := step_ly a i
    have h2 := step_ly b (i - a.sg)
    rw [e0]
    by_cases c : i < a.sg
    · rw [if_pos c]
      show max (stepAt a i).ly b.ly + 1 ≤ 2 * (max a.ly b.ly + 1)
      omega
    · rw [if_neg c]
      show max a.ly (stepAt b (i - a.sg)).ly + 1 ≤ 2 * (max a.ly b.ly + 1)
      omega
end TF18
set_option maxHeartbeats 400000
namespace TF18
open PySem PySem.Spec L2 TG TA
open PyProof.Rows hiding St
/-! ### what is due -/
open TG.Bt (stepAt fstI)
abbrev sDue : Stmt := top 81
theorem scDue : FnScope ["bare", "most", "steps", "signs", "layers", "place"] ["bare", "most"] (defScope sDue) := ⟨rfl, rfl, rfl, by decide +kernel, rfl, by decide +kernel, by decide +kernel⟩
def dueOk (H : Hp) (Q : VK) : Otc → Prop
  | .plain b k => ∀ (r : Addr) (v : V) (H' : Hp), Same H H' → H' r = some (.tup [.str "plain", v, .int (k : Int)]) → BA H' v b → Q (.ref r) H'
  | .many u n => ∀ (r : Addr) (H' : Hp), Same H H' → H' r = some (.tup [.str u, .int (n : Int)]) → Q (.ref r) H'
def spDue : Sp := fun vs H Q _ => ∃ (v : V) (b : Bt) (m : Nat), vs = [v, .int (m : Int)] ∧ BA H v b ∧ b.all okN = true ∧ b.ly ≤ 400 ∧ m ≤ 1000 ∧ dueOk H Q (runP m (m + 1) b 0)
section
variable {P : Program} {w : World} {K : PySem.W.Frag} {mg : Str → Option Value} {base : Heap} {f f1 f2 f3 : Addr} {fd d1 d2 d3 : FuncData}
theorem ok_due (F : Fun K "_law_due" "_law_due" sDue f fd) (T : Bn mg) (D__law_sizes : Df K mg "_law_sizes" sSizes f1 d1 ["bare"]) (G__law_sizes : FnG P w K mg base CX0 401 f1 d1 ["bare"] (spSizes 400))
    (D__law_first : Df K mg "_law_first" sFst f2 d2 ["bare"]) (G__law_first : FnG P w K mg base CX0 202 f2 d2 ["bare"] (spFst 200)) (D__law_stepped : Df K mg "_law_stepped" sOwnSt f3 d3 ["bare", "place"]) (G__law_stepped : FnG P w K mg base CX0 603 f3 d3 ["bare", "place"] (spOwnSt 200)) : FnG P w K mg base CX0 604 f fd ["bare", "most"] spDue := by
  refine fun_okG F scDue (fun vs H Q E h => ?_) (fun cdv A outer s H vs Q E hr h => ?_)
  · obtain ⟨v, b, m, rfl, _⟩ := h
    rfl
  obtain ⟨v0, b0, m, rfl, hb0, hok0, hl0, hm, q⟩ := h
  refine ⟨_, (pss_cons (ps_set (i := 2) scDue.nd rfl (.inl rfl) pe_int)
      (pss_cons (ps_while PassesOwn.never (pt_cmpR op_le (pv 2) (pv 1) (nomark _))
        (pss_cons (ps_asg (pe_cg D__law_sizes G__law_sizes hr (by decide) (pa_cons (pv 0) pa_nil)) (pg_tup (by rfl) (pgs_cons (pg_name (i := 3) scDue.nd rfl (.inl rfl)) (pgs_cons (pg_name (i := 4) scDue.nd rfl (.inl rfl)) pgs_nil))))
        (pss_cons (ps_if (pt_cmpR op_gt (pv 3) pe_int (nomark _)) (pss_one (ps_ret (pe_tup (pa_cons pe_str (pa_cons pe_int pa_nil))))) pss_nil)
        (pss_cons (ps_if (pt_cmpR op_gt (pv 4) pe_int (nomark _)) (pss_one (ps_ret (pe_tup (pa_cons pe_str (pa_cons pe_int pa_nil))))) pss_nil)
        (pss_cons (ps_set (i := 5) scDue.nd rfl (.inl rfl) (pe_cg D__law_first G__law_first hr (by decide) (pa_cons (pv 0) pa_nil)))
        (pss_cons (ps_if (pt_cmpR op_isN (pv 5) pe_non (nomark _)) (pss_one (ps_ret (pe_tup (pa_cons pe_str (pa_cons (pv 0) (pa_cons (pv 2) pa_nil)))))) pss_nil)
        (pss_cons (ps_if (pt_cmpR op_lt (pv 2) (pv 1) (nomark _)) (pss_one (ps_set (i := 0) scDue.nd rfl (.inl rfl) (pe_cg D__law_stepped G__law_stepped hr (by decide) (pa_cons (pv 0) (pa_cons (pv 5) pa_nil))))) pss_nil)
        (pss_one (ps_set (i := 2) scDue.nd rfl (.inl rfl) (pe_op op_add (pv 2) pe_int))))))))))
      (pss_one (ps_ret (pe_tup (pa_cons pe_str (pa_cons (pv 1) pa_nil))))))), ?_⟩
  refine ⟨fun m' σ G => ∃ (b : Bt) (k : Nat) (v : V) (v3 v4 v5 : Option V), σ = [some v, some (.int (m : Int)), some (.int (k : Int)), v3, v4, v5] ∧ Same H G ∧ BA G v b ∧ b.all okN = true ∧ b.ly ≤ 400 ∧ k ≤ m + 1 ∧ (k ≤ m → runP m (m - k + 1) b k = runP m (m + 1) b0 0) ∧ (k = m + 1 → runP m (m + 1) b0 0 = .many "steps" m) ∧ m' = m + 1 - k,
    ⟨_, b0, 0, v0, none, none, none, rfl, fun _ _ h => h, hb0, hok0, hl0, Nat.zero_le _, fun _ => rfl, fun h => absurd h (by omega), rfl⟩, ?_⟩
  rintro m' σ G ⟨b, k, v, v3, v4, v5, rfl, sg, hb, hok, hly, hk, hrun, hend, rfl⟩
  refine ⟨_, rfl, _, rfl, _, _, rfl, rfl, _, rfl, ?_⟩
  by_cases ck : k ≤ m
  · rw [show decide ((k : Int) ≤ (m : Int)) = true from decide_eq_true (by omega)]
    have hrun := hrun ck
    refine iteT ⟨fun σ' H' => ∃ m', m' < m + 1 - k ∧ _, fun _ _ h => h, ?_⟩
    refine ⟨_, rfl, v, b, rfl, hb, hly, fun r G1 s1 hr1 => ⟨r, _, rfl, SqT.of hr1, rfl, _, _, rfl, _, _, rfl, rfl, ?_⟩⟩
    refine ⟨_, rfl, _, _, rfl, rfl, _, rfl, ?_⟩
    by_cases c1 : b.sg > 2000
    · rw [show decide ((2000 : Int) < (b.sg : Int)) = true from decide_eq_true (by omega)]
      rw [runP_great (u := "signs") (n := 2000) (by unfold grt; rw [if_pos c1])] at hrun
      rw [← hrun] at q
      exact iteT ⟨(by show 2 ≤ sizeLine; decide), fun r2 hr2 => q r2 _ ((sg.trans s1).trans (new_same hr2)) upd_same⟩
    rw [show decide ((2000 : Int) < (b.sg : Int)) = false from decide_eq_false (by omega)]
    refine iteF ⟨_, rfl, _, _, rfl, rfl, _, rfl, ?_⟩
    by_cases c2 : b.ly > 200
    · rw [show decide ((200 : Int) < (b.ly : Int)) = true from decide_eq_true (by omega)]
      have := ly_sg b
      rw [runP_great (u := "layers") (n := 200) (by unfold grt; rw [if_neg c1, if_pos ⟨by omega, c2⟩])] at hrun
      rw [← hrun] at q
      exact iteT ⟨(by show 2 ≤ sizeLine; decide), fun r2 hr2 => q r2 _ ((sg.trans s1).trans (new_same hr2)) upd_same⟩
    rw [show decide ((200 : Int) < (b.ly : Int)) = false from decide_eq_false (by omega)]
    have hg : grt b = none := by unfold grt; rw [if_neg c1, if_neg fun h => c2 h.2]
    have hb1 := hb.same s1
    refine iteF ⟨_, rfl, v, b, rfl, hb1, by omega, by omega, ?_⟩
    have fb := first_both b
    rw [firstI_eq hok] at fb
    cases ef : firstB b with
    | none =>
      rw [ef] at fb
      have fb : fstI b = none := fb
      intro G2 s2
      rw [runP_end hg fb] at hrun
      rw [← hrun] at q
      have s12 := s1.trans s2
      refine ⟨_, rfl, rfl, _, rfl, iteT ⟨_, rfl, _, rfl, (by show 3 ≤ sizeLine; decide), fun r2 hr2 => q r2 v _ ((sg.trans s12).trans (new_same hr2)) upd_same ((hb1.same s2).same (new_same hr2))⟩⟩
    | some ns =>
      rw [ef] at fb
      obtain ⟨hop, i, hi, hst⟩ := fb
      obtain ⟨x, c, hs⟩ := Bt.fst_some hok hi
      intro r2 G2 s2 hp2
      have s12 := s1.trans s2
      have ln := firstB_len b ns ef
      refine ⟨_, rfl, rfl, _, rfl, iteF ⟨_, rfl, _, rfl, _, _, rfl, rfl, _, rfl, ?_⟩⟩
      by_cases c3 : k = m
      · subst c3
        rw [show decide ((k : Int) < (k : Int)) = false from decide_eq_false (by omega)]
        rw [runP_most hg hi] at hrun
        exact iteF ⟨_, rfl, _, _, rfl, rfl, k + 1 - (k + 1), by omega, b, k + 1, v, _, _, _, rfl, sg.trans s12, hb1.same s2, hok, hly, by omega, fun h => absurd h (by omega), fun _ => hrun.symm, rfl⟩
      · rw [show decide ((k : Int) < (m : Int)) = true from decide_eq_true (by omega)]
        have hrun2 : runP m (m - (k + 1) + 1) (stepAt b i) (k + 1) = runP m (m + 1) b0 0 := by
          rw [runP_step hg hi c3] at hrun
          rw [show m - (k + 1) + 1 = m - k by omega]
          exact hrun
        refine iteT ⟨_, rfl, _, rfl, v, r2, b, ns, rfl, hb1.same s2, by omega, hp2, by omega, hop, fun v' G3 s3 hv' => ?_⟩
        rw [hst] at hv'
        have := step_ly b i
        exact ⟨_, rfl, _, _, rfl, rfl, m + 1 - (k + 1), by omega, stepAt b i, k + 1, v', _, _, _, rfl, (sg.trans s12).trans s3, hv', Bt.step_all hok hs, by omega, by omega, fun _ => hrun2, fun h => absurd h (by omega), rfl⟩
  · rw [show decide ((k : Int) ≤ (m : Int)) = false from decide_eq_false (by omega)]
    rw [hend (by omega)] at q
    exact iteF ⟨_, rfl, (by show 2 ≤ sizeLine; decide), fun r2 hr2 => q r2 _ (sg.trans (new_same hr2)) upd_same⟩
end
end TF18
set_option maxHeartbeats 400000
namespace TF18
open PySem PySem.Spec L2 TG TA
open PyProof.Rows hiding St
/-! ### a number as so many times -/
def twB : Nat → Wr
  | 0 => .nm "x"
  | k + 1 => .to (.nm "f") (twB k)
def twW (k : Nat) : Wr := .of "f" (.of "x" (twB k))
theorem twB_sg : ∀ k, (twB k).sg = 2 * k + 1
  | 0 => rfl
  | k + 1 => by show 1 + (twB k).sg + 1 = _; rw [twB_sg k]; omega
theorem twB_ly : ∀ k, (twB k).ly = k + 1
  | 0 => rfl
  | k + 1 => by show max 1 (twB k).ly + 1 = _; rw [twB_ly k]; omega
theorem twB_ok : ∀ k, (twB k).all okN = true
  | 0 => by show okN "x" = true; decide +kernel
  | k + 1 => by
    show (okN "f" && (twB k).all okN) = true
    rw [twB_ok k, show okN "f" = true from by decide +kernel]
    rfl
theorem twW_ok (k : Nat) : (twW k).all okN = true := by
  show (okN "f" && (okN "x" && (twB k).all okN)) = true
  rw [twB_ok k, show okN "f" = true from by decide +kernel, show okN "x" = true from by decide +kernel]
  rfl
abbrev sTimes : Stmt := top 82
theorem scTimes : FnScope ["number", "body", "turn"] ["number"] (defScope sTimes) := ⟨rfl, rfl, rfl, by decide +kernel, rfl, by decide +kernel, by decide +kernel⟩
def spTimes : Sp := fun vs H Q _ => ∃ k : Nat, vs = [.int (k : Int)] ∧ k ≤ 100 ∧ ∀ (v : V) (H' : Hp), Same H H' → WA H' v (twW k) → Q v H'
section
variable {P : Program} {w : World} {K : PySem.W.Frag} {mg : Str → Option Value} {base : Heap} {f f1 f2 f3 f4 : Addr} {fd d1 d2 d3 d4 : FuncData}
theorem ok_times (F : Fun K "_law_times" "_law_times" sTimes f fd) (T : Bn mg) : FnG P w K mg base CX0 1 f fd ["number"] spTimes := by
  refine fun_okG F scTimes (fun vs H Q E h => ?_) (fun cdv A outer s H vs Q E hr h => ?_)
  · obtain ⟨k, rfl, _⟩ := h
    rfl
  obtain ⟨k, rfl, hk, q⟩ := h
  refine ⟨_, (pss_cons (ps_set (i := 1) scTimes.nd rfl (.inl rfl) pe_str)
      (pss_cons (ps_for PassesOwn.never rfl (pi_range1 (by rfl) T.b_range (pa_cons (pv 0) pa_nil)) (pg_name (i := 2) scTimes.nd rfl (.inl rfl))
        (pss_one (ps_set (i := 1) scTimes.nd rfl (.inl rfl) (pe_tup (pa_cons pe_str (pa_cons pe_str (pa_cons (pv 1) pa_nil)))))))
      (pss_one (ps_ret (pe_tup (pa_cons pe_str (pa_cons pe_str (pa_cons (pe_tup (pa_cons pe_str (pa_cons pe_str (pa_cons (pv 1) pa_nil)))) pa_nil)))))))), ?_⟩
  refine ⟨_, rfl, _, rfl, by omega, by omega, ?_⟩
  rw [show ((k : Int)).toNat = k from rfl]
  refine for_range (lo := 0) (n := k) (fun j σ G => ∃ (v : V) (v2 : Option V), σ = [some (.int (k : Int)), some v, v2] ∧ Same H G ∧ WA G v (twB j)) ?_ ?_ ?_
  · exact ⟨_, none, rfl, fun _ _ h => h, .nm "x"⟩
  · rintro j σ G hj ⟨v, v2, rfl, sg, hv⟩
    refine ⟨_, rfl, (by show 3 ≤ sizeLine; decide), fun a ha => ⟨.ref a, _, rfl, sg.trans (new_same ha), .to upd_same (.nm "f") (hv.same (new_same ha))⟩⟩
  · rintro σ G ⟨v, v2, rfl, sg, hv⟩
    refine ⟨_, rfl, (by show 3 ≤ sizeLine; decide), fun a ha => ⟨(by show 3 ≤ sizeLine; decide), fun b hb => ?_⟩⟩
    exact q (.ref b) _ ((sg.trans (new_same ha)).trans (new_same hb)) (.of upd_same (.of (new_same hb _ _ upd_same) ((hv.same (new_same ha)).same (new_same hb))))
end
end TF18
set_option maxHeartbeats 400000
/-! writings as data, compared and shown -/
namespace TG
open PySem PySem.Spec L2
open PyProof.Rows hiding St
theorem wd_depth : ∀ w : Wr, w.d.depth + 1 = w.ly
  | .nm _ => rfl
  | .of x b => by
    have h := wd_depth b
    show max 0 (max 0 (max b.d.depth 0)) + 1 + 1 = b.ly + 1
    omega
  | .to a b => by
    have h1 := wd_depth a
    have h2 := wd_depth b
    show max 0 (max a.d.depth (max b.d.depth 0)) + 1 + 1 = max a.ly b.ly + 1
    omega
theorem wd_lay : ∀ {w : Wr}, w.all okN = true → w.d.canLay0 = true
  | .nm z, h => Bt.ok_lay h
  | .of x b, h => by
    obtain ⟨h1, h2⟩ := Bool.and_eq_true_iff.mp (show (okN x && b.all okN) = true from h)
    show (PyData.canLay0 (.str "of") && (PyData.canLay0 (.str x) && (b.d.canLay0 && PyData.canLayAll0 []))) = true
    rw [show PyData.canLay0 (.str "of") = true by decide +kernel, Bt.ok_lay h1, wd_lay h2]
    rfl
  | .to a b, h => by
    obtain ⟨h1, h2⟩ := Bool.and_eq_true_iff.mp (show (a.all okN && b.all okN) = true from h)
    show (PyData.canLay0 (.str "to") && (a.d.canLay0 && (b.d.canLay0 && PyData.canLayAll0 []))) = true
    rw [show PyData.canLay0 (.str "to") = true by decide +kernel, wd_lay h1, wd_lay h2]
    rfl
theorem wd_shaped {w : Wr} (h : w.all okN = true) (l : w.ly ≤ 64) : SeqAt.shaped w.d = true := by
  have := wd_depth w
  unfold SeqAt.shaped
  rw [wd_lay h, decide_eq_true (by omega : w.d.depth ≤ 64)]
  rfl
theorem wd_self : ∀ w : Wr, PyData.eqv w.d w.d = true
  | .nm z => by show (z == z) = true; exact beq_self_eq_true z
  | .of x b => by
    show ((("of" : Str) == "of") && ((x == x) && (PyData.eqv b.d b.d && true))) = true
    rw [wd_self b, beq_self_eq_true, beq_self_eq_true]
    rfl
  | .to a b => by
    show ((("to" : Str) == "to") && (PyData.eqv a.d a.d && (PyData.eqv b.d b.d && true))) = true
    rw [wd_self a, wd_self b, beq_self_eq_true]
    rfl
theorem wd_showable : ∀ w : Wr, w.d.showable = true
  | .nm z => rfl
  | .of x b => by
    show (true && (true && (b.d.showable && true))) = true
    rw [wd_showable b]
    rfl
  | .to a b => by
    show (true && (a.d.showable && (b.d.showable && true))) = true
    rw [wd_showable a, wd_showable b]
    rfl
theorem wd_noDict : ∀ w : Wr, w.d.hasDict = false
  | .nm z => rfl
  | .of x b => by
    show (false || (false || (b.d.hasDict || false))) = false
    rw [wd_noDict b]
    rfl
  | .to a b => by
    show (false || (a.d.hasDict || (b.d.hasDict || false))) = false
    rw [wd_noDict a, wd_noDict b]
    rfl
theorem wd_fits {w : Wr} (h : w.all okN = true) (hs : w.sg ≤ 10000) : w.d.shown.length ≤ sizeLine := by
  have key : ∀ {w : Wr}, w.all okN = true → w.d.leavesShort 8 = true ∧ w.d.bulk ≤ 40 * w.sg := by
    intro w
    have leaf : ∀ {z : Str}, okN z = true → PyData.leavesShort 8 (.str z) = true ∧ PyData.bulk (.str z) ≤ 13 := fun {z} h => by
      obtain ⟨h1, h2⟩ := nms_short (l := [z]) (fun y hy => by rw [List.mem_singleton.mp hy]; exact h)
      refine ⟨(Bool.and_eq_true_iff.mp (show (PyData.leavesShort 8 (.str z) && true) = true from h1)).1, ?_⟩
      obtain ⟨z1, _⟩ := ok_signs h
      have h4 : z.cps.size ≤ 12 := z1
      show z.cps.size ≤ 13
      omega
    induction w with
    | nm z =>
      intro h
      obtain ⟨a, b⟩ := leaf (z := z) h
      refine ⟨a, ?_⟩
      show PyData.bulk (.str z) ≤ 40 * 1
      omega
    | of x b ih =>
      intro h
      obtain ⟨h1, h2⟩ := Bool.and_eq_true_iff.mp (show (okN x && b.all okN) = true from h)
      obtain ⟨a1, a2⟩ := leaf h1
      obtain ⟨b1, b2⟩ := ih h2
      refine ⟨?_, ?_⟩
      · show (PyData.leavesShort 8 (.str "of") && (PyData.leavesShort 8 (.str x) && (b.d.leavesShort 8 && true))) = true
        rw [a1, b1, show PyData.leavesShort 8 (.str "of") = true by decide +kernel]
        rfl
      · have e := show PyData.bulk (.str "of") = 2 by decide +kernel
        have g : (Wr.of x b).d.bulk = PyData.bulk (.str "of") + 1 + (PyData.bulk (.str x) + 1 + (b.d.bulk + 1 + 0)) := rfl
        show (Wr.of x b).d.bulk ≤ 40 * (b.sg + 1)
        omega
    | to a b i1 i2 =>
      intro h
      obtain ⟨h1, h2⟩ := Bool.and_eq_true_iff.mp (show (a.all okN && b.all okN) = true from h)
      obtain ⟨a1, a2⟩ := i1 h1
      obtain ⟨b1, b2⟩ := i2 h2
      refine ⟨?_, ?_⟩
      · show (PyData.leavesShort 8 (.str "to") && (a.d.leavesShort 8 && (b.d.leavesShort 8 && true))) = true
        rw [a1, b1, show PyData.leavesShort 8 (.str "to") = true by decide +kernel]
        rfl
      · have e := show PyData.bulk (.str "to") = 2 by decide +kernel
        have g : (Wr.to a b).d.bulk = PyData.bulk (.str "to") + 1 + (a.d.bulk + 1 + (b.d.bulk + 1 + 0)) := rfl
        show (Wr.to a b).d.bulk ≤ 40 * (a.sg + b.sg + 1)
        omega
  obtain ⟨h1, h2⟩ := key h
  exact PyData.shown_fits_bulk (B := 8) (by decide) (by decide) h1 (by omega)
/-- equality of data 150 layers deep -/
def rEqD2 (K : PySem.W.Frag) : R2 := fun x y H Q => ∃ d e, Dp K H x d ∧ Dp K H y e ∧ d.canLay0 = true ∧ e.canLay0 = true ∧ d.depth ≤ 150 ∧ Q (.bl (PyData.eqv d e)) H
section
variable {X : Cx}
theorem op_eqD2 (hu : X.A.units + 151 < cLine) : OpR X (compareOp .Eq) (rEqD2 X.K) := by
  intro pins s σ H x y v u Q I rx ry h
  obtain ⟨d, e, hd, he, sd, se, dd, q⟩ := h
  obtain ⟨as, r1⟩ := Dp.reads I d x v hd rx
  obtain ⟨bs, r2⟩ := Dp.reads I e y u he ry
  have h2 : min d.depth e.depth ≤ d.depth := Nat.min_le_left _ _
  exact SeqAt.compareEq_reads r1 r2 sd se (by omega) ⟨.bl _, H, I, rfl, q⟩
end
end TG
set_option maxHeartbeats 400000
namespace TF18
open PySem PySem.Spec L2 TG TA
open PyProof.Rows hiding St
/-! ### counted writings as data -/
def bD : Bt → PyData
  | .bd n => .int (n : Int)
  | .fr z => .str z
  | .of b => .tuple [.str "of", bD b]
  | .to a b => .tuple [.str "to", bD a, bD b]
theorem BA.dp {K : PySem.W.Frag} {H : Hp} {v : V} {b : Bt} (h : BA H v b) : Dp K H v (bD b) := by
  induction h with
  | bd n => exact .int _
  | fr z => exact .str z
  | of e _ ih => exact .tup (SqT.of e) (.cons (.str _) (.cons ih .nil))
  | to e _ _ i1 i2 => exact .tup (SqT.of e) (.cons (.str _) (.cons i1 (.cons i2 .nil)))
theorem bD_self : ∀ b : Bt, PyData.eqv (bD b) (bD b) = true
  | .bd n => by show decide ((n : Int) = n) = true; exact decide_eq_true rfl
  | .fr z => by show (z == z) = true; exact beq_self_eq_true z
  | .of b => by
    show ((("of" : Str) == "of") && (PyData.eqv (bD b) (bD b) && true)) = true
    rw [bD_self b, beq_self_eq_true]
    rfl
  | .to a b => by
    show ((("to" : Str) == "to") && (PyData.eqv (bD a) (bD a) && (PyData.eqv (bD b) (bD b) && true))) = true
    rw [bD_self a, bD_self b, beq_self_eq_true]
    rfl
theorem bD_depth : ∀ b : Bt, (bD b).depth + 1 = b.ly
  | .bd _ => rfl
  | .fr _ => rfl
  | .of b => by
    have h := bD_depth b
    show max 0 (max (bD b).depth 0) + 1 + 1 = b.ly + 1
    omega
  | .to a b => by
    have h1 := bD_depth a
    have h2 := bD_depth b
    show max 0 (max (bD a).depth (max (bD b).depth 0)) + 1 + 1 = max a.ly b.ly + 1
    omega
theorem bD_lay : ∀ {b : Bt}, b.all okN = true → (bD b).canLay0 = true
  | .bd n, h => rfl
  | .fr z, h => Bt.ok_lay h
  | .of b, h => by
    show (PyData.canLay0 (.str "of") && ((bD b).canLay0 && PyData.canLayAll0 [])) = true
    rw [show PyData.canLay0 (.str "of") = true by decide +kernel, bD_lay (b := b) h]
    rfl
  | .to a b, h => by
    obtain ⟨h1, h2⟩ := Bool.and_eq_true_iff.mp (show (a.all okN && b.all okN) = true from h)
    show (PyData.canLay0 (.str "to") && ((bD a).canLay0 && ((bD b).canLay0 && PyData.canLayAll0 []))) = true
    rw [show PyData.canLay0 (.str "to") = true by decide +kernel, bD_lay h1, bD_lay h2]
    rfl
/-! ### equality of data 200 layers deep -/
section
variable {X : Cx}
def rEqD3 (K : PySem.W.Frag) : R2 := fun x y H Q => ∃ d e, Dp K H x d ∧ Dp K H y e ∧ d.canLay0 = true ∧ e.canLay0 = true ∧ d.depth ≤ 200 ∧ Q (.bl (PyData.eqv d e)) H
theorem op_eqD3 (hu : X.A.units + 201 < cLine) : OpR X (compareOp .Eq) (rEqD3 X.K) := by
  intro pins s σ H x y v u Q I rx ry h
  obtain ⟨d, e, hd, he, sd, se, dd, q⟩ := h
  obtain ⟨as, r1⟩ := Dp.reads I d x v hd rx
  obtain ⟨bs, r2⟩ := Dp.reads I e y u he ry
  have h2 : min d.depth e.depth ≤ d.depth := Nat.min_le_left _ _
  exact SeqAt.compareEq_reads r1 r2 sd se (by omega) ⟨.bl _, H, I, rfl, q⟩
end
theorem RoomG.units3 {k : Nat} {A : Around} (h : RoomG (k + 1) A) : A.units + 201 < cLine := by have := h.un; omega
/-! ### what a run comes to -/
open TG.Bt (stepAt fstI Star Stp noR)
theorem nmd_facts {b : Bt} (hb : b.all okN = true) (hc : b.cl 0 = true) (hs : b.sg ≤ 2000) : (nmd b).cnt [] = b ∧ (nmd b).all okN = true := by
  have h1 := mx_lt b
  have h2 := useB_len b
  have hN : mxL (b.deps 0) + 1 + (useB b).length ≤ 10000 := by omega
  have hlen : (nmsB b).length = mxL (b.deps 0) + 1 := by
    have := nwL_len (ns := useB b) hN
    unfold nmsB
    rw [List.length_take]
    omega
  have hnd : (nmsB b).Nodup := (nwL_nodup hN).sublist (List.take_sublist _ _)
  have hmem : ∀ z ∈ nmsB b, some z ∉ useB b ∧ okN z = true := fun z hz => nwL_mem hN z (List.mem_of_mem_take hz)
  have hd : ∀ x ∈ b.deps 0, x < (nmsB b).length := fun x hx => by rw [hlen]; have := mxL_ge hx; omega
  refine ⟨nmW_cnt hnd b 0 hc hd fun z hz hm => ?_, nmW_ok (fun z hz => (hmem z hz).2) b 0 hb hc hd⟩
  refine (hmem z hm).1 ?_
  unfold useB
  rw [mem_insN]
  exact .inr (List.mem_filterMap.mpr ⟨_, Bt.frs_cd b z hz, rfl⟩)
theorem firstI_noR : ∀ {b : Bt}, firstI b = none → noR b = true
  | .bd _, _ => rfl
  | .fr _, _ => rfl
  | .of b, e => firstI_noR (b := b) (Option.map_eq_none_iff.mp e)
  | .to a b, e => by
    have e : (if readyB (.to a b) = true then some 0 else match firstI a with | some i => some (i + 1) | none => (firstI b).map (· + (a.sg + 1))) = none := e
    by_cases c : readyB (.to a b) = true
    · rw [if_pos c] at e; cases e
    · rw [if_neg c] at e
      cases ea : firstI a with
      | some i => rw [ea] at e; cases e
      | none =>
        rw [ea] at e
        have ha := firstI_noR ea
        have hb := firstI_noR (Option.map_eq_none_iff.mp e)
        cases a with
        | of x => exact absurd rfl c
        | bd n => show (noR (.bd n) && noR b) = true; rw [ha, hb]; rfl
        | fr z => show (noR (.fr z) && noR b) = true; rw [ha, hb]; rfl
        | to u v => show (noR (.to u v) && noR b) = true; rw [ha, hb]; rfl
theorem runP_facts {m : Nat} : ∀ {f k : Nat} {b b' : Bt} {k' : Nat}, runP m f b k = .plain b' k' → b.all okN = true → b.cl 0 = true →
    k ≤ k' ∧ (k' = k → b' = b) ∧ Star Stp b b' ∧ noR b' = true ∧ b'.all okN = true ∧ b'.cl 0 = true ∧ grt b' = none ∧ grt b = none
  | 0, k, b, b', k', h, _, _ => nomatch h
  | f + 1, k, b, b', k', h, hb, hc => by
    cases hg : grt b with
    | some un => rw [runP_great (u := un.1) (n := un.2) hg] at h; cases h
    | none =>
      cases hf : fstI b with
      | none =>
        rw [runP_end hg hf] at h
        cases h
        exact ⟨Nat.le_refl _, fun _ => rfl, .refl _, firstI_noR (by rw [firstI_eq hb]; exact hf), hb, hc, hg, rfl⟩
      | some i =>
        obtain ⟨x, c, hs⟩ := Bt.fst_some hb hf
        by_cases e : k = m
        · subst e
          rw [runP_most hg hf] at h
          cases h
        · rw [runP_step hg hf e] at h
          obtain ⟨h1, h2, h3, h4, h5, h6, h7, h8⟩ := runP_facts h (Bt.step_all hb hs) (Bt.step_cl hc hs)
          exact ⟨by omega, fun z => absurd z (by omega), .step (Bt.stp_at hs) h3, h4, h5, h6, h7, rfl⟩
theorem runP_more {m m' : Nat} (hm : m ≤ m') : ∀ {f k : Nat} {b b' : Bt} {k' : Nat}, runP m f b k = .plain b' k' → k + f = m + 1 → ∀ f', k + f' = m' + 1 → runP m' f' b k = .plain b' k'
  | 0, k, b, b', k', h, _, _, _ => nomatch h
  | f + 1, k, b, b', k', h, hk, f', hf' => by
    obtain ⟨g, rfl⟩ : ∃ g, f' = g + 1 := ⟨f' - 1, by omega⟩
    cases hg : grt b with
    | some un => rw [runP_great (u := un.1) (n := un.2) hg] at h; cases h
    | none =>
      cases hf : fstI b with
      | none =>
        rw [runP_end hg hf] at h ⊢
        exact h
      | some i =>
        by_cases e : k = m
        · subst e
          rw [runP_most hg hf] at h
          cases h
        · rw [runP_step hg hf e] at h
          rw [runP_step hg hf (by omega)]
          exact runP_more hm h (by omega) g (by omega)
end TF18
set_option maxHeartbeats 400000
namespace TF18
open PySem PySem.Spec L2 TG TA
open PyProof.Rows hiding St
/-! ### a writing comes to what is due -/
section
variable {X : Cx} {k j : Nat} {f : Addr} {fd : FuncData} {ps : List Str} {sp : Sp} {x : Str} {st : Stmt} {p pos : Pos} {e : Expr} {es : List Expr} {t tk : L2.TA}
theorem pe_cgL (D : Df X.K X.mg x st f fd ps) (F : FnG X.prog X.w X.K X.mg X.base (L2.CX X.prog X.w) k f fd ps sp) (hr : RoomG j X.A) (hj : k ≤ j) (ha : PA X (e :: es) t) (hg : Gl X x := by rfl)
    (hdb : (x == ("__debug__" : Str)) = false := by decide) (he : starEach (e :: es) X.env = (false, eval e X.env) :: starEach es X.env := by rfl) (hpl : (backTo pos (starEach es X.env)).any (·.1) = false := by rfl) :
    PE X (.Call (.Name x p) (e :: es) [] pos) (tCall sp [] E0 t) := pe_cdG F hr hj D.m D.F.kp D.b passL ha hg hdb he hpl
end
theorem runP_word {m : Nat} : ∀ {f k : Nat} {b : Bt} {u : Str} {n : Nat}, runP m f b k = .many u n → u ≠ "plain"
  | 0, k, b, u, n, h => by cases h; decide +kernel
  | f + 1, k, b, u, n, h => by
    cases hg : grt b with
    | some un =>
      rw [runP_great (u := un.1) (n := un.2) hg] at h
      cases h
      unfold grt at hg
      split at hg
      · cases hg; decide +kernel
      · split at hg
        · cases hg; decide +kernel
        · cases hg
    | none =>
      cases hf : Bt.fstI b with
      | none => rw [runP_end hg hf] at h; cases h
      | some i =>
        by_cases e : k = m
        · subst e
          rw [runP_most hg hf] at h
          cases h
          decide +kernel
        · rw [runP_step hg hf e] at h
          exact runP_word h
def plainO : Otc → Bool
  | .plain _ _ => true
  | .many _ _ => false
end TF18
set_option maxHeartbeats 400000
namespace TF18
open PySem PySem.Spec L2 TG TA
open PyProof.Rows hiding St
/-! ### a drawn writing -/
def dw : Nat → Nat
  | 0 => 0
  | g + 1 => 2 * dw g + 2
abbrev sWrit : Stmt := top 72
theorem scWrit : FnScope ["spool", "names", "layers", "way", "one"] ["spool", "names", "layers"] (defScope sWrit) := ⟨rfl, rfl, rfl, by decide +kernel, rfl, by decide +kernel, by decide +kernel⟩
def spWrit (n : Nat) : Sp := fun vs H Q _ => ∃ (p c l : Addr) (g : Nat) (names : List Str) (m : Nat), vs = [.ref p, .ref l, .int (g : Int)] ∧ PenAt m H p c ∧ m + dw g ≤ 90000 ∧ 1 ≤ g ∧ g ≤ n ∧ l ≠ p ∧ H l = some (.lst (names.map V.str)) ∧ names ≠ [] ∧ names.length ≤ 100 ∧
  ∀ (v : V) (w : Wr) (H' : Hp), WA H' v w → w.ly ≤ g → w.sg ≤ dw g → w.all (fun z => decide (z ∈ names)) = true → Keep p H H' → PenAt (m + dw g) H' p c → Q v H'
section
variable {P : Program} {w : World} {K : PySem.W.Frag} {mg : Str → Option Value} {base : Heap} {f f1 f2 : Addr} {fd d1 d2 : FuncData}
theorem ok_writ (F : Fun K "_law_writing" "_law_writing" sWrit f fd) (T : Bn mg) (D__law_writing : Df K mg "_law_writing" sWrit f fd ["spool", "names", "layers"])
    (D__law_reeve : Df K mg "_law_reeve" sDraw f1 d1 ["spool", "many"]) (G__law_reeve : FnG P w K mg base CX0 3 f1 d1 ["spool", "many"] spDraw)
    (D__law_of : Df K mg "_law_of" sPick f2 d2 ["spool", "some"]) (G__law_of : FnG P w K mg base CX0 6 f2 d2 ["spool", "some"] (spPick K)) : ∀ n : Nat, FnG P w K mg base CX0 (n + 7) f fd ["spool", "names", "layers"] (spWrit n) := by
  intro n
  induction n with
  | zero =>
    refine fun_okG F scWrit (fun vs H Q E h => ?_) (fun cdv A outer s H vs Q E hr h => ?_)
    · obtain ⟨p, c, l, g, names, m, rfl, _⟩ := h
      rfl
    obtain ⟨p, c, l, g, names, m, rfl, _, _, h1, h2, _⟩ := h
    omega
  | succ n G__law_writing =>
  refine fun_okG F scWrit (fun vs H Q E h => ?_) (fun cdv A outer s H vs Q E hr h => ?_)
  · obtain ⟨p, c, l, g, names, m, rfl, _⟩ := h
    rfl
  obtain ⟨p, c, l, g, names, m, rfl, hp, hm, g1, gn, nl, hl, hne, hlen, q⟩ := h
  have hneV : names.map V.str ≠ [] := fun z => hne (List.map_eq_nil_iff.mp z)
  have hlenV : (names.map V.str).length ≤ 1000000 := by rw [List.length_map]; omega
  refine ⟨_, (pss_cons (ps_set (i := 3) scWrit.nd rfl (.inl rfl) (pe_ifExp (pt_cmpR op_gt (pv 2) pe_int (nomark _)) (pe_cg D__law_reeve G__law_reeve hr (by omega) (pa_cons (pv 0) (pa_cons pe_int pa_nil))) pe_int))
      (pss_cons (ps_if (pt_cmpR op_eq (pv 3) pe_int (nomark _)) (pss_one (ps_ret (pe_cg D__law_of G__law_of hr (by omega) (pa_cons (pv 0) (pa_cons (pv 1) pa_nil))))) pss_nil)
      (pss_cons (ps_if (pt_cmpR op_lt (pv 3) pe_int (nomark _)) (pss_one (ps_ret (pe_tup (pa_cons pe_str (pa_cons (pe_cg D__law_of G__law_of hr (by omega) (pa_cons (pv 0) (pa_cons (pv 1) pa_nil))) (pa_cons (pe_cg D__law_writing G__law_writing hr (by omega) (pa_cons (pv 0) (pa_cons (pv 1) (pa_cons (pe_op op_sub (pv 2) pe_int) pa_nil)))) pa_nil)))))) pss_nil)
      (pss_cons (ps_if (PW.pt (pw_and (pt_cmpR op_lt (pv 3) pe_int (nomark _)) (pw_and1 (pt_cmpR op_gt (pv 2) pe_int (nomark _))))) (pss_cons (ps_set (i := 4) scWrit.nd rfl (.inl rfl) (pe_tup (pa_cons pe_str (pa_cons (pe_cg D__law_of G__law_of hr (by omega) (pa_cons (pv 0) (pa_cons (pv 1) pa_nil))) (pa_cons (pe_cg D__law_writing G__law_writing hr (by omega) (pa_cons (pv 0) (pa_cons (pv 1) (pa_cons (pe_op op_sub (pv 2) pe_int) pa_nil)))) pa_nil)))))
        (pss_one (ps_ret (pe_tup (pa_cons pe_str (pa_cons (pv 4) (pa_cons (pe_cg D__law_writing G__law_writing hr (by omega) (pa_cons (pv 0) (pa_cons (pv 1) (pa_cons (pe_op op_sub (pv 2) pe_int) pa_nil)))) pa_nil))))))) pss_nil)
      (pss_one (ps_ret (pe_tup (pa_cons pe_str (pa_cons (pe_cg D__law_writing G__law_writing hr (by omega) (pa_cons (pv 0) (pa_cons (pv 1) (pa_cons (pe_op op_sub (pv 2) pe_int) pa_nil)))) (pa_cons (pe_cg D__law_writing G__law_writing hr (by omega) (pa_cons (pv 0) (pa_cons (pv 1) (pa_cons (pe_op op_sub (pv 2) pe_int) pa_nil)))) pa_nil)))))))))), ?_⟩
  rcases Nat.lt_or_ge g 2 with c0 | c0
  · obtain rfl : g = 1 := by omega
    refine ⟨_, rfl, _, _, rfl, rfl, _, rfl, ite2 (fun z => absurd (of_decide_eq_true z) (by decide)) (fun _ => ?_)⟩
    refine ⟨_, rfl, rfl, _, rfl, ite2 (fun _ => ?_) (fun z => absurd (decide_eq_true rfl) z)⟩
    refine ⟨_, rfl, _, rfl, p, c, l, _, m, rfl, hp, by omega, nl, hl, hneV, hlenV, fun v H' hv k hp' => ?_⟩
    obtain ⟨z, hz, rfl⟩ := List.mem_map.mp hv
    exact q _ (.nm z) H' (.nm z) (Nat.le_refl 1) (by show 1 ≤ 2; decide) (decide_eq_true hz) k (hp'.up (by show m + 1 ≤ m + 2; omega))
  obtain ⟨k, rfl⟩ : ∃ k, g = k + 2 := ⟨g - 2, by omega⟩
  have e1 : dw (k + 1) = 2 * dw k + 2 := rfl
  have e2 : dw (k + 2) = 2 * dw (k + 1) + 2 := rfl
  have less1 : ∀ {x y : V}, [x, y, V.int (((k + 2 : Nat) : Int) - 1)] = [x, y, V.int ((k + 1 : Nat) : Int)] := fun {x y} => by rw [show (((k + 2 : Nat) : Int) - 1) = ((k + 1 : Nat) : Int) by omega]
  have less2 : ∀ {x y : V}, [x, y, V.int (((k + 2 : Nat) : Int) - 2)] = [x, y, V.int ((k : Nat) : Int)] := fun {x y} => by rw [show (((k + 2 : Nat) : Int) - 2) = ((k : Nat) : Int) by omega]
  refine ⟨_, rfl, _, _, rfl, rfl, _, rfl, ite2 (fun _ => ?_) (fun z => absurd (decide_eq_true (by omega)) z)⟩
  refine ⟨_, rfl, p, c, 6, m, rfl, hp, by omega, Dv.of (by decide) (by decide), fun r H1 r0 r1 k1 hp1 => ?_⟩
  have hl1 := k1 l _ nl hl
  refine ⟨_, rfl, rfl, _, rfl, ?_⟩
  rw [dec_int]
  refine ite2 (fun c1 => ?_) (fun c1 => ?_)
  · refine ⟨_, rfl, _, rfl, p, c, l, _, m + 1, rfl, hp1, by omega, nl, hl1, hneV, hlenV, fun v H2 hv k2 hp2 => ?_⟩
    obtain ⟨z, hz, rfl⟩ := List.mem_map.mp hv
    exact q _ (.nm z) _ (.nm z) (by show 1 ≤ k + 2; omega) (by show 1 ≤ _; omega) (decide_eq_true hz) (k1.trans k2) (hp2.up (by omega))
  refine ⟨_, rfl, _, _, rfl, rfl, _, rfl, ite2 (fun c2 => ?_) (fun c2 => ?_)⟩
  · refine ⟨_, rfl, _, rfl, p, c, l, _, m + 1, rfl, hp1, by omega, nl, hl1, hneV, hlenV, fun v H2 hv k2 hp2 => ?_⟩
    obtain ⟨z, hz, rfl⟩ := List.mem_map.mp hv
    refine ⟨_, rfl, _, rfl, _, rfl, _, _, rfl, rfl, p, c, l, k + 1, names, m + 2, less1, hp2, by omega, by omega, by omega, nl, k2 l _ nl hl1, hne, hlen, fun v3 w3 H3 wa3 ly3 sg3 al3 k3 hp3 => ?_⟩
    refine ⟨(by show 3 ≤ sizeLine; decide), fun a ha => ?_⟩
    refine q _ (.of z w3) _ (.of upd_same (wa3.same (same_new ha))) (by show w3.ly + 1 ≤ k + 2; omega) (by show w3.sg + 1 ≤ _; omega) (by show (decide (z ∈ names) && w3.all _) = true; rw [decide_eq_true hz, al3]; rfl) (((k1.trans k2).trans k3).trans (Keep.new ha)) ((hp3.same (same_new ha)).up (by omega))
  refine ⟨_, rfl, _, _, rfl, rfl, _, rfl, ite2 (fun c3 => ⟨_, rfl, _, _, rfl, rfl, _, rfl, ite2 (fun c4 => ?_) (fun c4 => ?_)⟩) (fun c3 => ite2 (fun z => absurd z Bool.false_ne_true) fun _ => ?_)⟩
  · have k1' : 1 ≤ k := by have z := of_decide_eq_true c4; omega
    refine ⟨_, rfl, _, rfl, p, c, l, _, m + 1, rfl, hp1, by omega, nl, hl1, hneV, hlenV, fun v H2 hv k2 hp2 => ?_⟩
    obtain ⟨z, hz, rfl⟩ := List.mem_map.mp hv
    refine ⟨_, rfl, _, rfl, _, rfl, _, _, rfl, rfl, p, c, l, k, names, m + 2, less2, hp2, by omega, by omega, by omega, nl, k2 l _ nl hl1, hne, hlen, fun v3 w3 H3 wa3 ly3 sg3 al3 k3 hp3 => ?_⟩
    refine ⟨(by show 3 ≤ sizeLine; decide), fun a ha => ?_⟩
    have x4 := same_new (o := .tup [.str "of", .str z, v3]) ha
    have wa4 : WA (L2.upd H3 a (.tup [.str "of", .str z, v3])) (.ref a) (.of z w3) := .of upd_same (wa3.same x4)
    have hp4 := hp3.same x4
    have hl4 := x4 _ _ (k3 l _ nl (k2 l _ nl hl1))
    have k04 := ((k1.trans k2).trans k3).trans (Keep.of_same (p := p) x4)
    refine ⟨_, rfl, _, rfl, _, rfl, _, rfl, _, _, rfl, rfl, p, c, l, k + 1, names, m + 2 + dw k, less1, hp4, by omega, by omega, by omega, nl, hl4, hne, hlen, fun v5 w5 H5 wa5 ly5 sg5 al5 k5 hp5 => ?_⟩
    refine ⟨(by show 3 ≤ sizeLine; decide), fun b hb => ?_⟩
    refine q _ (.to (.of z w3) w5) _ (.to upd_same ((WA.keep wa4 hp4 k5).same (same_new hb)) (wa5.same (same_new hb))) (by show max (w3.ly + 1) w5.ly + 1 ≤ k + 2; omega) (by show w3.sg + 1 + w5.sg + 1 ≤ _; omega) (by show ((decide (z ∈ names) && w3.all _) && w5.all _) = true; rw [decide_eq_true hz, al3, al5]; rfl) ((k04.trans k5).trans (Keep.new hb)) ((hp5.same (same_new hb)).up (by omega))
  all_goals
    refine ⟨_, rfl, _, rfl, _, rfl, _, _, rfl, rfl, p, c, l, k + 1, names, m + 1, less1, hp1, by omega, by omega, by omega, nl, hl1, hne, hlen, fun v3 w3 H3 wa3 ly3 sg3 al3 k3 hp3 => ?_⟩
    refine ⟨_, rfl, _, rfl, _, rfl, _, _, rfl, rfl, p, c, l, k + 1, names, m + 1 + dw (k + 1), less1, hp3, by omega, by omega, by omega, nl, k3 l _ nl hl1, hne, hlen, fun v5 w5 H5 wa5 ly5 sg5 al5 k5 hp5 => ?_⟩
    refine ⟨(by show 3 ≤ sizeLine; decide), fun b hb => ?_⟩
    exact q _ (.to w3 w5) _ (.to upd_same ((WA.keep wa3 hp3 k5).same (same_new hb)) (wa5.same (same_new hb))) (by show max w3.ly w5.ly + 1 ≤ k + 2; omega) (by show w3.sg + w5.sg + 1 ≤ _; omega) (by show (w3.all _ && w5.all _) = true; rw [al3, al5]; rfl) (((k1.trans k3).trans k5).trans (Keep.new hb)) ((hp5.same (same_new hb)).up (by omega))
end
end TF18
set_option maxHeartbeats 400000
namespace TF18
open PySem PySem.Spec L2 TG TA
open PyProof.Rows hiding St
/-! ### numbers handed one another -/
abbrev sRk : Stmt := top 83
theorem scRk : FnScope ["spool", "one", "other", "few", "product", "ahead", "some"] ["spool"] (defScope sRk) := ⟨rfl, rfl, rfl, by decide +kernel, rfl, by decide +kernel, by decide +kernel⟩
/-- what is drawn of those -/
def rkOk (w : Wr) : Prop := w.all okN = true ∧ w.ly ≤ 40 ∧ w.sg ≤ 80
def spRk : Sp := fun vs H Q _ => ∃ (p c : Addr) (m : Nat), vs = [.ref p] ∧ PenAt m H p c ∧ m ≤ 90000 ∧ ∀ (v' : V) (w : Wr) (H' : Hp), Keep p H H' → PenAt (m + 4) H' p c → WA H' v' w → rkOk w → Q v' H'
def RW (H : Hp) (v : V) : Prop := ∃ w, WA H v w ∧ rkOk w
theorem RW.mono {H H' : Hp} {v : V} (h : RW H v) (k : ∀ a xs, H a = some (.tup xs) → H' a = some (.tup xs)) : RW H' v := by
  obtain ⟨w, h1, h2⟩ := h
  exact ⟨w, h1.mono k, h2⟩
def Ws (H : Hp) (l : List (V × Wr)) : Prop := ∀ x ∈ l, WA H x.1 x.2
theorem Ws.at {H : Hp} {l : List (V × Wr)} (e : Ws H l) (i : Nat) {x : V × Wr} (h : l[i]? = some x := by rfl) : WA H x.1 x.2 := e x (List.mem_of_getElem? h)
theorem Ws.same {H H' : Hp} {l : List (V × Wr)} (e : Ws H l) (s : Same H H') : Ws H' l := fun x hx => (e x hx).same s
theorem Ws.push {H : Hp} {l : List (V × Wr)} {v : V} {w : Wr} (e : Ws H l) (h : WA H v w) : Ws H ((v, w) :: l) := fun x hx => by
  rcases List.mem_cons.mp hx with rfl | hx
  · exact h
  · exact e x hx
theorem ws_to {H : Hp} {a : Addr} {l : List (V × Wr)} {u v : V} {x y : Wr} (ha : H a = none) (e : Ws H l) (hu : WA H u x) (hv : WA H v y) : Ws (L2.upd H a (.tup [.str "to", u, v])) ((.ref a, .to x y) :: l) :=
  (e.same (new_same ha)).push (.to upd_same (hu.same (new_same ha)) (hv.same (new_same ha)))
theorem ws_of {H : Hp} {a : Addr} {l : List (V × Wr)} {n : Str} {v : V} {y : Wr} (ha : H a = none) (e : Ws H l) (hv : WA H v y) : Ws (L2.upd H a (.tup [.str "of", .str n, v])) ((.ref a, .of n y) :: l) :=
  (e.same (new_same ha)).push (.of upd_same (hv.same (new_same ha)))
def WL (l : List (V × Wr)) : List V := l.map (·.1)
theorem rk_by (w : Wr) (a : w.all okN = true) (b : w.ly ≤ 40) (c : w.sg ≤ 80) : rkOk w := ⟨a, b, c⟩
section
variable {P : Program} {w : World} {K : PySem.W.Frag} {mg : Str → Option Value} {base : Heap} {f f1 f2 f3 f4 : Addr} {fd d1 d2 d3 d4 : FuncData}
theorem ok_rk (F : Fun K "_law_reckoned" "_law_reckoned" sRk f fd) (T : Bn mg)
    (D__law_reeve : Df K mg "_law_reeve" sDraw f2 d2 ["spool", "many"]) (G__law_reeve : FnG P w K mg base CX0 3 f2 d2 ["spool", "many"] spDraw) (D__law_of : Df K mg "_law_of" sPick f3 d3 ["spool", "some"]) (G__law_of : FnG P w K mg base CX0 6 f3 d3 ["spool", "some"] (spPick K))
    (D__law_times : Df K mg "_law_times" sTimes f4 d4 ["number"]) (G__law_times : FnG P w K mg base CX0 1 f4 d4 ["number"] spTimes) : FnG P w K mg base CX0 7 f fd ["spool"] spRk := by
  refine fun_okG F scRk (fun vs H Q E h => ?_) (fun cdv A outer s H vs Q E hr h => ?_)
  · obtain ⟨p, c, m, rfl, _⟩ := h
    rfl
  obtain ⟨p, c, m, rfl, hp, hm, q⟩ := h
  refine ⟨_, (pss_cons (ps_par3 (i := 1) (j := 2) (l := 3) (by rfl) scRk.nd rfl rfl rfl (by decide) (by decide) (by decide) rfl rfl rfl (pa_cons (pe_cg D__law_times G__law_times hr (by decide) (pa_cons (pe_cg D__law_reeve G__law_reeve hr (by decide) (pa_cons (pv 0) (pa_cons pe_int pa_nil))) pa_nil)) (pa_cons (pe_cg D__law_times G__law_times hr (by decide) (pa_cons (pe_cg D__law_reeve G__law_reeve hr (by decide) (pa_cons (pv 0) (pa_cons pe_int pa_nil))) pa_nil)) (pa_cons (pe_cg D__law_times G__law_times hr (by decide) (pa_cons (pe_cg D__law_reeve G__law_reeve hr (by decide) (pa_cons (pv 0) (pa_cons pe_int pa_nil))) pa_nil)) pa_nil))) (by rfl))
      (pss_cons (ps_set (i := 4) scRk.nd rfl (.inl rfl) (pe_tup (pa_cons pe_str (pa_cons pe_str (pa_cons (pe_tup (pa_cons pe_str (pa_cons pe_str (pa_cons (pe_tup (pa_cons pe_str (pa_cons pe_str (pa_cons (pe_tup (pa_cons pe_str (pa_cons pe_str (pa_cons (pe_tup (pa_cons pe_str (pa_cons pe_str (pa_cons pe_str pa_nil)))) pa_nil)))) pa_nil)))) pa_nil)))) pa_nil)))))
      (pss_cons (ps_set (i := 5) scRk.nd rfl (.inl rfl) (pe_tup (pa_cons pe_str (pa_cons pe_str (pa_cons (pe_tup (pa_cons pe_str (pa_cons pe_str (pa_cons (pe_tup (pa_cons pe_str (pa_cons pe_str (pa_cons (pe_tup (pa_cons pe_str (pa_cons pe_str (pa_cons (pe_tup (pa_cons pe_str (pa_cons (pe_tup (pa_cons pe_str (pa_cons pe_str (pa_cons pe_str pa_nil)))) (pa_cons (pe_tup (pa_cons pe_str (pa_cons (pe_tup (pa_cons pe_str (pa_cons pe_str (pa_cons pe_str pa_nil)))) (pa_cons pe_str pa_nil)))) pa_nil)))) pa_nil)))) pa_nil)))) pa_nil)))) pa_nil)))))
      (pss_cons (ps_set (i := 6) scRk.nd rfl (.inl rfl) (pe_lst (pa_cons (pe_tup (pa_cons pe_str (pa_cons (pv 3) (pa_cons (pv 2) pa_nil)))) (pa_cons (pe_tup (pa_cons pe_str (pa_cons (pe_tup (pa_cons pe_str (pa_cons (pv 4) (pa_cons (pv 1) pa_nil)))) (pa_cons (pv 2) pa_nil)))) (pa_cons (pe_tup (pa_cons pe_str (pa_cons (pe_tup (pa_cons pe_str (pa_cons (pv 5) (pa_cons (pv 1) pa_nil)))) (pa_cons (pv 2) pa_nil)))) (pa_cons (pe_tup (pa_cons pe_str (pa_cons (pe_tup (pa_cons pe_str (pa_cons (pv 3) (pa_cons (pv 3) pa_nil)))) (pa_cons (pv 2) pa_nil)))) pa_nil))))))
      (pss_cons (ps_set (i := 6) scRk.nd rfl (.inl rfl) (pe_op op_cat (pv 6) (pe_lst (pa_cons (pe_tup (pa_cons pe_str (pa_cons (pe_tup (pa_cons pe_str (pa_cons (pe_tup (pa_cons pe_str (pa_cons pe_str (pa_cons (pe_tup (pa_cons pe_str (pa_cons pe_str (pa_cons pe_str pa_nil)))) pa_nil)))) (pa_cons (pe_tup (pa_cons pe_str (pa_cons (pv 1) (pa_cons (pv 2) pa_nil)))) pa_nil)))) (pa_cons (pv 3) pa_nil)))) (pa_cons (pe_tup (pa_cons pe_str (pa_cons (pe_tup (pa_cons pe_str (pa_cons (pe_tup (pa_cons pe_str (pa_cons (pv 3) (pa_cons (pe_tup (pa_cons pe_str (pa_cons pe_str (pa_cons pe_str pa_nil)))) pa_nil)))) (pa_cons (pv 1) pa_nil)))) (pa_cons (pv 2) pa_nil)))) pa_nil)))))
      (pss_one (ps_ret (pe_cg D__law_of G__law_of hr (by decide) (pa_cons (pv 0) (pa_cons (pv 6) pa_nil)))))))))), ?_⟩
  refine ⟨_, rfl, p, c, 5, m, rfl, hp, by omega, Dv.of (by decide) (by decide), fun r H1 r0 r1 k1 hp1 => ?_⟩
  obtain ⟨ka, rfl⟩ := Int.eq_ofNat_of_zero_le r0
  refine ⟨ka, rfl, by omega, fun v1 H2 s2 h1 => ?_⟩
  have hp2 := hp1.same s2
  refine ⟨_, rfl, p, c, 4, m + 1, rfl, hp2, by omega, Dv.of (by decide) (by decide), fun r' H3 r2 r3 k3 hp3 => ?_⟩
  obtain ⟨kb, rfl⟩ := Int.eq_ofNat_of_zero_le r2
  refine ⟨kb, rfl, by omega, fun v2 H4 s4 h2 => ?_⟩
  have hp4 := hp3.same s4
  refine ⟨_, rfl, p, c, 3, m + 2, rfl, hp4, by omega, Dv.of (by decide) (by decide), fun r'' H5 r4 r5 k5 hp5 => ?_⟩
  obtain ⟨kc, rfl⟩ := Int.eq_ofNat_of_zero_le r4
  refine ⟨kc, rfl, by omega, fun v3 H6 s6 h3 => ?_⟩
  have pk : ∀ {n : Nat} {G G' : Hp}, PenAt n G p c → Keep p G G' → ∀ a xs, G a = some (.tup xs) → G' a = some (.tup xs) := fun {n G G'} hp k a xs h => k a _ (fun z => by
    obtain ⟨ys, e⟩ := hp.lst
    subst z
    rw [e] at h
    cases h) h
  have h1 := (((h1.mono (pk hp2 k3)).same s4).mono (pk hp4 k5)).same s6
  have h2 := (h2.mono (pk hp4 k5)).same s6
  have hp6 := hp5.same s6
  have KK := ((((k1.trans (Keep.of_same s2)).trans k3).trans (Keep.of_same s4)).trans k5).trans (Keep.of_same s6)
  have e : Ws H6 [(v3, twW kc), (v2, twW kb), (v1, twW ka)] := (((show Ws H6 [] from fun x hx => nomatch hx).push h1).push h2).push h3
  have S : Same H6 H6 := fun _ _ h => h
  clear h1 h2 h3 s2 s4 s6 k1 k3 k5 hp1 hp2 hp3 hp4 hp5
  refine ⟨v1, v2, v3, rfl, ?_⟩
  refine ⟨(by show 3 ≤ sizeLine; decide), fun a1 h1 => ?_⟩
  have S := S.trans (new_same (o := .tup [.str "to", .str "m", .str "f"]) h1)
  have e := ws_to h1 e (.nm "m") (.nm "f")
  generalize L2.upd H6 a1 (.tup [.str "to", .str "m", .str "f"]) = G1 at S e ⊢
  refine ⟨(by show 3 ≤ sizeLine; decide), fun a2 h2 => ?_⟩
  have S := S.trans (new_same (o := .tup [.str "to", .str "n", .ref a1]) h2)
  have e := ws_to h2 e (.nm "n") (e.at 0)
  generalize L2.upd G1 a2 (.tup [.str "to", .str "n", .ref a1]) = G2 at S e ⊢
  refine ⟨(by show 3 ≤ sizeLine; decide), fun a3 h3 => ?_⟩
  have S := S.trans (new_same (o := .tup [.str "of", .str "f", .ref a2]) h3)
  have e := ws_of (n := "f") h3 e (e.at 0)
  generalize L2.upd G2 a3 (.tup [.str "of", .str "f", .ref a2]) = G3 at S e ⊢
  refine ⟨(by show 3 ≤ sizeLine; decide), fun a4 h4 => ?_⟩
  have S := S.trans (new_same (o := .tup [.str "of", .str "m", .ref a3]) h4)
  have e := ws_of (n := "m") h4 e (e.at 0)
  generalize L2.upd G3 a4 (.tup [.str "of", .str "m", .ref a3]) = G4 at S e ⊢
  refine ⟨(by show 3 ≤ sizeLine; decide), fun a5 h5 => ?_⟩
  have S := S.trans (new_same (o := .tup [.str "of", .str "n", .ref a4]) h5)
  have e := ws_of (n := "n") h5 e (e.at 0)
  generalize L2.upd G4 a5 (.tup [.str "of", .str "n", .ref a4]) = G5 at S e ⊢
  refine ⟨(by show 3 ≤ sizeLine; decide), fun a6 h6 => ?_⟩
  have S := S.trans (new_same (o := .tup [.str "to", .str "n", .str "f"]) h6)
  have e := ws_to h6 e (.nm "n") (.nm "f")
  generalize L2.upd G5 a6 (.tup [.str "to", .str "n", .str "f"]) = G6 at S e ⊢
  refine ⟨(by show 3 ≤ sizeLine; decide), fun a7 h7 => ?_⟩
  have S := S.trans (new_same (o := .tup [.str "to", .str "m", .str "f"]) h7)
  have e := ws_to h7 e (.nm "m") (.nm "f")
  generalize L2.upd G6 a7 (.tup [.str "to", .str "m", .str "f"]) = G7 at S e ⊢
  refine ⟨(by show 3 ≤ sizeLine; decide), fun a8 h8 => ?_⟩
  have S := S.trans (new_same (o := .tup [.str "to", .ref a7, .str "x"]) h8)
  have e := ws_to h8 e (e.at 0) (.nm "x")
  generalize L2.upd G7 a8 (.tup [.str "to", .ref a7, .str "x"]) = G8 at S e ⊢
  refine ⟨(by show 3 ≤ sizeLine; decide), fun a9 h9 => ?_⟩
  have S := S.trans (new_same (o := .tup [.str "to", .ref a6, .ref a8]) h9)
  have e := ws_to h9 e (e.at 2) (e.at 0)
  generalize L2.upd G8 a9 (.tup [.str "to", .ref a6, .ref a8]) = G9 at S e ⊢
  refine ⟨(by show 3 ≤ sizeLine; decide), fun a10 h10 => ?_⟩
  have S := S.trans (new_same (o := .tup [.str "of", .str "x", .ref a9]) h10)
  have e := ws_of (n := "x") h10 e (e.at 0)
  generalize L2.upd G9 a10 (.tup [.str "of", .str "x", .ref a9]) = G10 at S e ⊢
  refine ⟨(by show 3 ≤ sizeLine; decide), fun a11 h11 => ?_⟩
  have S := S.trans (new_same (o := .tup [.str "of", .str "f", .ref a10]) h11)
  have e := ws_of (n := "f") h11 e (e.at 0)
  generalize L2.upd G10 a11 (.tup [.str "of", .str "f", .ref a10]) = G11 at S e ⊢
  refine ⟨(by show 3 ≤ sizeLine; decide), fun a12 h12 => ?_⟩
  have S := S.trans (new_same (o := .tup [.str "of", .str "m", .ref a11]) h12)
  have e := ws_of (n := "m") h12 e (e.at 0)
  generalize L2.upd G11 a12 (.tup [.str "of", .str "m", .ref a11]) = G12 at S e ⊢
  refine ⟨(by show 3 ≤ sizeLine; decide), fun a13 h13 => ?_⟩
  have S := S.trans (new_same (o := .tup [.str "of", .str "n", .ref a12]) h13)
  have e := ws_of (n := "n") h13 e (e.at 0)
  generalize L2.upd G12 a13 (.tup [.str "of", .str "n", .ref a12]) = G13 at S e ⊢
  refine ⟨_, rfl, _, rfl, (by show 3 ≤ sizeLine; decide), fun a14 h14 => ?_⟩
  have S := S.trans (new_same (o := .tup [.str "to", v3, v2]) h14)
  have e := ws_to h14 e (e.at 13) (e.at 14)
  generalize L2.upd G13 a14 (.tup [.str "to", v3, v2]) = G14 at S e ⊢
  refine ⟨_, rfl, _, rfl, (by show 3 ≤ sizeLine; decide), fun a15 h15 => ?_⟩
  have S := S.trans (new_same (o := .tup [.str "to", .ref a5, v1]) h15)
  have e := ws_to h15 e (e.at 9) (e.at 16)
  generalize L2.upd G14 a15 (.tup [.str "to", .ref a5, v1]) = G15 at S e ⊢
  refine ⟨_, rfl, (by show 3 ≤ sizeLine; decide), fun a16 h16 => ?_⟩
  have S := S.trans (new_same (o := .tup [.str "to", .ref a15, v2]) h16)
  have e := ws_to h16 e (e.at 0) (e.at 16)
  generalize L2.upd G15 a16 (.tup [.str "to", .ref a15, v2]) = G16 at S e ⊢
  refine ⟨_, rfl, _, rfl, (by show 3 ≤ sizeLine; decide), fun a17 h17 => ?_⟩
  have S := S.trans (new_same (o := .tup [.str "to", .ref a13, v1]) h17)
  have e := ws_to h17 e (e.at 3) (e.at 18)
  generalize L2.upd G16 a17 (.tup [.str "to", .ref a13, v1]) = G17 at S e ⊢
  refine ⟨_, rfl, (by show 3 ≤ sizeLine; decide), fun a18 h18 => ?_⟩
  have S := S.trans (new_same (o := .tup [.str "to", .ref a17, v2]) h18)
  have e := ws_to h18 e (e.at 0) (e.at 18)
  generalize L2.upd G17 a18 (.tup [.str "to", .ref a17, v2]) = G18 at S e ⊢
  refine ⟨_, rfl, _, rfl, (by show 3 ≤ sizeLine; decide), fun a19 h19 => ?_⟩
  have S := S.trans (new_same (o := .tup [.str "to", v3, v3]) h19)
  have e := ws_to h19 e (e.at 18) (e.at 18)
  generalize L2.upd G18 a19 (.tup [.str "to", v3, v3]) = G19 at S e ⊢
  refine ⟨_, rfl, (by show 3 ≤ sizeLine; decide), fun a20 h20 => ?_⟩
  have S := S.trans (new_same (o := .tup [.str "to", .ref a19, v2]) h20)
  have e := ws_to h20 e (e.at 0) (e.at 20)
  generalize L2.upd G19 a20 (.tup [.str "to", .ref a19, v2]) = G20 at S e ⊢
  refine ⟨(by show 4 ≤ sizeLine; decide), fun L1 hL1 => ?_⟩
  have at1 : (L2.upd G20 L1 (.lst [.ref a14, .ref a16, .ref a18, .ref a20])) L1 = some (.lst [.ref a14, .ref a16, .ref a18, .ref a20]) := upd_same
  have x1 := new_same (o := .lst [.ref a14, .ref a16, .ref a18, .ref a20]) hL1
  have e := e.same x1
  have L1p : L1 ≠ p := (hp6.same S).ne hL1
  have S := S.trans x1
  clear x1
  generalize L2.upd G20 L1 (.lst [.ref a14, .ref a16, .ref a18, .ref a20]) = K1 at at1 e S ⊢
  have S1 : Same K1 K1 := fun _ _ h => h
  refine ⟨_, rfl, (by show 3 ≤ sizeLine; decide), fun a21 h21 => ?_⟩
  have S := S.trans (new_same (o := .tup [.str "of", .str "b", .str "b"]) h21)
  have S1 := S1.trans (new_same (o := .tup [.str "of", .str "b", .str "b"]) h21)
  have e := ws_of (n := "b") h21 e (.nm "b")
  generalize L2.upd K1 a21 (.tup [.str "of", .str "b", .str "b"]) = G21 at S S1 e ⊢
  refine ⟨(by show 3 ≤ sizeLine; decide), fun a22 h22 => ?_⟩
  have S := S.trans (new_same (o := .tup [.str "of", .str "a", .ref a21]) h22)
  have S1 := S1.trans (new_same (o := .tup [.str "of", .str "a", .ref a21]) h22)
  have e := ws_of (n := "a") h22 e (e.at 0)
  generalize L2.upd G21 a22 (.tup [.str "of", .str "a", .ref a21]) = G22 at S S1 e ⊢
  refine ⟨_, rfl, _, rfl, (by show 3 ≤ sizeLine; decide), fun a23 h23 => ?_⟩
  have S := S.trans (new_same (o := .tup [.str "to", v1, v2]) h23)
  have S1 := S1.trans (new_same (o := .tup [.str "to", v1, v2]) h23)
  have e := ws_to h23 e (e.at 24) (e.at 23)
  generalize L2.upd G22 a23 (.tup [.str "to", v1, v2]) = G23 at S S1 e ⊢
  refine ⟨(by show 3 ≤ sizeLine; decide), fun a24 h24 => ?_⟩
  have S := S.trans (new_same (o := .tup [.str "to", .ref a22, .ref a23]) h24)
  have S1 := S1.trans (new_same (o := .tup [.str "to", .ref a22, .ref a23]) h24)
  have e := ws_to h24 e (e.at 1) (e.at 0)
  generalize L2.upd G23 a24 (.tup [.str "to", .ref a22, .ref a23]) = G24 at S S1 e ⊢
  refine ⟨_, rfl, (by show 3 ≤ sizeLine; decide), fun a25 h25 => ?_⟩
  have S := S.trans (new_same (o := .tup [.str "to", .ref a24, v3]) h25)
  have S1 := S1.trans (new_same (o := .tup [.str "to", .ref a24, v3]) h25)
  have e := ws_to h25 e (e.at 0) (e.at 24)
  generalize L2.upd G24 a25 (.tup [.str "to", .ref a24, v3]) = G25 at S S1 e ⊢
  refine ⟨_, rfl, (by show 3 ≤ sizeLine; decide), fun a26 h26 => ?_⟩
  have S := S.trans (new_same (o := .tup [.str "of", .str "u", .str "y"]) h26)
  have S1 := S1.trans (new_same (o := .tup [.str "of", .str "u", .str "y"]) h26)
  have e := ws_of (n := "u") h26 e (.nm "y")
  generalize L2.upd G25 a26 (.tup [.str "of", .str "u", .str "y"]) = G26 at S S1 e ⊢
  refine ⟨(by show 3 ≤ sizeLine; decide), fun a27 h27 => ?_⟩
  have S := S.trans (new_same (o := .tup [.str "to", v3, .ref a26]) h27)
  have S1 := S1.trans (new_same (o := .tup [.str "to", v3, .ref a26]) h27)
  have e := ws_to h27 e (e.at 26) (e.at 0)
  generalize L2.upd G26 a27 (.tup [.str "to", v3, .ref a26]) = G27 at S S1 e ⊢
  refine ⟨_, rfl, (by show 3 ≤ sizeLine; decide), fun a28 h28 => ?_⟩
  have S := S.trans (new_same (o := .tup [.str "to", .ref a27, v1]) h28)
  have S1 := S1.trans (new_same (o := .tup [.str "to", .ref a27, v1]) h28)
  have e := ws_to h28 e (e.at 0) (e.at 29)
  generalize L2.upd G27 a28 (.tup [.str "to", .ref a27, v1]) = G28 at S S1 e ⊢
  refine ⟨_, rfl, (by show 3 ≤ sizeLine; decide), fun a29 h29 => ?_⟩
  have S := S.trans (new_same (o := .tup [.str "to", .ref a28, v2]) h29)
  have S1 := S1.trans (new_same (o := .tup [.str "to", .ref a28, v2]) h29)
  have e := ws_to h29 e (e.at 0) (e.at 29)
  generalize L2.upd G28 a29 (.tup [.str "to", .ref a28, v2]) = G29 at S S1 e ⊢
  refine ⟨(by show 2 ≤ sizeLine; decide), fun M hM => ?_⟩
  have y3 := new_same (o := .lst [.ref a25, .ref a29]) hM
  refine ⟨L1, M, _, _, rfl, rfl, y3 _ _ (S1 _ _ at1), upd_same, (by show 6 ≤ sizeLine; decide), fun N hN => ?_⟩
  have y4 := new_same (o := .lst ([.ref a14, .ref a16, .ref a18, .ref a20] ++ [.ref a25, .ref a29])) hN
  have y34 := y3.trans y4
  have SS := S.trans y34
  have Np : N ≠ p := (hp6.same (S.trans y3)).ne hN
  refine ⟨_, rfl, _, rfl, p, c, N, _, m + 3, rfl, hp6.same SS, by omega, Np, upd_same, List.cons_ne_nil _ _, (by show 6 ≤ 1000000; decide), fun v H7 hv k7 hp7 => ?_⟩
  have lk : ∀ k, (twW k).ly = k + 3 := fun k => by show (twB k).ly + 1 + 1 = _; rw [twB_ly]
  have gk : ∀ k, (twW k).sg = 2 * k + 3 := fun k => by show (twB k).sg + 1 + 1 = _; rw [twB_sg]
  have la := lk ka; have lb := lk kb; have lc := lk kc; have ga := gk ka; have gb := gk kb; have gc := gk kc
  have oa := twW_ok ka; have ob := twW_ok kb; have oc := twW_ok kc
  have ev : RW G29 v := by
    rcases List.mem_cons.mp hv with rfl | hv
    · exact ⟨_, e.at 15, rk_by _ (by simp only [Wr.all, oa, ob, oc, Bool.and_true, Bool.true_and] <;> decide +kernel) (by simp only [Wr.ly, la, lb, lc]; omega) (by simp only [Wr.sg, ga, gb, gc]; omega)⟩
    rcases List.mem_cons.mp hv with rfl | hv
    · exact ⟨_, e.at 13, rk_by _ (by simp only [Wr.all, oa, ob, oc, Bool.and_true, Bool.true_and] <;> decide +kernel) (by simp only [Wr.ly, la, lb, lc]; omega) (by simp only [Wr.sg, ga, gb, gc]; omega)⟩
    rcases List.mem_cons.mp hv with rfl | hv
    · exact ⟨_, e.at 11, rk_by _ (by simp only [Wr.all, oa, ob, oc, Bool.and_true, Bool.true_and] <;> decide +kernel) (by simp only [Wr.ly, la, lb, lc]; omega) (by simp only [Wr.sg, ga, gb, gc]; omega)⟩
    rcases List.mem_cons.mp hv with rfl | hv
    · exact ⟨_, e.at 9, rk_by _ (by simp only [Wr.all, oa, ob, oc, Bool.and_true, Bool.true_and] <;> decide +kernel) (by simp only [Wr.ly, la, lb, lc]; omega) (by simp only [Wr.sg, ga, gb, gc]; omega)⟩
    rcases List.mem_cons.mp hv with rfl | hv
    · exact ⟨_, e.at 4, rk_by _ (by simp only [Wr.all, oa, ob, oc, Bool.and_true, Bool.true_and] <;> decide +kernel) (by simp only [Wr.ly, la, lb, lc]; omega) (by simp only [Wr.sg, ga, gb, gc]; omega)⟩
    rw [List.mem_singleton.mp hv]
    exact ⟨_, e.at 0, rk_by _ (by simp only [Wr.all, oa, ob, oc, Bool.and_true, Bool.true_and] <;> decide +kernel) (by simp only [Wr.ly, la, lb, lc]; omega) (by simp only [Wr.sg, ga, gb, gc]; omega)⟩
  have RWt := (ev.mono fun a xs h => y34 _ _ h).mono (pk (hp6.same SS) k7)
  obtain ⟨wv, q1, q2⟩ := RWt
  exact q v wv H7 ((KK.trans (Keep.of_same SS)).trans k7) hp7 q1 q2
end
end TF18
set_option maxHeartbeats 400000
/-! own rules: try .. except C as n: m = n, where the error is held behind the suite; its fields, isinstance of it -/
namespace TG
open PySem PySem.Spec L2
open PyProof.Rows hiding St
/-- an error that was caught, of the class C, its dict at d -/
def xca (a C d : Addr) : HO := .ext fun h => ∃ (ob : Obj) (us : Array Value), h.get? a = some ob ∧ Zc (.ref C) (some d) ob ∧ ob.data = .fields us
def CauAt (H : Hp) (a C : Addr) (fs : List (Str × V)) : Prop := ∃ dd, H a = some (xca a C dd) ∧ H dd = some (.xd fs)
theorem CauAt.same {H H' : Hp} {a C : Addr} {fs : List (Str × V)} (h : CauAt H a C fs) (k : ∀ b o, H b = some o → H' b = some o) : CauAt H' a C fs :=
  h.imp fun _ q => ⟨k _ _ q.1, k _ _ q.2⟩
section
variable {X : Cx} {ps : List (Addr × Obj)} {τ : L2.St} {G : Hp} {z : Shared}
/-- a pinned error object, new since the def began, is told among the objects -/
theorem inv_hold {x C dd : Addr} {ob : Obj} (J : Inv X ((x, ob) :: ps) τ G z) (h0 : X.s_0.heap.get? x = none) (np : ∀ r ∈ X.pn ++ ps, r.1 ≠ x) (hz : Zc (.ref C) (some dd) ob) (hf : ∃ us, ob.data = .fields us) :
    Inv X ps τ (upd G x (xca x C dd)) z := by
  obtain ⟨us, hus⟩ := hf
  obtain ⟨there, gx, nLoc, nFs, noCell⟩ := J.pin (x, ob) (List.mem_append_right _ List.mem_cons_self)
  have off : ∀ b, b ≠ x → upd G x (xca x C dd) b = G b := fun b n => upd_ne n
  have tracked : ∀ {b o}, G b = some o → b ≠ x := fun e => ne_of_none e gx
  have un : Un X.fs X.ex X.H_0 (upd G x (xca x C dd)) X.s_0.heap z.heap := by
    have B := J.base
    refine { B with free := ?_, tups := ?_, frzs := ?_, tbls := ?_ }
    · intro b o e n hx
      rw [off b fun q => by rw [q, h0] at e; cases e]
      exact B.free b o e n hx
    · intro b us e
      have q := B.tups b us e
      rw [off b (tracked q)]
      exact q
    · intro b o u e
      have q := B.frzs b o u e
      rw [off b (tracked q)]
      exact q
    · intro b rs e
      have ⟨more, q⟩ := B.tbls b rs e
      exact ⟨more, (off b (tracked q)).trans q⟩
  have cells : ∀ y c, X.env.cells.lookup y = some c → upd G x (xca x C dd) c = none := by
    intro y c e
    rw [off c ?_]
    · exact J.freeC y c e
    · rintro rfl
      obtain ⟨v, o, e2, e3⟩ := J.cell y c e
      rw [there] at e2
      cases e2
      exact noCell v e3
  have pinned : ∀ r ∈ X.pn ++ ps, z.heap.get? r.1 = some r.2 ∧ upd G x (xca x C dd) r.1 = none ∧ r.1 ≠ X.env.locals ∧ r.1 ∉ X.fs ∧ ∀ v, r.2.data ≠ .cell v := by
    intro r hr
    have q := J.pin r (by
      rw [List.mem_append] at hr ⊢
      exact hr.imp id (List.mem_cons_of_mem _))
    rw [off r.1 (np r hr)]
    exact q
  have all : HOk X.prog X.w (upd G x (xca x C dd)) z.heap := J.hok.laidN (fun _ _ e => e) gx ⟨⟨ob, us, there, hz, hus⟩, ⟨ob, there⟩, fun _ _ ⟨o, v, q, r⟩ k => ⟨o, v, k o q, r⟩⟩
  exact ⟨J.ok, J.os, J.bare, un, J.loc, J.cell, (off _ (Ne.symm nLoc)).trans J.free, cells, pinned, all, J.len⟩
/-- behind the suite the error stays pinned a little longer -/
theorem unsuite_hold {x : Addr} {ob : Obj} (J : Inv (X.suite x ((x, ob) :: (X.pn ++ ps))) [] τ G z) (k : X.Ok) : Inv X ((x, ob) :: ps) τ G z := by
  refine ⟨k, J.os, J.bare, J.base, J.loc, J.cell, J.free, J.freeC, fun r hr => J.pin r ?_, J.hok, J.len⟩
  show r ∈ ((x, ob) :: (X.pn ++ ps)) ++ []
  rw [List.append_nil]
  simp only [List.mem_append, List.mem_cons] at hr ⊢
  rcases hr with a | a | a
  · exact .inr (.inl a)
  · exact .inl a
  · exact .inr (.inr a)
theorem not_frs {B h : Heap} {l : List Env} {x : Addr} {o : Obj} {us : Array Value} (ff : h.FunFrames B l) (e : h.get? x = some o) (d : o.data = .fields us) : x ∉ frs l := fun m => by
  have ⟨_, o2, e2, no⟩ := ff.mem m
  have : o = o2 := Option.some.inj (e.symm.trans e2)
  exact no us (this ▸ d)
/-- an error in the air is new: to the def's entry, and to what is pinned -/
theorem air_new {B : Heap} {x : Addr} (J : Inv X ps τ G z) (hex : X.ex = []) (ground : ∀ b o, z.heap.get? b = some o → b ∉ frs X.stack → B.get? b = some o) (hB : B.get? x = none) (nf : x ∉ frs X.stack) :
    X.s_0.heap.get? x = none ∧ ∀ r ∈ X.pn ++ ps, r.1 ≠ x := by
  have no : ∀ o, z.heap.get? x ≠ some o := fun o e => by
    have q := ground x o e nf
    rw [hB] at q
    cases q
  refine ⟨?_, fun r hr q => no r.2 (q ▸ (J.pin r hr).1)⟩
  match e : X.s_0.heap.get? x with
  | none => rfl
  | some o =>
    have ⟨o2, e2⟩ := J.base.there x o e (by rw [hex]; exact List.not_mem_nil)
    exact absurd e2 (no o2)
/-- what the clause 'except c as n: m = n' wishes: slot i is n's, slot j is m's -/
def wHold (K : PySem.W.Frag) (c : Value) (i j : Nat) (Wout : WX) (D : Ends) : WX := fun cls d σ H =>
  ∃ b, PySem.W.exmOne K cls c = some b ∧ (b = true → ∃ C dd, cls = .ref C ∧ d = some dd ∧ ∀ a, H a = none → D.nx (((σ.set i (some (.ref a))).set j (some (.ref a))).set i none) (upd H a (xca a C dd))) ∧ (b = false → Wout cls d σ H)
end
section
variable {X : Cx} {y n m : Str} {c : Value} {i j : Nat} {body : List Stmt} {ny pos pos' p1 p2 p3 : Pos} {tb : WX → TS} {Wout : WX}
/-- the suite itself -/
theorem hold_run {ps : List (Addr × Obj)} {τ : L2.St} {G : Hp} {z : Shared} {x : Addr} {ob : Obj} (hN : X.N.Nodup) (hi : X.N[i]? = some n) (hj : X.N[j]? = some m) (hln : X.env.kindOf n = some .local) (hlm : X.env.kindOf m = some .local) (hnd : (n == ("__debug__" : Str)) = false) (hncd : (n == ("__classdict__" : Str)) = false)
    (J : Inv (X.suite x ((x, ob) :: (X.pn ++ ps))) [] τ G z) (at_ : τ[i]? = some (some (.ref x))) :
    wpAny (model X.prog X.w) (X.A.mark (some (.ref x))) (execs [.Assign [.Name m p1] (.Name n p2) p3] X.env) (fun f z' => f = .next ∧ Inv (X.suite x ((x, ob) :: (X.pn ++ ps))) [] (τ.set j (some (.ref x))) G z') (fun _ _ => False) z := by
  have rule := pss_one (ps_set (X := X.suite x ((x, ob) :: (X.pn ++ ps))) (pos := p3) (pos' := p1) (i := j) hN hj (.inl hlm) (pe_var (pos := p2) (i := i) hi (.inl hln) hnd hncd) (hf := .inr hlm))
  refine wpAny_mono (rule.run [] z τ G { nx := fun τ' G' => τ' = τ.set j (some (.ref x)) ∧ G' = G, rt := fun _ _ => False, bk := fun _ _ => False, ct := fun _ _ => False } J ⟨_, at_, rfl, rfl⟩) (fun f z' q => ?_) fun _ _ q => q
  match f, q with
  | .next, ⟨_, _, J', e1, e2⟩ => exact ⟨rfl, e1 ▸ e2 ▸ J'⟩
  | .brk, ⟨_, _, _, q⟩ => exact q.elim
  | .cont, ⟨_, _, _, q⟩ => exact q.elim
  | .ret _, ⟨_, _, _, _, _, q⟩ => exact q.elim
theorem ps_try_hold (hstk : X.stack = X.env :: X.outer) (hfrm : X.env.frame = some X.env.locals) (hex : X.ex = []) (hN : X.N.Nodup) (hi : X.N[i]? = some n) (hj : X.N[j]? = some m) (hln : X.env.kindOf n = some .local) (hlm : X.env.kindOf m = some .local) (hc : Names X y c) (out : Takes X Wout)
    (hb : ∀ (W : WX) (pn : List (Addr × Obj)) (xe : Value → Shared → Prop), Takes (X.tr pn xe) W → PassesOwn (model X.prog X.w) X.A X.env xe → PSs (X.tr pn xe) body (tb W)) (hnd : (n == ("__debug__" : Str)) = false := by decide) (hncd : (n == ("__classdict__" : Str)) = false := by decide) :
    PS X (.Try body [.ExceptHandler (some (.Name y ny)) (some n) [.Assign [.Name m p1] (.Name n p2) p3] pos'] [] [] pos) (fun D σ H => tb (wHold X.K c i j Wout D) D σ H) := by
  refine ⟨fun ps z τ G D J rd => wpAny_Try_except ?_⟩
  have frames : X.A.frames = some (X.env :: X.outer) := by rw [← hstk]; exact J.ok.frames
  refine wpAny_mono ((hb (wHold X.K c i j Wout D) (X.pn ++ ps) (fun err z1 => wpAny (model X.prog X.w) X.A (noteFrame err X.env) (fun _ z2 => wpAny (model X.prog X.w) X.A (setFlight err none)
    (fun _ z3 => wpAny (model X.prog X.w) X.A (handleBy err X.env [.ExceptHandler (some (.Name y ny)) (some n) [.Assign [.Name m p1] (.Name n p2) p3] pos']) (SP X ps D) X.xe z3) X.xe z2) X.xe z1) ?air PassesOwn.looking).run [] z τ G D (J.toTry _) rd) (fun f z1 q => ?done) fun _ _ q => q
  case done =>
    match f, q with
    | .next, ⟨τ1, G1, J1, q1⟩ => exact wpAny_execs_nil ⟨τ1, G1, J1.ofTry J.ok, q1⟩
    | .brk, ⟨τ1, G1, J1, q1⟩ => exact ⟨τ1, G1, J1.ofTry J.ok, q1⟩
    | .cont, ⟨τ1, G1, J1, q1⟩ => exact ⟨τ1, G1, J1.ofTry J.ok, q1⟩
    | .ret u, ⟨v1, τ1, G1, J1, r1, q1⟩ => exact ⟨v1, τ1, G1, J1.ofTry J.ok, r1, q1⟩
  case air =>
    rintro _ z1 ⟨x, B, zI, ps1, τ1, G1, cls, d, rfl, JT, ground, up, sky, gx, same, bare, b, asked, yes, no⟩
    have JI : Inv X ps τ1 G1 zI := JT.ofTry J.ok
    rw [show (X.tr (X.pn ++ ps) _).stack = X.stack from rfl] at ground
    have sky1 : Sky B (X.env :: X.outer) x (Zc cls d) X.env.locals z1.heap := by rw [← hstk]; exact sky
    refine Sky.land Zc.steady frames hfrm sky1 fun hp2 fly2 up2 => ?_
    have J2 : Inv X ps τ1 G1 { z1 with heap := hp2 } := JI.landed ground fly2.1 (up.trans up2) same bare
    have ⟨o2, us2, at2, zc2, dat2⟩ := fly2.there
    have nf : x ∉ frs (X.env :: X.outer) := not_frs fly2.2.2.1 at2 dat2
    have nloc : x ≠ X.env.locals := by
      rintro rfl
      exact nf (List.mem_filterMap.mpr ⟨_, List.mem_cons_self, hfrm⟩)
    have nfs : x ∉ X.fs := fun mm => by
      have ⟨en, me, q⟩ := List.mem_filterMap.mp mm
      exact nf (List.mem_filterMap.mpr ⟨en, .tail _ me, q⟩)
    have ⟨new0, newP⟩ := air_new JI hex ground fly2.2.1 (by rw [hstk]; exact nf)
    have S2 := J2.suite at2 dat2 gx nloc nfs
    have looks : PySem.W.Looks (model X.prog X.w) hp2 (typeOf (.ref x)) cls := fun _ _ _ _ k q => wpAny_typeOf_ref (k _ _ at2) (by rw [zc2.1]; exact q)
    have ask := PySem.W.exm_one (M := model X.prog X.w) J2.kIn looks asked
    refine wpAny_handleBy_cons (codeAny_handlers_test ?_) (fun w => nomatch w)
    have named : ∀ {Q : Value → Shared → Prop} {E : Value → Shared → Prop}, Q c { z1 with heap := hp2 } → wpAny (model X.prog X.w) (X.A.mark (some (.ref x))) (eval (.Name y ny) X.env) Q E { z1 with heap := hp2 } := by
      intro Q E q
      obtain ⟨g1, g2, g3 | ⟨g3, g4, g5⟩⟩ := hc
      · exact ld_glob S2 g1 g3 q g2
      · exact ld_blt S2 g1 g3 g4 q g5 g2
    refine named (ask.here ?_)
    match b, yes, no with
    | true, yes, _ =>
      obtain ⟨C, dd, rfl, rfl, after⟩ := yes rfl
      refine codeAny_handlers_suite_as (HandSPX.lands_againZ fly2 fun hp3 fly3 up3 => ?_)
      have ⟨o3, us3, at3, zc3, dat3⟩ := fly3.there
      have S3 := (JI.landed (s' := { z1 with heap := hp3 }) ground fly3.1 ((up.trans up2).trans up3) same bare).suite at3 dat3 gx nloc nfs
      refine store_ok (X := X.suite x _) (v := V.ref x) S3 hN hi (.inl hln) rfl (fun z4 S4 => ?_) (.inr hln)
      refine wpAny_mono (hold_run hN hi hj hln hlm hnd hncd S4 (by rw [List.getElem?_set_self (by rw [JI.len]; exact (List.getElem?_eq_some_iff.mp hi).1)])) (fun f z5 q => ?_) fun _ _ q => q.elim
      obtain ⟨rfl, S5⟩ := q
      exact gone_ok (unsuite_hold S5 J.ok) hN hi hln fun z6 J6 => ⟨_, _, inv_hold J6 new0 newP zc3 ⟨_, dat3⟩, after x gx⟩
    | false, _, no =>
      refine wpAny_handleBy_nil ?_
      have ⟨_, _, _, o4, us4, T4, _, _, at4, _, dat4, tr4, _⟩ := fly2
      unfold PySem.passOn
      refine wpAny_bind (wpAny_field at4 dat4 tr4 ?_)
      rw [if_neg (by simp : ¬ ((Value.ref T4 == Value.none) = true))]
      have rise : wpAny (model X.prog X.w) X.A (setFlight (.ref x) X.env.frame) (fun _ z2 => wpAny (model X.prog X.w) X.A (throw (.ref x) : Sem Flow) (SP X ps D) X.xe z2) X.xe { z1 with heap := hp2 } := by
        rw [hfrm]
        exact HandSPX.setFlight_upZ fly2 fun hp3 held up3 => wpAny_throw (out _ _ ⟨x, B, zI, ps, τ1, G1, cls, d, rfl, JI, ground, (up.trans up2).trans up3, .inr (.inr (hstk.symm ▸ held)), gx, same, bare, no rfl⟩)
      first
        | exact wpAny_bind (wpAny_pure (wpAny_bind rise))
        | exact wpAny_bind rise
end
section
variable {X : Cx} {ps : List (Addr × Obj)} {τ : L2.St} {G : Hp} {z : Shared}
theorem cau_inst {x C : Addr} {fs : List (Str × V)} (J : Inv X ps τ G z) (h : CauAt G x C fs) : ∃ (ox od : Obj) (look : Str → Option Value), PySem.W.InstAt z.heap x ox C (some od) ∧ (∀ g, PySem.W.lookIn g od = some (look g)) ∧ ∀ g, RelO (fs.lookup g) (look g) := by
  have ⟨dd, e1, e2⟩ := h
  have ⟨⟨ob, us, there, zc, dat⟩, _⟩ := J.hok x _ e1
  have ⟨look, ns, rel⟩ : ObjOk X.prog X.w G z.heap dd (.xd fs) := J.hok dd _ e2
  have ⟨od, hod, hl⟩ := lookIn_ns ns
  refine ⟨ob, od, look, ⟨there, zc.1, ?_, ?_⟩, hl, rel⟩
  · unfold PySem.W.notCls
    rw [dat] <;> rfl
  · rw [zc.2]
    exact hod
/-- e.f of such an error -/
def tCfl (K : PySem.W.Frag) (g : Str) (te : TE) : TE := fun σ H Q => te σ H fun x H1 => ∃ (a C : Addr) (fs : List (Str × V)) (v : V), x = .ref a ∧ CauAt H1 a C fs ∧ L2.ExcC K C ∧ PySem.W.findIn K (.ref C) g = some none ∧ fs.lookup g = some v ∧ Q v H1
theorem pe_cfl {e : Expr} {te : TE} {g : Str} {pos : Pos} (he : PE X e te) (hb : attributeBase e g X.env (eval e X.env) = eval e X.env := by rfl) : PE X (.Attribute e g pos) (tCfl X.K g te) := by
  refine ⟨fun ps z τ G Q J rd => attr_of hb (thn (he.run ps z τ G _ J rd) ?_)⟩
  rintro u z1 ⟨_, G1, J1, ru, a, C, fs, v, rfl, hC, T, none_, hv, q⟩
  cases (show u = Value.ref a from ru)
  have ⟨ox, od, look, inst, hl, rel⟩ := cau_inst J1 hC
  have ⟨w, hw, rw_⟩ := RelO.some_of (v := v) (o := look g) (hv ▸ rel g)
  exact HandSPX.exc_get J1.kIn inst T.hg T.hk T.hs (PySem.W.findObj_own T.hd none_ rfl (by rw [hl, hw])) (handed_of rw_) ⟨v, G1, J1.tok _, rw_, q⟩
/-- isinstance of a value, or of such an error -/
def rIsC (K : PySem.W.Frag) : List V → Hp → VK → Prop := fun xs H Q => rIsi K xs H Q ∨ ∃ (a C : Addr) (fs : List (Str × V)) (c : V) (u : Value) (b : Bool), xs = [.ref a, c] ∧ CauAt H a C fs ∧ L2.ExcC K C ∧ ClsV c u ∧ PySem.W.kitOne K (.ref C) u = some b ∧ Q (.bl b) H
theorem call_isC : CallR X (.builtin "isinstance") (rIsC X.K) := by
  rintro ps z τ G xs us Q J rv (rd | ⟨a, C, fs, c, u, b, rfl, hC, T, kc, ans, q⟩)
  · exact call_isi ps z τ G xs us Q J rv rd
  · obtain ⟨w1, w2, rfl, r1, r2⟩ := vals2 rv
    cases (show w1 = Value.ref a from r1)
    cases kc.eq r2
    have ⟨ox, od, look, inst, _⟩ := cau_inst J hC
    exact PySem.W.kia_one (PySem.W.ta_kitx T) J.kIn inst ans (fun w => nomatch w) fun tk => ⟨.bl b, G, J.tok tk, rfl, q⟩
end
end TG
set_option maxHeartbeats 400000
/-! own rule: g(e, ..) within a try, g's promise by FnG -/
namespace TG
open PySem PySem.Spec L2
open PyProof.Rows hiding St
section
variable {X : Cx} {CX : CXT} {j k : Nat} {g : Addr} {gd : FuncData} {qs : List Str} {sp : Sp} {E : L2.St → XK} {x : Str} {p pos : Pos} {e : Expr} {es : List Expr} {t : L2.TA}
theorem run_fnGS {ps : List (Addr × Obj)} {τ : L2.St} {G : Hp} {z : Shared} {Q : VK} {as : List Value} {vs : List V} (F : FnG X.prog X.w X.K X.mg X.base CX k g gd qs sp) (hr : RoomG k X.A) (bd : Binds X.K gd qs []) (lets : PassesAt CX X τ (E τ))
    (J : Inv X ps τ G z) (rel : Vals vs as) (rd : sp vs G Q (E τ)) : wpAny (model X.prog X.w) X.A (call (.ref g) as) (EP X ps τ Q) X.xe z := by
  have n : as.length = qs.length := rel.length.symm.trans (F.len _ _ _ _ rd)
  have to : BindsTo z gd ⟨as, []⟩ (qs.zip as) := by
    have q := bd z as J.kIn (by simpa using n)
    simpa using q
  refine wpAny_call (codeAny_mono (F.go X.A X.stack z G ⟨as, []⟩ as vs Q (E τ) hr J.env0 to rel rd) fun res z' q => ?_)
  match res, q with
  | .error err, q => exact lets ps G z err z' J q
  | .ok (.ret _), q => exact J.after q
  | .ok .next, q => exact q.elim
  | .ok .brk, q => exact q.elim
  | .ok .cont, q => exact q.elim
theorem pe_cdGS (F : FnG X.prog X.w X.K X.mg X.base CX k g gd qs sp) (hr : RoomG j X.A) (hj : k ≤ j) (hm : X.mg x = some (.ref g)) (hk : PySem.W.keepIn X.K (.ref g) = true) (bd : Binds X.K gd qs []) (lets : ∀ τ, PassesAt CX X τ (E τ)) (args : PA X (e :: es) t) (hg : Gl X x := by rfl)
    (nd : (x == ("__debug__" : Str)) = false := by decide) (st : starEach (e :: es) X.env = (false, eval e X.env) :: starEach es X.env := by rfl) (pl : (backTo pos (starEach es X.env)).any (·.1) = false := by rfl) :
    PE X (.Call (.Name x p) (e :: es) [] pos) (tCallS sp E t) := by
  refine ⟨fun ps z τ G Q J rd => wpAny_Call_Name_kw (ld_glob J hg hm (PySem.W.callWith_K (h₀ := X.base) J.mod.kin hk (thn (args.run pos ps z τ G _ J rd) ?_) st pl) nd)⟩
  rintro as z1 ⟨vs, G1, J1, rel, q⟩
  exact ⟨J1.kIn, run_fnGS F (hr.mono hj) bd (lets τ) J1 rel q⟩
end
end TG
set_option maxHeartbeats 400000
/-! own rules: a lambda handed to a def, with or without one parameter that has an integer for a default; the def's promise by FnG -/
namespace TG
open PySem PySem.Spec L2 LamX
open PyProof.Rows hiding St
/-- the lambda's names: its own ones are unknown to the maker, the others are captured -/
structure LamN (N : List Str) (sc scope : Scope) : Prop where
  kind : scope.kind = .function
  plain : scope.isCoroutine = false ∧ scope.isGenerator = false
  cells : ∀ y ∈ scope.names, y.2 ≠ .cell
  off : ∀ y ∈ scope.names, y.2 = .local → y.1 ∉ N
  caught : ∀ n, (n, NameKind.free) ∈ scope.names → sc.names.lookup n = some .cell ∨ sc.names.lookup n = some .free
def lamNB (N : List Str) (sc scope : Scope) : Bool :=
  (decide (scope.kind = .function) && (!scope.isCoroutine && !scope.isGenerator)) && scope.names.all fun y => !decide (y.2 = .cell) && ((!decide (y.2 = .local) || !decide (y.1 ∈ N)) && (!decide (y.2 = .free) || (decide (sc.names.lookup y.1 = some .cell) || decide (sc.names.lookup y.1 = some .free))))
theorem lamN_by {N : List Str} {sc scope : Scope} (h : lamNB N sc scope = true) : LamN N sc scope := by
  obtain ⟨h1, h2⟩ := Bool.and_eq_true_iff.mp h
  obtain ⟨a, b⟩ := Bool.and_eq_true_iff.mp h1
  obtain ⟨b, c⟩ := Bool.and_eq_true_iff.mp b
  have row := List.all_eq_true.mp h2
  have part : ∀ y ∈ scope.names, ¬ y.2 = .cell ∧ (¬ y.2 = .local ∨ ¬ y.1 ∈ N) ∧ (¬ y.2 = .free ∨ sc.names.lookup y.1 = some .cell ∨ sc.names.lookup y.1 = some .free) := fun y hy => by
    simpa using row y hy
  exact ⟨of_decide_eq_true a, ⟨by simpa using b, by simpa using c⟩, fun y hy => (part y hy).1, fun y hy e => ((part y hy).2.1).resolve_left (fun n => n e), fun n hy => ((part _ hy).2.2).resolve_left (fun k => k rfl)⟩
section
variable {X : Cx} {ps : List (Addr × Obj)} {τ : L2.St} {G GZ : Hp} {z z1 : Shared} {scope : Scope}
theorem LamN.has (L : LamN X.N X.env.scope scope) (ok : X.Ok) : ∀ y ∈ scope.names, y.2 = .free → ∃ c, X.env.cells.lookup y.1 = some c := fun y hy e =>
  ok.has y.1 (L.caught y.1 (by rw [← e]; exact hy))
/-- the lambda's frame is entered -/
theorem lam_inv {A : Around} {outer : List Env} {E : XK} {f c' : Addr} {h1 : Heap} {tk : Nat} {m : Str → Option Value} (J : Inv X ps τ G z) (L : LamN X.N X.env.scope scope) (e0 : Env0 X.prog X.w X.K X.mg X.base A outer z1 GZ) (hd : A.handled = none)
    (un : Un (frs X.stack) [] G GZ z.heap z1.heap) (ns : h1.Ns z1.heap.objs.size m) (keep : ∀ b o, z1.heap.get? b = some o → h1.get? b = some o) :
    Inv (lamCx X A outer z1 GZ E scope f c') [] τ GZ { z1 with heap := h1, toks := tk } := by
  have has := L.has J.ok
  have back : ∀ {y c}, (cloFrom X.env.cells scope.names []).lookup y = some c → X.env.cells.lookup y = some c := by
    intro y c e
    rcases cloFrom_mem (PySem.mem_of_lookup e) with q | ⟨q, rfl⟩
    · exact nomatch q
    · have ⟨d, hd⟩ := has _ q rfl
      have hd : X.env.cells.lookup y = some d := hd
      rw [hd]
      rfl
  have there : ∀ {y}, scope.names.lookup y = some .free → ∃ c, (cloFrom X.env.cells scope.names []).lookup y = some c := fun hy => mem_lookup (cloFrom_has (PySem.mem_of_lookup hy))
  have cellK : ∀ {c : Addr} {v : Option Value}, G c = none → z.heap.IsCell c v → h1.IsCell c v := by
    rintro c v n ⟨o, ho, hv⟩
    have ⟨sl, q⟩ := un.any ho n List.not_mem_nil
    exact ⟨_, keep _ _ q, hv⟩
  have okL : (lamCx X A outer z1 GZ E scope f c').Ok :=
    { mod := e0.mod, kind := L.kind, glob := rfl, blt := rfl, above := Nat.le_refl _
      inj := fun a b c ea eb => J.ok.inj a b c (back ea) (back eb)
      has := fun y hy => by
        rcases (show scope.names.lookup y = some .cell ∨ scope.names.lookup y = some .free from hy) with q | q
        · exact absurd rfl (L.cells _ (PySem.mem_of_lookup q))
        · exact there q
      cab := fun y c q _ => nomatch (show false = true from q)
      hd := fun _ => hd, frames := Around.frames_deeper e0.frames, stk := .inr ⟨rfl, rfl⟩
      exf := fun b q => nomatch (show b ∈ ([] : List Addr) from q)
      bs := e0.bs, bsz := e0.bsz
      noex := fun b _ _ q => nomatch (show b ∈ ([] : List Addr) from q)
      exfs := fun b q => nomatch (show b ∈ ([] : List Addr) from q)
      funs := e0.funs, frf := e0.frf }
  have names : ∃ m, h1.Ns z1.heap.objs.size m ∧ ∀ (i : Nat) (y : Str) (v : V), X.N[i]? = some y → τ[i]? = some (some v) → Vis scope y → ∃ u, RelV v u ∧ Look (lamEnv X scope z1.heap.objs.size f c') h1 m y u := by
    refine ⟨m, ns, fun i y v e1 e2 vis => ?_⟩
    have mem : y ∈ X.N := List.mem_of_getElem? e1
    rcases vis with q | q | q
    · exact absurd mem (L.off _ (PySem.mem_of_lookup q) rfl)
    · exact absurd rfl (L.cells _ (PySem.mem_of_lookup q))
    · have fr := L.caught _ (PySem.mem_of_lookup q)
      have ⟨mm, _, hl⟩ := J.loc
      have ⟨u, ru, at_⟩ := hl i y v e1 e2 (fr.elim (fun k => .inr (.inl k)) fun k => .inr (.inr k))
      have ⟨c, hc⟩ := there q
      have hcX := back hc
      refine ⟨u, ru, .inr ⟨.inr q, c, hc, ?_⟩⟩
      rcases at_ with ⟨k, _⟩ | ⟨_, c2, hc2, isC⟩
      · rcases fr with k2 | k2 <;> exact nomatch ((show X.env.scope.names.lookup y = some .local from k).symm.trans k2)
      · cases hcX.symm.trans hc2
        exact cellK (J.freeC y c hcX) isC
  exact
    { ok := okL, os := rfl, bare := e0.bare, base := Un.kept keep, loc := names
      cell := fun y c e => by
        have ⟨v, q⟩ := J.cell y c (back e)
        exact ⟨v, cellK (J.freeC y c (back e)) q⟩
      free := e0.hok.fresh (Nat.le_refl _)
      freeC := fun y c e => by
        have ⟨v, o, ho, _⟩ := J.cell y c (back e)
        exact un.free c o ho (J.freeC y c (back e)) List.not_mem_nil
      pin := fun q hq => nomatch (show q ∈ ([] : List (Addr × Obj)) from hq)
      hok := e0.hok.kept keep, len := J.len }
end
/-! ### the lambda is made -/
/-- a function object of a lambda, as it stands in the heap -/
abbrev lamO (q : Str) (params : Arguments) (body : Expr) (scope : Scope) (cl : List (Str × Addr)) (dV doc pm : Value) (c' : Addr) (ct : Value) : Obj := PySem.W.kdv_obj "<lambda>" q params (.expr body) scope cl dV doc pm c' ct
section
variable {X : Cx} {ps : List (Addr × Obj)} {τ : L2.St} {G : Hp} {z : Shared} {scope : Scope}
theorem off_frames (J : Inv X ps τ G z) {f : Addr} (h : z.heap.objs.size ≤ f) : f ∉ frs X.stack := fun m => by
  rcases List.mem_cons.mp (J.stkSub _ m) with e | e
  · have lt := J.lt
    rw [← e] at lt
    exact absurd lt (Nat.not_lt.mpr h)
  · exact J.nofs h e
/-- with one parameter that has a default -/
theorem lam_make1 {T : List (Addr × Str)} {c P : Addr} {params : Arguments} {body e : Expr} {pos : Pos} {E : Value → Shared → Prop} {Q : Value → Shared → Prop} {i : Int} (J : Inv X ps τ G z) (TB : TabB X.base X.mg c P) (hcode : X.env.code = .ref c)
    (hm : (P, X.env.qual ++ "<lambda>") ∈ T) (hu : ∀ p ∈ T, p.1 = P → p.2 = X.env.qual ++ "<lambda>") (hT : Tabs T G) (hd : params.defaults = [e]) (hk0 : params.kw_defaults = []) (he : PE X e (tC (.int i))) (has : ∀ y ∈ scope.names, y.2 = .free → ∃ c, X.env.cells.lookup y.1 = some c)
    (hxe : ∀ v s, X.xe v s → E v s)
    (h : ∀ (f t c' : Addr) (dv doc pm ct : Value) (G1 : Hp) (z' : Shared), Inv X ps τ G1 z' → ExtN G G1 → Tabs T G1 → z'.heap.get? f = some (lamO (X.env.qual ++ "<lambda>") params body scope (cloFrom X.env.cells scope.names []) (.ref t) doc pm c' ct) → z'.heap.get? t = some (PySem.W.kdv_tup [dv]) → RelV (.int i) dv →
      G1 f = none → f ∉ frs X.stack → G1 t = none → t ∉ frs X.stack → G1 c' = some (CodeO c' (X.env.qual ++ "<lambda>")) → Q (.ref f) z') :
    wpAny (model X.prog X.w) X.A (eval (.Lambda params body scope pos) X.env) Q E z := by
  refine PySem.W.kdv_lam (by rw [hd]; rfl) hk0 ?_
  rw [hd]
  refine PySem.W.kdv_all1 (wpAny_mono (he.run ps z τ G (fun v G' => v = .int i ∧ G = G') J ⟨rfl, rfl⟩) (fun dv z1 q => PySem.W.kdv_all0 ?_) hxe)
  obtain ⟨_, G1, J1, rel, rfl, eG⟩ := q
  subst eG
  rw [makeFunction_eq]
  simp only [List.zip_nil_right, List.filterMap_nil, List.isEmpty_nil, if_true, pure_bind, List.isEmpty_cons, Bool.false_eq_true, if_false]
  apply wpAny_bind
  apply wpAny_newTextTuple
  have up : ∀ b o, z1.heap.get? b = some o → (z1.heap.push (PySem.W.kdv_tup [dv])).get? b = some o := fun b o e => Heap.get?_push_of_some _ e
  have J2 : Inv X ps τ G { z1 with heap := z1.heap.push (PySem.W.kdv_tup [dv]) } := J1.kept up
  have tIs : (z1.heap.push (PySem.W.kdv_tup [dv])).get? z1.heap.objs.size = some (PySem.W.kdv_tup [dv]) := Heap.get?_push_size _ rfl
  have tNo : G z1.heap.objs.size = none := J1.hok.fresh (Nat.le_refl _)
  have tFr := off_frames J1 (Nat.le_refl _)
  generalize z1.heap.objs.size = t at tIs tNo tFr ⊢
  generalize z1.heap.push (PySem.W.kdv_tup [dv]) = hp at J2 tIs ⊢
  obtain ⟨row, hP, triples, among⟩ := hT _ hm
  have bP := TB.bm.keeps J2.bk
  have atP : hp.get? P = some { cls := .none, data := .fields row } := J2.hok P _ hP
  match hc : codeAmong pos row.toList with
  | none =>
    refine PySem.W.kdv_makeTail (closure_ok has) J2.ok.glob (J2.mod.glob.keeps J2.bk) hcode (TB.code.keeps J2.bk) atP triples hc TB.gP bP fun c' ct doc h2 tk grew hge hlt hrec htb => ?_
    have ⟨_, oc, vs, tt, e2, hoc, hdv, hv⟩ := hrec
    cases e2
    have hge : hp.objs.size ≤ c' := hge
    have cNo : G c' = none := J2.hok.fresh hge
    have more : hp.objs.size ≤ h2.objs.size := by omega
    have J3 := inv_table (t' := tk) (more := #[rawInt pos.line, rawInt pos.col, .ref c']) (h' := h2.push (lamO (X.env.qual ++ "<lambda>") params body scope (cloFrom X.env.cells scope.names []) (.ref t) doc ((X.mg "__name__").getD .none) c' ct)) J2 hP
      (fun b o n e => Heap.get?_push_of_some _ (grew b o n e)) (Heap.get?_push_of_some _ htb) hge ⟨oc, vs, tt, Heap.get?_push_of_some _ hoc, hdv, hv⟩
    have ext : ExtN G (upd (upd G P (.tbl (row ++ #[rawInt pos.line, rawInt pos.col, .ref c']))) c' (CodeO c' (X.env.qual ++ "<lambda>"))) := by
      intro b o e n
      have nb : b ≠ P := by
        rintro rfl
        rw [hP] at e
        exact n row (Option.some.inj e).symm
      rw [upd_ne (ne_of_none e cNo), upd_ne nb]
      exact e
    have same : ∀ b, G b = none → b ≠ c' → upd (upd G P (.tbl (row ++ #[rawInt pos.line, rawInt pos.col, .ref c']))) c' (CodeO c' (X.env.qual ++ "<lambda>")) b = none := by
      intro b e n
      rw [upd_ne n, upd_ne fun q => by rw [q, hP] at e; cases e]
      exact e
    refine h h2.objs.size t c' dv doc _ ct _ _ J3 ext (fun p hp => ?_) (Heap.get?_push_size _ rfl) (Heap.get?_push_of_some _ (grew t _ (fun q => by rw [q, hP] at tNo; cases tNo) tIs)) rel (same _ (J2.hok.fresh more) (Nat.ne_of_gt hlt)) (off_frames J2 more) (same _ tNo ?_) tFr upd_same
    · obtain ⟨row', a1, a2, a3⟩ := hT p hp
      by_cases hb : p.1 = P
      · rw [hu p hp hb, hb]
        have lst : (row ++ #[rawInt pos.line, rawInt pos.col, .ref c']).toList = row.toList ++ [rawInt pos.line, rawInt pos.col, .ref c'] := by simp
        refine ⟨_, (upd_ne (ne_of_none hP cNo)).trans upd_same, lst ▸ PySem.TriplesOk_snoc _ _ _ _ triples, fun p' cv hcv => ?_⟩
        rw [lst] at hcv
        rcases among_app _ triples hcv with q | q
        · obtain ⟨c0, e1, e2⟩ := among p' cv q
          exact ⟨c0, e1, ext _ _ e2 codeO_ne⟩
        · exact ⟨c', q, upd_same⟩
      · refine ⟨row', ?_, a2, fun p' cv hcv => ?_⟩
        · rw [upd_ne (ne_of_none a1 cNo), upd_ne hb]
          exact a1
        · obtain ⟨c0, e1, e2⟩ := a3 p' cv hcv
          exact ⟨c0, e1, ext _ _ e2 codeO_ne⟩
    · rintro rfl
      exact absurd (Heap.lt_size tIs) (Nat.not_lt.mpr hge)
  | some cv =>
    obtain ⟨c', rfl, isCode⟩ := among pos cv hc
    refine PySem.W.kdv_makeTailHit (closure_ok has) J2.ok.glob (J2.mod.glob.keeps J2.bk) hcode (TB.code.keeps J2.bk) atP triples hc bP fun ct doc h2 tk keep more => ?_
    have J3 : Inv X ps τ G { z1 with heap := h2.push (lamO (X.env.qual ++ "<lambda>") params body scope (cloFrom X.env.cells scope.names []) (.ref t) doc ((X.mg "__name__").getD .none) c' ct), toks := tk } := J2.kept fun b o e => Heap.get?_push_of_some _ (keep b o e)
    exact h h2.objs.size t c' dv doc _ ct G _ J3 (ExtN.refl G) hT (Heap.get?_push_size _ rfl) (Heap.get?_push_of_some _ (keep _ _ tIs)) rel (J2.hok.fresh more) (off_frames J2 more) tNo tFr isCode
end
/-! ### the lambda is called, where it was handed to -/
section
variable {X : Cx} {ps : List (Addr × Obj)} {τ : L2.St} {G : Hp} {z : Shared} {scope : Scope}
/-- what the def that got the lambda knows of it: its context, entered at z -/
abbrev gotCx (X : Cx) (N : List Str) (x : Str) (sg : Scope) (g : Addr) (cdg : Value) (z : Shared) (G : Hp) : Cx := cxOf CX0 X.prog X.w X.K X.mg X.base N x sg g cdg X.A X.stack z G E0
theorem pe_actG {N : List Str} {x : Str} {sg : Scope} {g f c' : Addr} {cdg dV doc pm ct : Value} {params : Arguments} {body : Expr} {k : Nat} {a : Str} {bs : List (Str × Value)} {pn : List (Addr × Obj)} {xe : Value → Shared → Prop} {W : WX} {E : XK} {tb : TE} {p1 p2 : Pos}
    (J : Inv X ps τ G z) (L : LamN X.N X.env.scope scope) (hf : z.heap.get? f = some (lamO (X.env.qual ++ "<lambda>") params body scope (cloFrom X.env.cells scope.names []) dV doc pm c' ct)) (fNo : G f = none) (fFr : f ∉ frs X.stack)
    (binds : ∀ z1 : Shared, (∀ b o, z.heap.get? b = some o → G b = none → b ∉ frs X.stack → z1.heap.get? b = some o) → BindsTo z1 (PySem.W.kdv_fn "<lambda>" (X.env.qual ++ "<lambda>") params (.expr body) scope (cloFrom X.env.cells scope.names []) dV doc pm (.ref c') ct) ⟨[], []⟩ bs)
    (own : ∀ y ∈ bs, scope.names.lookup y.1 = some .local) (tk : Takes ((gotCx X N x sg g cdg z G).tr pn xe) W) (hr : RoomG (k + 1) (X.A.deeper (envOfC x sg z.heap.objs.size g cdg)))
    (run : ∀ (A : Around) (outer : List Env) (s : Shared) (H : Hp), RoomG k (A.deeper (lamEnv X scope s.heap.objs.size f c')) → PE (lamCx X A outer s H E scope f c') body tb)
    (hN : N[0]? = some a) (hv : Vis sg a) (hd : (a == ("__debug__" : Str)) = false := by decide) (hcd : (a == ("__classdict__" : Str)) = false := by decide) :
    PE ((gotCx X N x sg g cdg z G).tr pn xe) (.Call (.Name a p1) [] [] p2) (fun σZ HZ Q => σZ[0]? = some (some (.ref f)) ∧ HZ c' = some (CodeO c' (X.env.qual ++ "<lambda>")) ∧ (∀ cls d H', E cls d H' → W cls d σZ H') ∧ tb τ HZ Q) := by
  refine ⟨fun pZ sZ σZ HZ Q JZ rd => wpAny_Call_Name_kw (thn ((pe_var (pos := p1) (i := 0) hN hv hd hcd).run pZ sZ σZ HZ (fun v H1 => v = .ref f ∧ HZ = H1) JZ ⟨_, rd.1, rfl, rfl⟩) ?_)⟩
  rintro u z1 ⟨_, H1, J1, ru, rfl, eH⟩
  subst eH
  cases (show u = Value.ref f from ru)
  have kept : ∀ b o, z.heap.get? b = some o → G b = none → b ∉ frs X.stack → z1.heap.get? b = some o := fun b o e n fr => J1.base.keep b o e n fr fun q => nomatch (show b ∈ ([] : List Addr) from q)
  have at1 := kept f _ hf fNo fFr
  have ⟨⟨oc, us, tq, e1, e2, e3⟩, _⟩ := J1.hok c' _ rd.2.1
  refine PySem.W.callWith_F0 ⟨_, _, _, _, at1⟩ (wpAny_call (codeAny_mono (R := CR (L2.CX X.prog X.w) (envOfC x sg z.heap.objs.size g cdg :: X.stack) X.prog X.w HZ z1 Q E) ?_ fun res z2 q => ?_))
  · refine PySem.W.kla_callFunE hr.depth at1 rfl L.plain.1 L.plain.2 rfl ⟨c', oc, us, tq, rfl, e1, e2, e3⟩ (binds z1 kept _ _ _ _ (wpAny_newFunctionEnv L.cells own (fun h1 ns same => ⟨J1.nolimit.fresh _ same, PySem.W.kla_codeExpr ?_⟩) L.kind))
    have up : ∀ b o, z1.heap.get? b = some o → h1.get? b = some o := fun b o e => same.extBut b o (Nat.ne_of_lt (Heap.lt_size e)) (Heap.get?_push_of_some _ e)
    have J2 := lam_inv (f := f) (c' := c') (E := E) (tk := z1.toks + bs.length) J L J1.env0 hr.hd (show Un (frs X.stack) [] G HZ z.heap z1.heap from J1.base) ns up
    refine wpAny_mono ((run _ _ z1 HZ (hr.down _)).run [] _ τ HZ Q J2 rd.2.2.2) (fun v z3 q => ?_) fun _ _ q => q
    have ⟨w2, H2, J3, rv, q2⟩ := q
    exact ⟨w2, H2, J3.os, J3.bare, J3.base, J3.hok, rv, q2⟩
  · match res, q with
    | .error err, q => exact tk err z2 (XE.of_call J1 (fun cls d H' h => rd.2.2.1 cls d H' h) q)
    | .ok (.ret _), q => exact J1.after q
    | .ok .next, q => exact q.elim
    | .ok .brk, q => exact q.elim
    | .ok .cont, q => exact q.elim
end
/-! ### x(lambda: body) -/
section
variable {P : Program} {w : World} {K : PySem.W.Frag} {mg : Str → Option Value} {base : Heap}
/-- a def called here and now: fun_okG at one state -/
theorem callee_run {x qual : Str} {st : Stmt} {f : Addr} {fd : FuncData} {N ps : List Str} {k : Nat} (F : Fun K x qual st f fd) (S : FnScope N ps (defScope st)) {A : Around} {outer : List Env} {s : Shared} {H : Hp} {args : Args} {us : List Value} {vs : List V} {Q : VK} {E : XK}
    (hr : RoomG (k + 1) A) (e0 : Env0 P w K mg base A outer s H) (hb : BindsTo s fd args (ps.zip us)) (r : Vals vs us) (hl : vs.length = ps.length)
    (hbody : ∀ cdv : Value, RoomG k (A.deeper (envOfC qual (defScope st) s.heap.objs.size f cdv)) → ∃ t, PSs (cxOf CX0 P w K mg base N qual (defScope st) f cdv A outer s H E).nox (defBody st) t ∧ t { nx := fun _ H' => Q .non H', rt := Q } (start N vs) H) :
    codeAny (model P w) A (.call (.ref f) args) (CR CX0 outer P w H s Q E) s := by
  obtain ⟨oc, od, kV, doc, pm, an, cdv, ct, osl, rfl, lk, hcd⟩ := F.ex
  have kin : K.In s.heap := e0.mod.kin.keeps fun b o e => (e0.bs b o e).1
  have hlim : s.heap.NoLimit := e0.mod.nolimit.keeps fun b o e => (e0.bs b o e).1
  have kinds : ∀ y ∈ ps.zip us, (defScope st).names.lookup y.1 = some .local ∨ ((defScope st).names.lookup y.1 = some .cell ∧ ((cellsFrom (s.heap.objs.size + 1) (defScope st).names []).lookup y.1).isSome = true) := by
    rintro ⟨n, v⟩ hy
    exact (S.par n (List.of_mem_zip hy).1).elim .inl fun z => .inr ⟨z, PySem.W.cellsFrom_some _ _ _ (.inl z)⟩
  refine codeAny_call_function hr.depth (kin _ _ lk) rfl S.co S.gen rfl (PySem.W.codeRec_of kin hcd) (hb _ _ _ _ ?_)
  refine wpAny_newFunctionEnv_cells S.kind kinds fun env he s1 z => ?_
  subst he
  refine ⟨hlim.keeps z.toInCall.keep, codeAny_func ?_⟩
  obtain ⟨t, ht, hq⟩ := hbody cdv (hr.down _)
  have I : Inv (cxOf CX0 P w K mg base N qual (defScope st) f cdv A outer s H E) [] (start N vs) H s1 := inv_start S hr.hd e0 hl r z
  refine wpAny_mono (ht.nox.run [] s1 (start N vs) H _ I hq) (fun fl s' hs => ?_) fun e s' hs => hs
  match fl, hs with
  | .ret u, ⟨v, τ, G, J, rv, q⟩ => exact ⟨v, G, J.os, J.bare, J.base, J.hok, rv, q⟩
  | .next, ⟨τ, G, J, q⟩ => exact ⟨V.non, G, J.os, J.bare, J.base, J.hok, rfl, q⟩
  | .brk, ⟨_, _, _, q⟩ => exact q.elim
  | .cont, ⟨_, _, _, q⟩ => exact q.elim
end
/-- a def that is handed the lambda as a, and calls it: TT tells its promise by the lambda's own reading -/
def GivesG (X : Cx) (N : List Str) (x : Str) (sg : Scope) (g : Addr) (bg : List Stmt) (a q : Str) (n : Nat) (TT : (XK → Hp → VK → Prop) → Hp → VK → Prop) : Prop :=
  ∀ (cdg : Value) (f c' : Addr) (s : Shared) (H : Hp) (Q : VK) (tl : XK → Hp → VK → Prop), RoomG n (X.A.deeper (envOfC x sg s.heap.objs.size g cdg)) →
    (∀ (W : WX) (pn : List (Addr × Obj)) (xe : Value → Shared → Prop) (E : XK) (p1 p2 : Pos), Takes ((gotCx X N x sg g cdg s H).tr pn xe) W →
      PE ((gotCx X N x sg g cdg s H).tr pn xe) (.Call (.Name a p1) [] [] p2) (fun σZ HZ Q => σZ[0]? = some (some (.ref f)) ∧ HZ c' = some (CodeO c' q) ∧ (∀ cls d H', E cls d H' → W cls d σZ H') ∧ tl E HZ Q)) →
    H c' = some (CodeO c' q) → TT tl H Q → ∃ t, PSs (gotCx X N x sg g cdg s H).nox bg t ∧ t { nx := fun _ H' => Q .non H', rt := Q } (start N [.ref f]) H
section
variable {X : Cx} {T : List (Addr × Str)} {TT : (XK → Hp → VK → Prop) → Hp → VK → Prop} {x a : Str} {st : Stmt} {g c P : Addr} {gd : FuncData} {k : Nat} {N : List Str} {params : Arguments} {body : Expr} {scope : Scope} {t : XK → TE} {p lpos pos : Pos}
theorem call_given {ps : List (Addr × Obj)} {τ : L2.St} {G : Hp} {z : Shared} {Q : VK} {f c' : Addr} {dV doc pm ct : Value} {bs : List (Str × Value)} (F : Fun X.K x x st g gd) (bd : Binds X.K gd [a] []) (S : FnScope N [a] (defScope st)) (hN : N[0]? = some a) (hva : Vis (defScope st) a)
    (hG : GivesG X N x (defScope st) g (defBody st) a (X.env.qual ++ "<lambda>") (k + 1) TT) (hr : RoomG (k + 2) X.A) (L : LamN X.N X.env.scope scope)
    (run : ∀ (A : Around) (outer : List Env) (s : Shared) (H : Hp) (E : XK) (f c' : Addr), RoomG k (A.deeper (lamEnv X scope s.heap.objs.size f c')) → PE (lamCx X A outer s H E scope f c') body (t E))
    (J : Inv X ps τ G z) (hf : z.heap.get? f = some (lamO (X.env.qual ++ "<lambda>") params body scope (cloFrom X.env.cells scope.names []) dV doc pm c' ct)) (fNo : G f = none) (fFr : f ∉ frs X.stack) (isC : G c' = some (CodeO c' (X.env.qual ++ "<lambda>")))
    (binds : ∀ z1 : Shared, (∀ b o, z.heap.get? b = some o → G b = none → b ∉ frs X.stack → z1.heap.get? b = some o) → BindsTo z1 (PySem.W.kdv_fn "<lambda>" (X.env.qual ++ "<lambda>") params (.expr body) scope (cloFrom X.env.cells scope.names []) dV doc pm (.ref c') ct) ⟨[], []⟩ bs)
    (own : ∀ y ∈ bs, scope.names.lookup y.1 = some .local) (rd : TT (fun E H' Q' => t E τ H' Q') G Q) (hd : (a == ("__debug__" : Str)) = false := by decide) (hcd : (a == ("__classdict__" : Str)) = false := by decide) :
    wpAny (model X.prog X.w) X.A (call (.ref g) [.ref f]) (EP X ps τ Q) X.xe z := by
  have to : BindsTo z gd ⟨[.ref f], []⟩ (([a] : List Str).zip [.ref f]) := by simpa using bd z [.ref f] J.kIn rfl
  refine wpAny_call (codeAny_mono (callee_run (E := E0) (Q := Q) F S hr J.env0 to (vs := [.ref f]) (.cons rfl .nil) rfl fun cdv hr1 => ?_) fun res z' q => ?_)
  · exact hG cdv f c' z G Q _ hr1 (fun W pn xe E p1 p2 tk => pe_actG J L hf fNo fFr binds own tk hr1 (fun A outer s H h => run A outer s H E f c' h) hN hva hd hcd) isC rd
  · match res, q with
    | .error _, q => exact q.elim
    | .ok (.ret _), q => exact J.after q
    | .ok .next, q => exact q.elim
    | .ok .brk, q => exact q.elim
    | .ok .cont, q => exact q.elim
/-- x(lambda: body) -/
theorem pe_lamG (F : Fun X.K x x st g gd) (hm : X.mg x = some (.ref g)) (bd : Binds X.K gd [a] []) (S : FnScope N [a] (defScope st)) (hN : N[0]? = some a) (hva : Vis (defScope st) a) (hG : GivesG X N x (defScope st) g (defBody st) a (X.env.qual ++ "<lambda>") (k + 1) TT)
    (TB : TabB X.base X.mg c P) (hcode : X.env.code = .ref c) (hmT : (P, X.env.qual ++ "<lambda>") ∈ T) (hu : ∀ p ∈ T, p.1 = P → p.2 = X.env.qual ++ "<lambda>") (hr : RoomG (k + 2) X.A) (L : LamN X.N X.env.scope scope) (hdef : defaultsOf params X.env = ([], []))
    (hbind : ∀ (q : Str) (cl : List (Str × Addr)) (doc pm cv ctv : Value), bindArgs (PySem.W.kdv_fn "<lambda>" q params (.expr body) scope cl .none doc pm cv ctv) ⟨[], []⟩ = pure [])
    (run : ∀ (A : Around) (outer : List Env) (s : Shared) (H : Hp) (E : XK) (f c' : Addr), RoomG k (A.deeper (lamEnv X scope s.heap.objs.size f c')) → PE (lamCx X A outer s H E scope f c') body (t E)) (hg : Gl X x := by rfl)
    (hdb : (x == ("__debug__" : Str)) = false := by decide) (hd : (a == ("__debug__" : Str)) = false := by decide) (hcd : (a == ("__classdict__" : Str)) = false := by decide) :
    PE X (.Call (.Name x p) [.Lambda params body scope lpos] [] pos) (tLam T TT t) := by
  refine ⟨fun ps z τ G Q J rd => wpAny_Call_Name_kw (ld_glob J hg hm (PySem.W.callWith_K (h₀ := X.base) J.mod.kin F.kp ?_ (by rfl) (by rfl)) hdb)⟩
  show wpAny _ _ (spliced ((false, eval (.Lambda params body scope lpos) X.env) :: backTo pos (starEach [] X.env))) _ _ z
  refine Calls.spliced_cons (lam_make2 J TB hcode hmT hu rd.1 hdef (L.has J.ok) fun f c' pm ctv G1 z' J1 ext tabs hf fNo fFr isC => Calls.spliced_nil ⟨J1.kIn, ?_⟩)
  exact call_given (bs := []) F bd S hN hva hG hr L run J1 hf fNo fFr isC (fun z1 _ => .of_eq (hbind _ _ _ _ _ _)) (fun y hy => nomatch hy) (rd.2 G1 ext tabs) hd hcd
/-- x(lambda b=i: body) -/
theorem pe_lamG1 {b : Str} {e : Expr} {i : Int} (F : Fun X.K x x st g gd) (hm : X.mg x = some (.ref g)) (bd : Binds X.K gd [a] []) (S : FnScope N [a] (defScope st)) (hN : N[0]? = some a) (hva : Vis (defScope st) a) (hG : GivesG X N x (defScope st) g (defBody st) a (X.env.qual ++ "<lambda>") (k + 1) TT)
    (TB : TabB X.base X.mg c P) (hcode : X.env.code = .ref c) (hmT : (P, X.env.qual ++ "<lambda>") ∈ T) (hu : ∀ p ∈ T, p.1 = P → p.2 = X.env.qual ++ "<lambda>") (hr : RoomG (k + 2) X.A) (L : LamN X.N X.env.scope scope) (hdef : params.defaults = [e]) (hk0 : params.kw_defaults = []) (he : PE X e (tC (.int i)))
    (hbind : ∀ (z1 : Shared) (t : Addr) (dv : Value) (q : Str) (cl : List (Str × Addr)) (doc pm cv ctv : Value), z1.heap.get? t = some (PySem.W.kdv_tup [dv]) → BindsTo z1 (PySem.W.kdv_fn "<lambda>" q params (.expr body) scope cl (.ref t) doc pm cv ctv) ⟨[], []⟩ [(b, dv)])
    (own : scope.names.lookup b = some .local)
    (run : ∀ (A : Around) (outer : List Env) (s : Shared) (H : Hp) (E : XK) (f c' : Addr), RoomG k (A.deeper (lamEnv X scope s.heap.objs.size f c')) → PE (lamCx X A outer s H E scope f c') body (t E)) (hg : Gl X x := by rfl)
    (hdb : (x == ("__debug__" : Str)) = false := by decide) (hd : (a == ("__debug__" : Str)) = false := by decide) (hcd : (a == ("__classdict__" : Str)) = false := by decide) :
    PE X (.Call (.Name x p) [.Lambda params body scope lpos] [] pos) (tLam T TT t) := by
  refine ⟨fun ps z τ G Q J rd => wpAny_Call_Name_kw (ld_glob J hg hm (PySem.W.callWith_K (h₀ := X.base) J.mod.kin F.kp ?_ (by rfl) (by rfl)) hdb)⟩
  show wpAny _ _ (spliced ((false, eval (.Lambda params body scope lpos) X.env) :: backTo pos (starEach [] X.env))) _ _ z
  refine Calls.spliced_cons (lam_make1 J TB hcode hmT hu rd.1 hdef hk0 he (L.has J.ok) (fun _ _ q => q) fun f t c' dv doc pm ctv G1 z' J1 ext tabs hf tIs rel fNo fFr tNo tFr isC => Calls.spliced_nil ⟨J1.kIn, ?_⟩)
  exact call_given (bs := [(b, dv)]) F bd S hN hva hG hr L run J1 hf fNo fFr isC (fun z1 keep => hbind z1 t dv _ _ _ _ _ _ (keep t _ tIs tNo tFr)) (fun y hy => by rw [List.mem_singleton.mp hy]; exact own) (rd.2 G1 ext tabs) hd hcd
end
section
variable {Z : Cx} {f c' : Addr} {a q : Str} {tl : XK → Hp → VK → Prop}
/-- a() as a statement, where what it may let out is chosen at the reading -/
theorem ps_asked {pn : List (Addr × Obj)} {xe : Value → Shared → Prop} {W : WX} {p1 p2 p3 : Pos}
    (act : ∀ (W : WX) (pn : List (Addr × Obj)) (xe : Value → Shared → Prop) (E : XK) (p1 p2 : Pos), Takes (Z.tr pn xe) W →
      PE (Z.tr pn xe) (.Call (.Name a p1) [] [] p2) (fun σZ HZ Q => σZ[0]? = some (some (.ref f)) ∧ HZ c' = some (CodeO c' q) ∧ (∀ cls d H', E cls d H' → W cls d σZ H') ∧ tl E HZ Q)) (tk : Takes (Z.tr pn xe) W) :
    PS (Z.tr pn xe) (.Expr (.Call (.Name a p1) [] [] p2) p3) (fun D σ H => ∃ E : XK, σ[0]? = some (some (.ref f)) ∧ H c' = some (CodeO c' q) ∧ (∀ cls d H', E cls d H' → W cls d σ H') ∧ tl E H fun _ H1 => D.nx σ H1) :=
  ⟨fun ps z τ G D J rd => by
    obtain ⟨E, rd⟩ := rd
    exact (ps_expr (act W pn xe E p1 p2 tk)).run ps z τ G D J rd⟩
end
end TG
set_option maxHeartbeats 400000
/-! the end of a law whose defs make lambdas: tables of code objects, the promise by FnG -/
namespace TG
open PySem PySem.Spec L2 LamX
open PyProof.Rows hiding St
section
/-- the head, where the tables at cs are told among the objects -/
theorem law_goGT {P : Program} {w : World} {K : PySem.W.Frag} {mg mb : Str → Option Value} {k : Nat} {fa a : Addr} {cs : List (Addr × Addr)} {fd : FuncData} {x : Str} {sp : Sp} {z : Shared} {vs : List Value} {ns : List Int}
    (KX : K.In z.heap) (hns : z.heap.Ns mainGlobals mg) (hb : z.heap.Ns builtinsNs mb) (hbb : ∀ x : Str, x ≠ "__name__" → mb x = bootBuiltins x) (hlim : z.heap.NoLimit) (hg : z.gens = #[])
    (tabs : ∀ p ∈ cs, PySem.W.CodeHd z.heap p.1 p.2 ∧ z.heap.get? p.2 = some (PySem.W.tabObj #[])) (nT : ∀ p ∈ cs, K.lookup p.2 = none)
    (hbm : ∃ (bm : Addr) (ob : Obj), mg "__builtins__" = some (.ref bm) ∧ bm ≠ builtinsNs ∧ z.heap.get? bm = some ob ∧ ob.cls = .type "module" ∧ ob.dict = some builtinsNs ∧ ob.data = .plain)
    (ha : z.heap.get? a = some { cls := .type "list", data := .seq vs.toArray }) (hi : IntsAre vs ns) (hl : ns.length ≤ sizeLine) (hr : RoomG k callerA)
    (F : ∀ base : Heap, K.In base → base.Ns mainGlobals mg → (∀ p ∈ cs, TabB base mg p.1 p.2) → FnG P w K mg base CX0 k fa fd [x] sp) (hbind : ∀ (s : Shared) (u : Value), BindsTo s fd ⟨[u], []⟩ [(x, u)])
    (hsp : ∀ H : Hp, (∀ p ∈ cs, H p.2 = some (.tbl #[])) → SqL K H a (ns.map V.int) → sp [.ref a] H (fun v _ => v = .bl true) fun _ _ _ => False) :
    codeAny (model P w) callerA (.call (.ref fa) ⟨[.ref a], []⟩) (fun r s' => r = .ok (.ret (.bool true)) ∧ OldK z.heap s'.heap ∧ s'.os = z.os ∧ AllBare s'.gens) z := by
  have rv := vals_ints hi
  have isTab : ∀ b, (∃ p ∈ cs, b = p.2) → z.heap.get? b = some (PySem.W.tabObj #[]) := fun b ⟨p, hp, e⟩ => e ▸ (tabs p hp).2
  have aNot : ¬ ∃ p ∈ cs, a = p.2 := fun q => by
    have e := (isTab a q).symm.trans ha
    exact nomatch (show Data.fields #[] = Data.seq vs.toArray _ from congrArg Obj.data (Option.some.inj e))
  have run : ∀ G : Hp, (∀ p ∈ cs, G p.2 = some (.tbl #[])) → (∀ b, G b = none ∨ (∃ p ∈ cs, b = p.2) ∨ ∃ o xs, G b = some (.frz o (.lst xs))) → SqL K G a (ns.map V.int) → HOk P w G z.heap → (∀ b, G b ≠ none → b = a ∨ ∃ p ∈ cs, b = p.2) → (G a ≠ none → K.lookup a = none) →
      codeAny (model P w) callerA (.call (.ref fa) ⟨[.ref a], []⟩) (fun r s' => r = .ok (.ret (.bool true)) ∧ OldK z.heap s'.heap ∧ s'.os = z.os ∧ AllBare s'.gens) z := by
    intro G gT gO gS gok gA gK
    have inB : ∀ {b : Addr} {o : Obj}, z.heap.get? b = some o → G b = none → (hidT z.heap G).get? b = some o := fun e n => hidT_get e n
    have not : ∀ {b : Addr} {o : Obj}, z.heap.get? b = some o → o.cls ≠ .type "list" → o.cls ≠ .none → G b = none := fun {b o} e n1 n2 => by
      cases q : G b with
      | none => rfl
      | some u =>
        rcases gA b (by rw [q]; exact Option.some_ne_none _) with rfl | t
        · rw [ha] at e
          exact absurd (congrArg Obj.cls (Option.some.inj e)).symm n1
        · rw [isTab b t] at e
          exact absurd (congrArg Obj.cls (Option.some.inj e)).symm n2
    have free : ∀ {b : Addr} {o : Obj} {es : Array DictEntry} {ep : Nat}, z.heap.get? b = some o → o.data = .dict es ep → G b = none := fun {b o es ep} e d => by
      cases q : G b with
      | none => rfl
      | some u =>
        rcases gA b (by rw [q]; exact Option.some_ne_none _) with rfl | t
        · rw [ha] at e
          cases e
          exact nomatch (show Data.seq vs.toArray _ = Data.dict es ep from d)
        · rw [isTab b t] at e
          cases e
          exact nomatch (show Data.fields #[] = Data.dict es ep from d)
    have names : ∀ {b : Addr} {m : Str → Option Value}, z.heap.Ns b m → (hidT z.heap G).Ns b m := fun {b m} ⟨o, es, ep, e, d, r⟩ => ⟨o, es, ep, inB e (free e d), d, r⟩
    have kB : K.In (hidT z.heap G) := fun b o e => inB (KX b o e) (by
      cases q : G b with
      | none => rfl
      | some u =>
        rcases gA b (by rw [q]; exact Option.some_ne_none _) with rfl | ⟨p, hp, rfl⟩
        · have n := gK (by rw [q]; exact Option.some_ne_none _)
          exact nomatch n.symm.trans e
        · exact nomatch (nT p hp).symm.trans e)
    have md : Mod K mg (hidT z.heap G) := ⟨kB, names hns, ⟨mb, names hb, hbb⟩, let ⟨mc, h1, h2⟩ := hlim; ⟨mc, names h1, h2⟩⟩
    have tb : ∀ p ∈ cs, TabB (hidT z.heap G) mg p.1 p.2 := fun p hp => by
      have ⟨⟨o, us, fl, tf, fg, tg, inF, tx, tt, e1, e2, rest⟩, e3⟩ := tabs p hp
      have ⟨bm, ob, b1, b2, b3, b4, b5, b6⟩ := hbm
      have ⟨om, es, ep, m1, m2, _⟩ := hns
      refine ⟨⟨o, us, fl, tf, fg, tg, inF, tx, tt, inB e1 (not e1 (by rw [e2]; decide) (by rw [e2]; exact nofun)), e2, rest⟩, ⟨bm, ob, b1, b2, ?_, ?_, inB b3 (not b3 (by rw [b4]; decide) (by rw [b4]; exact nofun)), b4, b5, b6⟩, ?_⟩
      · rintro rfl
        rw [b3] at m1
        cases m1
        exact nomatch b6.symm.trans m2
      · rintro rfl
        rw [b3] at e3
        cases e3
        exact nomatch b6
      · intro q
        rw [← q, m1] at e3
        cases e3
        exact nomatch m2
    have e0 : Env0 P w K mg (hidT z.heap G) callerA [] z G := ⟨rfl, md, fun b o e => of_hidT e, Nat.le_of_eq (hidT_size _ _), trivial, (fun b q => nomatch (show b ∈ ([] : List Addr) from q)), gok, .of_eq hg⟩
    refine codeAny_mono ((F _ kB (names hns) tb).go callerA [] z G ⟨[.ref a], []⟩ [.ref a] [.ref a] _ _ hr e0 (hbind z (.ref a)) (.cons rfl .nil) (hsp G gT gS)) fun r s' h => ?_
    match r, h with
    | .error e, h => exact False.elim h
    | .ok .next, h => exact False.elim h
    | .ok .brk, h => exact False.elim h
    | .ok .cont, h => exact False.elim h
    | .ok (.ret u), h =>
      obtain ⟨v, G', os, bare, un, gok', r', q⟩ := h
      cases (show v = V.bl true from q)
      cases (show u = Value.bool true from r')
      have stays : ∀ b o, (¬ ∃ p ∈ cs, b = p.2) → z.heap.get? b = some o → s'.heap.get? b = some o := fun b o n e => by
        rcases gO b with q | q | ⟨ob, xs, q⟩
        · exact un.keep b o e q (fun z => nomatch (show b ∈ ([] : List Addr) from z)) List.not_mem_nil
        · exact absurd q n
        · have e1 := (gok b _ q).1
          have e2 := (gok' b _ (un.frzs b ob _ q)).1
          rw [e] at e1
          cases e1
          exact e2
      have grown : ∀ p ∈ cs, ∃ more : Array Value, s'.heap.get? p.2 = some { cls := .none, data := .fields more } := fun p hp => by
        have ⟨more, q⟩ := un.tbls p.2 #[] (gT p hp)
        exact ⟨_, gok' p.2 _ q⟩
      refine ⟨rfl, ⟨fun b o e => ?_, fun b o e => ?_⟩, os, bare⟩
      · by_cases t : ∃ p ∈ cs, b = p.2
        · have ⟨p, hp, hb⟩ := t
          have ⟨more, q⟩ := grown p hp
          rw [hb] at e ⊢
          have e2 := (tabs p hp).2
          rw [e] at e2
          cases e2
          exact .inr (.inl ⟨((tabs p hp).1.tab e).isCodeTable, rfl, #[], more, rfl, by rw [Array.empty_append]; exact q⟩)
        · exact .inl (stays b o t e)
      · by_cases t : ∃ p ∈ cs, b = p.2
        · have ⟨p, hp, hb⟩ := t
          have ⟨more, q⟩ := grown p hp
          exact ⟨_, hb ▸ q⟩
        · exact ⟨o, stays b o t e⟩
  let scr : HO := .frz { cls := .type "list", data := .seq vs.toArray } (.lst (ns.map V.int))
  have dec : ∀ b, Decidable (∃ p ∈ cs, b = p.2) := fun _ => inferInstance
  cases hk : K.lookup a with
  | some o =>
    have e := KX a o hk
    rw [ha] at e
    cases e
    refine run (fun b => if ∃ p ∈ cs, b = p.2 then some (.tbl #[]) else none) (fun p hp => if_pos ⟨p, hp, rfl⟩) (fun b => ?_) (.inr ⟨_, vs.toArray, _, hk, rfl, rfl, rfl, by rw [List.size_toArray, hi.length]; exact hl, by simpa using rv⟩) (fun b u q => ?_) (fun b q => ?_) fun q => absurd (if_neg aNot) q
    · by_cases t : ∃ p ∈ cs, b = p.2
      · exact .inr (.inl t)
      · exact .inl (if_neg t)
    · by_cases t : ∃ p ∈ cs, b = p.2
      · cases (if_pos t).symm.trans q
        exact isTab b t
      · exact nomatch (if_neg t).symm.trans q
    · by_cases t : ∃ p ∈ cs, b = p.2
      · exact .inr t
      · exact absurd (if_neg t) q
  | none =>
    refine run (fun b => if b = a then some scr else if ∃ p ∈ cs, b = p.2 then some (.tbl #[]) else none) (fun p hp => (if_neg fun q => aNot ⟨p, hp, q.symm⟩).trans (if_pos ⟨p, hp, rfl⟩)) (fun b => ?_) (.inl (.inr ⟨{ cls := .type "list", data := .seq vs.toArray }, if_pos rfl⟩)) (fun b u q => ?_) (fun b q => ?_) fun _ => hk
    · by_cases e : b = a
      · exact .inr (.inr ⟨_, _, if_pos e⟩)
      · by_cases t : ∃ p ∈ cs, b = p.2
        · exact .inr (.inl t)
        · exact .inl ((if_neg e).trans (if_neg t))
    · by_cases e : b = a
      · cases (if_pos e).symm.trans q
        subst e
        exact ⟨ha, by rw [List.length_map]; exact hl, vs, _, rv, ha⟩
      · by_cases t : ∃ p ∈ cs, b = p.2
        · cases ((if_neg e).trans (if_pos t)).symm.trans q
          exact isTab b t
        · exact nomatch ((if_neg e).trans (if_neg t)).symm.trans q
    · by_cases e : b = a
      · exact .inl e
      · by_cases t : ∃ p ∈ cs, b = p.2
        · exact .inr t
        · exact absurd ((if_neg e).trans (if_neg t)) q
/-- the goal that the head leaves; the law's text tells its makers of lambdas by name: qs -/
theorem walk_ofGT {l : PySem.W.OpenLaw} {n k : Nat} {q : Program} {loose : List Str} {XP : (Str → Option Value) → Heap → Prop} {YP : World → Heap → Prop} {d : DefRec} {K : Params → PySem.W.Frag} {sp : World → List (Addr × Addr) → Sp} {x : Str}
    (hn : l.most = some n) (hn2 : n ≤ sizeLine) (hdf : d.params.defaults = []) (hr : RoomG k callerA) (hY : ∀ (w : World) (h : Heap), YP w h → (K w.params).In h)
    (F : ∀ (w : World) (mg : Str → Option Value) (fa : Addr) (h : Heap), (K w.params).In h → h.Ns mainGlobals mg → mg d.name = some (.ref fa) →
      ∃ (fd : FuncData) (qs : List (Str × Addr × Addr)), (∀ e ∈ qs, ((recsOf q).find? (fun r => r.name == e.1)).isSome = true ∧ PySem.W.tabIn (K w.params) e.1 = some e.2 ∧ (K w.params).lookup e.2.2 = none) ∧ (∀ (s : Shared) (u : Value), BindsTo s fd ⟨[u], []⟩ [(x, u)]) ∧
        (∀ (H : Hp) (a : Addr) (ns : List Int), ns.length ≤ n → (∀ e ∈ qs, H e.2.2 = some (.tbl #[])) → SqL (K w.params) H a (ns.map V.int) → sp w (qs.map (·.2)) [.ref a] H (fun v _ => v = .bl true) fun _ _ _ => False) ∧
        ∀ base : Heap, (K w.params).In base → base.Ns mainGlobals mg → (∀ e ∈ qs, TabB base mg e.2.1 e.2.2) → FnG l.prog w (K w.params) mg base CX0 k fa fd [x] (sp w (qs.map (·.2)))) :
    PySem.W.WalkO q loose XP YP l.row.toRowW d [] (fun f vs => PySem.call f vs) := by
  refine Att.attach_call hn hdf fun w s₀ s₁ mg mb fa o pm cd doc a vs ns G Y ho hd hcd hmg hobj hints hlen hg => ?_
  have KX := hY w _ Y
  obtain ⟨fd, qs, hq, hb, hsp, hF⟩ := F w mg fa _ KX G.T.g hmg
  refine law_goGT (cs := qs.map (·.2)) KX G.T.g G.T.b G.T.builtins G.T.nolimit hg (fun p hp => ?_) (fun p hp => ?_) ?_ hobj hints (Nat.le_trans hlen hn2) hr (fun base h1 h2 h3 => hF base h1 h2 fun e he => h3 e.2 (List.mem_map.mpr ⟨e, he, rfl⟩)) hb fun H hT hS => hsp H a ns hlen (fun e he => hT e.2 (List.mem_map.mpr ⟨e, he, rfl⟩)) hS
  · obtain ⟨e, he, rfl⟩ := List.mem_map.mp hp
    have ⟨h1, h2, _⟩ := hq e he
    have ⟨r, hr⟩ := Option.isSome_iff_exists.mp h1
    exact PySem.W.tab_of G.T KX hr h2
  · obtain ⟨e, he, rfl⟩ := List.mem_map.mp hp
    exact (hq e he).2.2
  · have ⟨bm, ob, h1, h2, h3, h4, h5, h6⟩ := G.T.bmain
    exact ⟨bm, ob, h1, h2, h3, h4, h5, h6⟩
end
end TG
set_option maxHeartbeats 400000
/-! own rules: x is x of one object, the truth of an instance by its own def, == and != of data 202 deep, a call by keywords whose raise is let out -/
namespace TG
open PySem PySem.Spec L2
open PyProof.Rows hiding St
section
variable {X : Cx}
def rIsOne : R2 := fun x y H Q => ∃ a : Addr, x = .ref a ∧ y = .ref a ∧ Q (.bl true) H
theorem op_isOne : OpR X (compareOp .Is) rIsOne := by
  rintro ps z τ G _ _ v u Q J rx ry ⟨a, rfl, rfl, q⟩
  cases (show v = Value.ref a from rx)
  cases (show u = Value.ref a from ry)
  show wpAny _ _ (do return Value.bool (← isSame (.ref a) (.ref a))) _ _ z
  have one : isSame (.ref a) (.ref a) = pure true := by
    unfold isSame
    exact if_pos (beq_self_eq_true a)
  rw [one]
  exact wpAny_bind (wpAny_pure (wpAny_pure ⟨.bl true, G, J, rfl, q⟩))
/-- an instance with its own __bool__ -/
def rTruOwn (K : PySem.W.Frag) (C : Addr) (sp : Sp) : V → Hp → (Bool → Hp → Prop) → Prop := fun x H Q => ∃ (a dx : Addr) (fs : List (Str × V)), x = .ref a ∧ H a = some (.ins C dx fs) ∧ sp [.ref a] H (fun v H' => ∃ b, v = .bl b ∧ Q b H') E0
theorem tru_own {C f : Addr} {fd : FuncData} {qs : List Str} {sp : Sp} {k : Nat} (F : FnG X.prog X.w X.K X.mg X.base CX0 k f fd qs sp) (bd : Binds X.K fd qs []) (hs : PySem.W.findIn X.K (.ref C) "__bool__" = some (some (.ref f))) (hf : PySem.W.typeIn X.K (.ref f) = some (.type "function")) (hr : RoomG k X.A) : TruR X (rTruOwn X.K C sp) := by
  rintro ps z τ G _ v Q J rx ⟨a, dx, fs, rfl, at_, rd⟩
  cases (show v = Value.ref a from rx)
  have ⟨mA, O, _⟩ := ins_get J.hok at_
  have ⟨od, I, _⟩ := O.look
  have n := F.len _ _ _ _ rd
  have to : wpAny (model X.prog X.w) X.A (call (.ref f) [.ref a]) (EP X ps τ fun v H' => ∃ b, v = .bl b ∧ Q b H') X.xe z :=
    run_fnG (us := [.ref a]) (vs := [.ref a]) (ks := []) (ws := []) (zs := []) F hr (binds_kb bd) pass0 J (.cons rfl .nil) .nil n rfl rd
  have key : wpAny (model X.prog X.w) X.A (callSpecial? (.ref a) (Str.ofString "__bool__")) (fun r s' => ∃ b, r = some (.bool b) ∧ TP X ps τ Q b s') X.xe z := by
    refine PySem.W.special_fn J.kIn I hs hf (wpAny_mono to (fun r s' h => ?_) fun _ _ e => e)
    obtain ⟨w, H', J', rw_, b, rfl, q⟩ := h
    cases (show r = Value.bool b from rw_)
    exact ⟨b, rfl, H', J', q⟩
  unfold truthy
  first
    | exact wpAny_bind (wpAny_mono key (fun r s' h => by obtain ⟨b, rfl, q⟩ := h; exact wpAny_pure q) fun _ _ e => e)
    | exact wpAny_bind (wpAny_pure (wpAny_bind (wpAny_mono key (fun r s' h => by obtain ⟨b, rfl, q⟩ := h; exact wpAny_pure q) fun _ _ e => e)))
theorem room_dd {k : Nat} {A : Around} (h : Room (k + 1) A) : A.units + 203 < cLine := by have := h.un; omega
theorem roomG_dd {k : Nat} {A : Around} (h : RoomG (k + 1) A) : A.units + 203 < cLine := by have := h.un; omega
def rEqDD (K : PySem.W.Frag) : R2 := fun x y H Q => ∃ d e, Dp K H x d ∧ Dp K H y e ∧ d.canLay0 = true ∧ e.canLay0 = true ∧ d.depth ≤ 202 ∧ Q (.bl (PyData.eqv d e)) H
theorem op_eqDD (hu : X.A.units + 203 < cLine) : OpR X (compareOp .Eq) (rEqDD X.K) := by
  rintro ps z τ G x y v u Q J rx ry ⟨d, e, hd, he, sd, se, dd, q⟩
  have ⟨_, r1⟩ := Dp.reads J d x v hd rx
  have ⟨_, r2⟩ := Dp.reads J e y u he ry
  have le : min d.depth e.depth ≤ d.depth := Nat.min_le_left _ _
  exact SeqAt.compareEq_reads r1 r2 sd se (by omega) ⟨.bl _, G, J, rfl, q⟩
def rNeDD (K : PySem.W.Frag) : R2 := fun x y H Q => ∃ d e, Dp K H x d ∧ Dp K H y e ∧ d.canLay0 = true ∧ e.canLay0 = true ∧ d.depth ≤ 202 ∧ Q (.bl (!PyData.eqv d e)) H
theorem op_neDD (hu : X.A.units + 203 < cLine) : OpR X (compareOp .NotEq) (rNeDD X.K) := by
  rintro ps z τ G x y v u Q J rx ry ⟨d, e, hd, he, sd, se, dd, q⟩
  have ⟨_, r1⟩ := Dp.reads J d x v hd rx
  have ⟨_, r2⟩ := Dp.reads J e y u he ry
  have le : min d.depth e.depth ≤ d.depth := Nat.min_le_left _ _
  exact SeqAt.compareNe_reads r1 r2 sd se (by omega) ⟨.bl _, G, J, rfl, q⟩
end
section
variable {X : Cx} {CX : CXT} {k j : Nat} {f : Addr} {fd : FuncData} {qs ks : List Str} {sp : Sp} {x : Str} {p pos : Pos} {kws : List Keyword} {tk : L2.TA} {E : XK} {g : List Value → List Value → List Value} {gV : List V → List V → List V}
theorem pe_kwG (F : FnG X.prog X.w X.K X.mg X.base CX k f fd qs sp) (B : KBn X.K fd qs 0 ks g gV) (hr : RoomG j X.A) (hj : k ≤ j) (hm : X.mg x = some (.ref f)) (hk : PySem.W.keepIn X.K (.ref f) = true) (lets : Passes CX X E) (args : PK X kws tk) (hg : Gl X x := by rfl)
    (all : (backToKw pos (keywordEach kws X.env)).all (·.1.isSome) = true := by rfl) (names : (backToKw pos (keywordEach kws X.env)).filterMap (·.1) = ks := by rfl)
    (nd : (x == ("__debug__" : Str)) = false := by decide) (pl : ((backTo pos (starEach [] X.env)).any (·.1) || (backToKw pos (keywordEach kws X.env)).any (·.1.isNone)) = false := by rfl) :
    PE X (.Call (.Name x p) [] kws pos) (tCallN 0 ks.length sp gV E tNil tk) := by
  refine ⟨fun ps z τ G Q J rd => wpAny_Call_Name_kw (ld_glob J hg hm (PySem.W.callWith_KW0 (h₀ := X.base) J.mod.kin hk all (thn (args.run pos ps z τ G _ J rd) ?_) pl) nd)⟩
  rintro ws z2 ⟨zs, H2, J2, rz, l1, l2, q⟩
  refine ⟨J2.kIn, ?_⟩
  rw [names]
  exact run_fnG (us := []) (vs := []) F (hr.mono hj) B lets J2 .nil rz rfl (rz.length.symm.trans l2) q
end
end TG
set_option maxHeartbeats 400000
namespace TF18
open PySem PySem.Spec L2 TG TA LamX
open PyProof.Rows hiding St
/-! ### what a call raises, told -/
theorem takesN {X : Cx} : Takes X (fun _ _ _ _ => False) := fun _ _ x => by
  obtain ⟨_, _, _, _, _, _, _, _, _, _, _, _, _, _, _, _, z⟩ := x
  exact z.elim
structure HrdC (K : PySem.W.Frag) (mg : Str → Option Value) (CT CP aB : Addr) : Prop where
  gA : mg "AgainError" = some (.ref aB)
  eA : PySem.W.exmOne K (.ref CT) (.ref aB) = some true
  x : L2.ExcC K CT
  kT : PySem.W.kitOne K (.ref CT) (.ref CT) = some true
  kN : PySem.W.kitOne K (.type "NoneType") (.ref CT) = some false
  kP : PySem.W.kitOne K (.ref CP) (.ref CP) = some true
  ha : PySem.W.findIn K (.ref CP) "__class__" = some (some (.builtin "object.__class__"))
  hm : PySem.W.mroIn K CP (.type "object") = some true
abbrev sHrd : Stmt := top 84
theorem scHrd : FnScope ["ask", "caught", "error"] ["ask"] (defScope sHrd) := ⟨rfl, rfl, rfl, by decide +kernel, rfl, by decide +kernel, by decide +kernel⟩
/-- what may be raised within, and what is told of it -/
def EH (CT : Addr) (Q : VK) : XK := fun cls d H' => cls = .ref CT ∧ ∃ (dd : Addr) (u : Str) (n : Nat), d = some dd ∧ H' dd = some (.xd [("most", .int (n : Int)), ("what", .str u)]) ∧ ∀ (r : Addr) (H'' : Hp), Same H' H'' → H'' r = some (.tup [.str u, .int (n : Int)]) → Q (.ref r) H''
def TTh (CT : Addr) (tl : XK → Hp → VK → Prop) (H : Hp) (Q : VK) : Prop := ∀ Q' : VK, (∀ v H', Q .non H' → Q' v H') → tl (EH CT Q) H Q'
theorem hrd_gives {X : Cx} {CT CP aB g : Addr} {q : Str} {k : Nat} (T : Bn X.mg) (R : X.mg "TooMany" = some (.ref CT)) (n1 : PySem.W.findIn X.K (.ref CT) "what" = some none) (n2 : PySem.W.findIn X.K (.ref CT) "most" = some none) (Z : HrdC X.K X.mg CT CP aB) :
    GivesG X ["ask", "caught", "error"] "_law_heard" (defScope sHrd) g (defBody sHrd) "ask" q (k + 1) (TTh CT) := by
  intro cdg f c' s H Q tl hr act hc h
  refine ⟨_, (pss_cons (ps_set (i := 1) scHrd.nd rfl (.inl rfl) pe_non)
      (pss_cons (ps_try_hold (i := 2) (j := 1) rfl rfl rfl scHrd.nd rfl rfl rfl rfl ⟨rfl, by decide, .inl Z.gA⟩ takesN (fun W pn xe tk _ => (pss_one (ps_asked act tk))))
      (pss_cons (ps_if (pt_val (pe_callB call_isC (by rfl) T.b_isinstance (by decide +kernel) (pa_cons (pv 1) (pa_cons (pe_glob (v := .ref CT) rfl R rfl) pa_nil)))) (pss_one (ps_ret (pe_tup (pa_cons (pe_cfl (pv 1)) (pa_cons (pe_cfl (pv 1)) pa_nil))))) pss_nil)
      (pss_one (ps_ret (pe_ifExp (pt_cmpR op_isN (pv 1) pe_non (nomark _)) pe_non (pe_tup (pa_cons pe_str (pa_cons pe_int pa_nil))))))))), ?_⟩
  refine ⟨EH CT Q, rfl, hc, ?_, h _ fun v H1 q1 => ?_⟩
  · rintro _ _ H1 ⟨rfl, dd, u, n, rfl, hdx, q1⟩
    refine ⟨true, Z.eA, fun _ => ⟨CT, dd, rfl, rfl, fun a ha => ?_⟩, fun z => nomatch z⟩
    have s2 := new_same (o := xca a CT dd) ha
    have hC : CauAt (L2.upd H1 a (xca a CT dd)) a CT [("most", .int (n : Int)), ("what", .str u)] := ⟨dd, upd_same, s2 _ _ hdx⟩
    generalize L2.upd H1 a (xca a CT dd) = H2 at s2 hC ⊢
    refine ⟨_, rfl, .inr ⟨a, CT, _, _, _, true, rfl, hC, Z.x, .own CT, Z.kT, _, rfl, iteT ?_⟩⟩
    exact ⟨_, rfl, a, CT, _, _, rfl, hC, Z.x, n1, rfl, ⟨_, rfl, a, CT, _, _, rfl, hC, Z.x, n2, rfl, (by show 2 ≤ sizeLine; decide), fun r hr0 => q1 r _ (s2.trans (new_same hr0)) upd_same⟩⟩
  · refine ⟨_, rfl, .inl ⟨.non, .ref CT, .type "NoneType", .ref CT, false, rfl, .own CT, .base .non, Z.kN, _, rfl, iteF ?_⟩⟩
    exact ⟨_, rfl, rfl, _, rfl, iteT q1⟩
end TF18
set_option maxHeartbeats 400000
namespace TF18
open PySem PySem.Spec L2 TG TA
open PyProof.Rows hiding St
open TG.Bt (lift hand)
/-! ### a step, counted outwards -/
theorem idx_cons (x z : Str) (l : List Str) : (x :: l).idxOf z = if x = z then 0 else l.idxOf z + 1 := by
  by_cases e : x = z
  · rw [if_pos e, e, List.idxOf_cons_self]
  · rw [if_neg e, List.idxOf_cons, beq_eq_false_iff_ne.mpr e]
    rfl
theorem idx_in {z : Str} : ∀ {br ar : List Str}, z ∈ br → (br ++ ar).idxOf z = br.idxOf z
  | x :: br, ar, h => by
    rw [List.cons_append, idx_cons, idx_cons]
    by_cases e : x = z
    · rw [if_pos e, if_pos e]
    · rw [if_neg e, if_neg e, idx_in ((List.mem_cons.mp h).resolve_left fun q => e q.symm)]
theorem idx_out {z : Str} : ∀ {br ar : List Str}, z ∉ br → (br ++ ar).idxOf z = br.length + ar.idxOf z
  | [], ar, _ => (Nat.zero_add _).symm
  | x :: br, ar, h => by
    have e : ¬ x = z := fun q => h (q ▸ List.mem_cons_self)
    rw [List.cons_append, idx_cons, if_neg e, idx_out fun m => h (List.mem_cons_of_mem _ m), List.length_cons]
    omega
/-- the free names that are around become numbers -/
def bnd (ar : List Str) : Nat → Bt → Bt
  | _, .bd n => .bd n
  | k, .fr z => if z ∈ ar then .bd (k + ar.idxOf z) else .fr z
  | k, .of b => .of (bnd ar (k + 1) b)
  | k, .to a b => .to (bnd ar k a) (bnd ar k b)
/-- no number reaches out -/
def inn : Nat → Bt → Prop
  | k, .bd n => n < k
  | _, .fr _ => True
  | k, .of b => inn (k + 1) b
  | k, .to a b => inn k a ∧ inn k b
theorem inn_cnt : ∀ (w : Wr) (ar : List Str), inn ar.length (w.cnt ar)
  | .nm z, ar => by
    show inn ar.length (if z ∈ ar then Bt.bd (ar.idxOf z) else .fr z)
    by_cases h : z ∈ ar
    · rw [if_pos h]; exact List.idxOf_lt_length_of_mem h
    · rw [if_neg h]; exact True.intro
  | .of x b, ar => inn_cnt b (x :: ar)
  | .to a b, ar => ⟨inn_cnt a ar, inn_cnt b ar⟩
theorem cnt_bnd (ar : List Str) : ∀ (w : Wr) (br : List Str), w.cnt (br ++ ar) = bnd ar br.length (w.cnt br)
  | .nm z, br => by
    show (if z ∈ br ++ ar then Bt.bd ((br ++ ar).idxOf z) else .fr z) = bnd ar br.length (if z ∈ br then Bt.bd (br.idxOf z) else .fr z)
    by_cases h : z ∈ br
    · rw [if_pos h, if_pos (List.mem_append_left _ h), idx_in h]
      rfl
    · rw [if_neg h]
      show _ = if z ∈ ar then Bt.bd (br.length + ar.idxOf z) else .fr z
      by_cases h2 : z ∈ ar
      · rw [if_pos h2, if_pos (List.mem_append_right _ h2), idx_out h]
      · rw [if_neg h2, if_neg (fun m => (List.mem_append.mp m).elim h h2)]
  | .of x b, br => congrArg Bt.of (cnt_bnd ar b (x :: br))
  | .to a b, br => by
    show Bt.to (a.cnt (br ++ ar)) (b.cnt (br ++ ar)) = _
    rw [cnt_bnd ar a br, cnt_bnd ar b br]
    rfl
theorem lift_bnd (ar : List Str) (k : Nat) : ∀ (c : Bt) (j : Nat), inn j c → lift k j (bnd ar j c) = bnd ar (k + j) c
  | .bd n, j, h => by
    show Bt.bd (if j ≤ n then n + k else n) = .bd n
    rw [if_neg (Nat.not_le_of_lt h)]
  | .fr z, j, _ => by
    show lift k j (if z ∈ ar then .bd (j + ar.idxOf z) else .fr z) = if z ∈ ar then .bd (k + j + ar.idxOf z) else .fr z
    by_cases h : z ∈ ar
    · rw [if_pos h, if_pos h]
      show Bt.bd (if j ≤ j + ar.idxOf z then j + ar.idxOf z + k else _) = _
      rw [if_pos (Nat.le_add_right _ _)]
      congr 1
      omega
    · rw [if_neg h, if_neg h]
      rfl
  | .of b, j, h => congrArg Bt.of (lift_bnd ar k b (j + 1) h)
  | .to a b, j, h => by
    show Bt.to (lift k j (bnd ar j a)) (lift k j (bnd ar j b)) = _
    rw [lift_bnd ar k a j h.1, lift_bnd ar k b j h.2]
    rfl
theorem hand_bnd (ar : List Str) (x : Str) (c : Bt) (hc : inn 0 c) : ∀ (b : Bt) (k : Nat), inn k b → hand (bnd ar 0 c) k (bnd (x :: ar) k b) = bnd ar k (b.sub x c)
  | .bd n, k, h => by
    have h : n < k := h
    show (if n = k then _ else Bt.bd (if k < n then n - 1 else n)) = .bd n
    rw [if_neg (by omega), if_neg (by omega)]
  | .fr z, k, _ => by
    show hand (bnd ar 0 c) k (if z ∈ x :: ar then .bd (k + (x :: ar).idxOf z) else .fr z) = bnd ar k (if z = x then c else .fr z)
    by_cases e : z = x
    · subst e
      rw [if_pos rfl, if_pos List.mem_cons_self, List.idxOf_cons_self]
      show (if k + 0 = k then lift k 0 (bnd ar 0 c) else _) = _
      rw [if_pos (Nat.add_zero k), lift_bnd ar k c 0 hc]
      rfl
    · rw [if_neg e]
      show _ = if z ∈ ar then Bt.bd (k + ar.idxOf z) else .fr z
      by_cases h : z ∈ ar
      · rw [if_pos h, if_pos (List.mem_cons_of_mem _ h), show (x :: ar).idxOf z = ar.idxOf z + 1 by rw [List.idxOf_cons, beq_eq_false_iff_ne.mpr (fun q => e q.symm)]; rfl]
        show (if k + (ar.idxOf z + 1) = k then _ else Bt.bd (if k < k + (ar.idxOf z + 1) then k + (ar.idxOf z + 1) - 1 else _)) = _
        rw [if_neg (by omega), if_pos (by omega)]
        rfl
      · rw [if_neg h, if_neg (fun m => (List.mem_cons.mp m).elim e h)]
        rfl
  | .of b, k, h => congrArg Bt.of (hand_bnd ar x c hc b (k + 1) h)
  | .to a b, k, h => by
    show Bt.to (hand _ k (bnd (x :: ar) k a)) (hand _ k (bnd (x :: ar) k b)) = _
    rw [hand_bnd ar x c hc a k h.1, hand_bnd ar x c hc b k h.2]
    rfl
/-- the step within the names around it -/
theorem step_cnt {b c t : Wr} {x : Str} (e : t.cnt [] = (b.cnt []).sub x (c.cnt [])) (ar : List Str) : t.cnt ar = hand (c.cnt ar) 0 (b.cnt (x :: ar)) := by
  have h1 := cnt_bnd ar t []
  have h2 := cnt_bnd ar c []
  have h3 := cnt_bnd (x :: ar) b []
  rw [List.nil_append] at h1 h2 h3
  rw [h1, h2, h3, e]
  exact (hand_bnd ar x _ (inn_cnt c []) _ 0 (inn_cnt b [])).symm
end TF18
set_option maxHeartbeats 400000
namespace TF18
open PySem PySem.Spec L2 TG TA
open PyProof.Rows hiding St
open TG.Bt (lift hand)
/-! ### the places of steps, by the counted writing -/
theorem ready_stepW (s : Wr) (ar : List Str) : readyB (s.cnt ar) = stepP s := by
  cases s with
  | nm z =>
    show readyB (if z ∈ ar then Bt.bd (ar.idxOf z) else .fr z) = false
    by_cases h : z ∈ ar
    · rw [if_pos h]; rfl
    · rw [if_neg h]; rfl
  | of x b => rfl
  | to a b =>
    show readyB (.to (a.cnt ar) (b.cnt ar)) = stepP (.to a b)
    cases a with
    | nm z =>
      show readyB (.to (if z ∈ ar then Bt.bd (ar.idxOf z) else .fr z) _) = false
      by_cases h : z ∈ ar
      · rw [if_pos h]; rfl
      · rw [if_neg h]; rfl
    | of x b => rfl
    | to a b => rfl
def onS {α : Type} (P : α → Bool) : Option α → Bool
  | some s => P s
  | none => false
theorem sel_zip {α β : Type} (P : α → Bool) (d : β) : ∀ (xs : List α) (ys : List β), xs.length = ys.length →
    ((List.range xs.length).filter (fun i => onS P xs[i]?)).map (fun i => (ys[i]?).getD d) = (xs.zip ys).filterMap (fun p => if P p.1 = true then some p.2 else none)
  | [], [], _ => rfl
  | x :: xs, [], h => by cases h
  | [], y :: ys, h => by cases h
  | x :: xs, y :: ys, h => by
    have ih := sel_zip P d xs ys (Nat.succ.inj h)
    have e1 : (((List.range xs.length).map Nat.succ).filter (fun i => onS P (x :: xs)[i]?)).map (fun i => ((y :: ys)[i]?).getD d) = (xs.zip ys).filterMap (fun p => if P p.1 = true then some p.2 else none) := by
      rw [← ih, List.filter_map, List.map_map]
      rfl
    show ((List.range (xs.length + 1)).filter _).map _ = _
    rw [List.range_succ_eq_map, List.zip_cons_cons]
    by_cases c : P x = true
    · rw [List.filter_cons_of_pos (p := fun i => onS P (x :: xs)[i]?) (a := 0) (by show onS P (x :: xs)[0]? = true; rw [List.getElem?_cons_zero]; exact c), List.map_cons, e1, List.filterMap_cons]
      simp only [c, if_true]
      rfl
    · rw [List.filter_cons_of_neg (p := fun i => onS P (x :: xs)[i]?) (a := 0) (by show ¬ onS P (x :: xs)[0]? = true; rw [List.getElem?_cons_zero]; exact c), e1, List.filterMap_cons]
      simp only [c]
      rfl
def selW (w : Wr) (p : List Nat) : List (List Nat) := (w.subs.zip (w.pths p)).filterMap (fun q => if stepP q.1 = true then some q.2 else none)
theorem sel_places : ∀ (w : Wr) (ar : List Str) (p : List Nat), selW w p = (placesB (w.cnt ar)).map (p ++ ·)
  | .nm z, ar, p => by
    show _ = (placesB (if z ∈ ar then Bt.bd (ar.idxOf z) else .fr z)).map _
    by_cases h : z ∈ ar
    · rw [if_pos h]; rfl
    · rw [if_neg h]; rfl
  | .of x b, ar, p => by
    have ih := sel_places b (x :: ar) (p ++ [0])
    show selW b (p ++ [0]) = ((placesB (b.cnt (x :: ar))).map (0 :: ·)).map (p ++ ·)
    rw [ih, List.map_map]
    exact List.map_congr_left fun z _ => List.append_assoc p [0] z
  | .to a b, ar, p => by
    have i1 := sel_places a ar (p ++ [0])
    have i2 := sel_places b ar (p ++ [1])
    have e : selW (.to a b) p = (if stepP (.to a b) = true then [p] else []) ++ (selW a (p ++ [0]) ++ selW b (p ++ [1])) := by
      show (((Wr.to a b) :: (a.subs ++ b.subs)).zip (p :: (a.pths (p ++ [0]) ++ b.pths (p ++ [1])))).filterMap _ = _
      rw [List.zip_cons_cons, List.zip_append (by rw [Wr.subs_len, Wr.pths_len]), List.filterMap_cons]
      by_cases c : stepP (.to a b) = true
      · simp only [c, if_true]
        rw [List.filterMap_append]
        rfl
      · simp only [c]
        rw [List.filterMap_append]
        rfl
    rw [e, i1, i2]
    show _ = (((if readyB (.to (a.cnt ar) (b.cnt ar)) = true then [[]] else []) ++ (placesB (a.cnt ar)).map (0 :: ·)) ++ (placesB (b.cnt ar)).map (1 :: ·)).map (p ++ ·)
    rw [show readyB (.to (a.cnt ar) (b.cnt ar)) = stepP (.to a b) from ready_stepW (.to a b) ar, List.map_append, List.map_append, List.map_map, List.map_map, ← List.append_assoc]
    congr 1
    · congr 1
      · by_cases c : stepP (.to a b) = true
        · rw [if_pos c, if_pos c]
          show [p] = [p ++ []]
          rw [List.append_nil]
        · rw [if_neg c, if_neg c]
          rfl
      · exact List.map_congr_left fun z _ => List.append_assoc p [0] z
    · exact List.map_congr_left fun z _ => List.append_assoc p [1] z
theorem steps_places (w : Wr) (ar : List Str) : stepsL w = placesB (w.cnt ar) := by
  have h := sel_zip stepP ([] : List Nat) w.subs (w.pths []) (by rw [Wr.subs_len, Wr.pths_len])
  rw [Wr.subs_len] at h
  have h2 := sel_places w ar []
  have e0 : stepsL w = List.map (fun i => ((w.pths [])[i]?).getD []) ((List.range w.sg).filter (fun i => onS stepP w.subs[i]?)) := by
    unfold stepsL
    show List.map w.path _ = List.map w.path _
    refine congrArg (List.map w.path) (List.filter_congr fun i _ => ?_)
    cases w.subs[i]? <;> rfl
  refine Eq.trans e0 (Eq.trans (show _ = selW w [] from h) ?_)
  rw [h2]
  show List.map (fun z => [] ++ z) _ = _
  simp
/-! ### the way to a sign -/
theorem path_of {x : Str} {b : Wr} {i : Nat} (h : i < b.sg) : (Wr.of x b).path (i + 1) = 0 :: b.path i := by
  have e := Wr.path_in (w := .of x b) (s := b) (j := 1) (m := i) (Wr.subs_zero b) h
  have e2 := Wr.path_kid (w := .of x b) (i := 0) (st := 0) (d := 1) (Wr.subs_zero _) rfl
  rw [Nat.zero_add, Wr.path_zero] at e2
  rw [Nat.add_comm i 1, e, e2]
  rfl
theorem path_one {a b : Wr} {i : Nat} (h : i < a.sg) : (Wr.to a b).path (i + 1) = 0 :: a.path i := by
  have k : (Wr.to a b).subs[1]? = some a := Wr.kid_one (w := .to a b) (i := 0) (Wr.subs_zero _)
  have e := Wr.path_in (w := .to a b) (s := a) (j := 1) (m := i) k h
  have e2 := Wr.path_kid (w := .to a b) (i := 0) (st := 0) (d := 1) (Wr.subs_zero _) rfl
  rw [Nat.zero_add, Wr.path_zero] at e2
  rw [Nat.add_comm i 1, e, e2]
  rfl
theorem path_two {a b : Wr} {i : Nat} (h : i < b.sg) : (Wr.to a b).path (a.sg + i + 1) = 1 :: b.path i := by
  have k : (Wr.to a b).subs[0 + 1 + a.sg]? = some b := Wr.kid_two (w := .to a b) (i := 0) (Wr.subs_zero _)
  have e := Wr.path_in (w := .to a b) (s := b) (j := 0 + 1 + a.sg) (m := i) k h
  have e2 := Wr.path_kid (w := .to a b) (i := 0) (st := 1) (d := 1 + a.sg) (Wr.subs_zero _) rfl
  rw [Wr.path_zero, ← Nat.add_assoc] at e2
  rw [show a.sg + i + 1 = 0 + 1 + a.sg + i by omega, e, e2]
  rfl
theorem okP_path {x : Str} {b c : Wr} : ∀ {w : Wr} {i : Nat} (ar : List Str), w.subs[i]? = some (.to (.of x b) c) → okP (w.path i) (w.cnt ar)
  | w, 0, ar, h => by
    rw [Wr.subs_zero] at h
    cases h
    rw [Wr.path_zero]
    exact True.intro
  | .nm _, i + 1, ar, h => nomatch h
  | .of y d, i + 1, ar, h => by
    rw [path_of (Wr.subs_lt (show d.subs[i]? = _ from h))]
    exact okP_path (w := d) (i := i) (y :: ar) h
  | .to d e, i + 1, ar, h => by
    have h : (d.subs ++ e.subs)[i]? = some (.to (.of x b) c) := h
    by_cases l : i < d.sg
    · rw [List.getElem?_append_left (by rw [Wr.subs_len]; exact l)] at h
      rw [path_one l]
      exact okP_path (w := d) (i := i) ar h
    · rw [List.getElem?_append_right (by rw [Wr.subs_len]; omega), Wr.subs_len] at h
      have l2 := Wr.subs_lt h
      have e3 := path_two (a := d) l2
      rw [show d.sg + (i - d.sg) = i by omega] at e3
      rw [e3]
      exact okP_path (w := e) (i := i - d.sg) ar h
/-- the writing with the step's outcome counts to the step of what it counted to -/
theorem repl_cnt {x : Str} {b c t : Wr} (et : t.cnt [] = (b.cnt []).sub x (c.cnt [])) : ∀ {w : Wr} {i : Nat} (ar : List Str), w.subs[i]? = some (.to (.of x b) c) → (Wr.repl t w i).cnt ar = stepB (w.path i) (w.cnt ar)
  | w, 0, ar, h => by
    rw [Wr.subs_zero] at h
    cases h
    rw [Wr.path_zero]
    exact step_cnt et ar
  | .nm _, i + 1, ar, h => nomatch h
  | .of y d, i + 1, ar, h => by
    rw [path_of (Wr.subs_lt (show d.subs[i]? = _ from h))]
    exact congrArg Bt.of (repl_cnt et (w := d) (i := i) (y :: ar) h)
  | .to d e, i + 1, ar, h => by
    have h : (d.subs ++ e.subs)[i]? = some (.to (.of x b) c) := h
    show (if i < d.sg then Wr.to (Wr.repl t d i) e else .to d (Wr.repl t e (i - d.sg))).cnt ar = _
    by_cases l : i < d.sg
    · rw [List.getElem?_append_left (by rw [Wr.subs_len]; exact l)] at h
      rw [path_one l, if_pos l]
      show Bt.to ((Wr.repl t d i).cnt ar) (e.cnt ar) = .to (stepB (d.path i) (d.cnt ar)) (e.cnt ar)
      rw [repl_cnt et (w := d) (i := i) ar h]
    · rw [List.getElem?_append_right (by rw [Wr.subs_len]; omega), Wr.subs_len] at h
      have l2 := Wr.subs_lt h
      have e3 := path_two (a := d) l2
      rw [show d.sg + (i - d.sg) = i by omega] at e3
      rw [e3, if_neg l]
      show Bt.to (d.cnt ar) ((Wr.repl t e (i - d.sg)).cnt ar) = .to (d.cnt ar) (stepB (e.path (i - d.sg)) (e.cnt ar))
      rw [repl_cnt et (w := e) (i := i - d.sg) ar h]
theorem repl_size {t : Wr} : ∀ (w : Wr) (i : Nat), (Wr.repl t w i).sg ≤ w.sg + t.sg ∧ (Wr.repl t w i).ly ≤ w.ly + t.ly
  | w, 0 => by
    have e : Wr.repl t w 0 = t := by cases w <;> rfl
    rw [e]
    exact ⟨Nat.le_add_left _ _, Nat.le_add_left _ _⟩
  | .nm _, i + 1 => ⟨Nat.le_add_right _ _, Nat.le_add_right _ _⟩
  | .of x b, i + 1 => by
    obtain ⟨h1, h2⟩ := repl_size (t := t) b i
    show (Wr.repl t b i).sg + 1 ≤ b.sg + 1 + t.sg ∧ (Wr.repl t b i).ly + 1 ≤ b.ly + 1 + t.ly
    omega
  | .to a b, i + 1 => by
    show (if i < a.sg then Wr.to (Wr.repl t a i) b else .to a (Wr.repl t b (i - a.sg))).sg ≤ a.sg + b.sg + 1 + t.sg ∧ (if i < a.sg then Wr.to (Wr.repl t a i) b else .to a (Wr.repl t b (i - a.sg))).ly ≤ max a.ly b.ly + 1 + t.ly
    by_cases l : i < a.sg
    · rw [if_pos l]
      obtain ⟨h1, h2⟩ := repl_size (t := t) a i
      show (Wr.repl t a i).sg + b.sg + 1 ≤ _ ∧ max (Wr.repl t a i).ly b.ly + 1 ≤ _
      omega
    · rw [if_neg l]
      obtain ⟨h1, h2⟩ := repl_size (t := t) b (i - a.sg)
      show a.sg + (Wr.repl t b (i - a.sg)).sg + 1 ≤ _ ∧ max a.ly (Wr.repl t b (i - a.sg)).ly + 1 ≤ _
      omega
/-- each place of a step is the place of a sign where a step can be done -/
theorem place_sign {w : Wr} {ns : List Nat} (h : ns ∈ placesB (w.cnt [])) : ∃ (i : Nat) (x : Str) (b c : Wr), w.subs[i]? = some (.to (.of x b) c) ∧ w.path i = ns := by
  rw [← steps_places w []] at h
  unfold stepsL at h
  obtain ⟨i, hi, rfl⟩ := List.mem_map.mp h
  have h2 := (List.mem_filter.mp hi).2
  cases e : w.subs[i]? with
  | none => rw [e] at h2; cases h2
  | some s =>
    rw [e] at h2
    match s, h2, e with
    | .to (.of x b) c, _, e => exact ⟨i, x, b, c, e, rfl⟩
/-! ### free names -/
/-! ### a step at a place is a step -/
open TG.Bt (Stp)
theorem stp_place : ∀ {ns : List Nat} {b : Bt}, okP ns b → Stp b (stepB ns b)
  | [], .to (.of x) c, _ => .top x c
  | 0 :: ns, .of b, h => .of (stp_place (ns := ns) (b := b) h)
  | 0 :: ns, .to a b, h => .toL (stp_place (ns := ns) (b := a) h)
  | 1 :: ns, .to a b, h => .toR (stp_place (ns := ns) (b := b) h)
end TF18
namespace TF18
open PySem PySem.Spec L2 TG TA
open PyProof.Rows hiding St
abbrev sSameP : Stmt := top 49
abbrev sEqP : Stmt := inClass (top 50) 1
abbrev sBoolP : Stmt := inClass (top 50) 2
theorem scSameP : FnScope ["one", "other"] ["one", "other"] (defScope sSameP) := ⟨rfl, rfl, rfl, by decide +kernel, rfl, by decide +kernel, by decide +kernel⟩
theorem scEqP : FnScope ["self", "other"] ["self", "other"] (defScope sEqP) := ⟨rfl, rfl, rfl, by decide +kernel, rfl, by decide +kernel, by decide +kernel⟩
theorem scBoolP : FnScope ["self"] ["self"] (defScope sBoolP) := ⟨rfl, rfl, rfl, by decide +kernel, rfl, by decide +kernel, by decide +kernel⟩
/-- two papers of a plain writing, of the same writing and number -/
def PlnTwo (CP a b : Addr) (H : Hp) : Prop := ∃ (t : Wr) (k : Nat), PlnAt CP H a t k ∧ PlnAt CP H b t k ∧ t.all okN = true ∧ t.ly ≤ 200
theorem PlnAt.ext {C : Addr} {H H' : Hp} {p : Addr} {t : Wr} {k : Nat} (h : PlnAt C H p t k) (s : Same H H') : PlnAt C H' p t k := by
  obtain ⟨dx, q, v, h1, h2, h3⟩ := h
  exact ⟨dx, q, v, h1.same s, s _ _ h2, s _ _ h3⟩
def spSameP (CP : Addr) : Sp := fun vs H Q _ => ∃ a b, vs = [.ref a, .ref b] ∧ PlnTwo CP a b H ∧ ∀ H', Same H H' → Q (.bl true) H'
def spTrue : Sp := fun vs H Q _ => ∃ v, vs = [v] ∧ Q (.bl true) H
section
variable {P : Program} {w : World} {K : PySem.W.Frag} {mg : Str → Option Value} {base : Heap} {f f1 fJ : Addr} {fd fd1 : FuncData}
theorem ok_sameP {CP : Addr} (F : Fun K "same_papers" "same_papers" sSameP f fd) (T : Bn mg) (Y : PlnC K mg CP fJ) : FnOk P w K mg base CX0 2 f fd ["one", "other"] (spSameP CP) := by
  refine F.ok scSameP (fun vs H Q E h => ?_) (fun cdv A outer sc0 H vs Q E hr h => ?_)
  · obtain ⟨a, b, rfl, _⟩ := h
    rfl
  obtain ⟨a, b, rfl, ⟨t, k, ⟨dx, qa, va, wa, ea, pa⟩, ⟨dy, qb, vb, wb, eb, pb⟩, hok, hly⟩, q⟩ := h
  refine ⟨_, (pss_one (ps_ret (pe_and (pe_cmpR op_isOne (pe_callTy NwS.call_typeC (by rfl) T.b_type (by decide +kernel) (pa_cons (pv 0) pa_nil)) (pe_callTy NwS.call_typeC (by rfl) T.b_type (by decide +kernel) (pa_cons (pv 1) pa_nil)) (nomark _)) (pe_and (pe_cmpR op_eq (pe_fld (pv 0) (by rfl)) (pe_fld (pv 1) (by rfl)) (nomark _)) (pe_one (pe_cmpR (op_eqDD (room_dd hr)) (pe_fld (pv 0) (by rfl)) (pe_fld (pv 1) (by rfl)) (nomark _))))))), ?_⟩
  refine ⟨_, rfl, a, CP, rfl, NwS.OfCls.ins pa, _, rfl, b, CP, rfl, NwS.OfCls.ins pb, CP, rfl, rfl, true, rfl, ?_⟩
  refine ⟨_, rfl, a, CP, dx, _, _, rfl, pa, Y.cl, Y.nW, rfl, _, rfl, b, CP, dy, _, _, rfl, pb, Y.cl, Y.nW, rfl, rfl, true, rfl, ?_⟩
  refine ⟨_, rfl, a, CP, dx, _, _, rfl, pa, Y.cl, Y.nP, rfl, _, rfl, b, CP, dy, _, _, rfl, pb, Y.cl, Y.nP, rfl, ?_⟩
  have lay : (PyData.tuple [t.d, .int (k : Int)]).canLay0 = true := by
    show (t.d.canLay0 && (PyData.canLay0 (.int (k : Int)) && PyData.canLayAll0 [])) = true
    rw [wd_lay hok]
    rfl
  have dd := wd_depth t
  refine ⟨.tuple [t.d, .int (k : Int)], .tuple [t.d, .int (k : Int)], .tup (SqT.of ea) (.cons wa.dp (.cons (.int _) .nil)), .tup (SqT.of eb) (.cons wb.dp (.cons (.int _) .nil)), lay, lay, ?_, ?_⟩
  · show max t.d.depth (max 0 0) + 1 ≤ 202
    omega
  rw [show PyData.eqv (.tuple [t.d, .int (k : Int)]) (.tuple [t.d, .int (k : Int)]) = true from by
    show (PyData.eqv t.d t.d && (decide ((k : Int) = k) && true)) = true
    rw [wd_self, decide_eq_true rfl]
    rfl]
  exact q H (fun _ _ e => e)
theorem ok_eqP {CP : Addr} (F : Fun K "__eq__" "Paper.__eq__" sEqP f fd) (T : Bn mg) (D_same_papers : Df K mg "same_papers" sSameP f1 fd1 ["one", "other"]) (G_same_papers : FnOk P w K mg base CX0 2 f1 fd1 ["one", "other"] (spSameP CP)) : FnOk P w K mg base CX0 3 f fd ["self", "other"] (spEq (PlnTwo CP)) := by
  refine F.ok scEqP (fun vs H Q E h => ?_) (fun cdv A outer sc0 H vs Q E hr h => ?_)
  · obtain ⟨a, b, rfl, _⟩ := h
    rfl
  obtain ⟨a, b, rfl, two, q⟩ := h
  refine ⟨_, (pss_one (ps_ret (pe_cd D_same_papers G_same_papers hr (by decide) (pa_cons (pv 0) (pa_cons (pv 1) pa_nil))))), ?_⟩
  exact ⟨_, rfl, _, rfl, a, b, rfl, two, fun H' s => q H' s⟩
theorem ok_boolP (F : Fun K "__bool__" "Paper.__bool__" sBoolP f fd) (T : Bn mg) : FnOk P w K mg base CX0 1 f fd ["self"] spTrue := by
  refine F.ok scBoolP (fun vs H Q E h => ?_) (fun cdv A outer sc0 H vs Q E hr h => ?_)
  · obtain ⟨v, rfl, _⟩ := h
    rfl
  obtain ⟨v, rfl, q⟩ := h
  refine ⟨_, (pss_one (ps_ret pe_bl)), ?_⟩
  exact q
end
end TF18
set_option maxHeartbeats 400000
namespace TF18
open PySem PySem.Spec L2 TG TA
open PyProof.Rows hiding St
open TG.Bt (Star Stp noR)
/-! ### a Plain is told as it is due -/
theorem noR_place : ∀ {b : Bt}, noR b = true → placesB b = []
  | .bd _, _ => rfl
  | .fr _, _ => rfl
  | .of b, h => by
    show (placesB b).map (0 :: ·) = []
    rw [noR_place (b := b) h]
    rfl
  | .to (.of x) b, h => nomatch (show false = true from h)
  | .to (.bd n) b, h => by
    have h : (noR (.bd n) && noR b) = true := h
    obtain ⟨h1, h2⟩ := Bool.and_eq_true_iff.mp h
    show ((if readyB (.to (.bd n) b) = true then [[]] else []) ++ (placesB (.bd n)).map (0 :: ·)) ++ (placesB b).map (1 :: ·) = []
    rw [noR_place h2]
    rfl
  | .to (.fr n) b, h => by
    have h : (noR (.fr n) && noR b) = true := h
    obtain ⟨h1, h2⟩ := Bool.and_eq_true_iff.mp h
    show ((if readyB (.to (.fr n) b) = true then [[]] else []) ++ (placesB (.fr n)).map (0 :: ·)) ++ (placesB b).map (1 :: ·) = []
    rw [noR_place h2]
    rfl
  | .to (.to u v) b, h => by
    have h : (noR (.to u v) && noR b) = true := h
    obtain ⟨h1, h2⟩ := Bool.and_eq_true_iff.mp h
    show ((if readyB (.to (.to u v) b) = true then [[]] else []) ++ (placesB (.to u v)).map (0 :: ·)) ++ (placesB b).map (1 :: ·) = []
    rw [noR_place h2, noR_place h1]
    rfl
theorem told_facts {wr : Wr} {b : Bt} {k m f : Nat} (ho : runP m f (wr.cnt []) 0 = .plain b k) (hok : wr.all okN = true) :
    (if k = 0 then wr else nmd b).cnt [] = b ∧ (if k = 0 then wr else nmd b).ly ≤ 200 ∧ (if k = 0 then wr else nmd b).sg ≤ 2000 ∧ (if k = 0 then wr else nmd b).all okN = true ∧ noR b = true ∧ b.all okN = true ∧ b.ly ≤ 200 := by
  have hbok : (wr.cnt []).all okN = true := Wr.cnt_all [] hok
  obtain ⟨_, hk0, hst, hno, hok', hcl', hg', hg⟩ := runP_facts ho hbok (cnt_cl wr [])
  obtain ⟨hsg', hly'⟩ := grt_none hg'
  have ht : (if k = 0 then wr else nmd b).cnt [] = b ∧ (if k = 0 then wr else nmd b).all okN = true := by
    by_cases c : k = 0
    · rw [if_pos c, hk0 c]
      exact ⟨rfl, hok⟩
    · rw [if_neg c]
      exact nmd_facts hok' hcl' hsg'
  have e1 : (if k = 0 then wr else nmd b).ly = b.ly := by rw [← Wr.cnt_ly _ [], ht.1]
  have e2 : (if k = 0 then wr else nmd b).sg = b.sg := by rw [← Wr.cnt_sg _ [], ht.1]
  exact ⟨ht.1, by omega, by omega, ht.2, hno, hok', hly'⟩
structure PapC (K : PySem.W.Frag) (mg : Str → Option Value) (CP CPa CD fB fE : Addr) : Prop where
  gPa : mg "Paper" = some (.ref CPa)
  gD : mg "Denial" = some (.ref CD)
  kPa : PySem.W.kitOne K (.ref CP) (.ref CPa) = some true
  kD : PySem.W.kitOne K (.ref CP) (.ref CD) = some false
  hs : PySem.W.findIn K (.ref CP) "__bool__" = some (some (.ref fB))
  hf : PySem.W.typeIn K (.ref fB) = some (.type "function")
  he : PySem.W.findIn K (.ref CP) "__eq__" = some (some (.ref fE))
  hfe : PySem.W.isFn K (.ref fE) = true
abbrev sTold : Stmt := top 85
theorem scTold : FnScope ["writing", "most", "due", "told"] ["writing", "most", "due"] (defScope sTold) := ⟨rfl, rfl, rfl, by decide +kernel, rfl, by decide +kernel, by decide +kernel⟩
def spTold : Sp := fun vs H Q _ => ∃ (v vb : V) (d : Addr) (wr : Wr) (b : Bt) (m k : Nat), vs = [v, .int (m : Int), .ref d] ∧ WA H v wr ∧ wr.all okN = true ∧ wr.sg ≤ 2000 ∧ m ≤ 1000 ∧ H d = some (.tup [.str "plain", vb, .int (k : Int)]) ∧ BA H vb b ∧ runP m (m + 1) (wr.cnt []) 0 = .plain b k ∧ ∀ H', Same H H' → Q (.bl true) H'
section
variable {P : Program} {w : World} {K : PySem.W.Frag} {mg : Str → Option Value} {base : Heap} {f f1 f2 f3 fB fE fJ : Addr} {fd d1 d2 d3 dB dE : FuncData}
theorem ok_told {CP CT CPa CD aB : Addr} (F : Fun K "_law_told_right" "_law_told_right" sTold f fd) (T : Bn mg) (Y : PlnC K mg CP fJ) (Z : HrdC K mg CT CP aB) (Z2 : PapC K mg CP CPa CD fB fE)
    (D_plain : Df K mg "plain" sPl f2 d2 ["writing", "most"]) (G_plain : FnG P w K mg base (L2.CX P w) 621 f2 d2 ["writing", "most"] (spPl K CP CT)) (B_plain : KBn K d2 ["writing", "most"] 0 ["most", "writing"] (fun us ws => us ++ ws.reverse) (fun vs zs => vs ++ zs.reverse))
    (D__law_bare : Df K mg "_law_bare" sBare f1 d1 ["writing", "around"]) (G__law_bare : FnG P w K mg base CX0 401 f1 d1 ["writing", "around"] (spBare 400)) (D_is_plain : Df K mg "is_plain" sPlain f3 d3 ["writing"]) (G_is_plain : FnG P w K mg base CX0 21 f3 d3 ["writing"] (spPlain K))
    (GB : FnG P w K mg base CX0 3 fB dB ["self"] spTrue) (bB : Binds K dB ["self"] []) (FE : FnOk P w K mg base CX0 3 fE dE ["self", "other"] (spEq (PlnTwo CP))) (bE : Binds K dE ["self", "other"] []) : FnG P w K mg base CX0 622 f fd ["writing", "most", "due"] spTold := by
  refine fun_okG F scTold (fun vs H Q E h => ?_) (fun cdv A outer s H vs Q E hr h => ?_)
  · obtain ⟨v, vb, d, wr, b, m, k, rfl, _⟩ := h
    rfl
  obtain ⟨v, vb, d, wr, b, m, k, rfl, hv, hok, hsg, hm, hd, hb, ho, q⟩ := h
  refine ⟨_, (pss_cons (ps_set (i := 3) scTold.nd rfl (.inl rfl) (pe_cgL D_plain G_plain hr (by decide) (pa_cons (pv 0) (pa_cons (pv 1) pa_nil))))
      (pss_cons (ps_if (PW.pt (pw_or (pt_not (pt_val (pe_callB call_isi (by rfl) T.b_isinstance (by decide +kernel) (pa_cons (pv 3) (pa_cons (pe_glob (v := .ref CP) rfl Y.mgC rfl) pa_nil))))) (pw_or (pt_not (pt_val (pe_callB call_isi (by rfl) T.b_isinstance (by decide +kernel) (pa_cons (pv 3) (pa_cons (pe_glob (v := .ref CPa) rfl Z2.gPa rfl) pa_nil))))) (pw_or (pt_val (pe_callB call_isi (by rfl) T.b_isinstance (by decide +kernel) (pa_cons (pv 3) (pa_cons (pe_glob (v := .ref CD) rfl Z2.gD rfl) pa_nil)))) (pw_or (pt_not (pt_truthR (pv 3) (tru_own GB bB Z2.hs Z2.hf (hr.mono (by decide))) (by intro _; rfl))) (pw_or1 (pt_cmpR op_ne (pe_fld (pv 3) (by rfl)) pe_str (nomark _)))))))) (pss_one (ps_ret pe_bl)) pss_nil)
      (pss_cons (ps_if (PW.pt (pw_or (pt_cmpR (op_neDD (roomG_dd hr)) (pe_fld (pv 3) (by rfl)) (pe_tup (pa_cons (pe_fld (pv 3) (by rfl)) (pa_cons (pe_fld (pv 3) (by rfl)) pa_nil))) (nomark _)) (pw_or (pt_val (pe_callB call_isi (by rfl) T.b_isinstance (by decide +kernel) (pa_cons (pe_fld (pv 3) (by rfl)) (pa_cons (pe_bltn (v := .ty "bool") (u := .type "bool") (by rfl) T.b_bool (by decide +kernel) rfl) pa_nil)))) (pw_or (pt_not (pt_val (pe_callB call_isi (by rfl) T.b_isinstance (by decide +kernel) (pa_cons (pe_fld (pv 3) (by rfl)) (pa_cons (pe_bltn (v := .ty "int") (u := .type "int") (by rfl) T.b_int (by decide +kernel) rfl) pa_nil))))) (pw_or1 (pt_cmpR op_ne (pe_fld (pv 3) (by rfl)) (pe_ix ix_tup (pv 2) pe_int (fun _ _ => rfl)) (nomark _))))))) (pss_one (ps_ret pe_bl)) pss_nil)
      (pss_one (ps_ret (pe_and (pe_cmpR (op_eqDD (roomG_dd hr)) (pe_cg D__law_bare G__law_bare hr (by decide) (pa_cons (pe_fld (pv 3) (by rfl)) (pa_cons (pe_lst pa_nil) pa_nil))) (pe_ix ix_tup (pv 2) pe_int (fun _ _ => rfl)) (nomark _)) (pe_and (pe_cmpR op_isBl (pe_cg D_is_plain G_is_plain hr (by decide) (pa_cons (pe_fld (pv 3) (by rfl)) pa_nil)) pe_bl (nomark _)) (pe_one (pe_cmpR (op_eqG (rcG_ins FE Z2.he Z2.hfe bE pass0) (hr.mono (j := 9) (by decide)).room) (pe_kwG G_plain B_plain hr (by decide) D_plain.m D_plain.F.kp passL (pk_cons (pv 1) (pk_cons (pv 0) pk_nil))) (pv 3) (nomark _)))))))))), ?_⟩
  obtain ⟨f1, f2, f3, f4, f5, f6, f7⟩ := told_facts ho hok
  have pl0 := ho
  refine ⟨_, rfl, _, rfl, v, _, wr, m, rfl, hv.dp, tells_d _, hok, hsg, hm, ?_⟩
  rw [ho]
  intro p H1 s1 hpl
  have hpl0 := hpl
  obtain ⟨dx, q1, vt, hvt, hq1, hp1⟩ := hpl
  generalize ht : (if k = 0 then wr else nmd b) = t at f1 f2 f3 f4 hvt hpl0
  refine ⟨_, rfl, .ref p, .ref CP, .ref CP, .ref CP, true, rfl, .own CP, .base (.ins hp1 Y.cl Z.ha Z.x.hn Z.x.ht Z.hm), Z.kP, _, rfl, ?_⟩
  refine ⟨_, rfl, .ref p, .ref CPa, .ref CP, .ref CPa, true, rfl, .own CPa, .base (.ins hp1 Y.cl Z.ha Z.x.hn Z.x.ht Z.hm), Z2.kPa, _, rfl, ?_⟩
  refine ⟨_, rfl, .ref p, .ref CD, .ref CP, .ref CD, false, rfl, .own CD, .base (.ins hp1 Y.cl Z.ha Z.x.hn Z.x.ht Z.hm), Z2.kD, _, rfl, ?_⟩
  refine ⟨_, rfl, p, dx, _, rfl, hp1, _, rfl, true, rfl, ?_⟩
  refine ⟨_, rfl, p, CP, dx, _, _, rfl, hp1, Y.cl, Y.nW, rfl, rfl, _, rfl, iteF ?_⟩
  have lay : (PyData.tuple [t.d, .int (k : Int)]).canLay0 = true := by
    show (t.d.canLay0 && (PyData.canLay0 (.int (k : Int)) && PyData.canLayAll0 [])) = true
    rw [wd_lay f4]
    rfl
  have dd := wd_depth t
  have db := bD_depth b
  have hd1 := s1 _ _ hd
  refine ⟨_, rfl, p, CP, dx, _, _, rfl, hp1, Y.cl, Y.nP, rfl, _, rfl, p, CP, dx, _, _, rfl, hp1, Y.cl, Y.nR, rfl, _, rfl, p, CP, dx, _, _, rfl, hp1, Y.cl, Y.nS, rfl, (by show 2 ≤ sizeLine; decide), fun e he => ?_⟩
  have x2 := new_same (o := .tup [vt, .int (k : Int)]) he
  refine ⟨.tuple [t.d, .int (k : Int)], .tuple [t.d, .int (k : Int)], .tup (SqT.of (x2 _ _ hq1)) (.cons (hvt.same x2).dp (.cons (.int _) .nil)), .tup (SqT.of upd_same) (.cons (hvt.same x2).dp (.cons (.int _) .nil)), lay, lay, ?_, _, rfl, ?_⟩
  · show max t.d.depth (max 0 0) + 1 ≤ 202
    omega
  rw [show PyData.eqv (.tuple [t.d, .int (k : Int)]) (.tuple [t.d, .int (k : Int)]) = true from by
    show (PyData.eqv t.d t.d && (decide ((k : Int) = k) && true)) = true
    rw [wd_self, decide_eq_true rfl]
    rfl]
  have s2 := s1.trans x2
  have hp2 := x2 _ _ hp1
  have hvt2 := hvt.same x2
  have hd2 := x2 _ _ hd1
  have hpl2 := PlnAt.ext hpl0 x2
  generalize L2.upd H1 e (.tup [vt, .int (k : Int)]) = H2 at s2 hp2 hvt2 hd2 hpl2 ⊢
  refine ⟨_, rfl, p, CP, dx, _, _, rfl, hp2, Y.cl, Y.nS, rfl, _, _, _, _, false, rfl, .ty "bool", .base (.int _), kit_ty rfl, _, rfl, ?_⟩
  refine ⟨_, rfl, p, CP, dx, _, _, rfl, hp2, Y.cl, Y.nS, rfl, _, _, _, _, true, rfl, .ty "int", .base (.int _), kit_ty rfl, _, rfl, ?_⟩
  refine ⟨_, rfl, p, CP, dx, _, _, rfl, hp2, Y.cl, Y.nS, rfl, _, rfl, d, _, _, _, rfl, rfl, SqT.of hd2, rfl, rfl, _, rfl, ?_⟩
  rw [show (!decide (V.int (k : Int) = V.int (k : Int))) = false from by rw [decide_eq_true rfl]; rfl]
  refine iteF ?_
  refine ⟨_, rfl, p, CP, dx, _, _, rfl, hp2, Y.cl, Y.nR, rfl, Nat.zero_le _, fun L hL => ?_⟩
  have x3 := new_same (o := .lst []) hL
  refine ⟨vt, L, [], t, rfl, hvt2.same x3, by omega, by show 0 + t.ly ≤ 1000; omega, upd_same, fun vc H4 s4 hvc => ?_⟩
  rw [f1] at hvc
  have s24 := x3.trans s4
  refine ⟨_, rfl, d, _, _, _, rfl, rfl, SqT.of (s24 _ _ hd2), rfl, bD b, bD b, hvc.dp, (hb.same (s2.trans s24)).dp, bD_lay f6, bD_lay f6, by omega, ?_⟩
  rw [bD_self]
  refine ⟨true, rfl, ?_⟩
  refine ⟨_, rfl, p, CP, dx, _, _, rfl, s24 _ _ hp2, Y.cl, Y.nR, rfl, vt, _, t, rfl, (hvt2.same s24).dp, tells_d _, f4, f3, fun H5 s5 => ?_⟩
  have es : stepsL t = [] := by
    rw [steps_places t [], f1]
    exact noR_place f5
  rw [decide_eq_true es]
  refine ⟨_, _, rfl, rfl, true, rfl, ?_⟩
  have s25 := s24.trans s5
  have hp5 := s25 _ _ hp2
  have hpl5 := PlnAt.ext hpl2 s25
  refine ⟨_, rfl, _, rfl, rfl, rfl, v, _, wr, m, rfl, ((hv.same s2).same s25).dp, tells_d _, hok, hsg, hm, ?_⟩
  rw [pl0]
  intro p2 H6 s6 hpl6
  rw [ht] at hpl6
  have hpl6' := hpl6
  obtain ⟨dx2, q2, v2, hv2, hq2, hp6⟩ := hpl6'
  exact ⟨_, rfl, ⟨p2, p, dx2, dx, _, _, rfl, rfl, hp6, s6 _ _ hp5, t, k, hpl6, PlnAt.ext hpl5 s6, f4, f2⟩, fun H7 s7 => q H7 (((s2.trans s25).trans s6).trans s7)⟩
end
end TF18
set_option maxHeartbeats 400000
namespace TF18
open PySem PySem.Spec L2 TG TA
open PyProof.Rows hiding St
open TG.Bt (stepAt fstI)
/-! ### with fewer steps let, and one step later -/
theorem runP_le {m : Nat} : ∀ {f k : Nat} {b b' : Bt} {k' : Nat}, runP m f b k = .plain b' k' → k + f = m + 1 → k ≤ k' ∧ k' ≤ m
  | 0, k, b, b', k', h, _ => nomatch h
  | f + 1, k, b, b', k', h, hk => by
    cases hg : grt b with
    | some un => rw [runP_great (u := un.1) (n := un.2) hg] at h; cases h
    | none =>
      cases hf : fstI b with
      | none =>
        rw [runP_end hg hf] at h
        cases h
        omega
      | some i =>
        by_cases e : k = m
        · subst e
          rw [runP_most hg hf] at h
          cases h
        · rw [runP_step hg hf e] at h
          have := runP_le h (by omega)
          omega
theorem runP_any {m n : Nat} : ∀ {f k : Nat} {b b' : Bt} {k' : Nat}, runP m f b k = .plain b' k' → k + f = m + 1 → k' ≤ n → ∀ f', k + f' = n + 1 → runP n f' b k = .plain b' k'
  | 0, k, b, b', k', h, _, _, _, _ => nomatch h
  | f + 1, k, b, b', k', h, hk, hn, f', hf' => by
    have le := runP_le h hk
    obtain ⟨g, rfl⟩ : ∃ g, f' = g + 1 := ⟨f' - 1, by omega⟩
    cases hg : grt b with
    | some un => rw [runP_great (u := un.1) (n := un.2) hg] at h; cases h
    | none =>
      cases hf : fstI b with
      | none =>
        rw [runP_end hg hf] at h ⊢
        exact h
      | some i =>
        by_cases e : k = m
        · subst e
          rw [runP_most hg hf] at h
          cases h
        · rw [runP_step hg hf e] at h
          have l2 := runP_le h (by omega)
          rw [runP_step hg hf (by omega)]
          exact runP_any h (by omega) hn g (by omega)
theorem runP_few {m n : Nat} : ∀ {f k : Nat} {b b' : Bt} {k' : Nat}, runP m f b k = .plain b' k' → k + f = m + 1 → k ≤ n → n < k' → ∀ f', k + f' = n + 1 → runP n f' b k = .many "steps" n
  | 0, k, b, b', k', h, _, _, _, _, _ => nomatch h
  | f + 1, k, b, b', k', h, hk, h1, hn, f', hf' => by
    obtain ⟨g, rfl⟩ : ∃ g, f' = g + 1 := ⟨f' - 1, by omega⟩
    cases hg : grt b with
    | some un => rw [runP_great (u := un.1) (n := un.2) hg] at h; cases h
    | none =>
      cases hf : fstI b with
      | none =>
        rw [runP_end hg hf] at h
        cases h
        omega
      | some i =>
        by_cases e : k = m
        · subst e
          rw [runP_most hg hf] at h
          cases h
        · rw [runP_step hg hf e] at h
          by_cases e2 : k = n
          · subst e2
            exact runP_most hg hf
          · rw [runP_step hg hf e2]
            exact runP_few h (by omega) (by omega) hn g (by omega)
theorem runP_back {m : Nat} : ∀ {f k : Nat} {b b' : Bt} {k' : Nat}, runP m f b (k + 1) = .plain b' k' → k + 1 + f = m + 1 → ∃ k2, k' = k2 + 1 ∧ runP m (f + 1) b k = .plain b' k2
  | 0, k, b, b', k', h, _ => nomatch h
  | f + 1, k, b, b', k', h, hk => by
    cases hg : grt b with
    | some un => rw [runP_great (u := un.1) (n := un.2) hg] at h; cases h
    | none =>
      cases hf : fstI b with
      | none =>
        rw [runP_end hg hf] at h
        cases h
        exact ⟨k, rfl, runP_end hg hf⟩
      | some i =>
        by_cases e : k + 1 = m
        · subst e
          rw [runP_most hg hf] at h
          cases h
        · rw [runP_step hg hf e] at h
          obtain ⟨k2, e2, h2⟩ := runP_back h (by omega)
          exact ⟨k2, e2, by rw [runP_step hg hf (by omega)]; exact h2⟩
/-- one step later, one step fewer -/
theorem runP_later {m : Nat} {b b' : Bt} {k : Nat} (h : runP m (m + 1) b 0 = .plain b' (k + 1)) : ∃ i, fstI b = some i ∧ runP m (m + 1) (stepAt b i) 0 = .plain b' k := by
  cases hg : grt b with
  | some un => rw [runP_great (u := un.1) (n := un.2) hg] at h; cases h
  | none =>
    cases hf : fstI b with
    | none => rw [runP_end hg hf] at h; cases h
    | some i =>
      by_cases e : 0 = m
      · subst e
        rw [runP_most hg hf] at h
        cases h
      · rw [runP_step hg hf e] at h
        obtain ⟨k2, e2, h2⟩ := runP_back h (by omega)
        cases e2
        exact ⟨i, rfl, h2⟩
theorem runP_words {m : Nat} : ∀ {f k : Nat} {b : Bt} {u : Str} {n : Nat}, runP m f b k = .many u n → u = "steps" ∨ u = "signs" ∨ u = "layers"
  | 0, k, b, u, n, h => by cases h; exact .inl rfl
  | f + 1, k, b, u, n, h => by
    cases hg : grt b with
    | some un =>
      rw [runP_great (u := un.1) (n := un.2) hg] at h
      cases h
      unfold grt at hg
      split at hg
      · cases hg; exact .inr (.inl rfl)
      · split at hg
        · cases hg; exact .inr (.inr rfl)
        · cases hg
    | none =>
      cases hf : fstI b with
      | none => rw [runP_end hg hf] at h; cases h
      | some i =>
        by_cases e : k = m
        · subst e
          rw [runP_most hg hf] at h
          cases h
          exact .inl rfl
        · rw [runP_step hg hf e] at h
          exact runP_words h
theorem first_places : ∀ {b : Bt} {ns : List Nat}, firstB b = some ns → ns ∈ placesB b
  | .bd _, ns, h => nomatch h
  | .fr _, ns, h => nomatch h
  | .of b, ns, h => by
    have h : firstK [firstB b] 0 = some ns := h
    show ns ∈ (placesB b).map (0 :: ·)
    cases e : firstB b with
    | none => rw [e] at h; cases h
    | some p =>
      rw [e] at h
      cases h
      exact List.mem_map.mpr ⟨p, first_places e, rfl⟩
  | .to a b, ns, h => by
    have h : (if readyB (.to a b) = true then some [] else firstK [firstB a, firstB b] 0) = some ns := h
    have pe : placesB (.to a b) = ((if readyB (.to a b) = true then [[]] else []) ++ (placesB a).map (0 :: ·)) ++ (placesB b).map (1 :: ·) := by cases a <;> rfl
    rw [pe]
    by_cases c : readyB (.to a b) = true
    · rw [if_pos c] at h
      cases h
      rw [if_pos c]
      exact List.mem_append_left _ (List.mem_append_left _ List.mem_cons_self)
    · rw [if_neg c] at h
      cases e : firstB a with
      | some p =>
        rw [e] at h
        cases h
        exact List.mem_append_left _ (List.mem_append_right _ (List.mem_map.mpr ⟨p, first_places e, rfl⟩))
      | none =>
        rw [e] at h
        cases e2 : firstB b with
        | none => rw [e2] at h; cases h
        | some p =>
          rw [e2] at h
          cases h
          exact List.mem_append_right _ (List.mem_map.mpr ⟨p, first_places e2, rfl⟩)
end TF18
set_option maxHeartbeats 400000
/-! the rule for a def that makes lambdas: its code object is known; tables behind what is kept but at one list -/
namespace TG
open PySem PySem.Spec L2 LamX
open PyProof.Rows hiding St
section
variable {P : Program} {w : World} {K : PySem.W.Frag} {mg : Str → Option Value} {base : Heap}
theorem fun_okGC {c : Addr} {x qual : Str} {st : Stmt} {f : Addr} {fd : FuncData} {N ps : List Str} {k : Nat} {sp : Sp} (F : Fun K x qual st f fd) (hc : fd.code = .ref c) (S : FnScope N ps (defScope st)) (len : ∀ vs H Q E, sp vs H Q E → vs.length = ps.length)
    (hbody : ∀ (A : Around) (outer : List Env) (s : Shared) (H : Hp) (vs : List V) (Q : VK) (E : XK), RoomG k (A.deeper (envOfC qual (defScope st) s.heap.objs.size f (.ref c))) → sp vs H Q E →
      ∃ t, PSs (cxOf CX0 P w K mg base N qual (defScope st) f (.ref c) A outer s H E).nox (defBody st) t ∧ t { nx := fun _ H' => Q .non H', rt := Q } (start N vs) H) : FnG P w K mg base CX0 (k + 1) f fd ps sp := by
  obtain ⟨oc, od, kV, doc, pm, an, cdv, ct, osl, rfl, lk, hcd⟩ := F.ex
  cases (show cdv = .ref c from hc)
  refine ⟨len, fun A outer s H args us vs Q E hr e0 hb r hsp => ?_⟩
  have hl := len _ _ _ _ hsp
  have kin : K.In s.heap := e0.mod.kin.keeps fun b o e => (e0.bs b o e).1
  have hlim : s.heap.NoLimit := e0.mod.nolimit.keeps fun b o e => (e0.bs b o e).1
  have kinds : ∀ y ∈ ps.zip us, (defScope st).names.lookup y.1 = some .local ∨ ((defScope st).names.lookup y.1 = some .cell ∧ ((cellsFrom (s.heap.objs.size + 1) (defScope st).names []).lookup y.1).isSome = true) := by
    rintro ⟨n, v⟩ hy
    exact (S.par n (List.of_mem_zip hy).1).elim .inl fun z => .inr ⟨z, PySem.W.cellsFrom_some _ _ _ (.inl z)⟩
  refine codeAny_call_function hr.depth (kin _ _ lk) rfl S.co S.gen rfl (PySem.W.codeRec_of kin hcd) (hb _ _ _ _ ?_)
  refine wpAny_newFunctionEnv_cells S.kind kinds fun env he s1 z => ?_
  subst he
  refine ⟨hlim.keeps z.toInCall.keep, codeAny_func ?_⟩
  obtain ⟨t, ht, hq⟩ := hbody A outer s H vs Q E (hr.down _) hsp
  have I : Inv (cxOf CX0 P w K mg base N qual (defScope st) f (.ref c) A outer s H E) [] (start N vs) H s1 := inv_start S hr.hd e0 hl r z
  refine wpAny_mono (ht.nox.run [] s1 (start N vs) H _ I hq) (fun fl s' hs => ?_) fun e s' hs => hs
  have done : ∀ {τ : L2.St} {G : Hp} {v : V} {u : Value}, Inv (cxOf CX0 P w K mg base N qual (defScope st) f (.ref c) A outer s H E) [] τ G s' → RelV v u → Q v G → CE outer P w H s Q u s' :=
    fun {τ G v u} J rv q => ⟨v, G, J.os, J.bare, J.base, J.hok, rv, q⟩
  match fl, hs with
  | .ret u, hs =>
    obtain ⟨v, τ, G, J, rv, q⟩ := hs
    exact done J rv q
  | .next, hs =>
    obtain ⟨τ, G, J, q⟩ := hs
    exact done (v := V.non) (u := Value.none) J rfl q
  | .brk, ⟨_, _, _, q⟩ => exact q.elim
  | .cont, ⟨_, _, _, q⟩ => exact q.elim
end
/-- all is kept but what is at p, and tables -/
def KeepT (p : Addr) (H H' : Hp) : Prop := ∀ b o, b ≠ p → (∀ ps, o ≠ .tbl ps) → H b = some o → H' b = some o
theorem KeepT.trans {p : Addr} {H H1 H2 : Hp} (a : KeepT p H H1) (b : KeepT p H1 H2) : KeepT p H H2 := fun c o n t h => b c o n t (a c o n t h)
theorem KeepT.of {p : Addr} {H H' : Hp} (k : ∀ b o, b ≠ p → H b = some o → H' b = some o) : KeepT p H H' := fun c o n _ h => k c o n h
theorem KeepT.ext {p : Addr} {H H' : Hp} (k : ExtN H H') : KeepT p H H' := fun c o _ t h => k c o h t
theorem tbl_ne_tup {xs : List V} : ∀ ps, HO.tup xs ≠ .tbl ps := fun ps z => by cases z
theorem tbl_ne_lst {xs : List V} : ∀ ps, HO.lst xs ≠ .tbl ps := fun ps z => by cases z
theorem extn_tup {H H' : Hp} (k : ExtN H H') {a : Addr} {xs : List V} (h : H a = some (.tup xs)) : H' a = some (.tup xs) := k a _ h tbl_ne_tup
theorem extn_lst {H H' : Hp} (k : ExtN H H') {a : Addr} {xs : List V} (h : H a = some (.lst xs)) : H' a = some (.lst xs) := k a _ h tbl_ne_lst
/-- tables stay where one list is written over -/
theorem tabs_keep {T : List (Addr × Str)} {p : Addr} {xs : List V} {H H' : Hp} (t : Tabs T H) (hp : H p = some (.lst xs)) (k : ∀ b o, b ≠ p → H b = some o → H' b = some o) : Tabs T H' := fun y hy => by
  obtain ⟨ps, h1, h2, h3⟩ := t y hy
  refine ⟨ps, k _ _ (fun z => ?_) h1, h2, fun pos cv hc => ?_⟩
  · rw [z, hp] at h1
    cases h1
  · obtain ⟨c, e1, e2⟩ := h3 pos cv hc
    refine ⟨c, e1, k _ _ (fun z => ?_) e2⟩
    rw [z, hp] at e2
    cases e2
end TG
set_option maxHeartbeats 1000000
namespace TF18
open PySem PySem.Spec L2 TG TA LamX
open PyProof.Rows hiding St
open TG.Bt (stepAt fstI)
/-! ### a writing comes to what it must -/
abbrev sRi : Stmt := top 86
theorem scRi : FnScope ["spool", "writing", "bare", "due", "steps", "most"] ["spool", "writing"] (defScope sRi) := ⟨rfl, rfl, rfl, by decide +kernel, rfl, by decide +kernel, by decide +kernel⟩
/-- the name of its lambdas -/
abbrev lamQ : Str := ("_law_right" : Str) ++ ".<locals>." ++ "<lambda>"
def spRi (P0 : Addr) : Sp := fun vs H Q _ => ∃ (p c : Addr) (m : Nat) (v : V) (wr : Wr), vs = [.ref p, v] ∧ PenAt m H p c ∧ m ≤ 80000 ∧ WA H v wr ∧ wr.all okN = true ∧ wr.ly ≤ 200 ∧ wr.sg ≤ 1000 ∧ Tabs [(P0, lamQ)] H ∧
  ∀ H', KeepT p H H' → PenAt (m + 1) H' p c → Tabs [(P0, lamQ)] H' → Q (.bl true) H'
theorem tell_lay {u : Str} (n : Int) (h : u = "steps" ∨ u = "signs" ∨ u = "layers") : (PyData.tuple [.str u, .int n]).canLay0 = true := by
  show (PyData.canLay0 (.str u) && (PyData.canLay0 (.int n) && PyData.canLayAll0 [])) = true
  rcases h with rfl | rfl | rfl
  · rw [show PyData.canLay0 (.str "steps") = true from by decide +kernel]; rfl
  · rw [show PyData.canLay0 (.str "signs") = true from by decide +kernel]; rfl
  · rw [show PyData.canLay0 (.str "layers") = true from by decide +kernel]; rfl
theorem PenAt.ext {n : Nat} {H H' : Hp} {p c : Addr} (h : PenAt n H p c) (e : ExtN H H') : PenAt n H' p c := by
  obtain ⟨cells, i, g, h1, h2, h3, h4, h5⟩ := h
  exact ⟨cells, i, g, extn_lst e h1, h2, extn_lst e h3, h4, h5⟩
theorem tell_eqv (u : Str) (n : Int) : PyData.eqv (.tuple [.str u, .int n]) (.tuple [.str u, .int n]) = true := by
  show ((decide (u = u)) && (decide (n = n) && true)) = true
  rw [decide_eq_true rfl, decide_eq_true rfl]
  rfl
section
variable {P : Program} {w : World} {K : PySem.W.Frag} {mg : Str → Option Value} {base : Heap} {f f1 f2 f3 f4 f5 f6 f7 f8 c0 P0 fJ : Addr} {fd d1 d2 d3 d4 d5 d6 d7 d8 : FuncData}
theorem ok_ri {CP CT aB : Addr} (F : Fun K "_law_right" "_law_right" sRi f fd) (hc : fd.code = .ref c0) (TB : TabB base mg c0 P0) (T : Bn mg) (R : mg "TooMany" = some (.ref CT)) (n1 : PySem.W.findIn K (.ref CT) "what" = some none) (n2 : PySem.W.findIn K (.ref CT) "most" = some none) (Y : PlnC K mg CP fJ) (Z : HrdC K mg CT CP aB)
    (D__law_bare : Df K mg "_law_bare" sBare f1 d1 ["writing", "around"]) (G__law_bare : FnG P w K mg base CX0 401 f1 d1 ["writing", "around"] (spBare 400))
    (D__law_due : Df K mg "_law_due" sDue f2 d2 ["bare", "most"]) (G__law_due : FnG P w K mg base CX0 604 f2 d2 ["bare", "most"] spDue)
    (D__law_heard : Df K mg "_law_heard" sHrd f3 d3 ["ask"])
    (D_plain : Df K mg "plain" sPl f4 d4 ["writing", "most"]) (G_plain : FnG P w K mg base (L2.CX P w) 621 f4 d4 ["writing", "most"] (spPl K CP CT))
    (D__law_reeve : Df K mg "_law_reeve" sDraw f5 d5 ["spool", "many"]) (G__law_reeve : FnG P w K mg base CX0 3 f5 d5 ["spool", "many"] spDraw)
    (D__law_told_right : Df K mg "_law_told_right" sTold f6 d6 ["writing", "most", "due"]) (G__law_told_right : FnG P w K mg base CX0 622 f6 d6 ["writing", "most", "due"] spTold)
    (D_step_at : Df K mg "step_at" sStep f7 d7 ["writing", "place"]) (G_step_at : FnG P w K mg base CX0 21 f7 d7 ["writing", "place"] (spStep K))
    (D__law_first : Df K mg "_law_first" sFst f8 d8 ["bare"]) (G__law_first : FnG P w K mg base CX0 202 f8 d8 ["bare"] (spFst 200)) : FnG P w K mg base CX0 624 f fd ["spool", "writing"] (spRi P0) := by
  refine fun_okGC F hc scRi (fun vs H Q E h => ?_) (fun A outer s H vs Q E hr h => ?_)
  · obtain ⟨p, c, m, v, wr, rfl, _⟩ := h
    rfl
  obtain ⟨p, c, m, v, wr, rfl, hp, hm, hv, hok, hly, hsg, hT, q⟩ := h
  refine ⟨_, (pss_cons (ps_set (i := 2) scRi.nd rfl (.inl rfl) (pe_cg D__law_bare G__law_bare hr (by decide) (pa_cons (pv 1) (pa_cons (pe_lst pa_nil) pa_nil))))
      (pss_cons (ps_set (i := 3) scRi.nd rfl (.inl rfl) (pe_cg D__law_due G__law_due hr (by decide) (pa_cons (pv 2) (pa_cons pe_int pa_nil))))
      (pss_cons (ps_if (pt_cmpR op_ne (pe_ix ix_tup (pv 3) pe_int (fun _ _ => rfl)) pe_str (nomark _)) (pss_one (ps_ret (pe_cmpR (op_eqDD (roomG_dd hr)) (pe_lamG D__law_heard.F D__law_heard.m D__law_heard.b scHrd rfl (.inl rfl) (hrd_gives T R n1 n2 Z) TB rfl (List.mem_singleton.mpr rfl) (fun y hy _ => by rw [List.mem_singleton.mp hy]) hr (show LamN ["spool", "writing", "bare", "due", "steps", "most"] (defScope sRi) _ from lamN_by (by decide +kernel)) rfl (fun _ _ _ _ _ _ => rfl) (fun A outer s H E f c' hr2 => pe_cdGS G_plain hr2 (by decide) D_plain.m D_plain.F.kp D_plain.b (fun σ => passAt (takes_of rfl rfl rfl rfl) σ) (pa_cons (pv 1) (pa_cons pe_int pa_nil)))) (pv 3) (nomark _)))) pss_nil)
      (pss_cons (ps_set (i := 4) scRi.nd rfl (.inr rfl) (pe_ix ix_tup (pv 3) pe_int (fun _ _ => rfl)))
      (pss_cons (ps_for PassesOwn.never rfl (pi_list (pe_lst (pa_cons (pv 4) (pa_cons (pe_op op_add (pv 4) (pe_cg D__law_reeve G__law_reeve hr (by decide) (pa_cons (pv 0) (pa_cons pe_int pa_nil)))) (pa_cons pe_int pa_nil))))) (pg_name (i := 5) scRi.nd rfl (.inl rfl))
        (pss_one (ps_if (pt_not (pt_val (pe_cg D__law_told_right G__law_told_right hr (by decide) (pa_cons (pv 1) (pa_cons (pv 5) (pa_cons (pv 3) pa_nil)))))) (pss_one (ps_ret pe_bl)) pss_nil)))
      (pss_cons (ps_if (pt_cmpR op_eq (pv 4) pe_int (nomark _)) (pss_one (ps_ret pe_bl)) pss_nil)
      (pss_cons (ps_if (PW.pt (pw_or (pt_cmpR (op_neDD (roomG_dd hr)) (pe_lamG D__law_heard.F D__law_heard.m D__law_heard.b scHrd rfl (.inl rfl) (hrd_gives T R n1 n2 Z) TB rfl (List.mem_singleton.mpr rfl) (fun y hy _ => by rw [List.mem_singleton.mp hy]) hr (show LamN ["spool", "writing", "bare", "due", "steps", "most"] (defScope sRi) _ from lamN_by (by decide +kernel)) rfl (fun _ _ _ _ _ _ => rfl) (fun A outer s H E f c' hr2 => pe_cdGS G_plain hr2 (by decide) D_plain.m D_plain.F.kp D_plain.b (fun σ => passAt (takes_of rfl rfl rfl rfl) σ) (pa_cons (pv 1) (pa_cons (pe_op op_sub (pv 4) pe_int) pa_nil)))) (pe_tup (pa_cons pe_str (pa_cons (pe_op op_sub (pv 4) pe_int) pa_nil))) (nomark _)) (pw_or1 (pt_cmpR (op_neDD (roomG_dd hr)) (pe_lamG1 D__law_heard.F D__law_heard.m D__law_heard.b scHrd rfl (.inl rfl) (hrd_gives T R n1 n2 Z) TB rfl (List.mem_singleton.mpr rfl) (fun y hy _ => by rw [List.mem_singleton.mp hy]) hr (show LamN ["spool", "writing", "bare", "due", "steps", "most"] (defScope sRi) _ from lamN_by (by decide +kernel)) rfl rfl pe_int (fun z1 t dv q cl doc pm cv ctv ht => BindsTo.of_defaults rfl ht rfl rfl rfl) rfl (fun A outer s H E f c' hr2 => pe_cdGS G_plain hr2 (by decide) D_plain.m D_plain.F.kp D_plain.b (fun σ => passAt (takes_of rfl rfl rfl rfl) σ) (pa_cons (pv 1) (pa_cons pe_int pa_nil)))) (pe_tup (pa_cons pe_str (pa_cons pe_int pa_nil))) (nomark _))))) (pss_one (ps_ret pe_bl)) pss_nil)
      (pss_one (ps_ret (pe_cg D__law_told_right G__law_told_right hr (by decide) (pa_cons (pe_cg D_step_at G_step_at hr (by decide) (pa_cons (pv 1) (pa_cons (pe_cg D__law_first G__law_first hr (by decide) (pa_cons (pv 2) pa_nil)) pa_nil))) (pa_cons pe_int (pa_cons (pe_tup (pa_cons pe_str (pa_cons (pe_ix ix_tup (pv 3) pe_int (fun _ _ => rfl)) (pa_cons (pe_op op_sub (pv 4) pe_int) pa_nil)))) pa_nil))))))))))))), ?_⟩
  have hbok : (wr.cnt []).all okN = true := Wr.cnt_all [] hok
  refine ⟨_, rfl, Nat.zero_le _, fun L hL => ?_⟩
  have x0 := new_same (o := .lst []) hL
  refine ⟨v, L, [], wr, rfl, hv.same x0, by omega, by show 0 + wr.ly ≤ 1000; omega, upd_same, fun u H1 s1 hu => ?_⟩
  have s01 := x0.trans s1
  have hp1 := hp.same s01
  refine ⟨_, rfl, u, _, 40, rfl, hu, hbok, by rw [Wr.cnt_ly]; omega, by omega, ?_⟩
  cases ho : runP 40 41 (wr.cnt []) 0 with
  | many un n =>
    intro r2 H2 s2 hr2
    refine ⟨_, rfl, r2, _, _, _, rfl, rfl, SqT.of hr2, rfl, rfl, _, rfl, ?_⟩
    rw [show (!decide (V.str un = V.str "plain")) = true from by rw [decide_eq_false (fun e => runP_word ho (by injection e))]; rfl]
    have s02 := s01.trans s2
    refine iteT ⟨hT.ext s02, fun H3 e3 t3 Q' hQ' => ?_⟩
    have hv3 := (hv.same s02).mono fun a xs h => extn_tup e3 h
    have hd3 := extn_tup e3 hr2
    refine ⟨_, rfl, v, _, wr, 40, rfl, hv3.dp, tells_d _, hok, by omega, by omega, ?_⟩
    rw [ho]
    intro dd G g1 g2 g3
    refine ⟨rfl, dd, un, n, rfl, g3, fun r5 H5 s5 hr5 => ?_⟩
    have hd5 := s5 _ _ (g1 _ _ hd3)
    refine ⟨_, rfl, .tuple [.str un, .int (n : Int)], .tuple [.str un, .int (n : Int)], .tup (SqT.of hr5) (.cons (.str _) (.cons (.int _) .nil)), .tup (SqT.of hd5) (.cons (.str _) (.cons (.int _) .nil)), tell_lay _ (runP_words ho), tell_lay _ (runP_words ho), by show max 0 (max 0 0) + 1 ≤ 202; decide, ?_⟩
    rw [tell_eqv]
    exact q H5 (((KeepT.of fun b o _ h => s02 b o h).trans (.ext e3)).trans (.of fun b o _ h => s5 _ _ (g1 _ _ h))) (((((hp1.same s2).ext e3).same g1).same s5).up (by omega)) (t3.ext fun b o h => s5 _ _ (g1 _ _ h))
  | plain b k =>
    intro r2 vb H2 s2 hr2 hb
    obtain ⟨_, hk40⟩ := runP_le ho (by omega)
    refine ⟨_, rfl, r2, _, _, _, rfl, rfl, SqT.of hr2, rfl, rfl, _, rfl, ?_⟩
    rw [show (!decide (V.str "plain" = V.str "plain")) = false from by rw [decide_eq_true rfl]; rfl]
    refine iteF ⟨_, rfl, r2, _, _, _, rfl, rfl, SqT.of hr2, rfl, ?_⟩
    have s02 := s01.trans s2
    have hp2 := hp1.same s2
    refine ⟨_, rfl, _, rfl, _, rfl, p, c, 3, m, rfl, hp2, by omega, Dv.of (by decide) (by decide), fun r H3 r0 r1 k3 hp3 => ?_⟩
    obtain ⟨j, rfl⟩ := Int.eq_ofNat_of_zero_le r0
    refine ⟨_, _, rfl, rfl, (by show 3 ≤ sizeLine; decide), fun L3 hL3 => ⟨_, rfl, ⟨_, SqL.of upd_same⟩, ?_⟩⟩
    have x4 := new_same (o := .lst [.int (k : Int), .int ((k : Int) + (j : Int)), .int 1000]) hL3
    have h4 : (L2.upd H3 L3 (.lst [.int (k : Int), .int ((k : Int) + (j : Int)), .int 1000])) L3 = some (.lst [.int (k : Int), .int ((k : Int) + (j : Int)), .int 1000]) := upd_same
    have k24 : Keep p H2 (L2.upd H3 L3 (.lst [.int (k : Int), .int ((k : Int) + (j : Int)), .int 1000])) := k3.trans (Keep.of_same x4)
    have hp4 := hp3.same x4
    have hm4 : ∀ x ∈ ([.int (k : Int), .int ((k : Int) + (j : Int)), .int 1000] : List V), ∃ mm : Nat, x = .int (mm : Int) ∧ k ≤ mm ∧ mm ≤ 1000 := by
      intro x hx
      rcases List.mem_cons.mp hx with rfl | hx
      · exact ⟨k, rfl, by omega, by omega⟩
      rcases List.mem_cons.mp hx with rfl | hx
      · exact ⟨k + j, rfl, by omega, by omega⟩
      rw [List.mem_singleton.mp hx]; exact ⟨1000, rfl, by omega, by decide⟩
    generalize (L2.upd H3 L3 (.lst [.int (k : Int), .int ((k : Int) + (j : Int)), .int 1000])) = H4 at x4 h4 k24 hp4 ⊢
    generalize ([.int (k : Int), .int ((k : Int) + (j : Int)), .int 1000] : List V) = ms at h4 hm4 ⊢
    have pk : ∀ a xs, H2 a = some (.tup xs) → H4 a = some (.tup xs) := fun a xs h => k24 a _ (fun z => by
      obtain ⟨ys, e⟩ := hp2.lst
      subst z
      rw [e] at h
      cases h) h
    have hv4 := (hv.same s02).mono pk
    have hu4 := (hu.same s2).mono pk
    have hd4 := pk _ _ hr2
    have hb4 := hb.mono pk
    have hT4 : Tabs [(P0, lamQ)] H4 := by
      obtain ⟨ys, e⟩ := hp2.lst
      exact tabs_keep (hT.ext s02) e k24
    clear hL3 x4 hb hr2
    refine for_list (K := K) (a := L3) (xs := ms) (fun n σ G => ∃ v5 : Option V, σ = [some (.ref p), some v, some u, some (.ref r2), some (.int (k : Int)), v5] ∧ Same H4 G) ?_ ?_ ?_ ?_
    · exact ⟨none, rfl, fun _ _ e => e⟩
    · rintro n σ G _ ⟨v5, rfl, sG⟩
      exact SqL.of (sG _ _ h4)
    · rintro n x σ G hx ⟨v5, rfl, sG⟩
      obtain ⟨mm, rfl, hmm, hm1⟩ := hm4 x (List.mem_of_getElem? hx)
      refine ⟨_, rfl, _, rfl, _, rfl, v, vb, r2, wr, b, mm, k, rfl, hv4.same sG, hok, by omega, hm1, sG _ _ hd4, hb4.same sG, runP_any ho (by omega) hmm _ (by omega), fun G1 g1 => ?_⟩
      exact ⟨_, rfl, iteF ⟨_, rfl, sG.trans g1⟩⟩
    · rintro σ G ⟨v5, rfl, sG⟩
      refine ⟨_, rfl, rfl, _, rfl, ?_⟩
      by_cases c0 : k = 0
      · rw [show decide (V.int (k : Int) = V.int 0) = true from decide_eq_true (by rw [c0]; rfl)]
        exact iteT (q G (((KeepT.of fun b o _ h => s02 b o h).trans (.of k24)).trans (.of fun b o _ h => sG b o h)) (hp4.same sG) (hT4.ext sG))
      rw [show decide (V.int (k : Int) = V.int 0) = false from decide_eq_false (fun e => c0 (by injection e with e; omega))]
      refine iteF ?_
      obtain ⟨k0, rfl⟩ : ∃ n, k = n + 1 := ⟨k - 1, by omega⟩
      have e1 : (((k0 + 1 : Nat) : Int) - 1) = (k0 : Int) := by omega
      refine ⟨hT4.ext sG, fun H5 e5 t5 Q' hQ' => ?_⟩
      have hv5 := (hv4.same sG).mono fun a xs h => extn_tup e5 h
      refine ⟨_, rfl, _, rfl, _, _, rfl, rfl, v, _, wr, k0, congrArg (fun z => [v, V.int z]) e1, hv5.dp, tells_d _, hok, by omega, by omega, ?_⟩
      rw [runP_few ho (by omega) (Nat.zero_le _) (Nat.lt_succ_self _) _ (by omega)]
      intro dd G6 g1 g2 g3
      refine ⟨rfl, dd, "steps", k0, rfl, g3, fun r7 H7 s7 hr7 => ?_⟩
      have g7 : Same H5 H7 := g1.trans s7
      refine ⟨_, rfl, _, _, rfl, rfl, (by show 2 ≤ sizeLine; decide), fun a8 ha8 => ?_⟩
      have x8 := new_same (o := .tup [.str "steps", .int (((k0 + 1 : Nat) : Int) - 1)]) ha8
      have at8 : (L2.upd H7 a8 (.tup [.str "steps", .int (((k0 + 1 : Nat) : Int) - 1)])) a8 = some (.tup [.str "steps", .int (k0 : Int)]) := by rw [upd_same, e1]
      have g8 := g7.trans x8
      have hr8 := x8 _ _ hr7
      generalize (L2.upd H7 a8 (.tup [.str "steps", .int (((k0 + 1 : Nat) : Int) - 1)])) = H8 at x8 at8 g8 hr8 ⊢
      refine ⟨.tuple [.str "steps", .int (k0 : Int)], .tuple [.str "steps", .int (k0 : Int)], .tup (SqT.of hr8) (.cons (.str _) (.cons (.int _) .nil)), .tup (SqT.of at8) (.cons (.str _) (.cons (.int _) .nil)), tell_lay _ (.inl rfl), tell_lay _ (.inl rfl), by show max 0 (max 0 0) + 1 ≤ 202; decide, ?_⟩
      rw [tell_eqv]
      have hT8 := t5.ext fun b o h => g8 b o h
      refine ⟨_, rfl, iteF ⟨hT8, fun H9 e9 t9 Q'' hQ'' => ?_⟩⟩
      have hv9 := (hv5.same g8).mono fun a xs h => extn_tup e9 h
      refine ⟨_, rfl, v, _, wr, 0, rfl, hv9.dp, tells_d _, hok, by omega, by omega, ?_⟩
      rw [runP_few (n := 0) ho (by omega) (Nat.zero_le _) (by omega) _ (by omega)]
      intro dd2 G10 g11 g12 g13
      refine ⟨rfl, dd2, "steps", 0, rfl, g13, fun r11 H11 s11 hr11 => ?_⟩
      have g11' : Same H9 H11 := g11.trans s11
      refine ⟨(by show 2 ≤ sizeLine; decide), fun a12 ha12 => ?_⟩
      have x12 := new_same (o := .tup [.str "steps", .int 0]) ha12
      have at12 : (L2.upd H11 a12 (.tup [.str "steps", .int 0])) a12 = some (.tup [.str "steps", .int 0]) := upd_same
      have g12' := g11'.trans x12
      have hr12 := x12 _ _ hr11
      generalize (L2.upd H11 a12 (.tup [.str "steps", .int 0])) = H12 at x12 at12 g12' hr12 ⊢
      refine ⟨.tuple [.str "steps", .int 0], .tuple [.str "steps", .int 0], .tup (SqT.of hr12) (.cons (.str _) (.cons (.int _) .nil)), .tup (SqT.of at12) (.cons (.str _) (.cons (.int _) .nil)), tell_lay _ (.inl rfl), tell_lay _ (.inl rfl), by show max 0 (max 0 0) + 1 ≤ 202; decide, ?_⟩
      rw [tell_eqv]
      have c12 := (((KeepT.of (p := p) fun b o _ h => s02 b o h).trans (.of k24)).trans (.of fun b o _ h => sG b o h)).trans ((KeepT.ext e5).trans ((KeepT.of fun b o _ h => g8 b o h).trans ((KeepT.ext e9).trans (.of fun b o _ h => g12' b o h))))
      have hp12 := (((((hp4.same sG).ext e5).same g8).ext e9).same g12')
      have hT12 := t9.ext fun b o h => g12' b o h
      have pk12 : ∀ a xs, H4 a = some (.tup xs) → H12 a = some (.tup xs) := fun a xs h => g12' _ _ (extn_tup e9 (g8 _ _ (extn_tup e5 (sG _ _ h))))
      have hv12 := hv4.mono pk12
      have hu12 := hu4.mono pk12
      have hb12 := hb4.mono pk12
      have hd12 := pk12 _ _ hd4
      obtain ⟨i, hi, hrun⟩ := runP_later ho
      have fb := first_both (wr.cnt [])
      rw [firstI_eq hbok] at fb
      refine ⟨_, rfl, iteF ⟨_, rfl, _, rfl, u, _, rfl, hu12, by rw [Wr.cnt_ly]; omega, by omega, ?_⟩⟩
      cases ef : firstB (wr.cnt []) with
      | none =>
        rw [ef] at fb
        exact nomatch hi.symm.trans fb
      | some ns =>
        rw [ef] at fb
        obtain ⟨hop, i', hi', hst⟩ := fb
        cases hi.symm.trans hi'
        intro r13 H13 s13 hr13
        obtain ⟨j, x, bw, cw, hs, hpath⟩ := place_sign (first_places ef)
        refine ⟨v, r13, _, wr, bw, cw, x, j, rfl, (hv12.same s13).dp, tells_d _, hok, by omega, hs, .inr (by rw [hpath]; exact hr13), fun v' t' H14 s14 hv14 okt ec _ => ?_⟩
        have en : (Wr.repl t' wr j).cnt [] = stepAt (wr.cnt []) i := by rw [repl_cnt ec [] hs, hpath, hst]
        have rok : (Wr.repl t' wr j).all okN = true := Wr.repl_all okt hok
        have s114 := s13.trans s14
        refine ⟨_, rfl, r2, _, _, _, rfl, rfl, SqT.of (s114 _ _ hd12), rfl, _, rfl, _, _, rfl, rfl, (by show 3 ≤ sizeLine; decide), fun a15 ha15 => ?_⟩
        have x15 := new_same (o := .tup [.str "plain", vb, .int (((k0 + 1 : Nat) : Int) - 1)]) ha15
        have at15 : (L2.upd H14 a15 (.tup [.str "plain", vb, .int (((k0 + 1 : Nat) : Int) - 1)])) a15 = some (.tup [.str "plain", vb, .int (k0 : Int)]) := by rw [upd_same, e1]
        generalize (L2.upd H14 a15 (.tup [.str "plain", vb, .int (((k0 + 1 : Nat) : Int) - 1)])) = H15 at x15 at15 ⊢
        have s115 := s114.trans x15
        rw [← en] at hrun
        obtain ⟨_, _, _, _, _, _, _, hgr⟩ := runP_facts hrun (Wr.cnt_all [] rok) (cnt_cl _ [])
        obtain ⟨hsg', _⟩ := grt_none hgr
        rw [Wr.cnt_sg] at hsg'
        refine ⟨v', vb, a15, Wr.repl t' wr j, b, 1000, k0, rfl, hv14.same x15, rok, hsg', by omega, at15, hb12.same s115, runP_any hrun (by omega) (by omega) _ (by omega), fun H16 s16 => ?_⟩
        exact q H16 (c12.trans (.of fun b o _ h => s16 _ _ (s115 b o h))) (((hp12.same s115).same s16).up (by omega)) ((hT12.ext fun b o h => s115 b o h).ext fun b o h => s16 b o h)
end
end TF18
set_option maxHeartbeats 400000
namespace TF18
open PySem PySem.Spec L2 TG TA LamX
open PyProof.Rows hiding St
/-! ### the law -/
abbrev sLaw : Stmt := top 87
theorem scLaw : FnScope ["script", "spool", "lap", "names", "drawn"] ["script"] (defScope sLaw) := ⟨rfl, rfl, rfl, by decide +kernel, rfl, by decide +kernel, by decide +kernel⟩
def spLaw (K : PySem.W.Frag) (P0 : Addr) : Sp := fun vs H Q _ => ∃ (a : Addr) (ns : List Int), vs = [.ref a] ∧ SqL K H a (ns.map V.int) ∧ ns.length ≤ 63 ∧ Tabs [(P0, lamQ)] H ∧ ∀ H', Q (.bl true) H'
section
variable {P : Program} {w : World} {K : PySem.W.Frag} {mg : Str → Option Value} {base : Heap} {f f1 f2 f3 f4 f5 P0 : Addr} {fd d1 d2 d3 d4 d5 : FuncData}
theorem ok_law (F : Fun K "law" "law" sLaw f fd) (T : Bn mg)
    (D__law_spool : Df K mg "_law_spool" sPen f1 d1 ["script"]) (G__law_spool : FnG P w K mg base CX0 3 f1 d1 ["script"] (spPen K))
    (D__law_of : Df K mg "_law_of" sPick f2 d2 ["spool", "some"]) (G__law_of : FnG P w K mg base CX0 6 f2 d2 ["spool", "some"] (spPick K))
    (D__law_writing : Df K mg "_law_writing" sWrit f3 d3 ["spool", "names", "layers"]) (G__law_writing : FnG P w K mg base CX0 12 f3 d3 ["spool", "names", "layers"] (spWrit 5))
    (D__law_right : Df K mg "_law_right" sRi f4 d4 ["spool", "writing"]) (G__law_right : FnG P w K mg base CX0 624 f4 d4 ["spool", "writing"] (spRi P0))
    (D__law_reckoned : Df K mg "_law_reckoned" sRk f5 d5 ["spool"]) (G__law_reckoned : FnG P w K mg base CX0 7 f5 d5 ["spool"] spRk) : FnG P w K mg base CX0 625 f fd ["script"] (spLaw K P0) := by
  refine fun_okG F scLaw (fun vs H Q E h => ?_) (fun cdv A outer s H vs Q E hr h => ?_)
  · obtain ⟨a, ns, rfl, _⟩ := h
    rfl
  obtain ⟨sa, ns, rfl, hS, hl, hT, q⟩ := h
  refine ⟨_, (pss_cons (ps_set (i := 1) scLaw.nd rfl (.inl rfl) (pe_cg D__law_spool G__law_spool hr (by decide) (pa_cons (pv 0) pa_nil)))
      (pss_cons (ps_for PassesOwn.never rfl (pi_range1 (by rfl) T.b_range (pa_cons pe_int pa_nil)) (pg_name (i := 2) scLaw.nd rfl (.inl rfl))
        (pss_cons (ps_set (i := 3) scLaw.nd rfl (.inl rfl) (pe_cg D__law_of G__law_of hr (by decide) (pa_cons (pv 1) (pa_cons (pe_lst (pa_cons (pe_lst (pa_cons pe_str (pa_cons pe_str pa_nil))) (pa_cons (pe_lst (pa_cons pe_str (pa_cons pe_str (pa_cons pe_str pa_nil)))) (pa_cons (pe_lst (pa_cons pe_str (pa_cons pe_str (pa_cons pe_str pa_nil)))) pa_nil)))) pa_nil))))
        (pss_cons (ps_set (i := 4) scLaw.nd rfl (.inl rfl) (pe_tup (pa_cons pe_str (pa_cons (pe_tup (pa_cons pe_str (pa_cons (pe_cg D__law_of G__law_of hr (by decide) (pa_cons (pv 1) (pa_cons (pv 3) pa_nil))) (pa_cons (pe_cg D__law_writing G__law_writing hr (by decide) (pa_cons (pv 1) (pa_cons (pv 3) (pa_cons pe_int pa_nil)))) pa_nil)))) (pa_cons (pe_cg D__law_writing G__law_writing hr (by decide) (pa_cons (pv 1) (pa_cons (pv 3) (pa_cons pe_int pa_nil)))) pa_nil)))))
        (pss_cons (ps_if (PW.pt (pw_or (pt_not (pt_val (pe_cg D__law_right G__law_right hr (by decide) (pa_cons (pv 1) (pa_cons (pv 4) pa_nil))))) (pw_or1 (pt_not (pt_val (pe_cg D__law_right G__law_right hr (by decide) (pa_cons (pv 1) (pa_cons (pe_cg D__law_writing G__law_writing hr (by decide) (pa_cons (pv 1) (pa_cons (pv 3) (pa_cons pe_int pa_nil)))) pa_nil)))))))) (pss_one (ps_ret pe_bl)) pss_nil)
        (pss_one (ps_if (pt_not (pt_val (pe_cg D__law_right G__law_right hr (by decide) (pa_cons (pv 1) (pa_cons (pe_cg D__law_reckoned G__law_reckoned hr (by decide) (pa_cons (pv 1) pa_nil)) pa_nil))))) (pss_one (ps_ret pe_bl)) pss_nil))))))
      (pss_one (ps_ret pe_bl)))), ?_⟩
  refine ⟨_, rfl, sa, ns, rfl, hS, hl, fun p c H1 _ s1 hp => ?_⟩
  have hT1 := hT.ext fun b o h => s1 b o h
  refine ⟨2, rfl, by decide, by decide, ?_⟩
  refine for_range (lo := 0) (n := 2) (fun i σ H' => (∃ v2 v3 v4, σ = [some (.ref sa), some (.ref p), v2, v3, v4]) ∧ PenAt (1000 * i) H' p c ∧ Tabs [(P0, lamQ)] H') ⟨⟨_, _, _, rfl⟩, hp, hT1⟩ ?_ ?_
  · rintro i σ H0 hi ⟨⟨v2, v3, v4, rfl⟩, hpi, hTi⟩
    refine ⟨_, rfl, (by show 2 ≤ sizeLine; decide), fun l1 hl1 => ⟨(by show 3 ≤ sizeLine; decide), fun l2 hl2 => ⟨(by show 3 ≤ sizeLine; decide), fun l3 hl3 => ⟨(by show 3 ≤ sizeLine; decide), fun L hL => ?_⟩⟩⟩⟩
    have x1 := new_same (o := .lst (([("x" : Str), "y"]).map V.str)) hl1
    have x2 := new_same (o := .lst (([("x" : Str), "y", "f"]).map V.str)) hl2
    have x3 := new_same (o := .lst (([("a" : Str), "b", "c"]).map V.str)) hl3
    have x4 := new_same (o := .lst [.ref l1, .ref l2, .ref l3]) hL
    have x14 := ((x1.trans x2).trans x3).trans x4
    have hp4 := hpi.same x14
    have hT4 := hTi.ext fun b o h => x14 b o h
    obtain ⟨pl, pe⟩ := hpi.lst
    have d3 : dw 3 = 14 := rfl
    have d5 : dw 5 = 62 := rfl
    have n1 : l1 ≠ p := (ne_of_none pe hl1).symm
    have n2 : l2 ≠ p := (ne_of_none (x1 _ _ pe) hl2).symm
    have n3 : l3 ≠ p := (ne_of_none (x2 _ _ (x1 _ _ pe)) hl3).symm
    have nL : L ≠ p := (ne_of_none (x3 _ _ (x2 _ _ (x1 _ _ pe))) hL).symm
    refine ⟨p, c, L, _, 1000 * i, rfl, hp4, by omega, nL, upd_same, List.cons_ne_nil _ _, (by show 3 ≤ 1000000; decide), fun v G1 hv k1 hp1 => ?_⟩
    obtain ⟨l, names, rfl, nl, hl0, hne, hlen, hok⟩ : ∃ (l : Addr) (names : List Str), v = .ref l ∧ l ≠ p ∧ (L2.upd (L2.upd (L2.upd (L2.upd H0 l1 (.lst (([("x" : Str), "y"]).map V.str))) l2 (.lst (([("x" : Str), "y", "f"]).map V.str))) l3 (.lst (([("a" : Str), "b", "c"]).map V.str))) L (.lst [.ref l1, .ref l2, .ref l3])) l = some (.lst (names.map V.str)) ∧ names ≠ [] ∧ names.length ≤ 100 ∧ ∀ z ∈ names, okN z = true := by
      rcases List.mem_cons.mp hv with rfl | hv
      · exact ⟨l1, ["x", "y"], rfl, n1, x4 _ _ (x3 _ _ (x2 _ _ upd_same)), List.cons_ne_nil _ _, (by decide), by decide +kernel⟩
      · rcases List.mem_cons.mp hv with rfl | hv
        · exact ⟨l2, ["x", "y", "f"], rfl, n2, x4 _ _ (x3 _ _ upd_same), List.cons_ne_nil _ _, (by decide), by decide +kernel⟩
        · rw [List.mem_singleton.mp hv]
          exact ⟨l3, ["a", "b", "c"], rfl, n3, x4 _ _ upd_same, List.cons_ne_nil _ _, (by decide), by decide +kernel⟩
    obtain ⟨pl4, pe4⟩ := hp4.lst
    have hT5 := tabs_keep hT4 pe4 k1
    have hl1' := k1 l _ nl hl0
    clear hp4 pe4 hT4 hl0 k1 x1 x2 x3 x4 x14 hv hl1 hl2 hl3 hL n1 n2 n3 nL
    have hneV : names.map V.str ≠ [] := fun z => hne (List.map_eq_nil_iff.mp z)
    have hlenV : (names.map V.str).length ≤ 1000000 := by rw [List.length_map]; omega
    have okw : ∀ {u : Wr}, u.all (fun z => decide (z ∈ names)) = true → u.all okN = true := fun h => all_imp (fun z hz => hok z (of_decide_eq_true hz)) h
    refine ⟨_, rfl, _, rfl, p, c, l, _, 1000 * i + 1, rfl, hp1, by omega, nl, hl1', hneV, hlenV, fun v3 G3 hv3 k3 hp3 => ?_⟩
    obtain ⟨z, hz, rfl⟩ := List.mem_map.mp hv3
    refine ⟨_, rfl, _, rfl, p, c, l, 5, names, 1000 * i + 2, rfl, hp3, by omega, by omega, Nat.le_refl _, nl, k3 l _ nl hl1', hne, hlen, fun v4 w4 G4 wa4 ly4 sg4 al4 k4 hp4 => ?_⟩
    have k14 := k3.trans k4
    refine ⟨(by show 3 ≤ sizeLine; decide), fun a ha => ?_⟩
    have x5 := new_same (o := .tup [.str "of", .str z, v4]) ha
    have wo : WA (L2.upd G4 a (.tup [.str "of", .str z, v4])) (.ref a) (.of z w4) := .of upd_same (wa4.same x5)
    have hp5 := hp4.same x5
    have k15 := k14.trans (Keep.of_same x5)
    refine ⟨_, rfl, _, rfl, p, c, l, 3, names, 1000 * i + 2 + dw 5, rfl, hp5, by omega, by omega, by omega, nl, k15 l _ nl hl1', hne, hlen, fun v5 w5 G5 wa5 ly5 sg5 al5 k5 hp6 => ?_⟩
    refine ⟨(by show 3 ≤ sizeLine; decide), fun b hb => ?_⟩
    have x6 := new_same (o := .tup [.str "to", .ref a, v5]) hb
    have wt : WA (L2.upd G5 b (.tup [.str "to", .ref a, v5])) (.ref b) (.to (.of z w4) w5) := .to upd_same ((WA.keep wo hp5 k5).same x6) (wa5.same x6)
    have hp7 := hp6.same x6
    have k17 := (k15.trans k5).trans (Keep.of_same x6)
    obtain ⟨pl1, pe1⟩ := hp1.lst
    have hT7 := tabs_keep hT5 pe1 k17
    have hl7 := k17 l _ nl hl1'
    have okt : (Wr.to (.of z w4) w5).all okN = true := by
      show ((okN z && w4.all okN) && w5.all okN) = true
      rw [hok z hz, okw al4, okw al5]
      rfl
    have lyt : (Wr.to (.of z w4) w5).ly ≤ 200 := by show max (w4.ly + 1) w5.ly + 1 ≤ 200; omega
    have sgt : (Wr.to (.of z w4) w5).sg ≤ 1000 := by show w4.sg + 1 + w5.sg + 1 ≤ 1000; omega
    generalize (L2.upd G5 b (.tup [.str "to", .ref a, v5])) = G7 at wt hp7 hT7 hl7 ⊢
    generalize Wr.to (.of z w4) w5 = wr at wt okt lyt sgt
    refine ⟨_, rfl, _, rfl, p, c, 1000 * i + 200, _, wr, rfl, hp7.up (by omega), by omega, wt, okt, lyt, sgt, hT7, fun G8 k8 hp8 hT8 => ?_⟩
    have hl8 := k8 l _ nl tbl_ne_lst hl7
    refine ⟨true, rfl, iteF ?_⟩
    refine ⟨_, rfl, _, rfl, _, rfl, p, c, l, 5, names, 1000 * i + 201, rfl, hp8, by omega, by omega, Nat.le_refl _, nl, hl8, hne, hlen, fun v9 w9 G9 wa9 ly9 sg9 al9 k9 hp9 => ?_⟩
    obtain ⟨pl8, pe8⟩ := hp8.lst
    have hT9 := tabs_keep hT8 pe8 k9
    have hl9 := k9 l _ nl hl8
    refine ⟨p, c, 1000 * i + 300, v9, w9, rfl, hp9.up (by omega), by omega, wa9, okw al9, by omega, by omega, hT9, fun G10 k10 hp10 hT10 => ?_⟩
    refine ⟨true, rfl, iteF ?_⟩
    refine ⟨_, rfl, _, rfl, p, c, 1000 * i + 301, rfl, hp10, by omega, fun v11 w11 G11 k11 hp11 wa11 hrk => ?_⟩
    obtain ⟨pl10, pe10⟩ := hp10.lst
    have hT11 := tabs_keep hT10 pe10 k11
    obtain ⟨rk1, rk2, rk3⟩ := hrk
    refine ⟨p, c, 1000 * i + 305, v11, w11, rfl, hp11, by omega, wa11, rk1, by omega, by omega, hT11, fun G12 k12 hp12 hT12 => ?_⟩
    exact ⟨true, rfl, iteF ⟨⟨_, _, _, rfl⟩, hp12.up (by omega), hT12⟩⟩
  · rintro σ H' ⟨⟨v2, v3, v4, rfl⟩, _⟩
    exact q H'
end
end TF18
namespace TF18
open PySem PySem.Spec L2 TG TA
open PyProof.Rows hiding St
section
variable {K : PySem.W.Frag} {x qual : Str} {st : Stmt} {f : Addr} {fd : FuncData} {ps ks : List Str} {n : Nat}
theorem fun_kb {g : List Value → List Value → List Value} {gV : List V → List V → List V} (F : Fun K x qual st f fd)
    (h : ∀ (kV doc pm : Value) (an : Option Addr) (cdv ct : Value) (us ws : List Value), us.length = n → ws.length = ks.length → bindArgs (PySem.W.fnOf x qual (defArgs st) (defBody st) (defScope st) .none kV doc pm an cdv ct) ⟨us, ks.zip ws⟩ = pure (ps.zip (g us ws)))
    (r : ∀ {vs : List V} {us : List Value} {zs : List V} {ws : List Value}, Vals vs us → Vals zs ws → Vals (gV vs zs) (g us ws)) : KBn K fd ps n ks g gV := by
  obtain ⟨oc, od, kV, doc, pm, an, cdv, ct, osl, rfl, lk, hcd⟩ := F.ex
  exact ⟨fun s us ws _ h1 h2 => .of_eq (h kV doc pm an cdv ct us ws h1 h2), r⟩
end
section
variable {K : PySem.W.Frag}
theorem oexc_mk {C N : Addr} {nm q : Str} {bs bm : List Value} {sn : List Str} {sub : List Value} {ab : Bool} {col : Option Bool} {dd : Option Addr} {k0 k1 k2 k3 k5 : Option Value}
    (h1 : K.lookup C = some (excClassObj nm q C N bs bm true sn sub ab col dd k0 k1 k2 k3 k5 "ValueError.__new__")) (h2 : PySem.HandSPX.refsVE bm = true) (h3 : PySem.W.findIn K (.ref C) "__setattr__" = some (some (.builtin "object.__setattr__")))
    (h4 : PySem.W.subIn K (.ref C) (.type "BaseException") = some true) (h5 : PySem.W.typeIn K (.ref C) = some (.type "type")) (h6 : PySem.W.keepIn K (.ref C) = true) : OexC K C :=
  ⟨⟨nm, q, N, bs, bm, sn, sub, ab, col, dd, k0, k1, k2, k3, k5, h1, h2⟩, h3, h4, h5, h6⟩
end
def spL (K : PySem.W.Frag) : List (Addr × Addr) → Sp
  | [(_, P0)] => spLaw K P0
  | _ => fun _ _ _ _ => False
section
variable {K : PySem.W.Frag} {x nm qual : Str} {st : Stmt} {f c P : Addr} {fd : FuncData} {vs : Array Value} {oc : Value} {od : Option Addr} {osl : Array (Option Value)}
theorem tab_by (a : PySem.W.nsIn K mainGlobals x = some (some (.ref f))) (F : Fun K nm qual st f fd) (hc : fd.code = .ref c) (lc : K.lookup c = some ⟨oc, od, .fields vs, osl⟩) (hv : vs[11]? = some (.ref P)) : PySem.W.tabIn K x = some (c, P) := by
  obtain ⟨o1, o2, kV, doc, pm, an, cdv, ct, o3, e, lk, _⟩ := F.ex
  unfold PySem.W.tabIn
  rw [a]
  simp only [lk, hc, lc, hv]
end
theorem all_mk {l : PySem.W.OpenLaw} {qq : Program} {w : World} {K : PySem.W.Frag} {h : Heap} {mg : Str → Option Value} {fa : Addr} (X : K.In h) (G : h.Ns mainGlobals mg) (hfa : mg "law" = some (.ref fa))
    {tL tD tM tN1 tN2 tO tT tQ tP1 tP2 tP3 : Tok} {aN aP : Addr} {nn nP : Nat} {odN : Option Addr} {oslN : Array (Option Value)} {esP : Array DictEntry}
    {CL : Addr}
    {CT CPa CP : Addr} {f15 f50 f61 : Addr} {d15 d50 d61 : FuncData} {tMS tML tMT : Tok}
    {f5 : Addr} {d5 : FuncData}
    {f6 : Addr} {d6 : FuncData}
    {f7 : Addr} {d7 : FuncData}
    {f18 : Addr} {d18 : FuncData}
    {f26 : Addr} {d26 : FuncData}
    {f27 : Addr} {d27 : FuncData}
    {f28 : Addr} {d28 : FuncData}
    {f25 : Addr} {d25 : FuncData}
    {f29 : Addr} {d29 : FuncData}
    {f33 : Addr} {d33 : FuncData}
    {f34 : Addr} {d34 : FuncData}
    {f39 : Addr} {d39 : FuncData}
    {f40 : Addr} {d40 : FuncData}
    {f30 : Addr} {d30 : FuncData}
    {f31 : Addr} {d31 : FuncData}
    {f37 : Addr} {d37 : FuncData}
    {f56 : Addr} {d56 : FuncData}
    {f55 : Addr} {d55 : FuncData}
    {f35 : Addr} {d35 : FuncData}
    {f62 : Addr} {d62 : FuncData}
    {f53 : Addr} {d53 : FuncData}
    {f32 : Addr} {d32 : FuncData}
    {f63 : Addr} {d63 : FuncData}
    {f64 : Addr} {d64 : FuncData}
    {f65 : Addr} {d65 : FuncData}
    {f19 : Addr} {d19 : FuncData}
    {f45 : Addr} {d45 : FuncData}
    {f46 : Addr} {d46 : FuncData}
    {f44 : Addr} {d44 : FuncData}
    {f43 : Addr} {d43 : FuncData}
    {f42 : Addr} {d42 : FuncData}
    {f41 : Addr} {d41 : FuncData}
    {f20 : Addr} {d20 : FuncData}
    {f67 : Addr} {d67 : FuncData}
    {f48 : Addr} {d48 : FuncData}
    {f66 : Addr} {d66 : FuncData}
    {aB : Addr}
    {CD fE fB : Addr} {dE dB : FuncData}
    {f49 : Addr} {d49 : FuncData}
    {f69 : Addr} {d69 : FuncData}
    {f70 : Addr} {d70 : FuncData}
    {f71 : Addr} {d71 : FuncData}
    {f72 : Addr} {d72 : FuncData}
    {f73 : Addr} {d73 : FuncData}
    {f74 : Addr} {d74 : FuncData}
    {f75 : Addr} {d75 : FuncData}
    {f76 : Addr} {d76 : FuncData}
    {f78 : Addr} {d78 : FuncData}
    {f79 : Addr} {d79 : FuncData}
    {f80 : Addr} {d80 : FuncData}
    {f81 : Addr} {d81 : FuncData}
    {f82 : Addr} {d82 : FuncData}
    {f83 : Addr} {d83 : FuncData}
    {f84 : Addr} {d84 : FuncData}
    {f85 : Addr} {d85 : FuncData}
    {f86 : Addr} {d86 : FuncData}
    {f87 : Addr} {d87 : FuncData}
    {cd86 tb86 : Addr} {ocd86 : Value} {odd86 : Option Addr} {vcd86 : Array Value} {osd86 : Array (Option Value)}
    (b_ValueError : PySem.W.nsIn K mainGlobals "ValueError" = some none)
    (b_abs : PySem.W.nsIn K mainGlobals "abs" = some none)
    (b_all : PySem.W.nsIn K mainGlobals "all" = some none)
    (b_bool : PySem.W.nsIn K mainGlobals "bool" = some none)
    (b_enumerate : PySem.W.nsIn K mainGlobals "enumerate" = some none)
    (b_int : PySem.W.nsIn K mainGlobals "int" = some none)
    (b_isinstance : PySem.W.nsIn K mainGlobals "isinstance" = some none)
    (b_len : PySem.W.nsIn K mainGlobals "len" = some none)
    (b_list : PySem.W.nsIn K mainGlobals "list" = some none)
    (b_max : PySem.W.nsIn K mainGlobals "max" = some none)
    (b_range : PySem.W.nsIn K mainGlobals "range" = some none)
    (b_reversed : PySem.W.nsIn K mainGlobals "reversed" = some none)
    (b_str : PySem.W.nsIn K mainGlobals "str" = some none)
    (b_tuple : PySem.W.nsIn K mainGlobals "tuple" = some none)
    (b_type : PySem.W.nsIn K mainGlobals "type" = some none)
    (b_zip : PySem.W.nsIn K mainGlobals "zip" = some none)
    (vL : PySem.W.nsIn K mainGlobals "LETTERS" = some (some (.str "abcdefghijklmnopqrstuvwxyz" tL)))
    (vD : PySem.W.nsIn K mainGlobals "DIGITS" = some (some (.str "0123456789" tD)))
    (vM : PySem.W.nsIn K mainGlobals "LONGEST_NAME" = some (some (.int 12 tM)))
    (vN : PySem.W.nsIn K mainGlobals "NO_NAMES" = some (some (.ref aN)))
    (loN : K.lookup aN = some ⟨.type "tuple", odN, .seq #[.str "of" tN1, .str "to" tN2] nn, oslN⟩)
    (vO : PySem.W.nsIn K mainGlobals "OF" = some (some (.str "of" tO)))
    (vT : PySem.W.nsIn K mainGlobals "TO" = some (some (.str "to" tT)))
    (vQ : PySem.W.nsIn K mainGlobals "NAME" = some (some (.str "name" tQ)))
    (vP : PySem.W.nsIn K mainGlobals "PARTS" = some (some (.ref aP)))
    (loP : K.lookup aP = some ⟨.type "dict", none, .dict esP nP, #[]⟩)
    (klP : PySem.W.KeysLit w.params esP.toList)
    (smP : (aP == sysModules) = false)
    (p1 : PySem.W.nsIn K aP "of" = some (some (.int 1 tP1)))
    (p2 : PySem.W.nsIn K aP "to" = some (some (.int 2 tP2)))
    (p3 : PySem.W.nsIn K aP ">" = some (some (.int 2 tP3)))
    (p0 : PySem.W.nsIn K aP "name" = some none)
    (vY : PySem.W.nsIn K mainGlobals "Layout" = some (some (.ref CL)))
    (yg : PySem.W.plainGet K CL Str.empty = true)
    (yh : PySem.W.hasDictIn K CL = true)
    (yo : PySem.W.plainOver K CL = true)
    (ys : PySem.W.findIn K (.ref CL) "__setattr__" = some (some (.builtin "object.__setattr__")))
    (ym : PySem.W.makesIn K CL = true)
    (yk : PySem.W.keepIn K (.ref CL) = true)
    (yn0 : PySem.W.findIn K (.ref CL) "signs" = some none)
    (yn1 : PySem.W.findIn K (.ref CL) "ends" = some none)
    (yn2 : PySem.W.findIn K (.ref CL) "below" = some none)
    (yn3 : PySem.W.findIn K (.ref CL) "around" = some none)
    (yn4 : PySem.W.findIn K (.ref CL) "binders" = some none)
    (vMS : PySem.W.nsIn K mainGlobals "MOST_SIGNS" = some (some (.int 2000 tMS)))
    (vML : PySem.W.nsIn K mainGlobals "MOST_LAYERS" = some (some (.int 200 tML)))
    (vMT : PySem.W.nsIn K mainGlobals "MOST_STEPS" = some (some (.int 1000 tMT)))
    (vCT : PySem.W.nsIn K mainGlobals "TooMany" = some (some (.ref CT)))
    (vPa : PySem.W.nsIn K mainGlobals "Paper" = some (some (.ref CPa)))
    (vCP : PySem.W.nsIn K mainGlobals "Plain" = some (some (.ref CP)))
    (XT : OexC K CT)
    (xi : PySem.W.findIn K (.ref CT) "__init__" = some (some (.ref f15)))
    (xt : PySem.W.typeIn K (.ref f15) = some (.type "function"))
    (F15 : Fun K "__init__" "TooMany.__init__" sTMI f15 d15)
    (xw : PySem.W.findIn K (.ref CT) "what" = some none)
    (xm : PySem.W.findIn K (.ref CT) "most" = some none)
    (rd : PySem.W.readsIn K CPa (.type "type") = true)
    (rg : PySem.W.specialIn K (.ref CPa) "__getattribute__" = some (some (.builtin "type.__getattribute__")))
    (ri : PySem.W.findCls K (.ref CPa) (.type "type") "__init__" = some (.val (.ref f50)))
    (F50 : Fun K "__init__" "Paper.__init__" sPapI f50 d50)
    (zg : PySem.W.plainGet K CP Str.empty = true)
    (zh : PySem.W.hasDictIn K CP = true)
    (zo : PySem.W.plainOver K CP = true)
    (zs : PySem.W.findIn K (.ref CP) "__setattr__" = some (some (.builtin "object.__setattr__")))
    (zm : PySem.W.makesIn K CP = true)
    (zk : PySem.W.keepIn K (.ref CP) = true)
    (zn0 : PySem.W.findIn K (.ref CP) "word" = some none)
    (zn1 : PySem.W.findIn K (.ref CP) "parts" = some none)
    (zn2 : PySem.W.findIn K (.ref CP) "writing" = some none)
    (zn3 : PySem.W.findIn K (.ref CP) "steps" = some none)
    (zi : PySem.W.findIn K (.ref CP) "__init__" = some (some (.ref f61)))
    (zf : PySem.W.isFn K (.ref f61) = true)
    (F61 : Fun K "__init__" "Plain.__init__" sPlnI f61 d61)
    (ksP : TG.ksOf esP.toList = some TG.partsD)
    (a5 : PySem.W.nsIn K mainGlobals "is_integer" = some (some (.ref f5)))
    (F5 : Fun K "is_integer" "is_integer" sInt f5 d5)
    (a6 : PySem.W.nsIn K mainGlobals "is_within" = some (some (.ref f6)))
    (F6 : Fun K "is_within" "is_within" sWithin f6 d6)
    (a7 : PySem.W.nsIn K mainGlobals "is_name" = some (some (.ref f7)))
    (F7 : Fun K "is_name" "is_name" sName f7 d7)
    (a18 : PySem.W.nsIn K mainGlobals "bounds_in" = some (some (.ref f18)))
    (F18 : Fun K "bounds_in" "bounds_in" sBounds f18 d18)
    (a26 : PySem.W.nsIn K mainGlobals "ofs_around" = some (some (.ref f26)))
    (F26 : Fun K "ofs_around" "ofs_around" sAround f26 d26)
    (a27 : PySem.W.nsIn K mainGlobals "binder_of" = some (some (.ref f27)))
    (F27 : Fun K "binder_of" "binder_of" sBinder f27 d27)
    (a28 : PySem.W.nsIn K mainGlobals "signs_in" = some (some (.ref f28)))
    (F28 : Fun K "signs_in" "signs_in" sSigns f28 d28)
    (a25 : PySem.W.findIn K (.ref CL) "__init__" = some (some (.ref f25)))
    (yf : PySem.W.isFn K (.ref f25) = true)
    (F25 : Fun K "__init__" "Layout.__init__" sLayI f25 d25)
    (a29 : PySem.W.nsIn K mainGlobals "laid_out" = some (some (.ref f29)))
    (F29 : Fun K "laid_out" "laid_out" sLaid f29 d29)
    (a33 : PySem.W.nsIn K mainGlobals "free_signs" = some (some (.ref f33)))
    (F33 : Fun K "free_signs" "free_signs" sFreeS f33 d33)
    (a34 : PySem.W.nsIn K mainGlobals "free_in" = some (some (.ref f34)))
    (F34 : Fun K "free_in" "free_in" sFreeI f34 d34)
    (a39 : PySem.W.nsIn K mainGlobals "depths_in" = some (some (.ref f39)))
    (F39 : Fun K "depths_in" "depths_in" sDepths f39 d39)
    (a40 : PySem.W.nsIn K mainGlobals "codes_of" = some (some (.ref f40)))
    (F40 : Fun K "codes_of" "codes_of" sCodes f40 d40)
    (a30 : PySem.W.nsIn K mainGlobals "built" = some (some (.ref f30)))
    (F30 : Fun K "built" "built" sBuilt f30 d30)
    (a31 : PySem.W.nsIn K mainGlobals "built_part" = some (some (.ref f31)))
    (F31 : Fun K "built_part" "built_part" sPart f31 d31)
    (a37 : PySem.W.nsIn K mainGlobals "new_names" = some (some (.ref f37)))
    (F37 : Fun K "new_names" "new_names" sNew f37 d37)
    (a56 : PySem.W.nsIn K mainGlobals "names_for_catching" = some (some (.ref f56)))
    (F56 : Fun K "names_for_catching" "names_for_catching" sCatch f56 d56)
    (a55 : PySem.W.nsIn K mainGlobals "put" = some (some (.ref f55)))
    (F55 : Fun K "put" "put" sPt f55 d55)
    (a35 : PySem.W.nsIn K mainGlobals "places_in" = some (some (.ref f35)))
    (F35 : Fun K "places_in" "places_in" sPlaces f35 d35)
    (a62 : PySem.W.nsIn K mainGlobals "is_step" = some (some (.ref f62)))
    (F62 : Fun K "is_step" "is_step" sIsStep f62 d62)
    (a53 : PySem.W.nsIn K mainGlobals "index_at" = some (some (.ref f53)))
    (F53 : Fun K "index_at" "index_at" sIdx f53 d53)
    (a32 : PySem.W.nsIn K mainGlobals "with_built" = some (some (.ref f32)))
    (F32 : Fun K "with_built" "with_built" sWB f32 d32)
    (a63 : PySem.W.nsIn K mainGlobals "steps_of" = some (some (.ref f63)))
    (F63 : Fun K "steps_of" "steps_of" sSteps f63 d63)
    (a64 : PySem.W.nsIn K mainGlobals "is_plain" = some (some (.ref f64)))
    (F64 : Fun K "is_plain" "is_plain" sPlain f64 d64)
    (a65 : PySem.W.nsIn K mainGlobals "step_at" = some (some (.ref f65)))
    (F65 : Fun K "step_at" "step_at" sStep f65 d65)
    (a19 : PySem.W.nsIn K mainGlobals "part_end" = some (some (.ref f19)))
    (F19 : Fun K "part_end" "part_end" sPE f19 d19)
    (a45 : PySem.W.nsIn K mainGlobals "is_loose" = some (some (.ref f45)))
    (F45 : Fun K "is_loose" "is_loose" sLoose f45 d45)
    (a46 : PySem.W.nsIn K mainGlobals "moved" = some (some (.ref f46)))
    (F46 : Fun K "moved" "moved" sMoved f46 d46)
    (a44 : PySem.W.nsIn K mainGlobals "put_in" = some (some (.ref f44)))
    (F44 : Fun K "put_in" "put_in" sPutIn f44 d44)
    (a43 : PySem.W.nsIn K mainGlobals "stepped" = some (some (.ref f43)))
    (F43 : Fun K "stepped" "stepped" sStepped f43 d43)
    (a42 : PySem.W.nsIn K mainGlobals "first_step" = some (some (.ref f42)))
    (F42 : Fun K "first_step" "first_step" sFirst f42 d42)
    (a41 : PySem.W.nsIn K mainGlobals "named" = some (some (.ref f41)))
    (F41 : Fun K "named" "named" sNamed f41 d41)
    (a20 : PySem.W.nsIn K mainGlobals "layers_in" = some (some (.ref f20)))
    (F20 : Fun K "layers_in" "layers_in" sLI f20 d20)
    (a67 : PySem.W.nsIn K mainGlobals "refuse_great" = some (some (.ref f67)))
    (F67 : Fun K "refuse_great" "refuse_great" sRG f67 d67)
    (a48 : PySem.W.nsIn K mainGlobals "fixed" = some (some (.ref f48)))
    (F48 : Fun K "fixed" "fixed" sFix f48 d48)
    (a66 : PySem.W.nsIn K mainGlobals "plain" = some (some (.ref f66)))
    (F66 : Fun K "plain" "plain" sPl f66 d66)
    (vAg : PySem.W.nsIn K mainGlobals "AgainError" = some (some (.ref aB)))
    (heA : PySem.W.exmOne K (.ref CT) (.ref aB) = some true)
    (hg1 : PySem.W.findIn K (.ref CT) "__getattribute__" = some (some (.builtin "BaseException.__getattribute__")))
    (hg2 : PySem.W.findIn K (.ref CT) "__getattr__" = some none)
    (hg3 : PySem.W.subIn K (.ref CT) (.type "BaseException") = some true)
    (hg4 : PySem.W.hasDictIn K CT = true)
    (hg5 : PySem.W.findIn K (.ref CT) "__class__" = some (some (.builtin "object.__class__")))
    (hg6 : PySem.W.specialIn K (.builtin "object.__class__") "__get__" = some (some (.builtin "getset_descriptor.__get__")))
    (hg7 : PySem.W.takesIn K (.builtin "object.__class__") = some true)
    (hg8 : PySem.W.mroIn K CT (.type "object") = some true)
    (hk3 : PySem.W.findIn K (.ref CP) "__class__" = some (some (.builtin "object.__class__")))
    (hk4 : PySem.W.mroIn K CP (.type "object") = some true)
    (hk0 : PySem.W.kitOne K (.ref CT) (.ref CT) = some true)
    (hk1 : PySem.W.kitOne K (.type "NoneType") (.ref CT) = some false)
    (hk2 : PySem.W.kitOne K (.ref CP) (.ref CP) = some true)
    (vDen : PySem.W.nsIn K mainGlobals "Denial" = some (some (.ref CD)))
    (kPa : PySem.W.kitOne K (.ref CP) (.ref CPa) = some true)
    (kD : PySem.W.kitOne K (.ref CP) (.ref CD) = some false)
    (hs : PySem.W.findIn K (.ref CP) "__bool__" = some (some (.ref fB)))
    (hf : PySem.W.typeIn K (.ref fB) = some (.type "function"))
    (FB : Fun K "__bool__" "Paper.__bool__" sBoolP fB dB)
    (heq : PySem.W.findIn K (.ref CP) "__eq__" = some (some (.ref fE)))
    (hfe : PySem.W.isFn K (.ref fE) = true)
    (FE : Fun K "__eq__" "Paper.__eq__" sEqP fE dE)
    (a49 : PySem.W.nsIn K mainGlobals "same_papers" = some (some (.ref f49)))
    (F49 : Fun K "same_papers" "same_papers" sSameP f49 d49)
    (a69 : PySem.W.nsIn K mainGlobals "_law_spool" = some (some (.ref f69)))
    (F69 : Fun K "_law_spool" "_law_spool" sPen f69 d69)
    (a70 : PySem.W.nsIn K mainGlobals "_law_reeve" = some (some (.ref f70)))
    (F70 : Fun K "_law_reeve" "_law_reeve" sDraw f70 d70)
    (a71 : PySem.W.nsIn K mainGlobals "_law_of" = some (some (.ref f71)))
    (F71 : Fun K "_law_of" "_law_of" sPick f71 d71)
    (a72 : PySem.W.nsIn K mainGlobals "_law_writing" = some (some (.ref f72)))
    (F72 : Fun K "_law_writing" "_law_writing" sWrit f72 d72)
    (a73 : PySem.W.nsIn K mainGlobals "_law_bare" = some (some (.ref f73)))
    (F73 : Fun K "_law_bare" "_law_bare" sBare f73 d73)
    (a74 : PySem.W.nsIn K mainGlobals "_law_lifted" = some (some (.ref f74)))
    (F74 : Fun K "_law_lifted" "_law_lifted" sLift f74 d74)
    (a75 : PySem.W.nsIn K mainGlobals "_law_handed" = some (some (.ref f75)))
    (F75 : Fun K "_law_handed" "_law_handed" sHand f75 d75)
    (a76 : PySem.W.nsIn K mainGlobals "_law_is_ready" = some (some (.ref f76)))
    (F76 : Fun K "_law_is_ready" "_law_is_ready" sReady f76 d76)
    (a78 : PySem.W.nsIn K mainGlobals "_law_stepped" = some (some (.ref f78)))
    (F78 : Fun K "_law_stepped" "_law_stepped" sOwnSt f78 d78)
    (a79 : PySem.W.nsIn K mainGlobals "_law_first" = some (some (.ref f79)))
    (F79 : Fun K "_law_first" "_law_first" sFst f79 d79)
    (a80 : PySem.W.nsIn K mainGlobals "_law_sizes" = some (some (.ref f80)))
    (F80 : Fun K "_law_sizes" "_law_sizes" sSizes f80 d80)
    (a81 : PySem.W.nsIn K mainGlobals "_law_due" = some (some (.ref f81)))
    (F81 : Fun K "_law_due" "_law_due" sDue f81 d81)
    (a82 : PySem.W.nsIn K mainGlobals "_law_times" = some (some (.ref f82)))
    (F82 : Fun K "_law_times" "_law_times" sTimes f82 d82)
    (a83 : PySem.W.nsIn K mainGlobals "_law_reckoned" = some (some (.ref f83)))
    (F83 : Fun K "_law_reckoned" "_law_reckoned" sRk f83 d83)
    (a84 : PySem.W.nsIn K mainGlobals "_law_heard" = some (some (.ref f84)))
    (F84 : Fun K "_law_heard" "_law_heard" sHrd f84 d84)
    (a85 : PySem.W.nsIn K mainGlobals "_law_told_right" = some (some (.ref f85)))
    (F85 : Fun K "_law_told_right" "_law_told_right" sTold f85 d85)
    (a86 : PySem.W.nsIn K mainGlobals "_law_right" = some (some (.ref f86)))
    (F86 : Fun K "_law_right" "_law_right" sRi f86 d86)
    (a87 : PySem.W.nsIn K mainGlobals "law" = some (some (.ref f87)))
    (F87 : Fun K "law" "law" sLaw f87 d87)
    (hc86 : d86.code = .ref cd86)
    (lc86 : K.lookup cd86 = some ⟨ocd86, odd86, .fields vcd86, osd86⟩)
    (tv86 : vcd86[11]? = some (.ref tb86))
    (tn86 : K.lookup tb86 = none)
    (rq86 : ((recsOf qq).find? (fun r => r.name == ("_law_right" : Str))).isSome = true)
    : ∃ (fd : FuncData) (qs : List (Str × Addr × Addr)), (∀ e ∈ qs, ((recsOf qq).find? (fun r => r.name == e.1)).isSome = true ∧ PySem.W.tabIn K e.1 = some e.2 ∧ K.lookup e.2.2 = none) ∧ (∀ (s : Shared) (v : Value), BindsTo s fd ⟨[v], []⟩ [("script", v)]) ∧ (∀ (H : Hp) (a : Addr) (ns : List Int), ns.length ≤ 63 → (∀ e ∈ qs, H e.2.2 = some (.tbl #[])) → SqL K H a (ns.map V.int) → spL K (qs.map (·.2)) [.ref a] H (fun v _ => v = .bl true) fun _ _ _ => False) ∧ ∀ base : Heap, K.In base → base.Ns mainGlobals mg → (∀ e ∈ qs, LamX.TabB base mg e.2.1 e.2.2) → FnG l.prog w K mg base CX0 625 fa fd ["script"] (spL K (qs.map (·.2))) := by
  have e := hfa.symm.trans (PySem.W.mg_of X G a87)
  cases e
  have T : Bn mg := ⟨PySem.W.mg_none_of X G b_ValueError, PySem.W.mg_none_of X G b_abs, PySem.W.mg_none_of X G b_all, PySem.W.mg_none_of X G b_bool, PySem.W.mg_none_of X G b_enumerate, PySem.W.mg_none_of X G b_int, PySem.W.mg_none_of X G b_isinstance, PySem.W.mg_none_of X G b_len, PySem.W.mg_none_of X G b_list, PySem.W.mg_none_of X G b_max, PySem.W.mg_none_of X G b_range, PySem.W.mg_none_of X G b_reversed, PySem.W.mg_none_of X G b_str, PySem.W.mg_none_of X G b_tuple, PySem.W.mg_none_of X G b_type, PySem.W.mg_none_of X G b_zip⟩
  have D_is_integer : Df K mg "is_integer" sInt f5 d5 ["value"] := ⟨F5, PySem.W.mg_of X G a5, F5.binds (ps := ["value"]) fun _ _ _ _ _ _ us hl => match us, hl with | [_], _ => rfl⟩
  have D_is_within : Df K mg "is_within" sWithin f6 d6 ["value", "least", "most"] := ⟨F6, PySem.W.mg_of X G a6, F6.binds (ps := ["value", "least", "most"]) fun _ _ _ _ _ _ us hl => match us, hl with | [_, _, _], _ => rfl⟩
  have D_is_name : Df K mg "is_name" sName f7 d7 ["value"] := ⟨F7, PySem.W.mg_of X G a7, F7.binds (ps := ["value"]) fun _ _ _ _ _ _ us hl => match us, hl with | [_], _ => rfl⟩
  have D_bounds_in : Df K mg "bounds_in" sBounds f18 d18 ["row"] := ⟨F18, PySem.W.mg_of X G a18, F18.binds (ps := ["row"]) fun _ _ _ _ _ _ us hl => match us, hl with | [_], _ => rfl⟩
  have D_ofs_around : Df K mg "ofs_around" sAround f26 d26 ["signs", "below"] := ⟨F26, PySem.W.mg_of X G a26, F26.binds (ps := ["signs", "below"]) fun _ _ _ _ _ _ us hl => match us, hl with | [_, _], _ => rfl⟩
  have D_binder_of : Df K mg "binder_of" sBinder f27 d27 ["signs", "around", "at"] := ⟨F27, PySem.W.mg_of X G a27, F27.binds (ps := ["signs", "around", "at"]) fun _ _ _ _ _ _ us hl => match us, hl with | [_, _, _], _ => rfl⟩
  have D_signs_in : Df K mg "signs_in" sSigns f28 d28 ["value"] := ⟨F28, PySem.W.mg_of X G a28, F28.binds (ps := ["value"]) fun _ _ _ _ _ _ us hl => match us, hl with | [_], _ => rfl⟩
  have D_laid_out : Df K mg "laid_out" sLaid f29 d29 ["value", "part"] := ⟨F29, PySem.W.mg_of X G a29, F29.binds (ps := ["value", "part"]) fun _ _ _ _ _ _ us hl => match us, hl with | [_, _], _ => rfl⟩
  have D_free_signs : Df K mg "free_signs" sFreeS f33 d33 ["layout"] := ⟨F33, PySem.W.mg_of X G a33, F33.binds (ps := ["layout"]) fun _ _ _ _ _ _ us hl => match us, hl with | [_], _ => rfl⟩
  have D_free_in : Df K mg "free_in" sFreeI f34 d34 ["layout"] := ⟨F34, PySem.W.mg_of X G a34, F34.binds (ps := ["layout"]) fun _ _ _ _ _ _ us hl => match us, hl with | [_], _ => rfl⟩
  have D_depths_in : Df K mg "depths_in" sDepths f39 d39 ["row"] := ⟨F39, PySem.W.mg_of X G a39, F39.binds (ps := ["row"]) fun _ _ _ _ _ _ us hl => match us, hl with | [_], _ => rfl⟩
  have D_codes_of : Df K mg "codes_of" sCodes f40 d40 ["layout"] := ⟨F40, PySem.W.mg_of X G a40, F40.binds (ps := ["layout"]) fun _ _ _ _ _ _ us hl => match us, hl with | [_], _ => rfl⟩
  have D_built : Df K mg "built" sBuilt f30 d30 ["signs"] := ⟨F30, PySem.W.mg_of X G a30, F30.binds (ps := ["signs"]) fun _ _ _ _ _ _ us hl => match us, hl with | [_], _ => rfl⟩
  have D_built_part : Df K mg "built_part" sPart f31 d31 ["layout", "at"] := ⟨F31, PySem.W.mg_of X G a31, F31.binds (ps := ["layout", "at"]) fun _ _ _ _ _ _ us hl => match us, hl with | [_, _], _ => rfl⟩
  have D_new_names : Df K mg "new_names" sNew f37 d37 ["count", "used"] := ⟨F37, PySem.W.mg_of X G a37, F37.binds (ps := ["count", "used"]) fun _ _ _ _ _ _ us hl => match us, hl with | [_, _], _ => rfl⟩
  have D_names_for_catching : Df K mg "names_for_catching" sCatch f56 d56 ["layout", "gone", "inner"] := ⟨F56, PySem.W.mg_of X G a56, F56.binds (ps := ["layout", "gone", "inner"]) fun _ _ _ _ _ _ us hl => match us, hl with | [_, _, _], _ => rfl⟩
  have D_put : Df K mg "put" sPt f55 d55 ["writing", "name", "other"] := ⟨F55, PySem.W.mg_of X G a55, F55.binds (ps := ["writing", "name", "other"]) fun _ _ _ _ _ _ us hl => match us, hl with | [_, _, _], _ => rfl⟩
  have D_places_in : Df K mg "places_in" sPlaces f35 d35 ["layout"] := ⟨F35, PySem.W.mg_of X G a35, F35.binds (ps := ["layout"]) fun _ _ _ _ _ _ us hl => match us, hl with | [_], _ => rfl⟩
  have D_is_step : Df K mg "is_step" sIsStep f62 d62 ["layout", "at"] := ⟨F62, PySem.W.mg_of X G a62, F62.binds (ps := ["layout", "at"]) fun _ _ _ _ _ _ us hl => match us, hl with | [_, _], _ => rfl⟩
  have D_index_at : Df K mg "index_at" sIdx f53 d53 ["layout", "place"] := ⟨F53, PySem.W.mg_of X G a53, F53.binds (ps := ["layout", "place"]) fun _ _ _ _ _ _ us hl => match us, hl with | [_, _], _ => rfl⟩
  have D_with_built : Df K mg "with_built" sWB f32 d32 ["layout", "at", "part"] := ⟨F32, PySem.W.mg_of X G a32, F32.binds (ps := ["layout", "at", "part"]) fun _ _ _ _ _ _ us hl => match us, hl with | [_, _, _], _ => rfl⟩
  have D_steps_of : Df K mg "steps_of" sSteps f63 d63 ["writing"] := ⟨F63, PySem.W.mg_of X G a63, F63.binds (ps := ["writing"]) fun _ _ _ _ _ _ us hl => match us, hl with | [_], _ => rfl⟩
  have D_is_plain : Df K mg "is_plain" sPlain f64 d64 ["writing"] := ⟨F64, PySem.W.mg_of X G a64, F64.binds (ps := ["writing"]) fun _ _ _ _ _ _ us hl => match us, hl with | [_], _ => rfl⟩
  have D_step_at : Df K mg "step_at" sStep f65 d65 ["writing", "place"] := ⟨F65, PySem.W.mg_of X G a65, F65.binds (ps := ["writing", "place"]) fun _ _ _ _ _ _ us hl => match us, hl with | [_, _], _ => rfl⟩
  have D_part_end : Df K mg "part_end" sPE f19 d19 ["row", "start"] := ⟨F19, PySem.W.mg_of X G a19, F19.binds (ps := ["row", "start"]) fun _ _ _ _ _ _ us hl => match us, hl with | [_, _], _ => rfl⟩
  have D_is_loose : Df K mg "is_loose" sLoose f45 d45 ["code", "depth"] := ⟨F45, PySem.W.mg_of X G a45, F45.binds (ps := ["code", "depth"]) fun _ _ _ _ _ _ us hl => match us, hl with | [_, _], _ => rfl⟩
  have D_moved : Df K mg "moved" sMoved f46 d46 ["codes", "loose", "by"] := ⟨F46, PySem.W.mg_of X G a46, F46.binds (ps := ["codes", "loose", "by"]) fun _ _ _ _ _ _ us hl => match us, hl with | [_, _, _], _ => rfl⟩
  have D_put_in : Df K mg "put_in" sPutIn f44 d44 ["body", "other"] := ⟨F44, PySem.W.mg_of X G a44, F44.binds (ps := ["body", "other"]) fun _ _ _ _ _ _ us hl => match us, hl with | [_, _], _ => rfl⟩
  have D_stepped : Df K mg "stepped" sStepped f43 d43 ["codes", "at"] := ⟨F43, PySem.W.mg_of X G a43, F43.binds (ps := ["codes", "at"]) fun _ _ _ _ _ _ us hl => match us, hl with | [_, _], _ => rfl⟩
  have D_first_step : Df K mg "first_step" sFirst f42 d42 ["codes", "start"] := ⟨F42, PySem.W.mg_of X G a42, F42.binds (ps := ["codes", "start"]) fun _ _ _ _ _ _ us hl => match us, hl with | [_, _], _ => rfl⟩
  have D_named : Df K mg "named" sNamed f41 d41 ["codes"] := ⟨F41, PySem.W.mg_of X G a41, F41.binds (ps := ["codes"]) fun _ _ _ _ _ _ us hl => match us, hl with | [_], _ => rfl⟩
  have D_layers_in : Df K mg "layers_in" sLI f20 d20 ["row"] := ⟨F20, PySem.W.mg_of X G a20, F20.binds (ps := ["row"]) fun _ _ _ _ _ _ us hl => match us, hl with | [_], _ => rfl⟩
  have D_refuse_great : Df K mg "refuse_great" sRG f67 d67 ["codes"] := ⟨F67, PySem.W.mg_of X G a67, F67.binds (ps := ["codes"]) fun _ _ _ _ _ _ us hl => match us, hl with | [_], _ => rfl⟩
  have D_fixed : Df K mg "fixed" sFix f48 d48 ["value"] := ⟨F48, PySem.W.mg_of X G a48, F48.binds (ps := ["value"]) fun _ _ _ _ _ _ us hl => match us, hl with | [_], _ => rfl⟩
  have D_plain : Df K mg "plain" sPl f66 d66 ["writing", "most"] := ⟨F66, PySem.W.mg_of X G a66, F66.binds (ps := ["writing", "most"]) fun _ _ _ _ _ _ us hl => match us, hl with | [_, _], _ => rfl⟩
  have D_same_papers : Df K mg "same_papers" sSameP f49 d49 ["one", "other"] := ⟨F49, PySem.W.mg_of X G a49, F49.binds (ps := ["one", "other"]) fun _ _ _ _ _ _ us hl => match us, hl with | [_, _], _ => rfl⟩
  have D__law_spool : Df K mg "_law_spool" sPen f69 d69 ["script"] := ⟨F69, PySem.W.mg_of X G a69, F69.binds (ps := ["script"]) fun _ _ _ _ _ _ us hl => match us, hl with | [_], _ => rfl⟩
  have D__law_reeve : Df K mg "_law_reeve" sDraw f70 d70 ["spool", "many"] := ⟨F70, PySem.W.mg_of X G a70, F70.binds (ps := ["spool", "many"]) fun _ _ _ _ _ _ us hl => match us, hl with | [_, _], _ => rfl⟩
  have D__law_of : Df K mg "_law_of" sPick f71 d71 ["spool", "some"] := ⟨F71, PySem.W.mg_of X G a71, F71.binds (ps := ["spool", "some"]) fun _ _ _ _ _ _ us hl => match us, hl with | [_, _], _ => rfl⟩
  have D__law_writing : Df K mg "_law_writing" sWrit f72 d72 ["spool", "names", "layers"] := ⟨F72, PySem.W.mg_of X G a72, F72.binds (ps := ["spool", "names", "layers"]) fun _ _ _ _ _ _ us hl => match us, hl with | [_, _, _], _ => rfl⟩
  have D__law_bare : Df K mg "_law_bare" sBare f73 d73 ["writing", "around"] := ⟨F73, PySem.W.mg_of X G a73, F73.binds (ps := ["writing", "around"]) fun _ _ _ _ _ _ us hl => match us, hl with | [_, _], _ => rfl⟩
  have D__law_lifted : Df K mg "_law_lifted" sLift f74 d74 ["bare", "by", "inner"] := ⟨F74, PySem.W.mg_of X G a74, F74.binds (ps := ["bare", "by", "inner"]) fun _ _ _ _ _ _ us hl => match us, hl with | [_, _, _], _ => rfl⟩
  have D__law_handed : Df K mg "_law_handed" sHand f75 d75 ["body", "other", "inner"] := ⟨F75, PySem.W.mg_of X G a75, F75.binds (ps := ["body", "other", "inner"]) fun _ _ _ _ _ _ us hl => match us, hl with | [_, _, _], _ => rfl⟩
  have D__law_is_ready : Df K mg "_law_is_ready" sReady f76 d76 ["bare"] := ⟨F76, PySem.W.mg_of X G a76, F76.binds (ps := ["bare"]) fun _ _ _ _ _ _ us hl => match us, hl with | [_], _ => rfl⟩
  have D__law_stepped : Df K mg "_law_stepped" sOwnSt f78 d78 ["bare", "place"] := ⟨F78, PySem.W.mg_of X G a78, F78.binds (ps := ["bare", "place"]) fun _ _ _ _ _ _ us hl => match us, hl with | [_, _], _ => rfl⟩
  have D__law_first : Df K mg "_law_first" sFst f79 d79 ["bare"] := ⟨F79, PySem.W.mg_of X G a79, F79.binds (ps := ["bare"]) fun _ _ _ _ _ _ us hl => match us, hl with | [_], _ => rfl⟩
  have D__law_sizes : Df K mg "_law_sizes" sSizes f80 d80 ["bare"] := ⟨F80, PySem.W.mg_of X G a80, F80.binds (ps := ["bare"]) fun _ _ _ _ _ _ us hl => match us, hl with | [_], _ => rfl⟩
  have D__law_due : Df K mg "_law_due" sDue f81 d81 ["bare", "most"] := ⟨F81, PySem.W.mg_of X G a81, F81.binds (ps := ["bare", "most"]) fun _ _ _ _ _ _ us hl => match us, hl with | [_, _], _ => rfl⟩
  have D__law_times : Df K mg "_law_times" sTimes f82 d82 ["number"] := ⟨F82, PySem.W.mg_of X G a82, F82.binds (ps := ["number"]) fun _ _ _ _ _ _ us hl => match us, hl with | [_], _ => rfl⟩
  have D__law_reckoned : Df K mg "_law_reckoned" sRk f83 d83 ["spool"] := ⟨F83, PySem.W.mg_of X G a83, F83.binds (ps := ["spool"]) fun _ _ _ _ _ _ us hl => match us, hl with | [_], _ => rfl⟩
  have D__law_heard : Df K mg "_law_heard" sHrd f84 d84 ["ask"] := ⟨F84, PySem.W.mg_of X G a84, F84.binds (ps := ["ask"]) fun _ _ _ _ _ _ us hl => match us, hl with | [_], _ => rfl⟩
  have D__law_told_right : Df K mg "_law_told_right" sTold f85 d85 ["writing", "most", "due"] := ⟨F85, PySem.W.mg_of X G a85, F85.binds (ps := ["writing", "most", "due"]) fun _ _ _ _ _ _ us hl => match us, hl with | [_, _, _], _ => rfl⟩
  have D__law_right : Df K mg "_law_right" sRi f86 d86 ["spool", "writing"] := ⟨F86, PySem.W.mg_of X G a86, F86.binds (ps := ["spool", "writing"]) fun _ _ _ _ _ _ us hl => match us, hl with | [_, _], _ => rfl⟩
  have B_plain : KBn K d66 ["writing", "most"] 0 ["most", "writing"] (fun us ws => us ++ ws.reverse) (fun vs zs => vs ++ zs.reverse) := fun_kb F66 (fun _ _ _ _ _ _ us ws h1 h2 => match us, h1, ws, h2 with | [], _, [_, _], _ => rfl) (fun a b => a.append b.reverse)
  have hb : ∀ (s : Shared) (v : Value), BindsTo s d87 ⟨[v], []⟩ [("script", v)] := by
    obtain ⟨oc, od, kV, doc, pm, an, cdv, ct, osl, rfl, lk, hcd⟩ := F87.ex
    exact fun s v => .of_eq rfl
  refine ⟨d87, [("_law_right", cd86, tb86)], fun e he => ?_, hb, fun H a ns hl hT hS => ?_, fun base _ _ hTB => ?_⟩
  · rw [List.mem_singleton.mp he]
    exact ⟨rq86, tab_by a86 F86 hc86 lc86 tv86, tn86⟩
  · exact ⟨a, ns, rfl, hS, hl, fun p hp => by rw [List.mem_singleton.mp hp]; exact LamX.TabS.nil (hT _ List.mem_cons_self), fun _ => rfl⟩
  have VC : Cn K mg := ⟨⟨_, PySem.W.mg_of X G vL⟩, ⟨_, PySem.W.mg_of X G vD⟩, ⟨_, PySem.W.mg_of X G vM⟩, ⟨_, PySem.W.mg_of X G vN, fun H => .inr ⟨_, _, _, loN, rfl, rfl, by show 2 ≤ sizeLine; decide, .cons ⟨_, rfl⟩ (.cons ⟨_, rfl⟩ .nil)⟩⟩⟩
  have VL : Lw mg := ⟨⟨_, PySem.W.mg_of X G vO⟩, ⟨_, PySem.W.mg_of X G vT⟩, ⟨_, PySem.W.mg_of X G vQ⟩⟩
  have VP : Pw K w mg := ⟨aP, PySem.W.mg_of X G vP, ⟨_, _, loP, klP, smP⟩, ⟨_, p1⟩, ⟨_, p2⟩, ⟨_, p3⟩, p0⟩
  have VY : LayC K mg CL f25 := ⟨⟨yg, yh, yo, ys⟩, yn0, yn1, yn2, yn3, yn4, PySem.W.mg_of X G vY, ⟨ym, a25, yf, yk⟩⟩
  have bLay := F25.binds (ps := ["self", "signs"]) fun _ _ _ _ _ _ us hl => match us, hl with | [_, _], _ => rfl
  have VM : Mst mg := ⟨⟨_, PySem.W.mg_of X G vMS⟩, ⟨_, PySem.W.mg_of X G vML⟩, ⟨_, PySem.W.mg_of X G vMT⟩⟩
  have VPm : Pm K w mg := ⟨aP, PySem.W.mg_of X G vP, _, _, loP, klP, smP, ksP⟩
  have bXI := F15.binds (ps := ["self", "what", "most"]) fun _ _ _ _ _ _ us hl => match us, hl with | [_, _, _], _ => rfl
  have VX : Er2 l.prog w K mg base "TooMany" CT f15 d15 "what" "most" := ⟨XT, xi, xt, ok_tmi F15, xw, xm, PySem.W.mg_of X G vCT, bXI⟩
  have VZ : PlnC K mg CP f61 := ⟨⟨zg, zh, zo, zs⟩, zn0, zn1, zn2, zn3, PySem.W.mg_of X G vCP, ⟨zm, zi, zf, zk⟩⟩
  have bPl := F61.binds (ps := ["self", "writing", "steps"]) fun _ _ _ _ _ _ us hl => match us, hl with | [_, _, _], _ => rfl
  have O_is_integer : FnOk l.prog w K mg base CX0 1 f5 d5 ["value"] (spIsInt K) := ok_isint F5 T 
  have O_is_within : FnOk l.prog w K mg base CX0 2 f6 d6 ["value", "least", "most"] (spWithin K) := ok_within F6 T D_is_integer O_is_integer
  have O_is_name : FnOk l.prog w K mg base CX0 3 f7 d7 ["value"] (spName K) := ok_name F7 T VC D_is_within O_is_within
  have O_bounds_in : FnOk l.prog w K mg base CX0 1 f18 d18 ["row"] spBounds := ok_bounds F18 T VP
  have O_ofs_around : FnOk l.prog w K mg base CX0 1 f26 d26 ["signs", "below"] spAround := ok_around F26 T VL
  have O_binder_of : FnOk l.prog w K mg base CX0 1 f27 d27 ["signs", "around", "at"] spBinder := ok_binder F27 T VL
  have O_signs_in : FnOk l.prog w K mg base CX0 4 f28 d28 ["value"] (spSigns K) := ok_signs_in F28 T VL D_is_name O_is_name
  have O_Layout : FnOk l.prog w K mg base CX0 2 f25 d25 ["self", "signs"] (spLayI CL) := ok_layI F25 T VY D_bounds_in O_bounds_in D_ofs_around O_ofs_around D_binder_of O_binder_of
  have O_laid_out : FnOk l.prog w K mg base CX0 5 f29 d29 ["value", "part"] (spLaid K CL) := ok_laid F29 T VY D_signs_in O_signs_in bLay O_Layout
  have O_free_signs : FnOk l.prog w K mg base CX0 1 f33 d33 ["layout"] (spFreeS CL) := ok_freeS F33 T VL VY
  have O_free_in : FnOk l.prog w K mg base CX0 2 f34 d34 ["layout"] (spFreeI CL) := ok_freeI F34 T VY D_free_signs O_free_signs
  have O_depths_in : FnOk l.prog w K mg base CX0 1 f39 d39 ["row"] spDepthsB := ok_depths F39 T VL
  have O_codes_of : FnOk l.prog w K mg base CX0 2 f40 d40 ["layout"] (spCodes CL) := ok_codes F40 T VL VY D_depths_in O_depths_in
  have O_built : FnOk l.prog w K mg base CX0 1 f30 d30 ["signs"] spBuilt := ok_built F30 T VL
  have O_built_part : FnOk l.prog w K mg base CX0 2 f31 d31 ["layout", "at"] (spPart CL) := ok_part F31 T VY D_built O_built
  have O_new_names : FnOk l.prog w K mg base CX0 1 f37 d37 ["count", "used"] (spNew l.prog w) := ok_new F37 T VC
  have O_names_for_catching : FnOk l.prog w K mg base CX0 3 f56 d56 ["layout", "gone", "inner"] (spCatch CL) := ok_catch F56 T VY D_free_in O_free_in D_new_names O_new_names
  have O_put : FnOk l.prog w K mg base CX0 6 f55 d55 ["writing", "name", "other"] (spPutF K) := ok_putF F55 T VL VY D_laid_out O_laid_out D_is_name O_is_name D_free_signs O_free_signs D_names_for_catching O_names_for_catching D_built_part O_built_part D_built O_built
  have O_places_in : FnOk l.prog w K mg base CX0 1 f35 d35 ["layout"] (spPlaces CL) := ok_places F35 T VY
  have O_is_step : FnOk l.prog w K mg base CX0 1 f62 d62 ["layout", "at"] (spIsStep CL) := ok_isStep F62 T VL VY
  have O_index_at : FnOk l.prog w K mg base CX0 3 f53 d53 ["layout", "place"] (spIdx K CL) := ok_idx F53 T VY D_is_within O_is_within
  have O_with_built : FnOk l.prog w K mg base CX0 2 f32 d32 ["layout", "at", "part"] (spWB CL) := ok_wb F32 T VL VY D_built O_built
  have O_steps_of : FnOk l.prog w K mg base CX0 6 f63 d63 ["writing"] (spSteps K) := ok_steps F63 T VY D_laid_out O_laid_out D_places_in O_places_in D_is_step O_is_step
  have O_is_plain : FnOk l.prog w K mg base CX0 7 f64 d64 ["writing"] (spPlain K) := ok_plain F64 T D_steps_of O_steps_of
  have O_step_at : FnOk l.prog w K mg base CX0 7 f65 d65 ["writing", "place"] (spStep K) := ok_step F65 T VY D_laid_out O_laid_out D_index_at O_index_at D_is_step O_is_step D_built_part O_built_part D_put O_put D_with_built O_with_built
  have O_part_end : FnOk l.prog w K mg base CX0 1 f19 d19 ["row", "start"] spPartEnd := ok_pe F19 T VPm
  have O_is_loose : FnOk l.prog w K mg base CX0 1 f45 d45 ["code", "depth"] spIsLoose := ok_loose F45 T 
  have O_moved : FnOk l.prog w K mg base CX0 1 f46 d46 ["codes", "loose", "by"] spMoved := ok_moved F46 T 
  have O_put_in : FnOk l.prog w K mg base CX0 2 f44 d44 ["body", "other"] spPutIn := ok_putIn F44 T D_depths_in O_depths_in D_is_loose O_is_loose D_moved O_moved
  have O_stepped : FnOk l.prog w K mg base CX0 3 f43 d43 ["codes", "at"] spStepped := ok_stepped F43 T D_part_end O_part_end D_put_in O_put_in
  have O_first_step : FnOk l.prog w K mg base CX0 1 f42 d42 ["codes", "start"] spFirst := ok_first F42 T VL
  have O_named : FnOk l.prog w K mg base CX0 2 f41 d41 ["codes"] spNamed := ok_named F41 T VL D_depths_in O_depths_in D_new_names O_new_names D_built O_built
  have O_layers_in : FnOk l.prog w K mg base CX0 1 f20 d20 ["row"] spLayers := ok_layers F20 T VPm
  have O_refuse_great : FnOk l.prog w K mg base (L2.CX l.prog w) 3 f67 d67 ["codes"] (spRefuse CT) := ok_rg F67 T VM VX D_layers_in O_layers_in
  have O_fixed := ok_fixed (P := l.prog) (w := w) (base := base) D_fixed T 203
  have O_Paper := ok_papI F50 T 203 D_fixed O_fixed
  have O_Plain : FnOk l.prog w K mg base CX0 205 f61 d61 ["self", "writing", "steps"] (spPlnI (K := K) 203) := ok_plnI F61 T 203 (PySem.W.mg_of X G vPa) ⟨⟨rd, rg⟩, ri⟩ F50.kp O_Paper
  have O_plain : FnOk l.prog w K mg base (L2.CX l.prog w) 207 f66 d66 ["writing", "most"] (spPl K CP CT) := ok_pl F66 T VL VM VY VZ VX D_laid_out O_laid_out D_is_within O_is_within D_codes_of O_codes_of D_refuse_great O_refuse_great D_first_step O_first_step D_stepped O_stepped D_named O_named D_built O_built bPl O_Plain
  have VH : HrdC K mg CT CP aB := ⟨PySem.W.mg_of X G vAg, heA, ⟨hg1, hg2, hg3, hg4, hg5, hg6, hg7, hg8⟩, hk0, hk1, hk2, hk3, hk4⟩
  have VP2 : PapC K mg CP CPa CD fB fE := ⟨PySem.W.mg_of X G vPa, PySem.W.mg_of X G vDen, kPa, kD, hs, hf, heq, hfe⟩
  have bB := FB.binds (ps := ["self"]) fun _ _ _ _ _ _ us hl => match us, hl with | [_], _ => rfl
  have bE := FE.binds (ps := ["self", "other"]) fun _ _ _ _ _ _ us hl => match us, hl with | [_, _], _ => rfl
  have O_same : FnOk l.prog w K mg base CX0 2 f49 d49 ["one", "other"] (spSameP CP) := ok_sameP F49 T VZ
  have O_eq : FnOk l.prog w K mg base CX0 3 fE dE ["self", "other"] (spEq (PlnTwo CP)) := ok_eqP FE T D_same_papers O_same
  have O_bool : FnOk l.prog w K mg base CX0 1 fB dB ["self"] spTrue := ok_boolP FB T
  have G_step_at : FnG l.prog w K mg base CX0 21 f65 d65 ["writing", "place"] (spStep K) := (fnG_of O_step_at).mono (by decide)
  have G_is_plain : FnG l.prog w K mg base CX0 21 f64 d64 ["writing"] (spPlain K) := (fnG_of O_is_plain).mono (by decide)
  have G_plain : FnG l.prog w K mg base (L2.CX l.prog w) 621 f66 d66 ["writing", "most"] (spPl K CP CT) := (fnG_of O_plain).mono (by decide)
  have O__law_spool : FnOk l.prog w K mg base CX0 1 f69 d69 ["script"] (spPen K) := ok_pen F69 T
  have O__law_reeve : FnOk l.prog w K mg base CX0 1 f70 d70 ["spool", "many"] spDraw := ok_draw F70 T
  have O__law_of : FnOk l.prog w K mg base CX0 2 f71 d71 ["spool", "some"] (spPick K) := ok_pick F71 T D__law_reeve O__law_reeve
  have G__law_writing : FnG l.prog w K mg base CX0 12 f72 d72 ["spool", "names", "layers"] (spWrit 5) := ok_writ F72 T D__law_writing D__law_reeve (fnG_of O__law_reeve) D__law_of (fnG_of O__law_of) 5
  have G__law_bare : FnG l.prog w K mg base CX0 401 f73 d73 ["writing", "around"] (spBare 400) := ok_bare F73 T D__law_bare 400
  have G__law_lifted : FnG l.prog w K mg base CX0 201 f74 d74 ["bare", "by", "inner"] (spLift 200) := ok_lift F74 T D__law_lifted 200
  have G__law_handed : FnG l.prog w K mg base CX0 402 f75 d75 ["body", "other", "inner"] (spHand 200) := ok_hand F75 T D__law_handed D__law_lifted G__law_lifted 200
  have G__law_is_ready : FnG l.prog w K mg base CX0 1 f76 d76 ["bare"] spReady := ok_ready F76 T
  have G__law_stepped : FnG l.prog w K mg base CX0 603 f78 d78 ["bare", "place"] (spOwnSt 200) := ok_ownSt F78 T D__law_stepped D__law_handed G__law_handed 200
  have G__law_first : FnG l.prog w K mg base CX0 202 f79 d79 ["bare"] (spFst 200) := ok_fst F79 T D__law_first D__law_is_ready G__law_is_ready 200
  have G__law_sizes : FnG l.prog w K mg base CX0 401 f80 d80 ["bare"] (spSizes 400) := ok_sizes F80 T D__law_sizes 400
  have G__law_due : FnG l.prog w K mg base CX0 604 f81 d81 ["bare", "most"] spDue := ok_due F81 T D__law_sizes G__law_sizes D__law_first G__law_first D__law_stepped G__law_stepped
  have G__law_times : FnG l.prog w K mg base CX0 1 f82 d82 ["number"] spTimes := ok_times F82 T
  have G__law_reckoned : FnG l.prog w K mg base CX0 7 f83 d83 ["spool"] spRk := ok_rk F83 T D__law_reeve (fnG_of O__law_reeve) D__law_of (fnG_of O__law_of) D__law_times G__law_times
  have G__law_told_right : FnG l.prog w K mg base CX0 622 f85 d85 ["writing", "most", "due"] spTold := ok_told F85 T VZ VH VP2 D_plain G_plain B_plain D__law_bare G__law_bare D_is_plain G_is_plain (fnG_of O_bool) bB O_eq bE
  have G__law_right : FnG l.prog w K mg base CX0 624 f86 d86 ["spool", "writing"] (spRi tb86) := ok_ri F86 hc86 (hTB _ List.mem_cons_self) T (PySem.W.mg_of X G vCT) xw xm VZ VH D__law_bare G__law_bare D__law_due G__law_due D__law_heard D_plain G_plain D__law_reeve (fnG_of O__law_reeve) D__law_told_right G__law_told_right D_step_at G_step_at D__law_first G__law_first
  exact ok_law F87 T D__law_spool (fnG_of O__law_spool) D__law_of (fnG_of O__law_of) D__law_writing G__law_writing D__law_right G__law_right D__law_reckoned G__law_reckoned
theorem walk {l : PySem.W.OpenLaw} {q : Program} {loose : List Str} {XP : (Str → Option Value) → Heap → Prop} {YP : World → Heap → Prop} {d : DefRec} {K : Params → PySem.W.Frag} (hn : l.most = some 63) (hdf : d.params.defaults = [])
    (hY : ∀ (w : World) (h : Heap), YP w h → (K w.params).In h)
    (F : ∀ (w : World) (mg : Str → Option Value) (fa : Addr) (h : Heap), (K w.params).In h → h.Ns mainGlobals mg → mg d.name = some (.ref fa) →
      ∃ (fd : FuncData) (qs : List (Str × Addr × Addr)), (∀ e ∈ qs, ((recsOf q).find? (fun r => r.name == e.1)).isSome = true ∧ PySem.W.tabIn (K w.params) e.1 = some e.2 ∧ (K w.params).lookup e.2.2 = none) ∧ (∀ (s : Shared) (v : Value), BindsTo s fd ⟨[v], []⟩ [("script", v)]) ∧ (∀ (H : Hp) (a : Addr) (ns : List Int), ns.length ≤ 63 → (∀ e ∈ qs, H e.2.2 = some (.tbl #[])) → SqL (K w.params) H a (ns.map V.int) → spL (K w.params) (qs.map (·.2)) [.ref a] H (fun v _ => v = .bl true) fun _ _ _ => False) ∧ ∀ base : Heap, (K w.params).In base → base.Ns mainGlobals mg → (∀ e ∈ qs, LamX.TabB base mg e.2.1 e.2.2) → FnG l.prog w (K w.params) mg base CX0 625 fa fd ["script"] (spL (K w.params) (qs.map (·.2)))) :
    PySem.W.WalkO q loose XP YP l.row.toRowW d [] (fun f vs => PySem.call f vs) :=
  TG.walk_ofGT (n := 63) (k := 625) (x := "script") (sp := fun w cs => spL (K w.params) cs) hn (by decide) hdf ⟨rfl, by decide, by decide, rfl⟩ hY F
end TF18
open PySem PySem.W PyProof.Rows
set_option maxRecDepth 100000 in
set_option maxHeartbeats 0 in
theorem PySem.Challenge.cw_timesagain_k18_whole_plain_by_the_first_holds : PySem.Challenge.rw_timesagain_k18_whole_plain_by_the_first.Holds := by
  w_on; o_law; k_head; (case hw => w_witness2)
  k_fill
  refine TF18.walk (l := PySem.Challenge.rw_timesagain_k18_whole_plain_by_the_first) rfl rfl (fun w h Y => PySem.W.km_in_of Y) ?F
  case F =>
    intro w mg fa h KX G hmg
    refine' TF18.all_mk KX G hmg
      ?b_ValueError ?b_abs ?b_all ?b_bool ?b_enumerate ?b_int ?b_isinstance ?b_len ?b_list ?b_max ?b_range ?b_reversed ?b_str ?b_tuple ?b_type ?b_zip ?vL ?vD ?vM ?vN ?loN ?vO ?vT
      ?vQ ?vP ?loP ?klP ?smP ?p1 ?p2 ?p3 ?p0 ?vY ?yg ?yh ?yo ?ys ?ym ?yk ?yn0 ?yn1 ?yn2 ?yn3 ?yn4 ?vMS ?vML ?vMT ?vCT ?vPa ?vCP (TF18.oexc_mk ?xL ?xB ?xS ?xE ?xY ?xK) ?xi ?xt
      (L2.fun_mk ?l15 ?c15 ?k15) ?xw ?xm ?rd ?rg ?ri (L2.fun_mk ?l50 ?c50 ?k50) ?zg ?zh ?zo ?zs ?zm ?zk ?zn0 ?zn1 ?zn2 ?zn3 ?zi ?zf (L2.fun_mk ?l61 ?c61 ?k61) ?ksP ?a5
      (L2.fun_mk ?l5 ?c5 ?k5) ?a6 (L2.fun_mk ?l6 ?c6 ?k6) ?a7 (L2.fun_mk ?l7 ?c7 ?k7) ?a18 (L2.fun_mk ?l18 ?c18 ?k18) ?a26 (L2.fun_mk ?l26 ?c26 ?k26) ?a27 (L2.fun_mk ?l27 ?c27 ?k27)
      ?a28 (L2.fun_mk ?l28 ?c28 ?k28) ?a25 ?yf (L2.fun_mk ?l25 ?c25 ?k25) ?a29 (L2.fun_mk ?l29 ?c29 ?k29) ?a33 (L2.fun_mk ?l33 ?c33 ?k33) ?a34 (L2.fun_mk ?l34 ?c34 ?k34) ?a39
      (L2.fun_mk ?l39 ?c39 ?k39) ?a40 (L2.fun_mk ?l40 ?c40 ?k40) ?a30 (L2.fun_mk ?l30 ?c30 ?k30) ?a31 (L2.fun_mk ?l31 ?c31 ?k31) ?a37 (L2.fun_mk ?l37 ?c37 ?k37) ?a56
      (L2.fun_mk ?l56 ?c56 ?k56) ?a55 (L2.fun_mk ?l55 ?c55 ?k55) ?a35 (L2.fun_mk ?l35 ?c35 ?k35) ?a62 (L2.fun_mk ?l62 ?c62 ?k62) ?a53 (L2.fun_mk ?l53 ?c53 ?k53) ?a32
      (L2.fun_mk ?l32 ?c32 ?k32) ?a63 (L2.fun_mk ?l63 ?c63 ?k63) ?a64 (L2.fun_mk ?l64 ?c64 ?k64) ?a65 (L2.fun_mk ?l65 ?c65 ?k65) ?a19 (L2.fun_mk ?l19 ?c19 ?k19) ?a45
      (L2.fun_mk ?l45 ?c45 ?k45) ?a46 (L2.fun_mk ?l46 ?c46 ?k46) ?a44 (L2.fun_mk ?l44 ?c44 ?k44) ?a43 (L2.fun_mk ?l43 ?c43 ?k43) ?a42 (L2.fun_mk ?l42 ?c42 ?k42) ?a41
      (L2.fun_mk ?l41 ?c41 ?k41) ?a20 (L2.fun_mk ?l20 ?c20 ?k20) ?a67 (L2.fun_mk ?l67 ?c67 ?k67) ?a48 (L2.fun_mk ?l48 ?c48 ?k48) ?a66 (L2.fun_mk ?l66 ?c66 ?k66) ?vAg ?heA ?hg1 ?hg2
      ?hg3 ?hg4 ?hg5 ?hg6 ?hg7 ?hg8 ?hk3 ?hk4 ?hk0 ?hk1 ?hk2 ?vDen ?kPa ?kD ?hs ?hf (L2.fun_mk ?lB ?cB ?kB) ?heq ?hfe (L2.fun_mk ?lE ?cE ?kE) ?a49 (L2.fun_mk ?l49 ?c49 ?k49) ?a69
      (L2.fun_mk ?l69 ?c69 ?k69) ?a70 (L2.fun_mk ?l70 ?c70 ?k70) ?a71 (L2.fun_mk ?l71 ?c71 ?k71) ?a72 (L2.fun_mk ?l72 ?c72 ?k72) ?a73 (L2.fun_mk ?l73 ?c73 ?k73) ?a74
      (L2.fun_mk ?l74 ?c74 ?k74) ?a75 (L2.fun_mk ?l75 ?c75 ?k75) ?a76 (L2.fun_mk ?l76 ?c76 ?k76) ?a78 (L2.fun_mk ?l78 ?c78 ?k78) ?a79 (L2.fun_mk ?l79 ?c79 ?k79) ?a80
      (L2.fun_mk ?l80 ?c80 ?k80) ?a81 (L2.fun_mk ?l81 ?c81 ?k81) ?a82 (L2.fun_mk ?l82 ?c82 ?k82) ?a83 (L2.fun_mk ?l83 ?c83 ?k83) ?a84 (L2.fun_mk ?l84 ?c84 ?k84) ?a85
      (L2.fun_mk ?l85 ?c85 ?k85) ?a86 (L2.fun_mk ?l86 ?c86 ?k86) ?a87 (L2.fun_mk ?l87 ?c87 ?k87) ?hc86 ?lc86 ?tv86 ?tn86 ?rq86
    (case b_ValueError => k_is)
    (case b_abs => k_is)
    (case b_all => k_is)
    (case b_bool => k_is)
    (case b_enumerate => k_is)
    (case b_int => k_is)
    (case b_isinstance => k_is)
    (case b_len => k_is)
    (case b_list => k_is)
    (case b_max => k_is)
    (case b_range => k_is)
    (case b_reversed => k_is)
    (case b_str => k_is)
    (case b_tuple => k_is)
    (case b_type => k_is)
    (case b_zip => k_is)
    (case vL => k_is)
    (case vD => k_is)
    (case vM => k_is)
    (case vN => k_is)
    (case loN => k_is)
    (case vO => k_is)
    (case vT => k_is)
    (case vQ => k_is)
    (case vP => k_is)
    (case loP => k_is)
    (case klP => k_keys)
    (case smP => first | rfl | decide | decide +kernel)
    (case p1 => k_is)
    (case p2 => k_is)
    (case p3 => k_is)
    (case p0 => k_is)
    (case vY => k_is)
    (case yg => k_is)
    (case yh => k_is)
    (case yo => k_is)
    (case ys => k_is)
    (case ym => k_is)
    (case yk => k_is)
    (case yn0 => k_is)
    (case yn1 => k_is)
    (case yn2 => k_is)
    (case yn3 => k_is)
    (case yn4 => k_is)
    (case vMS => k_is)
    (case vML => k_is)
    (case vMT => k_is)
    (case vCT => k_is)
    (case vPa => k_is)
    (case vCP => k_is)
    (case xL => k_is)
    (case xB => kernel_rfl)
    (case xS => k_is)
    (case xE => k_is)
    (case xY => k_is)
    (case xK => k_is)
    (case xi => k_is)
    (case xt => k_is)
    (case l15 => k_is)
    (case c15 => k_is)
    (case k15 => k_is)
    (case xw => k_is)
    (case xm => k_is)
    (case rd => k_is)
    (case rg => k_is)
    (case ri => k_is)
    (case l50 => k_is)
    (case c50 => k_is)
    (case k50 => k_is)
    (case zg => k_is)
    (case zh => k_is)
    (case zo => k_is)
    (case zs => k_is)
    (case zm => k_is)
    (case zk => k_is)
    (case zn0 => k_is)
    (case zn1 => k_is)
    (case zn2 => k_is)
    (case zn3 => k_is)
    (case zi => k_is)
    (case zf => k_is)
    (case l61 => k_is)
    (case c61 => k_is)
    (case k61 => k_is)
    (case ksP => first | rfl | kernel_rfl)
    (case a5 => k_is)
    (case l5 => k_is)
    (case c5 => k_is)
    (case k5 => k_is)
    (case a6 => k_is)
    (case l6 => k_is)
    (case c6 => k_is)
    (case k6 => k_is)
    (case a7 => k_is)
    (case l7 => k_is)
    (case c7 => k_is)
    (case k7 => k_is)
    (case a18 => k_is)
    (case l18 => k_is)
    (case c18 => k_is)
    (case k18 => k_is)
    (case a26 => k_is)
    (case l26 => k_is)
    (case c26 => k_is)
    (case k26 => k_is)
    (case a27 => k_is)
    (case l27 => k_is)
    (case c27 => k_is)
    (case k27 => k_is)
    (case a28 => k_is)
    (case l28 => k_is)
    (case c28 => k_is)
    (case k28 => k_is)
    (case a25 => k_is)
    (case yf => k_is)
    (case l25 => k_is)
    (case c25 => k_is)
    (case k25 => k_is)
    (case a29 => k_is)
    (case l29 => k_is)
    (case c29 => k_is)
    (case k29 => k_is)
    (case a33 => k_is)
    (case l33 => k_is)
    (case c33 => k_is)
    (case k33 => k_is)
    (case a34 => k_is)
    (case l34 => k_is)
    (case c34 => k_is)
    (case k34 => k_is)
    (case a39 => k_is)
    (case l39 => k_is)
    (case c39 => k_is)
    (case k39 => k_is)
    (case a40 => k_is)
    (case l40 => k_is)
    (case c40 => k_is)
    (case k40 => k_is)
    (case a30 => k_is)
    (case l30 => k_is)
    (case c30 => k_is)
    (case k30 => k_is)
    (case a31 => k_is)
    (case l31 => k_is)
    (case c31 => k_is)
    (case k31 => k_is)
    (case a37 => k_is)
    (case l37 => k_is)
    (case c37 => k_is)
    (case k37 => k_is)
    (case a56 => k_is)
    (case l56 => k_is)
    (case c56 => k_is)
    (case k56 => k_is)
    (case a55 => k_is)
    (case l55 => k_is)
    (case c55 => k_is)
    (case k55 => k_is)
    (case a35 => k_is)
    (case l35 => k_is)
    (case c35 => k_is)
    (case k35 => k_is)
    (case a62 => k_is)
    (case l62 => k_is)
    (case c62 => k_is)
    (case k62 => k_is)
    (case a53 => k_is)
    (case l53 => k_is)
    (case c53 => k_is)
    (case k53 => k_is)
    (case a32 => k_is)
    (case l32 => k_is)
    (case c32 => k_is)
    (case k32 => k_is)
    (case a63 => k_is)
    (case l63 => k_is)
    (case c63 => k_is)
    (case k63 => k_is)
    (case a64 => k_is)
    (case l64 => k_is)
    (case c64 => k_is)
    (case k64 => k_is)
    (case a65 => k_is)
    (case l65 => k_is)
    (case c65 => k_is)
    (case k65 => k_is)
    (case a19 => k_is)
    (case l19 => k_is)
    (case c19 => k_is)
    (case k19 => k_is)
    (case a45 => k_is)
    (case l45 => k_is)
    (case c45 => k_is)
    (case k45 => k_is)
    (case a46 => k_is)
    (case l46 => k_is)
    (case c46 => k_is)
    (case k46 => k_is)
    (case a44 => k_is)
    (case l44 => k_is)
    (case c44 => k_is)
    (case k44 => k_is)
    (case a43 => k_is)
    (case l43 => k_is)
    (case c43 => k_is)
    (case k43 => k_is)
    (case a42 => k_is)
    (case l42 => k_is)
    (case c42 => k_is)
    (case k42 => k_is)
    (case a41 => k_is)
    (case l41 => k_is)
    (case c41 => k_is)
    (case k41 => k_is)
    (case a20 => k_is)
    (case l20 => k_is)
    (case c20 => k_is)
    (case k20 => k_is)
    (case a67 => k_is)
    (case l67 => k_is)
    (case c67 => k_is)
    (case k67 => k_is)
    (case a48 => k_is)
    (case l48 => k_is)
    (case c48 => k_is)
    (case k48 => k_is)
    (case a66 => k_is)
    (case l66 => k_is)
    (case c66 => k_is)
    (case k66 => k_is)
    (case vAg => k_is)
    (case heA => first | k_is | kernel_rfl)
    (case hg1 => k_is)
    (case hg2 => k_is)
    (case hg3 => k_is)
    (case hg4 => k_is)
    (case hg5 => k_is)
    (case hg6 => k_is)
    (case hg7 => k_is)
    (case hg8 => k_is)
    (case hk3 => k_is)
    (case hk4 => k_is)
    (case hk0 => first | k_is | kernel_rfl)
    (case hk1 => first | k_is | kernel_rfl)
    (case hk2 => first | k_is | kernel_rfl)
    (case vDen => k_is)
    (case kPa => first | k_is | kernel_rfl)
    (case kD => first | k_is | kernel_rfl)
    (case hs => k_is)
    (case hf => k_is)
    (case lB => k_is)
    (case cB => k_is)
    (case kB => k_is)
    (case heq => k_is)
    (case hfe => k_is)
    (case lE => k_is)
    (case cE => k_is)
    (case kE => k_is)
    (case a49 => k_is)
    (case l49 => k_is)
    (case c49 => k_is)
    (case k49 => k_is)
    (case a69 => k_is)
    (case l69 => k_is)
    (case c69 => k_is)
    (case k69 => k_is)
    (case a70 => k_is)
    (case l70 => k_is)
    (case c70 => k_is)
    (case k70 => k_is)
    (case a71 => k_is)
    (case l71 => k_is)
    (case c71 => k_is)
    (case k71 => k_is)
    (case a72 => k_is)
    (case l72 => k_is)
    (case c72 => k_is)
    (case k72 => k_is)
    (case a73 => k_is)
    (case l73 => k_is)
    (case c73 => k_is)
    (case k73 => k_is)
    (case a74 => k_is)
    (case l74 => k_is)
    (case c74 => k_is)
    (case k74 => k_is)
    (case a75 => k_is)
    (case l75 => k_is)
    (case c75 => k_is)
    (case k75 => k_is)
    (case a76 => k_is)
    (case l76 => k_is)
    (case c76 => k_is)
    (case k76 => k_is)
    (case a78 => k_is)
    (case l78 => k_is)
    (case c78 => k_is)
    (case k78 => k_is)
    (case a79 => k_is)
    (case l79 => k_is)
    (case c79 => k_is)
    (case k79 => k_is)
    (case a80 => k_is)
    (case l80 => k_is)
    (case c80 => k_is)
    (case k80 => k_is)
    (case a81 => k_is)
    (case l81 => k_is)
    (case c81 => k_is)
    (case k81 => k_is)
    (case a82 => k_is)
    (case l82 => k_is)
    (case c82 => k_is)
    (case k82 => k_is)
    (case a83 => k_is)
    (case l83 => k_is)
    (case c83 => k_is)
    (case k83 => k_is)
    (case a84 => k_is)
    (case l84 => k_is)
    (case c84 => k_is)
    (case k84 => k_is)
    (case a85 => k_is)
    (case l85 => k_is)
    (case c85 => k_is)
    (case k85 => k_is)
    (case a86 => k_is)
    (case l86 => k_is)
    (case c86 => k_is)
    (case k86 => k_is)
    (case a87 => k_is)
    (case l87 => k_is)
    (case c87 => k_is)
    (case k87 => k_is)
    (case hc86 => rfl)
    (case lc86 => k_is)
    (case tv86 => rfl)
    (case tn86 => first | k_is | rfl | kernel_rfl)
    (case rq86 => first | rfl | decide +kernel | kernel_rfl)
