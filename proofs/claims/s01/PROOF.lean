import PyProof.Rows.All
import Wide.All
import OpenK.AllK
import Wide.FinOn
import Open.SpecLaws
import KE.OsGo
import HandS.ForSpec
import HandS.ForMost
import HandS.CallLocal
import HandS.Wide
import HandS.Steps
import HandS.More
import PySem.Challenge.RW_roomtwice_s01_answers
set_option Elab.async false
set_option maxRecDepth 100000
set_option maxHeartbeats 4000000
namespace Rt
open PySem PySem.Spec PyProof.Rows L2

/-! ### the text by places -/
def top (i : Nat) : Stmt := PySem.Challenge.pw_roomtwice_s01_answers.main.body.getD i (.Pass ⟨0, 0, 0, 0⟩)

/-! ### a def with its promise, its address hidden -/
section
variable (P : Program) (w : World) (K : PySem.W.Frag) (mg : Str → Option Value) (base : Heap)
/-- a def of the module with its promise -/
def Pr (k : Nat) (x : Str) (ps : List Str) (sp : Sp) : Prop :=
  ∃ (f : Addr) (fd : FuncData), mg x = some (.ref f) ∧ PySem.W.keepIn K (.ref f) = true ∧ Binds K fd ps [] ∧ FnOk P w K mg base CX0 k f fd ps sp
/-- a method of the class at C with its promise -/
def PrM (C : Addr) (k : Nat) (m : Str) (ps : List Str) (sp : Sp) : Prop :=
  ∃ (f : Addr) (fd : FuncData), Meth K C m f ∧ Binds K fd ps [] ∧ FnOk P w K mg base CX0 k f fd ps sp
/-- __init__ of the class at C with its promise -/
def PrI (C : Addr) (k : Nat) (ps : List Str) (sp : Sp) : Prop :=
  ∃ (f : Addr) (fd : FuncData), Mk K C f ∧ Binds K fd ps [] ∧ FnOk P w K mg base CX0 k f fd ps sp
end
/-- a def of the module as the top left it -/
structure Gd (K : PySem.W.Frag) (mg : Str → Option Value) (x : Str) (st : Stmt) : Prop where
  ex : ∃ (f : Addr) (fd : FuncData), mg x = some (.ref f) ∧ Fun K x x st f fd
structure GdM (K : PySem.W.Frag) (C : Addr) (m q : Str) (st : Stmt) : Prop where
  ex : ∃ (f : Addr) (fd : FuncData), Meth K C m f ∧ Fun K m q st f fd
structure GdI (K : PySem.W.Frag) (C : Addr) (q : Str) (st : Stmt) : Prop where
  ex : ∃ (f : Addr) (fd : FuncData), Mk K C f ∧ Fun K "__init__" q st f fd

section
variable {X : Cx} {k : Nat} {C : Addr} {ps : List Str} {sp : Sp} {x m : Str} {p pos apos : Pos} {e o : Expr} {es : List Expr} {ta : TE} {t : TA}
theorem pe_callD (D : Pr X.prog X.w X.K X.mg X.base k x ps sp) (hr : Room k X.A) (ha : PA X (e :: es) t) (hg : Gl X x := by rfl)
    (hdb : (x == ("__debug__" : Str)) = false := by decide) (he : starEach (e :: es) X.env = (false, eval e X.env) :: starEach es X.env := by rfl) (hpl : (backTo pos (starEach es X.env)).any (·.1) = false := by rfl) :
    PE X (.Call (.Name x p) (e :: es) [] pos) (tCall sp [] E0 t) := by
  obtain ⟨f, fd, h1, h2, h3, h4⟩ := D
  exact pe_call h4 hr hg h1 h2 h3 .nil pass0 ha hdb he hpl
theorem pe_methD {pl : Sem Bool} (he : PE X o ta) (c : Cls X.K C) (D : PrM X.prog X.w X.K X.mg X.base C k m ps sp) (hr : Room k X.A) (ha : PA X (e :: es) t)
    (hst : starEach (e :: es) X.env = (false, eval e X.env) :: starEach es X.env := by rfl) (hpl : (backTo pos (starEach es X.env)).any (·.1) = false := by rfl)
    (ht : eval (.Call (.Attribute o m apos) (e :: es) [] pos) X.env = (do
      let ov ← eval o X.env
      standAt apos.atName
      let (f, first) ← holding [ov] (getMethod ov m pl)
      callWith pos f first (backTo pos (starEach (e :: es) X.env)) (backToKw pos (keywordEach [] X.env))) := by rfl) :
    PE X (.Call (.Attribute o m apos) (e :: es) [] pos) (tMeth C m sp [] E0 ta t) := by
  obtain ⟨f, fd, h1, h3, h4⟩ := D
  exact pe_meth he c h1 h4 hr h3 .nil pass0 ha hst hpl ht
theorem pe_methD0 {pl : Sem Bool} (he : PE X o ta) (c : Cls X.K C) (D : PrM X.prog X.w X.K X.mg X.base C k m ps sp) (hr : Room k X.A)
    (ht : eval (.Call (.Attribute o m apos) [] [] pos) X.env = (do
      let ov ← eval o X.env
      standAt apos.atName
      let (f, first) ← holding [ov] (getMethod ov m pl)
      callWith pos f first (backTo pos (starEach [] X.env)) (backToKw pos (keywordEach [] X.env))) := by rfl) :
    PE X (.Call (.Attribute o m apos) [] [] pos) (tMeth C m sp [] E0 ta tNil) := by
  obtain ⟨f, fd, h1, h3, h4⟩ := D
  exact pe_meth0 he c h1 h4 hr h3 .nil pass0 ht
theorem pe_makeD (D : PrI X.prog X.w X.K X.mg X.base C k ps sp) (hr : Room (k + 1) X.A) (hm : X.mg x = some (.ref C)) (hg : Gl X x := by rfl)
    (hdb : (x == ("__debug__" : Str)) = false := by decide) : PE X (.Call (.Name x p) [] [] pos) (tMake C sp [] E0 tNil) := by
  obtain ⟨f, fd, h1, h3, h4⟩ := D
  exact pe_make0 h1 h4 hr hg hm h3 .nil pass0 hdb
/-- an index into a list or a tuple -/
def rIxB (K : PySem.W.Frag) : R2 := fun x y H Q => rIxL K x y H Q ∨ rIxT K x y H Q
theorem ix_both : IxR X (rIxB X.K) := by
  intro value slice pins s σ H x y v u Q I rx ry h hs
  rcases h with h | h
  · exact ix_list value slice pins s σ H x y v u Q I rx ry h hs
  · exact ix_tup value slice pins s σ H x y v u Q I rx ry h hs
/-- a list grown by a tuple's items, whatever else the tuple's object has -/
theorem grow_tup (l : Addr) (xs : Array Value) (n : Nat) (b : Addr) (ys : Array Value) (k : Nat) (od : Option Addr) (osl : Array (Option Value)) (h0 : ¬(!xs.isEmpty && Builtin.List.listTooLong (xs.size + ys.size)) = true) (h1 : xs.size ≤ sizeLine) (h2 : xs.size + ys.size ≤ sizeLine + 1) :
    Meets (Builtin.«list.extend» ⟨[.ref l, .ref b], []⟩) (fun _ R s => s.heap.get? l = some ⟨.type "list", none, .seq xs n, #[]⟩ ∧ s.heap.get? b = some ⟨.type "tuple", od, .seq ys k, osl⟩ ∧ R (.ok (.ret Value.none)) { s with heap := s.heap.update l (Obj.mapSeq fun z => z ++ ys), toks := s.toks }) :=
  .of_wp fun prog w A R s h => by
    obtain ⟨hp, gs, dr, tk, os⟩ := s
    obtain ⟨hl, hb, h⟩ := h
    have q1 := AutoSeq1.idx_int
    have q2 := AutoSeq1.sub_tuple_tuple
    have q3 := AutoSeq1.sub_list_list
    have q4 := AutoSeq1.sub_tuple_list
    have q5 := AutoSeq1.sub_list_tuple
    have hz : (xs ++ ys).size ≤ sizeLine + 1 := by
      rw [Array.size_append]
      exact h2
    wp_walk using (wpAny_updateSeq hl rfl (hz := h1) (_hz' := hz)), AutoSeq1.wpAny_loadPart' hl, AutoSeq1.wpAny_loadPart' hb
    exact ⟨_, rfl, h⟩
def rExtendT : V → List V → Hp → VK → Prop := fun x vs H Q => ∃ l b xs zs, x = .ref l ∧ vs = [.ref b] ∧ H l = some (.lst xs) ∧ H b = some (.tup zs) ∧ xs.length + zs.length ≤ sizeLine ∧ Q .non (upd H l (.lst (xs ++ zs)))
theorem mt_extendT : MtM X "list.extend" rExtendT := by
  intro pins s σ H x vs v us Q I rx rv h
  obtain ⟨l, b, xs, zs, rfl, rfl, hH, hB, hz, q⟩ := h
  cases rx
  obtain ⟨u, rfl, ru⟩ := rv.one
  cases ru
  obtain ⟨_, its, n, r, hl, e⟩ := I.lstM hH
  obtain ⟨ys, r2, ⟨⟨oc, od, odt, osl⟩, e2, hc, k, hd⟩, _⟩ := I.tuple (SqT.of hB)
  have hl2 := r2.length
  dsimp only at hc hd
  subst hc hd
  have hsz : its.toArray.size + ys.toArray.size ≤ sizeLine := by
    simp only [List.size_toArray]
    omega
  have hlong : ¬ (!its.toArray.isEmpty && Builtin.List.listTooLong (its.toArray.size + ys.toArray.size)) = true := by
    rw [notLongL hsz, Bool.and_false]
    decide
  refine call_meets F.slot_list_extend ⟨_, e, rfl⟩ F.entry_list_extend (F.args_list_extend_2 _ _)
    (grow_tup l its.toArray n b ys.toArray k od osl hlong (by omega) (by omega)) ⟨e, e2, ?_⟩
  exact ⟨.non, _, I.lset (its' := its ++ ys) hH e (by simp) (r.append r2) (by rw [List.length_append]; exact hz), rfl, q⟩
/-- // by any divisor but 0, below 2 ^ 9000 -/
def CDivA (_ j : Int) : Prop := j ≠ 0 ∧ j.natAbs.log2 < 9000
theorem op_fdivA : OpR X (binaryOp .FloorDiv) (rI CDivA fun i j => .int (i.fdiv j)) := opI fun i j _ _ _ _ _ hc q =>
  floordiv_int hc.1 q (.inl (PyProof.noPylong_of_log2 hc.2))
end

/-! ### great numbers -/
def Sm (x : Int) : Prop := x.natAbs < 2 ^ 4000
theorem Sm.mul {i j : Int} (a : Sm i) (b : Sm j) : CMulW i j := wide_mul a b (by decide) (by decide) (by decide)
theorem Sm.div {i j : Int} (h : j ≠ 0) (b : Sm j) : CDivA i j := ⟨h, Nat.lt_of_lt_of_le (PySem.Flt.log2_lt_of (by decide) b) (by decide)⟩

/-! ### readings that leave the heap as it is -/
section
variable {K : PySem.W.Frag} {σ : L2.St} {H : Hp} {ta tb tc te : TE} {i j : Int} {n : Nat} {a : Addr} {xs : List V} {v : V}
theorem v_ixT (ha : Val ta σ H (.ref a)) (hb : Val tb σ H (.int i)) (h : H a = some (.tup xs)) (hv : atI xs i = some v) : Val (tOp (rIxT K) ta tb) σ H v :=
  val_op ha hb fun _ q => ⟨a, xs, i, v, rfl, rfl, SqT.of h, hv, q⟩
theorem v_ixL (ha : Val ta σ H (.ref a)) (hb : Val tb σ H (.int i)) (h : SqL K H a xs) (hv : atI xs i = some v) : Val (tOp (rIxL K) ta tb) σ H v :=
  val_op ha hb fun _ q => ⟨a, xs, i, v, rfl, rfl, h, hv, q⟩
theorem v_ixB (ha : Val ta σ H (.ref a)) (hb : Val tb σ H (.int i)) (h : H a = some (.tup xs) ∨ H a = some (.lst xs)) (hv : atI xs i = some v) : Val (tOp (rIxB K) ta tb) σ H v :=
  val_op ha hb fun _ q => by
    rcases h with h | h
    · exact .inr ⟨a, xs, i, v, rfl, rfl, SqT.of h, hv, q⟩
    · exact .inl ⟨a, xs, i, v, rfl, rfl, SqL.of h, hv, q⟩
theorem v_mul (ha : Val ta σ H (.int i)) (hb : Val tb σ H (.int j)) (h1 : Sm i) (h2 : Sm j) : Val (tOp (rI CMulW fun i j => .int (i * j)) ta tb) σ H (.int (i * j)) :=
  val_op ha hb fun _ q => ⟨i, j, rfl, rfl, h1.mul h2, q⟩
theorem v_add (ha : Val ta σ H (.int i)) (hb : Val tb σ H (.int j)) : Val (tOp (rI0 fun i j => .int (i + j)) ta tb) σ H (.int (i + j)) :=
  val_op ha hb fun _ q => ⟨i, j, rfl, rfl, q⟩
theorem v_sub (ha : Val ta σ H (.int i)) (hb : Val tb σ H (.int j)) : Val (tOp (rI0 fun i j => .int (i - j)) ta tb) σ H (.int (i - j)) :=
  val_op ha hb fun _ q => ⟨i, j, rfl, rfl, q⟩
theorem int_eq (a b : Int) : decide (V.int a = V.int b) = decide (a = b) := by
  by_cases h : a = b
  · subst h; simp
  · rw [decide_eq_false h, decide_eq_false (fun e => h (V.int.inj e))]
theorem v_eq (ha : Val ta σ H (.int i)) (hb : Val tb σ H (.int j)) : Val (tOp rEq ta tb) σ H (.bl (decide (i = j))) :=
  val_op ha hb fun _ q => ⟨rfl, by rw [int_eq]; exact q⟩
theorem v_ne (ha : Val ta σ H (.int i)) (hb : Val tb σ H (.int j)) : Val (tOp rNe ta tb) σ H (.bl (!decide (i = j))) :=
  val_op ha hb fun _ q => ⟨rfl, by rw [int_eq]; exact q⟩
theorem v_cmp {g : Int → Int → V} (ha : Val ta σ H (.int i)) (hb : Val tb σ H (.int j)) : Val (tOp (rI0 g) ta tb) σ H (g i j) :=
  val_op ha hb fun _ q => ⟨i, j, rfl, rfl, q⟩
theorem v_and {b c : Bool} (ha : Val ta σ H (.bl b)) (hb : Val tb σ H (.bl c)) : Val (tAndV ta tb) σ H (.bl (b && c)) := fun Q q => by
  refine ha _ ⟨b, rfl, ?_⟩
  cases b with
  | true => exact iteT (hb _ q)
  | false => exact iteF q
theorem v_or {b c : Bool} (ha : Val ta σ H (.bl b)) (hb : Val tb σ H (.bl c)) : Val (tOrV ta tb) σ H (.bl (b || c)) := fun Q q => by
  refine ha _ ⟨b, rfl, ?_⟩
  cases b with
  | true => exact iteT q
  | false => exact iteF (hb _ q)
/-- a new tuple of three -/
theorem v_tup3 {x y z : V} {Q : VK} (ha : Val ta σ H x) (hb : Val tb σ H y) (hc : Val tc σ H z) (h : ∀ p, H p = none → Q (.ref p) (upd H p (.tup [x, y, z]))) :
    tTup (tCons ta (tCons tb (tCons tc tNil))) σ H Q :=
  ha _ (hb _ (hc _ ⟨by show 3 ≤ sizeLine; decide, h⟩))
end
theorem Same.new {H : Hp} {p : Addr} {o : HO} (h : H p = none) : Same H (upd H p o) := fun b u e => by
  rw [upd_ne (ne_of_none e h)]
  exact e
end Rt

set_option Elab.async false
set_option maxRecDepth 100000
set_option maxHeartbeats 4000000
set_option linter.unusedVariables false
namespace Rt
open PySem PySem.Spec PyProof.Rows L2

theorem take_snoc {α : Type} {l : List α} {i : Nat} {x : α} (h : l[i]? = some x) : l.take (i + 1) = l.take i ++ [x] := by
  rw [List.take_add_one, h]; rfl
theorem Same.mut {H H' : Hp} {p : Addr} {o : HO} (e : Same H H') (h : H p = none) : Same H (upd H' p o) := fun a u ha => by
  rw [upd_ne (ne_of_none ha h)]
  exact e a u ha
theorem range_snoc {α : Type} (f : Nat → α) (i : Nat) : (List.range (i + 1)).map f = (List.range i).map f ++ [f i] := by
  rw [List.range_succ, List.map_append]; rfl

section
variable {te : TE} {k : Nat} {σ : L2.St} {H1 : Hp} {D : Addr} {Qd : Hp → Prop}
/-- [e for k in range(n)], e a value that leaves the heap as it is -/
theorem lc_rangeV {n : Nat} (hD : H1 D = none) (f : Nat → V) (hn : n ≤ 1000) (hw : ∀ v, wipe ((wipe σ [k]).set k v) [k] = wipe σ [k])
    (hv : ∀ i H', i < n → Same H1 H' → Val te ((wipe σ [k]).set k (some (.int (0 + i)))) H' (f i)) (hd : Qd (upd H1 D (.lst ((List.range n).map f)))) :
    ∃ W : Nat → Nat → Hp → Prop, (∃ m, W 0 m (upd H1 D (.lst []))) ∧ ∀ i m H, W i m H →
      ((Itr 0 n).stop i H ∧ Qd H) ∨ ((Itr 0 n).go i H ∧ ∃ Nx : Hp → Prop, (∀ H', Nx H' → ∃ m', m' < m ∧ W (i + 1) m' H') ∧ ∀ x H', (Itr 0 n).yld i H x H' → gName k x (wipe σ [k]) H' fun σ2 H2 => wipe σ2 [k] = wipe σ [k] ∧ tYes σ2 H2 fun b H3 =>
        if b = true then te σ2 H3 fun y H4 => ∃ acc, H4 D = some (.lst acc) ∧ acc.length < sizeLine ∧ Nx (upd H4 D (.lst (acc ++ [y]))) else Nx H3) := by
  refine lc_range (lo := 0) (n := n) (fun i H' => i ≤ n ∧ H' = upd H1 D (.lst ((List.range i).map f))) ⟨Nat.zero_le _, rfl⟩ ?_ ?_
  · rintro i H' hi ⟨_, rfl⟩
    refine ⟨hw _, (hv i _ hi (Same.new hD) _ ⟨_, upd_same, ?_, hi, ?_⟩)⟩
    · rw [List.length_map, List.length_range]
      exact Nat.lt_of_lt_of_le (Nat.lt_of_lt_of_le hi hn) (by decide)
    · rw [upd_upd, range_snoc]
  · rintro H' ⟨_, rfl⟩
    exact hd
/-- [e for x in t], t a tuple, e a value that leaves the heap as it is -/
theorem lc_tupV {K : PySem.W.Frag} {a : Addr} {xs : List V} (hD : H1 D = none) (hx : H1 a = some (.tup xs)) (f : V → V) (hn : xs.length ≤ 1000) (hw : ∀ v, wipe ((wipe σ [k]).set k v) [k] = wipe σ [k])
    (hv : ∀ x H', x ∈ xs → Same H1 H' → Val te ((wipe σ [k]).set k (some x)) H' (f x)) (hd : Qd (upd H1 D (.lst (xs.map f)))) :
    ∃ W : Nat → Nat → Hp → Prop, (∃ m, W 0 m (upd H1 D (.lst []))) ∧ ∀ i m H, W i m H →
      ((Itt K a).stop i H ∧ Qd H) ∨ ((Itt K a).go i H ∧ ∃ Nx : Hp → Prop, (∀ H', Nx H' → ∃ m', m' < m ∧ W (i + 1) m' H') ∧ ∀ x H', (Itt K a).yld i H x H' → gName k x (wipe σ [k]) H' fun σ2 H2 => wipe σ2 [k] = wipe σ [k] ∧ tYes σ2 H2 fun b H3 =>
        if b = true then te σ2 H3 fun y H4 => ∃ acc, H4 D = some (.lst acc) ∧ acc.length < sizeLine ∧ Nx (upd H4 D (.lst (acc ++ [y]))) else Nx H3) := by
  refine lc_tup (K := K) (a := a) (xs := xs) (fun i H' => H' = upd H1 D (.lst ((xs.take i).map f))) rfl ?_ ?_ ?_
  · rintro i H' _ rfl
    exact SqT.of (Same.new hD _ _ hx)
  · rintro i x H' hi rfl
    refine ⟨hw _, (hv x _ (List.mem_of_getElem? hi) (Same.new hD) _ ⟨_, upd_same, ?_, ?_⟩)⟩
    · rw [List.length_map, List.length_take]
      exact Nat.lt_of_le_of_lt (Nat.le_trans (Nat.min_le_right _ _) hn) (by decide)
    · rw [upd_upd, take_snoc hi, List.map_append]; rfl
  · rintro H' rfl
    rw [List.take_length]
    exact hd
/-- [e for x in xs], xs a list, e a value that leaves the heap as it is -/
theorem lc_listV {K : PySem.W.Frag} {a : Addr} {xs : List V} (hD : H1 D = none) (hx : SqL K H1 a xs) (f : V → V) (hn : xs.length ≤ 1000) (hw : ∀ v, wipe ((wipe σ [k]).set k v) [k] = wipe σ [k])
    (hv : ∀ x H', x ∈ xs → Same H1 H' → Val te ((wipe σ [k]).set k (some x)) H' (f x)) (hd : Qd (upd H1 D (.lst (xs.map f)))) :
    ∃ W : Nat → Nat → Hp → Prop, (∃ m, W 0 m (upd H1 D (.lst []))) ∧ ∀ i m H, W i m H →
      ((Itl K a).stop i H ∧ Qd H) ∨ ((Itl K a).go i H ∧ ∃ Nx : Hp → Prop, (∀ H', Nx H' → ∃ m', m' < m ∧ W (i + 1) m' H') ∧ ∀ x H', (Itl K a).yld i H x H' → gName k x (wipe σ [k]) H' fun σ2 H2 => wipe σ2 [k] = wipe σ [k] ∧ tYes σ2 H2 fun b H3 =>
        if b = true then te σ2 H3 fun y H4 => ∃ acc, H4 D = some (.lst acc) ∧ acc.length < sizeLine ∧ Nx (upd H4 D (.lst (acc ++ [y]))) else Nx H3) := by
  refine lc_list (K := K) (a := a) (xs := xs) (fun i H' => H' = upd H1 D (.lst ((xs.take i).map f))) rfl ?_ ?_ ?_
  · rintro i H' _ rfl
    exact (Same.new hD).seq hx
  · rintro i x H' hi rfl
    refine ⟨hw _, (hv x _ (List.mem_of_getElem? hi) (Same.new hD) _ ⟨_, upd_same, ?_, ?_⟩)⟩
    · rw [List.length_map, List.length_take]
      exact Nat.lt_of_le_of_lt (Nat.le_trans (Nat.min_le_right _ _) hn) (by decide)
    · rw [upd_upd, take_snoc hi, List.map_append]; rfl
  · rintro H' rfl
    rw [List.take_length]
    exact hd
/-- [x for x in t if c], t a tuple, the test and the value leave the heap as it is -/
theorem lc_tupF {tt : TT} {K : PySem.W.Frag} {a : Addr} {xs : List V} (hD : H1 D = none) (hx : H1 a = some (.tup xs)) (f : V → Bool) (hn : xs.length ≤ 1000) (hw : ∀ v, wipe ((wipe σ [k]).set k v) [k] = wipe σ [k])
    (ht : ∀ x H', x ∈ xs → Same H1 H' → Ans tt ((wipe σ [k]).set k (some x)) H' (f x)) (hv : ∀ x H', x ∈ xs → Same H1 H' → Val te ((wipe σ [k]).set k (some x)) H' x) (hd : Qd (upd H1 D (.lst (xs.filter f)))) :
    ∃ W : Nat → Nat → Hp → Prop, (∃ m, W 0 m (upd H1 D (.lst []))) ∧ ∀ i m H, W i m H →
      ((Itt K a).stop i H ∧ Qd H) ∨ ((Itt K a).go i H ∧ ∃ Nx : Hp → Prop, (∀ H', Nx H' → ∃ m', m' < m ∧ W (i + 1) m' H') ∧ ∀ x H', (Itt K a).yld i H x H' → gName k x (wipe σ [k]) H' fun σ2 H2 => wipe σ2 [k] = wipe σ [k] ∧ tt σ2 H2 fun b H3 =>
        if b = true then te σ2 H3 fun y H4 => ∃ acc, H4 D = some (.lst acc) ∧ acc.length < sizeLine ∧ Nx (upd H4 D (.lst (acc ++ [y]))) else Nx H3) := by
  refine lc_tup (K := K) (a := a) (xs := xs) (fun i H' => H' = upd H1 D (.lst ((xs.take i).filter f))) rfl ?_ ?_ ?_
  · rintro i H' _ rfl
    exact SqT.of (Same.new hD _ _ hx)
  · rintro i x H' hi rfl
    have hm := List.mem_of_getElem? hi
    refine ⟨hw _, ht x _ hm (Same.new hD) _ ?_⟩
    cases hf : f x with
    | true =>
      refine iteT (hv x _ hm (Same.new hD) _ ⟨_, upd_same, ?_, ?_⟩)
      · refine Nat.lt_of_le_of_lt (List.length_filter_le _ _) ?_
        rw [List.length_take]
        exact Nat.lt_of_le_of_lt (Nat.le_trans (Nat.min_le_right _ _) hn) (by decide)
      · rw [upd_upd, take_snoc hi, List.filter_append, List.filter_cons_of_pos hf]; rfl
    | false =>
      refine iteF ?_
      rw [take_snoc hi, List.filter_append, List.filter_cons_of_neg (by rw [hf]; decide), List.filter_nil, List.append_nil]
  · rintro H' rfl
    rw [List.take_length]
    exact hd
/-- [e for x in xs], xs a list, e a value behind which what stood stands -/
theorem lc_listS {K : PySem.W.Frag} {a : Addr} {xs : List V} (hD : H1 D = none) (hx : SqL K H1 a xs) (f : Nat → V) (hn : xs.length ≤ 1000) (hw : ∀ v, wipe ((wipe σ [k]).set k v) [k] = wipe σ [k])
    (hv : ∀ i x H' (Q : VK), xs[i]? = some x → Same H1 H' → (∀ H'', Same H' H'' → Q (f i) H'') → te ((wipe σ [k]).set k (some x)) H' Q)
    (hd : ∀ H', Same H1 H' → H' D = some (.lst ((List.range xs.length).map f)) → Qd H') :
    ∃ W : Nat → Nat → Hp → Prop, (∃ m, W 0 m (upd H1 D (.lst []))) ∧ ∀ i m H, W i m H →
      ((Itl K a).stop i H ∧ Qd H) ∨ ((Itl K a).go i H ∧ ∃ Nx : Hp → Prop, (∀ H', Nx H' → ∃ m', m' < m ∧ W (i + 1) m' H') ∧ ∀ x H', (Itl K a).yld i H x H' → gName k x (wipe σ [k]) H' fun σ2 H2 => wipe σ2 [k] = wipe σ [k] ∧ tYes σ2 H2 fun b H3 =>
        if b = true then te σ2 H3 fun y H4 => ∃ acc, H4 D = some (.lst acc) ∧ acc.length < sizeLine ∧ Nx (upd H4 D (.lst (acc ++ [y]))) else Nx H3) := by
  refine lc_list (K := K) (a := a) (xs := xs) (fun i H' => Same H1 H' ∧ H' D = some (.lst ((List.range i).map f))) ⟨Same.new hD, upd_same⟩ ?_ ?_ ?_
  · rintro i H' _ ⟨s, _⟩
    exact s.seq hx
  · rintro i x H' hi ⟨s, h1⟩
    have hlt : i < xs.length := (List.getElem?_eq_some_iff.mp hi).1
    refine ⟨hw _, (hv i x H' _ hi s fun H'' s2 => ⟨_, s2 _ _ h1, ?_, Same.mut (s.trans s2) hD, ?_⟩)⟩
    · rw [List.length_map, List.length_range]
      exact Nat.lt_of_lt_of_le (Nat.lt_of_lt_of_le hlt hn) (by decide)
    · rw [upd_same, range_snoc]
  · rintro H' ⟨s, h1⟩
    exact hd H' s h1
/-- tuples made one behind another: at as_j the tuple f j -/
def Tups (H : Hp) (as : List Addr) (f : Nat → List V) : Prop := ∀ (j : Nat) (a : Addr), as[j]? = some a → H a = some (.tup (f j))
theorem Tups.mono {H H' : Hp} {as : List Addr} {f : Nat → List V} (s : Same H H') (t : Tups H as f) : Tups H' as f := fun j a h => s _ _ (t j a h)
theorem Tups.upd {H : Hp} {as : List Addr} {f : Nat → List V} {D : Addr} {xs ys : List V} (hD : H D = some (.lst xs)) (t : Tups H as f) : Tups (L2.upd H D (.lst ys)) as f := fun j a h => by
  rw [upd_ne (ne_of (t j a h) hD (by intro z; cases z))]
  exact t j a h
theorem Tups.snoc {H : Hp} {as : List Addr} {f : Nat → List V} {r : Addr} (t : Tups H as f) (h : H r = some (.tup (f as.length))) : Tups H (as ++ [r]) f := fun j a e => by
  by_cases hj : j < as.length
  · rw [List.getElem?_append_left hj] at e
    exact t j a e
  · rw [List.getElem?_append_right (by omega)] at e
    have e0 : j - as.length = 0 := by
      cases h0 : j - as.length with
      | zero => rfl
      | succ m => rw [h0] at e; simp at e
    rw [e0] at e
    have er : r = a := by simpa using e
    subst er
    have : j = as.length := by omega
    subst this
    exact h
/-- [e for k in range(n)], e a new tuple each turn -/
theorem lc_rangeT {n : Nat} (hD : H1 D = none) (f : Nat → List V) (hn : n ≤ 1000) (hw : ∀ v, wipe ((wipe σ [k]).set k v) [k] = wipe σ [k])
    (hv : ∀ i H' (Q : VK), i < n → Same H1 H' → (∀ H'' r, Same H' H'' → H'' r = some (.tup (f i)) → Q (.ref r) H'') → te ((wipe σ [k]).set k (some (.int (0 + i)))) H' Q)
    (hd : ∀ H' as, Same H1 H' → H' D = some (.lst (as.map V.ref)) → as.length = n → Tups H' as f → Qd H') :
    ∃ W : Nat → Nat → Hp → Prop, (∃ m, W 0 m (upd H1 D (.lst []))) ∧ ∀ i m H, W i m H →
      ((Itr 0 n).stop i H ∧ Qd H) ∨ ((Itr 0 n).go i H ∧ ∃ Nx : Hp → Prop, (∀ H', Nx H' → ∃ m', m' < m ∧ W (i + 1) m' H') ∧ ∀ x H', (Itr 0 n).yld i H x H' → gName k x (wipe σ [k]) H' fun σ2 H2 => wipe σ2 [k] = wipe σ [k] ∧ tYes σ2 H2 fun b H3 =>
        if b = true then te σ2 H3 fun y H4 => ∃ acc, H4 D = some (.lst acc) ∧ acc.length < sizeLine ∧ Nx (upd H4 D (.lst (acc ++ [y]))) else Nx H3) := by
  refine lc_range (lo := 0) (n := n) (fun i H' => Same H1 H' ∧ ∃ as : List Addr, H' D = some (.lst (as.map V.ref)) ∧ as.length = i ∧ Tups H' as f) ⟨Same.new hD, [], upd_same, rfl, fun j a h => by simp at h⟩ ?_ ?_
  · rintro i H' hi ⟨s, as, h1, h2, h3⟩
    refine ⟨hw _, (hv i H' _ hi s fun H'' r s2 hr => ⟨_, s2 _ _ h1, ?_, Same.mut (s.trans s2) hD, as ++ [r], ?_, ?_, ?_⟩)⟩
    · rw [List.length_map, h2]
      exact Nat.lt_of_lt_of_le (Nat.lt_of_lt_of_le hi hn) (by decide)
    · rw [upd_same, List.map_append]; rfl
    · rw [List.length_append, h2]; rfl
    · subst h2
      exact (Tups.mono s2 h3).snoc hr |>.upd (s2 _ _ h1)
  · rintro H' ⟨s, as, h1, h2, h3⟩
    exact hd H' as s h1 h2 h3
/-- [e for x in xs], xs a list that stands, e a new tuple each turn -/
theorem lc_listT {K : PySem.W.Frag} {a : Addr} {xs : List V} (hD : H1 D = none) (hx : SqL K H1 a xs) (f : Nat → List V) (hn : xs.length ≤ 1000) (hw : ∀ v, wipe ((wipe σ [k]).set k v) [k] = wipe σ [k])
    (hv : ∀ i x H' (Q : VK), xs[i]? = some x → Same H1 H' → (∀ H'' r, Same H' H'' → H'' r = some (.tup (f i)) → Q (.ref r) H'') → te ((wipe σ [k]).set k (some x)) H' Q)
    (hd : ∀ H' as, Same H1 H' → H' D = some (.lst (as.map V.ref)) → as.length = xs.length → Tups H' as f → Qd H') :
    ∃ W : Nat → Nat → Hp → Prop, (∃ m, W 0 m (upd H1 D (.lst []))) ∧ ∀ i m H, W i m H →
      ((Itl K a).stop i H ∧ Qd H) ∨ ((Itl K a).go i H ∧ ∃ Nx : Hp → Prop, (∀ H', Nx H' → ∃ m', m' < m ∧ W (i + 1) m' H') ∧ ∀ x H', (Itl K a).yld i H x H' → gName k x (wipe σ [k]) H' fun σ2 H2 => wipe σ2 [k] = wipe σ [k] ∧ tYes σ2 H2 fun b H3 =>
        if b = true then te σ2 H3 fun y H4 => ∃ acc, H4 D = some (.lst acc) ∧ acc.length < sizeLine ∧ Nx (upd H4 D (.lst (acc ++ [y]))) else Nx H3) := by
  refine lc_list (K := K) (a := a) (xs := xs) (fun i H' => Same H1 H' ∧ ∃ as : List Addr, H' D = some (.lst (as.map V.ref)) ∧ as.length = i ∧ Tups H' as f) ⟨Same.new hD, [], upd_same, rfl, fun j a h => by simp at h⟩ ?_ ?_ ?_
  · rintro i H' _ ⟨s, _⟩
    exact s.seq hx
  · rintro i x H' hi ⟨s, as, h1, h2, h3⟩
    have hlt : i < xs.length := (List.getElem?_eq_some_iff.mp hi).1
    refine ⟨hw _, (hv i x H' _ hi s fun H'' r s2 hr => ⟨_, s2 _ _ h1, ?_, Same.mut (s.trans s2) hD, as ++ [r], ?_, ?_, ?_⟩)⟩
    · rw [List.length_map, h2]
      exact Nat.lt_of_lt_of_le (Nat.lt_of_lt_of_le hlt hn) (by decide)
    · rw [upd_same, List.map_append]; rfl
    · rw [List.length_append, h2]; rfl
    · subst h2
      exact (Tups.mono s2 h3).snoc hr |>.upd (s2 _ _ h1)
  · rintro H' ⟨s, as, h1, h2, h3⟩
    exact hd H' as s h1 h2 h3
end
/-! ### arguments -/
section
variable {σ : L2.St} {H : Hp} {ta tb tc td te : TE} {x y z u v : V} {Q : List V → Hp → Prop}
theorem a1 (ha : Val ta σ H x) (h : Q [x] H) : tCons ta tNil σ H Q := ha _ h
theorem a2 (ha : Val ta σ H x) (hb : Val tb σ H y) (h : Q [x, y] H) : tCons ta (tCons tb tNil) σ H Q := ha _ (hb _ h)
theorem a3 (ha : Val ta σ H x) (hb : Val tb σ H y) (hc : Val tc σ H z) (h : Q [x, y, z] H) : tCons ta (tCons tb (tCons tc tNil)) σ H Q := ha _ (hb _ (hc _ h))
end
/-! ### bits -/
def Bi (n : Nat) (x : Int) : Prop := x.natAbs < 2 ^ n
theorem Bi.mono {n m : Nat} {x : Int} (h : Bi n x) (e : n ≤ m) : Bi m x := Nat.lt_of_lt_of_le h (Nat.pow_le_pow_right (by decide) e)
theorem Bi.mul {n m : Nat} {x y : Int} (h : Bi n x) (g : Bi m y) : Bi (n + m) (x * y) := wide_lt h g
theorem Bi.add {n : Nat} {x y : Int} (h : Bi n x) (g : Bi n y) : Bi (n + 1) (x + y) := by
  unfold Bi at *
  have e : 2 ^ (n + 1) = 2 ^ n + 2 ^ n := by rw [Nat.pow_succ]; omega
  rw [e]
  omega
theorem Bi.sub {n : Nat} {x y : Int} (h : Bi n x) (g : Bi n y) : Bi (n + 1) (x - y) := by
  unfold Bi at *
  have e : 2 ^ (n + 1) = 2 ^ n + 2 ^ n := by rw [Nat.pow_succ]; omega
  rw [e]
  omega
theorem Bi.sm {n : Nat} {x : Int} (h : Bi n x) (e : n ≤ 4000) : Sm x := Bi.mono (m := 4000) h e
end Rt

set_option Elab.async false
set_option maxRecDepth 100000
set_option maxHeartbeats 4000000
set_option linter.unusedVariables false
namespace Rt
open PySem PySem.Spec PyProof.Rows L2

/-! ### points in the heap -/
abbrev Pt := Int × Int × Int
abbrev tri (p : Pt) : List V := [.int p.1, .int p.2.1, .int p.2.2]
def PtAt (H : Hp) (a : Addr) (p : Pt) : Prop := H a = some (.tup (tri p))
theorem PtAt.mono {H H' : Hp} {a : Addr} {p : Pt} (s : Same H H') (h : PtAt H a p) : PtAt H' a p := s _ _ h
/-- a point told by a tuple or by a list -/
def PtB (H : Hp) (a : Addr) (p : Pt) : Prop := H a = some (.tup (tri p)) ∨ H a = some (.lst (tri p))
structure SmP (p : Pt) : Prop where
  a : Sm p.1
  b : Sm p.2.1
  c : Sm p.2.2
/-- three points, a list of them -/
def L3 (H : Hp) (l : Addr) (p q r : Pt) : Prop := ∃ a b c, H l = some (.lst [.ref a, .ref b, .ref c]) ∧ PtAt H a p ∧ PtAt H b q ∧ PtAt H c r
def L4 (H : Hp) (l : Addr) (p q r s : Pt) : Prop := ∃ a b c d, H l = some (.lst [.ref a, .ref b, .ref c, .ref d]) ∧ PtAt H a p ∧ PtAt H b q ∧ PtAt H c r ∧ PtAt H d s
theorem L3.mono {H H' : Hp} {l : Addr} {p q r : Pt} (s : Same H H') (h : L3 H l p q r) : L3 H' l p q r := by
  obtain ⟨a, b, c, h1, h2, h3, h4⟩ := h
  exact ⟨a, b, c, s _ _ h1, h2.mono s, h3.mono s, h4.mono s⟩
theorem L4.mono {H H' : Hp} {l : Addr} {p q r t : Pt} (s : Same H H') (h : L4 H l p q r t) : L4 H' l p q r t := by
  obtain ⟨a, b, c, d, h1, h2, h3, h4, h5⟩ := h
  exact ⟨a, b, c, d, s _ _ h1, h2.mono s, h3.mono s, h4.mono s, h5.mono s⟩

section
variable {K : PySem.W.Frag} {σ : L2.St} {H : Hp} {te : TE} {a : Addr} {p : Pt}
theorem v_0 (he : Val te σ H (.ref a)) (h : PtAt H a p) : Val (tOp (rIxT K) te (tC (.int 0))) σ H (.int p.1) := v_ixT he val_c h rfl
theorem v_1 (he : Val te σ H (.ref a)) (h : PtAt H a p) : Val (tOp (rIxT K) te (tC (.int 1))) σ H (.int p.2.1) := v_ixT he val_c h rfl
theorem v_2 (he : Val te σ H (.ref a)) (h : PtAt H a p) : Val (tOp (rIxT K) te (tC (.int 2))) σ H (.int p.2.2) := v_ixT he val_c h rfl
theorem v_0B (he : Val te σ H (.ref a)) (h : PtB H a p) : Val (tOp (rIxB K) te (tC (.int 0))) σ H (.int p.1) := v_ixB he val_c h rfl
theorem v_1B (he : Val te σ H (.ref a)) (h : PtB H a p) : Val (tOp (rIxB K) te (tC (.int 1))) σ H (.int p.2.1) := v_ixB he val_c h rfl
theorem v_2B (he : Val te σ H (.ref a)) (h : PtB H a p) : Val (tOp (rIxB K) te (tC (.int 2))) σ H (.int p.2.2) := v_ixB he val_c h rfl
end

/-! ### bits of points -/
def BP (n : Nat) (p : Pt) : Prop := Bi n p.1 ∧ Bi n p.2.1 ∧ Bi n p.2.2
theorem BP.mono {n m : Nat} {p : Pt} (h : BP n p) (e : n ≤ m) : BP m p := ⟨h.1.mono e, h.2.1.mono e, h.2.2.mono e⟩
theorem BP.sm {n : Nat} {p : Pt} (h : BP n p) (e : n ≤ 4000) : SmP p := ⟨h.1.sm e, h.2.1.sm e, h.2.2.sm e⟩
theorem BP.cross {n m : Nat} {p q : Pt} (h : BP n p) (g : BP m q) : BP (n + m + 1) (Kqy4.cross p q) :=
  ⟨(h.2.1.mul g.2.2).sub (h.2.2.mul g.2.1), (h.2.2.mul g.1).sub (h.1.mul g.2.2), (h.1.mul g.2.1).sub (h.2.1.mul g.1)⟩
theorem BP.dot {n m : Nat} {p q : Pt} (h : BP n p) (g : BP m q) : Bi (n + m + 2) (Kqy4.dot p q) :=
  ((h.1.mul g.1).add (h.2.1.mul g.2.1)).add ((h.2.2.mul g.2.2).mono (by omega))
theorem BP.det {n m l : Nat} {p q r : Pt} (h : BP n p) (g : BP m q) (k : BP l r) : Bi (n + m + l + 3) (Kqy4.det p q r) := (BP.dot (h.cross g) k).mono (by omega)
theorem BP.times {n m : Nat} {k : Int} {p : Pt} (h : Bi n k) (g : BP m p) : BP (n + m) (Kqy4.times k p) := ⟨h.mul g.1, h.mul g.2.1, h.mul g.2.2⟩
theorem BP.plus {n : Nat} {p q : Pt} (h : BP n p) (g : BP n q) : BP (n + 1) (Kqy4.plus p q) := ⟨h.1.add g.1, h.2.1.add g.2.1, h.2.2.add g.2.2⟩
theorem BP.parts {n m : Nat} {a b c x : Pt} (ha : BP n a) (hb : BP n b) (hc : BP n c) (hx : BP m x) : BP (n + n + m + 3) (Kqy4.parts (a, b, c) x) :=
  ⟨(BP.det hx hb hc).mono (by omega), (BP.det ha hx hc).mono (by omega), (BP.det ha hb hx).mono (by omega)⟩
theorem BP.together {n m : Nat} {a b c x : Pt} (ha : BP n a) (hb : BP n b) (hc : BP n c) (hx : BP m x) : BP (m + n + 2) (Kqy4.together (a, b, c) x) :=
  BP.plus (BP.plus (BP.times hx.1 ha) (BP.times hx.2.1 hb)) ((BP.times hx.2.2 hc).mono (by omega))

section
variable {P : Program} {w : World} {K : PySem.W.Frag} {mg : Str → Option Value} {base : Heap}

/-! ### cross -/
abbrev s_cross : Stmt := top 1
theorem sc_cross : FnScope ["one", "other"] ["one", "other"] (defScope s_cross) := ⟨rfl, rfl, rfl, by decide +kernel, rfl, by decide +kernel, by decide +kernel⟩
def spCross : Sp := fun vs H Q _ => ∃ a b p q, vs = [.ref a, .ref b] ∧ PtAt H a p ∧ PtB H b q ∧ SmP p ∧ SmP q ∧
  ∀ H' r, Same H H' → H r = none → PtAt H' r (Kqy4.cross p q) → Q (.ref r) H'
theorem pr_cross (G : Gd K mg "cross" s_cross) : Pr P w K mg base 1 "cross" ["one", "other"] spCross := by
  obtain ⟨f, fd, g, F⟩ := G.ex
  refine ⟨f, fd, g, F.kp, F.binds (fun _ _ _ _ _ _ us hl => match us, hl with | [_, _], _ => rfl), F.ok sc_cross (fun vs H Q E h => ?_) (fun cdv A outer s H vs Q E hr h => ?_)⟩
  · obtain ⟨a, b, p, q, rfl, _⟩ := h
    rfl
  · obtain ⟨a, b, p, q, rfl, ha, hb, sp, sq, k⟩ := h
    refine ⟨_, (pss_one (ps_ret (pe_tup (pa_cons (pe_op op_sub (pe_op op_mulW (pe_ix (r := rIxT K) ix_tup (pv 0) pe_int (fun _ _ => rfl)) (pe_ix (r := rIxB K) ix_both (pv 1) pe_int (fun _ _ => rfl))) (pe_op op_mulW (pe_ix (r := rIxT K) ix_tup (pv 0) pe_int (fun _ _ => rfl)) (pe_ix (r := rIxB K) ix_both (pv 1) pe_int (fun _ _ => rfl)))) (pa_cons (pe_op op_sub (pe_op op_mulW (pe_ix (r := rIxT K) ix_tup (pv 0) pe_int (fun _ _ => rfl)) (pe_ix (r := rIxB K) ix_both (pv 1) pe_int (fun _ _ => rfl))) (pe_op op_mulW (pe_ix (r := rIxT K) ix_tup (pv 0) pe_int (fun _ _ => rfl)) (pe_ix (r := rIxB K) ix_both (pv 1) pe_int (fun _ _ => rfl)))) (pa_cons (pe_op op_sub (pe_op op_mulW (pe_ix (r := rIxT K) ix_tup (pv 0) pe_int (fun _ _ => rfl)) (pe_ix (r := rIxB K) ix_both (pv 1) pe_int (fun _ _ => rfl))) (pe_op op_mulW (pe_ix (r := rIxT K) ix_tup (pv 0) pe_int (fun _ _ => rfl)) (pe_ix (r := rIxB K) ix_both (pv 1) pe_int (fun _ _ => rfl)))) pa_nil)))))), ?_⟩
    have x0 := fun (K) => v_0 (K := K) (te := tVar 0) (σ := [some (V.ref a), some (V.ref b)]) (val_var rfl) ha
    have x1 := fun (K) => v_1 (K := K) (te := tVar 0) (σ := [some (V.ref a), some (V.ref b)]) (val_var rfl) ha
    have x2 := fun (K) => v_2 (K := K) (te := tVar 0) (σ := [some (V.ref a), some (V.ref b)]) (val_var rfl) ha
    have y0 := fun (K) => v_0B (K := K) (te := tVar 1) (σ := [some (V.ref a), some (V.ref b)]) (val_var rfl) hb
    have y1 := fun (K) => v_1B (K := K) (te := tVar 1) (σ := [some (V.ref a), some (V.ref b)]) (val_var rfl) hb
    have y2 := fun (K) => v_2B (K := K) (te := tVar 1) (σ := [some (V.ref a), some (V.ref b)]) (val_var rfl) hb
    exact v_tup3 (v_sub (v_mul (x1 _) (y2 _) sp.b sq.c) (v_mul (x2 _) (y1 _) sp.c sq.b))
      (v_sub (v_mul (x2 _) (y0 _) sp.c sq.a) (v_mul (x0 _) (y2 _) sp.a sq.c))
      (v_sub (v_mul (x0 _) (y1 _) sp.a sq.b) (v_mul (x1 _) (y0 _) sp.b sq.a))
      (fun r hr => k _ r (Same.new hr) hr upd_same)

/-! ### dot -/
abbrev s_dot : Stmt := top 2
theorem sc_dot : FnScope ["one", "other"] ["one", "other"] (defScope s_dot) := ⟨rfl, rfl, rfl, by decide +kernel, rfl, by decide +kernel, by decide +kernel⟩
def spDot : Sp := fun vs H Q _ => ∃ a b p q, vs = [.ref a, .ref b] ∧ PtAt H a p ∧ PtAt H b q ∧ SmP p ∧ SmP q ∧ Q (.int (Kqy4.dot p q)) H
theorem pr_dot (G : Gd K mg "dot" s_dot) : Pr P w K mg base 1 "dot" ["one", "other"] spDot := by
  obtain ⟨f, fd, g, F⟩ := G.ex
  refine ⟨f, fd, g, F.kp, F.binds (fun _ _ _ _ _ _ us hl => match us, hl with | [_, _], _ => rfl), F.ok sc_dot (fun vs H Q E h => ?_) (fun cdv A outer s H vs Q E hr h => ?_)⟩
  · obtain ⟨a, b, p, q, rfl, _⟩ := h
    rfl
  · obtain ⟨a, b, p, q, rfl, ha, hb, sp, sq, k⟩ := h
    refine ⟨_, (pss_one (ps_ret (pe_op op_add (pe_op op_add (pe_op op_mulW (pe_ix (r := rIxT K) ix_tup (pv 0) pe_int (fun _ _ => rfl)) (pe_ix (r := rIxT K) ix_tup (pv 1) pe_int (fun _ _ => rfl))) (pe_op op_mulW (pe_ix (r := rIxT K) ix_tup (pv 0) pe_int (fun _ _ => rfl)) (pe_ix (r := rIxT K) ix_tup (pv 1) pe_int (fun _ _ => rfl)))) (pe_op op_mulW (pe_ix (r := rIxT K) ix_tup (pv 0) pe_int (fun _ _ => rfl)) (pe_ix (r := rIxT K) ix_tup (pv 1) pe_int (fun _ _ => rfl)))))), ?_⟩
    have x0 := fun (K) => v_0 (K := K) (te := tVar 0) (σ := [some (V.ref a), some (V.ref b)]) (val_var rfl) ha
    have x1 := fun (K) => v_1 (K := K) (te := tVar 0) (σ := [some (V.ref a), some (V.ref b)]) (val_var rfl) ha
    have x2 := fun (K) => v_2 (K := K) (te := tVar 0) (σ := [some (V.ref a), some (V.ref b)]) (val_var rfl) ha
    have y0 := fun (K) => v_0 (K := K) (te := tVar 1) (σ := [some (V.ref a), some (V.ref b)]) (val_var rfl) hb
    have y1 := fun (K) => v_1 (K := K) (te := tVar 1) (σ := [some (V.ref a), some (V.ref b)]) (val_var rfl) hb
    have y2 := fun (K) => v_2 (K := K) (te := tVar 1) (σ := [some (V.ref a), some (V.ref b)]) (val_var rfl) hb
    exact v_add (v_add (v_mul (x0 _) (y0 _) sp.a sq.a) (v_mul (x1 _) (y1 _) sp.b sq.b)) (v_mul (x2 _) (y2 _) sp.c sq.c) _ k

/-! ### is_nowhere -/
abbrev s_is_nowhere : Stmt := top 3
theorem sc_is_nowhere : FnScope ["numbers"] ["numbers"] (defScope s_is_nowhere) := ⟨rfl, rfl, rfl, by decide +kernel, rfl, by decide +kernel, by decide +kernel⟩
def spNowhere : Sp := fun vs H Q _ => ∃ a p, vs = [.ref a] ∧ PtAt H a p ∧ Q (.bl (Kqy4.zero p)) H
theorem pr_is_nowhere (G : Gd K mg "is_nowhere" s_is_nowhere) : Pr P w K mg base 1 "is_nowhere" ["numbers"] spNowhere := by
  obtain ⟨f, fd, g, F⟩ := G.ex
  refine ⟨f, fd, g, F.kp, F.binds (fun _ _ _ _ _ _ us hl => match us, hl with | [_], _ => rfl), F.ok sc_is_nowhere (fun vs H Q E h => ?_) (fun cdv A outer s H vs Q E hr h => ?_)⟩
  · obtain ⟨a, p, rfl, _⟩ := h
    rfl
  · obtain ⟨a, p, rfl, ha, k⟩ := h
    refine ⟨_, (pss_one (ps_ret (pe_and (pe_cmpR op_eq (pe_ix (r := rIxT K) ix_tup (pv 0) pe_int (fun _ _ => rfl)) pe_int (nomark _)) (pe_and (pe_cmpR op_eq (pe_ix (r := rIxT K) ix_tup (pv 0) pe_int (fun _ _ => rfl)) pe_int (nomark _)) (pe_one (pe_cmpR op_eq (pe_ix (r := rIxT K) ix_tup (pv 0) pe_int (fun _ _ => rfl)) pe_int (nomark _))))))), ?_⟩
    have e : Kqy4.zero p = (decide (p.1 = 0) && (decide (p.2.1 = 0) && decide (p.2.2 = 0))) := by
      unfold Kqy4.zero
      rw [Bool.and_assoc]
      rfl
    rw [e] at k
    exact v_and (v_eq (v_0 (val_var rfl) ha) val_c) (v_and (v_eq (v_1 (val_var rfl) ha) val_c) (v_eq (v_2 (val_var rfl) ha) val_c)) _ k

/-! ### spread -/
abbrev s_spread : Stmt := top 4
theorem sc_spread : FnScope ["one", "two", "three"] ["one", "two", "three"] (defScope s_spread) := ⟨rfl, rfl, rfl, by decide +kernel, rfl, by decide +kernel, by decide +kernel⟩
def spSpread : Sp := fun vs H Q _ => ∃ a b c p q r, vs = [.ref a, .ref b, .ref c] ∧ PtAt H a p ∧ PtAt H b q ∧ PtAt H c r ∧ BP 1500 p ∧ BP 1500 q ∧ BP 1500 r ∧
  ∀ H', Same H H' → Q (.int (Kqy4.det p q r)) H'
theorem pr_spread (G : Gd K mg "spread" s_spread) (D_dot : Pr P w K mg base 1 "dot" ["one", "other"] spDot) (D_cross : Pr P w K mg base 1 "cross" ["one", "other"] spCross) : Pr P w K mg base 2 "spread" ["one", "two", "three"] spSpread := by
  obtain ⟨f, fd, g, F⟩ := G.ex
  refine ⟨f, fd, g, F.kp, F.binds (fun _ _ _ _ _ _ us hl => match us, hl with | [_, _, _], _ => rfl), F.ok sc_spread (fun vs H Q E h => ?_) (fun cdv A outer s H vs Q E hr h => ?_)⟩
  · obtain ⟨a, b, c, p, q, r, rfl, _⟩ := h
    rfl
  · obtain ⟨a, b, c, p, q, r, rfl, ha, hb, hc, bp, bq, br, k⟩ := h
    refine ⟨_, (pss_one (ps_ret (pe_callD D_dot (hr.mono (by decide)) (pa_cons (pe_callD D_cross (hr.mono (by decide)) (pa_cons (pv 0) (pa_cons (pv 1) pa_nil))) (pa_cons (pv 2) pa_nil))))), ?_⟩
    refine ⟨_, rfl, _, rfl, a, b, p, q, rfl, ha, .inl hb, bp.sm (by decide), bq.sm (by decide), fun H1 x s1 _ hx => ?_⟩
    refine ⟨_, rfl, x, c, _, r, rfl, hx, hc.mono s1, (bp.cross bq).sm (by decide), br.sm (by decide), k H1 s1⟩

/-! ### shares -/
abbrev s_shares : Stmt := top 5
theorem sc_shares : FnScope ["point", "three"] ["point", "three"] (defScope s_shares) := ⟨rfl, rfl, rfl, by decide +kernel, rfl, by decide +kernel, by decide +kernel⟩
def spShares : Sp := fun vs H Q _ => ∃ a l x p q r, vs = [.ref a, .ref l] ∧ PtAt H a x ∧ L3 H l p q r ∧ BP 1500 x ∧ BP 1500 p ∧ BP 1500 q ∧ BP 1500 r ∧
  ∀ H' b, Same H H' → PtAt H' b (Kqy4.parts (p, q, r) x) → Q (.ref b) H'
theorem pr_shares (G : Gd K mg "shares" s_shares) (D_spread : Pr P w K mg base 2 "spread" ["one", "two", "three"] spSpread) : Pr P w K mg base 3 "shares" ["point", "three"] spShares := by
  obtain ⟨f, fd, g, F⟩ := G.ex
  refine ⟨f, fd, g, F.kp, F.binds (fun _ _ _ _ _ _ us hl => match us, hl with | [_, _], _ => rfl), F.ok sc_shares (fun vs H Q E h => ?_) (fun cdv A outer s H vs Q E hr h => ?_)⟩
  · obtain ⟨a, l, x, p, q, r, rfl, _⟩ := h
    rfl
  · obtain ⟨a, l, x, p, q, r, rfl, ha, ⟨a0, b0, c0, hl, h0, h1, h2⟩, bx, bp, bq, br, k⟩ := h
    refine ⟨_, (pss_one (ps_ret (pe_tup (pa_cons (pe_callD D_spread (hr.mono (by decide)) (pa_cons (pv 0) (pa_cons (pe_ix (r := rIxL K) ix_list (pv 1) pe_int (fun _ _ => rfl)) (pa_cons (pe_ix (r := rIxL K) ix_list (pv 1) pe_int (fun _ _ => rfl)) pa_nil)))) (pa_cons (pe_callD D_spread (hr.mono (by decide)) (pa_cons (pe_ix (r := rIxL K) ix_list (pv 1) pe_int (fun _ _ => rfl)) (pa_cons (pv 0) (pa_cons (pe_ix (r := rIxL K) ix_list (pv 1) pe_int (fun _ _ => rfl)) pa_nil)))) (pa_cons (pe_callD D_spread (hr.mono (by decide)) (pa_cons (pe_ix (r := rIxL K) ix_list (pv 1) pe_int (fun _ _ => rfl)) (pa_cons (pe_ix (r := rIxL K) ix_list (pv 1) pe_int (fun _ _ => rfl)) (pa_cons (pv 0) pa_nil)))) pa_nil)))))), ?_⟩
    refine ⟨_, rfl, _, rfl, l, _, _, _, rfl, rfl, SqL.of hl, rfl, _, rfl, l, _, _, _, rfl, rfl, SqL.of hl, rfl, a, b0, c0, x, q, r, rfl, ha, h1, h2, bx, bq, br, fun H1 s1 => ?_⟩
    have l1 := SqL.of (K := K) (s1 _ _ hl)
    refine ⟨_, rfl, l, _, _, _, rfl, rfl, l1, rfl, _, rfl, _, rfl, l, _, _, _, rfl, rfl, l1, rfl, a0, a, c0, p, x, r, rfl, h0.mono s1, ha.mono s1, h2.mono s1, bp, bx, br, fun H2 s2 => ?_⟩
    have s12 := s1.trans s2
    have l2 := SqL.of (K := K) (s12 _ _ hl)
    refine ⟨_, rfl, l, _, _, _, rfl, rfl, l2, rfl, _, rfl, l, _, _, _, rfl, rfl, l2, rfl, _, rfl, a0, b0, a, p, q, x, rfl, h0.mono s12, h1.mono s12, ha.mono s12, bp, bq, bx, fun H3 s3 => ?_⟩
    refine ⟨by show 3 ≤ sizeLine; decide, fun b hb => k _ b ((s12.trans s3).trans (Same.new hb)) upd_same⟩

/-! ### put_together -/
abbrev s_put_together : Stmt := top 6
theorem sc_put_together : FnScope ["counts", "three", "k"] ["counts", "three"] (defScope s_put_together) := ⟨rfl, rfl, rfl, by decide +kernel, rfl, by decide +kernel, by decide +kernel⟩
structure Bt (mg : Str → Option Value) : Prop where
  len : mg "len" = none
  range : mg "range" = none
  tuple : mg "tuple" = none
  abs : mg "abs" = none
  any : mg "any" = none
  all : mg "all" = none
  max : mg "max" = none
def spPut : Sp := fun vs H Q _ => ∃ a l x p q r, vs = [.ref a, .ref l] ∧ PtAt H a x ∧ L3 H l p q r ∧ SmP x ∧ SmP p ∧ SmP q ∧ SmP r ∧
  ∀ H' b, Same H H' → PtAt H' b (Kqy4.together (p, q, r) x) → Q (.ref b) H'
/-- the k-th number of a point -/
def nth (p : Pt) : Nat → Int
  | 0 => p.1
  | 1 => p.2.1
  | _ => p.2.2
theorem nth_at (p : Pt) {i : Nat} (h : i < 3) : atI (tri p) (0 + (i : Int)) = some (.int (nth p i)) := by
  match i, h with
  | 0, _ => rfl
  | 1, _ => rfl
  | 2, _ => rfl
theorem nth_sm {p : Pt} (h : SmP p) (i : Nat) : Sm (nth p i) := by
  match i with
  | 0 => exact h.a
  | 1 => exact h.b
  | i + 2 => exact h.c
theorem pr_put_together (G : Gd K mg "put_together" s_put_together) (B : Bt mg) : Pr P w K mg base 1 "put_together" ["counts", "three"] spPut := by
  obtain ⟨f, fd, g, F⟩ := G.ex
  refine ⟨f, fd, g, F.kp, F.binds (fun _ _ _ _ _ _ us hl => match us, hl with | [_, _], _ => rfl), F.ok sc_put_together (fun vs H Q E h => ?_) (fun cdv A outer s H vs Q E hr h => ?_)⟩
  · obtain ⟨a, l, x, p, q, r, rfl, _⟩ := h
    rfl
  · obtain ⟨a, l, x, p, q, r, rfl, ha, ⟨a0, b0, c0, hl, h0, h1, h2⟩, sx, sp, sq, sr, k⟩ := h
    refine ⟨_, (pss_one (ps_ret (pe_callTy call_tuple_of (by rfl) B.tuple (by decide +kernel) (pa_cons (pe_lc (own := [("k", 2)]) (g := gName 2) (tt := tYes) rfl sc_put_together.nd (pi_range1 rfl B.range (pa_cons pe_int pa_nil)) (blkOk_by (own := [("k", 2)]) (N := ["counts", "three", "k"]) (sc := defScope s_put_together) (by decide +kernel)) (fun _ _ _ _ _ => pg_name (i := 2) sc_put_together.nd rfl (Or.inl rfl)) (fun _ _ _ _ _ => pts_nil) (fun _ _ _ _ _ => (pe_op op_add (pe_op op_add (pe_op op_mulW (pe_ix (r := rIxT K) ix_tup (pv 0) pe_int (fun _ _ => rfl)) (pe_ix (r := rIxT K) ix_tup (pe_ix (r := rIxL K) ix_list (pv 1) pe_int (fun _ _ => rfl)) (pv 2) (fun _ _ => rfl))) (pe_op op_mulW (pe_ix (r := rIxT K) ix_tup (pv 0) pe_int (fun _ _ => rfl)) (pe_ix (r := rIxT K) ix_tup (pe_ix (r := rIxL K) ix_list (pv 1) pe_int (fun _ _ => rfl)) (pv 2) (fun _ _ => rfl)))) (pe_op op_mulW (pe_ix (r := rIxT K) ix_tup (pv 0) pe_int (fun _ _ => rfl)) (pe_ix (r := rIxT K) ix_tup (pe_ix (r := rIxL K) ix_list (pv 1) pe_int (fun _ _ => rfl)) (pv 2) (fun _ _ => rfl)))))) pa_nil)))), ?_⟩
    refine ⟨3, rfl, by decide, by decide, fun D hD => lc_rangeV hD (fun i => .int (x.1 * nth p i + x.2.1 * nth q i + x.2.2 * nth r i)) (by decide) (fun _ => rfl) (fun i H' hi s => ?_) ?_⟩
    · have hl' := s _ _ hl
      have ha' := ha.mono s
      have e0 := v_ixT (K := K) (ta := tOp (rIxL K) (tVar 1) (tC (.int 0))) (tb := tVar 2) (σ := [some (V.ref a), some (V.ref l), some (V.int (0 + (i : Int)))]) (v_ixL (val_var rfl) val_c (SqL.of hl') rfl) (val_var rfl) (h0.mono s) (nth_at p hi)
      have e1 := v_ixT (K := K) (ta := tOp (rIxL K) (tVar 1) (tC (.int 1))) (tb := tVar 2) (σ := [some (V.ref a), some (V.ref l), some (V.int (0 + (i : Int)))]) (v_ixL (val_var rfl) val_c (SqL.of hl') rfl) (val_var rfl) (h1.mono s) (nth_at q hi)
      have e2 := v_ixT (K := K) (ta := tOp (rIxL K) (tVar 1) (tC (.int 2))) (tb := tVar 2) (σ := [some (V.ref a), some (V.ref l), some (V.int (0 + (i : Int)))]) (v_ixL (val_var rfl) val_c (SqL.of hl') rfl) (val_var rfl) (h2.mono s) (nth_at r hi)
      exact v_add (v_add (v_mul (v_0 (val_var rfl) ha') e0 sx.a (nth_sm sp i)) (v_mul (v_1 (val_var rfl) ha') e1 sx.b (nth_sm sq i))) (v_mul (v_2 (val_var rfl) ha') e2 sx.c (nth_sm sr i))
    · refine ⟨D, _, rfl, .inl ⟨SqL.of upd_same, fun b hb => k _ b ((Same.new hD).trans (Same.new hb)) ?_⟩⟩
      exact upd_same

/-! ### times -/
abbrev s_times : Stmt := top 7
theorem sc_times : FnScope ["count", "point", "number"] ["count", "point"] (defScope s_times) := ⟨rfl, rfl, rfl, by decide +kernel, rfl, by decide +kernel, by decide +kernel⟩
def spTimes : Sp := fun vs H Q _ => ∃ n a p, vs = [.int n, .ref a] ∧ PtAt H a p ∧ Sm n ∧ SmP p ∧
  ∀ H' b, Same H H' → PtAt H' b (Kqy4.times n p) → Q (.ref b) H'
theorem pr_times (G : Gd K mg "times" s_times) (B : Bt mg) : Pr P w K mg base 1 "times" ["count", "point"] spTimes := by
  obtain ⟨f, fd, g, F⟩ := G.ex
  refine ⟨f, fd, g, F.kp, F.binds (fun _ _ _ _ _ _ us hl => match us, hl with | [_, _], _ => rfl), F.ok sc_times (fun vs H Q E h => ?_) (fun cdv A outer s H vs Q E hr h => ?_)⟩
  · obtain ⟨n, a, p, rfl, _⟩ := h
    rfl
  · obtain ⟨n, a, p, rfl, ha, sn, sp, k⟩ := h
    refine ⟨_, (pss_one (ps_ret (pe_callTy call_tuple_of (by rfl) B.tuple (by decide +kernel) (pa_cons (pe_lc (own := [("number", 2)]) (g := gName 2) (tt := tYes) rfl sc_times.nd (pi_tup (pv 1)) (blkOk_by (own := [("number", 2)]) (N := ["count", "point", "number"]) (sc := defScope s_times) (by decide +kernel)) (fun _ _ _ _ _ => pg_name (i := 2) sc_times.nd rfl (Or.inl rfl)) (fun _ _ _ _ _ => pts_nil) (fun _ _ _ _ _ => (pe_op op_mulW (pv 0) (pv 2)))) pa_nil)))), ?_⟩
    refine ⟨_, rfl, a, rfl, ⟨_, SqT.of ha⟩, fun D hD => lc_tupV (xs := tri p) hD ha (fun v => match v with | .int i => .int (n * i) | v => v) (by show 3 ≤ 1000; decide) (fun _ => rfl) (fun x H' hx s => ?_) ?_⟩
    · have hx' : x = .int p.1 ∨ x = .int p.2.1 ∨ x = .int p.2.2 := by simpa using hx
      rcases hx' with rfl | rfl | rfl
      · exact v_mul (val_var rfl) (val_var rfl) sn sp.a
      · exact v_mul (val_var rfl) (val_var rfl) sn sp.b
      · exact v_mul (val_var rfl) (val_var rfl) sn sp.c
    · refine ⟨D, _, rfl, .inl ⟨SqL.of upd_same, fun b hb => k _ b ((Same.new hD).trans (Same.new hb)) ?_⟩⟩
      exact upd_same
end
end Rt

set_option Elab.async false
set_option maxRecDepth 100000
set_option maxHeartbeats 4000000
set_option linter.unusedVariables false
namespace Rt
open PySem PySem.Spec PyProof.Rows L2

section
variable {P : Program} {w : World} {K : PySem.W.Frag} {mg : Str → Option Value} {base : Heap}

/-! ### weighed -/
abbrev s_weighed : Stmt := top 8
theorem sc_weighed : FnScope ["four", "three", "counts", "k"] ["four"] (defScope s_weighed) := ⟨rfl, rfl, rfl, by decide +kernel, rfl, by decide +kernel, by decide +kernel⟩
def spWeighed : Sp := fun vs H Q _ => ∃ l p q r s, vs = [.ref l] ∧ L4 H l p q r s ∧ BP 300 p ∧ BP 300 q ∧ BP 300 r ∧ BP 300 s ∧
  ∀ H' b, Same H H' → L3 H' b (Kqy4.weighed (p, q, r, s)).1 (Kqy4.weighed (p, q, r, s)).2.1 (Kqy4.weighed (p, q, r, s)).2.2 → Q (.ref b) H'
theorem pr_weighed (G : Gd K mg "weighed" s_weighed) (B : Bt mg) (D_shares : Pr P w K mg base 3 "shares" ["point", "three"] spShares) (D_times : Pr P w K mg base 1 "times" ["count", "point"] spTimes) : Pr P w K mg base 4 "weighed" ["four"] spWeighed := by
  obtain ⟨f, fd, g, F⟩ := G.ex
  refine ⟨f, fd, g, F.kp, F.binds (fun _ _ _ _ _ _ us hl => match us, hl with | [_], _ => rfl), F.ok sc_weighed (fun vs H Q E h => ?_) (fun cdv A outer s H vs Q E hr h => ?_)⟩
  · obtain ⟨l, p, q, r, s, rfl, _⟩ := h
    rfl
  · obtain ⟨l, p, q, r, s, rfl, ⟨a0, b0, c0, d0, hl, h0, h1, h2, h3⟩, bp, bq, br, bs, k⟩ := h
    refine ⟨_, (pss_cons (ps_set (i := 1) sc_weighed.nd rfl (Or.inr rfl) (pe_slice sl_list (pv 0) po_none (po_some pe_int)))
      (pss_cons (ps_set (i := 2) sc_weighed.nd rfl (Or.inr rfl) (pe_callD D_shares (hr.mono (by decide)) (pa_cons (pe_ix (r := rIxL K) ix_list (pv 0) pe_int (fun _ _ => rfl)) (pa_cons (pv 1) pa_nil))))
      (pss_one (ps_ret (pe_lc (own := [("k", 3)]) (g := gName 3) (tt := tYes) rfl sc_weighed.nd (pi_range1 rfl B.range (pa_cons pe_int pa_nil)) (blkOk_by (own := [("k", 3)]) (N := ["four", "three", "counts", "k"]) (sc := defScope s_weighed) (by decide +kernel)) (fun _ _ _ _ _ => pg_name (i := 3) sc_weighed.nd rfl (Or.inl rfl)) (fun _ _ _ _ _ => pts_nil) (fun _ _ _ _ _ => (pe_callD D_times (hr.mono (by decide)) (pa_cons (pe_ix (r := rIxT K) ix_tup (pv 2) (pv 3) (fun _ _ => rfl)) (pa_cons (pe_ix (r := rIxL K) ix_list (pv 1) (pv 3) (fun _ _ => rfl)) pa_nil))))))))), ?_⟩
    refine ⟨_, rfl, _, rfl, l, _, rfl, SqL.of hl, fun t ht => ?_⟩
    have s1 : Same H (upd H t (.lst [.ref a0, .ref b0, .ref c0])) := Same.new ht
    refine ⟨_, rfl, l, _, _, _, rfl, rfl, SqL.of (s1 _ _ hl), rfl, _, rfl, d0, t, s, p, q, r, rfl, h3.mono s1, ⟨a0, b0, c0, upd_same, h0.mono s1, h1.mono s1, h2.mono s1⟩, bs.mono (by decide), bp.mono (by decide), bq.mono (by decide), br.mono (by decide), fun H2 c s2 hc => ?_⟩
    have s12 := s1.trans s2
    have hp : BP (300 + 300 + 300 + 3) (Kqy4.parts (p, q, r) s) := BP.parts bp bq br bs
    have hp' := hp.sm (by decide)
    have ht2 := s2 _ _ (upd_same (H := H) (a := t) (o := .lst [.ref a0, .ref b0, .ref c0]))
    refine ⟨3, rfl, by decide, by decide, fun D hD => lc_rangeT hD (fun i => tri (Kqy4.times (nth (Kqy4.parts (p, q, r) s) i) (match i with | 0 => p | 1 => q | _ => r))) (by decide) (fun _ => rfl) (fun i H' Q' hi s3 kk => ?_) (fun H' as s3 h4 h5 h6 => ?_)⟩
    · have s13 := s12.trans s3
      have hc3 : H' c = _ := s3 _ _ hc
      have ht3 := s3 _ _ ht2
      refine ⟨_, rfl, _, rfl, c, _, _, _, rfl, rfl, SqT.of hc3, nth_at _ hi, _, rfl, _, rfl, t, [.ref a0, .ref b0, .ref c0], (0 + (i : Int)), ?_⟩
      match i, hi with
      | 0, _ => exact ⟨_, rfl, rfl, SqL.of ht3, rfl, _, a0, p, rfl, h0.mono s13, nth_sm hp' 0, bp.sm (by decide), fun H4 b s4 hb => kk H4 b s4 hb⟩
      | 1, _ => exact ⟨_, rfl, rfl, SqL.of ht3, rfl, _, b0, q, rfl, h1.mono s13, nth_sm hp' 1, bq.sm (by decide), fun H4 b s4 hb => kk H4 b s4 hb⟩
      | 2, _ => exact ⟨_, rfl, rfl, SqL.of ht3, rfl, _, c0, r, rfl, h2.mono s13, nth_sm hp' 2, br.sm (by decide), fun H4 b s4 hb => kk H4 b s4 hb⟩
    · match as, h5 with
      | [x, y, z], _ => exact k H' D (s12.trans s3) ⟨x, y, z, h4, h6 0 x rfl, h6 1 y rfl, h6 2 z rfl⟩

/-! ### carried -/
abbrev s_carried : Stmt := top 9
theorem sc_carried : FnScope ["point", "before", "after"] ["point", "before", "after"] (defScope s_carried) := ⟨rfl, rfl, rfl, by decide +kernel, rfl, by decide +kernel, by decide +kernel⟩
def spCarried : Sp := fun vs H Q _ => ∃ a l m x p q r p' q' r', vs = [.ref a, .ref l, .ref m] ∧ PtAt H a x ∧ L3 H l p q r ∧ L3 H m p' q' r' ∧ BP 1000 x ∧ BP 1000 p ∧ BP 1000 q ∧ BP 1000 r ∧ BP 1000 p' ∧ BP 1000 q' ∧ BP 1000 r' ∧
  ∀ H' b, Same H H' → PtAt H' b (Kqy4.together (p', q', r') (Kqy4.parts (p, q, r) x)) → Q (.ref b) H'
theorem pr_carried (G : Gd K mg "carried" s_carried) (D_shares : Pr P w K mg base 3 "shares" ["point", "three"] spShares) (D_put_together : Pr P w K mg base 1 "put_together" ["counts", "three"] spPut) : Pr P w K mg base 4 "carried" ["point", "before", "after"] spCarried := by
  obtain ⟨f, fd, g, F⟩ := G.ex
  refine ⟨f, fd, g, F.kp, F.binds (fun _ _ _ _ _ _ us hl => match us, hl with | [_, _, _], _ => rfl), F.ok sc_carried (fun vs H Q E h => ?_) (fun cdv A outer s H vs Q E hr h => ?_)⟩
  · obtain ⟨a, l, m, x, p, q, r, p', q', r', rfl, _⟩ := h
    rfl
  · obtain ⟨a, l, m, x, p, q, r, p', q', r', rfl, ha, hl, hm, bx, bp, bq, br, bp', bq', br', k⟩ := h
    refine ⟨_, (pss_one (ps_ret (pe_callD D_put_together (hr.mono (by decide)) (pa_cons (pe_callD D_shares (hr.mono (by decide)) (pa_cons (pv 0) (pa_cons (pv 1) pa_nil))) (pa_cons (pv 2) pa_nil))))), ?_⟩
    refine ⟨_, rfl, _, rfl, a, l, x, p, q, r, rfl, ha, hl, bx.mono (by decide), bp.mono (by decide), bq.mono (by decide), br.mono (by decide), fun H1 c s1 hc => ?_⟩
    have hp : BP (1000 + 1000 + 1000 + 3) (Kqy4.parts (p, q, r) x) := BP.parts bp bq br bx
    exact ⟨_, rfl, c, m, _, p', q', r', rfl, hc, hm.mono s1, hp.sm (by decide), bp'.sm (by decide), bq'.sm (by decide), br'.sm (by decide), fun H2 b s2 hb => k H2 b (s1.trans s2) hb⟩

/-! ### no_three_on_a_line -/
abbrev s_no_three_on_a_line : Stmt := top 10
theorem sc_no_three_on_a_line : FnScope ["four", "left_out", "three"] ["four"] (defScope s_no_three_on_a_line) := ⟨rfl, rfl, rfl, by decide +kernel, rfl, by decide +kernel, by decide +kernel⟩
/-- the four spreads, the point left out by its place -/
def outs (p q r s : Pt) : Nat → Int
  | 0 => Kqy4.det q r s
  | 1 => Kqy4.det p r s
  | 2 => Kqy4.det p q s
  | _ => Kqy4.det p q r
theorem good_outs (p q r s : Pt) : Kqy4.good (p, q, r, s) = true ↔ ∀ i, i < 4 → outs p q r s i ≠ 0 := by
  have e : Kqy4.good (p, q, r, s) = (Kqy4.det p q r != 0 && Kqy4.det p q s != 0 && Kqy4.det p r s != 0 && Kqy4.det q r s != 0) := rfl
  rw [e]
  simp only [Bool.and_eq_true, bne_iff_ne]
  constructor
  · rintro ⟨⟨⟨h1, h2⟩, h3⟩, h4⟩ i hi
    match i, hi with
    | 0, _ => exact h4
    | 1, _ => exact h3
    | 2, _ => exact h2
    | 3, _ => exact h1
  · intro h
    exact ⟨⟨⟨h 3 (by decide), h 2 (by decide)⟩, h 1 (by decide)⟩, h 0 (by decide)⟩
def spNoThree : Sp := fun vs H Q _ => ∃ l p q r s, vs = [.ref l] ∧ L4 H l p q r s ∧ BP 300 p ∧ BP 300 q ∧ BP 300 r ∧ BP 300 s ∧
  ∀ H', Same H H' → Q (.bl (Kqy4.good (p, q, r, s))) H'
theorem pr_no_three_on_a_line (G : Gd K mg "no_three_on_a_line" s_no_three_on_a_line) (B : Bt mg) (D_spread : Pr P w K mg base 2 "spread" ["one", "two", "three"] spSpread) : Pr P w K mg base 3 "no_three_on_a_line" ["four"] spNoThree := by
  obtain ⟨f, fd, g, F⟩ := G.ex
  refine ⟨f, fd, g, F.kp, F.binds (fun _ _ _ _ _ _ us hl => match us, hl with | [_], _ => rfl), F.ok sc_no_three_on_a_line (fun vs H Q E h => ?_) (fun cdv A outer s H vs Q E hr h => ?_)⟩
  · obtain ⟨l, p, q, r, s, rfl, _⟩ := h
    rfl
  · obtain ⟨l, p, q, r, s, rfl, ⟨a0, b0, c0, d0, hl, h0, h1, h2, h3⟩, bp, bq, br, bs, k⟩ := h
    refine ⟨_, (pss_cons (ps_for PassesOwn.never rfl (pi_range1 rfl B.range (pa_cons pe_int pa_nil)) (pg_name (i := 1) sc_no_three_on_a_line.nd rfl (Or.inl rfl)) (pss_cons (ps_set (i := 2) sc_no_three_on_a_line.nd rfl (Or.inl rfl) (pe_op op_cat (pe_slice sl_list (pv 0) po_none (po_some (pv 1))) (pe_slice sl_list (pv 0) (po_some (pe_op op_add (pv 1) pe_int)) po_none)))
      (pss_one (ps_if (pt_cmpR op_eq (pe_callD D_spread (hr.mono (by decide)) (pa_cons (pe_ix (r := rIxL K) ix_list (pv 2) pe_int (fun _ _ => rfl)) (pa_cons (pe_ix (r := rIxL K) ix_list (pv 2) pe_int (fun _ _ => rfl)) (pa_cons (pe_ix (r := rIxL K) ix_list (pv 2) pe_int (fun _ _ => rfl)) pa_nil)))) pe_int (nomark _)) (pss_one (ps_ret pe_bl)) pss_nil))))
      (pss_one (ps_ret pe_bl))), ?_⟩
    refine ⟨4, rfl, by decide, by decide, for_range (lo := 0) (n := 4) (fun i σ H' => Same H H' ∧ (∃ v w, σ = [some (.ref l), v, w]) ∧ ∀ j, j < i → outs p q r s j ≠ 0) ⟨Same.refl H, ⟨_, _, rfl⟩, fun j hj => absurd hj (Nat.not_lt_zero _)⟩ ?_ ?_⟩
    · rintro i σ H' hi ⟨s1, ⟨v, w', rfl⟩, nz⟩
      have hl1 := s1 _ _ hl
      refine ⟨_, rfl, _, rfl, _, rfl, l, _, rfl, SqL.of hl1, fun t1 ht1 => ?_⟩
      have hl2 := Same.new (o := .lst (cutV [.ref a0, .ref b0, .ref c0, .ref d0] none (some (0 + (i : Int))))) ht1 _ _ hl1
      refine ⟨_, rfl, _, rfl, _, _, rfl, rfl, _, rfl, l, _, rfl, SqL.of hl2, fun t2 ht2 => ?_⟩
      have st : Same H' (upd (upd H' t1 (.lst (cutV [.ref a0, .ref b0, .ref c0, .ref d0] none (some (0 + (i : Int)))))) t2 (.lst (cutV [.ref a0, .ref b0, .ref c0, .ref d0] (some (0 + (i : Int) + 1)) none))) := (Same.new ht1).trans (Same.new ht2)
      have n12 : t1 ≠ t2 := ne_of_none (upd_same) ht2
      have e1 : (upd (upd H' t1 (.lst (cutV [.ref a0, .ref b0, .ref c0, .ref d0] none (some (0 + (i : Int)))))) t2 (.lst (cutV [.ref a0, .ref b0, .ref c0, .ref d0] (some (0 + (i : Int) + 1)) none))) t1 = some (.lst (cutV [.ref a0, .ref b0, .ref c0, .ref d0] none (some (0 + (i : Int))))) := by
        rw [upd_ne n12]
        exact upd_same
      refine ⟨t1, t2, _, _, rfl, rfl, e1, upd_same, ?_, fun t3 ht3 => ?_⟩
      · match i, hi with
        | 0, _ => show 3 ≤ sizeLine; decide
        | 1, _ => show 3 ≤ sizeLine; decide
        | 2, _ => show 3 ≤ sizeLine; decide
        | 3, _ => show 3 ≤ sizeLine; decide
      · obtain ⟨x, y, z, p1, p2, p3, el, hx, hy, hz, b1, b2, b3, ed⟩ : ∃ x y z p1 p2 p3, cutV [.ref a0, .ref b0, .ref c0, .ref d0] none (some (0 + (i : Int))) ++ cutV [.ref a0, .ref b0, .ref c0, .ref d0] (some (0 + (i : Int) + 1)) none = [V.ref x, V.ref y, V.ref z] ∧
            PtAt H x p1 ∧ PtAt H y p2 ∧ PtAt H z p3 ∧ BP 300 p1 ∧ BP 300 p2 ∧ BP 300 p3 ∧ Kqy4.det p1 p2 p3 = outs p q r s i := by
          match i, hi with
          | 0, _ => exact ⟨b0, c0, d0, q, r, s, rfl, h1, h2, h3, bq, br, bs, rfl⟩
          | 1, _ => exact ⟨a0, c0, d0, p, r, s, rfl, h0, h2, h3, bp, br, bs, rfl⟩
          | 2, _ => exact ⟨a0, b0, d0, p, q, s, rfl, h0, h1, h3, bp, bq, bs, rfl⟩
          | 3, _ => exact ⟨a0, b0, c0, p, q, r, rfl, h0, h1, h2, bp, bq, br, rfl⟩
        rw [el]
        have l3 : SqL K (upd (upd (upd H' t1 (.lst (cutV [.ref a0, .ref b0, .ref c0, .ref d0] none (some (0 + (i : Int)))))) t2 (.lst (cutV [.ref a0, .ref b0, .ref c0, .ref d0] (some (0 + (i : Int) + 1)) none))) t3 (.lst [.ref x, .ref y, .ref z])) t3 [.ref x, .ref y, .ref z] := SqL.of upd_same
        have s3' : Same H (upd (upd (upd H' t1 (.lst (cutV [.ref a0, .ref b0, .ref c0, .ref d0] none (some (0 + (i : Int)))))) t2 (.lst (cutV [.ref a0, .ref b0, .ref c0, .ref d0] (some (0 + (i : Int) + 1)) none))) t3 (.lst [.ref x, .ref y, .ref z])) := s1.trans (st.trans (Same.new ht3))
        refine ⟨_, rfl, t3, _, _, _, rfl, rfl, l3, rfl, _, rfl, t3, _, _, _, rfl, rfl, l3, rfl, _, rfl, t3, _, _, _, rfl, rfl, l3, rfl, x, y, z, p1, p2, p3, rfl, hx.mono s3', hy.mono s3', hz.mono s3', b1.mono (by decide), b2.mono (by decide), b3.mono (by decide), fun H4 s4 => ?_⟩
        refine ⟨rfl, _, rfl, ?_⟩
        have s5 := s3'.trans s4
        rw [int_eq, ed]
        by_cases c : outs p q r s i = 0
        · rw [decide_eq_true c]
          refine iteT ?_
          have e : Kqy4.good (p, q, r, s) = false := by
            cases hh : Kqy4.good (p, q, r, s) with
            | false => rfl
            | true => exact absurd c ((good_outs p q r s).mp hh i hi)
          have kk := k H4 s5
          rw [e] at kk
          exact kk
        · rw [decide_eq_false c]
          refine iteF ⟨s5, ⟨_, _, rfl⟩, fun j hj => ?_⟩
          by_cases hji : j = i
          · subst hji
            exact c
          · exact nz j (by omega)
    · rintro σ H' ⟨s1, ⟨v, w', rfl⟩, nz⟩
      have kk := k H' s1
      rw [(good_outs p q r s).mpr nz] at kk
      exact kk
end
end Rt

set_option Elab.async false
set_option maxRecDepth 100000
set_option maxHeartbeats 4000000
set_option linter.unusedVariables false
namespace Rt
open PySem PySem.Spec PyProof.Rows L2

theorem abs_nat (i : Int) : (if i < 0 then -i else i) = (i.natAbs : Int) := by
  split <;> omega
theorem gcd_step (a b : Nat) : Nat.gcd b (a % b) = Nat.gcd a b := by
  rw [Nat.gcd_comm b, ← Nat.gcd_rec, Nat.gcd_comm]
theorem fmod_nat (a b : Nat) : (a : Int).fmod (b : Int) = ((a % b : Nat) : Int) := by
  rw [Int.fmod_eq_emod_of_nonneg _ (by omega), Int.natCast_emod]
theorem frac_eq {a b : Int} (hb : b ≠ 0) : Kqy4.frac a b =
    if b < 0 then [a.fdiv (-((Nat.gcd a.natAbs b.natAbs : Nat) : Int)), b.fdiv (-((Nat.gcd a.natAbs b.natAbs : Nat) : Int))] else [a.fdiv ((Nat.gcd a.natAbs b.natAbs : Nat) : Int), b.fdiv ((Nat.gcd a.natAbs b.natAbs : Nat) : Int)] := by
  have hg : 0 < Nat.gcd a.natAbs b.natAbs := Nat.gcd_pos_of_pos_right _ (by omega)
  have d1 : ((Nat.gcd a.natAbs b.natAbs : Nat) : Int) ∣ a := Int.ofNat_dvd_left.mpr (Nat.gcd_dvd_left _ _)
  have d2 : ((Nat.gcd a.natAbs b.natAbs : Nat) : Int) ∣ b := Int.ofNat_dvd_left.mpr (Nat.gcd_dvd_right _ _)
  have g0 : ((Nat.gcd a.natAbs b.natAbs : Nat) : Int) ≠ 0 := by omega
  have fd : ∀ {x : Int}, ((Nat.gcd a.natAbs b.natAbs : Nat) : Int) ∣ x → x.fdiv (-((Nat.gcd a.natAbs b.natAbs : Nat) : Int)) = -(x / ((Nat.gcd a.natAbs b.natAbs : Nat) : Int)) := by
    rintro x ⟨y, rfl⟩
    rw [Int.mul_ediv_cancel_left _ g0]
    have e : ((Nat.gcd a.natAbs b.natAbs : Nat) : Int) * y = -((Nat.gcd a.natAbs b.natAbs : Nat) : Int) * (-y) := by rw [Int.neg_mul_neg]
    rw [e]
    exact Int.mul_fdiv_cancel_left _ (by omega)
  unfold Kqy4.frac
  simp only []
  rw [if_neg g0]
  by_cases hn : b < 0
  · rw [if_pos hn, if_pos hn, fd d1, fd d2]
  · rw [if_neg hn, if_neg hn, Int.fdiv_eq_ediv_of_nonneg _ (by omega), Int.fdiv_eq_ediv_of_nonneg _ (by omega)]

section
variable {P : Program} {w : World} {K : PySem.W.Frag} {mg : Str → Option Value} {base : Heap}
abbrev s_common_divisor : Stmt := top 11
theorem sc_common_divisor : FnScope ["one", "other", "larger", "smaller", "rest"] ["one", "other"] (defScope s_common_divisor) := ⟨rfl, rfl, rfl, by decide +kernel, rfl, by decide +kernel, by decide +kernel⟩
def spGcd : Sp := fun vs H Q _ => ∃ a b : Int, vs = [.int a, .int b] ∧ Q (.int ((Nat.gcd a.natAbs b.natAbs : Nat) : Int)) H
def meas3 : L2.St → Hp → Nat := fun σ _ => match σ with
  | [_, _, _, some (.int n), _] => n.toNat
  | _ => 0
theorem pr_common_divisor (G : Gd K mg "common_divisor" s_common_divisor) (B : Bt mg) : Pr P w K mg base 1 "common_divisor" ["one", "other"] spGcd := by
  obtain ⟨f, fd, g, F⟩ := G.ex
  refine ⟨f, fd, g, F.kp, F.binds (fun _ _ _ _ _ _ us hl => match us, hl with | [_, _], _ => rfl), F.ok sc_common_divisor (fun vs H Q E h => ?_) (fun cdv A outer s H vs Q E hr h => ?_)⟩
  · obtain ⟨a, b, rfl, _⟩ := h
    rfl
  · obtain ⟨a, b, rfl, k⟩ := h
    refine ⟨_, (pss_cons (ps_set (i := 2) sc_common_divisor.nd rfl (Or.inl rfl) (pe_callB call_abs (by rfl) B.abs (by decide +kernel) (pa_cons (pv 0) pa_nil)))
      (pss_cons (ps_set (i := 3) sc_common_divisor.nd rfl (Or.inl rfl) (pe_callB call_abs (by rfl) B.abs (by decide +kernel) (pa_cons (pv 1) pa_nil)))
      (pss_cons (ps_while PassesOwn.never (pt_cmpR op_ne (pv 3) pe_int (nomark _)) (pss_cons (ps_set (i := 4) sc_common_divisor.nd rfl (Or.inl rfl) (pe_op op_modN (pv 2) (pv 3)))
      (pss_cons (ps_set (i := 2) sc_common_divisor.nd rfl (Or.inl rfl) (pv 3))
      (pss_one (ps_set (i := 3) sc_common_divisor.nd rfl (Or.inl rfl) (pv 4))))))
      (pss_one (ps_ret (pv 2)))))), ?_⟩
    refine ⟨_, rfl, a, rfl, _, rfl, b, rfl, ?_⟩
    rw [abs_nat, abs_nat]
    refine while_by (fun σ H' => H' = H ∧ ∃ (x y : Nat) (v : Option V), σ = [some (.int a), some (.int b), some (.int x), some (.int y), v] ∧ Nat.gcd x y = Nat.gcd a.natAbs b.natAbs) meas3 ⟨rfl, a.natAbs, b.natAbs, none, rfl, rfl⟩ ?_ ?_
    · rintro σ H' ⟨rfl, x, y, v, rfl, e⟩
      refine ⟨_, rfl, rfl, _, rfl, ?_⟩
      rw [int_eq]
      by_cases c : (y : Int) = 0
      · rw [decide_eq_true c]
        refine iteF ⟨_, rfl, ?_⟩
        have y0 : y = 0 := by omega
        subst y0
        rw [Nat.gcd_zero_right] at e
        rw [e]
        exact k
      · rw [decide_eq_false c]
        refine iteT ⟨_, rfl, _, rfl, _, _, rfl, rfl, c, _, rfl, _, rfl, ⟨rfl, y, x % y, some (.int ((x % y : Nat) : Int)), ?_, ?_⟩, ?_⟩
        · show [some (V.int a), some (V.int b), some (V.int (y : Int)), some (V.int ((x : Int).fmod y)), some (V.int ((x : Int).fmod y))] = _
          rw [fmod_nat]
        · rw [gcd_step]
          exact e
        · show ((x : Int).fmod y).toNat < (y : Int).toNat
          rw [fmod_nat]
          have := Nat.mod_lt x (show y > 0 by omega)
          omega
    · rintro σ H Q Q' m ⟨v, hv, hs, k, hk, q⟩
      exact ⟨v, hv, hs, k, hk, m _ _ q⟩

abbrev s_fraction : Stmt := top 12
theorem sc_fraction : FnScope ["above", "below", "divisor"] ["above", "below"] (defScope s_fraction) := ⟨rfl, rfl, rfl, by decide +kernel, rfl, by decide +kernel, by decide +kernel⟩
def spFraction : Sp := fun vs H Q _ => ∃ a b : Int, vs = [.int a, .int b] ∧ b ≠ 0 ∧ Sm b ∧ ∀ H' p, Same H H' → H p = none → H' p = some (.lst ((Kqy4.frac a b).map V.int)) → Q (.ref p) H'
theorem pr_fraction (G : Gd K mg "fraction" s_fraction) (D_common_divisor : Pr P w K mg base 1 "common_divisor" ["one", "other"] spGcd) : Pr P w K mg base 2 "fraction" ["above", "below"] spFraction := by
  obtain ⟨f, fd, g, F⟩ := G.ex
  refine ⟨f, fd, g, F.kp, F.binds (fun _ _ _ _ _ _ us hl => match us, hl with | [_, _], _ => rfl), F.ok sc_fraction (fun vs H Q E h => ?_) (fun cdv A outer s H vs Q E hr h => ?_)⟩
  · obtain ⟨a, b, rfl, _⟩ := h
    rfl
  · obtain ⟨a, b, rfl, b0, sb, k⟩ := h
    refine ⟨_, (pss_cons (ps_set (i := 2) sc_fraction.nd rfl (Or.inl rfl) (pe_callD D_common_divisor (hr.mono (by decide)) (pa_cons (pv 0) (pa_cons (pv 1) pa_nil))))
      (pss_cons (ps_if (pt_cmpR op_lt (pv 1) pe_int (nomark _)) (pss_one (ps_set (i := 2) sc_fraction.nd rfl (Or.inl rfl) (pe_un un_neg (pv 2)))) pss_nil)
      (pss_one (ps_ret (pe_lst (pa_cons (pe_op op_fdivA (pv 0) (pv 2)) (pa_cons (pe_op op_fdivA (pv 1) (pv 2)) pa_nil))))))), ?_⟩
    rw [frac_eq b0] at k
    have hg : 0 < Nat.gcd a.natAbs b.natAbs := Nat.gcd_pos_of_pos_right _ (by omega)
    have hle : Nat.gcd a.natAbs b.natAbs ≤ b.natAbs := Nat.gcd_le_right _ (by omega)
    refine ⟨_, rfl, _, rfl, a, b, rfl, ?_⟩
    refine ⟨_, rfl, _, _, rfl, rfl, _, rfl, ?_⟩
    by_cases c : b < 0
    · rw [if_pos c] at k
      have sd : ∀ x, CDivA x (-((Nat.gcd a.natAbs b.natAbs : Nat) : Int)) := fun x => Sm.div (by omega) (Nat.lt_of_le_of_lt (by omega) sb)
      refine ite2 (fun _ => ?_) (fun h => absurd (decide_eq_true c) h)
      refine ⟨_, rfl, _, rfl, ?_⟩
      refine ⟨_, rfl, _, rfl, _, _, rfl, rfl, sd _, _, rfl, _, rfl, _, _, rfl, rfl, sd _, by show 2 ≤ sizeLine; decide, fun p hp => ?_⟩
      exact k _ p (Same.new hp) hp upd_same
    · rw [if_neg c] at k
      have sd : ∀ x, CDivA x (((Nat.gcd a.natAbs b.natAbs : Nat) : Int)) := fun x => Sm.div (by omega) (Nat.lt_of_le_of_lt (by omega) sb)
      refine ite2 (fun h => absurd (of_decide_eq_true h) c) (fun _ => ?_)
      refine ⟨_, rfl, _, rfl, _, _, rfl, rfl, sd _, _, rfl, _, rfl, _, _, rfl, rfl, sd _, by show 2 ≤ sizeLine; decide, fun p hp => ?_⟩
      exact k _ p (Same.new hp) hp upd_same
end
end Rt

set_option Elab.async false
set_option maxRecDepth 100000
set_option maxHeartbeats 4000000
set_option linter.unusedVariables false
namespace Rt
open PySem PySem.Spec PyProof.Rows L2
/-! ### fractions and lines up to a factor: plain numbers -/
/-- the divisor of a fraction: the greatest common one, with the lower number's sign -/
def dvs (a b : Int) : Int := if b < 0 then -((Nat.gcd a.natAbs b.natAbs : Nat) : Int) else ((Nat.gcd a.natAbs b.natAbs : Nat) : Int)
theorem dvs_ne {a b : Int} (hb : b ≠ 0) : dvs a b ≠ 0 := by
  have hg : 0 < Nat.gcd a.natAbs b.natAbs := Nat.gcd_pos_of_pos_right _ (by omega)
  unfold dvs
  split <;> omega
theorem dvs_dvd (a b : Int) : dvs a b ∣ a ∧ dvs a b ∣ b := by
  have d1 : ((Nat.gcd a.natAbs b.natAbs : Nat) : Int) ∣ a := Int.ofNat_dvd_left.mpr (Nat.gcd_dvd_left _ _)
  have d2 : ((Nat.gcd a.natAbs b.natAbs : Nat) : Int) ∣ b := Int.ofNat_dvd_left.mpr (Nat.gcd_dvd_right _ _)
  unfold dvs
  split
  · exact ⟨Int.neg_dvd.mpr d1, Int.neg_dvd.mpr d2⟩
  · exact ⟨d1, d2⟩
theorem frac_dvs {a b : Int} (hb : b ≠ 0) : Kqy4.frac a b = [a.fdiv (dvs a b), b.fdiv (dvs a b)] := by
  rw [frac_eq hb]
  unfold dvs
  split <;> rfl
theorem frac_of {a b q r : Int} (hb : b ≠ 0) (h1 : a = dvs a b * q) (h2 : b = dvs a b * r) : Kqy4.frac a b = [q, r] := by
  have h0 := dvs_ne (a := a) hb
  have e1 : a.fdiv (dvs a b) = q := by
    have : (dvs a b * q).fdiv (dvs a b) = q := Int.mul_fdiv_cancel_left _ h0
    rw [← h1] at this
    exact this
  have e2 : b.fdiv (dvs a b) = r := by
    have : (dvs a b * r).fdiv (dvs a b) = r := Int.mul_fdiv_cancel_left _ h0
    rw [← h2] at this
    exact this
  rw [frac_dvs hb, e1, e2]
theorem dvs_scale {k a b : Int} (hk : k ≠ 0) (hb : b ≠ 0) : dvs (k * a) (k * b) = k * dvs a b := by
  have e : Nat.gcd (k * a).natAbs (k * b).natAbs = k.natAbs * Nat.gcd a.natAbs b.natAbs := by
    rw [Int.natAbs_mul, Int.natAbs_mul, Nat.gcd_mul_left]
  unfold dvs
  rw [e, Int.natCast_mul]
  rcases Int.lt_or_gt_of_ne hk with k0 | k0
  · have ek : ((k.natAbs : Nat) : Int) = -k := by omega
    rw [ek]
    by_cases c : b < 0
    · have : ¬ k * b < 0 := Int.not_lt.mpr (Int.le_of_lt (Int.mul_pos_of_neg_of_neg k0 c))
      rw [if_neg this, if_pos c, Int.neg_mul, Int.mul_neg]
    · have : k * b < 0 := Int.mul_neg_of_neg_of_pos k0 (by omega)
      rw [if_pos this, if_neg c, Int.neg_mul, Int.neg_neg]
  · have ek : ((k.natAbs : Nat) : Int) = k := by omega
    rw [ek]
    by_cases c : b < 0
    · have : k * b < 0 := Int.mul_neg_of_pos_of_neg k0 c
      rw [if_pos this, if_pos c, Int.mul_neg]
    · have : ¬ k * b < 0 := Int.not_lt.mpr (Int.le_of_lt (Int.mul_pos k0 (by omega)))
      rw [if_neg this, if_neg c]
theorem frac_scale {k a b : Int} (hk : k ≠ 0) (hb : b ≠ 0) : Kqy4.frac (k * a) (k * b) = Kqy4.frac a b := by
  obtain ⟨⟨q, h1⟩, ⟨r, h2⟩⟩ := dvs_dvd a b
  rw [frac_of hb h1 h2]
  refine frac_of (Int.mul_ne_zero hk hb) ?_ ?_
  · rw [dvs_scale hk hb, Int.mul_assoc, ← h1]
  · rw [dvs_scale hk hb, Int.mul_assoc, ← h2]
/-- equal fractions are told alike -/
theorem frac_ratio {a b c d : Int} (hb : b ≠ 0) (hd : d ≠ 0) (h : a * d = c * b) : Kqy4.frac a b = Kqy4.frac c d := by
  rw [← frac_scale (k := d) hd hb, ← frac_scale (k := b) (a := c) hb hd, Int.mul_comm d a, h, Int.mul_comm c b, Int.mul_comm d b]
/-! ### a line told -/
/-- the divisor of a line: the greatest common one, with the first number's sign that isn't 0 -/
def dvl (p : Pt) : Int := (if p.1 < 0 ∨ (p.1 = 0 ∧ (p.2.1 < 0 ∨ (p.2.1 = 0 ∧ p.2.2 < 0))) then -1 else 1) * ((Nat.gcd (Nat.gcd p.1.natAbs p.2.1.natAbs) p.2.2.natAbs : Nat) : Int)
theorem told_eq {p : Pt} (h : ¬ (p.1 = 0 ∧ p.2.1 = 0 ∧ p.2.2 = 0)) : Kqy4.told_ p = [p.1.fdiv (dvl p), p.2.1.fdiv (dvl p), p.2.2.fdiv (dvl p)] := by
  have hg : 0 < Nat.gcd (Nat.gcd p.1.natAbs p.2.1.natAbs) p.2.2.natAbs := by
    apply Nat.pos_of_ne_zero
    intro z
    obtain ⟨z1, z2⟩ := Nat.gcd_eq_zero_iff.mp z
    obtain ⟨z3, z4⟩ := Nat.gcd_eq_zero_iff.mp z1
    exact h ⟨by omega, by omega, by omega⟩
  have d12 := Nat.gcd_dvd_left (Nat.gcd p.1.natAbs p.2.1.natAbs) p.2.2.natAbs
  have d1 : ((Nat.gcd (Nat.gcd p.1.natAbs p.2.1.natAbs) p.2.2.natAbs : Nat) : Int) ∣ p.1 := Int.ofNat_dvd_left.mpr (Nat.dvd_trans d12 (Nat.gcd_dvd_left _ _))
  have d2 : ((Nat.gcd (Nat.gcd p.1.natAbs p.2.1.natAbs) p.2.2.natAbs : Nat) : Int) ∣ p.2.1 := Int.ofNat_dvd_left.mpr (Nat.dvd_trans d12 (Nat.gcd_dvd_right _ _))
  have d3 : ((Nat.gcd (Nat.gcd p.1.natAbs p.2.1.natAbs) p.2.2.natAbs : Nat) : Int) ∣ p.2.2 := Int.ofNat_dvd_left.mpr (Nat.gcd_dvd_right _ _)
  have one : ∀ {x s : Int}, (s = 1 ∨ s = -1) → ((Nat.gcd (Nat.gcd p.1.natAbs p.2.1.natAbs) p.2.2.natAbs : Nat) : Int) ∣ x →
      s * (x / ((Nat.gcd (Nat.gcd p.1.natAbs p.2.1.natAbs) p.2.2.natAbs : Nat) : Int)) = x.fdiv (s * ((Nat.gcd (Nat.gcd p.1.natAbs p.2.1.natAbs) p.2.2.natAbs : Nat) : Int)) := by
    generalize Nat.gcd (Nat.gcd p.1.natAbs p.2.1.natAbs) p.2.2.natAbs = g at hg
    have g0 : (g : Int) ≠ 0 := by omega
    rintro x s hs ⟨y, rfl⟩
    rw [Int.mul_ediv_cancel_left _ g0]
    rcases hs with rfl | rfl
    · rw [Int.one_mul, Int.one_mul, Int.mul_fdiv_cancel_left _ g0]
    · have e : (g : Int) * y = (-1 * (g : Int)) * (-1 * y) := by rw [Int.neg_one_mul, Int.neg_one_mul, Int.neg_mul_neg]
      rw [e, Int.mul_fdiv_cancel_left _ (by omega)]
  unfold Kqy4.told_ dvl
  simp only []
  rw [if_neg (by omega)]
  have hs : ∀ c : Prop, [Decidable c] → (if c then (-1 : Int) else 1) = 1 ∨ (if c then (-1 : Int) else 1) = -1 := fun c _ => by
    split
    · exact .inr rfl
    · exact .inl rfl
  rw [one (hs _) d1, one (hs _) d2, one (hs _) d3]
theorem cross_swap (p q : Pt) : Kqy4.cross q p = Kqy4.times (-1) (Kqy4.cross p q) := by
  unfold Kqy4.cross Kqy4.times
  simp only [Prod.mk.injEq]
  refine ⟨?_, ?_, ?_⟩ <;> (simp only [Int.neg_mul, Int.one_mul]; rw [Int.neg_sub]; simp only [Int.mul_comm])
theorem zero_times {k : Int} (hk : k ≠ 0) (p : Pt) : Kqy4.zero (Kqy4.times k p) = Kqy4.zero p := by
  have one : ∀ x : Int, (k * x == 0) = (x == 0) := fun x => by
    by_cases h : x = 0
    · subst h; simp
    · have := Int.mul_ne_zero hk h
      rw [beq_eq_false_iff_ne.mpr this, beq_eq_false_iff_ne.mpr h]
  unfold Kqy4.zero Kqy4.times
  simp only [one]
end Rt

set_option Elab.async false
set_option maxRecDepth 100000
set_option maxHeartbeats 4000000
set_option linter.unusedVariables false
namespace Rt
open PySem PySem.Spec PyProof.Rows L2
/-! ### what lies on a track: two lines through one point and the stand are one -/
theorem para {A P S : Pt} (h : Kqy4.dot (Kqy4.cross S A) P = 0) :
    let a := Kqy4.cross A P; let b := Kqy4.cross P S; a.1 * b.2.1 = a.2.1 * b.1 ∧ a.1 * b.2.2 = a.2.2 * b.1 ∧ a.2.1 * b.2.2 = a.2.2 * b.2.1 := by
  obtain ⟨a1, a2, a3⟩ := A
  obtain ⟨p1, p2, p3⟩ := P
  obtain ⟨s1, s2, s3⟩ := S
  simp only [Kqy4.cross, Kqy4.dot] at h ⊢
  refine ⟨?_, ?_, ?_⟩ <;> grind
end Rt

set_option Elab.async false
set_option maxRecDepth 100000
set_option maxHeartbeats 4000000
set_option linter.unusedVariables false
namespace Rt
open PySem PySem.Spec PyProof.Rows L2
/-! ### the first number that isn't 0 -/
def lead (p : Pt) : Int := if p.1 ≠ 0 then p.1 else if p.2.1 ≠ 0 then p.2.1 else p.2.2
def nzV (v : V) : Bool := !decide (v = .int 0)
theorem nzV_int (i : Int) : nzV (.int i) = !decide (i = 0) := by
  unfold nzV
  rw [int_eq]
theorem lead_at {p : Pt} (h : ¬ (p.1 = 0 ∧ p.2.1 = 0 ∧ p.2.2 = 0)) : atI ((tri p).filter nzV) 0 = some (.int (lead p)) := by
  obtain ⟨a, b, c⟩ := p
  show atI ([V.int a, V.int b, V.int c].filter nzV) 0 = some (.int (lead (a, b, c)))
  have t : ∀ {x : Int}, x ≠ 0 → nzV (.int x) = true := fun {x} hx => by rw [nzV_int, decide_eq_false hx]; rfl
  have f : ∀ {x : Int}, x = 0 → ¬ nzV (.int x) = true := fun {x} hx => by rw [nzV_int, decide_eq_true hx]; decide
  unfold lead
  by_cases ha : a = 0
  · rw [List.filter_cons_of_neg (f ha), if_neg (fun h => h ha)]
    by_cases hb : b = 0
    · rw [List.filter_cons_of_neg (f hb), if_neg (fun h => h hb)]
      have hc : c ≠ 0 := fun hc => h ⟨ha, hb, hc⟩
      rw [List.filter_cons_of_pos (t hc)]
      exact atI_nat (j := 0) rfl
    · rw [List.filter_cons_of_pos (t hb), if_pos hb]
      exact atI_nat (j := 0) rfl
  · rw [List.filter_cons_of_pos (t ha), if_pos ha]
    exact atI_nat (j := 0) rfl
abbrev gcd3 (p : Pt) : Nat := Nat.gcd (Nat.gcd p.1.natAbs p.2.1.natAbs) p.2.2.natAbs
theorem dvl_lead (p : Pt) : dvl p = if lead p < 0 then -((gcd3 p : Nat) : Int) else ((gcd3 p : Nat) : Int) := by
  have e : (p.1 < 0 ∨ (p.1 = 0 ∧ (p.2.1 < 0 ∨ (p.2.1 = 0 ∧ p.2.2 < 0)))) ↔ lead p < 0 := by
    unfold lead
    by_cases ha : p.1 = 0
    · rw [if_neg (fun h => h ha)]
      by_cases hb : p.2.1 = 0
      · rw [if_neg (fun h => h hb)]
        omega
      · rw [if_pos hb]
        omega
    · rw [if_pos ha]
      omega
  unfold dvl gcd3
  by_cases c : lead p < 0
  · rw [if_pos (e.mpr c), if_pos c]
    omega
  · rw [if_neg (fun h => c (e.mp h)), if_neg c]
    omega
theorem gcd3_sm {p : Pt} (h : ¬ (p.1 = 0 ∧ p.2.1 = 0 ∧ p.2.2 = 0)) (sp : SmP p) : 0 < gcd3 p ∧ gcd3 p < 2 ^ 4000 := by
  have hg : 0 < gcd3 p := by
    apply Nat.pos_of_ne_zero
    intro z
    obtain ⟨z1, z2⟩ := Nat.gcd_eq_zero_iff.mp z
    obtain ⟨z3, z4⟩ := Nat.gcd_eq_zero_iff.mp z1
    exact h ⟨by omega, by omega, by omega⟩
  refine ⟨hg, ?_⟩
  have d12 := Nat.gcd_dvd_left (Nat.gcd p.1.natAbs p.2.1.natAbs) p.2.2.natAbs
  by_cases ha : p.1 = 0
  · by_cases hb : p.2.1 = 0
    · have hc : p.2.2 ≠ 0 := fun hc => h ⟨ha, hb, hc⟩
      exact Nat.lt_of_le_of_lt (Nat.le_of_dvd (by omega) (Nat.gcd_dvd_right _ _)) sp.c
    · exact Nat.lt_of_le_of_lt (Nat.le_of_dvd (by omega) (Nat.dvd_trans d12 (Nat.gcd_dvd_right _ _))) sp.b
  · exact Nat.lt_of_le_of_lt (Nat.le_of_dvd (by omega) (Nat.dvd_trans d12 (Nat.gcd_dvd_left _ _))) sp.a

section
variable {P : Program} {w : World} {K : PySem.W.Frag} {mg : Str → Option Value} {base : Heap}
/-! ### line_told -/
abbrev s_line_told : Stmt := top 13
theorem sc_line_told : FnScope ["line", "divisor", "leading", "number"] ["line"] (defScope s_line_told) := ⟨rfl, rfl, rfl, by decide +kernel, rfl, by decide +kernel, by decide +kernel⟩
def spTold : Sp := fun vs H Q _ => ∃ (a : Addr) (p : Pt), vs = [.ref a] ∧ PtAt H a p ∧ SmP p ∧ ¬ (p.1 = 0 ∧ p.2.1 = 0 ∧ p.2.2 = 0) ∧
  ∀ H' r, Same H H' → H r = none → H' r = some (.lst ((Kqy4.told_ p).map V.int)) → Q (.ref r) H'
theorem pr_line_told (G : Gd K mg "line_told" s_line_told) (D_common_divisor : Pr P w K mg base 1 "common_divisor" ["one", "other"] spGcd) : Pr P w K mg base 2 "line_told" ["line"] spTold := by
  obtain ⟨f, fd, g, F⟩ := G.ex
  refine ⟨f, fd, g, F.kp, F.binds (fun _ _ _ _ _ _ us hl => match us, hl with | [_], _ => rfl), F.ok sc_line_told (fun vs H Q E h => ?_) (fun cdv A outer s H vs Q E hr h => ?_)⟩
  · obtain ⟨a, p, rfl, _⟩ := h
    rfl
  · obtain ⟨a, p, rfl, ha, sp, nz, k⟩ := h
    refine ⟨_, (pss_cons (ps_set (i := 1) sc_line_told.nd rfl (Or.inr rfl) (pe_callD D_common_divisor (hr.mono (by decide)) (pa_cons (pe_callD D_common_divisor (hr.mono (by decide)) (pa_cons (pe_ix (r := rIxT K) ix_tup (pv 0) pe_int (fun _ _ => rfl)) (pa_cons (pe_ix (r := rIxT K) ix_tup (pv 0) pe_int (fun _ _ => rfl)) pa_nil))) (pa_cons (pe_ix (r := rIxT K) ix_tup (pv 0) pe_int (fun _ _ => rfl)) pa_nil))))
      (pss_cons (ps_set (i := 2) sc_line_told.nd rfl (Or.inl rfl) (pe_ix (r := rIxL K) ix_list (pe_lc (own := [("number", 3)]) (g := gName 3) rfl sc_line_told.nd (pi_tup (pv 0)) (blkOk_by (own := [("number", 3)]) (N := ["line", "divisor", "leading", "number"]) (sc := defScope s_line_told) (by decide +kernel)) (fun _ _ _ _ _ => pg_name (i := 3) sc_line_told.nd rfl (Or.inl rfl)) (fun _ _ _ _ _ => pts_one (pt_cmpR op_ne (pv 3) pe_int (nomark _))) (fun _ _ _ _ _ => (pv 3))) pe_int (fun _ _ => rfl)))
      (pss_cons (ps_if (pt_cmpR op_lt (pv 2) pe_int (nomark _)) (pss_one (ps_set (i := 1) sc_line_told.nd rfl (Or.inr rfl) (pe_un un_neg (pv 1)))) pss_nil)
      (pss_one (ps_ret (pe_lc (own := [("number", 3)]) (g := gName 3) (tt := tYes) rfl sc_line_told.nd (pi_tup (pv 0)) (blkOk_by (own := [("number", 3)]) (N := ["line", "divisor", "leading", "number"]) (sc := defScope s_line_told) (by decide +kernel)) (fun _ _ _ _ _ => pg_name (i := 3) sc_line_told.nd rfl (Or.inl rfl)) (fun _ _ _ _ _ => pts_nil) (fun _ _ _ _ _ => (pe_op op_fdivA (pv 3) (pv 1))))))))), ?_⟩
    obtain ⟨g0, gs⟩ := gcd3_sm nz sp
    refine ⟨_, rfl, a, _, _, _, rfl, rfl, SqT.of ha, rfl, _, rfl, a, _, _, _, rfl, rfl, SqT.of ha, rfl, p.1, p.2.1, rfl, ?_⟩
    refine ⟨_, rfl, a, _, _, _, rfl, rfl, SqT.of ha, rfl, _, p.2.2, rfl, ?_⟩
    rw [Int.natAbs_natCast]
    refine ⟨_, rfl, a, rfl, ⟨_, SqT.of ha⟩, fun D hD => lc_tupF (xs := tri p) hD ha nzV (by show 3 ≤ 1000; decide) (fun _ => rfl) (fun x H' hx s => ?_) (fun x H' hx s => val_var rfl) ?_⟩
    · have hx' : x = .int p.1 ∨ x = .int p.2.1 ∨ x = .int p.2.2 := by simpa using hx
      rcases hx' with rfl | rfl | rfl
      · exact ans_ne (val_var rfl) val_c rfl rfl
      · exact ans_ne (val_var rfl) val_c rfl rfl
      · exact ans_ne (val_var rfl) val_c rfl rfl
    · have s1 : Same H (upd H D (.lst ((tri p).filter nzV))) := Same.new hD
      have ha1 := ha.mono s1
      refine ⟨D, _, _, _, rfl, rfl, SqL.of upd_same, lead_at nz, ?_⟩
      refine ⟨_, rfl, _, _, rfl, rfl, _, rfl, ?_⟩
      rw [told_eq nz, dvl_lead] at k
      by_cases c : lead p < 0
      · rw [if_pos c] at k
        refine ite2 (fun _ => ?_) (fun h => absurd (decide_eq_true c) h)
        refine ⟨_, rfl, _, rfl, ?_⟩
        have sd : ∀ x, CDivA x (-((gcd3 p : Nat) : Int)) := fun x => Sm.div (by omega) (Nat.lt_of_le_of_lt (by omega) gs)
        refine ⟨_, rfl, a, rfl, ⟨_, SqT.of ha1⟩, fun D2 hD2 => lc_tupV (xs := tri p) hD2 ha1 (fun v => match v with | .int i => .int (i.fdiv (-((gcd3 p : Nat) : Int))) | v => v) (by show 3 ≤ 1000; decide) (fun _ => rfl) (fun x H' hx s => ?_) ?_⟩
        · have hx' : x = .int p.1 ∨ x = .int p.2.1 ∨ x = .int p.2.2 := by simpa using hx
          rcases hx' with rfl | rfl | rfl
          · exact val_op (val_var rfl) (val_var rfl) fun _ q => ⟨_, _, rfl, rfl, sd _, q⟩
          · exact val_op (val_var rfl) (val_var rfl) fun _ q => ⟨_, _, rfl, rfl, sd _, q⟩
          · exact val_op (val_var rfl) (val_var rfl) fun _ q => ⟨_, _, rfl, rfl, sd _, q⟩
        · exact k _ D2 (s1.trans (Same.new hD2)) (s1.free hD2) upd_same
      · rw [if_neg c] at k
        refine ite2 (fun h => absurd (of_decide_eq_true h) c) (fun _ => ?_)
        have sd : ∀ x, CDivA x ((gcd3 p : Nat) : Int) := fun x => Sm.div (by omega) (Nat.lt_of_le_of_lt (by omega) gs)
        refine ⟨_, rfl, a, rfl, ⟨_, SqT.of ha1⟩, fun D2 hD2 => lc_tupV (xs := tri p) hD2 ha1 (fun v => match v with | .int i => .int (i.fdiv ((gcd3 p : Nat) : Int)) | v => v) (by show 3 ≤ 1000; decide) (fun _ => rfl) (fun x H' hx s => ?_) ?_⟩
        · have hx' : x = .int p.1 ∨ x = .int p.2.1 ∨ x = .int p.2.2 := by simpa using hx
          rcases hx' with rfl | rfl | rfl
          · exact val_op (val_var rfl) (val_var rfl) fun _ q => ⟨_, _, rfl, rfl, sd _, q⟩
          · exact val_op (val_var rfl) (val_var rfl) fun _ q => ⟨_, _, rfl, rfl, sd _, q⟩
          · exact val_op (val_var rfl) (val_var rfl) fun _ q => ⟨_, _, rfl, rfl, sd _, q⟩
        · exact k _ D2 (s1.trans (Same.new hD2)) (s1.free hD2) upd_same

/-! ### ratio -/
abbrev s_ratio : Stmt := top 14
theorem sc_ratio : FnScope ["one", "other", "k"] ["one", "other"] (defScope s_ratio) := ⟨rfl, rfl, rfl, by decide +kernel, rfl, by decide +kernel, by decide +kernel⟩
/-- by the first place where the other isn't 0 -/
def rat (p q : Pt) : Option (Int × Int) := if q.1 ≠ 0 then some (p.1, q.1) else if q.2.1 ≠ 0 then some (p.2.1, q.2.1) else if q.2.2 ≠ 0 then some (p.2.2, q.2.2) else none
theorem rat_at {p q : Pt} {i : Nat} (hi : i < 3) (hz : ∀ j, j < i → nth q j = 0) (hn : nth q i ≠ 0) : rat p q = some (nth p i, nth q i) := by
  match i, hi with
  | 0, _ =>
    have h0 : q.1 ≠ 0 := hn
    unfold rat
    rw [if_pos h0]
    rfl
  | 1, _ =>
    have h0 : q.1 = 0 := hz 0 (by decide)
    have h1 : q.2.1 ≠ 0 := hn
    unfold rat
    rw [if_neg (fun h => h h0), if_pos h1]
    rfl
  | 2, _ =>
    have h0 : q.1 = 0 := hz 0 (by decide)
    have h1 : q.2.1 = 0 := hz 1 (by decide)
    have h2 : q.2.2 ≠ 0 := hn
    unfold rat
    rw [if_neg (fun h => h h0), if_neg (fun h => h h1), if_pos h2]
    rfl
theorem rat_none {p q : Pt} (hz : ∀ j, j < 3 → nth q j = 0) : rat p q = none := by
  have h0 : q.1 = 0 := hz 0 (by decide)
  have h1 : q.2.1 = 0 := hz 1 (by decide)
  have h2 : q.2.2 = 0 := hz 2 (by decide)
  unfold rat
  rw [if_neg (fun h => h h0), if_neg (fun h => h h1), if_neg (fun h => h h2)]
/-- None, or a new tuple of two -/
def spOpt (H : Hp) (Q : VK) (o : Option (Int × Int)) : Prop := (o = none → ∀ H', Same H H' → Q .non H') ∧ ∀ x y, o = some (x, y) → ∀ H' r, Same H H' → H' r = some (.tup [.int x, .int y]) → Q (.ref r) H'
def spRatio : Sp := fun vs H Q _ => ∃ (a b : Addr) (p q : Pt), vs = [.ref a, .ref b] ∧ PtAt H a p ∧ PtAt H b q ∧ spOpt H Q (rat p q)
theorem pr_ratio (G : Gd K mg "ratio" s_ratio) (B : Bt mg) : Pr P w K mg base 1 "ratio" ["one", "other"] spRatio := by
  obtain ⟨f, fd, g, F⟩ := G.ex
  refine ⟨f, fd, g, F.kp, F.binds (fun _ _ _ _ _ _ us hl => match us, hl with | [_, _], _ => rfl), F.ok sc_ratio (fun vs H Q E h => ?_) (fun cdv A outer s H vs Q E hr h => ?_)⟩
  · obtain ⟨a, b, p, q, rfl, _⟩ := h
    rfl
  · obtain ⟨a, b, p, q, rfl, ha, hb, k1, k2⟩ := h
    refine ⟨_, (pss_cons (ps_for PassesOwn.never rfl (pi_range1 rfl B.range (pa_cons pe_int pa_nil)) (pg_name (i := 2) sc_ratio.nd rfl (Or.inl rfl)) (pss_one (ps_if (pt_cmpR op_ne (pe_ix (r := rIxT K) ix_tup (pv 1) (pv 2) (fun _ _ => rfl)) pe_int (nomark _)) (pss_one (ps_ret (pe_tup (pa_cons (pe_ix (r := rIxT K) ix_tup (pv 0) (pv 2) (fun _ _ => rfl)) (pa_cons (pe_ix (r := rIxT K) ix_tup (pv 1) (pv 2) (fun _ _ => rfl)) pa_nil))))) pss_nil)))
      (pss_one (ps_ret pe_non))), ?_⟩
    refine ⟨3, rfl, by decide, by decide, for_range (lo := 0) (n := 3) (fun i σ H' => H' = H ∧ (∃ v, σ = [some (.ref a), some (.ref b), v]) ∧ ∀ j, j < i → nth q j = 0) ⟨rfl, ⟨_, rfl⟩, fun j hj => absurd hj (Nat.not_lt_zero _)⟩ ?_ ?_⟩
    · rintro i σ H' hi ⟨rfl, ⟨v, rfl⟩, hz⟩
      refine ⟨_, rfl, _, rfl, b, _, _, _, rfl, rfl, SqT.of hb, nth_at q hi, rfl, _, rfl, ?_⟩
      rw [int_eq]
      by_cases c : nth q i = 0
      · rw [decide_eq_true c]
        refine iteF ⟨rfl, ⟨_, rfl⟩, fun j hj => ?_⟩
        by_cases hji : j = i
        · subst hji
          exact c
        · exact hz j (by omega)
      · rw [decide_eq_false c]
        refine iteT ⟨_, rfl, _, rfl, a, _, _, _, rfl, rfl, SqT.of ha, nth_at p hi, _, rfl, _, rfl, b, _, _, _, rfl, rfl, SqT.of hb, nth_at q hi, by show 2 ≤ sizeLine; decide, fun r hr => ?_⟩
        exact k2 _ _ (rat_at hi hz c) _ r (Same.new hr) upd_same
    · rintro σ H' ⟨rfl, ⟨v, rfl⟩, hz⟩
      exact k1 (rat_none hz) _ (Same.refl _)
end
end Rt

set_option Elab.async false
set_option maxRecDepth 100000
set_option maxHeartbeats 4000000
set_option linter.unusedVariables false
namespace Rt
open PySem PySem.Spec PyProof.Rows L2
open Kqy4 (Both Desk)

/-! ### what is kept -/
abbrev quad (m : Both) : List V := [.int m.u, .int m.v, .int m.s, .int m.t]
/-- the list at l holds these, each a tuple of four -/
def BsAt (H : Hp) (l : Addr) (ms : List Both) : Prop := ∃ as : List Addr, H l = some (.lst (as.map V.ref)) ∧ as.length = ms.length ∧ ∀ (j : Nat) (a : Addr) (m : Both), as[j]? = some a → ms[j]? = some m → H a = some (.tup (quad m))
theorem BsAt.mono {H H' : Hp} {l : Addr} {ms : List Both} (s : Same H H') (h : BsAt H l ms) : BsAt H' l ms := by
  obtain ⟨as, h1, h2, h3⟩ := h
  exact ⟨as, s _ _ h1, h2, fun j a m e1 e2 => s _ _ (h3 j a m e1 e2)⟩
def rf (b : Bool) (l1 l2 : Addr) : List (Str × V) := [("started", .bl b), ("floor_points", .ref l1), ("things", .ref l2)]
structure RoomAt (C : Addr) (H : Hp) (a l1 l2 : Addr) (b : Bool) (d : Desk) : Prop where
  ins : ∃ dx, H a = some (.ins C dx (rf b l1 l2))
  fl : BsAt H l1 d.floor
  th : BsAt H l2 d.off
  ne : l1 ≠ l2
theorem RoomAt.mono {C : Addr} {H H' : Hp} {a l1 l2 : Addr} {b : Bool} {d : Desk} (s : Same H H') (h : RoomAt C H a l1 l2 b d) : RoomAt C H' a l1 l2 b d :=
  ⟨by obtain ⟨dx, e⟩ := h.ins; exact ⟨dx, s _ _ e⟩, h.fl.mono s, h.th.mono s, h.ne⟩
theorem lk_here {k : Str} {v : V} {r : List (Str × V)} : List.lookup k ((k, v) :: r) = some v := by
  have e : (k == k) = true := beq_self_eq_true k
  simp only [List.lookup, e]
theorem lk_past {k g : Str} {v : V} {r : List (Str × V)} (h : (k == g) = false) : List.lookup k ((g, v) :: r) = List.lookup k r := by
  simp only [List.lookup, h]
theorem rf_started (b : Bool) (l1 l2 : Addr) : (rf b l1 l2).lookup ("started" : Str) = some (.bl b) := lk_here
theorem rf_floor (b : Bool) (l1 l2 : Addr) : (rf b l1 l2).lookup ("floor_points" : Str) = some (.ref l1) := (lk_past (by decide +kernel)).trans lk_here
theorem rf_things (b : Bool) (l1 l2 : Addr) : (rf b l1 l2).lookup ("things" : Str) = some (.ref l2) := (lk_past (by decide +kernel)).trans ((lk_past (by decide +kernel)).trans lk_here)
theorem rf_no {b : Bool} {l1 l2 : Addr} {m : Str} (h1 : (m == ("started" : Str)) = false) (h2 : (m == ("floor_points" : Str)) = false) (h3 : (m == ("things" : Str)) = false) : (rf b l1 l2).lookup m = none :=
  (lk_past h1).trans ((lk_past h2).trans ((lk_past h3).trans rfl))
/-- the class as the top left it -/
structure Txt (K : PySem.W.Frag) (C : Addr) : Prop where
  cl : Cls K C
  nS : NoAttr K C "started"
  nF : NoAttr K C "floor_points"
  nT : NoAttr K C "things"

/-! ### bounds -/
def Ok4 (m : Both) : Prop := (0 ≤ m.u ∧ m.u ≤ 100) ∧ (0 ≤ m.v ∧ m.v ≤ 100) ∧ (0 ≤ m.s ∧ m.s ≤ 100) ∧ (0 ≤ m.t ∧ m.t ≤ 100)
structure DOk (d : Desk) : Prop where
  fl : ∀ m ∈ d.floor, Ok4 m
  th : ∀ m ∈ d.off, Ok4 m
  fl6 : d.floor.length ≤ 6
  th6 : d.off.length ≤ 6
theorem bi7 {x : Int} (h : 0 ≤ x ∧ x ≤ 100) : Bi 7 x := by
  unfold Bi
  have : (2 : Nat) ^ 7 = 128 := by decide
  omega
theorem bp_pt {u v : Int} (h1 : 0 ≤ u ∧ u ≤ 100) (h2 : 0 ≤ v ∧ v ≤ 100) : BP 7 (Kqy4.pt u v) := ⟨bi7 h1, bi7 h2, bi7 (x := 1) ⟨by decide, by decide⟩⟩
theorem bp_p1 {m : Both} (h : Ok4 m) : BP 7 (Kqy4.p1 m) := bp_pt h.1 h.2.1
theorem bp_p2 {m : Both} (h : Ok4 m) : BP 7 (Kqy4.p2 m) := bp_pt h.2.2.1 h.2.2.2
theorem bp_zero : BP 7 (0, 0, 0) := ⟨bi7 ⟨by decide, by decide⟩, bi7 ⟨by decide, by decide⟩, bi7 ⟨by decide, by decide⟩⟩
abbrev Four := Pt × Pt × Pt × Pt
def BF (f : Four) : Prop := BP 7 f.1 ∧ BP 7 f.2.1 ∧ BP 7 f.2.2.1 ∧ BP 7 f.2.2.2
theorem bf_four {l : List Both} {g : Both → Pt} (h : ∀ m ∈ l, BP 7 (g m)) : BF (Kqy4.four l g) := by
  have one : ∀ i : Nat, BP 7 (match l[i]? with | some m => g m | none => (0, 0, 0)) := fun i => by
    cases e : l[i]? with
    | none => exact bp_zero
    | some m => exact h m (List.mem_of_getElem? e)
  exact ⟨one 0, one 1, one 2, one 3⟩
theorem DOk.f1 {d : Desk} (h : DOk d) : BF (Kqy4.four d.floor Kqy4.p1) := bf_four fun m hm => bp_p1 (h.fl m hm)
theorem DOk.f2 {d : Desk} (h : DOk d) : BF (Kqy4.four d.floor Kqy4.p2) := bf_four fun m hm => bp_p2 (h.fl m hm)
theorem bp_weighed {f : Four} (h : BF f) : BP 31 (Kqy4.weighed f).1 ∧ BP 31 (Kqy4.weighed f).2.1 ∧ BP 31 (Kqy4.weighed f).2.2 := by
  obtain ⟨a, b, c, d⟩ := f
  obtain ⟨ha, hb, hc, hd⟩ := h
  exact ⟨(BP.times (BP.det hd hb hc) ha).mono (by decide), (BP.times (BP.det ha hd hc) hb).mono (by decide), (BP.times (BP.det ha hb hd) hc).mono (by decide)⟩
theorem bp_view {f g : Four} {n : Nat} {x : Pt} (h : BF f) (h' : BF g) (hx : BP n x) : BP (n + 98) (Kqy4.view f g x) := by
  obtain ⟨a1, a2, a3⟩ := bp_weighed h
  obtain ⟨b1, b2, b3⟩ := bp_weighed h'
  have e := BP.together (a := (Kqy4.weighed g).1) (b := (Kqy4.weighed g).2.1) (c := (Kqy4.weighed g).2.2) b1 b2 b3 (BP.parts (a := (Kqy4.weighed f).1) (b := (Kqy4.weighed f).2.1) (c := (Kqy4.weighed f).2.2) a1 a2 a3 hx)
  exact BP.mono e (by omega)
theorem bp_across {d : Desk} {n : Nat} {x : Pt} (h : DOk d) (hx : BP n x) : BP (n + 98) (Kqy4.across d x) := bp_view h.f1 h.f2 hx
theorem bp_back {d : Desk} {n : Nat} {x : Pt} (h : DOk d) (hx : BP n x) : BP (n + 98) (Kqy4.back d x) := bp_view h.f2 h.f1 hx
theorem bp_line {d : Desk} {m : Both} (h : DOk d) (hm : Ok4 m) : BP 113 (Kqy4.lineOf d m) := (BP.cross (bp_across h (bp_p1 hm)) (bp_p2 hm)).mono (by decide)
theorem bp_stand {d : Desk} (h : DOk d) : BP 227 (Kqy4.stand d) := by
  unfold Kqy4.stand
  cases e0 : d.off[0]? with
  | none => exact bp_zero.mono (by decide)
  | some a =>
    cases e1 : d.off[1]? with
    | none => exact bp_zero.mono (by decide)
    | some b => exact (BP.cross (bp_line h (h.th a (List.mem_of_getElem? e0))) (bp_line h (h.th b (List.mem_of_getElem? e1)))).mono (by decide)

/-! ### what a desk that lacks points is worth -/
theorem det_zero (p q : Pt) : Kqy4.det p q (0, 0, 0) = 0 := by
  unfold Kqy4.det Kqy4.dot
  simp
theorem few_floor {d : Desk} (h : d.floor.length < 4) : Kqy4.floorsGood d = false := by
  have e : d.floor[3]? = none := List.getElem?_eq_none (by omega)
  have z : (Kqy4.four d.floor Kqy4.p1).2.2.2 = (0, 0, 0) := by
    show (match d.floor[3]? with | some m => Kqy4.p1 m | none => (0, 0, 0)) = (0, 0, 0)
    rw [e]
  unfold Kqy4.floorsGood
  have g : Kqy4.good (Kqy4.four d.floor Kqy4.p1) = false := by
    cases hh : Kqy4.good (Kqy4.four d.floor Kqy4.p1) with
    | false => rfl
    | true =>
      have q := (good_outs (Kqy4.four d.floor Kqy4.p1).1 (Kqy4.four d.floor Kqy4.p1).2.1 (Kqy4.four d.floor Kqy4.p1).2.2.1 (Kqy4.four d.floor Kqy4.p1).2.2.2).mp hh 0 (by decide)
      rw [z] at q
      exact absurd (det_zero _ _) q
  rw [g]
  rfl
theorem few_off {d : Desk} (h : d.off.length < 2) : Kqy4.ready d = false := by
  have e : d.off[1]? = none := List.getElem?_eq_none (by omega)
  have z : Kqy4.stand d = (0, 0, 0) := by
    unfold Kqy4.stand
    rw [e]
    cases d.off[0]? <;> rfl
  unfold Kqy4.ready
  rw [z]
  show (Kqy4.floorsGood d && false) = false
  rw [Bool.and_false]
theorem ready_floor {d : Desk} (h : Kqy4.ready d = true) : Kqy4.floorsGood d = true ∧ 4 ≤ d.floor.length ∧ 2 ≤ d.off.length := by
  have h1 : Kqy4.floorsGood d = true := by
    unfold Kqy4.ready at h
    exact (Bool.and_eq_true_iff.mp h).1
  refine ⟨h1, ?_, ?_⟩
  · by_cases c : d.floor.length < 4
    · rw [few_floor c] at h1
      cases h1
    · omega
  · by_cases c : d.off.length < 2
    · rw [few_off c] at h
      cases h
    · omega
theorem good_floor {d : Desk} (h1 : Kqy4.floorsGood d = true) : 4 ≤ d.floor.length := by
  by_cases c : d.floor.length < 4
  · rw [few_floor c] at h1
    cases h1
  · omega
def L4f (H : Hp) (l : Addr) (f : Four) : Prop := L4 H l f.1 f.2.1 f.2.2.1 f.2.2.2
theorem cut4 (x0 x1 x2 x3 : V) (r : List V) : cutV (x0 :: x1 :: x2 :: x3 :: r) none (some 4) = [x0, x1, x2, x3] := by
  unfold cutV
  rw [show (some (4 : Int)) = some ((4 : Nat) : Int) from rfl, HT.sIx_nat, HT.sIx_none]
  have : min 4 (x0 :: x1 :: x2 :: x3 :: r).length = 4 := by simp
  rw [this]
  rfl
theorem four_of {l : List Both} {g : Both → Pt} {m0 m1 m2 m3 : Both} {r : List Both} (e : l = m0 :: m1 :: m2 :: m3 :: r) : Kqy4.four l g = (g m0, g m1, g m2, g m3) := by
  subst e
  rfl

section
variable {P : Program} {w : World} {K : PySem.W.Frag} {mg : Str → Option Value} {base : Heap} {C : Addr}

/-! ### __init__, begin -/
abbrev s_Room_init : Stmt := inClass (top 18) 0
theorem sc_Room_init : FnScope ["self"] ["self"] (defScope s_Room_init) := ⟨rfl, rfl, rfl, by decide +kernel, rfl, by decide +kernel, by decide +kernel⟩
def spInit (C : Addr) : Sp := fun vs H Q _ => ∃ (p dx : Addr), vs = [.ref p] ∧ H p = some (.ins C dx []) ∧
  ∀ (H' : Hp) l1 l2, RoomAt C H' p l1 l2 false ⟨[], []⟩ → H l1 = none → H l2 = none → (∀ b o, H b = some o → b ≠ p → H' b = some o) → Q .non H'
theorem put_here {f : Str} {v x : V} {r : List (Str × V)} : putF f v ((f, x) :: r) = (f, v) :: r := if_pos rfl
theorem put_past {f g : Str} {v x : V} {r : List (Str × V)} (h : ¬ g = f) : putF f v ((g, x) :: r) = (g, x) :: putF f v r := if_neg h
theorem rf_new (b : Bool) (l1 l2 : Addr) : putF "things" (.ref l2) (putF "floor_points" (.ref l1) (putF "started" (.bl b) [])) = rf b l1 l2 := by
  show putF "things" (.ref l2) (putF "floor_points" (.ref l1) [("started", .bl b)]) = _
  rw [put_past (by decide +kernel)]
  show putF "things" (.ref l2) [("started", .bl b), ("floor_points", .ref l1)] = _
  rw [put_past (by decide +kernel), put_past (by decide +kernel)]
  rfl
theorem pr_init (G : GdI K C "Room.__init__" s_Room_init) (T : Txt K C) : PrI P w K mg base C 1 ["self"] (spInit C) := by
  obtain ⟨f, fd, g, F⟩ := G.ex
  refine ⟨f, fd, g, F.binds (fun _ _ _ _ _ _ us hl => match us, hl with | [_], _ => rfl), F.ok sc_Room_init (fun vs H Q E h => ?_) (fun cdv A outer s H vs Q E hr h => ?_)⟩
  · obtain ⟨p, dx, rfl, _⟩ := h
    rfl
  · obtain ⟨p, dx, rfl, hp, k⟩ := h
    refine ⟨_, (pss_cons (ps_fld (pv 0) pe_bl rfl)
      (pss_cons (ps_fld (pv 0) (pe_lst pa_nil) rfl)
      (pss_one (ps_fld (pv 0) (pe_lst pa_nil) rfl)))), ?_⟩
    refine ⟨_, rfl, p, C, dx, [], rfl, hp, T.cl, T.nS, (by show 0 < 1000; decide), ?_⟩
    refine ⟨Nat.zero_le _, fun l1 hl1 => ?_⟩
    have n1 : p ≠ l1 := ne_of_none upd_same hl1
    have hp1 : upd (upd H p (.ins C dx (putF "started" (.bl false) []))) l1 (.lst []) p = some (.ins C dx (putF "started" (.bl false) [])) := by
      rw [upd_ne n1]
      exact upd_same
    refine ⟨_, rfl, p, C, dx, _, rfl, hp1, T.cl, T.nF, (by show 1 < 1000; decide), ?_⟩
    refine ⟨Nat.zero_le _, fun l2 hl2 => ?_⟩
    have n2 : p ≠ l2 := ne_of_none upd_same hl2
    have e1 : (upd (upd (upd H p (.ins C dx (putF "started" (.bl false) []))) l1 (.lst [])) p (.ins C dx (putF "floor_points" (.ref l1) (putF "started" (.bl false) [])))) l1 = some (.lst []) := by
      rw [upd_ne n1.symm]
      exact upd_same
    have n12 : l1 ≠ l2 := ne_of_none e1 hl2
    refine ⟨_, rfl, p, C, dx, _, rfl, (by rw [upd_ne n2]; exact upd_same), T.cl, T.nT, (by show 2 < 1000; decide), ?_⟩
    have f1 : H l1 = none := by
      rw [upd_ne n1.symm] at hl1
      exact hl1
    have f2 : H l2 = none := by
      rw [upd_ne n2.symm, upd_ne n12.symm, upd_ne n2.symm] at hl2
      exact hl2
    refine k _ l1 l2 ⟨⟨dx, ?_⟩, ⟨[], ?_, rfl, fun j a m h => by simp at h⟩, ⟨[], ?_, rfl, fun j a m h => by simp at h⟩, n12⟩ f1 f2 (fun b o e hb => ?_)
    · rw [rf_new]
      exact upd_same
    · rw [upd_ne n1.symm, upd_ne n12, upd_ne n1.symm]
      exact upd_same
    · rw [upd_ne n2.symm]
      exact upd_same
    · rw [upd_ne hb, upd_ne (ne_of_none e f2), upd_ne hb, upd_ne (ne_of_none e f1), upd_ne hb]
      exact e
end
end Rt

set_option Elab.async false
set_option maxRecDepth 100000
set_option maxHeartbeats 4000000
set_option linter.unusedVariables false
namespace Rt
open PySem PySem.Spec PyProof.Rows L2
open Kqy4 (Both Desk)
section
variable {P : Program} {w : World} {K : PySem.W.Frag} {mg : Str → Option Value} {base : Heap} {C : Addr}

theorem rf_put1 (b c : Bool) (l1 l2 : Addr) : putF "started" (.bl c) (rf b l1 l2) = rf c l1 l2 := put_here
theorem rf_put2 (b : Bool) (l1 l2 x : Addr) : putF "floor_points" (.ref x) (rf b l1 l2) = rf b x l2 := (put_past (by decide +kernel)).trans (congrArg _ put_here)
theorem rf_put3 (b : Bool) (l1 l2 x : Addr) : putF "things" (.ref x) (rf b l1 l2) = rf b l1 x := (put_past (by decide +kernel)).trans (congrArg _ ((put_past (by decide +kernel)).trans (congrArg _ put_here)))
abbrev s_Room_begin : Stmt := inClass (top 18) 1
theorem sc_Room_begin : FnScope ["self"] ["self"] (defScope s_Room_begin) := ⟨rfl, rfl, rfl, by decide +kernel, rfl, by decide +kernel, by decide +kernel⟩
def spBegin (C : Addr) : Sp := fun vs H Q _ => ∃ (p l1 l2 : Addr) (b : Bool) (d : Desk), vs = [.ref p] ∧ RoomAt C H p l1 l2 b d ∧
  ∀ (H' : Hp) l1 l2, RoomAt C H' p l1 l2 true ⟨[], []⟩ → H l1 = none → H l2 = none → (∀ b o, H b = some o → b ≠ p → H' b = some o) → Q .non H'
theorem pr_begin (G : GdM K C "begin" "Room.begin" s_Room_begin) (T : Txt K C) : PrM P w K mg base C 1 "begin" ["self"] (spBegin C) := by
  obtain ⟨f, fd, g, F⟩ := G.ex
  refine ⟨f, fd, g, F.binds (fun _ _ _ _ _ _ us hl => match us, hl with | [_], _ => rfl), F.ok sc_Room_begin (fun vs H Q E h => ?_) (fun cdv A outer s H vs Q E hr h => ?_)⟩
  · obtain ⟨p, l1, l2, b, d, rfl, _⟩ := h
    rfl
  · obtain ⟨p, m1, m2, b, d, rfl, R, k⟩ := h
    obtain ⟨dx, hp⟩ := R.ins
    refine ⟨_, (pss_cons (ps_fld (pv 0) pe_bl rfl)
      (pss_cons (ps_fld (pv 0) (pe_lst pa_nil) rfl)
      (pss_one (ps_fld (pv 0) (pe_lst pa_nil) rfl)))), ?_⟩
    refine ⟨_, rfl, p, C, dx, _, rfl, hp, T.cl, T.nS, (by show 3 < 1000; decide), ?_⟩
    rw [rf_put1]
    refine ⟨Nat.zero_le _, fun l1 hl1 => ?_⟩
    have n1 : p ≠ l1 := ne_of_none upd_same hl1
    have hp1 : upd (upd H p (.ins C dx (rf true m1 m2))) l1 (.lst []) p = some (.ins C dx (rf true m1 m2)) := by
      rw [upd_ne n1]
      exact upd_same
    refine ⟨_, rfl, p, C, dx, _, rfl, hp1, T.cl, T.nF, (by show 3 < 1000; decide), ?_⟩
    rw [rf_put2]
    refine ⟨Nat.zero_le _, fun l2 hl2 => ?_⟩
    have n2 : p ≠ l2 := ne_of_none upd_same hl2
    have e1 : (upd (upd (upd H p (.ins C dx (rf true m1 m2))) l1 (.lst [])) p (.ins C dx (rf true l1 m2))) l1 = some (.lst []) := by
      rw [upd_ne n1.symm]
      exact upd_same
    have n12 : l1 ≠ l2 := ne_of_none e1 hl2
    refine ⟨_, rfl, p, C, dx, _, rfl, (by rw [upd_ne n2]; exact upd_same), T.cl, T.nT, (by show 3 < 1000; decide), ?_⟩
    rw [rf_put3]
    have f1 : H l1 = none := by
      rw [upd_ne n1.symm] at hl1
      exact hl1
    have f2 : H l2 = none := by
      rw [upd_ne n2.symm, upd_ne n12.symm, upd_ne n2.symm] at hl2
      exact hl2
    refine k _ l1 l2 ⟨⟨dx, upd_same⟩, ⟨[], ?_, rfl, fun j a m h => by simp at h⟩, ⟨[], ?_, rfl, fun j a m h => by simp at h⟩, n12⟩ f1 f2 (fun b o e hb => ?_)
    · rw [upd_ne n1.symm, upd_ne n12, upd_ne n1.symm]
      exact upd_same
    · rw [upd_ne n2.symm]
      exact upd_same
    · rw [upd_ne hb, upd_ne (ne_of_none e f2), upd_ne hb, upd_ne (ne_of_none e f1), upd_ne hb]
      exact e

/-! ### in_first, in_second -/
/-- what is seen, told by a tuple or by a list -/
def QdB (H : Hp) (a : Addr) (m : Both) : Prop := H a = some (.tup (quad m)) ∨ H a = some (.lst (quad m))
theorem QdB.mono {H H' : Hp} {a : Addr} {m : Both} (s : Same H H') (h : QdB H a m) : QdB H' a m := by
  rcases h with h | h
  · exact .inl (s _ _ h)
  · exact .inr (s _ _ h)
def spIn (g : Both → Pt) : Sp := fun vs H Q _ => ∃ (a : Addr) (m : Both), vs = [.ref a] ∧ QdB H a m ∧ ∀ H' r, Same H H' → PtAt H' r (g m) → Q (.ref r) H'
abbrev s_in_first : Stmt := top 16
theorem sc_in_first : FnScope ["seen"] ["seen"] (defScope s_in_first) := ⟨rfl, rfl, rfl, by decide +kernel, rfl, by decide +kernel, by decide +kernel⟩
theorem pr_in_first (G : Gd K mg "in_first" s_in_first) : Pr P w K mg base 1 "in_first" ["seen"] (spIn Kqy4.p1) := by
  obtain ⟨f, fd, g, F⟩ := G.ex
  refine ⟨f, fd, g, F.kp, F.binds (fun _ _ _ _ _ _ us hl => match us, hl with | [_], _ => rfl), F.ok sc_in_first (fun vs H Q E h => ?_) (fun cdv A outer s H vs Q E hr h => ?_)⟩
  · obtain ⟨a, m, rfl, _⟩ := h
    rfl
  · obtain ⟨a, m, rfl, ha, k⟩ := h
    refine ⟨_, (pss_one (ps_ret (pe_tup (pa_cons (pe_ix (r := rIxB K) ix_both (pv 0) pe_int (fun _ _ => rfl)) (pa_cons (pe_ix (r := rIxB K) ix_both (pv 0) pe_int (fun _ _ => rfl)) (pa_cons pe_int pa_nil)))))), ?_⟩
    exact v_tup3 (v_ixB (val_var rfl) val_c ha rfl) (v_ixB (val_var rfl) val_c ha rfl) val_c (fun r hr => k _ r (Same.new hr) upd_same)
abbrev s_in_second : Stmt := top 17
theorem sc_in_second : FnScope ["seen"] ["seen"] (defScope s_in_second) := ⟨rfl, rfl, rfl, by decide +kernel, rfl, by decide +kernel, by decide +kernel⟩
theorem pr_in_second (G : Gd K mg "in_second" s_in_second) : Pr P w K mg base 1 "in_second" ["seen"] (spIn Kqy4.p2) := by
  obtain ⟨f, fd, g, F⟩ := G.ex
  refine ⟨f, fd, g, F.kp, F.binds (fun _ _ _ _ _ _ us hl => match us, hl with | [_], _ => rfl), F.ok sc_in_second (fun vs H Q E h => ?_) (fun cdv A outer s H vs Q E hr h => ?_)⟩
  · obtain ⟨a, m, rfl, _⟩ := h
    rfl
  · obtain ⟨a, m, rfl, ha, k⟩ := h
    refine ⟨_, (pss_one (ps_ret (pe_tup (pa_cons (pe_ix (r := rIxB K) ix_both (pv 0) pe_int (fun _ _ => rfl)) (pa_cons (pe_ix (r := rIxB K) ix_both (pv 0) pe_int (fun _ _ => rfl)) (pa_cons pe_int pa_nil)))))), ?_⟩
    exact v_tup3 (v_ixB (val_var rfl) val_c ha rfl) (v_ixB (val_var rfl) val_c ha rfl) val_c (fun r hr => k _ r (Same.new hr) upd_same)

/-! ### the corners -/
abbrev s_Room_first_corners : Stmt := inClass (top 18) 2
theorem sc_Room_first_corners : FnScope ["self", "seen"] ["self"] (defScope s_Room_first_corners) := ⟨rfl, rfl, rfl, by decide +kernel, rfl, by decide +kernel, by decide +kernel⟩
abbrev s_Room_second_corners : Stmt := inClass (top 18) 3
theorem sc_Room_second_corners : FnScope ["self", "seen"] ["self"] (defScope s_Room_second_corners) := ⟨rfl, rfl, rfl, by decide +kernel, rfl, by decide +kernel, by decide +kernel⟩
def spCorners (C : Addr) (g : Both → Pt) : Sp := fun vs H Q _ => ∃ (p l1 l2 : Addr) (b : Bool) (d : Desk), vs = [.ref p] ∧ RoomAt C H p l1 l2 b d ∧ 4 ≤ d.floor.length ∧
  ∀ (H' : Hp) l, Same H H' → L4f H' l (Kqy4.four d.floor g) → Q (.ref l) H'
def pick (m0 m1 m2 m3 : Both) : Nat → Both
  | 0 => m0
  | 1 => m1
  | 2 => m2
  | _ => m3
/-- the first four, one by one -/
theorem first4 {H : Hp} {l : Addr} {ms : List Both} (h : BsAt H l ms) (h4 : 4 ≤ ms.length) : ∃ a0 a1 a2 a3 r m0 m1 m2 m3 q, H l = some (.lst (V.ref a0 :: V.ref a1 :: V.ref a2 :: V.ref a3 :: r)) ∧ ms = m0 :: m1 :: m2 :: m3 :: q ∧
    H a0 = some (.tup (quad m0)) ∧ H a1 = some (.tup (quad m1)) ∧ H a2 = some (.tup (quad m2)) ∧ H a3 = some (.tup (quad m3)) := by
  obtain ⟨as, h1, h2, h3⟩ := h
  match ms, as, h4, h2 with
  | m0 :: m1 :: m2 :: m3 :: q, a0 :: a1 :: a2 :: a3 :: r, _, _ =>
    exact ⟨a0, a1, a2, a3, r.map V.ref, m0, m1, m2, m3, q, h1, rfl, h3 0 _ _ rfl rfl, h3 1 _ _ rfl rfl, h3 2 _ _ rfl rfl, h3 3 _ _ rfl rfl⟩
theorem pr_first_corners (G : GdM K C "first_corners" "Room.first_corners" s_Room_first_corners) (T : Txt K C) (D_in_first : Pr P w K mg base 1 "in_first" ["seen"] (spIn Kqy4.p1)) : PrM P w K mg base C 2 "first_corners" ["self"] (spCorners C Kqy4.p1) := by
  obtain ⟨f, fd, g, F⟩ := G.ex
  refine ⟨f, fd, g, F.binds (fun _ _ _ _ _ _ us hl => match us, hl with | [_], _ => rfl), F.ok sc_Room_first_corners (fun vs H Q E h => ?_) (fun cdv A outer s H vs Q E hr h => ?_)⟩
  · obtain ⟨p, l1, l2, b, d, rfl, _⟩ := h
    rfl
  · obtain ⟨p, l1, l2, b, d, rfl, R, h4, k⟩ := h
    obtain ⟨dx, hp⟩ := R.ins
    obtain ⟨a0, a1, a2, a3, r, m0, m1, m2, m3, q, hl, em, t0, t1, t2, t3⟩ := first4 R.fl h4
    refine ⟨_, (pss_one (ps_ret (pe_lc (own := [("seen", 1)]) (g := gName 1) (tt := tYes) rfl sc_Room_first_corners.nd (pi_list (pe_slice sl_list (pe_fld (pv 0) rfl) po_none (po_some pe_int))) (blkOk_by (own := [("seen", 1)]) (N := ["self", "seen"]) (sc := defScope s_Room_first_corners) (by decide +kernel)) (fun _ _ _ _ _ => pg_name (i := 1) sc_Room_first_corners.nd rfl (Or.inl rfl)) (fun _ _ _ _ _ => pts_nil) (fun _ _ _ _ _ => (pe_callD D_in_first (hr.mono (by decide)) (pa_cons (pv 1) pa_nil)))))), ?_⟩
    refine ⟨_, rfl, p, C, dx, _, _, rfl, hp, T.cl, T.nF, rf_floor _ _ _, 4, rfl, l1, _, rfl, SqL.of hl, fun c hc => ?_⟩
    rw [cut4]
    have s1 : Same H (upd H c (.lst [.ref a0, .ref a1, .ref a2, .ref a3])) := Same.new hc
    refine ⟨c, rfl, ⟨_, SqL.of upd_same⟩, fun D hD => lc_listT (xs := [.ref a0, .ref a1, .ref a2, .ref a3]) hD (SqL.of upd_same) (fun i => tri (Kqy4.p1 (pick m0 m1 m2 m3 i))) (by show 4 ≤ 1000; decide) (fun _ => rfl) (fun i x H' Q' hi s3 kk => ?_) (fun H' as s3 h5 h6 h7 => ?_)⟩
    · have s13 := s1.trans s3
      obtain ⟨a, m, rfl, ht, em⟩ : ∃ a m, x = .ref a ∧ H' a = some (.tup (quad m)) ∧ (pick m0 m1 m2 m3 i) = m := by
        match i, hi with
        | 0, hi => exact ⟨a0, m0, (Option.some.inj hi).symm, s13 _ _ t0, rfl⟩
        | 1, hi => exact ⟨a1, m1, (Option.some.inj hi).symm, s13 _ _ t1, rfl⟩
        | 2, hi => exact ⟨a2, m2, (Option.some.inj hi).symm, s13 _ _ t2, rfl⟩
        | 3, hi => exact ⟨a3, m3, (Option.some.inj hi).symm, s13 _ _ t3, rfl⟩
      rw [em] at kk
      exact ⟨_, rfl, a, m, rfl, .inl ht, fun H'' r s4 hr' => kk H'' r s4 hr'⟩
    · match as, h6 with
      | [x, y, z, u], _ =>
        refine k H' D (s1.trans s3) ?_
        rw [four_of em]
        exact ⟨x, y, z, u, h5, h7 0 x rfl, h7 1 y rfl, h7 2 z rfl, h7 3 u rfl⟩
theorem pr_second_corners (G : GdM K C "second_corners" "Room.second_corners" s_Room_second_corners) (T : Txt K C) (D_in_second : Pr P w K mg base 1 "in_second" ["seen"] (spIn Kqy4.p2)) : PrM P w K mg base C 2 "second_corners" ["self"] (spCorners C Kqy4.p2) := by
  obtain ⟨f, fd, g, F⟩ := G.ex
  refine ⟨f, fd, g, F.binds (fun _ _ _ _ _ _ us hl => match us, hl with | [_], _ => rfl), F.ok sc_Room_second_corners (fun vs H Q E h => ?_) (fun cdv A outer s H vs Q E hr h => ?_)⟩
  · obtain ⟨p, l1, l2, b, d, rfl, _⟩ := h
    rfl
  · obtain ⟨p, l1, l2, b, d, rfl, R, h4, k⟩ := h
    obtain ⟨dx, hp⟩ := R.ins
    obtain ⟨a0, a1, a2, a3, r, m0, m1, m2, m3, q, hl, em, t0, t1, t2, t3⟩ := first4 R.fl h4
    refine ⟨_, (pss_one (ps_ret (pe_lc (own := [("seen", 1)]) (g := gName 1) (tt := tYes) rfl sc_Room_second_corners.nd (pi_list (pe_slice sl_list (pe_fld (pv 0) rfl) po_none (po_some pe_int))) (blkOk_by (own := [("seen", 1)]) (N := ["self", "seen"]) (sc := defScope s_Room_second_corners) (by decide +kernel)) (fun _ _ _ _ _ => pg_name (i := 1) sc_Room_second_corners.nd rfl (Or.inl rfl)) (fun _ _ _ _ _ => pts_nil) (fun _ _ _ _ _ => (pe_callD D_in_second (hr.mono (by decide)) (pa_cons (pv 1) pa_nil)))))), ?_⟩
    refine ⟨_, rfl, p, C, dx, _, _, rfl, hp, T.cl, T.nF, rf_floor _ _ _, 4, rfl, l1, _, rfl, SqL.of hl, fun c hc => ?_⟩
    rw [cut4]
    have s1 : Same H (upd H c (.lst [.ref a0, .ref a1, .ref a2, .ref a3])) := Same.new hc
    refine ⟨c, rfl, ⟨_, SqL.of upd_same⟩, fun D hD => lc_listT (xs := [.ref a0, .ref a1, .ref a2, .ref a3]) hD (SqL.of upd_same) (fun i => tri (Kqy4.p2 (pick m0 m1 m2 m3 i))) (by show 4 ≤ 1000; decide) (fun _ => rfl) (fun i x H' Q' hi s3 kk => ?_) (fun H' as s3 h5 h6 h7 => ?_)⟩
    · have s13 := s1.trans s3
      obtain ⟨a, m, rfl, ht, em⟩ : ∃ a m, x = .ref a ∧ H' a = some (.tup (quad m)) ∧ (pick m0 m1 m2 m3 i) = m := by
        match i, hi with
        | 0, hi => exact ⟨a0, m0, (Option.some.inj hi).symm, s13 _ _ t0, rfl⟩
        | 1, hi => exact ⟨a1, m1, (Option.some.inj hi).symm, s13 _ _ t1, rfl⟩
        | 2, hi => exact ⟨a2, m2, (Option.some.inj hi).symm, s13 _ _ t2, rfl⟩
        | 3, hi => exact ⟨a3, m3, (Option.some.inj hi).symm, s13 _ _ t3, rfl⟩
      rw [em] at kk
      exact ⟨_, rfl, a, m, rfl, .inl ht, fun H'' r s4 hr' => kk H'' r s4 hr'⟩
    · match as, h6 with
      | [x, y, z, u], _ =>
        refine k H' D (s1.trans s3) ?_
        rw [four_of em]
        exact ⟨x, y, z, u, h5, h7 0 x rfl, h7 1 y rfl, h7 2 z rfl, h7 3 u rfl⟩
end
end Rt

set_option Elab.async false
set_option maxRecDepth 100000
set_option maxHeartbeats 4000000
set_option linter.unusedVariables false
namespace Rt
open PySem PySem.Spec PyProof.Rows L2
open Kqy4 (Both Desk)
section
variable {P : Program} {w : World} {K : PySem.W.Frag} {mg : Str → Option Value} {base : Heap} {C : Addr}
theorem BsAt.len {H : Hp} {l : Addr} {ms : List Both} (h : BsAt H l ms) : ∃ xs : List V, H l = some (.lst xs) ∧ xs.length = ms.length := by
  obtain ⟨as, h1, h2, _⟩ := h
  exact ⟨_, h1, by rw [List.length_map]; exact h2⟩

/-! ### floors_known -/
abbrev s_Room_floors_known : Stmt := inClass (top 18) 4
theorem sc_Room_floors_known : FnScope ["self"] ["self"] (defScope s_Room_floors_known) := ⟨rfl, rfl, rfl, by decide +kernel, rfl, by decide +kernel, by decide +kernel⟩
def spKnown (C : Addr) : Sp := fun vs H Q _ => ∃ (p l1 l2 : Addr) (b : Bool) (d : Desk), vs = [.ref p] ∧ RoomAt C H p l1 l2 b d ∧ DOk d ∧
  ∀ (H' : Hp), Same H H' → Q (.bl (Kqy4.floorsGood d)) H'
theorem pr_floors_known (G : GdM K C "floors_known" "Room.floors_known" s_Room_floors_known) (B : Bt mg) (T : Txt K C) (D_no_three_on_a_line : Pr P w K mg base 3 "no_three_on_a_line" ["four"] spNoThree)
    (D_Room_first_corners : PrM P w K mg base C 2 "first_corners" ["self"] (spCorners C Kqy4.p1)) (D_Room_second_corners : PrM P w K mg base C 2 "second_corners" ["self"] (spCorners C Kqy4.p2)) :
    PrM P w K mg base C 4 "floors_known" ["self"] (spKnown C) := by
  obtain ⟨f, fd, g, F⟩ := G.ex
  refine ⟨f, fd, g, F.binds (fun _ _ _ _ _ _ us hl => match us, hl with | [_], _ => rfl), F.ok sc_Room_floors_known (fun vs H Q E h => ?_) (fun cdv A outer s H vs Q E hr h => ?_)⟩
  · obtain ⟨p, l1, l2, b, d, rfl, _⟩ := h
    rfl
  · obtain ⟨p, l1, l2, b, d, rfl, R, ok, k⟩ := h
    obtain ⟨dx, hp⟩ := R.ins
    obtain ⟨xs, hx, hxl⟩ := R.fl.len
    refine ⟨_, (pss_cons (ps_if (pt_cmpR op_lt (pe_callB call_len_seq (by rfl) B.len PySem.boot_len (pa_cons (pe_fld (pv 0) rfl) pa_nil)) pe_int (nomark _)) (pss_one (ps_ret pe_bl)) pss_nil)
      (pss_one (ps_ret (pe_and (pe_callD D_no_three_on_a_line (hr.mono (by decide)) (pa_cons (pe_methD0 (pv 0) T.cl D_Room_first_corners (hr.mono (by decide))) pa_nil)) (pe_one (pe_callD D_no_three_on_a_line (hr.mono (by decide)) (pa_cons (pe_methD0 (pv 0) T.cl D_Room_second_corners (hr.mono (by decide))) pa_nil))))))), ?_⟩
    refine ⟨_, rfl, p, C, dx, _, _, rfl, hp, T.cl, T.nF, rf_floor _ _ _, l1, xs, rfl, .inl (SqL.of hx), _, _, rfl, rfl, _, rfl, ?_⟩
    by_cases c : d.floor.length < 4
    · refine ite2 (fun _ => ?_) (fun h => absurd (decide_eq_true (by omega)) h)
      have kk := k H (Same.refl H)
      rw [few_floor c] at kk
      exact kk
    · refine ite2 (fun h => absurd (of_decide_eq_true h) (by omega)) (fun _ => ?_)
      have h4 : 4 ≤ d.floor.length := by omega
      refine ⟨_, rfl, p, dx, _, rfl, hp, rf_no (by decide +kernel) (by decide +kernel) (by decide +kernel), p, l1, l2, b, d, rfl, R, h4, fun H1 l s1 hl => ?_⟩
      have o1 := ok.f1
      refine ⟨l, _, _, _, _, rfl, hl, o1.1.mono (by decide), o1.2.1.mono (by decide), o1.2.2.1.mono (by decide), o1.2.2.2.mono (by decide), fun H2 s2 => ⟨_, rfl, ?_⟩⟩
      have s12 := s1.trans s2
      have ef : Kqy4.floorsGood d = (Kqy4.good (Kqy4.four d.floor Kqy4.p1) && Kqy4.good (Kqy4.four d.floor Kqy4.p2)) := rfl
      cases e : Kqy4.good (Kqy4.four d.floor Kqy4.p1) with
      | false =>
        rw [e, Bool.false_and] at ef
        refine iteF ?_
        have kk := k H2 s12
        rw [ef] at kk
        exact kk
      | true =>
        rw [e, Bool.true_and] at ef
        refine iteT ?_
        have R2 := R.mono s12
        obtain ⟨dx2, hp2⟩ := R2.ins
        refine ⟨_, rfl, p, dx2, _, rfl, hp2, rf_no (by decide +kernel) (by decide +kernel) (by decide +kernel), p, l1, l2, b, d, rfl, R2, h4, fun H3 l' s3 hl' => ?_⟩
        have o2 := ok.f2
        refine ⟨l', _, _, _, _, rfl, hl', o2.1.mono (by decide), o2.2.1.mono (by decide), o2.2.2.1.mono (by decide), o2.2.2.2.mono (by decide), fun H4 s4 => ?_⟩
        have kk := k H4 ((s12.trans s3).trans s4)
        rw [ef] at kk
        exact kk

/-! ### across, back -/
abbrev s_Room_across : Stmt := inClass (top 18) 5
theorem sc_Room_across : FnScope ["self", "point"] ["self", "point"] (defScope s_Room_across) := ⟨rfl, rfl, rfl, by decide +kernel, rfl, by decide +kernel, by decide +kernel⟩
abbrev s_Room_back : Stmt := inClass (top 18) 6
theorem sc_Room_back : FnScope ["self", "point"] ["self", "point"] (defScope s_Room_back) := ⟨rfl, rfl, rfl, by decide +kernel, rfl, by decide +kernel, by decide +kernel⟩
def spView (C : Addr) (g : Desk → Pt → Pt) : Sp := fun vs H Q _ => ∃ (p a l1 l2 : Addr) (b : Bool) (d : Desk) (x : Pt), vs = [.ref p, .ref a] ∧ RoomAt C H p l1 l2 b d ∧ DOk d ∧ 4 ≤ d.floor.length ∧ PtAt H a x ∧ BP 1000 x ∧
  ∀ (H' : Hp) r, Same H H' → PtAt H' r (g d x) → Q (.ref r) H'
theorem BF.m {f : Four} (h : BF f) : BP 300 f.1 ∧ BP 300 f.2.1 ∧ BP 300 f.2.2.1 ∧ BP 300 f.2.2.2 := ⟨h.1.mono (by decide), h.2.1.mono (by decide), h.2.2.1.mono (by decide), h.2.2.2.mono (by decide)⟩
theorem pr_Room_across (G : GdM K C "across" "Room.across" s_Room_across) (T : Txt K C) (D_weighed : Pr P w K mg base 4 "weighed" ["four"] spWeighed) (D_carried : Pr P w K mg base 4 "carried" ["point", "before", "after"] spCarried)
    (D_Room_first_corners : PrM P w K mg base C 2 "first_corners" ["self"] (spCorners C Kqy4.p1)) (D_Room_second_corners : PrM P w K mg base C 2 "second_corners" ["self"] (spCorners C Kqy4.p2)) :
    PrM P w K mg base C 5 "across" ["self", "point"] (spView C Kqy4.across) := by
  obtain ⟨f, fd, g, F⟩ := G.ex
  refine ⟨f, fd, g, F.binds (fun _ _ _ _ _ _ us hl => match us, hl with | [_, _], _ => rfl), F.ok sc_Room_across (fun vs H Q E h => ?_) (fun cdv A outer s H vs Q E hr h => ?_)⟩
  · obtain ⟨p, a, l1, l2, b, d, x, rfl, _⟩ := h
    rfl
  · obtain ⟨p, a, l1, l2, b, d, x, rfl, R, ok, h4, ha, bx, k⟩ := h
    obtain ⟨dx, hp⟩ := R.ins
    refine ⟨_, (pss_one (ps_ret (pe_callD D_carried (hr.mono (by decide)) (pa_cons (pv 1) (pa_cons (pe_callD D_weighed (hr.mono (by decide)) (pa_cons (pe_methD0 (pv 0) T.cl D_Room_first_corners (hr.mono (by decide))) pa_nil)) (pa_cons (pe_callD D_weighed (hr.mono (by decide)) (pa_cons (pe_methD0 (pv 0) T.cl D_Room_second_corners (hr.mono (by decide))) pa_nil)) pa_nil)))))), ?_⟩
    refine ⟨_, rfl, _, rfl, p, dx, _, rfl, hp, rf_no (by decide +kernel) (by decide +kernel) (by decide +kernel), p, l1, l2, b, d, rfl, R, h4, fun H1 l s1 hl => ?_⟩
    obtain ⟨o1, o2, o3, o4⟩ := ok.f1.m
    refine ⟨l, _, _, _, _, rfl, hl, o1, o2, o3, o4, fun H2 m s2 hm => ?_⟩
    have s12 := s1.trans s2
    have R2 := R.mono s12
    obtain ⟨dx2, hp2⟩ := R2.ins
    refine ⟨_, rfl, p, dx2, _, rfl, hp2, rf_no (by decide +kernel) (by decide +kernel) (by decide +kernel), p, l1, l2, b, d, rfl, R2, h4, fun H3 l' s3 hl' => ?_⟩
    obtain ⟨u1, u2, u3, u4⟩ := ok.f2.m
    refine ⟨l', _, _, _, _, rfl, hl', u1, u2, u3, u4, fun H4 m' s4 hm' => ?_⟩
    obtain ⟨a1, a2, a3⟩ := bp_weighed ok.f1
    obtain ⟨b1, b2, b3⟩ := bp_weighed ok.f2
    have s34 := s3.trans s4
    exact ⟨a, m, m', x, _, _, _, _, _, _, rfl, ha.mono (s12.trans s34), hm.mono s34, hm', bx, a1.mono (by decide), a2.mono (by decide), a3.mono (by decide), b1.mono (by decide), b2.mono (by decide), b3.mono (by decide),
      fun H5 r s5 hr' => k H5 r ((s12.trans s34).trans s5) hr'⟩
theorem pr_Room_back (G : GdM K C "back" "Room.back" s_Room_back) (T : Txt K C) (D_weighed : Pr P w K mg base 4 "weighed" ["four"] spWeighed) (D_carried : Pr P w K mg base 4 "carried" ["point", "before", "after"] spCarried)
    (D_Room_first_corners : PrM P w K mg base C 2 "first_corners" ["self"] (spCorners C Kqy4.p1)) (D_Room_second_corners : PrM P w K mg base C 2 "second_corners" ["self"] (spCorners C Kqy4.p2)) :
    PrM P w K mg base C 5 "back" ["self", "point"] (spView C Kqy4.back) := by
  obtain ⟨f, fd, g, F⟩ := G.ex
  refine ⟨f, fd, g, F.binds (fun _ _ _ _ _ _ us hl => match us, hl with | [_, _], _ => rfl), F.ok sc_Room_back (fun vs H Q E h => ?_) (fun cdv A outer s H vs Q E hr h => ?_)⟩
  · obtain ⟨p, a, l1, l2, b, d, x, rfl, _⟩ := h
    rfl
  · obtain ⟨p, a, l1, l2, b, d, x, rfl, R, ok, h4, ha, bx, k⟩ := h
    obtain ⟨dx, hp⟩ := R.ins
    refine ⟨_, (pss_one (ps_ret (pe_callD D_carried (hr.mono (by decide)) (pa_cons (pv 1) (pa_cons (pe_callD D_weighed (hr.mono (by decide)) (pa_cons (pe_methD0 (pv 0) T.cl D_Room_second_corners (hr.mono (by decide))) pa_nil)) (pa_cons (pe_callD D_weighed (hr.mono (by decide)) (pa_cons (pe_methD0 (pv 0) T.cl D_Room_first_corners (hr.mono (by decide))) pa_nil)) pa_nil)))))), ?_⟩
    refine ⟨_, rfl, _, rfl, p, dx, _, rfl, hp, rf_no (by decide +kernel) (by decide +kernel) (by decide +kernel), p, l1, l2, b, d, rfl, R, h4, fun H1 l s1 hl => ?_⟩
    obtain ⟨o1, o2, o3, o4⟩ := ok.f2.m
    refine ⟨l, _, _, _, _, rfl, hl, o1, o2, o3, o4, fun H2 m s2 hm => ?_⟩
    have s12 := s1.trans s2
    have R2 := R.mono s12
    obtain ⟨dx2, hp2⟩ := R2.ins
    refine ⟨_, rfl, p, dx2, _, rfl, hp2, rf_no (by decide +kernel) (by decide +kernel) (by decide +kernel), p, l1, l2, b, d, rfl, R2, h4, fun H3 l' s3 hl' => ?_⟩
    obtain ⟨u1, u2, u3, u4⟩ := ok.f1.m
    refine ⟨l', _, _, _, _, rfl, hl', u1, u2, u3, u4, fun H4 m' s4 hm' => ?_⟩
    obtain ⟨a1, a2, a3⟩ := bp_weighed ok.f2
    obtain ⟨b1, b2, b3⟩ := bp_weighed ok.f1
    have s34 := s3.trans s4
    exact ⟨a, m, m', x, _, _, _, _, _, _, rfl, ha.mono (s12.trans s34), hm.mono s34, hm', bx, a1.mono (by decide), a2.mono (by decide), a3.mono (by decide), b1.mono (by decide), b2.mono (by decide), b3.mono (by decide),
      fun H5 r s5 hr' => k H5 r ((s12.trans s34).trans s5) hr'⟩

/-! ### shift_line -/
abbrev s_Room_shift_line : Stmt := inClass (top 18) 7
theorem sc_Room_shift_line : FnScope ["self", "seen"] ["self", "seen"] (defScope s_Room_shift_line) := ⟨rfl, rfl, rfl, by decide +kernel, rfl, by decide +kernel, by decide +kernel⟩
def spLine (C : Addr) : Sp := fun vs H Q _ => ∃ (p a l1 l2 : Addr) (b : Bool) (d : Desk) (m : Both), vs = [.ref p, .ref a] ∧ RoomAt C H p l1 l2 b d ∧ DOk d ∧ 4 ≤ d.floor.length ∧ QdB H a m ∧ Ok4 m ∧
  ∀ (H' : Hp) r, Same H H' → PtAt H' r (Kqy4.lineOf d m) → Q (.ref r) H'
theorem BsAt.at {H : Hp} {l : Addr} {ms : List Both} {n : Nat} {m : Both} (h : BsAt H l ms) (e : ms[n]? = some m) : ∃ xs a, H l = some (.lst xs) ∧ xs[n]? = some (.ref a) ∧ H a = some (.tup (quad m)) := by
  obtain ⟨as, h1, h2, h3⟩ := h
  have hn : n < ms.length := (List.getElem?_eq_some_iff.mp e).1
  have ea : as[n]? = some as[n] := List.getElem?_eq_getElem (by omega)
  exact ⟨_, as[n], h1, by rw [List.getElem?_map, ea]; rfl, h3 n _ m ea e⟩
theorem pr_shift_line (G : GdM K C "shift_line" "Room.shift_line" s_Room_shift_line) (T : Txt K C) (D_cross : Pr P w K mg base 1 "cross" ["one", "other"] spCross) (D_in_first : Pr P w K mg base 1 "in_first" ["seen"] (spIn Kqy4.p1)) (D_in_second : Pr P w K mg base 1 "in_second" ["seen"] (spIn Kqy4.p2))
    (D_Room_across : PrM P w K mg base C 5 "across" ["self", "point"] (spView C Kqy4.across)) :
    PrM P w K mg base C 6 "shift_line" ["self", "seen"] (spLine C) := by
  obtain ⟨f, fd, g, F⟩ := G.ex
  refine ⟨f, fd, g, F.binds (fun _ _ _ _ _ _ us hl => match us, hl with | [_, _], _ => rfl), F.ok sc_Room_shift_line (fun vs H Q E h => ?_) (fun cdv A outer s H vs Q E hr h => ?_)⟩
  · obtain ⟨p, a, l1, l2, b, d, m, rfl, _⟩ := h
    rfl
  · obtain ⟨p, a, l1, l2, b, d, m, rfl, R, ok, h4, hq, om, k⟩ := h
    obtain ⟨dx, hp⟩ := R.ins
    refine ⟨_, (pss_one (ps_ret (pe_callD D_cross (hr.mono (by decide)) (pa_cons (pe_methD (pv 0) T.cl D_Room_across (hr.mono (by decide)) (pa_cons (pe_callD D_in_first (hr.mono (by decide)) (pa_cons (pv 1) pa_nil)) pa_nil)) (pa_cons (pe_callD D_in_second (hr.mono (by decide)) (pa_cons (pv 1) pa_nil)) pa_nil))))), ?_⟩
    refine ⟨_, rfl, p, dx, _, rfl, hp, rf_no (by decide +kernel) (by decide +kernel) (by decide +kernel), _, rfl, a, m, rfl, hq, fun H1 t s1 ht => ?_⟩
    refine ⟨p, t, l1, l2, b, d, Kqy4.p1 m, rfl, R.mono s1, ok, h4, ht, (bp_p1 om).mono (by decide), fun H2 r s2 hr2 => ?_⟩
    have s12 := s1.trans s2
    refine ⟨_, rfl, a, m, rfl, hq.mono s12, fun H3 u s3 hu => ?_⟩
    exact ⟨r, u, _, Kqy4.p2 m, rfl, hr2.mono s3, .inl hu, (bp_across ok (bp_p1 om)).sm (by decide), (bp_p2 om).sm (by decide), fun H4 q s4 _ hq => k H4 q ((s12.trans s3).trans s4) hq⟩

/-! ### stand -/
abbrev s_Room_stand : Stmt := inClass (top 18) 9
theorem sc_Room_stand : FnScope ["self"] ["self"] (defScope s_Room_stand) := ⟨rfl, rfl, rfl, by decide +kernel, rfl, by decide +kernel, by decide +kernel⟩
def spStand (C : Addr) : Sp := fun vs H Q _ => ∃ (p l1 l2 : Addr) (b : Bool) (d : Desk), vs = [.ref p] ∧ RoomAt C H p l1 l2 b d ∧ DOk d ∧ 4 ≤ d.floor.length ∧ 2 ≤ d.off.length ∧
  ∀ (H' : Hp) r, Same H H' → PtAt H' r (Kqy4.stand d) → Q (.ref r) H'
theorem pr_Room_stand (G : GdM K C "stand" "Room.stand" s_Room_stand) (T : Txt K C) (D_cross : Pr P w K mg base 1 "cross" ["one", "other"] spCross) (D_Room_shift_line : PrM P w K mg base C 6 "shift_line" ["self", "seen"] (spLine C)) :
    PrM P w K mg base C 7 "stand" ["self"] (spStand C) := by
  obtain ⟨f, fd, g, F⟩ := G.ex
  refine ⟨f, fd, g, F.binds (fun _ _ _ _ _ _ us hl => match us, hl with | [_], _ => rfl), F.ok sc_Room_stand (fun vs H Q E h => ?_) (fun cdv A outer s H vs Q E hr h => ?_)⟩
  · obtain ⟨p, l1, l2, b, d, rfl, _⟩ := h
    rfl
  · obtain ⟨p, l1, l2, b, d, rfl, R, ok, h4, h2, k⟩ := h
    obtain ⟨dx, hp⟩ := R.ins
    obtain ⟨m0, e0⟩ : ∃ m, d.off[0]? = some m := ⟨_, List.getElem?_eq_getElem (by omega)⟩
    obtain ⟨m1, e1⟩ : ∃ m, d.off[1]? = some m := ⟨_, List.getElem?_eq_getElem (by omega)⟩
    have es : Kqy4.stand d = Kqy4.cross (Kqy4.lineOf d m0) (Kqy4.lineOf d m1) := by
      unfold Kqy4.stand
      rw [e0, e1]
    rw [es] at k
    have o0 := ok.th m0 (List.mem_of_getElem? e0)
    have o1 := ok.th m1 (List.mem_of_getElem? e1)
    obtain ⟨xs, a0, hx, hn, ht⟩ := R.th.at e0
    refine ⟨_, (pss_one (ps_ret (pe_callD D_cross (hr.mono (by decide)) (pa_cons (pe_methD (pv 0) T.cl D_Room_shift_line (hr.mono (by decide)) (pa_cons (pe_ix (r := rIxL K) ix_list (pe_fld (pv 0) rfl) pe_int (fun _ _ => rfl)) pa_nil)) (pa_cons (pe_methD (pv 0) T.cl D_Room_shift_line (hr.mono (by decide)) (pa_cons (pe_ix (r := rIxL K) ix_list (pe_fld (pv 0) rfl) pe_int (fun _ _ => rfl)) pa_nil)) pa_nil))))), ?_⟩
    refine ⟨_, rfl, p, dx, _, rfl, hp, rf_no (by decide +kernel) (by decide +kernel) (by decide +kernel), _, rfl, p, C, dx, _, _, rfl, hp, T.cl, T.nT, rf_things _ _ _, l2, xs, _, _, rfl, rfl, SqL.of hx, atI_nat (j := 0) hn, p, a0, l1, l2, b, d, m0, rfl, R, ok, h4, .inl ht, o0, fun H1 x s1 hx1 => ?_⟩
    have R1 := R.mono s1
    obtain ⟨dx1, hp1⟩ := R1.ins
    obtain ⟨ys, a1, hy, hny, hty⟩ := R1.th.at e1
    refine ⟨_, rfl, p, dx1, _, rfl, hp1, rf_no (by decide +kernel) (by decide +kernel) (by decide +kernel), _, rfl, p, C, dx1, _, _, rfl, hp1, T.cl, T.nT, rf_things _ _ _, l2, ys, _, _, rfl, rfl, SqL.of hy, atI_nat (j := 1) hny, p, a1, l1, l2, b, d, m1, rfl, R1, ok, h4, .inl hty, o1, fun H2 y s2 hy2 => ?_⟩
    exact ⟨x, y, _, _, rfl, hx1.mono s2, .inl hy2, (bp_line ok o0).sm (by decide), (bp_line ok o1).sm (by decide), fun H3 z s3 _ hz => k H3 z ((s1.trans s2).trans s3) hz⟩

/-! ### is_ready -/
abbrev s_Room_is_ready : Stmt := inClass (top 18) 10
theorem sc_Room_is_ready : FnScope ["self"] ["self"] (defScope s_Room_is_ready) := ⟨rfl, rfl, rfl, by decide +kernel, rfl, by decide +kernel, by decide +kernel⟩
def spReady (C : Addr) : Sp := fun vs H Q _ => ∃ (p l1 l2 : Addr) (b : Bool) (d : Desk), vs = [.ref p] ∧ RoomAt C H p l1 l2 b d ∧ DOk d ∧
  ∀ (H' : Hp), Same H H' → Q (.bl (Kqy4.ready d)) H'
theorem pr_is_ready (G : GdM K C "is_ready" "Room.is_ready" s_Room_is_ready) (B : Bt mg) (T : Txt K C) (D_is_nowhere : Pr P w K mg base 1 "is_nowhere" ["numbers"] spNowhere)
    (D_Room_floors_known : PrM P w K mg base C 4 "floors_known" ["self"] (spKnown C)) (D_Room_stand : PrM P w K mg base C 7 "stand" ["self"] (spStand C)) :
    PrM P w K mg base C 8 "is_ready" ["self"] (spReady C) := by
  obtain ⟨f, fd, g, F⟩ := G.ex
  refine ⟨f, fd, g, F.binds (fun _ _ _ _ _ _ us hl => match us, hl with | [_], _ => rfl), F.ok sc_Room_is_ready (fun vs H Q E h => ?_) (fun cdv A outer s H vs Q E hr h => ?_)⟩
  · obtain ⟨p, l1, l2, b, d, rfl, _⟩ := h
    rfl
  · obtain ⟨p, l1, l2, b, d, rfl, R, ok, k⟩ := h
    obtain ⟨dx, hp⟩ := R.ins
    obtain ⟨xs, hx, hxl⟩ := R.th.len
    refine ⟨_, (pss_cons (ps_if (PW.pt (pw_or (pt_cmpR op_lt (pe_callB call_len_seq (by rfl) B.len PySem.boot_len (pa_cons (pe_fld (pv 0) rfl) pa_nil)) pe_int (nomark _)) (pw_or1 (pt_not (pt_val (pe_methD0 (pv 0) T.cl D_Room_floors_known (hr.mono (by decide)))))))) (pss_one (ps_ret pe_bl)) pss_nil)
      (pss_one (ps_ret (pe_not (pe_callD D_is_nowhere (hr.mono (by decide)) (pa_cons (pe_methD0 (pv 0) T.cl D_Room_stand (hr.mono (by decide))) pa_nil)))))), ?_⟩
    refine ⟨_, rfl, p, C, dx, _, _, rfl, hp, T.cl, T.nT, rf_things _ _ _, l2, xs, rfl, .inl (SqL.of hx), _, _, rfl, rfl, _, rfl, ?_⟩
    by_cases c : d.off.length < 2
    · refine ite2 (fun _ => ?_) (fun h => absurd (decide_eq_true (by omega)) h)
      refine iteT ?_
      have kk := k H (Same.refl H)
      rw [few_off c] at kk
      exact kk
    · refine ite2 (fun h => absurd (of_decide_eq_true h) (by omega)) (fun _ => ?_)
      have h2 : 2 ≤ d.off.length := by omega
      refine ⟨_, rfl, p, dx, _, rfl, hp, rf_no (by decide +kernel) (by decide +kernel) (by decide +kernel), p, l1, l2, b, d, rfl, R, ok, fun H1 s1 => ⟨_, rfl, ?_⟩⟩
      have er : Kqy4.ready d = (Kqy4.floorsGood d && !(Kqy4.zero (Kqy4.stand d))) := rfl
      cases e : Kqy4.floorsGood d with
      | false =>
        rw [e, Bool.false_and] at er
        refine iteT ?_
        have kk := k H1 s1
        rw [er] at kk
        exact kk
      | true =>
        rw [e, Bool.true_and] at er
        refine iteF ?_
        have R1 := R.mono s1
        obtain ⟨dx1, hp1⟩ := R1.ins
        refine ⟨_, rfl, p, dx1, _, rfl, hp1, rf_no (by decide +kernel) (by decide +kernel) (by decide +kernel), p, l1, l2, b, d, rfl, R1, ok, good_floor e, h2, fun H2 x s2 hx => ?_⟩
        refine ⟨x, _, rfl, hx, _, rfl, ?_⟩
        have kk := k H2 (s1.trans s2)
        rw [er] at kk
        exact kk
end
end Rt

set_option Elab.async false
set_option maxRecDepth 100000
set_option maxHeartbeats 4000000
set_option linter.unusedVariables false
namespace Rt
open PySem PySem.Spec PyProof.Rows L2
open Kqy4 (Both Desk)
theorem bp_track {d : Desk} {n : Nat} {x : Pt} (h : DOk d) (hx : BP n x) : BP (227 + (n + 98) + 1) (Kqy4.track d x) := BP.cross (bp_stand h) (bp_across h hx)
/-- the first picture's track -/
def track1 (d : Desk) (x : Pt) : Pt := Kqy4.cross (Kqy4.back d (Kqy4.stand d)) (Kqy4.back d x)
theorem bp_track1 {d : Desk} {n : Nat} {x : Pt} (h : DOk d) (hx : BP n x) : BP (227 + 98 + (n + 98) + 1) (track1 d x) := BP.cross (bp_back h (bp_stand h)) (bp_back h hx)
/-! ### all of what is kept, one by one -/
theorem range_bl (ms : List Both) (g : Both → Bool) : (List.range ms.length).map (fun i => V.bl (match ms[i]? with | some m => g m | none => true)) = (ms.map g).map V.bl := by
  apply List.ext_getElem?
  intro i
  rw [List.getElem?_map, List.getElem?_map, List.getElem?_map]
  by_cases hi : i < ms.length
  · rw [List.getElem?_range hi, List.getElem?_eq_getElem hi]
    simp only [Option.map_some, List.getElem?_eq_getElem hi]
  · rw [List.getElem?_eq_none (by rw [List.length_range]; omega), List.getElem?_eq_none (by omega)]
    rfl
theorem lc_bs {te : TE} {k : Nat} {σ : L2.St} {H1 : Hp} {D l : Addr} {Qd : Hp → Prop} {K : PySem.W.Frag} {ms : List Both} {as : List Addr} (hD : H1 D = none) (h1 : H1 l = some (.lst (as.map V.ref))) (h2 : as.length = ms.length) (h3 : ∀ (j : Nat) (a : Addr) (m : Both), as[j]? = some a → ms[j]? = some m → H1 a = some (.tup (quad m))) (g : Both → Bool) (hn : ms.length ≤ 1000)
    (hw : ∀ v, wipe ((wipe σ [k]).set k v) [k] = wipe σ [k])
    (hv : ∀ m a H' (Q : VK), m ∈ ms → H' a = some (.tup (quad m)) → Same H1 H' → (∀ H'', Same H' H'' → Q (.bl (g m)) H'') → te ((wipe σ [k]).set k (some (.ref a))) H' Q)
    (hd : ∀ H', Same H1 H' → H' D = some (.lst ((ms.map g).map V.bl)) → Qd H') :
    ∃ W : Nat → Nat → Hp → Prop, (∃ m, W 0 m (upd H1 D (.lst []))) ∧ ∀ i m H, W i m H →
      ((Itl K l).stop i H ∧ Qd H) ∨ ((Itl K l).go i H ∧ ∃ Nx : Hp → Prop, (∀ H', Nx H' → ∃ m', m' < m ∧ W (i + 1) m' H') ∧ ∀ x H', (Itl K l).yld i H x H' → gName k x (wipe σ [k]) H' fun σ2 H2 => wipe σ2 [k] = wipe σ [k] ∧ tYes σ2 H2 fun b H3 =>
        if b = true then te σ2 H3 fun y H4 => ∃ acc, H4 D = some (.lst acc) ∧ acc.length < sizeLine ∧ Nx (upd H4 D (.lst (acc ++ [y]))) else Nx H3) := by
  refine lc_listS hD (SqL.of h1) (fun i => V.bl (match ms[i]? with | some m => g m | none => true)) (by rw [List.length_map, h2]; exact hn) hw (fun i x H' Q hi s kk => ?_) (fun H' s hl => hd H' s ?_)
  · rw [List.getElem?_map] at hi
    cases ea : as[i]? with
    | none => rw [ea] at hi; cases hi
    | some a =>
      rw [ea] at hi
      have ex : V.ref a = x := Option.some.inj hi
      subst ex
      have hlt : i < ms.length := by
        have := (List.getElem?_eq_some_iff.mp ea).1
        omega
      have em : ms[i]? = some ms[i] := List.getElem?_eq_getElem hlt
      simp only [em] at kk
      exact hv ms[i] a H' Q (List.getElem_mem hlt) (s _ _ (h3 i a _ ea em)) s kk
  · rw [hl, List.length_map, h2, range_bl]

section
variable {P : Program} {w : World} {K : PySem.W.Frag} {mg : Str → Option Value} {base : Heap} {C : Addr}
/-! ### lies -/
abbrev s_Room_lies : Stmt := inClass (top 18) 8
theorem sc_Room_lies : FnScope ["self", "seen"] ["self", "seen"] (defScope s_Room_lies) := ⟨rfl, rfl, rfl, by decide +kernel, rfl, by decide +kernel, by decide +kernel⟩
def spLies (C : Addr) : Sp := fun vs H Q _ => ∃ (p a l1 l2 : Addr) (b : Bool) (d : Desk) (m : Both), vs = [.ref p, .ref a] ∧ RoomAt C H p l1 l2 b d ∧ DOk d ∧ 4 ≤ d.floor.length ∧ QdB H a m ∧ Ok4 m ∧
  ∀ (H' : Hp), Same H H' → Q (.bl (Kqy4.zero (Kqy4.lineOf d m))) H'
theorem pr_Room_lies (G : GdM K C "lies" "Room.lies" s_Room_lies) (T : Txt K C) (D_is_nowhere : Pr P w K mg base 1 "is_nowhere" ["numbers"] spNowhere) (D_Room_shift_line : PrM P w K mg base C 6 "shift_line" ["self", "seen"] (spLine C)) :
    PrM P w K mg base C 7 "lies" ["self", "seen"] (spLies C) := by
  obtain ⟨f, fd, g, F⟩ := G.ex
  refine ⟨f, fd, g, F.binds (fun _ _ _ _ _ _ us hl => match us, hl with | [_, _], _ => rfl), F.ok sc_Room_lies (fun vs H Q E h => ?_) (fun cdv A outer s H vs Q E hr h => ?_)⟩
  · obtain ⟨p, a, l1, l2, b, d, m, rfl, _⟩ := h
    rfl
  · obtain ⟨p, a, l1, l2, b, d, m, rfl, R, ok, h4, hq, om, k⟩ := h
    obtain ⟨dx, hp⟩ := R.ins
    refine ⟨_, (pss_one (ps_ret (pe_callD D_is_nowhere (hr.mono (by decide)) (pa_cons (pe_methD (pv 0) T.cl D_Room_shift_line (hr.mono (by decide)) (pa_cons (pv 1) pa_nil)) pa_nil)))), ?_⟩
    exact ⟨_, rfl, p, dx, _, rfl, hp, rf_no (by decide +kernel) (by decide +kernel) (by decide +kernel), _, rfl, p, a, l1, l2, b, d, m, rfl, R, ok, h4, hq, om, fun H1 r s1 hr1 => ⟨r, _, rfl, hr1, k H1 s1⟩⟩

/-! ### track, first_track -/
abbrev s_Room_track : Stmt := inClass (top 18) 11
theorem sc_Room_track : FnScope ["self", "point"] ["self", "point"] (defScope s_Room_track) := ⟨rfl, rfl, rfl, by decide +kernel, rfl, by decide +kernel, by decide +kernel⟩
abbrev s_Room_first_track : Stmt := inClass (top 18) 12
theorem sc_Room_first_track : FnScope ["self", "point"] ["self", "point"] (defScope s_Room_first_track) := ⟨rfl, rfl, rfl, by decide +kernel, rfl, by decide +kernel, by decide +kernel⟩
def spTrack (C : Addr) (g : Desk → Pt → Pt) : Sp := fun vs H Q _ => ∃ (p a l1 l2 : Addr) (b : Bool) (d : Desk) (x : Pt), vs = [.ref p, .ref a] ∧ RoomAt C H p l1 l2 b d ∧ DOk d ∧ 4 ≤ d.floor.length ∧ 2 ≤ d.off.length ∧ PtAt H a x ∧ BP 7 x ∧
  ∀ (H' : Hp) r, Same H H' → PtAt H' r (g d x) → Q (.ref r) H'
theorem pr_Room_track (G : GdM K C "track" "Room.track" s_Room_track) (T : Txt K C) (D_cross : Pr P w K mg base 1 "cross" ["one", "other"] spCross) (D_Room_stand : PrM P w K mg base C 7 "stand" ["self"] (spStand C)) (D_Room_across : PrM P w K mg base C 5 "across" ["self", "point"] (spView C Kqy4.across)) :
    PrM P w K mg base C 8 "track" ["self", "point"] (spTrack C Kqy4.track) := by
  obtain ⟨f, fd, g, F⟩ := G.ex
  refine ⟨f, fd, g, F.binds (fun _ _ _ _ _ _ us hl => match us, hl with | [_, _], _ => rfl), F.ok sc_Room_track (fun vs H Q E h => ?_) (fun cdv A outer s H vs Q E hr h => ?_)⟩
  · obtain ⟨p, a, l1, l2, b, d, x, rfl, _⟩ := h
    rfl
  · obtain ⟨p, a, l1, l2, b, d, x, rfl, R, ok, h4, h2, ha, bx, k⟩ := h
    obtain ⟨dx, hp⟩ := R.ins
    refine ⟨_, (pss_one (ps_ret (pe_callD D_cross (hr.mono (by decide)) (pa_cons (pe_methD0 (pv 0) T.cl D_Room_stand (hr.mono (by decide))) (pa_cons (pe_methD (pv 0) T.cl D_Room_across (hr.mono (by decide)) (pa_cons (pv 1) pa_nil)) pa_nil))))), ?_⟩
    refine ⟨_, rfl, p, dx, _, rfl, hp, rf_no (by decide +kernel) (by decide +kernel) (by decide +kernel), p, l1, l2, b, d, rfl, R, ok, h4, h2, fun H1 r s1 hr1 => ?_⟩
    have R1 := R.mono s1
    obtain ⟨dx1, hp1⟩ := R1.ins
    refine ⟨_, rfl, p, dx1, _, rfl, hp1, rf_no (by decide +kernel) (by decide +kernel) (by decide +kernel), _, rfl, p, a, l1, l2, b, d, x, rfl, R1, ok, h4, ha.mono s1, bx.mono (by decide), fun H2 q s2 hq2 => ?_⟩
    exact ⟨r, q, _, _, rfl, hr1.mono s2, .inl hq2, (bp_stand ok).sm (by decide), (bp_across ok bx).sm (by decide), fun H3 z s3 _ hz => k H3 z ((s1.trans s2).trans s3) hz⟩
theorem pr_first_track (G : GdM K C "first_track" "Room.first_track" s_Room_first_track) (T : Txt K C) (D_cross : Pr P w K mg base 1 "cross" ["one", "other"] spCross) (D_Room_stand : PrM P w K mg base C 7 "stand" ["self"] (spStand C)) (D_Room_back : PrM P w K mg base C 5 "back" ["self", "point"] (spView C Kqy4.back)) :
    PrM P w K mg base C 8 "first_track" ["self", "point"] (spTrack C track1) := by
  obtain ⟨f, fd, g, F⟩ := G.ex
  refine ⟨f, fd, g, F.binds (fun _ _ _ _ _ _ us hl => match us, hl with | [_, _], _ => rfl), F.ok sc_Room_first_track (fun vs H Q E h => ?_) (fun cdv A outer s H vs Q E hr h => ?_)⟩
  · obtain ⟨p, a, l1, l2, b, d, x, rfl, _⟩ := h
    rfl
  · obtain ⟨p, a, l1, l2, b, d, x, rfl, R, ok, h4, h2, ha, bx, k⟩ := h
    obtain ⟨dx, hp⟩ := R.ins
    refine ⟨_, (pss_one (ps_ret (pe_callD D_cross (hr.mono (by decide)) (pa_cons (pe_methD (pv 0) T.cl D_Room_back (hr.mono (by decide)) (pa_cons (pe_methD0 (pv 0) T.cl D_Room_stand (hr.mono (by decide))) pa_nil)) (pa_cons (pe_methD (pv 0) T.cl D_Room_back (hr.mono (by decide)) (pa_cons (pv 1) pa_nil)) pa_nil))))), ?_⟩
    refine ⟨_, rfl, p, dx, _, rfl, hp, rf_no (by decide +kernel) (by decide +kernel) (by decide +kernel), _, rfl, p, dx, _, rfl, hp, rf_no (by decide +kernel) (by decide +kernel) (by decide +kernel), p, l1, l2, b, d, rfl, R, ok, h4, h2, fun H1 r s1 hr1 => ?_⟩
    refine ⟨p, r, l1, l2, b, d, _, rfl, R.mono s1, ok, h4, hr1, (bp_stand ok).mono (by decide), fun H2 t s2 ht2 => ?_⟩
    have s12 := s1.trans s2
    have R2 := R.mono s12
    obtain ⟨dx2, hp2⟩ := R2.ins
    refine ⟨_, rfl, p, dx2, _, rfl, hp2, rf_no (by decide +kernel) (by decide +kernel) (by decide +kernel), _, rfl, p, a, l1, l2, b, d, x, rfl, R2, ok, h4, ha.mono s12, bx.mono (by decide), fun H3 q s3 hq3 => ?_⟩
    exact ⟨t, q, _, _, rfl, ht2.mono s3, .inl hq3, (bp_back ok (bp_stand ok)).sm (by decide), (bp_back ok bx).sm (by decide), fun H4 z s4 _ hz => k H4 z ((s12.trans s3).trans s4) hz⟩

/-! ### may -/
abbrev s_Room_may : Stmt := inClass (top 18) 13
theorem sc_Room_may : FnScope ["self", "seen"] ["self", "seen"] (defScope s_Room_may) := ⟨rfl, rfl, rfl, by decide +kernel, rfl, by decide +kernel, by decide +kernel⟩
/-- on the track -/
def onTrack (d : Desk) (m : Both) : Bool := decide (Kqy4.dot (Kqy4.track d (Kqy4.p1 m)) (Kqy4.p2 m) = 0)
def spMay (C : Addr) : Sp := fun vs H Q _ => ∃ (p a l1 l2 : Addr) (b : Bool) (d : Desk) (m : Both), vs = [.ref p, .ref a] ∧ RoomAt C H p l1 l2 b d ∧ DOk d ∧ 4 ≤ d.floor.length ∧ 2 ≤ d.off.length ∧ QdB H a m ∧ Ok4 m ∧
  ∀ (H' : Hp), Same H H' → Q (.bl (onTrack d m)) H'
theorem pr_Room_may (G : GdM K C "may" "Room.may" s_Room_may) (T : Txt K C) (D_dot : Pr P w K mg base 1 "dot" ["one", "other"] spDot) (D_in_first : Pr P w K mg base 1 "in_first" ["seen"] (spIn Kqy4.p1)) (D_in_second : Pr P w K mg base 1 "in_second" ["seen"] (spIn Kqy4.p2))
    (D_Room_track : PrM P w K mg base C 8 "track" ["self", "point"] (spTrack C Kqy4.track)) : PrM P w K mg base C 9 "may" ["self", "seen"] (spMay C) := by
  obtain ⟨f, fd, g, F⟩ := G.ex
  refine ⟨f, fd, g, F.binds (fun _ _ _ _ _ _ us hl => match us, hl with | [_, _], _ => rfl), F.ok sc_Room_may (fun vs H Q E h => ?_) (fun cdv A outer s H vs Q E hr h => ?_)⟩
  · obtain ⟨p, a, l1, l2, b, d, m, rfl, _⟩ := h
    rfl
  · obtain ⟨p, a, l1, l2, b, d, m, rfl, R, ok, h4, h2, hq, om, k⟩ := h
    obtain ⟨dx, hp⟩ := R.ins
    refine ⟨_, (pss_one (ps_ret (pe_cmpR op_eq (pe_callD D_dot (hr.mono (by decide)) (pa_cons (pe_methD (pv 0) T.cl D_Room_track (hr.mono (by decide)) (pa_cons (pe_callD D_in_first (hr.mono (by decide)) (pa_cons (pv 1) pa_nil)) pa_nil)) (pa_cons (pe_callD D_in_second (hr.mono (by decide)) (pa_cons (pv 1) pa_nil)) pa_nil))) pe_int (nomark _)))), ?_⟩
    refine ⟨_, rfl, p, dx, _, rfl, hp, rf_no (by decide +kernel) (by decide +kernel) (by decide +kernel), _, rfl, a, m, rfl, hq, fun H1 t s1 ht => ?_⟩
    refine ⟨p, t, l1, l2, b, d, Kqy4.p1 m, rfl, R.mono s1, ok, h4, h2, ht, bp_p1 om, fun H2 r s2 hr2 => ?_⟩
    have s12 := s1.trans s2
    refine ⟨_, rfl, a, m, rfl, hq.mono s12, fun H3 u s3 hu => ?_⟩
    refine ⟨r, u, _, Kqy4.p2 m, rfl, hr2.mono s3, hu, (bp_track ok (bp_p1 om)).sm (by decide), (bp_p2 om).sm (by decide), rfl, ?_⟩
    rw [int_eq]
    exact k H3 (s12.trans s3)

/-! ### fits -/
abbrev s_Room_fits : Stmt := inClass (top 18) 14
theorem sc_Room_fits : FnScope ["self", "seen"] ["self"] (defScope s_Room_fits) := ⟨rfl, rfl, rfl, by decide +kernel, rfl, by decide +kernel, by decide +kernel⟩
def spFits (C : Addr) : Sp := fun vs H Q _ => ∃ (p l1 l2 : Addr) (b : Bool) (d : Desk), vs = [.ref p] ∧ RoomAt C H p l1 l2 b d ∧ DOk d ∧ 4 ≤ d.floor.length ∧ 2 ≤ d.off.length ∧
  ∀ (H' : Hp), Same H H' → Q (.bl (d.floor.all (fun m => Kqy4.zero (Kqy4.lineOf d m)) && d.off.all (onTrack d))) H'
theorem all_id (ms : List Both) (g : Both → Bool) : (ms.map g).all id = ms.all g := by
  rw [List.all_map]
  rfl
theorem pr_Room_fits (G : GdM K C "fits" "Room.fits" s_Room_fits) (B : Bt mg) (T : Txt K C) (D_Room_lies : PrM P w K mg base C 7 "lies" ["self", "seen"] (spLies C)) (D_Room_may : PrM P w K mg base C 9 "may" ["self", "seen"] (spMay C)) :
    PrM P w K mg base C 10 "fits" ["self"] (spFits C) := by
  obtain ⟨f, fd, g, F⟩ := G.ex
  refine ⟨f, fd, g, F.binds (fun _ _ _ _ _ _ us hl => match us, hl with | [_], _ => rfl), F.ok sc_Room_fits (fun vs H Q E h => ?_) (fun cdv A outer s H vs Q E hr h => ?_)⟩
  · obtain ⟨p, l1, l2, b, d, rfl, _⟩ := h
    rfl
  · obtain ⟨p, l1, l2, b, d, rfl, R, ok, h4, h2, k⟩ := h
    obtain ⟨dx, hp⟩ := R.ins
    obtain ⟨as, f1, f2, f3⟩ := R.fl
    refine ⟨_, (pss_one (ps_ret (pe_and (pe_callB (cr_all rfl) (by rfl) B.all (by decide +kernel) (pa_cons (pe_lc (own := [("seen", 1)]) (g := gName 1) (tt := tYes) rfl sc_Room_fits.nd (pi_list (pe_fld (pv 0) rfl)) (blkOk_by (own := [("seen", 1)]) (N := ["self", "seen"]) (sc := defScope s_Room_fits) (by decide +kernel)) (fun _ _ _ _ _ => pg_name (i := 1) sc_Room_fits.nd rfl (Or.inl rfl)) (fun _ _ _ _ _ => pts_nil) (fun _ _ _ _ _ => (pe_methD (pv 0) T.cl D_Room_lies (hr.mono (by decide)) (pa_cons (pv 1) pa_nil)))) pa_nil)) (pe_one (pe_callB (cr_all rfl) (by rfl) B.all (by decide +kernel) (pa_cons (pe_lc (own := [("seen", 1)]) (g := gName 1) (tt := tYes) rfl sc_Room_fits.nd (pi_list (pe_fld (pv 0) rfl)) (blkOk_by (own := [("seen", 1)]) (N := ["self", "seen"]) (sc := defScope s_Room_fits) (by decide +kernel)) (fun _ _ _ _ _ => pg_name (i := 1) sc_Room_fits.nd rfl (Or.inl rfl)) (fun _ _ _ _ _ => pts_nil) (fun _ _ _ _ _ => (pe_methD (pv 0) T.cl D_Room_may (hr.mono (by decide)) (pa_cons (pv 1) pa_nil)))) pa_nil)))))), ?_⟩
    refine ⟨_, rfl, p, C, dx, _, _, rfl, hp, T.cl, T.nF, rf_floor _ _ _, l1, rfl, ⟨_, SqL.of f1⟩, fun D hD => lc_bs hD f1 f2 f3 (fun m => Kqy4.zero (Kqy4.lineOf d m)) (Nat.le_trans ok.fl6 (by decide)) (fun _ => rfl) (fun m a H' Q' hm ht s' kk => ?_) (fun H1 s1 hD1 => ?_)⟩
    · have R' := R.mono s'
      obtain ⟨dx', hp'⟩ := R'.ins
      exact ⟨_, rfl, p, dx', _, rfl, hp', rf_no (by decide +kernel) (by decide +kernel) (by decide +kernel), _, rfl, p, a, l1, l2, b, d, m, rfl, R', ok, h4, .inl ht, ok.fl m hm, fun H'' s4 => kk H'' s4⟩
    · refine ⟨D, _, rfl, SqL.of hD1, _, rfl, ?_⟩
      rw [all_id]
      cases e : d.floor.all (fun m => Kqy4.zero (Kqy4.lineOf d m)) with
      | false =>
        have kk := k H1 s1
        rw [e, Bool.false_and] at kk
        exact iteF kk
      | true =>
        refine iteT ?_
        have R1 := R.mono s1
        obtain ⟨dx1, hp1⟩ := R1.ins
        obtain ⟨bs, g1, g2, g3⟩ := R1.th
        refine ⟨_, rfl, p, C, dx1, _, _, rfl, hp1, T.cl, T.nT, rf_things _ _ _, l2, rfl, ⟨_, SqL.of g1⟩, fun D2 hD2 => lc_bs hD2 g1 g2 g3 (onTrack d) (Nat.le_trans ok.th6 (by decide)) (fun _ => rfl) (fun m a H' Q' hm ht s' kk => ?_) (fun H2 s2 hE => ?_)⟩
        · have R' := R1.mono s'
          obtain ⟨dx', hp'⟩ := R'.ins
          exact ⟨_, rfl, p, dx', _, rfl, hp', rf_no (by decide +kernel) (by decide +kernel) (by decide +kernel), _, rfl, p, a, l1, l2, b, d, m, rfl, R', ok, h4, h2, .inl ht, ok.th m hm, fun H'' s4 => kk H'' s4⟩
        · refine ⟨D2, _, rfl, SqL.of hE, ?_⟩
          rw [all_id]
          have kk := k H2 (s1.trans s2)
          rw [e, Bool.true_and] at kk
          exact kk

/-! ### lift -/
abbrev s_Room_lift : Stmt := inClass (top 18) 15
theorem sc_Room_lift : FnScope ["self", "seen"] ["self", "seen"] (defScope s_Room_lift) := ⟨rfl, rfl, rfl, by decide +kernel, rfl, by decide +kernel, by decide +kernel⟩
def lft (d : Desk) (m : Both) : Option (Int × Int) := if Kqy4.zero (Kqy4.track d (Kqy4.p1 m)) = true then none else if onTrack d m = false then none else rat (Kqy4.lineOf d m) (Kqy4.cross (Kqy4.p2 m) (Kqy4.stand d))
def spLift (C : Addr) : Sp := fun vs H Q _ => ∃ (p a l1 l2 : Addr) (b : Bool) (d : Desk) (m : Both), vs = [.ref p, .ref a] ∧ RoomAt C H p l1 l2 b d ∧ DOk d ∧ 4 ≤ d.floor.length ∧ 2 ≤ d.off.length ∧ QdB H a m ∧ Ok4 m ∧ spOpt H Q (lft d m)
theorem pr_Room_lift (G : GdM K C "lift" "Room.lift" s_Room_lift) (T : Txt K C) (D_is_nowhere : Pr P w K mg base 1 "is_nowhere" ["numbers"] spNowhere) (D_cross : Pr P w K mg base 1 "cross" ["one", "other"] spCross) (D_ratio : Pr P w K mg base 1 "ratio" ["one", "other"] spRatio)
    (D_in_first : Pr P w K mg base 1 "in_first" ["seen"] (spIn Kqy4.p1)) (D_in_second : Pr P w K mg base 1 "in_second" ["seen"] (spIn Kqy4.p2)) (D_Room_shift_line : PrM P w K mg base C 6 "shift_line" ["self", "seen"] (spLine C)) (D_Room_stand : PrM P w K mg base C 7 "stand" ["self"] (spStand C))
    (D_Room_track : PrM P w K mg base C 8 "track" ["self", "point"] (spTrack C Kqy4.track)) (D_Room_may : PrM P w K mg base C 9 "may" ["self", "seen"] (spMay C)) : PrM P w K mg base C 10 "lift" ["self", "seen"] (spLift C) := by
  obtain ⟨f, fd, g, F⟩ := G.ex
  refine ⟨f, fd, g, F.binds (fun _ _ _ _ _ _ us hl => match us, hl with | [_, _], _ => rfl), F.ok sc_Room_lift (fun vs H Q E h => ?_) (fun cdv A outer s H vs Q E hr h => ?_)⟩
  · obtain ⟨p, a, l1, l2, b, d, m, rfl, _⟩ := h
    rfl
  · obtain ⟨p, a, l1, l2, b, d, m, rfl, R, ok, h4, h2, hq, om, k1, k2⟩ := h
    obtain ⟨dx, hp⟩ := R.ins
    refine ⟨_, (pss_cons (ps_if (PW.pt (pw_or (pt_val (pe_callD D_is_nowhere (hr.mono (by decide)) (pa_cons (pe_methD (pv 0) T.cl D_Room_track (hr.mono (by decide)) (pa_cons (pe_callD D_in_first (hr.mono (by decide)) (pa_cons (pv 1) pa_nil)) pa_nil)) pa_nil))) (pw_or1 (pt_not (pt_val (pe_methD (pv 0) T.cl D_Room_may (hr.mono (by decide)) (pa_cons (pv 1) pa_nil))))))) (pss_one (ps_ret pe_non)) pss_nil)
      (pss_one (ps_ret (pe_callD D_ratio (hr.mono (by decide)) (pa_cons (pe_methD (pv 0) T.cl D_Room_shift_line (hr.mono (by decide)) (pa_cons (pv 1) pa_nil)) (pa_cons (pe_callD D_cross (hr.mono (by decide)) (pa_cons (pe_callD D_in_second (hr.mono (by decide)) (pa_cons (pv 1) pa_nil)) (pa_cons (pe_methD0 (pv 0) T.cl D_Room_stand (hr.mono (by decide))) pa_nil))) pa_nil)))))), ?_⟩
    refine ⟨_, rfl, p, dx, _, rfl, hp, rf_no (by decide +kernel) (by decide +kernel) (by decide +kernel), _, rfl, a, m, rfl, hq, fun H1 t s1 ht => ?_⟩
    refine ⟨p, t, l1, l2, b, d, Kqy4.p1 m, rfl, R.mono s1, ok, h4, h2, ht, bp_p1 om, fun H2 r s2 hr2 => ?_⟩
    have s12 := s1.trans s2
    refine ⟨r, _, rfl, hr2, _, rfl, ?_⟩
    cases ez : Kqy4.zero (Kqy4.track d (Kqy4.p1 m)) with
    | true =>
      refine iteT (iteT ?_)
      exact k1 (by unfold lft; rw [if_pos ez]) H2 s12
    | false =>
      refine iteF ?_
      have R2 := R.mono s12
      obtain ⟨dx2, hp2⟩ := R2.ins
      refine ⟨_, rfl, p, dx2, _, rfl, hp2, rf_no (by decide +kernel) (by decide +kernel) (by decide +kernel), _, rfl, p, a, l1, l2, b, d, m, rfl, R2, ok, h4, h2, hq.mono s12, om, fun H3 s3 => ⟨_, rfl, ?_⟩⟩
      have s13 := s12.trans s3
      cases eo : onTrack d m with
      | false =>
        refine iteT ?_
        exact k1 (by unfold lft; rw [if_neg (by rw [ez]; decide), if_pos eo]) H3 s13
      | true =>
        refine iteF ?_
        have el : lft d m = rat (Kqy4.lineOf d m) (Kqy4.cross (Kqy4.p2 m) (Kqy4.stand d)) := by
          unfold lft
          rw [if_neg (by rw [ez]; decide), if_neg (by rw [eo]; decide)]
        rw [el] at k1 k2
        have R3 := R.mono s13
        obtain ⟨dx3, hp3⟩ := R3.ins
        refine ⟨_, rfl, p, dx3, _, rfl, hp3, rf_no (by decide +kernel) (by decide +kernel) (by decide +kernel), _, rfl, p, a, l1, l2, b, d, m, rfl, R3, ok, h4, hq.mono s13, om, fun H4 x s4 hx4 => ?_⟩
        have s14 := s13.trans s4
        refine ⟨_, rfl, a, m, rfl, hq.mono s14, fun H5 y s5 hy5 => ?_⟩
        have s15 := s14.trans s5
        have R5 := R.mono s15
        obtain ⟨dx5, hp5⟩ := R5.ins
        refine ⟨_, rfl, p, dx5, _, rfl, hp5, rf_no (by decide +kernel) (by decide +kernel) (by decide +kernel), p, l1, l2, b, d, rfl, R5, ok, h4, h2, fun H6 z s6 hz6 => ?_⟩
        refine ⟨y, z, _, _, rfl, hy5.mono s6, .inl hz6, (bp_p2 om).sm (by decide), (bp_stand ok).sm (by decide), fun H7 c s7 _ hc7 => ?_⟩
        have s57 := (s5.trans s6).trans s7
        have s17 := s14.trans s57
        exact ⟨x, c, _, _, rfl, hx4.mono s57, hc7, fun e H8 s8 => k1 e H8 (s17.trans s8), fun u v e H8 r s8 hr8 => k2 u v e H8 r (s17.trans s8) hr8⟩
end
end Rt

set_option Elab.async false
set_option maxRecDepth 100000
set_option maxHeartbeats 4000000
set_option linter.unusedVariables false
namespace Rt
open PySem PySem.Spec PyProof.Rows L2
open Kqy4 (Both Desk)
/-! ### rules: constants of the module, a tuple of defs, a call of a def that a local holds -/
section
variable {X : Cx} {x : Str} {pos : Pos}
theorem pe_globI {i : Int} (h : ∃ t, X.mg x = some (.int i t)) (hg : Gl X x := by rfl) (hd : (x == ("__debug__" : Str)) = false := by decide) : PE X (.Name x pos) (tC (.int i)) := by
  obtain ⟨t, h⟩ := h
  exact pe_glob hg h ⟨t, rfl⟩ hd
theorem pe_globR {a : Addr} (h : X.mg x = some (.ref a)) (hg : Gl X x := by rfl) (hd : (x == ("__debug__" : Str)) = false := by decide) : PE X (.Name x pos) (tC (.ref a)) := pe_glob hg h rfl hd
/-- the tuple at a has the def f at the place i -/
def TAt (K : PySem.W.Frag) (a : Addr) (i : Int) (f : Addr) : Prop := ∀ H, ∃ xs, SqT K H a xs ∧ atI xs i = some (.ref f)
/-- a call of whatever def the slot holds -/
def tCallH (P : Program) (w : World) (K : PySem.W.Frag) (mg : Str → Option Value) (base : Heap) (k i : Nat) (t : TA) : TE := fun σ H Q => ∃ f sp, σ[i]? = some (some (.ref f)) ∧ Held P w K mg base k f sp ∧ t σ H fun vs H1 => sp vs H1 Q (fun _ _ _ => False)
theorem pe_callV {k i : Nat} {p : Pos} {e : Expr} {es : List Expr} {t : TA} (hr : Room k X.A) (ha : PA X (e :: es) t) (hN : X.N[i]? = some x := by rfl) (hv : Vis X.env.scope x := by first | exact Or.inl rfl | exact Or.inr (Or.inl rfl))
    (hdb : (x == ("__debug__" : Str)) = false := by decide) (hcd : (x == ("__classdict__" : Str)) = false := by decide)
    (he : starEach (e :: es) X.env = (false, eval e X.env) :: starEach es X.env := by rfl) (hpl : (backTo pos (starEach es X.env)).any (·.1) = false := by rfl) : PE X (.Call (.Name x p) (e :: es) [] pos) (tCallH X.prog X.w X.K X.mg X.base k i t) := by
  refine ⟨fun pins s σ H Q I h => ?_⟩
  obtain ⟨f, sp, hs, A, ht⟩ := h
  obtain ⟨fd, ps, F, hk, hb⟩ := A.ex
  refine (pe_callL (i := i) (f := f) (sp := sp) (dvs := []) (E := fun _ _ _ => False) F hr hN hv hk hb .nil (fun _ _ _ _ _ _ _ z => z.elim) ha hdb hcd he hpl).run pins s σ H Q I ⟨hs, ?_⟩
  have e0 : (fun (vs : List V) (H1 : Hp) => sp (vs ++ []) H1 Q (fun _ _ _ => False)) = fun vs H1 => sp vs H1 Q (fun _ _ _ => False) := by
    funext vs H1
    rw [List.append_nil]
  show t σ H (fun vs H1 => sp (vs ++ []) H1 Q (fun _ _ _ => False))
  rw [e0]
  exact ht
end
theorem Pr.held {P : Program} {w : World} {K : PySem.W.Frag} {mg : Str → Option Value} {base : Heap} {k n : Nat} {x : Str} {ps : List Str} {sp : Sp} {f : Addr} (D : Pr P w K mg base k x ps sp) (h : mg x = some (.ref f)) (hn : k ≤ n) : Held P w K mg base n f sp := by
  obtain ⟨f', fd, h1, h2, h3, h4⟩ := D
  have e : f' = f := by
    rw [h1] at h
    exact Value.ref.inj (Option.some.inj h)
  subst e
  exact ⟨⟨fd, ps, ⟨h4.len, fun A outer s H args us vs Q E hr => h4.run A outer s H args us vs Q E (hr.mono hn)⟩, h2, h3⟩⟩

/-! ### the module's names -/
structure Bg (mg : Str → Option Value) (C aS aA : Addr) : Prop extends Bt mg where
  g_NONE_SUCH : ∃ t, mg "NONE_SUCH" = some (.int (-2) t)
  g_BEYOND_ALL : ∃ t, mg "BEYOND_ALL" = some (.int (-6) t)
  g_NOT_STARTED : ∃ t, mg "NOT_STARTED" = some (.int (-11) t)
  g_NOT_READY : ∃ t, mg "NOT_READY" = some (.int (-16) t)
  g_OUTSIDE : ∃ t, mg "OUTSIDE" = some (.int (-22) t)
  g_FULL : ∃ t, mg "FULL" = some (.int (-28) t)
  g_NOT_TO_BE_TOLD : ∃ t, mg "NOT_TO_BE_TOLD" = some (.int (-33) t)
  g_LAST_PLACE : ∃ t, mg "LAST_PLACE" = some (.int 100 t)
  g_LAST_SLOPE : ∃ t, mg "LAST_SLOPE" = some (.int 1000 t)
  g_LAST_SHIFT : ∃ t, mg "LAST_SHIFT" = some (.int 100000 t)
  g_MOST : ∃ t, mg "MOST" = some (.int 6 t)
  g_START : ∃ t, mg "START" = some (.int 0 t)
  g_SIZES : mg "SIZES" = some (.ref aS)
  g_ANSWERING : mg "ANSWERING" = some (.ref aA)
  g_Room : mg "Room" = some (.ref C)

section
variable {P : Program} {w : World} {K : PySem.W.Frag} {mg : Str → Option Value} {base : Heap} {C aS aA : Addr}
/-! ### is_outside -/
abbrev s_is_outside : Stmt := top 33
theorem sc_is_outside : FnScope ["numbers", "number"] ["numbers"] (defScope s_is_outside) := ⟨rfl, rfl, rfl, by decide +kernel, rfl, by decide +kernel, by decide +kernel⟩
theorem any_out (ns : List Int) : (ns.map fun n => (decide (n < 0) || decide (100 < n))).any id = !(Kqy4.all ns) := by
  induction ns with
  | nil => rfl
  | cons n r ih =>
    have e : Kqy4.all (n :: r) = (Kqy4.small n && Kqy4.all r) := rfl
    rw [List.map_cons, List.any_cons, ih, e, Bool.not_and]
    congr 1
    unfold Kqy4.small
    rw [Bool.not_and]
    show (decide (n < 0) || decide (100 < n)) = _
    congr 1
    · by_cases h : n < 0
      · rw [decide_eq_true h, decide_eq_false (by omega)]; rfl
      · rw [decide_eq_false h, decide_eq_true (by omega)]; rfl
    · by_cases h : 100 < n
      · rw [decide_eq_true h, decide_eq_false (by omega)]; rfl
      · rw [decide_eq_false h, decide_eq_true (by omega)]; rfl
def spOutside (K : PySem.W.Frag) : Sp := fun vs H Q _ => ∃ (l : Addr) (ns : List Int), vs = [.ref l] ∧ SqL K H l (ns.map V.int) ∧ ns.length ≤ 1000 ∧ ∀ H', Same H H' → Q (.bl (!(Kqy4.all ns))) H'
theorem pr_is_outside (G : Gd K mg "is_outside" s_is_outside) (B : Bg mg C aS aA) : Pr P w K mg base 1 "is_outside" ["numbers"] (spOutside K) := by
  obtain ⟨f, fd, g, F⟩ := G.ex
  refine ⟨f, fd, g, F.kp, F.binds (fun _ _ _ _ _ _ us hl => match us, hl with | [_], _ => rfl), F.ok sc_is_outside (fun vs H Q E h => ?_) (fun cdv A outer s H vs Q E hr h => ?_)⟩
  · obtain ⟨l, ns, rfl, _⟩ := h
    rfl
  · obtain ⟨l, ns, rfl, hl, hn, k⟩ := h
    refine ⟨_, (pss_one (ps_ret (pe_callB (cr_any rfl) (by rfl) B.any (by decide +kernel) (pa_cons (pe_lc (own := [("number", 1)]) (g := gName 1) (tt := tYes) rfl sc_is_outside.nd (pi_list (pv 0)) (blkOk_by (own := [("number", 1)]) (N := ["numbers", "number"]) (sc := defScope s_is_outside) (by decide +kernel)) (fun _ _ _ _ _ => pg_name (i := 1) sc_is_outside.nd rfl (Or.inl rfl)) (fun _ _ _ _ _ => pts_nil) (fun _ _ _ _ _ => (pe_or (pe_cmpR op_lt (pv 1) pe_int (nomark _)) (pe_one (pe_cmpR op_gt (pv 1) (pe_globI B.g_LAST_PLACE) (nomark _)))))) pa_nil)))), ?_⟩
    refine ⟨_, rfl, l, rfl, ⟨_, hl⟩, fun D hD => lc_listV (xs := ns.map V.int) hD hl (fun v => match v with | .int n => .bl (decide (n < 0) || decide (100 < n)) | v => v) (by rw [List.length_map]; exact hn) (fun _ => rfl) (fun x H' hx s => ?_) ?_⟩
    · obtain ⟨n, _, rfl⟩ := List.mem_map.mp hx
      exact v_or (v_cmp (val_var rfl) val_c) (v_cmp (val_var rfl) val_c)
    · have e : (ns.map V.int).map (fun v => match v with | .int n => V.bl (decide (n < 0) || decide (100 < n)) | v => v) = (ns.map fun n => (decide (n < 0) || decide (100 < n))).map V.bl := by
        rw [List.map_map, List.map_map]
        rfl
      refine ⟨D, ns.map fun n => (decide (n < 0) || decide (100 < n)), rfl, ?_, ?_⟩
      · rw [e]
        exact SqL.of upd_same
      · rw [any_out]
        exact k _ (Same.new hD)

/-! ### refusal -/
abbrev s_refusal : Stmt := top 35
theorem sc_refusal : FnScope ["numbers", "is_known"] ["numbers", "is_known"] (defScope s_refusal) := ⟨rfl, rfl, rfl, by decide +kernel, rfl, by decide +kernel, by decide +kernel⟩
def refu (ns : List Int) (b : Bool) : Int := if Kqy4.all ns = false then -22 else if b = false then -16 else 0
def spRefusal (K : PySem.W.Frag) : Sp := fun vs H Q _ => ∃ (l : Addr) (ns : List Int) (b : Bool), vs = [.ref l, .bl b] ∧ SqL K H l (ns.map V.int) ∧ ns.length ≤ 1000 ∧ ∀ H', Same H H' → Q (.int (refu ns b)) H'
theorem pr_refusal (G : Gd K mg "refusal" s_refusal) (B : Bg mg C aS aA) (D_is_outside : Pr P w K mg base 1 "is_outside" ["numbers"] (spOutside K)) : Pr P w K mg base 2 "refusal" ["numbers", "is_known"] (spRefusal K) := by
  obtain ⟨f, fd, g, F⟩ := G.ex
  refine ⟨f, fd, g, F.kp, F.binds (fun _ _ _ _ _ _ us hl => match us, hl with | [_, _], _ => rfl), F.ok sc_refusal (fun vs H Q E h => ?_) (fun cdv A outer s H vs Q E hr h => ?_)⟩
  · obtain ⟨l, ns, b, rfl, _⟩ := h
    rfl
  · obtain ⟨l, ns, b, rfl, hl, hn, k⟩ := h
    refine ⟨_, (pss_cons (ps_if (pt_val (pe_callD D_is_outside (hr.mono (by decide)) (pa_cons (pv 0) pa_nil))) (pss_one (ps_ret (pe_globI B.g_OUTSIDE))) pss_nil)
      (pss_cons (ps_if (pt_not (pt_val (pv 1))) (pss_one (ps_ret (pe_globI B.g_NOT_READY))) pss_nil)
      (pss_one (ps_ret pe_int)))), ?_⟩
    refine ⟨_, rfl, l, ns, rfl, hl, hn, fun H1 s1 => ⟨_, rfl, ?_⟩⟩
    have kk := k H1 s1
    unfold refu at kk
    cases e : Kqy4.all ns with
    | false =>
      rw [e] at kk
      exact kk
    | true =>
      rw [e] at kk
      refine iteF ⟨_, rfl, _, rfl, ?_⟩
      cases b with
      | false => exact kk
      | true => exact kk

/-! ### where -/
abbrev s_where : Stmt := top 36
theorem sc_where : FnScope ["point"] ["point"] (defScope s_where) := ⟨rfl, rfl, rfl, by decide +kernel, rfl, by decide +kernel, by decide +kernel⟩
def tellW (p : Pt) : List Int := Kqy4Neutral.tell (Kqy4.orElse (Kqy4.place p) (-6))
theorem tellW_out {p : Pt} (h : p.2.2 = 0) : tellW p = [-6] := by
  unfold tellW Kqy4.place
  rw [if_pos h]
  rfl
theorem tellW_in {p : Pt} (h : ¬ p.2.2 = 0) : tellW p = [0] ++ Kqy4.frac p.1 p.2.2 ++ Kqy4.frac p.2.1 p.2.2 := by
  unfold tellW Kqy4.place
  rw [if_neg h]
  rfl
theorem frac_len (a b : Int) : (Kqy4.frac a b).length = 2 := by
  unfold Kqy4.frac
  simp only []
  split
  · rfl
  · split <;> rfl
/-- a new list of these numbers -/
def spNewL (H : Hp) (Q : VK) (ns : List Int) : Prop := ∀ H' r, Same H H' → H r = none → H' r = some (.lst (ns.map V.int)) → Q (.ref r) H'
def spWhere : Sp := fun vs H Q _ => ∃ (a : Addr) (p : Pt), vs = [.ref a] ∧ PtAt H a p ∧ SmP p ∧ spNewL H Q (tellW p)
theorem pr_where (G : Gd K mg "where" s_where) (B : Bg mg C aS aA) (D_fraction : Pr P w K mg base 2 "fraction" ["above", "below"] spFraction) : Pr P w K mg base 3 "where" ["point"] spWhere := by
  obtain ⟨f, fd, g, F⟩ := G.ex
  refine ⟨f, fd, g, F.kp, F.binds (fun _ _ _ _ _ _ us hl => match us, hl with | [_], _ => rfl), F.ok sc_where (fun vs H Q E h => ?_) (fun cdv A outer s H vs Q E hr h => ?_)⟩
  · obtain ⟨a, p, rfl, _⟩ := h
    rfl
  · obtain ⟨a, p, rfl, ha, sp, k⟩ := h
    refine ⟨_, (pss_cons (ps_if (pt_cmpR op_eq (pe_ix (r := rIxT K) ix_tup (pv 0) pe_int (fun _ _ => rfl)) pe_int (nomark _)) (pss_one (ps_ret (pe_lst (pa_cons (pe_globI B.g_BEYOND_ALL) pa_nil)))) pss_nil)
      (pss_one (ps_ret (pe_op op_cat (pe_op op_cat (pe_lst (pa_cons pe_int pa_nil)) (pe_callD D_fraction (hr.mono (by decide)) (pa_cons (pe_ix (r := rIxT K) ix_tup (pv 0) pe_int (fun _ _ => rfl)) (pa_cons (pe_ix (r := rIxT K) ix_tup (pv 0) pe_int (fun _ _ => rfl)) pa_nil)))) (pe_callD D_fraction (hr.mono (by decide)) (pa_cons (pe_ix (r := rIxT K) ix_tup (pv 0) pe_int (fun _ _ => rfl)) (pa_cons (pe_ix (r := rIxT K) ix_tup (pv 0) pe_int (fun _ _ => rfl)) pa_nil))))))), ?_⟩
    refine ⟨_, rfl, a, _, _, _, rfl, rfl, SqT.of ha, rfl, rfl, _, rfl, ?_⟩
    rw [int_eq]
    by_cases c : p.2.2 = 0
    · rw [decide_eq_true c]
      rw [tellW_out c] at k
      refine iteT ⟨by show 1 ≤ sizeLine; decide, fun r hr => k _ r (Same.new hr) hr upd_same⟩
    · rw [decide_eq_false c]
      rw [tellW_in c] at k
      refine iteF ⟨by show 1 ≤ sizeLine; decide, fun r hr => ?_⟩
      have s1 : Same H (upd H r (.lst [.int 0])) := Same.new hr
      have ha1 := ha.mono s1
      refine ⟨_, rfl, a, _, _, _, rfl, rfl, SqT.of ha1, rfl, _, rfl, a, _, _, _, rfl, rfl, SqT.of ha1, rfl, p.1, p.2.2, rfl, c, sp.c, fun H2 q s2 hq0 hq => ?_⟩
      refine ⟨r, q, _, _, rfl, rfl, s2 _ _ upd_same, hq, ?_, fun t ht => ?_⟩
      · rw [List.length_map, frac_len]
        show 3 ≤ sizeLine
        decide
      have s3 : Same H2 (upd H2 t (.lst ([.int 0] ++ (Kqy4.frac p.1 p.2.2).map V.int))) := Same.new ht
      have s123 := (s1.trans s2).trans s3
      have ha3 := ha.mono s123
      refine ⟨_, rfl, a, _, _, _, rfl, rfl, SqT.of ha3, rfl, _, rfl, a, _, _, _, rfl, rfl, SqT.of ha3, rfl, p.2.1, p.2.2, rfl, c, sp.c, fun H4 q' s4 hq0' hq' => ?_⟩
      refine ⟨t, q', _, _, rfl, rfl, s4 _ _ upd_same, hq', ?_, fun u hu => ?_⟩
      · rw [List.length_append, List.length_map, List.length_map, frac_len, frac_len]
        show 5 ≤ sizeLine
        decide
      have s5 := s123.trans s4
      refine k _ u (s5.trans (Same.new hu)) (s5.free hu) ?_
      rw [upd_same, List.map_append, List.map_append]
      rfl
end
end Rt

set_option Elab.async false
set_option maxRecDepth 100000
set_option maxHeartbeats 4000000
set_option linter.unusedVariables false
namespace Rt
open PySem PySem.Spec PyProof.Rows L2
open Kqy4 (Both Desk)
theorem BsAt.snoc {H : Hp} {l t : Addr} {ms : List Both} {m : Both} {as : List Addr} (h2 : as.length = ms.length) (h3 : ∀ (j : Nat) (a : Addr) (m : Both), as[j]? = some a → ms[j]? = some m → H a = some (.tup (quad m)))
    (hl : H l = some (.lst (as.map V.ref ++ [.ref t]))) (ht : H t = some (.tup (quad m))) : BsAt H l (ms ++ [m]) := by
  refine ⟨as ++ [t], by rw [List.map_append]; exact hl, by rw [List.length_append, List.length_append, h2]; rfl, fun j a m' e1 e2 => ?_⟩
  by_cases hj : j < as.length
  · rw [List.getElem?_append_left hj] at e1
    rw [List.getElem?_append_left (by omega)] at e2
    exact h3 j a m' e1 e2
  · rw [List.getElem?_append_right (by omega)] at e1
    rw [List.getElem?_append_right (by omega), ← h2] at e2
    have j0 : j - as.length = 0 := by
      cases h0 : j - as.length with
      | zero => rfl
      | succ n => rw [h0] at e1; simp at e1
    rw [j0] at e1 e2
    have ea : t = a := by simpa using e1
    have em : m = m' := by simpa using e2
    subst ea em
    exact ht
/-- a store to another list leaves these as they are -/
theorem BsAt.put {H : Hp} {l x : Addr} {ms : List Both} {xs : List V} {o : HO} (h : BsAt H l ms) (hx : H x = some (.lst xs)) (n : l ≠ x) : BsAt (upd H x o) l ms := by
  obtain ⟨as, h1, h2, h3⟩ := h
  refine ⟨as, by rw [upd_ne n]; exact h1, h2, fun j a m e1 e2 => ?_⟩
  have q := h3 j a m e1 e2
  rw [upd_ne (ne_of q hx (by intro z; cases z))]
  exact q
theorem erase_map {α β : Type} (f : α → β) : ∀ (l : List α) (i : Nat), (l.map f).eraseIdx i = (l.eraseIdx i).map f
  | [], _ => rfl
  | _ :: _, 0 => rfl
  | a :: l, i + 1 => by
    show f a :: (l.map f).eraseIdx i = f a :: (l.eraseIdx i).map f
    rw [erase_map f l i]
theorem BsAt.drop {H : Hp} {l : Addr} {ms : List Both} {as : List Addr} {i : Nat} (h1 : H l = some (.lst (as.map V.ref))) (h2 : as.length = ms.length) (h3 : ∀ (j : Nat) (a : Addr) (m : Both), as[j]? = some a → ms[j]? = some m → H a = some (.tup (quad m))) :
    BsAt (upd H l (.lst ((as.map V.ref).eraseIdx i))) l (ms.eraseIdx i) := by
  refine ⟨as.eraseIdx i, by rw [upd_same, erase_map], by rw [List.length_eraseIdx, List.length_eraseIdx, h2], fun j a m e1 e2 => ?_⟩
  rw [List.getElem?_eraseIdx] at e1 e2
  have q : H a = some (.tup (quad m)) := by
    by_cases c : j < i
    · rw [if_pos c] at e1 e2
      exact h3 j a m e1 e2
    · rw [if_neg c] at e1 e2
      exact h3 (j + 1) a m e1 e2
  rw [upd_ne (ne_of q h1 (by intro z; cases z))]
  exact q

section
variable {P : Program} {w : World} {K : PySem.W.Frag} {mg : Str → Option Value} {base : Heap} {C aS aA : Addr}
/-! ### one_more -/
abbrev s_one_more : Stmt := top 38
theorem sc_one_more : FnScope ["kept", "numbers"] ["kept", "numbers"] (defScope s_one_more) := ⟨rfl, rfl, rfl, by decide +kernel, rfl, by decide +kernel, by decide +kernel⟩
def spMore : Sp := fun vs H Q _ => ∃ (l nl : Addr) (ms : List Both) (m : Both), vs = [.ref l, .ref nl] ∧ BsAt H l ms ∧ H nl = some (.lst (quad m)) ∧ l ≠ nl ∧ ms.length ≤ 6 ∧
  (Kqy4.all [m.u, m.v, m.s, m.t] = false → spNewL H Q [-22]) ∧
  (Kqy4.all [m.u, m.v, m.s, m.t] = true → ms.length = 6 → spNewL H Q [-28]) ∧
  (Kqy4.all [m.u, m.v, m.s, m.t] = true → ms.length < 6 → ∀ H' r, (∀ b o, H b = some o → b ≠ l → H' b = some o) → BsAt H' l (ms ++ [m]) → H r = none → H' r = some (.lst [.int (ms.length : Int)]) → Q (.ref r) H')
theorem pr_one_more (G : Gd K mg "one_more" s_one_more) (B : Bg mg C aS aA) (D_is_outside : Pr P w K mg base 1 "is_outside" ["numbers"] (spOutside K)) : Pr P w K mg base 2 "one_more" ["kept", "numbers"] spMore := by
  obtain ⟨f, fd, g, F⟩ := G.ex
  refine ⟨f, fd, g, F.kp, F.binds (fun _ _ _ _ _ _ us hl => match us, hl with | [_, _], _ => rfl), F.ok sc_one_more (fun vs H Q E h => ?_) (fun cdv A outer s H vs Q E hr h => ?_)⟩
  · obtain ⟨l, nl, ms, m, rfl, _⟩ := h
    rfl
  · obtain ⟨l, nl, ms, m, rfl, hb, hn, ne, h6, k1, k2, k3⟩ := h
    obtain ⟨as, b1, b2, b3⟩ := hb
    refine ⟨_, (pss_cons (ps_if (pt_val (pe_callD D_is_outside (hr.mono (by decide)) (pa_cons (pv 1) pa_nil))) (pss_one (ps_ret (pe_lst (pa_cons (pe_globI B.g_OUTSIDE) pa_nil)))) pss_nil)
      (pss_cons (ps_if (pt_cmpR op_eq (pe_callB call_len_seq (by rfl) B.len PySem.boot_len (pa_cons (pv 0) pa_nil)) (pe_globI B.g_MOST) (nomark _)) (pss_one (ps_ret (pe_lst (pa_cons (pe_globI B.g_FULL) pa_nil)))) pss_nil)
      (pss_cons (ps_expr (pe_bm PySem.F.plainAttrs_list PySem.F.slot_list_append PySem.F.type_list_append mt_append (pv 0) (pa_cons (pe_callTy call_tuple_of (by rfl) B.tuple (by decide +kernel) (pa_cons (pv 1) pa_nil)) pa_nil)))
      (pss_one (ps_ret (pe_lst (pa_cons (pe_op op_sub (pe_callB call_len_seq (by rfl) B.len PySem.boot_len (pa_cons (pv 0) pa_nil)) pe_int) pa_nil))))))), ?_⟩
    refine ⟨_, rfl, nl, [m.u, m.v, m.s, m.t], rfl, SqL.of hn, (by show 4 ≤ 1000; decide), fun H1 s1 => ⟨_, rfl, ?_⟩⟩
    cases e : Kqy4.all [m.u, m.v, m.s, m.t] with
    | false =>
      refine iteT ⟨by show 1 ≤ sizeLine; decide, fun r hr => ?_⟩
      exact k1 e _ r (s1.trans (Same.new hr)) (s1.free hr) upd_same
    | true =>
      refine iteF ?_
      have l1 := s1 _ _ b1
      refine ⟨_, rfl, l, _, rfl, .inl (SqL.of l1), rfl, _, rfl, ?_⟩
      rw [int_eq, List.length_map, b2]
      by_cases c : ms.length = 6
      · refine ite2 (fun _ => ?_) (fun h => absurd (decide_eq_true (by omega)) h)
        refine ⟨by show 1 ≤ sizeLine; decide, fun r hr => ?_⟩
        exact k2 e c _ r (s1.trans (Same.new hr)) (s1.free hr) upd_same
      · refine ite2 (fun h => absurd (of_decide_eq_true h) (by omega)) (fun _ => ?_)
        have n1 := s1 _ _ hn
        refine ⟨_, rfl, .inl ⟨rfl, _, SqL.of l1⟩, _, rfl, nl, _, rfl, .inl ⟨SqL.of n1, fun t ht => ?_⟩⟩
        have s2 : Same H1 (upd H1 t (.tup (quad m))) := Same.new ht
        have l2 := s2 _ _ l1
        refine ⟨l, _, _, rfl, rfl, l2, ?_, ?_⟩
        · rw [List.length_map, b2]
          exact Nat.lt_of_le_of_lt h6 (by decide)
        · have nlt : l ≠ t := ne_of_none l1 ht
          refine ⟨_, rfl, l, _, rfl, .inl (SqL.of upd_same), _, _, rfl, rfl, by show 1 ≤ sizeLine; decide, fun r hr => ?_⟩
          have s12 := s1.trans s2
          have fr : H r = none := by
            by_cases hrl : r = l
            · subst hrl
              rw [upd_same] at hr
              cases hr
            · rw [upd_ne hrl] at hr
              exact s12.free hr
          have nrl : l ≠ r := ne_of_none b1 fr
          refine k3 e (by omega) _ r (fun b o hb hbl => ?_) ?_ fr ?_
          · rw [upd_ne (ne_of_none hb fr), upd_ne hbl]
            exact s12 _ _ hb
          · refine BsAt.snoc (as := as) (t := t) b2 (fun j a m' e1 e2 => ?_) ?_ ?_
            · have q := b3 j a m' e1 e2
              rw [upd_ne (ne_of_none q fr), upd_ne (ne_of q b1 (by intro z; cases z))]
              exact s12 _ _ q
            · rw [upd_ne nrl]
              exact upd_same
            · have q : upd H1 t (.tup (quad m)) t = some (.tup (quad m)) := upd_same
              have q2 : upd (upd H1 t (.tup (quad m))) l (.lst (as.map V.ref ++ [.ref t])) t = some (.tup (quad m)) := by
                rw [upd_ne nlt.symm]
                exact q
              rw [upd_ne (ne_of_none q2 hr)]
              exact q2
          · rw [upd_same, List.length_append, List.length_map, b2]
            show some (HO.lst [V.int (((ms.length + 1 : Nat) : Int) - 1)]) = _
            rw [show (((ms.length + 1 : Nat) : Int) - 1) = (ms.length : Int) by omega]
end
end Rt

set_option Elab.async false
set_option maxRecDepth 100000
set_option maxHeartbeats 4000000
set_option linter.unusedVariables false
namespace Rt
open PySem PySem.Spec PyProof.Rows L2
open Kqy4 (Both Desk)
/-! ### the object as the calls see it -/
def RoomS (C : Addr) (H : Hp) (p l1 l2 : Addr) : Option Desk → Prop
  | none => RoomAt C H p l1 l2 false ⟨[], []⟩
  | some d => RoomAt C H p l1 l2 true d
theorem RoomS.mono {C : Addr} {H H' : Hp} {p l1 l2 : Addr} {s : Option Desk} (e : Same H H') (h : RoomS C H p l1 l2 s) : RoomS C H' p l1 l2 s := by
  cases s with
  | none => exact RoomAt.mono e h
  | some d => exact RoomAt.mono e h
def SOk : Option Desk → Prop
  | none => True
  | some d => DOk d
abbrev stp (c : Int) (s : Option Desk) (ns : List Int) : Option Desk × List Int := Kqy4Neutral.step s [c :: ns]
/-- what follows a call: the object, all else as it was, a new list of the answer's numbers -/
def Post (C : Addr) (H : Hp) (Q : VK) (p l1 l2 : Addr) (o : Option Desk × List Int) : Prop := ∀ H' r m1 m2, RoomS C H' p m1 m2 o.1 →
  (∀ b u, H b = some u → b ≠ p → b ≠ l1 → b ≠ l2 → H' b = some u ∧ b ≠ m1 ∧ b ≠ m2) → H r = none → H' r = some (.lst (o.2.map V.int)) → Q (.ref r) H'
theorem Post.pure {C : Addr} {H : Hp} {Q : VK} {p l1 l2 : Addr} {o : Option Desk × List Int} {d : Desk} {ns : List Int} (k : Post C H Q p l1 l2 o) (R : RoomAt C H p l1 l2 true d) (e : o = (some d, ns)) : spNewL H Q ns := by
  subst e
  exact fun H' r s hr h => k H' r l1 l2 (RoomAt.mono s R) (fun b u hb _ n1 n2 => ⟨s _ _ hb, n1, n2⟩) hr h
def Okc (c : Int) (ns : List Int) : Prop := c = 3 → ∀ x ∈ ns, 0 ≤ x ∧ x < 4294967296
/-- a call's def: its number, how many numbers it has -/
def spDo (C : Addr) (c : Int) (sz : Nat) : Sp := fun vs H Q _ => ∃ (p nl l1 l2 : Addr) (s : Option Desk) (ns : List Int), vs = [.ref p, .ref nl] ∧ RoomS C H p l1 l2 s ∧ SOk s ∧ H nl = some (.lst (ns.map V.int)) ∧ nl ≠ l1 ∧ nl ≠ l2 ∧
  ns.length = sz ∧ Okc c ns ∧ (c ≠ 0 → s ≠ none) ∧ Post C H Q p l1 l2 (stp c s ns)

section
variable {P : Program} {w : World} {K : PySem.W.Frag} {mg : Str → Option Value} {base : Heap} {C aS aA : Addr}
theorem RoomS.any {H : Hp} {p l1 l2 : Addr} {s : Option Desk} (h : RoomS C H p l1 l2 s) : ∃ b d, RoomAt C H p l1 l2 b d := by
  cases s with
  | none => exact ⟨_, _, h⟩
  | some d => exact ⟨_, _, h⟩
/-! ### start -/
abbrev s_start : Stmt := top 39
theorem sc_start : FnScope ["room", "numbers"] ["room", "numbers"] (defScope s_start) := ⟨rfl, rfl, rfl, by decide +kernel, rfl, by decide +kernel, by decide +kernel⟩
theorem pr_start (G : Gd K mg "start" s_start) (T : Txt K C) (D_Room_begin : PrM P w K mg base C 1 "begin" ["self"] (spBegin C)) : Pr P w K mg base 2 "start" ["room", "numbers"] (spDo C 0 0) := by
  obtain ⟨f, fd, g, F⟩ := G.ex
  refine ⟨f, fd, g, F.kp, F.binds (fun _ _ _ _ _ _ us hl => match us, hl with | [_, _], _ => rfl), F.ok sc_start (fun vs H Q E h => ?_) (fun cdv A outer s H vs Q E hr h => ?_)⟩
  · obtain ⟨p, nl, l1, l2, s, ns, rfl, _⟩ := h
    rfl
  · obtain ⟨p, nl, l1, l2, s, ns, rfl, R, ok, hn, n1, n2, sz, oc, ns0, k⟩ := h
    match ns, sz with
    | [], _ =>
    obtain ⟨b, d, R0⟩ := R.any
    obtain ⟨dx, hp⟩ := R0.ins
    refine ⟨_, (pss_cons (ps_expr (pe_methD0 (pv 0) T.cl D_Room_begin (hr.mono (by decide))))
      (pss_one (ps_ret (pe_lst (pa_cons pe_int pa_nil))))), ?_⟩
    refine ⟨_, rfl, p, dx, _, rfl, hp, rf_no (by decide +kernel) (by decide +kernel) (by decide +kernel), p, l1, l2, b, d, rfl, R0, fun H1 m1 m2 R1 f1 f2 kp => ?_⟩
    refine ⟨by show 1 ≤ sizeLine; decide, fun r hr => ?_⟩
    have s2 : Same H1 (upd H1 r (.lst [.int 0])) := Same.new hr
    have fr : H r = none := by
      cases q : H r with
      | none => rfl
      | some o =>
        by_cases e : r = p
        · subst e
          obtain ⟨dx1, hp1⟩ := R1.ins
          rw [hp1] at hr
          cases hr
        · rw [kp r o q e] at hr
          cases hr
    exact k _ r m1 m2 (RoomAt.mono s2 R1) (fun b u hb hbp _ _ => ⟨s2 _ _ (kp b u hb hbp), ne_of_none hb f1, ne_of_none hb f2⟩) fr upd_same

theorem all4 {a b c e : Int} (h : Kqy4.all [a, b, c, e] = true) : Ok4 ⟨a, b, c, e⟩ := by
  simp [Kqy4.all, Kqy4.small] at h
  exact ⟨by dsimp only; omega, by dsimp only; omega, by dsimp only; omega, by dsimp only; omega⟩
/-! ### floor, thing -/
abbrev s_floor : Stmt := top 40
theorem sc_floor : FnScope ["room", "numbers"] ["room", "numbers"] (defScope s_floor) := ⟨rfl, rfl, rfl, by decide +kernel, rfl, by decide +kernel, by decide +kernel⟩
theorem pr_floor (G : Gd K mg "floor" s_floor) (T : Txt K C) (D_one_more : Pr P w K mg base 2 "one_more" ["kept", "numbers"] spMore) : Pr P w K mg base 3 "floor" ["room", "numbers"] (spDo C 1 4) := by
  obtain ⟨f, fd, g, F⟩ := G.ex
  refine ⟨f, fd, g, F.kp, F.binds (fun _ _ _ _ _ _ us hl => match us, hl with | [_, _], _ => rfl), F.ok sc_floor (fun vs H Q E h => ?_) (fun cdv A outer s H vs Q E hr h => ?_)⟩
  · obtain ⟨p, nl, l1, l2, s, ns, rfl, _⟩ := h
    rfl
  · obtain ⟨p, nl, l1, l2, s, ns, rfl, R, ok, hn, n1, n2, sz, oc, ns0, k⟩ := h
    match ns, sz, s with
    | _, _, none => exact absurd rfl (ns0 (by decide))
    | [u, v, a, b], _, some d =>
    have R : RoomAt C H p l1 l2 true d := R
    have ok : DOk d := ok
    obtain ⟨dx, hp⟩ := R.ins
    have est : stp 1 (some d) [u, v, a, b] = ((if Kqy4.all [u, v, a, b] = false then (some d, Kqy4.Ans.num (-22)) else if Kqy4.KEPT ≤ d.floor.length then (some d, .num (-28)) else (some { d with floor := d.floor ++ [⟨u, v, a, b⟩] }, .num d.floor.length)).1,
      Kqy4Neutral.tell (if Kqy4.all [u, v, a, b] = false then (some d, Kqy4.Ans.num (-22)) else if Kqy4.KEPT ≤ d.floor.length then (some d, .num (-28)) else (some { d with floor := d.floor ++ [⟨u, v, a, b⟩] }, .num d.floor.length)).2) := rfl
    have ek : Kqy4.KEPT = 6 := rfl
    refine ⟨_, (pss_one (ps_ret (pe_callD D_one_more (hr.mono (by decide)) (pa_cons (pe_fld (pv 0) rfl) (pa_cons (pv 1) pa_nil))))), ?_⟩
    refine ⟨_, rfl, p, C, dx, _, _, rfl, hp, T.cl, T.nF, rf_floor _ _ _, _, rfl, l1, nl, d.floor, ⟨u, v, a, b⟩, rfl, R.fl, hn, n1.symm, ok.fl6, fun e => ?_, fun e e6 => ?_, fun e e6 => ?_⟩
    · refine k.pure R ?_
      rw [est, if_pos e]
      rfl
    · refine k.pure R ?_
      rw [est, if_neg (by rw [e]; decide), if_pos (by rw [ek]; omega)]
      rfl
    · intro H' r kp hb fr hr'
      rw [est, if_neg (by rw [e]; decide), if_neg (by rw [ek]; omega)] at k
      refine k H' r l1 l2 ⟨⟨dx, kp _ _ hp ?_⟩, hb, ?_, R.ne⟩ (fun b o hb' nb n1' n2' => ⟨kp b o hb' n1', n1', n2'⟩) fr hr'
      · obtain ⟨as, h1, _⟩ := R.fl
        exact ne_of hp h1 (by intro z; cases z)
      · obtain ⟨as, h1, h2, h3⟩ := R.th
        obtain ⟨as', g1, _⟩ := R.fl
        exact ⟨as, kp _ _ h1 R.ne.symm, h2, fun j a m e1 e2 => kp _ _ (h3 j a m e1 e2) (ne_of (h3 j a m e1 e2) g1 (by intro z; cases z))⟩
abbrev s_thing : Stmt := top 41
theorem sc_thing : FnScope ["room", "numbers"] ["room", "numbers"] (defScope s_thing) := ⟨rfl, rfl, rfl, by decide +kernel, rfl, by decide +kernel, by decide +kernel⟩
theorem pr_thing (G : Gd K mg "thing" s_thing) (T : Txt K C) (D_one_more : Pr P w K mg base 2 "one_more" ["kept", "numbers"] spMore) : Pr P w K mg base 3 "thing" ["room", "numbers"] (spDo C 2 4) := by
  obtain ⟨f, fd, g, F⟩ := G.ex
  refine ⟨f, fd, g, F.kp, F.binds (fun _ _ _ _ _ _ us hl => match us, hl with | [_, _], _ => rfl), F.ok sc_thing (fun vs H Q E h => ?_) (fun cdv A outer s H vs Q E hr h => ?_)⟩
  · obtain ⟨p, nl, l1, l2, s, ns, rfl, _⟩ := h
    rfl
  · obtain ⟨p, nl, l1, l2, s, ns, rfl, R, ok, hn, n1, n2, sz, oc, ns0, k⟩ := h
    match ns, sz, s with
    | _, _, none => exact absurd rfl (ns0 (by decide))
    | [u, v, a, b], _, some d =>
    have R : RoomAt C H p l1 l2 true d := R
    have ok : DOk d := ok
    obtain ⟨dx, hp⟩ := R.ins
    have est : stp 2 (some d) [u, v, a, b] = ((if Kqy4.all [u, v, a, b] = false then (some d, Kqy4.Ans.num (-22)) else if Kqy4.KEPT ≤ d.off.length then (some d, .num (-28)) else (some { d with off := d.off ++ [⟨u, v, a, b⟩] }, .num d.off.length)).1,
      Kqy4Neutral.tell (if Kqy4.all [u, v, a, b] = false then (some d, Kqy4.Ans.num (-22)) else if Kqy4.KEPT ≤ d.off.length then (some d, .num (-28)) else (some { d with off := d.off ++ [⟨u, v, a, b⟩] }, .num d.off.length)).2) := rfl
    have ek : Kqy4.KEPT = 6 := rfl
    refine ⟨_, (pss_one (ps_ret (pe_callD D_one_more (hr.mono (by decide)) (pa_cons (pe_fld (pv 0) rfl) (pa_cons (pv 1) pa_nil))))), ?_⟩
    refine ⟨_, rfl, p, C, dx, _, _, rfl, hp, T.cl, T.nT, rf_things _ _ _, _, rfl, l2, nl, d.off, ⟨u, v, a, b⟩, rfl, R.th, hn, n2.symm, ok.th6, fun e => ?_, fun e e6 => ?_, fun e e6 => ?_⟩
    · refine k.pure R ?_
      rw [est, if_pos e]
      rfl
    · refine k.pure R ?_
      rw [est, if_neg (by rw [e]; decide), if_pos (by rw [ek]; omega)]
      rfl
    · intro H' r kp hb fr hr'
      rw [est, if_neg (by rw [e]; decide), if_neg (by rw [ek]; omega)] at k
      refine k H' r l1 l2 ⟨⟨dx, kp _ _ hp ?_⟩, ?_, hb, R.ne⟩ (fun b o hb' nb n1' n2' => ⟨kp b o hb' n2', n1', n2'⟩) fr hr'
      · obtain ⟨as, h1, _⟩ := R.th
        exact ne_of hp h1 (by intro z; cases z)
      · obtain ⟨as, h1, h2, h3⟩ := R.fl
        obtain ⟨as', g1, _⟩ := R.th
        exact ⟨as, kp _ _ h1 R.ne, h2, fun j a m e1 e2 => kp _ _ (h3 j a m e1 e2) (ne_of (h3 j a m e1 e2) g1 (by intro z; cases z))⟩

/-! ### ready -/
abbrev s_ready : Stmt := top 43
theorem sc_ready : FnScope ["room", "numbers"] ["room", "numbers"] (defScope s_ready) := ⟨rfl, rfl, rfl, by decide +kernel, rfl, by decide +kernel, by decide +kernel⟩
theorem pr_ready (G : Gd K mg "ready" s_ready) (T : Txt K C) (D_Room_is_ready : PrM P w K mg base C 8 "is_ready" ["self"] (spReady C)) (D_Room_floors_known : PrM P w K mg base C 4 "floors_known" ["self"] (spKnown C)) :
    Pr P w K mg base 9 "ready" ["room", "numbers"] (spDo C 4 0) := by
  obtain ⟨f, fd, g, F⟩ := G.ex
  refine ⟨f, fd, g, F.kp, F.binds (fun _ _ _ _ _ _ us hl => match us, hl with | [_, _], _ => rfl), F.ok sc_ready (fun vs H Q E h => ?_) (fun cdv A outer s H vs Q E hr h => ?_)⟩
  · obtain ⟨p, nl, l1, l2, s, ns, rfl, _⟩ := h
    rfl
  · obtain ⟨p, nl, l1, l2, s, ns, rfl, R, ok, hn, n1, n2, sz, oc, ns0, k⟩ := h
    match ns, sz, s with
    | _, _, none => exact absurd rfl (ns0 (by decide))
    | [], _, some d =>
    have R : RoomAt C H p l1 l2 true d := R
    have ok : DOk d := ok
    obtain ⟨dx, hp⟩ := R.ins
    have k := k.pure (ns := [if Kqy4.floorsGood d = false then 0 else if Kqy4.ready d = false then 1 else 2]) R rfl
    refine ⟨_, (pss_cons (ps_if (pt_val (pe_methD0 (pv 0) T.cl D_Room_is_ready (hr.mono (by decide)))) (pss_one (ps_ret (pe_lst (pa_cons pe_int pa_nil)))) pss_nil)
      (pss_cons (ps_if (pt_val (pe_methD0 (pv 0) T.cl D_Room_floors_known (hr.mono (by decide)))) (pss_one (ps_ret (pe_lst (pa_cons pe_int pa_nil)))) pss_nil)
      (pss_one (ps_ret (pe_lst (pa_cons pe_int pa_nil)))))), ?_⟩
    refine ⟨_, rfl, p, dx, _, rfl, hp, rf_no (by decide +kernel) (by decide +kernel) (by decide +kernel), p, l1, l2, true, d, rfl, R, ok, fun H1 s1 => ⟨_, rfl, ?_⟩⟩
    cases e : Kqy4.ready d with
    | true =>
      rw [(ready_floor e).1, e] at k
      refine iteT ⟨by show 1 ≤ sizeLine; decide, fun r hr => ?_⟩
      exact k _ r (s1.trans (Same.new hr)) (s1.free hr) upd_same
    | false =>
      have R1 := R.mono s1
      obtain ⟨dx1, hp1⟩ := R1.ins
      refine iteF ⟨_, rfl, p, dx1, _, rfl, hp1, rf_no (by decide +kernel) (by decide +kernel) (by decide +kernel), p, l1, l2, true, d, rfl, R1, ok, fun H2 s2 => ⟨_, rfl, ?_⟩⟩
      have s12 := s1.trans s2
      cases e2 : Kqy4.floorsGood d with
      | true =>
        rw [e2, e] at k
        refine iteT ⟨by show 1 ≤ sizeLine; decide, fun r hr => ?_⟩
        exact k _ r (s12.trans (Same.new hr)) (s12.free hr) upd_same
      | false =>
        rw [e2] at k
        refine iteF ⟨by show 1 ≤ sizeLine; decide, fun r hr => ?_⟩
        exact k _ r (s12.trans (Same.new hr)) (s12.free hr) upd_same
end
end Rt

set_option Elab.async false
set_option maxRecDepth 100000
set_option maxHeartbeats 4000000
set_option linter.unusedVariables false
namespace Rt
open PySem PySem.Spec PyProof.Rows L2
open Kqy4 (Both Desk)
theorem all2 {a b : Int} (h : Kqy4.all [a, b] = true) : (0 ≤ a ∧ a ≤ 100) ∧ (0 ≤ b ∧ b ≤ 100) := by
  simp [Kqy4.all, Kqy4.small] at h
  omega
section
variable {P : Program} {w : World} {K : PySem.W.Frag} {mg : Str → Option Value} {base : Heap} {C aS aA : Addr}
/-! ### across, back -/
abbrev s_across : Stmt := top 44
theorem sc_across : FnScope ["room", "numbers", "refused"] ["room", "numbers"] (defScope s_across) := ⟨rfl, rfl, rfl, by decide +kernel, rfl, by decide +kernel, by decide +kernel⟩
theorem pr_across (G : Gd K mg "across" s_across) (T : Txt K C) (D_refusal : Pr P w K mg base 2 "refusal" ["numbers", "is_known"] (spRefusal K)) (D_where : Pr P w K mg base 3 "where" ["point"] spWhere)
    (D_Room_floors_known : PrM P w K mg base C 4 "floors_known" ["self"] (spKnown C)) (D_Room_across : PrM P w K mg base C 5 "across" ["self", "point"] (spView C Kqy4.across)) :
    Pr P w K mg base 6 "across" ["room", "numbers"] (spDo C 5 2) := by
  obtain ⟨f, fd, g, F⟩ := G.ex
  refine ⟨f, fd, g, F.kp, F.binds (fun _ _ _ _ _ _ us hl => match us, hl with | [_, _], _ => rfl), F.ok sc_across (fun vs H Q E h => ?_) (fun cdv A outer s H vs Q E hr h => ?_)⟩
  · obtain ⟨p, nl, l1, l2, s, ns, rfl, _⟩ := h
    rfl
  · obtain ⟨p, nl, l1, l2, s, ns, rfl, R, ok, hn, n1, n2, sz, oc, ns0, k⟩ := h
    match ns, sz, s with
    | _, _, none => exact absurd rfl (ns0 (by decide))
    | [u, v], _, some d =>
    have R : RoomAt C H p l1 l2 true d := R
    have ok : DOk d := ok
    obtain ⟨dx, hp⟩ := R.ins
    have k := k.pure (ns := Kqy4Neutral.tell (if Kqy4.all [u, v] = false then .num (-22) else if Kqy4.floorsGood d = false then .num (-16) else Kqy4.orElse (Kqy4.place (Kqy4.across d (Kqy4.pt u v))) (-6))) R rfl
    refine ⟨_, (pss_cons (ps_set (i := 2) sc_across.nd rfl (Or.inl rfl) (pe_callD D_refusal (hr.mono (by decide)) (pa_cons (pv 1) (pa_cons (pe_methD0 (pv 0) T.cl D_Room_floors_known (hr.mono (by decide))) pa_nil))))
      (pss_cons (ps_if (pt_cmpR op_lt (pv 2) pe_int (nomark _)) (pss_one (ps_ret (pe_lst (pa_cons (pv 2) pa_nil)))) pss_nil)
      (pss_one (ps_ret (pe_callD D_where (hr.mono (by decide)) (pa_cons (pe_methD (pv 0) T.cl D_Room_across (hr.mono (by decide)) (pa_cons (pe_tup (pa_cons (pe_ix (r := rIxL K) ix_list (pv 1) pe_int (fun _ _ => rfl)) (pa_cons (pe_ix (r := rIxL K) ix_list (pv 1) pe_int (fun _ _ => rfl)) (pa_cons pe_int pa_nil)))) pa_nil)) pa_nil)))))), ?_⟩
    refine ⟨_, rfl, _, rfl, p, dx, _, rfl, hp, rf_no (by decide +kernel) (by decide +kernel) (by decide +kernel), p, l1, l2, true, d, rfl, R, ok, fun H1 s1 => ?_⟩
    refine ⟨nl, [u, v], _, rfl, SqL.of (s1 _ _ hn), (by show 2 ≤ 1000; decide), fun H2 s2 => ?_⟩
    have s12 := s1.trans s2
    refine ⟨_, rfl, _, _, rfl, rfl, _, rfl, ?_⟩
    unfold refu
    cases ea : Kqy4.all [u, v] with
    | false =>
      rw [ea] at k
      refine iteT ⟨_, rfl, by show 1 ≤ sizeLine; decide, fun r hr => ?_⟩
      exact k _ r (s12.trans (Same.new hr)) (s12.free hr) upd_same
    | true =>
      rw [ea] at k
      cases eg : Kqy4.floorsGood d with
      | false =>
        rw [eg] at k
        refine iteT ⟨_, rfl, by show 1 ≤ sizeLine; decide, fun r hr => ?_⟩
        exact k _ r (s12.trans (Same.new hr)) (s12.free hr) upd_same
      | true =>
        rw [eg] at k
        obtain ⟨hu, hv⟩ := all2 ea
        have R2 := R.mono s12
        obtain ⟨dx2, hp2⟩ := R2.ins
        have hn2 := s12 _ _ hn
        refine iteF ⟨_, rfl, p, dx2, _, rfl, hp2, rf_no (by decide +kernel) (by decide +kernel) (by decide +kernel), _, rfl, nl, _, _, _, rfl, rfl, SqL.of hn2, rfl, _, rfl, nl, _, _, _, rfl, rfl, SqL.of hn2, rfl, by show 3 ≤ sizeLine; decide, fun t ht => ?_⟩
        have s3 : Same H2 (upd H2 t (.tup (tri (Kqy4.pt u v)))) := Same.new ht
        refine ⟨p, t, l1, l2, true, d, Kqy4.pt u v, rfl, R2.mono s3, ok, good_floor eg, upd_same, (bp_pt hu hv).mono (by decide), fun H4 r s4 hr4 => ?_⟩
        have s14 := (s12.trans s3).trans s4
        refine ⟨r, _, rfl, hr4, (bp_across ok (bp_pt hu hv)).sm (by decide), fun H5 q s5 hq hq5 => ?_⟩
        exact k H5 q (s14.trans s5) (s14.free hq) hq5
abbrev s_back : Stmt := top 45
theorem sc_back : FnScope ["room", "numbers", "refused"] ["room", "numbers"] (defScope s_back) := ⟨rfl, rfl, rfl, by decide +kernel, rfl, by decide +kernel, by decide +kernel⟩
theorem pr_back (G : Gd K mg "back" s_back) (T : Txt K C) (D_refusal : Pr P w K mg base 2 "refusal" ["numbers", "is_known"] (spRefusal K)) (D_where : Pr P w K mg base 3 "where" ["point"] spWhere)
    (D_Room_floors_known : PrM P w K mg base C 4 "floors_known" ["self"] (spKnown C)) (D_Room_back : PrM P w K mg base C 5 "back" ["self", "point"] (spView C Kqy4.back)) :
    Pr P w K mg base 6 "back" ["room", "numbers"] (spDo C 6 2) := by
  obtain ⟨f, fd, g, F⟩ := G.ex
  refine ⟨f, fd, g, F.kp, F.binds (fun _ _ _ _ _ _ us hl => match us, hl with | [_, _], _ => rfl), F.ok sc_back (fun vs H Q E h => ?_) (fun cdv A outer s H vs Q E hr h => ?_)⟩
  · obtain ⟨p, nl, l1, l2, s, ns, rfl, _⟩ := h
    rfl
  · obtain ⟨p, nl, l1, l2, s, ns, rfl, R, ok, hn, n1, n2, sz, oc, ns0, k⟩ := h
    match ns, sz, s with
    | _, _, none => exact absurd rfl (ns0 (by decide))
    | [u, v], _, some d =>
    have R : RoomAt C H p l1 l2 true d := R
    have ok : DOk d := ok
    obtain ⟨dx, hp⟩ := R.ins
    have k := k.pure (ns := Kqy4Neutral.tell (if Kqy4.all [u, v] = false then .num (-22) else if Kqy4.floorsGood d = false then .num (-16) else Kqy4.orElse (Kqy4.place (Kqy4.back d (Kqy4.pt u v))) (-6))) R rfl
    refine ⟨_, (pss_cons (ps_set (i := 2) sc_back.nd rfl (Or.inl rfl) (pe_callD D_refusal (hr.mono (by decide)) (pa_cons (pv 1) (pa_cons (pe_methD0 (pv 0) T.cl D_Room_floors_known (hr.mono (by decide))) pa_nil))))
      (pss_cons (ps_if (pt_cmpR op_lt (pv 2) pe_int (nomark _)) (pss_one (ps_ret (pe_lst (pa_cons (pv 2) pa_nil)))) pss_nil)
      (pss_one (ps_ret (pe_callD D_where (hr.mono (by decide)) (pa_cons (pe_methD (pv 0) T.cl D_Room_back (hr.mono (by decide)) (pa_cons (pe_tup (pa_cons (pe_ix (r := rIxL K) ix_list (pv 1) pe_int (fun _ _ => rfl)) (pa_cons (pe_ix (r := rIxL K) ix_list (pv 1) pe_int (fun _ _ => rfl)) (pa_cons pe_int pa_nil)))) pa_nil)) pa_nil)))))), ?_⟩
    refine ⟨_, rfl, _, rfl, p, dx, _, rfl, hp, rf_no (by decide +kernel) (by decide +kernel) (by decide +kernel), p, l1, l2, true, d, rfl, R, ok, fun H1 s1 => ?_⟩
    refine ⟨nl, [u, v], _, rfl, SqL.of (s1 _ _ hn), (by show 2 ≤ 1000; decide), fun H2 s2 => ?_⟩
    have s12 := s1.trans s2
    refine ⟨_, rfl, _, _, rfl, rfl, _, rfl, ?_⟩
    unfold refu
    cases ea : Kqy4.all [u, v] with
    | false =>
      rw [ea] at k
      refine iteT ⟨_, rfl, by show 1 ≤ sizeLine; decide, fun r hr => ?_⟩
      exact k _ r (s12.trans (Same.new hr)) (s12.free hr) upd_same
    | true =>
      rw [ea] at k
      cases eg : Kqy4.floorsGood d with
      | false =>
        rw [eg] at k
        refine iteT ⟨_, rfl, by show 1 ≤ sizeLine; decide, fun r hr => ?_⟩
        exact k _ r (s12.trans (Same.new hr)) (s12.free hr) upd_same
      | true =>
        rw [eg] at k
        obtain ⟨hu, hv⟩ := all2 ea
        have R2 := R.mono s12
        obtain ⟨dx2, hp2⟩ := R2.ins
        have hn2 := s12 _ _ hn
        refine iteF ⟨_, rfl, p, dx2, _, rfl, hp2, rf_no (by decide +kernel) (by decide +kernel) (by decide +kernel), _, rfl, nl, _, _, _, rfl, rfl, SqL.of hn2, rfl, _, rfl, nl, _, _, _, rfl, rfl, SqL.of hn2, rfl, by show 3 ≤ sizeLine; decide, fun t ht => ?_⟩
        have s3 : Same H2 (upd H2 t (.tup (tri (Kqy4.pt u v)))) := Same.new ht
        refine ⟨p, t, l1, l2, true, d, Kqy4.pt u v, rfl, R2.mono s3, ok, good_floor eg, upd_same, (bp_pt hu hv).mono (by decide), fun H4 r s4 hr4 => ?_⟩
        have s14 := (s12.trans s3).trans s4
        refine ⟨r, _, rfl, hr4, (bp_back ok (bp_pt hu hv)).sm (by decide), fun H5 q s5 hq hq5 => ?_⟩
        exact k H5 q (s14.trans s5) (s14.free hq) hq5

/-! ### stand, stand1 -/
abbrev s_stand : Stmt := top 46
theorem sc_stand : FnScope ["room", "numbers"] ["room", "numbers"] (defScope s_stand) := ⟨rfl, rfl, rfl, by decide +kernel, rfl, by decide +kernel, by decide +kernel⟩
theorem pr_stand (G : Gd K mg "stand" s_stand) (B : Bg mg C aS aA) (T : Txt K C) (D_where : Pr P w K mg base 3 "where" ["point"] spWhere)
    (D_Room_is_ready : PrM P w K mg base C 8 "is_ready" ["self"] (spReady C)) (D_Room_stand : PrM P w K mg base C 7 "stand" ["self"] (spStand C)) :
    Pr P w K mg base 9 "stand" ["room", "numbers"] (spDo C 7 0) := by
  obtain ⟨f, fd, g, F⟩ := G.ex
  refine ⟨f, fd, g, F.kp, F.binds (fun _ _ _ _ _ _ us hl => match us, hl with | [_, _], _ => rfl), F.ok sc_stand (fun vs H Q E h => ?_) (fun cdv A outer s H vs Q E hr h => ?_)⟩
  · obtain ⟨p, nl, l1, l2, s, ns, rfl, _⟩ := h
    rfl
  · obtain ⟨p, nl, l1, l2, s, ns, rfl, R, ok, hn, n1, n2, sz, oc, ns0, k⟩ := h
    match ns, sz, s with
    | _, _, none => exact absurd rfl (ns0 (by decide))
    | [], _, some d =>
    have R : RoomAt C H p l1 l2 true d := R
    have ok : DOk d := ok
    obtain ⟨dx, hp⟩ := R.ins
    have k := k.pure (ns := Kqy4Neutral.tell (if Kqy4.ready d = false then .num (-16) else Kqy4.orElse (Kqy4.place (Kqy4.stand d)) (-6))) R rfl
    refine ⟨_, (pss_cons (ps_if (pt_not (pt_val (pe_methD0 (pv 0) T.cl D_Room_is_ready (hr.mono (by decide))))) (pss_one (ps_ret (pe_lst (pa_cons (pe_globI B.g_NOT_READY) pa_nil)))) pss_nil)
      (pss_one (ps_ret (pe_callD D_where (hr.mono (by decide)) (pa_cons (pe_methD0 (pv 0) T.cl D_Room_stand (hr.mono (by decide))) pa_nil))))), ?_⟩
    refine ⟨_, rfl, p, dx, _, rfl, hp, rf_no (by decide +kernel) (by decide +kernel) (by decide +kernel), p, l1, l2, true, d, rfl, R, ok, fun H1 s1 => ⟨_, rfl, ?_⟩⟩
    cases er : Kqy4.ready d with
    | false =>
      rw [er] at k
      refine iteT ⟨by show 1 ≤ sizeLine; decide, fun r hr => ?_⟩
      exact k _ r (s1.trans (Same.new hr)) (s1.free hr) upd_same
    | true =>
      rw [er] at k
      obtain ⟨_, h4, h2⟩ := ready_floor er
      have R1 := R.mono s1
      obtain ⟨dx1, hp1⟩ := R1.ins
      refine iteF ⟨_, rfl, p, dx1, _, rfl, hp1, rf_no (by decide +kernel) (by decide +kernel) (by decide +kernel), p, l1, l2, true, d, rfl, R1, ok, h4, h2, fun H2 r s2 hr2 => ?_⟩
      have s12 := s1.trans s2
      refine ⟨r, _, rfl, hr2, (bp_stand ok).sm (by decide), fun H5 q s5 hq hq5 => ?_⟩
      exact k H5 q (s12.trans s5) (s12.free hq) hq5
abbrev s_stand1 : Stmt := top 47
theorem sc_stand1 : FnScope ["room", "numbers"] ["room", "numbers"] (defScope s_stand1) := ⟨rfl, rfl, rfl, by decide +kernel, rfl, by decide +kernel, by decide +kernel⟩
theorem pr_stand1 (G : Gd K mg "stand1" s_stand1) (B : Bg mg C aS aA) (T : Txt K C) (D_where : Pr P w K mg base 3 "where" ["point"] spWhere)
    (D_Room_is_ready : PrM P w K mg base C 8 "is_ready" ["self"] (spReady C)) (D_Room_stand : PrM P w K mg base C 7 "stand" ["self"] (spStand C)) (D_Room_back : PrM P w K mg base C 5 "back" ["self", "point"] (spView C Kqy4.back)) :
    Pr P w K mg base 9 "stand1" ["room", "numbers"] (spDo C 8 0) := by
  obtain ⟨f, fd, g, F⟩ := G.ex
  refine ⟨f, fd, g, F.kp, F.binds (fun _ _ _ _ _ _ us hl => match us, hl with | [_, _], _ => rfl), F.ok sc_stand1 (fun vs H Q E h => ?_) (fun cdv A outer s H vs Q E hr h => ?_)⟩
  · obtain ⟨p, nl, l1, l2, s, ns, rfl, _⟩ := h
    rfl
  · obtain ⟨p, nl, l1, l2, s, ns, rfl, R, ok, hn, n1, n2, sz, oc, ns0, k⟩ := h
    match ns, sz, s with
    | _, _, none => exact absurd rfl (ns0 (by decide))
    | [], _, some d =>
    have R : RoomAt C H p l1 l2 true d := R
    have ok : DOk d := ok
    obtain ⟨dx, hp⟩ := R.ins
    have k := k.pure (ns := Kqy4Neutral.tell (if Kqy4.ready d = false then .num (-16) else Kqy4.orElse (Kqy4.place (Kqy4.back d (Kqy4.stand d))) (-6))) R rfl
    refine ⟨_, (pss_cons (ps_if (pt_not (pt_val (pe_methD0 (pv 0) T.cl D_Room_is_ready (hr.mono (by decide))))) (pss_one (ps_ret (pe_lst (pa_cons (pe_globI B.g_NOT_READY) pa_nil)))) pss_nil)
      (pss_one (ps_ret (pe_callD D_where (hr.mono (by decide)) (pa_cons (pe_methD (pv 0) T.cl D_Room_back (hr.mono (by decide)) (pa_cons (pe_methD0 (pv 0) T.cl D_Room_stand (hr.mono (by decide))) pa_nil)) pa_nil))))), ?_⟩
    refine ⟨_, rfl, p, dx, _, rfl, hp, rf_no (by decide +kernel) (by decide +kernel) (by decide +kernel), p, l1, l2, true, d, rfl, R, ok, fun H1 s1 => ⟨_, rfl, ?_⟩⟩
    cases er : Kqy4.ready d with
    | false =>
      rw [er] at k
      refine iteT ⟨by show 1 ≤ sizeLine; decide, fun r hr => ?_⟩
      exact k _ r (s1.trans (Same.new hr)) (s1.free hr) upd_same
    | true =>
      rw [er] at k
      obtain ⟨_, h4, h2⟩ := ready_floor er
      have R1 := R.mono s1
      obtain ⟨dx1, hp1⟩ := R1.ins
      refine iteF ⟨_, rfl, p, dx1, _, rfl, hp1, rf_no (by decide +kernel) (by decide +kernel) (by decide +kernel), _, rfl, p, dx1, _, rfl, hp1, rf_no (by decide +kernel) (by decide +kernel) (by decide +kernel), p, l1, l2, true, d, rfl, R1, ok, h4, h2, fun H2 r s2 hr2 => ?_⟩
      have s12 := s1.trans s2
      refine ⟨p, r, l1, l2, true, d, _, rfl, R.mono s12, ok, h4, hr2, (bp_stand ok).mono (by decide), fun H3 q s3 hq3 => ?_⟩
      have s13 := s12.trans s3
      refine ⟨q, _, rfl, hq3, (bp_back ok (bp_stand ok)).sm (by decide), fun H5 q5 s5 hq hq5 => ?_⟩
      exact k H5 q5 (s13.trans s5) (s13.free hq) hq5
end
end Rt

set_option Elab.async false
set_option maxRecDepth 100000
set_option maxHeartbeats 4000000
set_option linter.unusedVariables false
namespace Rt
open PySem PySem.Spec PyProof.Rows L2
open Kqy4 (Both Desk)
section
variable {P : Program} {w : World} {K : PySem.W.Frag} {mg : Str → Option Value} {base : Heap} {C aS aA : Addr}
/-! ### drop -/
abbrev s_drop : Stmt := top 42
theorem sc_drop : FnScope ["room", "numbers", "kind", "number", "kept"] ["room", "numbers"] (defScope s_drop) := ⟨rfl, rfl, rfl, by decide +kernel, rfl, by decide +kernel, by decide +kernel⟩
theorem drop_far {d : Desk} {k i : Nat} (h : 1 < k) : stp 3 (some d) [(k : Int), (i : Int)] = (some d, [-22]) := by
  show ((Kqy4.step (some d) (.drop (Int.toNat k) (Int.toNat i))).1, Kqy4Neutral.tell (Kqy4.step (some d) (.drop (Int.toNat k) (Int.toNat i))).2) = _
  rw [Int.toNat_natCast, Int.toNat_natCast]
  unfold Kqy4.step
  simp only [if_pos h]
  rfl
theorem drop_f {d : Desk} {i : Nat} : stp 3 (some d) [0, (i : Int)] = if d.floor.length ≤ i then (some d, [-2]) else (some { d with floor := d.floor.eraseIdx i }, [((d.floor.length - 1 : Nat) : Int)]) := by
  show ((Kqy4.step (some d) (.drop 0 (Int.toNat i))).1, Kqy4Neutral.tell (Kqy4.step (some d) (.drop 0 (Int.toNat i))).2) = _
  rw [Int.toNat_natCast]
  show ((if d.floor.length ≤ i then (some d, Kqy4.Ans.num (-2)) else (some { d with floor := d.floor.eraseIdx i }, .num (d.floor.length - 1 : Nat))).1, Kqy4Neutral.tell (if d.floor.length ≤ i then (some d, Kqy4.Ans.num (-2)) else (some { d with floor := d.floor.eraseIdx i }, .num (d.floor.length - 1 : Nat))).2) = _
  split <;> rfl
theorem drop_t {d : Desk} {i : Nat} : stp 3 (some d) [1, (i : Int)] = if d.off.length ≤ i then (some d, [-2]) else (some { d with off := d.off.eraseIdx i }, [((d.off.length - 1 : Nat) : Int)]) := by
  show ((Kqy4.step (some d) (.drop 1 (Int.toNat i))).1, Kqy4Neutral.tell (Kqy4.step (some d) (.drop 1 (Int.toNat i))).2) = _
  rw [Int.toNat_natCast]
  show ((if d.off.length ≤ i then (some d, Kqy4.Ans.num (-2)) else (some { d with off := d.off.eraseIdx i }, .num (d.off.length - 1 : Nat))).1, Kqy4Neutral.tell (if d.off.length ≤ i then (some d, Kqy4.Ans.num (-2)) else (some { d with off := d.off.eraseIdx i }, .num (d.off.length - 1 : Nat))).2) = _
  split <;> rfl
theorem pr_drop (G : Gd K mg "drop" s_drop) (B : Bg mg C aS aA) (T : Txt K C) : Pr P w K mg base 1 "drop" ["room", "numbers"] (spDo C 3 2) := by
  obtain ⟨f, fd, g, F⟩ := G.ex
  refine ⟨f, fd, g, F.kp, F.binds (fun _ _ _ _ _ _ us hl => match us, hl with | [_, _], _ => rfl), F.ok sc_drop (fun vs H Q E h => ?_) (fun cdv A outer s H vs Q E hr h => ?_)⟩
  · obtain ⟨p, nl, l1, l2, s, ns, rfl, _⟩ := h
    rfl
  · obtain ⟨p, nl, l1, l2, s, ns, rfl, R, ok, hn, n1, n2, sz, oc, ns0, k⟩ := h
    match ns, sz, s with
    | _, _, none => exact absurd rfl (ns0 (by decide))
    | [a, b], _, some d =>
    have R : RoomAt C H p l1 l2 true d := R
    have ok : DOk d := ok
    obtain ⟨dx, hp⟩ := R.ins
    have oa := oc rfl a (by simp)
    have ob := oc rfl b (by simp)
    obtain ⟨kk, rfl⟩ : ∃ kk : Nat, a = (kk : Int) := ⟨a.toNat, by omega⟩
    obtain ⟨i, rfl⟩ : ∃ i : Nat, b = (i : Int) := ⟨b.toNat, by omega⟩
    refine ⟨_, (pss_cons (ps_set (i := 2) sc_drop.nd rfl (Or.inl rfl) (pe_ix (r := rIxL K) ix_list (pv 1) pe_int (fun _ _ => rfl)))
      (pss_cons (ps_set (i := 3) sc_drop.nd rfl (Or.inl rfl) (pe_ix (r := rIxL K) ix_list (pv 1) pe_int (fun _ _ => rfl)))
      (pss_cons (ps_if (PW.pt (pw_and (pt_cmpR op_ne (pv 2) pe_int (nomark _)) (pw_and1 (pt_cmpR op_ne (pv 2) pe_int (nomark _))))) (pss_one (ps_ret (pe_lst (pa_cons (pe_globI B.g_OUTSIDE) pa_nil)))) pss_nil)
      (pss_cons (ps_set (i := 4) sc_drop.nd rfl (Or.inl rfl) (pe_ifExp (pt_cmpR op_eq (pv 2) pe_int (nomark _)) (pe_fld (pv 0) rfl) (pe_fld (pv 0) rfl)))
      (pss_cons (ps_if (pt_cmpR op_ge (pv 3) (pe_callB call_len_seq (by rfl) B.len PySem.boot_len (pa_cons (pv 4) pa_nil)) (nomark _)) (pss_one (ps_ret (pe_lst (pa_cons (pe_globI B.g_NONE_SUCH) pa_nil)))) pss_nil)
      (pss_cons (ps_expr (pe_bm PySem.F.plainAttrs_list PySem.F.slot_list_pop PySem.F.type_list_pop mt_popAt (pv 4) (pa_cons (pv 3) pa_nil)))
      (pss_one (ps_ret (pe_lst (pa_cons (pe_callB call_len_seq (by rfl) B.len PySem.boot_len (pa_cons (pv 4) pa_nil)) pa_nil)))))))))), ?_⟩
    refine ⟨_, rfl, nl, _, _, _, rfl, rfl, SqL.of hn, rfl, _, rfl, nl, _, _, _, rfl, rfl, SqL.of hn, rfl, ?_⟩
    refine ⟨_, rfl, rfl, _, rfl, ?_⟩
    match kk, k with
    | 0, k =>
      refine iteF (iteF ?_)
      refine ⟨_, rfl, rfl, _, rfl, iteT ?_⟩
      obtain ⟨as, h1, h2, h3⟩ := R.fl
      refine ⟨_, rfl, p, C, dx, _, _, rfl, hp, T.cl, T.nF, rf_floor _ _ _, ?_⟩
      have k : Post C H Q p l1 l2 (stp 3 (some d) [0, (i : Int)]) := k
      rw [drop_f] at k
      refine ⟨_, rfl, _, rfl, l1, _, rfl, .inl (SqL.of h1), _, _, rfl, rfl, _, rfl, ?_⟩
      rw [List.length_map, h2]
      by_cases c : d.floor.length ≤ i
      · rw [if_pos c] at k
        refine ite2 (fun _ => ?_) (fun h => absurd (decide_eq_true (by omega)) h)
        refine ⟨by show 1 ≤ sizeLine; decide, fun r hr => ?_⟩
        exact k.pure R rfl _ r (Same.new hr) hr upd_same
      · rw [if_neg c] at k
        refine ite2 (fun h => absurd (of_decide_eq_true h) (by omega)) (fun _ => ?_)
        have hi : i < (as.map V.ref).length := by rw [List.length_map, h2]; omega
        refine ⟨_, rfl, .inl ⟨rfl, _, SqL.of h1⟩, _, rfl, l1, _, _, i, _, rfl, rfl, h1, by omega, by omega, ?_, List.getElem?_eq_getElem hi, ?_⟩
        · rw [seqIndex_of (by omega) (by omega), Int.toNat_natCast]
        refine ⟨_, rfl, l1, _, rfl, .inl (SqL.of upd_same), by show 1 ≤ sizeLine; decide, fun r hr => ?_⟩
        have bs := BsAt.drop (i := i) h1 h2 h3
        have fr : H r = none := by
          by_cases e : r = l1
          · subst e
            rw [upd_same] at hr
            cases hr
          · rw [upd_ne e] at hr
            exact hr
        have s2 := Same.new (o := .lst [V.int (((as.map V.ref).eraseIdx i).length : Int)]) hr
        refine k _ r l1 l2 ⟨⟨dx, s2 _ _ ?_⟩, bs.mono s2, (R.th.put h1 R.ne.symm).mono s2, R.ne⟩ (fun b u hb nb m1 m2 => ⟨s2 _ _ (by rw [upd_ne m1]; exact hb), m1, m2⟩) fr ?_
        · rw [upd_ne (ne_of hp h1 (by intro z; cases z))]
          exact hp
        · have el : ((as.map V.ref).eraseIdx i).length = d.floor.length - 1 := by
            rw [List.length_eraseIdx, if_pos hi, List.length_map, h2]
          rw [el]
          exact upd_same
    | 1, k =>
      refine iteT ⟨_, rfl, rfl, _, rfl, iteF ?_⟩
      refine ⟨_, rfl, rfl, _, rfl, iteF ?_⟩
      obtain ⟨as, h1, h2, h3⟩ := R.th
      refine ⟨_, rfl, p, C, dx, _, _, rfl, hp, T.cl, T.nT, rf_things _ _ _, ?_⟩
      have k : Post C H Q p l1 l2 (stp 3 (some d) [1, (i : Int)]) := k
      rw [drop_t] at k
      refine ⟨_, rfl, _, rfl, l2, _, rfl, .inl (SqL.of h1), _, _, rfl, rfl, _, rfl, ?_⟩
      rw [List.length_map, h2]
      by_cases c : d.off.length ≤ i
      · rw [if_pos c] at k
        refine ite2 (fun _ => ?_) (fun h => absurd (decide_eq_true (by omega)) h)
        refine ⟨by show 1 ≤ sizeLine; decide, fun r hr => ?_⟩
        exact k.pure R rfl _ r (Same.new hr) hr upd_same
      · rw [if_neg c] at k
        refine ite2 (fun h => absurd (of_decide_eq_true h) (by omega)) (fun _ => ?_)
        have hi : i < (as.map V.ref).length := by rw [List.length_map, h2]; omega
        refine ⟨_, rfl, .inl ⟨rfl, _, SqL.of h1⟩, _, rfl, l2, _, _, i, _, rfl, rfl, h1, by omega, by omega, ?_, List.getElem?_eq_getElem hi, ?_⟩
        · rw [seqIndex_of (by omega) (by omega), Int.toNat_natCast]
        refine ⟨_, rfl, l2, _, rfl, .inl (SqL.of upd_same), by show 1 ≤ sizeLine; decide, fun r hr => ?_⟩
        have bs := BsAt.drop (i := i) h1 h2 h3
        have fr : H r = none := by
          by_cases e : r = l2
          · subst e
            rw [upd_same] at hr
            cases hr
          · rw [upd_ne e] at hr
            exact hr
        have s2 := Same.new (o := .lst [V.int (((as.map V.ref).eraseIdx i).length : Int)]) hr
        refine k _ r l1 l2 ⟨⟨dx, s2 _ _ ?_⟩, (R.fl.put h1 R.ne).mono s2, bs.mono s2, R.ne⟩ (fun b u hb nb m1 m2 => ⟨s2 _ _ (by rw [upd_ne m2]; exact hb), m1, m2⟩) fr ?_
        · rw [upd_ne (ne_of hp h1 (by intro z; cases z))]
          exact hp
        · have el : ((as.map V.ref).eraseIdx i).length = d.off.length - 1 := by
            rw [List.length_eraseIdx, if_pos hi, List.length_map, h2]
          rw [el]
          exact upd_same
    | kk + 2, k =>
      rw [drop_far (by omega)] at k
      have e1 : decide (V.int ((kk + 2 : Nat) : Int) = V.int 0) = false := by rw [int_eq]; exact decide_eq_false (by omega)
      have e2 : decide (V.int ((kk + 2 : Nat) : Int) = V.int 1) = false := by rw [int_eq]; exact decide_eq_false (by omega)
      rw [e1]
      refine iteT ⟨_, rfl, rfl, _, rfl, ?_⟩
      rw [e2]
      refine iteT ⟨by show 1 ≤ sizeLine; decide, fun r hr => ?_⟩
      exact k.pure R rfl _ r (Same.new hr) hr upd_same
end
end Rt

set_option Elab.async false
set_option maxRecDepth 100000
set_option maxHeartbeats 4000000
set_option linter.unusedVariables false
namespace Rt
open PySem PySem.Spec PyProof.Rows L2
open Kqy4 (Both Desk)
/-! ### abs and max as values -/
abbrev rAbs : List V → Hp → VK → Prop := fun xs H Q => ∃ i, xs = [V.int i] ∧ Q (.int (if i < 0 then -i else i)) H
abbrev rMax2 : List V → Hp → VK → Prop := fun xs H Q => ∃ i j, xs = [V.int i, V.int j] ∧ Q (.int (if j > i then j else i)) H
abbrev rGtI : R2 := rI0 fun i j => .bl (decide (j < i))
section
variable {σ : L2.St} {H : Hp} {ta tb : TE} {i j : Int}
theorem v_abs (ha : Val ta σ H (.int i)) : Val (tCB rAbs (tCons ta tNil)) σ H (.int ((i.natAbs : Nat) : Int)) := fun Q q =>
  ha _ ⟨i, rfl, by rw [abs_nat]; exact q⟩
theorem v_max (ha : Val ta σ H (.int i)) (hb : Val tb σ H (.int j)) : Val (tCB rMax2 (tCons ta (tCons tb tNil))) σ H (.int (if j > i then j else i)) := fun Q q =>
  ha _ (hb _ ⟨i, j, rfl, q⟩)
end
/-! ### a line within its bounds -/
def lnOk (a b e : Int) : Bool := decide (-1000 ≤ a) && decide (a ≤ 1000) && decide (-1000 ≤ b) && decide (b ≤ 1000) && decide (-100000 ≤ e) && decide (e ≤ 100000)
def lnOut (a b e : Int) : Bool := if lnOk a b e = false ∨ (a = 0 ∧ b = 0) then true else false
theorem lnOut_00 {a b e : Int} (h : a = 0 ∧ b = 0) : lnOut a b e = true := if_pos (.inr h)
theorem lnOk_iff (a b e : Int) : lnOk a b e = true ↔ (-1000 ≤ a ∧ a ≤ 1000 ∧ -1000 ≤ b ∧ b ≤ 1000 ∧ -100000 ≤ e ∧ e ≤ 100000) := by
  unfold lnOk
  simp only [Bool.and_eq_true, decide_eq_true_eq]
  omega
theorem lnOut_else {a b e : Int} (h : ¬ (a = 0 ∧ b = 0)) : (decide (1000 < (if ((b.natAbs : Nat) : Int) > ((a.natAbs : Nat) : Int) then ((b.natAbs : Nat) : Int) else ((a.natAbs : Nat) : Int))) || decide (100000 < ((e.natAbs : Nat) : Int))) = lnOut a b e := by
  have q := lnOk_iff a b e
  cases ek : lnOk a b e with
  | true =>
    have q := q.mp ek
    have e1 : lnOut a b e = false := if_neg fun z => by
      rcases z with z | z
      · rw [ek] at z
        cases z
      · exact h z
    rw [e1, Bool.or_eq_false_iff, decide_eq_false_iff_not, decide_eq_false_iff_not]
    split <;> omega
  | false =>
    have e1 : lnOut a b e = true := if_pos (.inl ek)
    rw [e1, Bool.or_eq_true, decide_eq_true_eq, decide_eq_true_eq]
    have nq : ¬ (-1000 ≤ a ∧ a ≤ 1000 ∧ -1000 ≤ b ∧ b ≤ 1000 ∧ -100000 ≤ e ∧ e ≤ 100000) := fun z => by
      rw [q.mpr z] at ek
      cases ek
    split <;> omega

section
variable {P : Program} {w : World} {K : PySem.W.Frag} {mg : Str → Option Value} {base : Heap} {C aS aA : Addr}
/-! ### is_line_outside -/
abbrev s_is_line_outside : Stmt := top 34
theorem sc_is_line_outside : FnScope ["line"] ["line"] (defScope s_is_line_outside) := ⟨rfl, rfl, rfl, by decide +kernel, rfl, by decide +kernel, by decide +kernel⟩
def spLnOut (K : PySem.W.Frag) : Sp := fun vs H Q _ => ∃ (l : Addr) (a b e : Int), vs = [.ref l] ∧ SqL K H l [.int a, .int b, .int e] ∧ Q (.bl (lnOut a b e)) H
theorem pr_is_line_outside (G : Gd K mg "is_line_outside" s_is_line_outside) (B : Bg mg C aS aA) : Pr P w K mg base 1 "is_line_outside" ["line"] (spLnOut K) := by
  obtain ⟨f, fd, g, F⟩ := G.ex
  refine ⟨f, fd, g, F.kp, F.binds (fun _ _ _ _ _ _ us hl => match us, hl with | [_], _ => rfl), F.ok sc_is_line_outside (fun vs H Q E h => ?_) (fun cdv A outer s H vs Q E hr h => ?_)⟩
  · obtain ⟨l, a, b, e, rfl, _⟩ := h
    rfl
  · obtain ⟨l, a, b, e, rfl, hl, k⟩ := h
    refine ⟨_, (pss_cons (ps_if (PW.pt (pw_and (pt_cmpR op_eq (pe_ix (r := rIxL K) ix_list (pv 0) pe_int (fun _ _ => rfl)) pe_int (nomark _)) (pw_and1 (pt_cmpR op_eq (pe_ix (r := rIxL K) ix_list (pv 0) pe_int (fun _ _ => rfl)) pe_int (nomark _))))) (pss_one (ps_ret pe_bl)) pss_nil)
      (pss_one (ps_ret (pe_or (pe_cmpR op_gt (pe_callB (call_max2 rfl) (by rfl) B.max (by decide +kernel) (pa_cons (pe_callB call_abs (by rfl) B.abs (by decide +kernel) (pa_cons (pe_ix (r := rIxL K) ix_list (pv 0) pe_int (fun _ _ => rfl)) pa_nil)) (pa_cons (pe_callB call_abs (by rfl) B.abs (by decide +kernel) (pa_cons (pe_ix (r := rIxL K) ix_list (pv 0) pe_int (fun _ _ => rfl)) pa_nil)) pa_nil))) (pe_globI B.g_LAST_SLOPE) (nomark _)) (pe_one (pe_cmpR op_gt (pe_callB call_abs (by rfl) B.abs (by decide +kernel) (pa_cons (pe_ix (r := rIxL K) ix_list (pv 0) pe_int (fun _ _ => rfl)) pa_nil)) (pe_globI B.g_LAST_SHIFT) (nomark _))))))), ?_⟩
    have rest : ¬ (a = 0 ∧ b = 0) → tOrV (tOp rGtI (tCB rMax2 (tCons (tCB rAbs (tCons (tOp (rIxL K) (tVar 0) (tC (.int 0))) tNil)) (tCons (tCB rAbs (tCons (tOp (rIxL K) (tVar 0) (tC (.int 1))) tNil)) tNil))) (tC (.int 1000)))
        (tOp rGtI (tCB rAbs (tCons (tOp (rIxL K) (tVar 0) (tC (.int 2))) tNil)) (tC (.int 100000))) [some (V.ref l)] H Q := by
      intro c
      rw [← lnOut_else c] at k
      exact v_or (v_cmp (v_max (v_abs (v_ixL (val_var rfl) val_c hl rfl)) (v_abs (v_ixL (val_var rfl) val_c hl rfl))) val_c) (v_cmp (v_abs (v_ixL (val_var rfl) val_c hl rfl)) val_c) _ k
    refine ⟨_, rfl, l, _, _, _, rfl, rfl, hl, rfl, rfl, _, rfl, ?_⟩
    rw [int_eq]
    by_cases c : a = 0
    · rw [decide_eq_true c]
      refine iteT ⟨_, rfl, l, _, _, _, rfl, rfl, hl, rfl, rfl, _, rfl, ?_⟩
      rw [int_eq]
      by_cases c2 : b = 0
      · rw [decide_eq_true c2]
        rw [lnOut_00 ⟨c, c2⟩] at k
        exact iteT k
      · rw [decide_eq_false c2]
        exact iteF (rest fun z => c2 z.2)
    · rw [decide_eq_false c]
      exact iteF (iteF (rest fun z => c z.1))

/-! ### which -/
abbrev s_which : Stmt := top 37
theorem sc_which : FnScope ["line"] ["line"] (defScope s_which) := ⟨rfl, rfl, rfl, by decide +kernel, rfl, by decide +kernel, by decide +kernel⟩
def tellL (p : Pt) : List Int := Kqy4Neutral.tell (Kqy4.lineAns p (-33))
theorem tellL_out {p : Pt} (h : p.1 = 0 ∧ p.2.1 = 0) : tellL p = [-33] := by
  unfold tellL Kqy4.lineAns
  rw [if_pos h]
  rfl
theorem tellL_in {p : Pt} (h : ¬ (p.1 = 0 ∧ p.2.1 = 0)) : tellL p = [0] ++ Kqy4.told_ p := by
  unfold tellL Kqy4.lineAns
  rw [if_neg h]
  rfl
theorem told_len (p : Pt) : (Kqy4.told_ p).length = 3 := by
  unfold Kqy4.told_
  simp only []
  split <;> rfl
def spWhich : Sp := fun vs H Q _ => ∃ (a : Addr) (p : Pt), vs = [.ref a] ∧ PtAt H a p ∧ SmP p ∧ spNewL H Q (tellL p)
theorem pr_which (G : Gd K mg "which" s_which) (B : Bg mg C aS aA) (D_line_told : Pr P w K mg base 2 "line_told" ["line"] spTold) : Pr P w K mg base 3 "which" ["line"] spWhich := by
  obtain ⟨f, fd, g, F⟩ := G.ex
  refine ⟨f, fd, g, F.kp, F.binds (fun _ _ _ _ _ _ us hl => match us, hl with | [_], _ => rfl), F.ok sc_which (fun vs H Q E h => ?_) (fun cdv A outer s H vs Q E hr h => ?_)⟩
  · obtain ⟨a, p, rfl, _⟩ := h
    rfl
  · obtain ⟨a, p, rfl, ha, sp, k⟩ := h
    refine ⟨_, (pss_cons (ps_if (PW.pt (pw_and (pt_cmpR op_eq (pe_ix (r := rIxT K) ix_tup (pv 0) pe_int (fun _ _ => rfl)) pe_int (nomark _)) (pw_and1 (pt_cmpR op_eq (pe_ix (r := rIxT K) ix_tup (pv 0) pe_int (fun _ _ => rfl)) pe_int (nomark _))))) (pss_one (ps_ret (pe_lst (pa_cons (pe_globI B.g_NOT_TO_BE_TOLD) pa_nil)))) pss_nil)
      (pss_one (ps_ret (pe_op op_cat (pe_lst (pa_cons pe_int pa_nil)) (pe_callD D_line_told (hr.mono (by decide)) (pa_cons (pv 0) pa_nil)))))), ?_⟩
    -- the rest, where a line is told
    have rest : ¬ (p.1 = 0 ∧ p.2.1 = 0) → tOp rCat (tLst (tCons (tC (.int 0)) tNil)) (tCall spTold [] E0 (tCons (tVar 0) tNil)) [some (V.ref a)] H Q := by
      intro c
      rw [tellL_in c] at k
      refine ⟨by show 1 ≤ sizeLine; decide, fun r hr => ?_⟩
      have s1 : Same H (upd H r (.lst [.int 0])) := Same.new hr
      refine ⟨_, rfl, a, p, rfl, ha.mono s1, sp, fun z => c ⟨z.1, z.2.1⟩, fun H2 q s2 hq0 hq => ?_⟩
      refine ⟨r, q, _, _, rfl, rfl, s2 _ _ upd_same, hq, ?_, fun t ht => ?_⟩
      · rw [List.length_map, told_len]
        show 4 ≤ sizeLine
        decide
      have s12 := s1.trans s2
      refine k _ t (s12.trans (Same.new ht)) (s12.free ht) ?_
      rw [upd_same, List.map_append]
      rfl
    refine ⟨_, rfl, a, _, _, _, rfl, rfl, SqT.of ha, rfl, rfl, _, rfl, ?_⟩
    rw [int_eq]
    by_cases c : p.1 = 0
    · rw [decide_eq_true c]
      refine iteT ⟨_, rfl, a, _, _, _, rfl, rfl, SqT.of ha, rfl, rfl, _, rfl, ?_⟩
      rw [int_eq]
      by_cases c2 : p.2.1 = 0
      · rw [decide_eq_true c2]
        rw [tellL_out ⟨c, c2⟩] at k
        exact iteT ⟨by show 1 ≤ sizeLine; decide, fun r hr => k _ r (Same.new hr) hr upd_same⟩
      · rw [decide_eq_false c2]
        exact iteF (rest fun z => c2 z.2)
    · rw [decide_eq_false c]
      exact iteF (iteF (rest fun z => c z.1))

/-! ### track, track1 -/
abbrev s_track : Stmt := top 48
theorem sc_track : FnScope ["room", "numbers", "refused"] ["room", "numbers"] (defScope s_track) := ⟨rfl, rfl, rfl, by decide +kernel, rfl, by decide +kernel, by decide +kernel⟩
theorem pr_track (G : Gd K mg "track" s_track) (T : Txt K C) (D_refusal : Pr P w K mg base 2 "refusal" ["numbers", "is_known"] (spRefusal K)) (D_which : Pr P w K mg base 3 "which" ["line"] spWhich)
    (D_Room_is_ready : PrM P w K mg base C 8 "is_ready" ["self"] (spReady C)) (D_Room_track : PrM P w K mg base C 8 "track" ["self", "point"] (spTrack C Kqy4.track)) :
    Pr P w K mg base 9 "track" ["room", "numbers"] (spDo C 9 2) := by
  obtain ⟨f, fd, g, F⟩ := G.ex
  refine ⟨f, fd, g, F.kp, F.binds (fun _ _ _ _ _ _ us hl => match us, hl with | [_, _], _ => rfl), F.ok sc_track (fun vs H Q E h => ?_) (fun cdv A outer s H vs Q E hr h => ?_)⟩
  · obtain ⟨p, nl, l1, l2, s, ns, rfl, _⟩ := h
    rfl
  · obtain ⟨p, nl, l1, l2, s, ns, rfl, R, ok, hn, n1, n2, sz, oc, ns0, k⟩ := h
    match ns, sz, s with
    | _, _, none => exact absurd rfl (ns0 (by decide))
    | [u, v], _, some d =>
    have R : RoomAt C H p l1 l2 true d := R
    have ok : DOk d := ok
    obtain ⟨dx, hp⟩ := R.ins
    have k := k.pure (ns := Kqy4Neutral.tell (if Kqy4.all [u, v] = false then .num (-22) else if Kqy4.ready d = false then .num (-16) else Kqy4.lineAns (Kqy4.track d (Kqy4.pt u v)) (-33))) R rfl
    refine ⟨_, (pss_cons (ps_set (i := 2) sc_track.nd rfl (Or.inl rfl) (pe_callD D_refusal (hr.mono (by decide)) (pa_cons (pv 1) (pa_cons (pe_methD0 (pv 0) T.cl D_Room_is_ready (hr.mono (by decide))) pa_nil))))
      (pss_cons (ps_if (pt_cmpR op_lt (pv 2) pe_int (nomark _)) (pss_one (ps_ret (pe_lst (pa_cons (pv 2) pa_nil)))) pss_nil)
      (pss_one (ps_ret (pe_callD D_which (hr.mono (by decide)) (pa_cons (pe_methD (pv 0) T.cl D_Room_track (hr.mono (by decide)) (pa_cons (pe_tup (pa_cons (pe_ix (r := rIxL K) ix_list (pv 1) pe_int (fun _ _ => rfl)) (pa_cons (pe_ix (r := rIxL K) ix_list (pv 1) pe_int (fun _ _ => rfl)) (pa_cons pe_int pa_nil)))) pa_nil)) pa_nil)))))), ?_⟩
    refine ⟨_, rfl, _, rfl, p, dx, _, rfl, hp, rf_no (by decide +kernel) (by decide +kernel) (by decide +kernel), p, l1, l2, true, d, rfl, R, ok, fun H1 s1 => ?_⟩
    refine ⟨nl, [u, v], _, rfl, SqL.of (s1 _ _ hn), (by show 2 ≤ 1000; decide), fun H2 s2 => ?_⟩
    have s12 := s1.trans s2
    refine ⟨_, rfl, _, _, rfl, rfl, _, rfl, ?_⟩
    unfold refu
    cases ea : Kqy4.all [u, v] with
    | false =>
      rw [ea] at k
      refine iteT ⟨_, rfl, by show 1 ≤ sizeLine; decide, fun r hr => ?_⟩
      exact k _ r (s12.trans (Same.new hr)) (s12.free hr) upd_same
    | true =>
      rw [ea] at k
      cases eg : Kqy4.ready d with
      | false =>
        rw [eg] at k
        refine iteT ⟨_, rfl, by show 1 ≤ sizeLine; decide, fun r hr => ?_⟩
        exact k _ r (s12.trans (Same.new hr)) (s12.free hr) upd_same
      | true =>
        rw [eg] at k
        obtain ⟨_, h4, h2⟩ := ready_floor eg
        obtain ⟨hu, hv⟩ := all2 ea
        have R2 := R.mono s12
        obtain ⟨dx2, hp2⟩ := R2.ins
        have hn2 := s12 _ _ hn
        refine iteF ⟨_, rfl, p, dx2, _, rfl, hp2, rf_no (by decide +kernel) (by decide +kernel) (by decide +kernel), _, rfl, nl, _, _, _, rfl, rfl, SqL.of hn2, rfl, _, rfl, nl, _, _, _, rfl, rfl, SqL.of hn2, rfl, by show 3 ≤ sizeLine; decide, fun t ht => ?_⟩
        have s3 : Same H2 (upd H2 t (.tup (tri (Kqy4.pt u v)))) := Same.new ht
        refine ⟨p, t, l1, l2, true, d, Kqy4.pt u v, rfl, R2.mono s3, ok, h4, h2, upd_same, bp_pt hu hv, fun H4 r s4 hr4 => ?_⟩
        have s14 := (s12.trans s3).trans s4
        refine ⟨r, _, rfl, hr4, (bp_track ok (bp_pt hu hv)).sm (by decide), fun H5 q s5 hq hq5 => ?_⟩
        exact k H5 q (s14.trans s5) (s14.free hq) hq5
abbrev s_track1 : Stmt := top 49
theorem sc_track1 : FnScope ["room", "numbers", "refused"] ["room", "numbers"] (defScope s_track1) := ⟨rfl, rfl, rfl, by decide +kernel, rfl, by decide +kernel, by decide +kernel⟩
theorem pr_track1 (G : Gd K mg "track1" s_track1) (T : Txt K C) (D_refusal : Pr P w K mg base 2 "refusal" ["numbers", "is_known"] (spRefusal K)) (D_which : Pr P w K mg base 3 "which" ["line"] spWhich)
    (D_Room_is_ready : PrM P w K mg base C 8 "is_ready" ["self"] (spReady C)) (D_Room_first_track : PrM P w K mg base C 8 "first_track" ["self", "point"] (spTrack C track1)) :
    Pr P w K mg base 9 "track1" ["room", "numbers"] (spDo C 10 2) := by
  obtain ⟨f, fd, g, F⟩ := G.ex
  refine ⟨f, fd, g, F.kp, F.binds (fun _ _ _ _ _ _ us hl => match us, hl with | [_, _], _ => rfl), F.ok sc_track1 (fun vs H Q E h => ?_) (fun cdv A outer s H vs Q E hr h => ?_)⟩
  · obtain ⟨p, nl, l1, l2, s, ns, rfl, _⟩ := h
    rfl
  · obtain ⟨p, nl, l1, l2, s, ns, rfl, R, ok, hn, n1, n2, sz, oc, ns0, k⟩ := h
    match ns, sz, s with
    | _, _, none => exact absurd rfl (ns0 (by decide))
    | [u, v], _, some d =>
    have R : RoomAt C H p l1 l2 true d := R
    have ok : DOk d := ok
    obtain ⟨dx, hp⟩ := R.ins
    have k := k.pure (ns := Kqy4Neutral.tell (if Kqy4.all [u, v] = false then .num (-22) else if Kqy4.ready d = false then .num (-16) else Kqy4.lineAns (track1 d (Kqy4.pt u v)) (-33))) R rfl
    refine ⟨_, (pss_cons (ps_set (i := 2) sc_track1.nd rfl (Or.inl rfl) (pe_callD D_refusal (hr.mono (by decide)) (pa_cons (pv 1) (pa_cons (pe_methD0 (pv 0) T.cl D_Room_is_ready (hr.mono (by decide))) pa_nil))))
      (pss_cons (ps_if (pt_cmpR op_lt (pv 2) pe_int (nomark _)) (pss_one (ps_ret (pe_lst (pa_cons (pv 2) pa_nil)))) pss_nil)
      (pss_one (ps_ret (pe_callD D_which (hr.mono (by decide)) (pa_cons (pe_methD (pv 0) T.cl D_Room_first_track (hr.mono (by decide)) (pa_cons (pe_tup (pa_cons (pe_ix (r := rIxL K) ix_list (pv 1) pe_int (fun _ _ => rfl)) (pa_cons (pe_ix (r := rIxL K) ix_list (pv 1) pe_int (fun _ _ => rfl)) (pa_cons pe_int pa_nil)))) pa_nil)) pa_nil)))))), ?_⟩
    refine ⟨_, rfl, _, rfl, p, dx, _, rfl, hp, rf_no (by decide +kernel) (by decide +kernel) (by decide +kernel), p, l1, l2, true, d, rfl, R, ok, fun H1 s1 => ?_⟩
    refine ⟨nl, [u, v], _, rfl, SqL.of (s1 _ _ hn), (by show 2 ≤ 1000; decide), fun H2 s2 => ?_⟩
    have s12 := s1.trans s2
    refine ⟨_, rfl, _, _, rfl, rfl, _, rfl, ?_⟩
    unfold refu
    cases ea : Kqy4.all [u, v] with
    | false =>
      rw [ea] at k
      refine iteT ⟨_, rfl, by show 1 ≤ sizeLine; decide, fun r hr => ?_⟩
      exact k _ r (s12.trans (Same.new hr)) (s12.free hr) upd_same
    | true =>
      rw [ea] at k
      cases eg : Kqy4.ready d with
      | false =>
        rw [eg] at k
        refine iteT ⟨_, rfl, by show 1 ≤ sizeLine; decide, fun r hr => ?_⟩
        exact k _ r (s12.trans (Same.new hr)) (s12.free hr) upd_same
      | true =>
        rw [eg] at k
        obtain ⟨_, h4, h2⟩ := ready_floor eg
        obtain ⟨hu, hv⟩ := all2 ea
        have R2 := R.mono s12
        obtain ⟨dx2, hp2⟩ := R2.ins
        have hn2 := s12 _ _ hn
        refine iteF ⟨_, rfl, p, dx2, _, rfl, hp2, rf_no (by decide +kernel) (by decide +kernel) (by decide +kernel), _, rfl, nl, _, _, _, rfl, rfl, SqL.of hn2, rfl, _, rfl, nl, _, _, _, rfl, rfl, SqL.of hn2, rfl, by show 3 ≤ sizeLine; decide, fun t ht => ?_⟩
        have s3 : Same H2 (upd H2 t (.tup (tri (Kqy4.pt u v)))) := Same.new ht
        refine ⟨p, t, l1, l2, true, d, Kqy4.pt u v, rfl, R2.mono s3, ok, h4, h2, upd_same, bp_pt hu hv, fun H4 r s4 hr4 => ?_⟩
        have s14 := (s12.trans s3).trans s4
        refine ⟨r, _, rfl, hr4, (bp_track1 ok (bp_pt hu hv)).sm (by decide), fun H5 q s5 hq hq5 => ?_⟩
        exact k H5 q (s14.trans s5) (s14.free hq) hq5

/-! ### may, lies -/
abbrev s_may : Stmt := top 50
theorem sc_may : FnScope ["room", "numbers", "refused"] ["room", "numbers"] (defScope s_may) := ⟨rfl, rfl, rfl, by decide +kernel, rfl, by decide +kernel, by decide +kernel⟩
theorem pr_may (G : Gd K mg "may" s_may) (T : Txt K C) (D_refusal : Pr P w K mg base 2 "refusal" ["numbers", "is_known"] (spRefusal K))
    (D_Room_is_ready : PrM P w K mg base C 8 "is_ready" ["self"] (spReady C)) (D_Room_may : PrM P w K mg base C 9 "may" ["self", "seen"] (spMay C)) :
    Pr P w K mg base 10 "may" ["room", "numbers"] (spDo C 11 4) := by
  obtain ⟨f, fd, g, F⟩ := G.ex
  refine ⟨f, fd, g, F.kp, F.binds (fun _ _ _ _ _ _ us hl => match us, hl with | [_, _], _ => rfl), F.ok sc_may (fun vs H Q E h => ?_) (fun cdv A outer s H vs Q E hr h => ?_)⟩
  · obtain ⟨p, nl, l1, l2, s, ns, rfl, _⟩ := h
    rfl
  · obtain ⟨p, nl, l1, l2, s, ns, rfl, R, ok, hn, n1, n2, sz, oc, ns0, k⟩ := h
    match ns, sz, s with
    | _, _, none => exact absurd rfl (ns0 (by decide))
    | [u, v, a, b], _, some d =>
    have R : RoomAt C H p l1 l2 true d := R
    have ok : DOk d := ok
    obtain ⟨dx, hp⟩ := R.ins
    have k := k.pure (ns := Kqy4Neutral.tell (if Kqy4.all [u, v, a, b] = false then .num (-22) else if Kqy4.ready d = false then .num (-16) else .num (if Kqy4.dot (Kqy4.track d (Kqy4.pt u v)) (Kqy4.pt a b) = 0 then 1 else 0))) R rfl
    refine ⟨_, (pss_cons (ps_set (i := 2) sc_may.nd rfl (Or.inl rfl) (pe_callD D_refusal (hr.mono (by decide)) (pa_cons (pv 1) (pa_cons (pe_methD0 (pv 0) T.cl D_Room_is_ready (hr.mono (by decide))) pa_nil))))
      (pss_cons (ps_if (pt_cmpR op_lt (pv 2) pe_int (nomark _)) (pss_one (ps_ret (pe_lst (pa_cons (pv 2) pa_nil)))) pss_nil)
      (pss_one (ps_ret (pe_lst (pa_cons (pe_ifExp (pt_val (pe_methD (pv 0) T.cl D_Room_may (hr.mono (by decide)) (pa_cons (pv 1) pa_nil))) pe_int pe_int) pa_nil)))))), ?_⟩
    refine ⟨_, rfl, _, rfl, p, dx, _, rfl, hp, rf_no (by decide +kernel) (by decide +kernel) (by decide +kernel), p, l1, l2, true, d, rfl, R, ok, fun H1 s1 => ?_⟩
    refine ⟨nl, [u, v, a, b], _, rfl, SqL.of (s1 _ _ hn), (by show 4 ≤ 1000; decide), fun H2 s2 => ?_⟩
    have s12 := s1.trans s2
    refine ⟨_, rfl, _, _, rfl, rfl, _, rfl, ?_⟩
    unfold refu
    cases ea : Kqy4.all [u, v, a, b] with
    | false =>
      rw [ea] at k
      refine iteT ⟨_, rfl, by show 1 ≤ sizeLine; decide, fun r hr => ?_⟩
      exact k _ r (s12.trans (Same.new hr)) (s12.free hr) upd_same
    | true =>
      rw [ea] at k
      cases eg : Kqy4.ready d with
      | false =>
        rw [eg] at k
        refine iteT ⟨_, rfl, by show 1 ≤ sizeLine; decide, fun r hr => ?_⟩
        exact k _ r (s12.trans (Same.new hr)) (s12.free hr) upd_same
      | true =>
        rw [eg] at k
        obtain ⟨_, h4, h2⟩ := ready_floor eg
        have R2 := R.mono s12
        obtain ⟨dx2, hp2⟩ := R2.ins
        have hn2 := s12 _ _ hn
        refine iteF ⟨_, rfl, p, dx2, _, rfl, hp2, rf_no (by decide +kernel) (by decide +kernel) (by decide +kernel), _, rfl, p, nl, l1, l2, true, d, ⟨u, v, a, b⟩, rfl, R2, ok, h4, h2, .inr hn2, all4 ea, fun H3 s3 => ⟨_, rfl, ?_⟩⟩
        have s13 := s12.trans s3
        cases eo : onTrack d ⟨u, v, a, b⟩ with
        | true =>
          have z : Kqy4.dot (Kqy4.track d (Kqy4.pt u v)) (Kqy4.pt a b) = 0 := of_decide_eq_true eo
          rw [if_pos z] at k
          refine iteT ⟨by show 1 ≤ sizeLine; decide, fun r hr => ?_⟩
          exact k _ r (s13.trans (Same.new hr)) (s13.free hr) upd_same
        | false =>
          have z : ¬ Kqy4.dot (Kqy4.track d (Kqy4.pt u v)) (Kqy4.pt a b) = 0 := of_decide_eq_false eo
          rw [if_neg z] at k
          refine iteF ⟨by show 1 ≤ sizeLine; decide, fun r hr => ?_⟩
          exact k _ r (s13.trans (Same.new hr)) (s13.free hr) upd_same
abbrev s_lies : Stmt := top 51
theorem sc_lies : FnScope ["room", "numbers", "refused"] ["room", "numbers"] (defScope s_lies) := ⟨rfl, rfl, rfl, by decide +kernel, rfl, by decide +kernel, by decide +kernel⟩
theorem pr_lies (G : Gd K mg "lies" s_lies) (T : Txt K C) (D_refusal : Pr P w K mg base 2 "refusal" ["numbers", "is_known"] (spRefusal K))
    (D_Room_floors_known : PrM P w K mg base C 4 "floors_known" ["self"] (spKnown C)) (D_Room_lies : PrM P w K mg base C 7 "lies" ["self", "seen"] (spLies C)) :
    Pr P w K mg base 8 "lies" ["room", "numbers"] (spDo C 12 4) := by
  obtain ⟨f, fd, g, F⟩ := G.ex
  refine ⟨f, fd, g, F.kp, F.binds (fun _ _ _ _ _ _ us hl => match us, hl with | [_, _], _ => rfl), F.ok sc_lies (fun vs H Q E h => ?_) (fun cdv A outer s H vs Q E hr h => ?_)⟩
  · obtain ⟨p, nl, l1, l2, s, ns, rfl, _⟩ := h
    rfl
  · obtain ⟨p, nl, l1, l2, s, ns, rfl, R, ok, hn, n1, n2, sz, oc, ns0, k⟩ := h
    match ns, sz, s with
    | _, _, none => exact absurd rfl (ns0 (by decide))
    | [u, v, a, b], _, some d =>
    have R : RoomAt C H p l1 l2 true d := R
    have ok : DOk d := ok
    obtain ⟨dx, hp⟩ := R.ins
    have k := k.pure (ns := Kqy4Neutral.tell (if Kqy4.all [u, v, a, b] = false then .num (-22) else if Kqy4.floorsGood d = false then .num (-16) else .num (if Kqy4.zero (Kqy4.lineOf d ⟨u, v, a, b⟩) = true then 1 else 0))) R rfl
    refine ⟨_, (pss_cons (ps_set (i := 2) sc_lies.nd rfl (Or.inl rfl) (pe_callD D_refusal (hr.mono (by decide)) (pa_cons (pv 1) (pa_cons (pe_methD0 (pv 0) T.cl D_Room_floors_known (hr.mono (by decide))) pa_nil))))
      (pss_cons (ps_if (pt_cmpR op_lt (pv 2) pe_int (nomark _)) (pss_one (ps_ret (pe_lst (pa_cons (pv 2) pa_nil)))) pss_nil)
      (pss_one (ps_ret (pe_lst (pa_cons (pe_ifExp (pt_val (pe_methD (pv 0) T.cl D_Room_lies (hr.mono (by decide)) (pa_cons (pv 1) pa_nil))) pe_int pe_int) pa_nil)))))), ?_⟩
    refine ⟨_, rfl, _, rfl, p, dx, _, rfl, hp, rf_no (by decide +kernel) (by decide +kernel) (by decide +kernel), p, l1, l2, true, d, rfl, R, ok, fun H1 s1 => ?_⟩
    refine ⟨nl, [u, v, a, b], _, rfl, SqL.of (s1 _ _ hn), (by show 4 ≤ 1000; decide), fun H2 s2 => ?_⟩
    have s12 := s1.trans s2
    refine ⟨_, rfl, _, _, rfl, rfl, _, rfl, ?_⟩
    unfold refu
    cases ea : Kqy4.all [u, v, a, b] with
    | false =>
      rw [ea] at k
      refine iteT ⟨_, rfl, by show 1 ≤ sizeLine; decide, fun r hr => ?_⟩
      exact k _ r (s12.trans (Same.new hr)) (s12.free hr) upd_same
    | true =>
      rw [ea] at k
      cases eg : Kqy4.floorsGood d with
      | false =>
        rw [eg] at k
        refine iteT ⟨_, rfl, by show 1 ≤ sizeLine; decide, fun r hr => ?_⟩
        exact k _ r (s12.trans (Same.new hr)) (s12.free hr) upd_same
      | true =>
        rw [eg] at k
        have R2 := R.mono s12
        obtain ⟨dx2, hp2⟩ := R2.ins
        have hn2 := s12 _ _ hn
        refine iteF ⟨_, rfl, p, dx2, _, rfl, hp2, rf_no (by decide +kernel) (by decide +kernel) (by decide +kernel), _, rfl, p, nl, l1, l2, true, d, ⟨u, v, a, b⟩, rfl, R2, ok, good_floor eg, .inr hn2, all4 ea, fun H3 s3 => ⟨_, rfl, ?_⟩⟩
        have s13 := s12.trans s3
        cases eo : Kqy4.zero (Kqy4.lineOf d ⟨u, v, a, b⟩) with
        | true =>
          rw [eo] at k
          refine iteT ⟨by show 1 ≤ sizeLine; decide, fun r hr => ?_⟩
          exact k _ r (s13.trans (Same.new hr)) (s13.free hr) upd_same
        | false =>
          rw [eo] at k
          refine iteF ⟨by show 1 ≤ sizeLine; decide, fun r hr => ?_⟩
          exact k _ r (s13.trans (Same.new hr)) (s13.free hr) upd_same
end
end Rt

set_option Elab.async false
set_option maxRecDepth 100000
set_option maxHeartbeats 4000000
set_option linter.unusedVariables false
namespace Rt
open PySem PySem.Spec PyProof.Rows L2
open Kqy4 (Both Desk)
/-! ### thing 0, where it's ready -/
theorem turn_det (S A P : Pt) : Kqy4.dot (Kqy4.cross S A) P = Kqy4.dot S (Kqy4.cross A P) := by
  obtain ⟨a1, a2, a3⟩ := A
  obtain ⟨p1, p2, p3⟩ := P
  obtain ⟨s1, s2, s3⟩ := S
  simp only [Kqy4.cross, Kqy4.dot]
  grind
theorem cross_self (N L : Pt) : Kqy4.dot (Kqy4.cross N L) N = 0 := by
  obtain ⟨a1, a2, a3⟩ := N
  obtain ⟨p1, p2, p3⟩ := L
  simp only [Kqy4.cross, Kqy4.dot]
  grind
theorem zero_iff (p : Pt) : Kqy4.zero p = true ↔ (p.1 = 0 ∧ p.2.1 = 0 ∧ p.2.2 = 0) := by
  unfold Kqy4.zero
  simp only [Bool.and_eq_true, beq_iff_eq]
  exact ⟨fun h => ⟨h.1.1, h.1.2, h.2⟩, fun h => ⟨⟨h.1, h.2.1⟩, h.2.2⟩⟩
theorem zero_cross {N : Pt} (L : Pt) (h : Kqy4.zero N = true) : Kqy4.zero (Kqy4.cross N L) = true := by
  obtain ⟨h1, h2, h3⟩ := (zero_iff N).mp h
  apply (zero_iff _).mpr
  unfold Kqy4.cross
  simp only [h1, h2, h3, Int.zero_mul, Int.sub_self]
  exact ⟨trivial, trivial, trivial⟩
theorem stand_of {d : Desk} {m : Both} (h2 : 2 ≤ d.off.length) (e : d.off[0]? = some m) : ∃ L, Kqy4.stand d = Kqy4.cross (Kqy4.lineOf d m) L := by
  obtain ⟨m1, e1⟩ : ∃ m, d.off[1]? = some m := ⟨_, List.getElem?_eq_getElem (by omega)⟩
  refine ⟨Kqy4.lineOf d m1, ?_⟩
  unfold Kqy4.stand
  rw [e, e1]
theorem thing0 {d : Desk} {m : Both} (hr : Kqy4.ready d = true) (e : d.off[0]? = some m) : onTrack d m = true ∧ Kqy4.zero (Kqy4.lineOf d m) = false := by
  obtain ⟨_, _, h2⟩ := ready_floor hr
  obtain ⟨L, es⟩ := stand_of h2 e
  constructor
  · apply decide_eq_true
    unfold Kqy4.track
    rw [turn_det, es]
    exact cross_self _ _
  · cases z : Kqy4.zero (Kqy4.lineOf d m) with
    | false => rfl
    | true =>
      unfold Kqy4.ready at hr
      rw [es, zero_cross L z] at hr
      simp at hr
/-! ### the lift, as the two tell it -/
theorem rat_zero {p q : Pt} (h : Kqy4.zero q = true) : rat p q = none := by
  obtain ⟨h0, h1, h2⟩ := (zero_iff q).mp h
  unfold rat
  rw [if_neg (fun h => h h0), if_neg (fun h => h h1), if_neg (fun h => h h2)]
theorem rat_lift {d : Desk} {m : Both} (h : Kqy4.zero (Kqy4.cross (Kqy4.p2 m) (Kqy4.stand d)) = false) : rat (Kqy4.lineOf d m) (Kqy4.cross (Kqy4.p2 m) (Kqy4.stand d)) = some (Kqy4.lift d m) ∧ (Kqy4.lift d m).2 ≠ 0 := by
  have nz : ¬ ((Kqy4.cross (Kqy4.p2 m) (Kqy4.stand d)).1 = 0 ∧ (Kqy4.cross (Kqy4.p2 m) (Kqy4.stand d)).2.1 = 0 ∧ (Kqy4.cross (Kqy4.p2 m) (Kqy4.stand d)).2.2 = 0) := fun z => by
    rw [(zero_iff _).mpr z] at h
    cases h
  have el : Kqy4.lift d m = (if (Kqy4.cross (Kqy4.p2 m) (Kqy4.stand d)).1 ≠ 0 then ((Kqy4.lineOf d m).1, (Kqy4.cross (Kqy4.p2 m) (Kqy4.stand d)).1) else if (Kqy4.cross (Kqy4.p2 m) (Kqy4.stand d)).2.1 ≠ 0 then ((Kqy4.lineOf d m).2.1, (Kqy4.cross (Kqy4.p2 m) (Kqy4.stand d)).2.1) else ((Kqy4.lineOf d m).2.2, (Kqy4.cross (Kqy4.p2 m) (Kqy4.stand d)).2.2)) := rfl
  generalize Kqy4.cross (Kqy4.p2 m) (Kqy4.stand d) = b at nz el h
  rw [el]
  unfold rat
  by_cases c0 : b.1 ≠ 0
  · rw [if_pos c0, if_pos c0]
    exact ⟨rfl, c0⟩
  · rw [if_neg c0, if_neg c0]
    by_cases c1 : b.2.1 ≠ 0
    · rw [if_pos c1, if_pos c1]
      exact ⟨rfl, c1⟩
    · have c2 : b.2.2 ≠ 0 := fun z => nz ⟨by omega, by omega, z⟩
      rw [if_neg c1, if_neg c1, if_pos c2]
      exact ⟨rfl, c2⟩
theorem lift_up {d : Desk} {m : Both} (ht : onTrack d m = true) (hl : Kqy4.zero (Kqy4.lineOf d m) = false) (h : Kqy4.zero (Kqy4.cross (Kqy4.p2 m) (Kqy4.stand d)) = false) : (Kqy4.lift d m).1 ≠ 0 := by
  have nz : ¬ ((Kqy4.cross (Kqy4.p2 m) (Kqy4.stand d)).1 = 0 ∧ (Kqy4.cross (Kqy4.p2 m) (Kqy4.stand d)).2.1 = 0 ∧ (Kqy4.cross (Kqy4.p2 m) (Kqy4.stand d)).2.2 = 0) := fun z => by
    rw [(zero_iff _).mpr z] at h
    cases h
  have nl : ¬ ((Kqy4.lineOf d m).1 = 0 ∧ (Kqy4.lineOf d m).2.1 = 0 ∧ (Kqy4.lineOf d m).2.2 = 0) := fun z => by
    rw [(zero_iff _).mpr z] at hl
    cases hl
  have pr : (Kqy4.lineOf d m).1 * (Kqy4.cross (Kqy4.p2 m) (Kqy4.stand d)).2.1 = (Kqy4.lineOf d m).2.1 * (Kqy4.cross (Kqy4.p2 m) (Kqy4.stand d)).1 ∧ (Kqy4.lineOf d m).1 * (Kqy4.cross (Kqy4.p2 m) (Kqy4.stand d)).2.2 = (Kqy4.lineOf d m).2.2 * (Kqy4.cross (Kqy4.p2 m) (Kqy4.stand d)).1 ∧
      (Kqy4.lineOf d m).2.1 * (Kqy4.cross (Kqy4.p2 m) (Kqy4.stand d)).2.2 = (Kqy4.lineOf d m).2.2 * (Kqy4.cross (Kqy4.p2 m) (Kqy4.stand d)).2.1 := para (of_decide_eq_true ht)
  have el : Kqy4.lift d m = (if (Kqy4.cross (Kqy4.p2 m) (Kqy4.stand d)).1 ≠ 0 then ((Kqy4.lineOf d m).1, (Kqy4.cross (Kqy4.p2 m) (Kqy4.stand d)).1) else if (Kqy4.cross (Kqy4.p2 m) (Kqy4.stand d)).2.1 ≠ 0 then ((Kqy4.lineOf d m).2.1, (Kqy4.cross (Kqy4.p2 m) (Kqy4.stand d)).2.1) else ((Kqy4.lineOf d m).2.2, (Kqy4.cross (Kqy4.p2 m) (Kqy4.stand d)).2.2)) := rfl
  generalize Kqy4.cross (Kqy4.p2 m) (Kqy4.stand d) = b at nz el h pr
  generalize Kqy4.lineOf d m = a at nl el hl pr
  obtain ⟨q1, q2, q3⟩ := pr
  have one : ∀ {x y : Int}, x * y = 0 → y ≠ 0 → x = 0 := fun {x y} e hy => (Int.mul_eq_zero.mp e).resolve_right hy
  rw [el]
  by_cases c0 : b.1 ≠ 0
  · rw [if_pos c0]
    intro (z : a.1 = 0)
    rw [z, Int.zero_mul] at q1 q2
    exact nl ⟨z, one q1.symm c0, one q2.symm c0⟩
  · rw [if_neg c0]
    have b0 : b.1 = 0 := by omega
    by_cases c1 : b.2.1 ≠ 0
    · rw [if_pos c1]
      intro (z : a.2.1 = 0)
      rw [z, Int.zero_mul] at q1 q3
      exact nl ⟨one q1 c1, z, one q3.symm c1⟩
    · rw [if_neg c1]
      have c2 : b.2.2 ≠ 0 := fun z => nz ⟨b0, by omega, z⟩
      intro (z : a.2.2 = 0)
      rw [z, Int.zero_mul] at q2 q3
      exact nl ⟨one q2 c2, one q3 c2, z⟩
theorem bi_lift {d : Desk} {m : Both} (ok : DOk d) (om : Ok4 m) : Bi 300 (Kqy4.lift d m).1 ∧ Bi 300 (Kqy4.lift d m).2 := by
  have b1 := bp_line ok om
  have b2 : BP (7 + 227 + 1) (Kqy4.cross (Kqy4.p2 m) (Kqy4.stand d)) := BP.cross (bp_p2 om) (bp_stand ok)
  have el : Kqy4.lift d m = (if (Kqy4.cross (Kqy4.p2 m) (Kqy4.stand d)).1 ≠ 0 then ((Kqy4.lineOf d m).1, (Kqy4.cross (Kqy4.p2 m) (Kqy4.stand d)).1) else if (Kqy4.cross (Kqy4.p2 m) (Kqy4.stand d)).2.1 ≠ 0 then ((Kqy4.lineOf d m).2.1, (Kqy4.cross (Kqy4.p2 m) (Kqy4.stand d)).2.1) else ((Kqy4.lineOf d m).2.2, (Kqy4.cross (Kqy4.p2 m) (Kqy4.stand d)).2.2)) := rfl
  rw [el]
  split
  · exact ⟨b1.1.mono (by decide), b2.1.mono (by decide)⟩
  · split
    · exact ⟨b1.2.1.mono (by decide), b2.2.1.mono (by decide)⟩
    · exact ⟨b1.2.2.mono (by decide), b2.2.2.mono (by decide)⟩
/-- none where the lift is refused -/
theorem lft_none {d : Desk} {m : Both} (h : Kqy4.zero (Kqy4.track d (Kqy4.p1 m)) = true ∨ onTrack d m = false ∨ Kqy4.zero (Kqy4.cross (Kqy4.p2 m) (Kqy4.stand d)) = true) : lft d m = none := by
  unfold lft
  by_cases c : Kqy4.zero (Kqy4.track d (Kqy4.p1 m)) = true
  · rw [if_pos c]
  · rw [if_neg c]
    by_cases c2 : onTrack d m = false
    · rw [if_pos c2]
    · rw [if_neg c2]
      rcases h with h | h | h
      · exact absurd h c
      · exact absurd h c2
      · exact rat_zero h
theorem lft_some {d : Desk} {m : Both} (h1 : Kqy4.zero (Kqy4.track d (Kqy4.p1 m)) = false) (h2 : onTrack d m = true) (h3 : Kqy4.zero (Kqy4.cross (Kqy4.p2 m) (Kqy4.stand d)) = false) : lft d m = some (Kqy4.lift d m) := by
  unfold lft
  rw [if_neg (by rw [h1]; decide), if_neg (by rw [h2]; decide)]
  exact (rat_lift h3).1
/-- the lift's answer -/
def liftAns (d : Desk) (x m : Both) : List Int := match lft d x, lft d m with
  | some p, some q => [0] ++ Kqy4.frac (p.1 * q.2) (p.2 * q.1)
  | _, _ => [-33]
theorem bool_cases (b : Bool) : b = true ∨ b = false := by cases b <;> simp
theorem lift_is {d : Desk} {u v a b : Int} {m : Both} (hr : Kqy4.ready d = true) (e : d.off[0]? = some m) :
    Kqy4Neutral.tell (match d.off[0]? with
    | none => .num (-16)
    | some m => let x : Both := ⟨u, v, a, b⟩
      if Kqy4.zero (Kqy4.track d (Kqy4.pt u v)) = true ∨ Kqy4.zero (Kqy4.track d (Kqy4.p1 m)) = true ∨ Kqy4.dot (Kqy4.track d (Kqy4.pt u v)) (Kqy4.pt a b) ≠ 0 ∨ Kqy4.alike (Kqy4.pt a b) (Kqy4.stand d) = true ∨ Kqy4.alike (Kqy4.p2 m) (Kqy4.stand d) = true ∨ Kqy4.alike (Kqy4.across d (Kqy4.p1 m)) (Kqy4.p2 m) = true then .num (-33) else
      let (p, q) := Kqy4.lift d x
      let (r, t) := Kqy4.lift d m
      .some_ 0 (Kqy4.frac (p * t) (q * r))) = liftAns d ⟨u, v, a, b⟩ m := by
  obtain ⟨ht, hl⟩ := thing0 hr e
  rw [e]
  simp only []
  have hl' : Kqy4.alike (Kqy4.across d (Kqy4.p1 m)) (Kqy4.p2 m) = false := hl
  -- where something of x fails
  have fx : lft d ⟨u, v, a, b⟩ = none → liftAns d ⟨u, v, a, b⟩ m = [-33] := fun z => by
    unfold liftAns
    rw [z]
  have fm : lft d m = none → liftAns d ⟨u, v, a, b⟩ m = [-33] := fun z => by
    unfold liftAns
    rw [z]
    cases lft d ⟨u, v, a, b⟩ <;> rfl
  by_cases c : Kqy4.zero (Kqy4.track d (Kqy4.pt u v)) = true ∨ Kqy4.zero (Kqy4.track d (Kqy4.p1 m)) = true ∨ Kqy4.dot (Kqy4.track d (Kqy4.pt u v)) (Kqy4.pt a b) ≠ 0 ∨ Kqy4.alike (Kqy4.pt a b) (Kqy4.stand d) = true ∨ Kqy4.alike (Kqy4.p2 m) (Kqy4.stand d) = true ∨ Kqy4.alike (Kqy4.across d (Kqy4.p1 m)) (Kqy4.p2 m) = true
  · rw [if_pos c]
    show [-33] = _
    rcases c with c | c | c | c | c | c
    · exact (fx (lft_none (.inl c))).symm
    · exact (fm (lft_none (.inl c))).symm
    · exact (fx (lft_none (.inr (.inl (decide_eq_false c))))).symm
    · exact (fx (lft_none (.inr (.inr c)))).symm
    · exact (fm (lft_none (.inr (.inr c)))).symm
    · rw [hl'] at c
      cases c
  · rw [if_neg c]
    have k1 : lft d ⟨u, v, a, b⟩ = some (Kqy4.lift d ⟨u, v, a, b⟩) := by
      refine lft_some ?_ ?_ ?_
      · rcases bool_cases (Kqy4.zero (Kqy4.track d (Kqy4.pt u v))) with z | z
        · exact absurd (.inl z) c
        · exact z
      · apply decide_eq_true
        apply Classical.byContradiction
        intro z
        exact c (.inr (.inr (.inl z)))
      · rcases bool_cases (Kqy4.alike (Kqy4.pt a b) (Kqy4.stand d)) with z | z
        · exact absurd (.inr (.inr (.inr (.inl z)))) c
        · exact z
    have k2 : lft d m = some (Kqy4.lift d m) := by
      refine lft_some ?_ ht ?_
      · rcases bool_cases (Kqy4.zero (Kqy4.track d (Kqy4.p1 m))) with z | z
        · exact absurd (.inr (.inl z)) c
        · exact z
      · rcases bool_cases (Kqy4.alike (Kqy4.p2 m) (Kqy4.stand d)) with z | z
        · exact absurd (.inr (.inr (.inr (.inr (.inl z))))) c
        · exact z
    unfold liftAns
    rw [k1, k2]
    rfl
/-- what a lift is told by, where it is -/
theorem lft_facts {d : Desk} {m : Both} {p : Int × Int} (ok : DOk d) (om : Ok4 m) (h : lft d m = some p) : p.2 ≠ 0 ∧ Bi 300 p.1 ∧ Bi 300 p.2 ∧ (Kqy4.zero (Kqy4.lineOf d m) = false → p.1 ≠ 0) := by
  unfold lft at h
  by_cases c : Kqy4.zero (Kqy4.track d (Kqy4.p1 m)) = true
  · rw [if_pos c] at h
    cases h
  rw [if_neg c] at h
  by_cases c2 : onTrack d m = false
  · rw [if_pos c2] at h
    cases h
  rw [if_neg c2] at h
  rcases bool_cases (Kqy4.zero (Kqy4.cross (Kqy4.p2 m) (Kqy4.stand d))) with z | z
  · rw [rat_zero z] at h
    cases h
  · obtain ⟨r1, r2⟩ := rat_lift z
    rw [r1] at h
    have e := Option.some.inj h
    subst e
    obtain ⟨g1, g2⟩ := bi_lift ok om
    have c3 : onTrack d m = true := by
      rcases bool_cases (onTrack d m) with y | y
      · exact y
      · exact absurd y c2
    exact ⟨r2, g1, g2, fun hl => lift_up c3 hl z⟩

section
variable {P : Program} {w : World} {K : PySem.W.Frag} {mg : Str → Option Value} {base : Heap} {C aS aA : Addr}
/-! ### lift -/
abbrev s_lift : Stmt := top 52
theorem sc_lift : FnScope ["room", "numbers", "refused", "asked", "beside"] ["room", "numbers"] (defScope s_lift) := ⟨rfl, rfl, rfl, by decide +kernel, rfl, by decide +kernel, by decide +kernel⟩
theorem pr_lift (G : Gd K mg "lift" s_lift) (B : Bg mg C aS aA) (T : Txt K C) (D_refusal : Pr P w K mg base 2 "refusal" ["numbers", "is_known"] (spRefusal K)) (D_fraction : Pr P w K mg base 2 "fraction" ["above", "below"] spFraction)
    (D_Room_is_ready : PrM P w K mg base C 8 "is_ready" ["self"] (spReady C)) (D_Room_lift : PrM P w K mg base C 10 "lift" ["self", "seen"] (spLift C)) :
    Pr P w K mg base 11 "lift" ["room", "numbers"] (spDo C 13 4) := by
  obtain ⟨f, fd, g, F⟩ := G.ex
  refine ⟨f, fd, g, F.kp, F.binds (fun _ _ _ _ _ _ us hl => match us, hl with | [_, _], _ => rfl), F.ok sc_lift (fun vs H Q E h => ?_) (fun cdv A outer s H vs Q E hr h => ?_)⟩
  · obtain ⟨p, nl, l1, l2, s, ns, rfl, _⟩ := h
    rfl
  · obtain ⟨p, nl, l1, l2, s, ns, rfl, R, ok, hn, n1, n2, sz, oc, ns0, k⟩ := h
    match ns, sz, s with
    | _, _, none => exact absurd rfl (ns0 (by decide))
    | [u, v, a, b], _, some d =>
    have R : RoomAt C H p l1 l2 true d := R
    have ok : DOk d := ok
    obtain ⟨dx, hp⟩ := R.ins
    have k := k.pure (ns := Kqy4Neutral.tell (if Kqy4.all [u, v, a, b] = false then .num (-22) else if Kqy4.ready d = false then .num (-16) else match d.off[0]? with
    | none => .num (-16)
    | some m => let x : Both := ⟨u, v, a, b⟩
      if Kqy4.zero (Kqy4.track d (Kqy4.pt u v)) = true ∨ Kqy4.zero (Kqy4.track d (Kqy4.p1 m)) = true ∨ Kqy4.dot (Kqy4.track d (Kqy4.pt u v)) (Kqy4.pt a b) ≠ 0 ∨ Kqy4.alike (Kqy4.pt a b) (Kqy4.stand d) = true ∨ Kqy4.alike (Kqy4.p2 m) (Kqy4.stand d) = true ∨ Kqy4.alike (Kqy4.across d (Kqy4.p1 m)) (Kqy4.p2 m) = true then .num (-33) else
      let (p, q) := Kqy4.lift d x
      let (r, t) := Kqy4.lift d m
      .some_ 0 (Kqy4.frac (p * t) (q * r)))) R rfl
    refine ⟨_, (pss_cons (ps_set (i := 2) sc_lift.nd rfl (Or.inl rfl) (pe_callD D_refusal (hr.mono (by decide)) (pa_cons (pv 1) (pa_cons (pe_methD0 (pv 0) T.cl D_Room_is_ready (hr.mono (by decide))) pa_nil))))
      (pss_cons (ps_if (pt_cmpR op_lt (pv 2) pe_int (nomark _)) (pss_one (ps_ret (pe_lst (pa_cons (pv 2) pa_nil)))) pss_nil)
      (pss_cons (ps_set (i := 3) sc_lift.nd rfl (Or.inl rfl) (pe_methD (pv 0) T.cl D_Room_lift (hr.mono (by decide)) (pa_cons (pv 1) pa_nil)))
      (pss_cons (ps_set (i := 4) sc_lift.nd rfl (Or.inl rfl) (pe_methD (pv 0) T.cl D_Room_lift (hr.mono (by decide)) (pa_cons (pe_ix (r := rIxL K) ix_list (pe_fld (pv 0) rfl) pe_int (fun _ _ => rfl)) pa_nil)))
      (pss_cons (ps_if (PW.pt (pw_or (pt_cmpR op_isN1 (pv 3) pe_non (nomark _)) (pw_or1 (pt_cmpR op_isN1 (pv 4) pe_non (nomark _))))) (pss_one (ps_ret (pe_lst (pa_cons (pe_globI B.g_NOT_TO_BE_TOLD) pa_nil)))) pss_nil)
      (pss_one (ps_ret (pe_op op_cat (pe_lst (pa_cons pe_int pa_nil)) (pe_callD D_fraction (hr.mono (by decide)) (pa_cons (pe_op op_mulW (pe_ix (r := rIxT K) ix_tup (pv 3) pe_int (fun _ _ => rfl)) (pe_ix (r := rIxT K) ix_tup (pv 4) pe_int (fun _ _ => rfl))) (pa_cons (pe_op op_mulW (pe_ix (r := rIxT K) ix_tup (pv 3) pe_int (fun _ _ => rfl)) (pe_ix (r := rIxT K) ix_tup (pv 4) pe_int (fun _ _ => rfl))) pa_nil))))))))))), ?_⟩
    refine ⟨_, rfl, _, rfl, p, dx, _, rfl, hp, rf_no (by decide +kernel) (by decide +kernel) (by decide +kernel), p, l1, l2, true, d, rfl, R, ok, fun H1 s1 => ?_⟩
    refine ⟨nl, [u, v, a, b], _, rfl, SqL.of (s1 _ _ hn), (by show 4 ≤ 1000; decide), fun H2 s2 => ?_⟩
    have s12 := s1.trans s2
    refine ⟨_, rfl, _, _, rfl, rfl, _, rfl, ?_⟩
    unfold refu
    cases ea : Kqy4.all [u, v, a, b] with
    | false =>
      rw [ea] at k
      refine iteT ⟨_, rfl, by show 1 ≤ sizeLine; decide, fun r hr => ?_⟩
      exact k _ r (s12.trans (Same.new hr)) (s12.free hr) upd_same
    | true =>
      cases eg : Kqy4.ready d with
      | false =>
        rw [ea, eg] at k
        refine iteT ⟨_, rfl, by show 1 ≤ sizeLine; decide, fun r hr => ?_⟩
        exact k _ r (s12.trans (Same.new hr)) (s12.free hr) upd_same
      | true =>
        obtain ⟨_, h4, h2⟩ := ready_floor eg
        obtain ⟨m0, e0⟩ : ∃ m, d.off[0]? = some m := ⟨_, List.getElem?_eq_getElem (by omega)⟩
        rw [if_neg (by rw [ea]; decide), if_neg (by rw [eg]; decide), lift_is eg e0] at k
        have o0 := ok.th m0 (List.mem_of_getElem? e0)
        have ox : Ok4 ⟨u, v, a, b⟩ := all4 ea
        obtain ⟨_, hl0⟩ := thing0 eg e0
        have R2 := R.mono s12
        obtain ⟨dx2, hp2⟩ := R2.ins
        have hn2 := s12 _ _ hn
        have no : ∀ {r : Addr}, decide (V.ref r = V.non) = false := fun {r} => decide_eq_false (by intro z; cases z)
        refine iteF ⟨_, rfl, p, dx2, _, rfl, hp2, rf_no (by decide +kernel) (by decide +kernel) (by decide +kernel), _, rfl, p, nl, l1, l2, true, d, ⟨u, v, a, b⟩, rfl, R2, ok, h4, h2, .inr hn2, ox, ?_, ?_⟩
        · intro ex H3 s3
          have s13 := s12.trans s3
          have ek : liftAns d ⟨u, v, a, b⟩ m0 = [-33] := by
            unfold liftAns
            rw [ex]
          rw [ek] at k
          have R3 := R.mono s13
          obtain ⟨dx3, hp3⟩ := R3.ins
          obtain ⟨xs, a0, hx, hnx, ht⟩ := R3.th.at e0
          refine ⟨_, rfl, p, dx3, _, rfl, hp3, rf_no (by decide +kernel) (by decide +kernel) (by decide +kernel), _, rfl, p, C, dx3, _, _, rfl, hp3, T.cl, T.nT, rf_things _ _ _, l2, xs, _, _, rfl, rfl, SqL.of hx, atI_nat (j := 0) hnx, p, a0, l1, l2, true, d, m0, rfl, R3, ok, h4, h2, .inl ht, o0, ?_, ?_⟩
          · intro em H4 s4
            refine ⟨_, rfl, rfl, _, rfl, ?_⟩
            rw [decide_eq_true (rfl : V.non = V.non)]
            refine iteT (iteT ⟨by show 1 ≤ sizeLine; decide, fun r hr => ?_⟩)
            have s14 := s13.trans s4
            exact k _ r (s14.trans (Same.new hr)) (s14.free hr) upd_same
          · intro y1 y2 em H4 rb s4 hrb
            refine ⟨_, rfl, rfl, _, rfl, ?_⟩
            rw [decide_eq_true (rfl : V.non = V.non)]
            refine iteT (iteT ⟨by show 1 ≤ sizeLine; decide, fun r hr => ?_⟩)
            have s14 := s13.trans s4
            exact k _ r (s14.trans (Same.new hr)) (s14.free hr) upd_same
        · intro x1 x2 ex H3 ra s3 hra
          have s13 := s12.trans s3
          have R3 := R.mono s13
          obtain ⟨dx3, hp3⟩ := R3.ins
          obtain ⟨xs, a0, hx, hnx, ht⟩ := R3.th.at e0
          refine ⟨_, rfl, p, dx3, _, rfl, hp3, rf_no (by decide +kernel) (by decide +kernel) (by decide +kernel), _, rfl, p, C, dx3, _, _, rfl, hp3, T.cl, T.nT, rf_things _ _ _, l2, xs, _, _, rfl, rfl, SqL.of hx, atI_nat (j := 0) hnx, p, a0, l1, l2, true, d, m0, rfl, R3, ok, h4, h2, .inl ht, o0, ?_, ?_⟩
          · intro em H4 s4
            have ek : liftAns d ⟨u, v, a, b⟩ m0 = [-33] := by
              unfold liftAns
              rw [ex, em]
            rw [ek] at k
            refine ⟨_, rfl, rfl, _, rfl, ?_⟩
            rw [no]
            refine iteF ⟨_, rfl, rfl, _, rfl, ?_⟩
            rw [decide_eq_true (rfl : V.non = V.non)]
            refine iteT ⟨by show 1 ≤ sizeLine; decide, fun r hr => ?_⟩
            have s14 := s13.trans s4
            exact k _ r (s14.trans (Same.new hr)) (s14.free hr) upd_same
          · intro y1 y2 em H4 rb s4 hrb
            have ek : liftAns d ⟨u, v, a, b⟩ m0 = [0] ++ Kqy4.frac (x1 * y2) (x2 * y1) := by
              unfold liftAns
              rw [ex, em]
            rw [ek] at k
            obtain ⟨x2n, bx1, bx2, _⟩ := lft_facts ok ox ex
            obtain ⟨_, by1, by2, y1n⟩ := lft_facts ok o0 em
            have y1n := y1n hl0
            have s14 := s13.trans s4
            refine ⟨_, rfl, rfl, _, rfl, ?_⟩
            rw [no]
            refine iteF ⟨_, rfl, rfl, _, rfl, ?_⟩
            rw [no]
            refine iteF ⟨by show 1 ≤ sizeLine; decide, fun r0 hr0 => ?_⟩
            have s5 : Same H4 (upd H4 r0 (.lst [.int 0])) := Same.new hr0
            have hra5 := s5 _ _ (s4 _ _ hra)
            have hrb5 := s5 _ _ hrb
            refine ⟨_, rfl, ra, _, _, _, rfl, rfl, SqT.of hra5, rfl, _, rfl, rb, _, _, _, rfl, rfl, SqT.of hrb5, rfl, _, _, rfl, rfl, (bx1.sm (by decide)).mul (by2.sm (by decide)),
              _, rfl, ra, _, _, _, rfl, rfl, SqT.of hra5, rfl, _, rfl, rb, _, _, _, rfl, rfl, SqT.of hrb5, rfl, _, _, rfl, rfl, (bx2.sm (by decide)).mul (by1.sm (by decide)),
              _, _, rfl, Int.mul_ne_zero x2n y1n, (bx2.mul by1).sm (by decide), fun H6 q s6 hq0 hq => ?_⟩
            refine ⟨r0, q, _, _, rfl, rfl, s6 _ _ upd_same, hq, ?_, fun t ht => ?_⟩
            · rw [List.length_map, frac_len]
              show 3 ≤ sizeLine
              decide
            have s16 := (s14.trans s5).trans s6
            refine k _ t (s16.trans (Same.new ht)) (s16.free ht) ?_
            rw [upd_same, List.map_append]
            rfl

/-! ### cut -/
abbrev s_cut : Stmt := top 53
theorem sc_cut : FnScope ["room", "numbers", "line", "refused", "meeting"] ["room", "numbers"] (defScope s_cut) := ⟨rfl, rfl, rfl, by decide +kernel, rfl, by decide +kernel, by decide +kernel⟩
theorem bp_ln {a b e : Int} (h : lnOk a b e = true) : BP 17 (a, b, e) := by
  have q := (lnOk_iff a b e).mp h
  have z : (2 : Nat) ^ 17 = 131072 := by decide
  refine ⟨?_, ?_, ?_⟩ <;> (unfold Bi; dsimp only; omega)
theorem pr_cut (G : Gd K mg "cut" s_cut) (B : Bg mg C aS aA) (T : Txt K C) (D_is_line_outside : Pr P w K mg base 1 "is_line_outside" ["line"] (spLnOut K)) (D_refusal : Pr P w K mg base 2 "refusal" ["numbers", "is_known"] (spRefusal K)) (D_cross : Pr P w K mg base 1 "cross" ["one", "other"] spCross)
    (D_is_nowhere : Pr P w K mg base 1 "is_nowhere" ["numbers"] spNowhere) (D_where : Pr P w K mg base 3 "where" ["point"] spWhere)
    (D_Room_is_ready : PrM P w K mg base C 8 "is_ready" ["self"] (spReady C)) (D_Room_track : PrM P w K mg base C 8 "track" ["self", "point"] (spTrack C Kqy4.track)) :
    Pr P w K mg base 9 "cut" ["room", "numbers"] (spDo C 14 5) := by
  obtain ⟨f, fd, g, F⟩ := G.ex
  refine ⟨f, fd, g, F.kp, F.binds (fun _ _ _ _ _ _ us hl => match us, hl with | [_, _], _ => rfl), F.ok sc_cut (fun vs H Q E h => ?_) (fun cdv A outer s H vs Q E hr h => ?_)⟩
  · obtain ⟨p, nl, l1, l2, s, ns, rfl, _⟩ := h
    rfl
  · obtain ⟨p, nl, l1, l2, s, ns, rfl, R, ok, hn, n1, n2, sz, oc, ns0, k⟩ := h
    match ns, sz, s with
    | _, _, none => exact absurd rfl (ns0 (by decide))
    | [u, v, a, b, e], _, some d =>
    have R : RoomAt C H p l1 l2 true d := R
    have ok : DOk d := ok
    have k := k.pure (ns := Kqy4Neutral.tell (if Kqy4.all [u, v] = false ∨ lnOk a b e = false ∨ (a = 0 ∧ b = 0) then .num (-22) else if Kqy4.ready d = false then .num (-16) else if Kqy4.zero (Kqy4.cross (Kqy4.track d (Kqy4.pt u v)) (a, b, e)) = true then .num (-33) else Kqy4.orElse (Kqy4.place (Kqy4.cross (Kqy4.track d (Kqy4.pt u v)) (a, b, e))) (-6))) R rfl
    refine ⟨_, (pss_cons (ps_set (i := 2) sc_cut.nd rfl (Or.inl rfl) (pe_slice sl_list (pv 1) (po_some pe_int) po_none))
      (pss_cons (ps_if (pt_val (pe_callD D_is_line_outside (hr.mono (by decide)) (pa_cons (pv 2) pa_nil))) (pss_one (ps_ret (pe_lst (pa_cons (pe_globI B.g_OUTSIDE) pa_nil)))) pss_nil)
      (pss_cons (ps_set (i := 3) sc_cut.nd rfl (Or.inl rfl) (pe_callD D_refusal (hr.mono (by decide)) (pa_cons (pe_slice sl_list (pv 1) po_none (po_some pe_int)) (pa_cons (pe_methD0 (pv 0) T.cl D_Room_is_ready (hr.mono (by decide))) pa_nil))))
      (pss_cons (ps_if (pt_cmpR op_lt (pv 3) pe_int (nomark _)) (pss_one (ps_ret (pe_lst (pa_cons (pv 3) pa_nil)))) pss_nil)
      (pss_cons (ps_set (i := 4) sc_cut.nd rfl (Or.inl rfl) (pe_callD D_cross (hr.mono (by decide)) (pa_cons (pe_methD (pv 0) T.cl D_Room_track (hr.mono (by decide)) (pa_cons (pe_tup (pa_cons (pe_ix (r := rIxL K) ix_list (pv 1) pe_int (fun _ _ => rfl)) (pa_cons (pe_ix (r := rIxL K) ix_list (pv 1) pe_int (fun _ _ => rfl)) (pa_cons pe_int pa_nil)))) pa_nil)) (pa_cons (pv 2) pa_nil))))
      (pss_cons (ps_if (pt_val (pe_callD D_is_nowhere (hr.mono (by decide)) (pa_cons (pv 4) pa_nil))) (pss_one (ps_ret (pe_lst (pa_cons (pe_globI B.g_NOT_TO_BE_TOLD) pa_nil)))) pss_nil)
      (pss_one (ps_ret (pe_callD D_where (hr.mono (by decide)) (pa_cons (pv 4) pa_nil)))))))))), ?_⟩
    refine ⟨_, rfl, 2, rfl, nl, _, rfl, SqL.of hn, fun t ht => ?_⟩
    have s1 : Same H (upd H t (.lst [.int a, .int b, .int e])) := Same.new ht
    refine ⟨_, rfl, t, a, b, e, rfl, SqL.of upd_same, _, rfl, ?_⟩
    cases eo : lnOut a b e with
    | true =>
      have c : lnOk a b e = false ∨ (a = 0 ∧ b = 0) := by
        apply Classical.byContradiction
        intro z
        rw [show lnOut a b e = false from if_neg z] at eo
        cases eo
      rw [if_pos (.inr c)] at k
      refine iteT ⟨by show 1 ≤ sizeLine; decide, fun r hr => ?_⟩
      exact k _ r (s1.trans (Same.new hr)) (s1.free hr) upd_same
    | false =>
      have c : ¬ (lnOk a b e = false ∨ (a = 0 ∧ b = 0)) := fun z => by
        rw [show lnOut a b e = true from if_pos z] at eo
        cases eo
      have lo : lnOk a b e = true := by
        rcases bool_cases (lnOk a b e) with y | y
        · exact y
        · exact absurd (.inl y) c
      refine iteF ⟨_, rfl, 2, rfl, nl, _, rfl, SqL.of (s1 _ _ hn), fun t2 ht2 => ?_⟩
      have s2 := s1.trans (Same.new (o := .lst [.int u, .int v]) ht2)
      have R2 := R.mono s2
      obtain ⟨dx2, hp2⟩ := R2.ins
      refine ⟨_, rfl, p, dx2, _, rfl, hp2, rf_no (by decide +kernel) (by decide +kernel) (by decide +kernel), p, l1, l2, true, d, rfl, R2, ok, fun H3 s3 => ?_⟩
      refine ⟨t2, [u, v], _, rfl, SqL.of (s3 _ _ upd_same), (by show 2 ≤ 1000; decide), fun H4 s4 => ?_⟩
      have s34 := s3.trans s4
      have s14 := s2.trans s34
      have ht4 : H4 t = some (.lst [.int a, .int b, .int e]) := s34 _ _ (Same.new ht2 _ _ upd_same)
      refine ⟨_, rfl, _, _, rfl, rfl, _, rfl, ?_⟩
      unfold refu
      cases ea : Kqy4.all [u, v] with
      | false =>
        rw [if_pos (.inl ea)] at k
        refine iteT ⟨_, rfl, by show 1 ≤ sizeLine; decide, fun r hr => ?_⟩
        exact k _ r (s14.trans (Same.new hr)) (s14.free hr) upd_same
      | true =>
        rw [if_neg (by intro z; rcases z with z | z; (rw [ea] at z; cases z); exact c z)] at k
        cases eg : Kqy4.ready d with
        | false =>
          rw [eg] at k
          refine iteT ⟨_, rfl, by show 1 ≤ sizeLine; decide, fun r hr => ?_⟩
          exact k _ r (s14.trans (Same.new hr)) (s14.free hr) upd_same
        | true =>
          rw [if_neg (by rw [eg]; decide)] at k
          obtain ⟨_, h4, h2⟩ := ready_floor eg
          obtain ⟨hu, hv⟩ := all2 ea
          have R4 := R.mono s14
          obtain ⟨dx4, hp4⟩ := R4.ins
          have hn4 := s14 _ _ hn
          refine iteF ⟨_, rfl, p, dx4, _, rfl, hp4, rf_no (by decide +kernel) (by decide +kernel) (by decide +kernel), _, rfl, nl, _, _, _, rfl, rfl, SqL.of hn4, rfl, _, rfl, nl, _, _, _, rfl, rfl, SqL.of hn4, rfl, by show 3 ≤ sizeLine; decide, fun t5 ht5 => ?_⟩
          have s5 : Same H4 (upd H4 t5 (.tup (tri (Kqy4.pt u v)))) := Same.new ht5
          refine ⟨p, t5, l1, l2, true, d, Kqy4.pt u v, rfl, R4.mono s5, ok, h4, h2, upd_same, bp_pt hu hv, fun H6 r s6 hr6 => ?_⟩
          have s56 := s5.trans s6
          have bt := bp_track ok (bp_pt hu hv)
          refine ⟨_, rfl, r, t, _, (a, b, e), rfl, hr6, .inr (s56 _ _ ht4), bt.sm (by decide), (bp_ln lo).sm (by decide), fun H7 z s7 _ hz => ?_⟩
          have s17 := (s14.trans s56).trans s7
          refine ⟨_, rfl, z, _, rfl, hz, _, rfl, ?_⟩
          cases ez : Kqy4.zero (Kqy4.cross (Kqy4.track d (Kqy4.pt u v)) (a, b, e)) with
          | true =>
            rw [if_pos ez] at k
            refine iteT ⟨by show 1 ≤ sizeLine; decide, fun r hr => ?_⟩
            exact k _ r (s17.trans (Same.new hr)) (s17.free hr) upd_same
          | false =>
            rw [if_neg (by rw [ez]; decide)] at k
            refine iteF ⟨_, rfl, z, _, rfl, hz, (bt.cross (bp_ln lo)).sm (by decide), fun H8 q s8 hq hq8 => ?_⟩
            exact k H8 q (s17.trans s8) (s17.free hq) hq8

/-! ### fits -/
abbrev s_fits : Stmt := top 54
theorem sc_fits : FnScope ["room", "numbers"] ["room", "numbers"] (defScope s_fits) := ⟨rfl, rfl, rfl, by decide +kernel, rfl, by decide +kernel, by decide +kernel⟩
theorem pr_fits (G : Gd K mg "fits" s_fits) (B : Bg mg C aS aA) (T : Txt K C) (D_Room_is_ready : PrM P w K mg base C 8 "is_ready" ["self"] (spReady C)) (D_Room_fits : PrM P w K mg base C 10 "fits" ["self"] (spFits C)) :
    Pr P w K mg base 11 "fits" ["room", "numbers"] (spDo C 15 0) := by
  obtain ⟨f, fd, g, F⟩ := G.ex
  refine ⟨f, fd, g, F.kp, F.binds (fun _ _ _ _ _ _ us hl => match us, hl with | [_, _], _ => rfl), F.ok sc_fits (fun vs H Q E h => ?_) (fun cdv A outer s H vs Q E hr h => ?_)⟩
  · obtain ⟨p, nl, l1, l2, s, ns, rfl, _⟩ := h
    rfl
  · obtain ⟨p, nl, l1, l2, s, ns, rfl, R, ok, hn, n1, n2, sz, oc, ns0, k⟩ := h
    match ns, sz, s with
    | _, _, none => exact absurd rfl (ns0 (by decide))
    | [], _, some d =>
    have R : RoomAt C H p l1 l2 true d := R
    have ok : DOk d := ok
    obtain ⟨dx, hp⟩ := R.ins
    have k := k.pure (ns := Kqy4Neutral.tell (if Kqy4.ready d = false then .num (-16) else .num (if (d.floor.all (fun m => Kqy4.zero (Kqy4.lineOf d m)) && d.off.all (onTrack d)) = true then 1 else 0))) R rfl
    refine ⟨_, (pss_cons (ps_if (pt_not (pt_val (pe_methD0 (pv 0) T.cl D_Room_is_ready (hr.mono (by decide))))) (pss_one (ps_ret (pe_lst (pa_cons (pe_globI B.g_NOT_READY) pa_nil)))) pss_nil)
      (pss_one (ps_ret (pe_lst (pa_cons (pe_ifExp (pt_val (pe_methD0 (pv 0) T.cl D_Room_fits (hr.mono (by decide)))) pe_int pe_int) pa_nil))))), ?_⟩
    refine ⟨_, rfl, p, dx, _, rfl, hp, rf_no (by decide +kernel) (by decide +kernel) (by decide +kernel), p, l1, l2, true, d, rfl, R, ok, fun H1 s1 => ⟨_, rfl, ?_⟩⟩
    cases er : Kqy4.ready d with
    | false =>
      rw [er] at k
      refine iteT ⟨by show 1 ≤ sizeLine; decide, fun r hr => ?_⟩
      exact k _ r (s1.trans (Same.new hr)) (s1.free hr) upd_same
    | true =>
      rw [er] at k
      obtain ⟨_, h4, h2⟩ := ready_floor er
      have R1 := R.mono s1
      obtain ⟨dx1, hp1⟩ := R1.ins
      refine iteF ⟨_, rfl, p, dx1, _, rfl, hp1, rf_no (by decide +kernel) (by decide +kernel) (by decide +kernel), p, l1, l2, true, d, rfl, R1, ok, h4, h2, fun H2 s2 => ⟨_, rfl, ?_⟩⟩
      have s12 := s1.trans s2
      cases ef : (d.floor.all (fun m => Kqy4.zero (Kqy4.lineOf d m)) && d.off.all (onTrack d)) with
      | true =>
        rw [ef] at k
        refine iteT ⟨by show 1 ≤ sizeLine; decide, fun r hr => ?_⟩
        exact k _ r (s12.trans (Same.new hr)) (s12.free hr) upd_same
      | false =>
        rw [ef] at k
        refine iteF ⟨by show 1 ≤ sizeLine; decide, fun r hr => ?_⟩
        exact k _ r (s12.trans (Same.new hr)) (s12.free hr) upd_same

/-! ### state -/
abbrev s_state : Stmt := top 55
theorem sc_state : FnScope ["room", "numbers", "told", "seen"] ["room", "numbers"] (defScope s_state) := ⟨rfl, rfl, rfl, by decide +kernel, rfl, by decide +kernel, by decide +kernel⟩
theorem quads_len (ms : List Both) : (ms.flatMap quad).length = 4 * ms.length := by
  induction ms with
  | nil => rfl
  | cons m r ih =>
    rw [List.flatMap_cons, List.length_append, ih]
    show 4 + 4 * r.length = 4 * (r.length + 1)
    omega
theorem quads_snoc {ms : List Both} {i : Nat} {m : Both} (h : ms[i]? = some m) : (ms.take (i + 1)).flatMap quad = (ms.take i).flatMap quad ++ quad m := by
  rw [take_snoc h, List.flatMap_append]
  simp
theorem both_at {H : Hp} {as bs : List Addr} {ms ks : List Both} (h2 : as.length = ms.length) (h3 : ∀ (j : Nat) (a : Addr) (m : Both), as[j]? = some a → ms[j]? = some m → H a = some (.tup (quad m)))
    (g3 : ∀ (j : Nat) (a : Addr) (m : Both), bs[j]? = some a → ks[j]? = some m → H a = some (.tup (quad m))) {j : Nat} {a : Addr} {m : Both} (e1 : (as ++ bs)[j]? = some a) (e2 : (ms ++ ks)[j]? = some m) : H a = some (.tup (quad m)) := by
  by_cases hj : j < as.length
  · rw [List.getElem?_append_left hj] at e1
    rw [List.getElem?_append_left (by omega)] at e2
    exact h3 j a m e1 e2
  · rw [List.getElem?_append_right (by omega)] at e1
    rw [List.getElem?_append_right (by omega), ← h2] at e2
    exact g3 _ a m e1 e2
theorem pr_state (G : Gd K mg "state" s_state) (B : Bg mg C aS aA) (T : Txt K C) : Pr P w K mg base 1 "state" ["room", "numbers"] (spDo C 16 0) := by
  obtain ⟨f, fd, g, F⟩ := G.ex
  refine ⟨f, fd, g, F.kp, F.binds (fun _ _ _ _ _ _ us hl => match us, hl with | [_, _], _ => rfl), F.ok sc_state (fun vs H Q E h => ?_) (fun cdv A outer s H vs Q E hr h => ?_)⟩
  · obtain ⟨p, nl, l1, l2, s, ns, rfl, _⟩ := h
    rfl
  · obtain ⟨p, nl, l1, l2, s, ns, rfl, R, ok, hn, n1, n2, sz, oc, ns0, k⟩ := h
    match ns, sz, s with
    | _, _, none => exact absurd rfl (ns0 (by decide))
    | [], _, some d =>
    have R : RoomAt C H p l1 l2 true d := R
    have ok : DOk d := ok
    obtain ⟨dx, hp⟩ := R.ins
    obtain ⟨as, f1, f2, f3⟩ := R.fl
    obtain ⟨bs, g1, g2, g3⟩ := R.th
    have k := k.pure (ns := (d.floor.length : Int) :: ([(d.off.length : Int)] ++ (d.floor ++ d.off).flatMap fun m => [m.u, m.v, m.s, m.t])) R rfl
    have ek : ((d.floor.length : Int) :: ([(d.off.length : Int)] ++ (d.floor ++ d.off).flatMap fun m => [m.u, m.v, m.s, m.t])).map V.int = [V.int (d.floor.length : Int), V.int (d.off.length : Int)] ++ (d.floor ++ d.off).flatMap quad := by
      rw [List.map_cons, List.map_append, List.map_flatMap]
      rfl
    refine ⟨_, (pss_cons (ps_set (i := 2) sc_state.nd rfl (Or.inl rfl) (pe_lst (pa_cons (pe_callB call_len_seq (by rfl) B.len PySem.boot_len (pa_cons (pe_fld (pv 0) rfl) pa_nil)) (pa_cons (pe_callB call_len_seq (by rfl) B.len PySem.boot_len (pa_cons (pe_fld (pv 0) rfl) pa_nil)) pa_nil))))
      (pss_cons (ps_for PassesOwn.never rfl (pi_list (pe_op op_cat (pe_fld (pv 0) rfl) (pe_fld (pv 0) rfl))) (pg_name (i := 3) sc_state.nd rfl (Or.inl rfl)) (pss_one (ps_expr (pe_bm PySem.F.plainAttrs_list PySem.F.slot_list_extend PySem.F.type_list_extend mt_extendT (pv 2) (pa_cons (pv 3) pa_nil)))))
      (pss_one (ps_ret (pv 2))))), ?_⟩
    refine ⟨_, rfl, p, C, dx, _, _, rfl, hp, T.cl, T.nF, rf_floor _ _ _, l1, _, rfl, .inl (SqL.of f1), _, rfl, p, C, dx, _, _, rfl, hp, T.cl, T.nT, rf_things _ _ _, l2, _, rfl, .inl (SqL.of g1), by show 2 ≤ sizeLine; decide, fun t ht => ?_⟩
    rw [List.length_map, List.length_map, f2, g2]
    have s1 : Same H (upd H t (.lst [.int (d.floor.length : Int), .int (d.off.length : Int)])) := Same.new ht
    have hp1 := s1 _ _ hp
    have hl6 : as.length + bs.length ≤ 12 := by
      have := ok.fl6
      have := ok.th6
      omega
    refine ⟨_, rfl, p, C, dx, _, _, rfl, hp1, T.cl, T.nF, rf_floor _ _ _, _, rfl, p, C, dx, _, _, rfl, hp1, T.cl, T.nT, rf_things _ _ _, l1, l2, _, _, rfl, rfl, s1 _ _ f1, s1 _ _ g1, ?_, fun c hc => ?_⟩
    · rw [List.length_map, List.length_map]
      exact Nat.le_trans hl6 (by decide)
    rw [← List.map_append]
    have s2 := Same.new (o := .lst ((as ++ bs).map V.ref)) hc
    have nct : c ≠ t := (ne_of_none upd_same hc).symm
    refine ⟨c, rfl, ⟨_, SqL.of upd_same⟩, for_list (xs := (as ++ bs).map V.ref) (fun i σ H' => (∃ v, σ = [some (.ref p), some (.ref nl), some (.ref t), v]) ∧ H' t = some (.lst ([V.int (d.floor.length : Int), V.int (d.off.length : Int)] ++ ((d.floor ++ d.off).take i).flatMap quad)) ∧
      ∀ b, b ≠ t → H' b = (upd (upd H t (.lst [.int (d.floor.length : Int), .int (d.off.length : Int)])) c (.lst ((as ++ bs).map V.ref))) b) ⟨⟨_, rfl⟩, s2 _ _ upd_same, fun _ _ => rfl⟩ ?_ ?_ ?_⟩
    · rintro i σ H' _ ⟨_, _, hb⟩
      exact SqL.of (by rw [hb c nct]; exact upd_same)
    · rintro i x σ H' hi ⟨⟨v, rfl⟩, hT, hb⟩
      rw [List.getElem?_map] at hi
      cases ea : (as ++ bs)[i]? with
      | none => rw [ea] at hi; cases hi
      | some a =>
        rw [ea] at hi
        have ex : V.ref a = x := Option.some.inj hi
        subst ex
        have hlt : i < (d.floor ++ d.off).length := by
          have := (List.getElem?_eq_some_iff.mp ea).1
          rw [List.length_append] at this
          rw [List.length_append]
          omega
        have em : (d.floor ++ d.off)[i]? = some (d.floor ++ d.off)[i] := List.getElem?_eq_getElem hlt
        have ha := both_at f2 f3 g3 ea em
        have ha' : H' a = some (.tup (quad (d.floor ++ d.off)[i])) := by
          rw [hb a (ne_of_none ha ht)]
          exact s2 _ _ (s1 _ _ ha)
        refine ⟨_, rfl, .inl ⟨rfl, _, SqL.of hT⟩, _, rfl, t, a, _, _, rfl, rfl, hT, ha', ?_, ⟨_, rfl⟩, ?_, fun b nb => ?_⟩
        · rw [List.length_append, quads_len, List.length_take]
          refine Nat.le_trans (m := 100) ?_ (by decide)
          rw [List.length_append] at hlt ⊢
          show 2 + 4 * min i (d.floor.length + d.off.length) + 4 ≤ 100
          omega
        · rw [upd_same, List.append_assoc, quads_snoc em]
        · rw [upd_ne nb]
          exact hb b nb
    · rintro σ H' ⟨⟨v, rfl⟩, hT, hb⟩
      have el : ((as ++ bs).map V.ref).length = (d.floor ++ d.off).length := by
        rw [List.length_map, List.length_append, List.length_append, f2, g2]
      rw [el, List.take_length] at hT
      refine ⟨_, rfl, k H' t (fun b o e => ?_) ht (by rw [ek]; exact hT)⟩
      rw [hb b (ne_of_none e ht)]
      exact s2 _ _ (s1 _ _ e)
end
end Rt

set_option Elab.async false
set_option maxRecDepth 100000
set_option maxHeartbeats 4000000
set_option linter.unusedVariables false
namespace Rt
open PySem PySem.Spec PyProof.Rows L2
open Kqy4 (Both Desk)
/-! ### the calls, parted -/
def sizes : List Int := [0, 4, 4, 2, 0, 2, 2, 0, 0, 2, 2, 4, 4, 4, 5, 0, 0]
theorem shape_cases {c : Int} {n k : Nat} (h : PyKqy4.shape c = some (n, k)) : k = 0 ∧ ∃ j : Nat, c = (j : Int) ∧ j < 17 ∧ sizes[j]? = some (n : Int) := by
  by_cases h0 : c = 0
  · subst h0
    obtain ⟨rfl, rfl⟩ := Prod.mk.inj (Option.some.inj h)
    exact ⟨rfl, 0, rfl, by decide, rfl⟩
  by_cases h1 : c = 1
  · subst h1
    obtain ⟨rfl, rfl⟩ := Prod.mk.inj (Option.some.inj h)
    exact ⟨rfl, 1, rfl, by decide, rfl⟩
  by_cases h2 : c = 2
  · subst h2
    obtain ⟨rfl, rfl⟩ := Prod.mk.inj (Option.some.inj h)
    exact ⟨rfl, 2, rfl, by decide, rfl⟩
  by_cases h3 : c = 3
  · subst h3
    obtain ⟨rfl, rfl⟩ := Prod.mk.inj (Option.some.inj h)
    exact ⟨rfl, 3, rfl, by decide, rfl⟩
  by_cases h4 : c = 4
  · subst h4
    obtain ⟨rfl, rfl⟩ := Prod.mk.inj (Option.some.inj h)
    exact ⟨rfl, 4, rfl, by decide, rfl⟩
  by_cases h5 : c = 5
  · subst h5
    obtain ⟨rfl, rfl⟩ := Prod.mk.inj (Option.some.inj h)
    exact ⟨rfl, 5, rfl, by decide, rfl⟩
  by_cases h6 : c = 6
  · subst h6
    obtain ⟨rfl, rfl⟩ := Prod.mk.inj (Option.some.inj h)
    exact ⟨rfl, 6, rfl, by decide, rfl⟩
  by_cases h7 : c = 7
  · subst h7
    obtain ⟨rfl, rfl⟩ := Prod.mk.inj (Option.some.inj h)
    exact ⟨rfl, 7, rfl, by decide, rfl⟩
  by_cases h8 : c = 8
  · subst h8
    obtain ⟨rfl, rfl⟩ := Prod.mk.inj (Option.some.inj h)
    exact ⟨rfl, 8, rfl, by decide, rfl⟩
  by_cases h9 : c = 9
  · subst h9
    obtain ⟨rfl, rfl⟩ := Prod.mk.inj (Option.some.inj h)
    exact ⟨rfl, 9, rfl, by decide, rfl⟩
  by_cases h10 : c = 10
  · subst h10
    obtain ⟨rfl, rfl⟩ := Prod.mk.inj (Option.some.inj h)
    exact ⟨rfl, 10, rfl, by decide, rfl⟩
  by_cases h11 : c = 11
  · subst h11
    obtain ⟨rfl, rfl⟩ := Prod.mk.inj (Option.some.inj h)
    exact ⟨rfl, 11, rfl, by decide, rfl⟩
  by_cases h12 : c = 12
  · subst h12
    obtain ⟨rfl, rfl⟩ := Prod.mk.inj (Option.some.inj h)
    exact ⟨rfl, 12, rfl, by decide, rfl⟩
  by_cases h13 : c = 13
  · subst h13
    obtain ⟨rfl, rfl⟩ := Prod.mk.inj (Option.some.inj h)
    exact ⟨rfl, 13, rfl, by decide, rfl⟩
  by_cases h14 : c = 14
  · subst h14
    obtain ⟨rfl, rfl⟩ := Prod.mk.inj (Option.some.inj h)
    exact ⟨rfl, 14, rfl, by decide, rfl⟩
  by_cases h15 : c = 15
  · subst h15
    obtain ⟨rfl, rfl⟩ := Prod.mk.inj (Option.some.inj h)
    exact ⟨rfl, 15, rfl, by decide, rfl⟩
  by_cases h16 : c = 16
  · subst h16
    obtain ⟨rfl, rfl⟩ := Prod.mk.inj (Option.some.inj h)
    exact ⟨rfl, 16, rfl, by decide, rfl⟩
  unfold PyKqy4.shape at h
  rw [if_neg h0, if_neg h1, if_neg h2, if_neg h3, if_neg h4, if_neg h5, if_neg h6, if_neg h7, if_neg h8, if_neg h9, if_neg h10, if_neg h11, if_neg h12, if_neg h13, if_neg h14, if_neg h15, if_neg h16] at h
  cases h
theorem whole_id (c : List (List Int)) : PyKqy4.whole c = c := by
  unfold PyKqy4.whole
  split <;> rfl
/-- the first call of a list that parts -/
theorem calls_cons {f : Nat} {p : Int} {r : List Int} {cs : List (List (List Int))} (h : PyFlat.calls PyKqy4.shape f (p :: r) = some cs) :
    ∃ n f' cs', PyKqy4.shape p = some (n, 0) ∧ n ≤ r.length ∧ cs = [p :: r.take n] :: cs' ∧ PyFlat.calls PyKqy4.shape f' (r.drop n) = some cs' := by
  cases f with
  | zero => cases h
  | succ f =>
    have h : (match PyFlat.call PyKqy4.shape (p :: r) with
      | none => none
      | some (c, t) => match PyFlat.calls PyKqy4.shape f t with
        | none => none
        | some cs => some (c :: cs)) = some cs := h
    have e : PyFlat.call PyKqy4.shape (p :: r) = (match PyKqy4.shape p with
      | none => none
      | some (n, k) => if r.length < n then none else match PyFlat.rows k (r.drop n) with
        | none => none
        | some (xs, t) => some ((p :: r.take n) :: xs, t)) := rfl
    cases es : PyKqy4.shape p with
    | none =>
      rw [es] at e
      simp only [e] at h
      cases h
    | some nk =>
      obtain ⟨n, k⟩ := nk
      obtain ⟨rfl, _⟩ := shape_cases es
      rw [es] at e
      by_cases c : r.length < n
      · simp only [if_pos c] at e
        simp only [e] at h
        cases h
      · simp only [if_neg c, PyFlat.rows] at e
        simp only [e] at h
        cases ec : PyFlat.calls PyKqy4.shape f (r.drop n) with
        | none =>
          simp only [ec] at h
          cases h
        | some cs' =>
          simp only [ec] at h
          exact ⟨n, f, cs', rfl, by omega, (Option.some.inj h).symm, ec⟩
theorem calls_nil {f : Nat} {cs : List (List (List Int))} (h : PyFlat.calls PyKqy4.shape f [] = some cs) : cs = [] := by
  cases f <;> exact (Option.some.inj h).symm
theorem map_whole (cs : List (List (List Int))) : cs.map PyKqy4.whole = cs := by
  have e : PyKqy4.whole = id := funext whole_id
  rw [e, List.map_id]
/-! ### the state stays within its bounds -/
theorem ok_nil : DOk ⟨[], []⟩ := ⟨fun m h => by simp at h, fun m h => by simp at h, by decide, by decide⟩
theorem step_ok (s : Option Desk) (c : Kqy4.Call) (h : SOk s) : SOk (Kqy4.step s c).1 := by
  cases s with
  | none => cases c <;> first | exact ok_nil | trivial
  | some d =>
    have h : DOk d := h
    cases c with
    | start => exact ok_nil
    | floor u v a b =>
      show SOk (if Kqy4.all [u, v, a, b] = false then (some d, Kqy4.Ans.num (-22)) else if Kqy4.KEPT ≤ d.floor.length then (some d, .num (-28)) else (some { d with floor := d.floor ++ [⟨u, v, a, b⟩] }, .num d.floor.length)).1
      split
      · exact h
      · split
        · exact h
        · rename_i e1 e2
          have ek : Kqy4.KEPT = 6 := rfl
          refine ⟨fun m hm => ?_, h.th, ?_, h.th6⟩
          · rcases List.mem_append.mp hm with hm | hm
            · exact h.fl m hm
            · have : m = ⟨u, v, a, b⟩ := by simpa using hm
              subst this
              exact all4 (by simpa using e1)
          · rw [List.length_append]
            show d.floor.length + 1 ≤ 6
            omega
    | thing u v a b =>
      show SOk (if Kqy4.all [u, v, a, b] = false then (some d, Kqy4.Ans.num (-22)) else if Kqy4.KEPT ≤ d.off.length then (some d, .num (-28)) else (some { d with off := d.off ++ [⟨u, v, a, b⟩] }, .num d.off.length)).1
      split
      · exact h
      · split
        · exact h
        · rename_i e1 e2
          have ek : Kqy4.KEPT = 6 := rfl
          refine ⟨h.fl, fun m hm => ?_, h.fl6, ?_⟩
          · rcases List.mem_append.mp hm with hm | hm
            · exact h.th m hm
            · have : m = ⟨u, v, a, b⟩ := by simpa using hm
              subst this
              exact all4 (by simpa using e1)
          · rw [List.length_append]
            show d.off.length + 1 ≤ 6
            omega
    | drop k i =>
      show SOk (if 1 < k then (some d, Kqy4.Ans.num (-22)) else if k = 0 then (if d.floor.length ≤ i then (some d, .num (-2)) else (some { d with floor := d.floor.eraseIdx i }, .num (d.floor.length - 1 : Nat))) else if d.off.length ≤ i then (some d, .num (-2)) else (some { d with off := d.off.eraseIdx i }, .num (d.off.length - 1 : Nat))).1
      have le : ∀ l : List Both, (l.eraseIdx i).length ≤ l.length := fun l => by
        rw [List.length_eraseIdx]
        split <;> omega
      split
      · exact h
      · split
        · split
          · exact h
          · exact ⟨fun m hm => h.fl m (List.mem_of_mem_eraseIdx hm), h.th, Nat.le_trans (le _) h.fl6, h.th6⟩
        · split
          · exact h
          · exact ⟨h.fl, fun m hm => h.th m (List.mem_of_mem_eraseIdx hm), h.fl6, Nat.le_trans (le _) h.th6⟩
    | _ => exact h
theorem stp_ok (c : Int) (s : Option Desk) (ns : List Int) (h : SOk s) : SOk (stp c s ns).1 := by
  show SOk (match Kqy4Neutral.callOf [c :: ns] with
    | some x => ((Kqy4.step s x).1, Kqy4Neutral.tell (Kqy4.step s x).2)
    | none => (s, [])).1
  split
  · exact step_ok s _ h
  · exact h
/-- ahead of a start -/
theorem stp_none {c : Int} {n : Nat} {ns : List Int} (h : PyKqy4.shape c = some (n, 0)) (hl : ns.length = n) (h0 : c ≠ 0) : stp c none ns = (none, [-11]) := by
  obtain ⟨_, j, rfl, hj, hs⟩ := shape_cases h
  subst hl
  match j, hj with
  | 0, _ => exact absurd rfl h0
  | 1, _ => match ns, hs with | [_, _, _, _], _ => rfl
  | 2, _ => match ns, hs with | [_, _, _, _], _ => rfl
  | 3, _ => match ns, hs with | [_, _], _ => rfl
  | 4, _ => match ns, hs with | [], _ => rfl
  | 5, _ => match ns, hs with | [_, _], _ => rfl
  | 6, _ => match ns, hs with | [_, _], _ => rfl
  | 7, _ => match ns, hs with | [], _ => rfl
  | 8, _ => match ns, hs with | [], _ => rfl
  | 9, _ => match ns, hs with | [_, _], _ => rfl
  | 10, _ => match ns, hs with | [_, _], _ => rfl
  | 11, _ => match ns, hs with | [_, _, _, _], _ => rfl
  | 12, _ => match ns, hs with | [_, _, _, _], _ => rfl
  | 13, _ => match ns, hs with | [_, _, _, _], _ => rfl
  | 14, _ => match ns, hs with | [_, _, _, _, _], _ => rfl
  | 15, _ => match ns, hs with | [], _ => rfl
  | 16, _ => match ns, hs with | [], _ => rfl
end Rt

set_option Elab.async false
set_option maxRecDepth 100000
set_option maxHeartbeats 4000000
set_option linter.unusedVariables false
namespace Rt
open PySem PySem.Spec PyProof.Rows L2
open Kqy4 (Both Desk)
section
variable {P : Program} {w : World} {K : PySem.W.Frag} {mg : Str → Option Value} {base : Heap} {C aS aA : Addr}
/-! ### answer_of -/
abbrev s_answer_of : Stmt := top 57
theorem sc_answer_of : FnScope ["room", "call", "numbers", "answering"] ["room", "call", "numbers"] (defScope s_answer_of) := ⟨rfl, rfl, rfl, by decide +kernel, rfl, by decide +kernel, by decide +kernel⟩
def spOf (C : Addr) : Sp := fun vs H Q _ => ∃ (p nl l1 l2 : Addr) (c : Int) (s : Option Desk) (ns : List Int), vs = [.ref p, .int c, .ref nl] ∧ RoomS C H p l1 l2 s ∧ SOk s ∧ H nl = some (.lst (ns.map V.int)) ∧ nl ≠ l1 ∧ nl ≠ l2 ∧
  PyKqy4.shape c = some (ns.length, 0) ∧ Okc c ns ∧ Post C H Q p l1 l2 (stp c s ns)
theorem pr_answer_of (G : Gd K mg "answer_of" s_answer_of) (B : Bg mg C aS aA) (T : Txt K C) (hands : ∀ (c : Int) (sz : Nat), PyKqy4.shape c = some (sz, 0) → ∃ f, TAt K aA c f ∧ Held P w K mg base 11 f (spDo C c sz)) :
    Pr P w K mg base 12 "answer_of" ["room", "call", "numbers"] (spOf C) := by
  obtain ⟨f, fd, g, F⟩ := G.ex
  refine ⟨f, fd, g, F.kp, F.binds (fun _ _ _ _ _ _ us hl => match us, hl with | [_, _, _], _ => rfl), F.ok sc_answer_of (fun vs H Q E h => ?_) (fun cdv A outer s H vs Q E hr h => ?_)⟩
  · obtain ⟨p, nl, l1, l2, c, s, ns, rfl, _⟩ := h
    rfl
  · obtain ⟨p, nl, l1, l2, c, s, ns, rfl, R, ok, hn, n1, n2, sh, oc, k⟩ := h
    refine ⟨_, (pss_cons (ps_if (PW.pt (pw_and (pt_cmpR op_ne (pv 1) (pe_globI B.g_START) (nomark _)) (pw_and1 (pt_not (pt_val (pe_fld (pv 0) rfl)))))) (pss_one (ps_ret (pe_lst (pa_cons (pe_globI B.g_NOT_STARTED) pa_nil)))) pss_nil)
      (pss_cons (ps_set (i := 3) sc_answer_of.nd rfl (Or.inl rfl) (pe_ix (r := rIxT K) ix_tup (pe_globR B.g_ANSWERING) (pv 1) (fun _ _ => rfl)))
      (pss_one (ps_ret (pe_callV (i := 3) hr (pa_cons (pv 0) (pa_cons (pv 2) pa_nil))))))), ?_⟩
    obtain ⟨fh, kd, held⟩ := hands c ns.length sh
    -- the rest, where the call is taken
    have rest : (c ≠ 0 → s ≠ none) → ∀ (D : Ends), D.rt = Q → (tSeq (tAsg (tOp (rIxT K) (tC (.ref aA)) (tVar 1)) (gName 3)) (tRet (tCallH P w K mg base 11 3 (tCons (tVar 0) (tCons (tVar 2) tNil))))) D [some (V.ref p), some (V.int c), some (V.ref nl), none] H := by
      intro hs D hD
      obtain ⟨xs, hxs, hat⟩ := kd H
      refine ⟨_, rfl, aA, xs, c, _, rfl, rfl, hxs, hat, ?_⟩
      refine ⟨fh, spDo C c ns.length, rfl, held, _, rfl, _, rfl, ?_⟩
      refine ⟨p, nl, l1, l2, s, ns, rfl, R, ok, hn, n1, n2, rfl, oc, hs, ?_⟩
      rw [hD]
      exact k
    refine ⟨_, rfl, rfl, _, rfl, ?_⟩
    rw [int_eq]
    by_cases c0 : c = 0
    · rw [decide_eq_true c0]
      exact iteF (iteF (rest (fun h => absurd c0 h) _ rfl))
    · rw [decide_eq_false c0]
      refine iteT ?_
      cases s with
      | none =>
        obtain ⟨dx, hp⟩ := R.ins
        refine ⟨_, rfl, p, C, dx, _, _, rfl, hp, T.cl, T.nS, rf_started _ _ _, _, rfl, iteT ?_⟩
        refine ⟨by show 1 ≤ sizeLine; decide, fun r hr => ?_⟩
        rw [stp_none sh rfl c0] at k
        exact k _ r l1 l2 (RoomAt.mono (Same.new hr) R) (fun b u hb _ m1 m2 => ⟨Same.new hr _ _ hb, m1, m2⟩) hr upd_same
      | some d =>
        obtain ⟨dx, hp⟩ := R.ins
        refine ⟨_, rfl, p, C, dx, _, _, rfl, hp, T.cl, T.nS, rf_started _ _ _, _, rfl, iteF ?_⟩
        exact rest (fun _ h => by cases h) _ rfl

/-! ### answers -/
abbrev s_answers : Stmt := top 58
theorem sc_answers : FnScope ["calls", "room", "told", "place", "call", "behind", "answer"] ["calls"] (defScope s_answers) := ⟨rfl, rfl, rfl, by decide +kernel, rfl, by decide +kernel, by decide +kernel⟩
def spAnswers (K : PySem.W.Frag) : Sp := fun vs H Q _ => ∃ (a : Addr) (ns : List Int), vs = [.ref a] ∧ SqL K H a (ns.map V.int) ∧ PyKqy4.answers_asked ns = true ∧
  ∀ (H' : Hp) (p : Addr), H' p = some (.lst ((PyKqy4.answers ns).map V.int)) → Q (.ref p) H'
/-- what «asked» gives -/
theorem asked_is {ns : List Int} (h : PyKqy4.answers_asked ns = true) : ∃ cs, PyFlat.calls PyKqy4.shape ns.length ns = some cs ∧ PyInside.calls PyKqy4.bound cs = true ∧
    PyKqy4.answers ns = PyFlat.told (PyFlat.played Kqy4Neutral.step none cs) ∧ (PyKqy4.answers ns).length ≤ 10000000 := by
  unfold PyKqy4.answers_asked at h
  cases e : PyFlat.calls PyKqy4.shape ns.length ns with
  | none => rw [e] at h; cases h
  | some raw =>
    rw [e] at h
    simp only [Bool.and_eq_true] at h
    obtain ⟨⟨⟨⟨_, _⟩, hi⟩, _⟩, hs⟩ := h
    refine ⟨raw, rfl, hi, ?_, of_decide_eq_true hs⟩
    unfold PyKqy4.answers PyKqy4.calls
    rw [e]
    show PyFlat.told (PyFlat.played Kqy4Neutral.step Kqy4Neutral.start (raw.map PyKqy4.whole)) = _
    rw [map_whole]
    rfl
theorem inside_okc {c : Int} {args : List Int} (h : PyInside.call PyKqy4.bound [c :: args] = true) (hl : c = 3 → args.length = 2) : Okc c args := by
  intro e
  subst e
  match args, hl rfl with
  | [a, b], _ =>
    intro x hx
    have h : ((PyInside.within 0 4294967295 a && (PyInside.within 0 4294967295 b && true)) && true) = true := h
    simp [PyInside.within] at h
    have : x = a ∨ x = b := by simpa using hx
    rcases this with rfl | rfl <;> omega
theorem size_at {c : Int} {n : Nat} (h : PyKqy4.shape c = some (n, 0)) : atI (sizes.map V.int) c = some (.int (n : Int)) := by
  obtain ⟨_, j, rfl, _, hs⟩ := shape_cases h
  exact atI_nat (by rw [List.getElem?_map, hs]; rfl)
theorem drop_at {α : Type} {l : List α} {i : Nat} {x : α} {r : List α} (h : l.drop i = x :: r) : l[i]? = some x := by
  have e : (l.drop i)[0]? = some x := by rw [h]; rfl
  rw [List.getElem?_drop] at e
  exact e
theorem drop_more {α : Type} {l : List α} {i : Nat} {x : α} {r : List α} (h : l.drop i = x :: r) (n : Nat) : l.drop (i + 1 + n) = r.drop n := by
  have e : (l.drop i).drop (1 + n) = r.drop n := by rw [h, Nat.add_comm]; rfl
  rw [List.drop_drop] at e
  rw [← e]
  congr 1
  omega
theorem cut_args {l : List Int} {i n : Nat} {x : Int} {r : List Int} (h : l.drop i = x :: r) (hn : n ≤ r.length) : cutV (l.map V.int) (some ((i : Int) + 1)) (some ((i : Int) + 1 + (n : Int))) = (r.take n).map V.int := by
  have hl : l.length = i + (r.length + 1) := by
    have := congrArg List.length h
    rw [List.length_drop, List.length_cons] at this
    have : i < l.length := by
      apply Classical.byContradiction
      intro hh
      rw [List.drop_eq_nil_of_le (by omega)] at h
      cases h
    omega
  unfold cutV
  have e1 : (some ((i : Int) + 1)) = some (((i + 1 : Nat) : Int)) := by rw [Int.natCast_add]; rfl
  have e2 : (some ((i : Int) + 1 + (n : Int))) = some (((i + 1 + n : Nat) : Int)) := by rw [Int.natCast_add, Int.natCast_add]; rfl
  rw [e1, e2, HT.sIx_nat, HT.sIx_nat, List.length_map]
  have m1 : min (i + 1) l.length = i + 1 := by omega
  have m2 : min (i + 1 + n) l.length = i + 1 + n := by omega
  have e3 : l.drop (i + 1) = r := by
    have := drop_more h 0
    simpa using this
  have e4 : i + 1 + n - (i + 1) = n := by omega
  rw [m1, m2, ← List.map_drop, e3, ← List.map_take, e4]
theorem RoomAt.put {H : Hp} {p l1 l2 t : Addr} {b : Bool} {d : Desk} {xs : List V} {o : HO} (R : RoomAt C H p l1 l2 b d) (ht : H t = some (.lst xs)) (n : p ≠ t) (n1 : l1 ≠ t) (n2 : l2 ≠ t) : RoomAt C (upd H t o) p l1 l2 b d :=
  ⟨by obtain ⟨dx, e⟩ := R.ins; exact ⟨dx, by rw [upd_ne n]; exact e⟩, R.fl.put ht n1, R.th.put ht n2, R.ne⟩
theorem RoomS.put {H : Hp} {p l1 l2 t : Addr} {s : Option Desk} {xs : List V} {o : HO} (R : RoomS C H p l1 l2 s) (ht : H t = some (.lst xs)) (n : p ≠ t) (n1 : l1 ≠ t) (n2 : l2 ≠ t) : RoomS C (upd H t o) p l1 l2 s := by
  cases s with
  | none => exact RoomAt.put R ht n n1 n2
  | some d => exact RoomAt.put R ht n n1 n2
def measA (n : Nat) : L2.St → Hp → Nat := fun σ _ => match σ with
  | [_, _, _, some (.int k), _, _, _] => n - k.toNat
  | _ => 0
theorem ok_answers {f : Addr} {fd : FuncData} (F : Fun K "answers" "answers" s_answers f fd) (B : Bg mg C aS aA) (T : Txt K C) (hS : ∀ H, SqT K H aS (sizes.map V.int)) (M_Room : PrI P w K mg base C 1 ["self"] (spInit C)) (D_answer_of : Pr P w K mg base 12 "answer_of" ["room", "call", "numbers"] (spOf C)) :
    FnOk P w K mg base CX0 13 f fd ["calls"] (spAnswers K) := by
  refine F.ok sc_answers (fun vs H Q E h => ?_) (fun cdv A outer s H vs Q E hr h => ?_)
  · obtain ⟨a, ns, rfl, _⟩ := h
    rfl
  · obtain ⟨a, ns, rfl, ha, hask, k⟩ := h
    obtain ⟨cs0, hc0, hi0, he0, hz⟩ := asked_is hask
    refine ⟨_, (pss_cons (ps_set (i := 1) sc_answers.nd rfl (Or.inl rfl) (pe_makeD M_Room (hr.mono (by decide)) B.g_Room))
      (pss_cons (ps_set (i := 2) sc_answers.nd rfl (Or.inl rfl) (pe_lst pa_nil))
      (pss_cons (ps_set (i := 3) sc_answers.nd rfl (Or.inl rfl) pe_int)
      (pss_cons (ps_while PassesOwn.never (pt_cmpR op_lt (pv 3) (pe_callB call_len_seq (by rfl) B.len PySem.boot_len (pa_cons (pv 0) pa_nil)) (nomark _)) (pss_cons (ps_set (i := 4) sc_answers.nd rfl (Or.inl rfl) (pe_ix (r := rIxL K) ix_list (pv 0) (pv 3) (fun _ _ => rfl)))
      (pss_cons (ps_set (i := 5) sc_answers.nd rfl (Or.inl rfl) (pe_op op_add (pe_op op_add (pv 3) pe_int) (pe_ix (r := rIxT K) ix_tup (pe_globR B.g_SIZES) (pv 4) (fun _ _ => rfl))))
      (pss_cons (ps_set (i := 6) sc_answers.nd rfl (Or.inl rfl) (pe_callD D_answer_of (hr.mono (by decide)) (pa_cons (pv 1) (pa_cons (pv 4) (pa_cons (pe_slice sl_list (pv 0) (po_some (pe_op op_add (pv 3) pe_int)) (po_some (pv 5))) pa_nil)))))
      (pss_cons (ps_expr (pe_bm PySem.F.plainAttrs_list PySem.F.slot_list_append PySem.F.type_list_append mt_append (pv 2) (pa_cons (pe_callB call_len_seq (by rfl) B.len PySem.boot_len (pa_cons (pv 6) pa_nil)) pa_nil)))
      (pss_cons (ps_expr (pe_bm PySem.F.plainAttrs_list PySem.F.slot_list_extend PySem.F.type_list_extend mt_extend (pv 2) (pa_cons (pv 6) pa_nil)))
      (pss_one (ps_set (i := 3) sc_answers.nd rfl (Or.inl rfl) (pv 5)))))))))
      (pss_one (ps_ret (pv 2))))))), ?_⟩
    intro p dx np nd ne
    refine ⟨p, dx, rfl, upd_same, fun H1 l1 l2 R1 f1 f2 kp => ⟨rfl, ?_⟩⟩
    have s1 : Same H H1 := Same.made np nd kp
    refine ⟨Nat.zero_le _, fun t ht => ?_⟩
    have s2 : Same H1 (upd H1 t (.lst [])) := Same.new ht
    have R2 := R1.mono s2
    have fl1 : H l1 = none := by
      cases q : H l1 with
      | none => rfl
      | some o => exact absurd f1 (by rw [upd_ne (ne_of_none q np), upd_ne (ne_of_none q nd), q]; intro z; cases z)
    have fl2 : H l2 = none := by
      cases q : H l2 with
      | none => rfl
      | some o => exact absurd f2 (by rw [upd_ne (ne_of_none q np), upd_ne (ne_of_none q nd), q]; intro z; cases z)
    have ft : H t = none := s1.free ht
    have tl1 : t ≠ l1 := by
      obtain ⟨as, h1, _⟩ := R1.fl
      exact (ne_of_none h1 ht).symm
    have tl2 : t ≠ l2 := by
      obtain ⟨as, h1, _⟩ := R1.th
      exact (ne_of_none h1 ht).symm
    refine while_by (fun σ H' => ∃ (pl : Nat) (v4 v5 v6 : Option V) (m1 m2 : Addr) (st : Option Desk) (out : List Int) (fu : Nat) (cs : List (List (List Int))),
        σ = [some (.ref a), some (.ref p), some (.ref t), some (.int (pl : Int)), v4, v5, v6] ∧ (∀ b u, H b = some u → H' b = some u ∧ b ≠ m1 ∧ b ≠ m2) ∧ RoomS C H' p m1 m2 st ∧ SOk st ∧ t ≠ m1 ∧ t ≠ m2 ∧ H' t = some (.lst (out.map V.int)) ∧
        pl ≤ ns.length ∧ PyFlat.calls PyKqy4.shape fu (ns.drop pl) = some cs ∧ PyInside.calls PyKqy4.bound cs = true ∧ PyKqy4.answers ns = out ++ PyFlat.told (PyFlat.played Kqy4Neutral.step st cs)) (measA ns.length) ?_ ?_ ?_
    · exact ⟨0, none, none, none, l1, l2, none, [], ns.length, cs0, rfl, fun b u hb => ⟨s2 _ _ (s1 _ _ hb), ne_of_none hb fl1, ne_of_none hb fl2⟩, R2, trivial, tl1, tl2, upd_same, Nat.zero_le _, hc0, hi0, he0⟩
    · rintro σ H' ⟨pl, v4, v5, v6, m1, m2, st, out, fu, cs, rfl, old, RS, ok, nt1, nt2, hT, hpl, hcs, hin, heq⟩
      have sA : Same H H' := fun b u hb => (old b u hb).1
      have ha' := sA.seq ha
      refine ⟨_, rfl, _, rfl, a, _, rfl, .inl ha', _, _, rfl, rfl, _, rfl, ?_⟩
      rw [List.length_map]
      cases hd : ns.drop pl with
      | nil =>
        have hge : ns.length ≤ pl := List.drop_eq_nil_iff.mp hd
        refine ite2 (fun h => absurd (of_decide_eq_true h) (by omega)) (fun _ => ⟨_, rfl, ?_⟩)
        rw [hd] at hcs
        rw [calls_nil hcs] at heq
        refine k H' t ?_
        rw [hT, heq]
        show _ = some (HO.lst ((out ++ []).map V.int))
        rw [List.append_nil]
      | cons c r =>
        have hlt : pl < ns.length := by
          apply Classical.byContradiction
          intro hh
          rw [List.drop_eq_nil_of_le (by omega)] at hd
          cases hd
        refine ite2 (fun _ => ?_) (fun h => absurd (decide_eq_true (by omega)) h)
        rw [hd] at hcs
        obtain ⟨n, fu', cs', hsh, hnr, rfl, hcs'⟩ := calls_cons hcs
        have hlen : (r.take n).length = n := by rw [List.length_take]; omega
        have hrl : ns.length = pl + 1 + r.length := by
          have := congrArg List.length hd
          rw [List.length_drop, List.length_cons] at this
          omega
        refine ⟨_, rfl, _, rfl, a, _, _, _, rfl, rfl, ha', atI_nat (by rw [List.getElem?_map, drop_at hd]; rfl), ?_⟩
        refine ⟨_, rfl, _, _, rfl, rfl, _, rfl, aS, _, _, _, rfl, rfl, hS H', size_at hsh, _, _, rfl, rfl, ?_⟩
        refine ⟨_, rfl, _, rfl, _, rfl, _, rfl, _, _, rfl, rfl, _, rfl, _, rfl, _, rfl, a, _, rfl, ha', fun q hq => ?_⟩
        have ecut := cut_args hd hnr
        have hin2 : PyInside.call PyKqy4.bound [c :: r.take n] = true ∧ PyInside.calls PyKqy4.bound cs' = true := by
          have z : (PyInside.call PyKqy4.bound [c :: r.take n] && PyInside.calls PyKqy4.bound cs') = true := hin
          exact Bool.and_eq_true_iff.mp z
        have s3 : Same H' (upd H' q (.lst (cutV (ns.map V.int) (some ((pl : Int) + 1)) (some ((pl : Int) + 1 + (n : Int)))))) := Same.new hq
        have hq3 : (upd H' q (.lst (cutV (ns.map V.int) (some ((pl : Int) + 1)) (some ((pl : Int) + 1 + (n : Int)))))) q = some (.lst ((r.take n).map V.int)) := by
          rw [upd_same, ecut]
        obtain ⟨bb, dd, RA⟩ := RS.any
        have qn1 : q ≠ m1 := by
          obtain ⟨as, h1, _⟩ := RA.fl
          exact (ne_of_none h1 hq).symm
        have qn2 : q ≠ m2 := by
          obtain ⟨as, h1, _⟩ := RA.th
          exact (ne_of_none h1 hq).symm
        obtain ⟨dxx, hpp⟩ := RA.ins
        have tp : t ≠ p := ne_of hT hpp (by intro z; cases z)
        refine ⟨p, q, m1, m2, c, st, r.take n, rfl, RS.mono s3, ok, hq3, qn1, qn2, by rw [hlen]; exact hsh, inside_okc hin2.1 (fun e => ?_), ?_⟩
        · subst e
          have : some (2, 0) = some (n, 0) := hsh
          rw [hlen]
          exact (Prod.mk.inj (Option.some.inj this)).1.symm
        · intro H4 rr m1' m2' RS4 kp4 hrr hans
          have hT4 := kp4 t _ (s3 _ _ hT) tp nt1 nt2
          have nrt : rr ≠ t := (ne_of_none (s3 _ _ hT) hrr).symm
          have hzz : out.length + (1 + ((stp c st (r.take n)).2.length)) ≤ 10000000 := by
            have e5 : PyFlat.told (PyFlat.played Kqy4Neutral.step st ([c :: r.take n] :: cs')) = (((stp c st (r.take n)).2.length : Int) :: (stp c st (r.take n)).2) ++ PyFlat.told (PyFlat.played Kqy4Neutral.step (stp c st (r.take n)).1 cs') := rfl
            rw [heq, e5] at hz
            simp only [List.length_append, List.length_cons] at hz
            omega
          refine ⟨_, rfl, .inl ⟨rfl, _, SqL.of hT4.1⟩, _, rfl, rr, _, rfl, .inl (SqL.of hans), t, _, _, rfl, rfl, hT4.1, ?_, ?_⟩
          · rw [List.length_map]
            exact Nat.lt_of_lt_of_le (show out.length < 10000001 by omega) (by decide)
          refine ⟨_, rfl, .inl ⟨rfl, _, SqL.of upd_same⟩, _, rfl, t, rr, _, _, rfl, rfl, upd_same, (by rw [upd_ne nrt]; exact hans), ?_, ?_⟩
          · refine Nat.le_trans (m := 10000000) ?_ (by decide)
            simp only [List.length_append, List.length_map, List.length_cons, List.length_nil]
            omega
          refine ⟨_, rfl, ⟨pl + 1 + n, some (.int c), some (.int ((pl : Int) + 1 + (n : Int))), some (.ref rr), m1', m2', (stp c st (r.take n)).1, out ++ (((stp c st (r.take n)).2.length : Int) :: (stp c st (r.take n)).2), fu', cs', ?_, ?_, ?_, stp_ok _ _ _ ok, hT4.2.1, hT4.2.2, ?_, by omega, ?_, hin2.2, ?_⟩, ?_⟩
          · show [some (V.ref a), some (V.ref p), some (V.ref t), some (V.int ((pl : Int) + 1 + (n : Int))), _, _, _] = _
            rw [Int.natCast_add, Int.natCast_add]
            rfl
          · intro b u hb
            obtain ⟨o1, o2, o3⟩ := old b u hb
            have bp : b ≠ p := ne_of_none hb np
            obtain ⟨w1, w2, w3⟩ := kp4 b u (s3 _ _ o1) bp o2 o3
            refine ⟨?_, w2, w3⟩
            have bt : b ≠ t := ne_of_none hb ft
            rw [upd_ne bt, upd_ne bt]
            exact w1
          · exact (RoomS.put (RoomS.put RS4 hT4.1 tp.symm hT4.2.1.symm hT4.2.2.symm) upd_same tp.symm hT4.2.1.symm hT4.2.2.symm)
          · rw [upd_same, List.length_map, List.map_append, List.append_assoc]
            rfl
          · rw [drop_more hd]
            exact hcs'
          · rw [heq, List.append_assoc]
            rfl
          · show ns.length - ((pl : Int) + 1 + (n : Int)).toNat < ns.length - ((pl : Int)).toNat
            omega
    · rintro σ H Q Q' m ⟨v, hv, v2, hv2, p, ys, e, hs, i, j, e1, e2, k, hk, q⟩
      exact ⟨v, hv, v2, hv2, p, ys, e, hs, i, j, e1, e2, k, hk, m _ _ q⟩
end
end Rt

set_option Elab.async false
set_option maxRecDepth 100000
set_option maxHeartbeats 8000000
set_option linter.unusedVariables false
namespace Rt
open PySem PySem.Spec PyProof.Rows L2
theorem gd_mk {K : PySem.W.Frag} {h : Heap} {mg : Str → Option Value} {x : Str} {st : Stmt} {f : Addr} {oc : Value} {od an : Option Addr} {osl : Array (Option Value)} {kV doc pm cdv ct : Value} (Y : K.In h) (G : h.Ns mainGlobals mg) (a : PySem.W.nsIn K mainGlobals x = some (some (.ref f)))
    (l : K.lookup f = some ⟨oc, od, .func (PySem.W.fnOf x x (defArgs st) (defBody st) (defScope st) .none kV doc pm an cdv ct), osl⟩) (c : PySem.W.codeIn K cdv x = true) (k : PySem.W.keepIn K (.ref f) = true) : Gd K mg x st :=
  ⟨⟨f, _, PySem.W.mg_of Y G a, fun_mk (st := st) l c k⟩⟩
theorem gm_mk {K : PySem.W.Frag} {C : Addr} {m q : Str} {st : Stmt} {f : Addr} {oc : Value} {od an : Option Addr} {osl : Array (Option Value)} {kV doc pm cdv ct : Value} (a : PySem.W.findIn K (.ref C) m = some (some (.ref f))) (i : PySem.W.isFn K (.ref f) = true)
    (l : K.lookup f = some ⟨oc, od, .func (PySem.W.fnOf m q (defArgs st) (defBody st) (defScope st) .none kV doc pm an cdv ct), osl⟩) (c : PySem.W.codeIn K cdv q = true) (k : PySem.W.keepIn K (.ref f) = true) : GdM K C m q st :=
  ⟨⟨f, _, ⟨a, i, k⟩, fun_mk (st := st) l c k⟩⟩
theorem gi_mk {K : PySem.W.Frag} {C : Addr} {q : Str} {st : Stmt} {f : Addr} {oc : Value} {od an : Option Addr} {osl : Array (Option Value)} {kV doc pm cdv ct : Value} (mk : PySem.W.makesIn K C = true) (a : PySem.W.findIn K (.ref C) "__init__" = some (some (.ref f))) (i : PySem.W.isFn K (.ref f) = true) (kc : PySem.W.keepIn K (.ref C) = true)
    (l : K.lookup f = some ⟨oc, od, .func (PySem.W.fnOf "__init__" q (defArgs st) (defBody st) (defScope st) .none kV doc pm an cdv ct), osl⟩) (c : PySem.W.codeIn K cdv q = true) (k : PySem.W.keepIn K (.ref f) = true) : GdI K C q st :=
  ⟨⟨f, _, ⟨mk, a, i, kc⟩, fun_mk (st := st) l c k⟩⟩
theorem const_mk {K : PySem.W.Frag} {h : Heap} {mg : Str → Option Value} {x : Str} {i : Int} {u : Value} (Y : K.In h) (G : h.Ns mainGlobals mg) (a : PySem.W.nsIn K mainGlobals x = some (some u)) (e : RelV (.int i) u) : ∃ t, mg x = some (.int i t) := by
  obtain ⟨t, rfl⟩ := e
  exact ⟨t, PySem.W.mg_of Y G a⟩
/-- all the defs of the text -/
structure Code (K : PySem.W.Frag) (mg : Str → Option Value) (C : Addr) : Prop where
  d_cross : Gd K mg "cross" s_cross
  d_dot : Gd K mg "dot" s_dot
  d_is_nowhere : Gd K mg "is_nowhere" s_is_nowhere
  d_spread : Gd K mg "spread" s_spread
  d_shares : Gd K mg "shares" s_shares
  d_put_together : Gd K mg "put_together" s_put_together
  d_times : Gd K mg "times" s_times
  d_weighed : Gd K mg "weighed" s_weighed
  d_carried : Gd K mg "carried" s_carried
  d_no_three_on_a_line : Gd K mg "no_three_on_a_line" s_no_three_on_a_line
  d_common_divisor : Gd K mg "common_divisor" s_common_divisor
  d_fraction : Gd K mg "fraction" s_fraction
  d_line_told : Gd K mg "line_told" s_line_told
  d_ratio : Gd K mg "ratio" s_ratio
  d_in_first : Gd K mg "in_first" s_in_first
  d_in_second : Gd K mg "in_second" s_in_second
  d_is_outside : Gd K mg "is_outside" s_is_outside
  d_is_line_outside : Gd K mg "is_line_outside" s_is_line_outside
  d_refusal : Gd K mg "refusal" s_refusal
  d_where : Gd K mg "where" s_where
  d_which : Gd K mg "which" s_which
  d_one_more : Gd K mg "one_more" s_one_more
  d_start : Gd K mg "start" s_start
  d_floor : Gd K mg "floor" s_floor
  d_thing : Gd K mg "thing" s_thing
  d_drop : Gd K mg "drop" s_drop
  d_ready : Gd K mg "ready" s_ready
  d_across : Gd K mg "across" s_across
  d_back : Gd K mg "back" s_back
  d_stand : Gd K mg "stand" s_stand
  d_stand1 : Gd K mg "stand1" s_stand1
  d_track : Gd K mg "track" s_track
  d_track1 : Gd K mg "track1" s_track1
  d_may : Gd K mg "may" s_may
  d_lies : Gd K mg "lies" s_lies
  d_lift : Gd K mg "lift" s_lift
  d_cut : Gd K mg "cut" s_cut
  d_fits : Gd K mg "fits" s_fits
  d_state : Gd K mg "state" s_state
  d_answer_of : Gd K mg "answer_of" s_answer_of
  d_answers : Gd K mg "answers" s_answers
  m_begin : GdM K C "begin" "Room.begin" s_Room_begin
  m_first_corners : GdM K C "first_corners" "Room.first_corners" s_Room_first_corners
  m_second_corners : GdM K C "second_corners" "Room.second_corners" s_Room_second_corners
  m_floors_known : GdM K C "floors_known" "Room.floors_known" s_Room_floors_known
  m_across : GdM K C "across" "Room.across" s_Room_across
  m_back : GdM K C "back" "Room.back" s_Room_back
  m_shift_line : GdM K C "shift_line" "Room.shift_line" s_Room_shift_line
  m_lies : GdM K C "lies" "Room.lies" s_Room_lies
  m_stand : GdM K C "stand" "Room.stand" s_Room_stand
  m_is_ready : GdM K C "is_ready" "Room.is_ready" s_Room_is_ready
  m_track : GdM K C "track" "Room.track" s_Room_track
  m_first_track : GdM K C "first_track" "Room.first_track" s_Room_first_track
  m_may : GdM K C "may" "Room.may" s_Room_may
  m_fits : GdM K C "fits" "Room.fits" s_Room_fits
  m_lift : GdM K C "lift" "Room.lift" s_Room_lift
  m_init : GdI K C "Room.__init__" s_Room_init
/-- the tuple of the calls -/
structure Tab (K : PySem.W.Frag) (mg : Str → Option Value) (aA : Addr) : Prop where
  c0 : ∃ f, mg "start" = some (.ref f) ∧ TAt K aA 0 f
  c1 : ∃ f, mg "floor" = some (.ref f) ∧ TAt K aA 1 f
  c2 : ∃ f, mg "thing" = some (.ref f) ∧ TAt K aA 2 f
  c3 : ∃ f, mg "drop" = some (.ref f) ∧ TAt K aA 3 f
  c4 : ∃ f, mg "ready" = some (.ref f) ∧ TAt K aA 4 f
  c5 : ∃ f, mg "across" = some (.ref f) ∧ TAt K aA 5 f
  c6 : ∃ f, mg "back" = some (.ref f) ∧ TAt K aA 6 f
  c7 : ∃ f, mg "stand" = some (.ref f) ∧ TAt K aA 7 f
  c8 : ∃ f, mg "stand1" = some (.ref f) ∧ TAt K aA 8 f
  c9 : ∃ f, mg "track" = some (.ref f) ∧ TAt K aA 9 f
  c10 : ∃ f, mg "track1" = some (.ref f) ∧ TAt K aA 10 f
  c11 : ∃ f, mg "may" = some (.ref f) ∧ TAt K aA 11 f
  c12 : ∃ f, mg "lies" = some (.ref f) ∧ TAt K aA 12 f
  c13 : ∃ f, mg "lift" = some (.ref f) ∧ TAt K aA 13 f
  c14 : ∃ f, mg "cut" = some (.ref f) ∧ TAt K aA 14 f
  c15 : ∃ f, mg "fits" = some (.ref f) ∧ TAt K aA 15 f
  c16 : ∃ f, mg "state" = some (.ref f) ∧ TAt K aA 16 f
theorem tab_mk {K : PySem.W.Frag} {h : Heap} {mg : Str → Option Value} {f0 f1 f2 f3 f4 f5 f6 f7 f8 f9 f10 f11 f12 f13 f14 f15 f16 aA : Addr} {its : Array Value} {nA : Nat} {dA : Option Addr} {slA : Array (Option Value)} (Y : K.In h) (G : h.Ns mainGlobals mg)
    (a0 : PySem.W.nsIn K mainGlobals "start" = some (some (.ref f0)))
    (a1 : PySem.W.nsIn K mainGlobals "floor" = some (some (.ref f1)))
    (a2 : PySem.W.nsIn K mainGlobals "thing" = some (some (.ref f2)))
    (a3 : PySem.W.nsIn K mainGlobals "drop" = some (some (.ref f3)))
    (a4 : PySem.W.nsIn K mainGlobals "ready" = some (some (.ref f4)))
    (a5 : PySem.W.nsIn K mainGlobals "across" = some (some (.ref f5)))
    (a6 : PySem.W.nsIn K mainGlobals "back" = some (some (.ref f6)))
    (a7 : PySem.W.nsIn K mainGlobals "stand" = some (some (.ref f7)))
    (a8 : PySem.W.nsIn K mainGlobals "stand1" = some (some (.ref f8)))
    (a9 : PySem.W.nsIn K mainGlobals "track" = some (some (.ref f9)))
    (a10 : PySem.W.nsIn K mainGlobals "track1" = some (some (.ref f10)))
    (a11 : PySem.W.nsIn K mainGlobals "may" = some (some (.ref f11)))
    (a12 : PySem.W.nsIn K mainGlobals "lies" = some (some (.ref f12)))
    (a13 : PySem.W.nsIn K mainGlobals "lift" = some (some (.ref f13)))
    (a14 : PySem.W.nsIn K mainGlobals "cut" = some (some (.ref f14)))
    (a15 : PySem.W.nsIn K mainGlobals "fits" = some (some (.ref f15)))
    (a16 : PySem.W.nsIn K mainGlobals "state" = some (some (.ref f16)))
    (lA : K.lookup aA = some ⟨.type "tuple", dA, .seq its nA, slA⟩) (vA : Vals [V.ref f0, V.ref f1, V.ref f2, V.ref f3, V.ref f4, V.ref f5, V.ref f6, V.ref f7, V.ref f8, V.ref f9, V.ref f10, V.ref f11, V.ref f12, V.ref f13, V.ref f14, V.ref f15, V.ref f16] its.toList) : Tab K mg aA := by
  have q : ∀ H, SqT K H aA [V.ref f0, V.ref f1, V.ref f2, V.ref f3, V.ref f4, V.ref f5, V.ref f6, V.ref f7, V.ref f8, V.ref f9, V.ref f10, V.ref f11, V.ref f12, V.ref f13, V.ref f14, V.ref f15, V.ref f16] := fun H => .inr ⟨_, its, nA, lA, rfl, rfl, by
    have e := vA.length
    have e2 : its.size = its.toList.length := rfl
    rw [e2, ← e]
    show 17 ≤ sizeLine
    decide, vA⟩
  exact ⟨⟨f0, PySem.W.mg_of Y G a0, fun H => ⟨_, q H, atI_nat (j := 0) rfl⟩⟩, ⟨f1, PySem.W.mg_of Y G a1, fun H => ⟨_, q H, atI_nat (j := 1) rfl⟩⟩, ⟨f2, PySem.W.mg_of Y G a2, fun H => ⟨_, q H, atI_nat (j := 2) rfl⟩⟩, ⟨f3, PySem.W.mg_of Y G a3, fun H => ⟨_, q H, atI_nat (j := 3) rfl⟩⟩, ⟨f4, PySem.W.mg_of Y G a4, fun H => ⟨_, q H, atI_nat (j := 4) rfl⟩⟩, ⟨f5, PySem.W.mg_of Y G a5, fun H => ⟨_, q H, atI_nat (j := 5) rfl⟩⟩, ⟨f6, PySem.W.mg_of Y G a6, fun H => ⟨_, q H, atI_nat (j := 6) rfl⟩⟩, ⟨f7, PySem.W.mg_of Y G a7, fun H => ⟨_, q H, atI_nat (j := 7) rfl⟩⟩, ⟨f8, PySem.W.mg_of Y G a8, fun H => ⟨_, q H, atI_nat (j := 8) rfl⟩⟩, ⟨f9, PySem.W.mg_of Y G a9, fun H => ⟨_, q H, atI_nat (j := 9) rfl⟩⟩, ⟨f10, PySem.W.mg_of Y G a10, fun H => ⟨_, q H, atI_nat (j := 10) rfl⟩⟩, ⟨f11, PySem.W.mg_of Y G a11, fun H => ⟨_, q H, atI_nat (j := 11) rfl⟩⟩, ⟨f12, PySem.W.mg_of Y G a12, fun H => ⟨_, q H, atI_nat (j := 12) rfl⟩⟩, ⟨f13, PySem.W.mg_of Y G a13, fun H => ⟨_, q H, atI_nat (j := 13) rfl⟩⟩, ⟨f14, PySem.W.mg_of Y G a14, fun H => ⟨_, q H, atI_nat (j := 14) rfl⟩⟩, ⟨f15, PySem.W.mg_of Y G a15, fun H => ⟨_, q H, atI_nat (j := 15) rfl⟩⟩, ⟨f16, PySem.W.mg_of Y G a16, fun H => ⟨_, q H, atI_nat (j := 16) rfl⟩⟩⟩
end Rt

set_option Elab.async false
set_option maxRecDepth 100000
set_option maxHeartbeats 8000000
set_option linter.unusedVariables false
namespace Rt
open PySem PySem.Spec PyProof.Rows L2
open Kqy4 (Both Desk)
theorem fin {P : Program} {w : World} {K : PySem.W.Frag} {mg : Str → Option Value} {C aS aA fa : Addr} (hfa : mg "answers" = some (.ref fa)) (W : Code K mg C) (T : Txt K C) (B : Bg mg C aS aA) (hS : ∀ H, SqT K H aS (sizes.map V.int)) (D : Tab K mg aA) :
    ∃ fd : FuncData, (∀ (s : Shared) (us : List Value), us.length = (["calls"] : List Str).length → BindsTo s fd ⟨us, []⟩ ((["calls"] : List Str).zip us)) ∧ ∀ base : Heap, K.In base → base.Ns mainGlobals mg → FnOk P w K mg base CX0 13 fa fd ["calls"] (spAnswers K) := by
  obtain ⟨f, fd, hf, F⟩ := W.d_answers.ex
  have e : f = fa := by
    rw [hf] at hfa
    exact Value.ref.inj (Option.some.inj hfa)
  subst e
  refine ⟨fd, fun s us hu => ?_, fun base _ _ => ?_⟩
  · obtain ⟨oc, od, kV, doc, pm, an, cdv, ct, osl, rfl, lk, hcd⟩ := F.ex
    match us, hu with
    | [_], _ => exact .of_eq rfl
  have B0 : Bt mg := B.toBt
  have cross := pr_cross (P := P) (w := w) (base := base) W.d_cross
  have dot := pr_dot (P := P) (w := w) (base := base) W.d_dot
  have nowhere := pr_is_nowhere (P := P) (w := w) (base := base) W.d_is_nowhere
  have spread := pr_spread W.d_spread dot cross
  have shares := pr_shares W.d_shares spread
  have put := pr_put_together (P := P) (w := w) (base := base) W.d_put_together B0
  have times := pr_times (P := P) (w := w) (base := base) W.d_times B0
  have weighed := pr_weighed W.d_weighed B0 shares times
  have carried := pr_carried W.d_carried shares put
  have nothree := pr_no_three_on_a_line W.d_no_three_on_a_line B0 spread
  have gcd := pr_common_divisor (P := P) (w := w) (base := base) W.d_common_divisor B0
  have fraction := pr_fraction W.d_fraction gcd
  have told := pr_line_told W.d_line_told gcd
  have ratio := pr_ratio (P := P) (w := w) (base := base) W.d_ratio B0
  have infirst := pr_in_first (P := P) (w := w) (base := base) W.d_in_first
  have insecond := pr_in_second (P := P) (w := w) (base := base) W.d_in_second
  have init := pr_init (P := P) (w := w) (mg := mg) (base := base) W.m_init T
  have begin_ := pr_begin (P := P) (w := w) (mg := mg) (base := base) W.m_begin T
  have first := pr_first_corners W.m_first_corners T infirst
  have second := pr_second_corners W.m_second_corners T insecond
  have known := pr_floors_known W.m_floors_known B0 T nothree first second
  have racross := pr_Room_across W.m_across T weighed carried first second
  have rback := pr_Room_back W.m_back T weighed carried first second
  have line := pr_shift_line W.m_shift_line T cross infirst insecond racross
  have rstand := pr_Room_stand W.m_stand T cross line
  have isready := pr_is_ready W.m_is_ready B0 T nowhere known rstand
  have rlies := pr_Room_lies W.m_lies T nowhere line
  have rtrack := pr_Room_track W.m_track T cross rstand racross
  have rtrack1 := pr_first_track W.m_first_track T cross rstand rback
  have rmay := pr_Room_may W.m_may T dot infirst insecond rtrack
  have rfits := pr_Room_fits W.m_fits B0 T rlies rmay
  have rlift := pr_Room_lift W.m_lift T nowhere cross ratio infirst insecond line rstand rtrack rmay
  have outside := pr_is_outside (P := P) (w := w) (base := base) W.d_is_outside B
  have refusal := pr_refusal W.d_refusal B outside
  have where_ := pr_where W.d_where B fraction
  have more := pr_one_more W.d_one_more B outside
  have lnout := pr_is_line_outside (P := P) (w := w) (base := base) W.d_is_line_outside B
  have which_ := pr_which W.d_which B told
  have h0 := pr_start W.d_start T begin_
  have h1 := pr_floor W.d_floor T more
  have h2 := pr_thing W.d_thing T more
  have h3 := pr_drop (P := P) (w := w) (base := base) W.d_drop B T
  have h4 := pr_ready W.d_ready T isready known
  have h5 := pr_across W.d_across T refusal where_ known racross
  have h6 := pr_back W.d_back T refusal where_ known rback
  have h7 := pr_stand W.d_stand B T where_ isready rstand
  have h8 := pr_stand1 W.d_stand1 B T where_ isready rstand rback
  have h9 := pr_track W.d_track T refusal which_ isready rtrack
  have h10 := pr_track1 W.d_track1 T refusal which_ isready rtrack1
  have h11 := pr_may W.d_may T refusal isready rmay
  have h12 := pr_lies W.d_lies T refusal known rlies
  have h13 := pr_lift W.d_lift B T refusal fraction isready rlift
  have h14 := pr_cut W.d_cut B T lnout refusal cross nowhere where_ isready rtrack
  have h15 := pr_fits W.d_fits B T isready rfits
  have h16 := pr_state (P := P) (w := w) (base := base) W.d_state B T
  have hands : ∀ (c : Int) (sz : Nat), PyKqy4.shape c = some (sz, 0) → ∃ f, TAt K aA c f ∧ Held P w K mg base 11 f (spDo C c sz) := by
    intro c sz hsh
    obtain ⟨_, j, rfl, hj, hs⟩ := shape_cases hsh
    match j, hj with
    | 0, _ =>
      obtain ⟨f, g, kd⟩ := D.c0
      have : sz = 0 := by have := Option.some.inj hs; omega
      subst this
      exact ⟨f, kd, h0.held g (by decide)⟩
    | 1, _ =>
      obtain ⟨f, g, kd⟩ := D.c1
      have : sz = 4 := by have := Option.some.inj hs; omega
      subst this
      exact ⟨f, kd, h1.held g (by decide)⟩
    | 2, _ =>
      obtain ⟨f, g, kd⟩ := D.c2
      have : sz = 4 := by have := Option.some.inj hs; omega
      subst this
      exact ⟨f, kd, h2.held g (by decide)⟩
    | 3, _ =>
      obtain ⟨f, g, kd⟩ := D.c3
      have : sz = 2 := by have := Option.some.inj hs; omega
      subst this
      exact ⟨f, kd, h3.held g (by decide)⟩
    | 4, _ =>
      obtain ⟨f, g, kd⟩ := D.c4
      have : sz = 0 := by have := Option.some.inj hs; omega
      subst this
      exact ⟨f, kd, h4.held g (by decide)⟩
    | 5, _ =>
      obtain ⟨f, g, kd⟩ := D.c5
      have : sz = 2 := by have := Option.some.inj hs; omega
      subst this
      exact ⟨f, kd, h5.held g (by decide)⟩
    | 6, _ =>
      obtain ⟨f, g, kd⟩ := D.c6
      have : sz = 2 := by have := Option.some.inj hs; omega
      subst this
      exact ⟨f, kd, h6.held g (by decide)⟩
    | 7, _ =>
      obtain ⟨f, g, kd⟩ := D.c7
      have : sz = 0 := by have := Option.some.inj hs; omega
      subst this
      exact ⟨f, kd, h7.held g (by decide)⟩
    | 8, _ =>
      obtain ⟨f, g, kd⟩ := D.c8
      have : sz = 0 := by have := Option.some.inj hs; omega
      subst this
      exact ⟨f, kd, h8.held g (by decide)⟩
    | 9, _ =>
      obtain ⟨f, g, kd⟩ := D.c9
      have : sz = 2 := by have := Option.some.inj hs; omega
      subst this
      exact ⟨f, kd, h9.held g (by decide)⟩
    | 10, _ =>
      obtain ⟨f, g, kd⟩ := D.c10
      have : sz = 2 := by have := Option.some.inj hs; omega
      subst this
      exact ⟨f, kd, h10.held g (by decide)⟩
    | 11, _ =>
      obtain ⟨f, g, kd⟩ := D.c11
      have : sz = 4 := by have := Option.some.inj hs; omega
      subst this
      exact ⟨f, kd, h11.held g (by decide)⟩
    | 12, _ =>
      obtain ⟨f, g, kd⟩ := D.c12
      have : sz = 4 := by have := Option.some.inj hs; omega
      subst this
      exact ⟨f, kd, h12.held g (by decide)⟩
    | 13, _ =>
      obtain ⟨f, g, kd⟩ := D.c13
      have : sz = 4 := by have := Option.some.inj hs; omega
      subst this
      exact ⟨f, kd, h13.held g (by decide)⟩
    | 14, _ =>
      obtain ⟨f, g, kd⟩ := D.c14
      have : sz = 5 := by have := Option.some.inj hs; omega
      subst this
      exact ⟨f, kd, h14.held g (by decide)⟩
    | 15, _ =>
      obtain ⟨f, g, kd⟩ := D.c15
      have : sz = 0 := by have := Option.some.inj hs; omega
      subst this
      exact ⟨f, kd, h15.held g (by decide)⟩
    | 16, _ =>
      obtain ⟨f, g, kd⟩ := D.c16
      have : sz = 0 := by have := Option.some.inj hs; omega
      subst this
      exact ⟨f, kd, h16.held g (by decide)⟩
  have ansof := pr_answer_of W.d_answer_of B T hands
  exact ok_answers F B T hS init ansof
theorem fin2 {P : Program} {w : World} {K : PySem.W.Frag} {h : Heap} {mg : Str → Option Value} {C aS aA fa : Addr} {its : Array Value} {nS : Nat} {dS : Option Addr} {slS : Array (Option Value)} (Y : K.In h) (G : h.Ns mainGlobals mg) (hfa : mg "answers" = some (.ref fa))
    (aC : PySem.W.nsIn K mainGlobals "Room" = some (some (.ref C))) (a_S : PySem.W.nsIn K mainGlobals "SIZES" = some (some (.ref aS))) (a_A : PySem.W.nsIn K mainGlobals "ANSWERING" = some (some (.ref aA)))
    (lS : K.lookup aS = some ⟨.type "tuple", dS, .seq its nS, slS⟩) (vS : Vals (sizes.map V.int) its.toList) (T : Txt K C)
    (B : (mg "SIZES" = some (.ref aS) → mg "ANSWERING" = some (.ref aA) → mg "Room" = some (.ref C) → Bg mg C aS aA)) (D : Tab K mg aA) (W : Code K mg C) :
    ∃ fd : FuncData, (∀ (s : Shared) (us : List Value), us.length = (["calls"] : List Str).length → BindsTo s fd ⟨us, []⟩ ((["calls"] : List Str).zip us)) ∧ ∀ base : Heap, K.In base → base.Ns mainGlobals mg → FnOk P w K mg base CX0 13 fa fd ["calls"] (spAnswers K) :=
  fin hfa W T (B (PySem.W.mg_of Y G a_S) (PySem.W.mg_of Y G a_A) (PySem.W.mg_of Y G aC)) (fun H => .inr ⟨_, its, nS, lS, rfl, rfl, by
    have e : (sizes.map V.int).length = its.toList.length := vS.length
    have e2 : its.size = its.toList.length := rfl
    rw [e2, ← e]
    decide, vS⟩) D
end Rt

open PySem PySem.W PyProof.Rows
set_option maxRecDepth 100000 in
set_option maxHeartbeats 0 in
theorem PySem.Challenge.cw_roomtwice_s01_answers_holds : PySem.Challenge.rw_roomtwice_s01_answers.Holds := by
  w_on; k_headS; (case hw => exact ⟨[.list [.int 0]], by decide +kernel, by decide +kernel⟩)
  k_fillS
  refine L2.walk_specK (r := PySem.Challenge.rw_roomtwice_s01_answers) (k := 13) (CX := L2.CX0) (ps := ["calls"]) (sp := Rt.spAnswers) (by decide +kernel) rfl rfl ⟨rfl, by decide, by decide⟩ (fun w h Y => PySem.W.kIn_of Y) ?F ?S (fun _ _ _ _ z => z)
  case F =>
    intro w mg fa h Y KX G hmg
    refine' Rt.fin2 KX G hmg ?aC ?aS ?aA ?lS ?vS ?T ?B ?D ?W
    (case aC => k_is); (case aS => k_is); (case aA => k_is); (case lS => k_is)
    case vS => repeat' first | exact .nil | refine .cons ⟨_, rfl⟩ ?_
    case T =>
      refine' ⟨⟨?pg, ?hd, ?po, ?sa⟩, ?nS, ?nF, ?nT⟩
      (case pg => k_is); (case hd => k_is); (case po => k_is); (case sa => k_is); (case nS => (show PySem.W.findIn _ _ _ = _; k_is)); (case nF => (show PySem.W.findIn _ _ _ = _; k_is)); (case nT => (show PySem.W.findIn _ _ _ = _; k_is))
    case B =>
      intro g1 g2 g3
      refine' ⟨⟨PySem.W.mg_none_of KX G ?b0, PySem.W.mg_none_of KX G ?b1, PySem.W.mg_none_of KX G ?b2, PySem.W.mg_none_of KX G ?b3, PySem.W.mg_none_of KX G ?b4, PySem.W.mg_none_of KX G ?b5, PySem.W.mg_none_of KX G ?b6⟩, Rt.const_mk KX G ?c0 ?ec0, Rt.const_mk KX G ?c1 ?ec1, Rt.const_mk KX G ?c2 ?ec2, Rt.const_mk KX G ?c3 ?ec3, Rt.const_mk KX G ?c4 ?ec4, Rt.const_mk KX G ?c5 ?ec5, Rt.const_mk KX G ?c6 ?ec6, Rt.const_mk KX G ?c7 ?ec7, Rt.const_mk KX G ?c8 ?ec8, Rt.const_mk KX G ?c9 ?ec9, Rt.const_mk KX G ?c10 ?ec10, Rt.const_mk KX G ?c11 ?ec11, g1, g2, g3⟩
      (case b0 => k_is); (case b1 => k_is); (case b2 => k_is); (case b3 => k_is); (case b4 => k_is); (case b5 => k_is); (case b6 => k_is); (case c0 => k_is); (case c1 => k_is); (case c2 => k_is); (case c3 => k_is); (case c4 => k_is); (case c5 => k_is); (case c6 => k_is); (case c7 => k_is); (case c8 => k_is); (case c9 => k_is); (case c10 => k_is); (case c11 => k_is)
      (case ec0 => exact ⟨_, rfl⟩); (case ec1 => exact ⟨_, rfl⟩); (case ec2 => exact ⟨_, rfl⟩); (case ec3 => exact ⟨_, rfl⟩); (case ec4 => exact ⟨_, rfl⟩); (case ec5 => exact ⟨_, rfl⟩); (case ec6 => exact ⟨_, rfl⟩); (case ec7 => exact ⟨_, rfl⟩); (case ec8 => exact ⟨_, rfl⟩); (case ec9 => exact ⟨_, rfl⟩); (case ec10 => exact ⟨_, rfl⟩); (case ec11 => exact ⟨_, rfl⟩)
    case D =>
      refine' Rt.tab_mk KX G ?a0 ?a1 ?a2 ?a3 ?a4 ?a5 ?a6 ?a7 ?a8 ?a9 ?a10 ?a11 ?a12 ?a13 ?a14 ?a15 ?a16 ?lA ?vA
      (case a0 => k_is); (case a1 => k_is); (case a2 => k_is); (case a3 => k_is); (case a4 => k_is); (case a5 => k_is); (case a6 => k_is); (case a7 => k_is); (case a8 => k_is); (case a9 => k_is); (case a10 => k_is); (case a11 => k_is); (case a12 => k_is); (case a13 => k_is); (case a14 => k_is); (case a15 => k_is); (case a16 => k_is); (case lA => k_is)
      case vA => repeat' first | exact .nil | refine .cons rfl ?_
    case W =>
      refine' ⟨?d_cross, ?d_dot, ?d_is_nowhere, ?d_spread, ?d_shares, ?d_put_together, ?d_times, ?d_weighed, ?d_carried, ?d_no_three_on_a_line, ?d_common_divisor, ?d_fraction, ?d_line_told, ?d_ratio, ?d_in_first, ?d_in_second, ?d_is_outside, ?d_is_line_outside, ?d_refusal, ?d_where, ?d_which, ?d_one_more, ?d_start, ?d_floor, ?d_thing, ?d_drop, ?d_ready, ?d_across, ?d_back, ?d_stand, ?d_stand1, ?d_track, ?d_track1, ?d_may, ?d_lies, ?d_lift, ?d_cut, ?d_fits, ?d_state, ?d_answer_of, ?d_answers, ?m_begin, ?m_first_corners, ?m_second_corners, ?m_floors_known, ?m_across, ?m_back, ?m_shift_line, ?m_lies, ?m_stand, ?m_is_ready, ?m_track, ?m_first_track, ?m_may, ?m_fits, ?m_lift, ?m_init⟩
      case d_cross =>
        refine' Rt.gd_mk KX G ?a ?l ?c ?k
        (case a => k_is); (case l => k_is); (case c => k_is); (case k => k_is)
      case d_dot =>
        refine' Rt.gd_mk KX G ?a ?l ?c ?k
        (case a => k_is); (case l => k_is); (case c => k_is); (case k => k_is)
      case d_is_nowhere =>
        refine' Rt.gd_mk KX G ?a ?l ?c ?k
        (case a => k_is); (case l => k_is); (case c => k_is); (case k => k_is)
      case d_spread =>
        refine' Rt.gd_mk KX G ?a ?l ?c ?k
        (case a => k_is); (case l => k_is); (case c => k_is); (case k => k_is)
      case d_shares =>
        refine' Rt.gd_mk KX G ?a ?l ?c ?k
        (case a => k_is); (case l => k_is); (case c => k_is); (case k => k_is)
      case d_put_together =>
        refine' Rt.gd_mk KX G ?a ?l ?c ?k
        (case a => k_is); (case l => k_is); (case c => k_is); (case k => k_is)
      case d_times =>
        refine' Rt.gd_mk KX G ?a ?l ?c ?k
        (case a => k_is); (case l => k_is); (case c => k_is); (case k => k_is)
      case d_weighed =>
        refine' Rt.gd_mk KX G ?a ?l ?c ?k
        (case a => k_is); (case l => k_is); (case c => k_is); (case k => k_is)
      case d_carried =>
        refine' Rt.gd_mk KX G ?a ?l ?c ?k
        (case a => k_is); (case l => k_is); (case c => k_is); (case k => k_is)
      case d_no_three_on_a_line =>
        refine' Rt.gd_mk KX G ?a ?l ?c ?k
        (case a => k_is); (case l => k_is); (case c => k_is); (case k => k_is)
      case d_common_divisor =>
        refine' Rt.gd_mk KX G ?a ?l ?c ?k
        (case a => k_is); (case l => k_is); (case c => k_is); (case k => k_is)
      case d_fraction =>
        refine' Rt.gd_mk KX G ?a ?l ?c ?k
        (case a => k_is); (case l => k_is); (case c => k_is); (case k => k_is)
      case d_line_told =>
        refine' Rt.gd_mk KX G ?a ?l ?c ?k
        (case a => k_is); (case l => k_is); (case c => k_is); (case k => k_is)
      case d_ratio =>
        refine' Rt.gd_mk KX G ?a ?l ?c ?k
        (case a => k_is); (case l => k_is); (case c => k_is); (case k => k_is)
      case d_in_first =>
        refine' Rt.gd_mk KX G ?a ?l ?c ?k
        (case a => k_is); (case l => k_is); (case c => k_is); (case k => k_is)
      case d_in_second =>
        refine' Rt.gd_mk KX G ?a ?l ?c ?k
        (case a => k_is); (case l => k_is); (case c => k_is); (case k => k_is)
      case d_is_outside =>
        refine' Rt.gd_mk KX G ?a ?l ?c ?k
        (case a => k_is); (case l => k_is); (case c => k_is); (case k => k_is)
      case d_is_line_outside =>
        refine' Rt.gd_mk KX G ?a ?l ?c ?k
        (case a => k_is); (case l => k_is); (case c => k_is); (case k => k_is)
      case d_refusal =>
        refine' Rt.gd_mk KX G ?a ?l ?c ?k
        (case a => k_is); (case l => k_is); (case c => k_is); (case k => k_is)
      case d_where =>
        refine' Rt.gd_mk KX G ?a ?l ?c ?k
        (case a => k_is); (case l => k_is); (case c => k_is); (case k => k_is)
      case d_which =>
        refine' Rt.gd_mk KX G ?a ?l ?c ?k
        (case a => k_is); (case l => k_is); (case c => k_is); (case k => k_is)
      case d_one_more =>
        refine' Rt.gd_mk KX G ?a ?l ?c ?k
        (case a => k_is); (case l => k_is); (case c => k_is); (case k => k_is)
      case d_start =>
        refine' Rt.gd_mk KX G ?a ?l ?c ?k
        (case a => k_is); (case l => k_is); (case c => k_is); (case k => k_is)
      case d_floor =>
        refine' Rt.gd_mk KX G ?a ?l ?c ?k
        (case a => k_is); (case l => k_is); (case c => k_is); (case k => k_is)
      case d_thing =>
        refine' Rt.gd_mk KX G ?a ?l ?c ?k
        (case a => k_is); (case l => k_is); (case c => k_is); (case k => k_is)
      case d_drop =>
        refine' Rt.gd_mk KX G ?a ?l ?c ?k
        (case a => k_is); (case l => k_is); (case c => k_is); (case k => k_is)
      case d_ready =>
        refine' Rt.gd_mk KX G ?a ?l ?c ?k
        (case a => k_is); (case l => k_is); (case c => k_is); (case k => k_is)
      case d_across =>
        refine' Rt.gd_mk KX G ?a ?l ?c ?k
        (case a => k_is); (case l => k_is); (case c => k_is); (case k => k_is)
      case d_back =>
        refine' Rt.gd_mk KX G ?a ?l ?c ?k
        (case a => k_is); (case l => k_is); (case c => k_is); (case k => k_is)
      case d_stand =>
        refine' Rt.gd_mk KX G ?a ?l ?c ?k
        (case a => k_is); (case l => k_is); (case c => k_is); (case k => k_is)
      case d_stand1 =>
        refine' Rt.gd_mk KX G ?a ?l ?c ?k
        (case a => k_is); (case l => k_is); (case c => k_is); (case k => k_is)
      case d_track =>
        refine' Rt.gd_mk KX G ?a ?l ?c ?k
        (case a => k_is); (case l => k_is); (case c => k_is); (case k => k_is)
      case d_track1 =>
        refine' Rt.gd_mk KX G ?a ?l ?c ?k
        (case a => k_is); (case l => k_is); (case c => k_is); (case k => k_is)
      case d_may =>
        refine' Rt.gd_mk KX G ?a ?l ?c ?k
        (case a => k_is); (case l => k_is); (case c => k_is); (case k => k_is)
      case d_lies =>
        refine' Rt.gd_mk KX G ?a ?l ?c ?k
        (case a => k_is); (case l => k_is); (case c => k_is); (case k => k_is)
      case d_lift =>
        refine' Rt.gd_mk KX G ?a ?l ?c ?k
        (case a => k_is); (case l => k_is); (case c => k_is); (case k => k_is)
      case d_cut =>
        refine' Rt.gd_mk KX G ?a ?l ?c ?k
        (case a => k_is); (case l => k_is); (case c => k_is); (case k => k_is)
      case d_fits =>
        refine' Rt.gd_mk KX G ?a ?l ?c ?k
        (case a => k_is); (case l => k_is); (case c => k_is); (case k => k_is)
      case d_state =>
        refine' Rt.gd_mk KX G ?a ?l ?c ?k
        (case a => k_is); (case l => k_is); (case c => k_is); (case k => k_is)
      case d_answer_of =>
        refine' Rt.gd_mk KX G ?a ?l ?c ?k
        (case a => k_is); (case l => k_is); (case c => k_is); (case k => k_is)
      case d_answers =>
        refine' Rt.gd_mk KX G ?a ?l ?c ?k
        (case a => k_is); (case l => k_is); (case c => k_is); (case k => k_is)
      case m_begin =>
        refine' Rt.gm_mk ?a ?i ?l ?c ?k
        (case a => k_is); (case i => k_is); (case l => k_is); (case c => k_is); (case k => k_is)
      case m_first_corners =>
        refine' Rt.gm_mk ?a ?i ?l ?c ?k
        (case a => k_is); (case i => k_is); (case l => k_is); (case c => k_is); (case k => k_is)
      case m_second_corners =>
        refine' Rt.gm_mk ?a ?i ?l ?c ?k
        (case a => k_is); (case i => k_is); (case l => k_is); (case c => k_is); (case k => k_is)
      case m_floors_known =>
        refine' Rt.gm_mk ?a ?i ?l ?c ?k
        (case a => k_is); (case i => k_is); (case l => k_is); (case c => k_is); (case k => k_is)
      case m_across =>
        refine' Rt.gm_mk ?a ?i ?l ?c ?k
        (case a => k_is); (case i => k_is); (case l => k_is); (case c => k_is); (case k => k_is)
      case m_back =>
        refine' Rt.gm_mk ?a ?i ?l ?c ?k
        (case a => k_is); (case i => k_is); (case l => k_is); (case c => k_is); (case k => k_is)
      case m_shift_line =>
        refine' Rt.gm_mk ?a ?i ?l ?c ?k
        (case a => k_is); (case i => k_is); (case l => k_is); (case c => k_is); (case k => k_is)
      case m_lies =>
        refine' Rt.gm_mk ?a ?i ?l ?c ?k
        (case a => k_is); (case i => k_is); (case l => k_is); (case c => k_is); (case k => k_is)
      case m_stand =>
        refine' Rt.gm_mk ?a ?i ?l ?c ?k
        (case a => k_is); (case i => k_is); (case l => k_is); (case c => k_is); (case k => k_is)
      case m_is_ready =>
        refine' Rt.gm_mk ?a ?i ?l ?c ?k
        (case a => k_is); (case i => k_is); (case l => k_is); (case c => k_is); (case k => k_is)
      case m_track =>
        refine' Rt.gm_mk ?a ?i ?l ?c ?k
        (case a => k_is); (case i => k_is); (case l => k_is); (case c => k_is); (case k => k_is)
      case m_first_track =>
        refine' Rt.gm_mk ?a ?i ?l ?c ?k
        (case a => k_is); (case i => k_is); (case l => k_is); (case c => k_is); (case k => k_is)
      case m_may =>
        refine' Rt.gm_mk ?a ?i ?l ?c ?k
        (case a => k_is); (case i => k_is); (case l => k_is); (case c => k_is); (case k => k_is)
      case m_fits =>
        refine' Rt.gm_mk ?a ?i ?l ?c ?k
        (case a => k_is); (case i => k_is); (case l => k_is); (case c => k_is); (case k => k_is)
      case m_lift =>
        refine' Rt.gm_mk ?a ?i ?l ?c ?k
        (case a => k_is); (case i => k_is); (case l => k_is); (case c => k_is); (case k => k_is)
      case m_init =>
        refine' Rt.gi_mk ?mk ?a ?i ?kc ?l ?c ?k
        (case mk => k_is); (case a => k_is); (case i => k_is); (case kc => k_is); (case l => k_is); (case c => k_is); (case k => k_is)
  case S =>
    intro K H xs a hO hwi hask hx
    cases hx with
    | cons h1 h2 =>
      cases h2
      cases h1 with
      | lst hs ha =>
        have e := L2.ints_dw a.1 _ ha
        subst e
        exact ⟨_, a.1, rfl, hs, hask, fun H' p hp => .lst (L2.SqL.of hp) (L2.dw_ints _)⟩

