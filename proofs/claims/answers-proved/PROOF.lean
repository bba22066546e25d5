import PyProof.Rows.All
import Wide.All
import OpenK.AllK
import Wide.FinOn
import PyProof.SumAny
import KE.GoesNew
import KE.GoesMore
import KE.KDictWalk
import HandS.ForMost
import HandS.Conv
import HandS.Zip
import HandS.Walk
import HandS.ForSpec
import HandS.TryMany
import HandS.ExcInit
import HandS.ExcField
import HandS.ClsMeth
import KE.HD4
import HandS.More
import HandS.Defaults
import HandS.HeadHook1
import HandS.HeadHook2
import HandS.Wide
import HandS.TupAny
import HandS.ExcOwn
import PySem.Challenge.RW_closedqueues_s01_answers
set_option Elab.async false
set_option linter.all false
section
set_option Elab.async false
set_option linter.all false
set_option maxRecDepth 100000
set_option maxHeartbeats 4000000
namespace CqR
open PySem PySem.Spec PyProof.Rows L2
/-! ### enumerate of a tuple -/
def ItE (K : PySem.W.Frag) (a : Addr) : It where
  go i H := ∃ (xs : List V) (x : V), SqT K H a xs ∧ xs[i]? = some x
  yld i H v H' := ∃ T x, v = .ref T ∧ H T = none ∧ H' = upd H T (.tup [.int (i : Nat), x]) ∧ ∀ xs, SqT K H a xs → xs[i]? = some x
  stop i H := ∃ xs : List V, SqT K H a xs ∧ xs.length = i
theorem turn_enumT {P : Program} {w : World} {K : PySem.W.Frag} {elts : List Expr} {kk : Nat} {tpos : Pos} (a e it : Addr) :
    Turn P w K (.Tuple elts kk tpos) (ItE K a) [e, it] e (fun i h => (∃ old, IsEnum h e it ((0 : Int) + (i : Int)) old) ∧ h.IsTupleIter it a i ∧ e ≠ it ∧ e ≠ a ∧ a ≠ it) where
  mem := by simp
  obj := by
    intro i h st b hb
    obtain ⟨⟨old, he⟩, ⟨o, ho, hc, hd⟩, _⟩ := st
    rcases (by simpa using hb : b = e ∨ b = it) with rfl | rfl
    · exact ⟨_, he, fun v q => nomatch q⟩
    · exact ⟨o, ho, fun v q => by rw [hd] at q; cases q⟩
  keep := by
    intro i h h' st k
    obtain ⟨⟨old, he⟩, hi, n⟩ := st
    exact ⟨⟨old, k e (by simp) _ he⟩, hi.at fun o q => k it (by simp) o q, n⟩
  item := by
    intro X hP hw hK hc i pins s σ H E I hf st hg
    subst hP hw hK
    obtain ⟨hen, hit, n1, n2, n3⟩ := st
    obtain ⟨xs, x, hq, hx⟩ := hg
    obtain ⟨its, rv, p, hz⟩ := I.tuple hq
    obtain ⟨u, hu, ru⟩ := rv.get hx
    have hel : e < s.heap.objs.size := by obtain ⟨_, q⟩ := hen; exact Heap.lt_size q
    have hil : it < s.heap.objs.size := by obtain ⟨_, q, _⟩ := hit; exact Heap.lt_size q
    have hlt : i < its.toArray.size := by
      have := (List.getElem?_eq_some_iff.mp hu).1
      simpa using this
    have W := GoesN.enumFrom (prog := X.prog) (w := X.w) (A := X.A) (elts := elts) (x1 := kk) (pos := tpos) 0 (Draws.tuple (A := X.A.in1) (I.ok.hd hc) it a n3 its.toArray) e n1 (by simp [n1, n2]) (by simp)
    refine W.goes i s _ E hlt ⟨hen, hit, p⟩ fun v h' tk hY hst hk htk => ?_
    obtain ⟨T, t, y, rfl, hT, hy, hTt⟩ := hY
    obtain ⟨hen', hit', hp'⟩ := hst
    have ey : y = u := by
      have q : its.toArray[i]? = some u := by simpa using hu
      rw [q] at hy
      exact (Option.some.inj hy).symm
    subst ey
    have k0 : ∀ b o, b ∉ [e, it] → s.heap.get? b = some o → h'.get? b = some o := hk
    have new : ObjOk X.prog X.w (upd H T (.tup [.int (i : Nat), x])) h' T (.tup [.int (i : Nat), x]) := by
      refine ⟨by show 2 ≤ sizeLine; decide, [.int (0 + (i : Int)) t, y], .cons ⟨t, ?_⟩ (.cons ru .nil), hTt⟩
      rw [Int.zero_add]
    have I1 : Inv X pins σ (upd H T (.tup [.int (i : Nat), x])) { s with heap := h', toks := tk } := I.turnedNew (ch := [e, it]) k0 hf hT new
    refine ⟨.ref T, _, I1, rfl, ⟨T, x, rfl, I.hok.fresh hT, rfl, fun ys hy => by rw [I.tuple_inj hy hq]; exact hx⟩, ⟨hen', hit', n1, n2, n3⟩, fun b hb => ?_⟩
    have hb' : b < s.heap.objs.size := by
      rcases (by simpa using hb : b = e ∨ b = it) with rfl | rfl
      · exact hel
      · exact hil
    rw [upd_ne (Nat.ne_of_lt (Nat.lt_of_lt_of_le hb' hT))]
    exact (hf b hb).1
  done := by
    intro X hP hw hK hc i pins s σ H E I hf st hg
    subst hP hw hK
    obtain ⟨hen, hit, n1, n2, n3⟩ := st
    obtain ⟨xs, hq, hx⟩ := hg
    obtain ⟨its, rv, p, hz⟩ := I.tuple hq
    have hl := rv.length
    have hi : i = its.toArray.size := by simp; omega
    subst hi
    have W := GoesN.enumFrom (prog := X.prog) (w := X.w) (A := X.A) (elts := elts) (x1 := kk) (pos := tpos) 0 (Draws.tuple (A := X.A.in1) (I.ok.hd hc) it a n3 its.toArray) e n1 (by simp [n1, n2]) (by simp)
    exact W.stops s _ E ⟨hen, hit, p⟩ fun h' tk hk htk => I.turnedL (ch := [e, it]) hk hf
  self := fun A i s Q E st h => let ⟨⟨_, he⟩, _⟩ := st; wpAny_pyIter_enum he h

/-! ### enumerate(t) is made -/
section
open AutoSeq1 (wpAny_loadPart')
abbrev eIt (t : Addr) : Obj := { cls := .type "tuple_iterator", data := .fields #[.ref t, .int 0 0] }
abbrev eEn (hp : Heap) : Obj := { cls := .type "enumerate", data := .fields #[.none, .bool false, .ref hp.objs.size, rawInt 0, .none, .none] }
theorem enum1_meets (t : Addr) (items : Array Value) (o : Obj) (hcls : o.cls = .type "tuple") (n : Nat) (hdat : o.data = .seq items n) :
    Meets (Builtin.«enumerate.__new__» ⟨[.type "enumerate", .ref t], []⟩) (fun _ R s => s.heap.get? t = some o ∧
      R (.ok (.ret (.ref (s.heap.push (eIt t)).objs.size))) { s with heap := (s.heap.push (eIt t)).push (eEn s.heap) }) :=
  .of_wp fun prog w A R s h => by
    obtain ⟨oc, od, dt, sl⟩ := o
    obtain rfl : oc = .type "tuple" := hcls
    obtain rfl : dt = .seq items n := hdat
    obtain ⟨hp, g, d, tk, os⟩ := s
    obtain ⟨ht, h⟩ := h
    have hsub := sub_enumerate
    have q1 : ∀ {A' : Around} {E : Value → Shared → Prop} {Q : Value → Shared → Prop}, Q (.ref hp.objs.size) ⟨hp.push (eIt t), g, d, tk, os⟩ → wpAny (model prog w) A' (pyIter (.ref t)) Q E ⟨hp, g, d, tk, os⟩ :=
      fun q => wpAny_pyIter_tuple ⟨_, ht, rfl, n, rfl⟩ q
    wp_walk using wpAny_loadPart' ht
    refine wpAny_stack_any fun st => wpAny_pure ?_
    split
    · rename_i c _ _ _ _ _
      cases (c == Value.type "enumerate") <;> (wp_walk using wpAny_loadPart' ht, q1; exact ⟨_, rfl, h⟩)
    · wp_walk using wpAny_loadPart' ht, q1
      exact ⟨_, rfl, h⟩
theorem enum1_call {prog : Program} {w : World} {A : Around} {E : Value → Shared → Prop} {s : Shared} {t : Addr} {items : Array Value} {Q : Value → Shared → Prop} (hT : s.heap.IsTuple t items)
    (h : ∀ h', IsEnum h' (s.heap.objs.size + 1) s.heap.objs.size 0 .none → h'.IsTupleIter s.heap.objs.size t 0 →
      (∀ b o, s.heap.get? b = some o → h'.get? b = some o) → Q (.ref (s.heap.objs.size + 1)) { s with heap := h' }) :
    wpAny (model prog w) A (call (.type "enumerate") [.ref t]) Q E s := by
  obtain ⟨o, ho, hc, n, hd⟩ := hT
  refine callType_new F.called_enumerate (by decide) (F.typeCall_enumerate_1 _) (F.newCall_enumerate_1 _) (fun obj => F.args_object_init_2 obj _) F.entry_enumerate_new (enum1_meets t items o hc n hd) ⟨ho, ?_⟩
  have hz : (s.heap.push (eIt t)).objs.size = s.heap.objs.size + 1 := Heap.size_push ..
  have he : IsEnum ((s.heap.push (eIt t)).push (eEn s.heap)) (s.heap.objs.size + 1) s.heap.objs.size 0 .none := by
    have q := Heap.get?_push_size (s.heap.push (eIt t)) (o := eEn s.heap) rfl
    rw [hz] at q
    exact q
  show _ ∧ _
  rw [hz]
  exact ⟨⟨_, he, rfl⟩, h _ he ⟨_, Heap.get?_push_of_some _ (Heap.get?_push_size _ rfl), rfl, rfl⟩ fun b o x => Heap.get?_push_of_some _ (Heap.get?_push_of_some _ x)⟩
end
def iEnT (K : PySem.W.Frag) (ta : TA) : TI := fun σ H R => ta σ H fun vs H1 => ∃ a xs, vs = [.ref a] ∧ SqT K H1 a xs ∧ R (ItE K a) H1
theorem pi_enumT {X : Cx} {e : Expr} {ta : TA} {p pos tpos : Pos} {elts : List Expr} {kk : Nat} (hg : Gl X "enumerate") (hm : X.mg "enumerate" = none) (ha : PA X [e] ta)
    (hs : starEach [e] X.env = [(false, eval e X.env)] := by rfl) : PI X (.Tuple elts kk tpos) (.Call (.Name "enumerate" p) [e] [] pos) (iEnT X.K ta) := by
  constructor
  intro pins s σ H R I h
  refine Call_ (ld_blt I hg hm boot_enumerate (PyProof.Rows.callWith_type1 (thn (ha.run pos pins s σ H _ I h) fun us s1 ⟨vs, H1, I1, r1, a, xs, ex, hq, q⟩ => ?_) hs rfl))
  subst ex
  obtain rfl := Vals.ref1 r1
  obtain ⟨its, rv, p', hz⟩ := I1.tuple hq
  have lt : a < s1.heap.objs.size := by obtain ⟨_, q, _⟩ := id p'; exact Heap.lt_size q
  refine enum1_call (show s1.heap.IsTuple a its.toArray from p') fun h' he hit hk => wpAny_pyIter_enum he ?_
  have I2 : Inv X pins σ H1 { s1 with heap := h' } := I1.kept (t' := s1.toks) hk
  refine ⟨s1.heap.objs.size + 1, [s1.heap.objs.size + 1, s1.heap.objs.size], _, _, H1, rfl, I2, turn_enumT a (s1.heap.objs.size + 1) s1.heap.objs.size,
    ⟨⟨.none, he⟩, hit, Nat.succ_ne_self _, Nat.ne_of_gt (Nat.lt_succ_of_lt lt), Nat.ne_of_lt lt⟩, fun b hb => ?_, q⟩
  have hle : s1.heap.objs.size ≤ b := by
    rcases (by simpa using hb : b = s1.heap.objs.size + 1 ∨ b = s1.heap.objs.size) with rfl | rfl
    · exact Nat.le_add_right _ _
    · exact Nat.le_refl _
  exact I1.fpOk hle (I1.hok.fresh hle)
theorem walk_enumT {K : PySem.W.Frag} {a : Addr} {xs : List V} : Walk (ItE K a) xs.length (fun H => SqT K H a xs) (YPair (fun i => some (.int (i : Nat))) (fun i => xs[i]?)) := by
  refine ⟨fun i _ hi q => ⟨xs, xs[i], q, by simp [hi]⟩, fun _ q => ⟨xs, q, rfl⟩, fun i H v H' _ q y => ?_⟩
  obtain ⟨T, x, h1, h2, h3, h4⟩ := y
  exact ⟨T, .int (i : Nat), x, h1, h2, h3, rfl, h4 xs q⟩
end CqR
end
section
set_option Elab.async false
set_option linter.all false
set_option maxRecDepth 100000
set_option maxHeartbeats 4000000
namespace CqR
open PySem PySem.Spec PyProof.Rows L2
/-! ### zip of a list and a tuple -/
def ItZ (K : PySem.W.Frag) (a b : Addr) : It where
  go i H := ∃ (xs ys : List V) (x y : V), SqL K H a xs ∧ SqT K H b ys ∧ xs[i]? = some x ∧ ys[i]? = some y
  yld i H v H' := ∃ T x y, v = .ref T ∧ H T = none ∧ H' = upd H T (.tup [x, y]) ∧ (∀ xs, SqL K H a xs → xs[i]? = some x) ∧ ∀ ys, SqT K H b ys → ys[i]? = some y
  stop i H := ∃ xs ys : List V, SqL K H a xs ∧ SqT K H b ys ∧ min xs.length ys.length = i
/-- the five objects of a zip, its two iterators at i1 and i2 -/
def zTn (a b z TI TO i1 i2 : Addr) (i : Nat) (h : Heap) : Prop :=
  IsZip h z TI TO .none ∧ IsTupOf2 h TI (.ref i1) (.ref i2) ∧ (∃ x y, IsTupOf2 h TO x y) ∧ h.IsListIter i1 a i ∧ h.IsTupleIter i2 b i
theorem mem5 {c z TI TO i1 i2 : Addr} (h : c ∈ [z, TI, TO, i1, i2]) : c = z ∨ c = TI ∨ c = TO ∨ c = i1 ∨ c = i2 := by simpa using h
theorem turn_zipLT {P : Program} {w : World} {K : PySem.W.Frag} {elts : List Expr} {kk : Nat} {tpos : Pos} {a b z TI TO i1 i2 : Addr} (D : ZipSep2 z TI TO i1 i2 [i1, a] [i2, b]) (na : a ≠ i1) (nb : b ≠ i2) :
    Turn P w K (.Tuple elts kk tpos) (ItZ K a b) [z, TI, TO, i1, i2] z (zTn a b z TI TO i1 i2) where
  mem := by simp
  obj := by
    intro i h st c hc
    obtain ⟨hz, hTI, ⟨x, y, hTO⟩, ⟨o1, e1, _, d1⟩, ⟨o2, e2, _, d2⟩⟩ := st
    rcases mem5 hc with rfl | rfl | rfl | rfl | rfl
    · exact ⟨_, hz, fun v q => nomatch q⟩
    · exact ⟨_, hTI, fun v q => nomatch q⟩
    · exact ⟨_, hTO, fun v q => nomatch q⟩
    · exact ⟨o1, e1, fun v q => by rw [d1] at q; cases q⟩
    · exact ⟨o2, e2, fun v q => by rw [d2] at q; cases q⟩
  keep := by
    intro i h h' st k
    obtain ⟨hz, hTI, ⟨x, y, hTO⟩, h1, h2⟩ := st
    exact ⟨k z (by simp) _ hz, k TI (by simp) _ hTI, ⟨x, y, k TO (by simp) _ hTO⟩, h1.at fun o q => k i1 (by simp) o q, h2.at fun o q => k i2 (by simp) o q⟩
  item := by
    intro X hP hw hK hc i pins s σ H E I hf st hg
    subst hP hw hK
    obtain ⟨hz, hTI, hTO, h1, h2⟩ := st
    obtain ⟨xs, ys, x, y, hqx, hqy, hx, hy⟩ := hg
    obtain ⟨its, rv, p, _⟩ := I.list hqx
    obtain ⟨its2, rv2, p2, _⟩ := I.tuple hqy
    obtain ⟨u, hu, ru⟩ := rv.get hx
    obtain ⟨u2, hu2, ru2⟩ := rv2.get hy
    have q1 : its.toArray[i]? = some u := by simpa using hu
    have q2 : its2.toArray[i]? = some u2 := by simpa using hu2
    have l1 : i < its.toArray.size := (Array.getElem?_eq_some_iff.mp q1).1
    have l2 : i < its2.toArray.size := (Array.getElem?_eq_some_iff.mp q2).1
    have W := GoesN.zip2 (prog := X.prog) (w := X.w) (A := X.A) (elts := elts) (x1 := kk) (pos := tpos) D (Draws.list (A := X.A.in1) (I.ok.hd hc) i1 a na its.toArray) (Draws.tuple (A := X.A.in1) (I.ok.hd hc) i2 b nb its2.toArray)
    refine W.goes i s _ E (by omega) ⟨hz, hTI, hTO, ⟨h1, p.isList⟩, ⟨h2, p2⟩⟩ fun v h' tk hY hst hk htk => ?_
    obtain ⟨T, y1, y2, rfl, hT, e1, e2, hTt⟩ := hY
    obtain ⟨hz', hTI', hTO', ⟨h1', _⟩, ⟨h2', _⟩⟩ := hst
    rw [q1] at e1
    rw [q2] at e2
    cases e1
    cases e2
    have new : ObjOk X.prog X.w (upd H T (.tup [x, y])) h' T (.tup [x, y]) := ⟨by show 2 ≤ sizeLine; decide, [u, u2], .cons ru (.cons ru2 .nil), hTt⟩
    have I1 : Inv X pins σ (upd H T (.tup [x, y])) { s with heap := h', toks := tk } := I.turnedNew (ch := [z, TI, TO, i1, i2]) (fun c o hb q => hk c o (fun q' => hb (by
      rcases (by simpa using q' : c = z ∨ c = TO ∨ c = i1 ∨ c = i2) with rfl | rfl | rfl | rfl <;> simp)) q) hf hT new
    refine ⟨.ref T, _, I1, rfl, ⟨T, x, y, rfl, I.hok.fresh hT, rfl, fun l hl => by rw [I.list_inj hl hqx]; exact hx, fun l hl => by rw [I.tuple_inj hl hqy]; exact hy⟩, ⟨hz', hTI', hTO', h1', h2'⟩, fun c hcm => ?_⟩
    have hlt : c < s.heap.objs.size := by
      obtain ⟨x0, y0, hTO⟩ := hTO
      obtain ⟨_, g1, _⟩ := h1
      obtain ⟨_, g2, _⟩ := h2
      rcases mem5 hcm with rfl | rfl | rfl | rfl | rfl
      · exact Heap.lt_size hz
      · exact Heap.lt_size hTI
      · exact Heap.lt_size hTO
      · exact Heap.lt_size g1
      · exact Heap.lt_size g2
    rw [upd_ne (Nat.ne_of_lt (Nat.lt_of_lt_of_le hlt hT))]
    exact (hf c hcm).1
  done := by
    intro X hP hw hK hc i pins s σ H E I hf st hg
    subst hP hw hK
    obtain ⟨hz, hTI, hTO, h1, h2⟩ := st
    obtain ⟨xs, ys, hqx, hqy, hend⟩ := hg
    obtain ⟨its, rv, p, _⟩ := I.list hqx
    obtain ⟨its2, rv2, p2, _⟩ := I.tuple hqy
    have l1 := rv.length
    have l2 := rv2.length
    have hi : i = min its.toArray.size its2.toArray.size := by simp; omega
    subst hi
    have W := GoesN.zip2 (prog := X.prog) (w := X.w) (A := X.A) (elts := elts) (x1 := kk) (pos := tpos) D (Draws.list (A := X.A.in1) (I.ok.hd hc) i1 a na its.toArray) (Draws.tuple (A := X.A.in1) (I.ok.hd hc) i2 b nb its2.toArray)
    exact W.stops s _ E ⟨hz, hTI, hTO, ⟨h1, p.isList⟩, ⟨h2, p2⟩⟩ fun h' tk hk htk => I.turnedL (ch := [z, TI, TO, i1, i2]) (fun c o hb q => hk c o (fun q' => hb (by
      rcases (by simpa using q' : c = z ∨ c = TO ∨ c = i1 ∨ c = i2) with rfl | rfl | rfl | rfl <;> simp)) q) hf
  self := fun A i s Q E st h => wpAny_pyIter_zip st.1 h
def iZLT (K : PySem.W.Frag) (ta : TA) : TI := fun σ H R => ta σ H fun vs H1 => ∃ a b xs ys, vs = [.ref a, .ref b] ∧ SqL K H1 a xs ∧ SqT K H1 b ys ∧ R (ItZ K a b) H1
theorem pi_zipLT {X : Cx} {e e2 : Expr} {ta : TA} {p pos tpos : Pos} {elts : List Expr} {kk : Nat} (hg : Gl X "zip") (hm : X.mg "zip" = none) (ha : PA X [e, e2] ta)
    (hs : starEach [e, e2] X.env = (false, eval e X.env) :: starEach [e2] X.env := by rfl) (hpl : (backTo pos (starEach [e2] X.env)).any (·.1) = false := by rfl) :
    PI X (.Tuple elts kk tpos) (.Call (.Name "zip" p) [e, e2] [] pos) (iZLT X.K ta) := by
  constructor
  intro pins s σ H R I h
  refine Call_ (ld_blt I hg hm PyProof.Rows.boot_zip (PyProof.Rows.callWith_type1 (thn (ha.run pos pins s σ H _ I h) fun us s1 ⟨vs, H1, I1, r1, a, b, xs, ys, ex, hqx, hqy, q⟩ => ?_) hs hpl))
  subst ex
  cases r1 with
  | cons r rr =>
    cases rr with
    | cons r' rr =>
      cases rr
      cases r
      cases r'
      obtain ⟨its, rv, p1, _⟩ := I1.list hqx
      obtain ⟨its2, rv2, p2, _⟩ := I1.tuple hqy
      have la : a < s1.heap.objs.size := p1.lt
      have lb : b < s1.heap.objs.size := by obtain ⟨_, q, _⟩ := id p2; exact Heap.lt_size q
      refine zip_begins2 (begins_list a its.toArray) (begins_tuple b its2.toArray) p1.isList p2 fun h' hz hTI hTO h1 h2 hsz hk => wpAny_pyIter_zip hz ?_
      have I2 : Inv X pins σ H1 { s1 with heap := h' } := I1.kept (t' := s1.toks) hk
      refine ⟨s1.heap.objs.size + 4, [s1.heap.objs.size + 4, s1.heap.objs.size + 2, s1.heap.objs.size + 3, s1.heap.objs.size, s1.heap.objs.size + 1], _, _, H1, rfl, I2,
        turn_zipLT (zip_sep2 (by simpa using la) (by simpa using lb)) (Nat.ne_of_lt la) (Nat.ne_of_lt (Nat.lt_succ_of_lt lb)), ⟨hz, hTI, ⟨_, _, hTO⟩, ⟨_, h1, rfl, rfl⟩, ⟨_, h2, rfl, rfl⟩⟩, fun c hcm => ?_, q⟩
      have hle : s1.heap.objs.size ≤ c := by
        rcases mem5 hcm with rfl | rfl | rfl | rfl | rfl
        · exact Nat.le_add_right _ _
        · exact Nat.le_add_right _ _
        · exact Nat.le_add_right _ _
        · exact Nat.le_refl _
        · exact Nat.le_add_right _ _
      exact I1.fpOk hle (I1.hok.fresh hle)
theorem walk_zipLT {K : PySem.W.Frag} {a b : Addr} {xs ys : List V} {n : Nat} (hn : n = min xs.length ys.length) : Walk (ItZ K a b) n (fun H => SqL K H a xs ∧ SqT K H b ys) (YPair (fun i => xs[i]?) (fun i => ys[i]?)) := by
  subst hn
  refine ⟨fun i _ hi q => ?_, fun _ q => ⟨xs, ys, q.1, q.2, rfl⟩, fun i H v H' _ q y => ?_⟩
  · exact ⟨xs, ys, xs[i], ys[i], q.1, q.2, by simp [show i < xs.length by omega], by simp [show i < ys.length by omega]⟩
  · obtain ⟨T, x, z, h1, h2, h3, h4, h5⟩ := y
    exact ⟨T, x, z, h1, h2, h3, h4 xs q.1, h5 ys q.2⟩
/-! ### zip of two tuples -/
theorem walk_zipTT {K : PySem.W.Frag} {a b : Addr} {xs ys : List V} {n : Nat} (hn : n = min xs.length ys.length) : Walk (RZ.ItzT K a b) n (fun H => SqT K H a xs ∧ SqT K H b ys) (YPair (fun i => xs[i]?) (fun i => ys[i]?)) := by
  subst hn
  refine ⟨fun i _ hi q => ?_, fun _ q => ⟨xs, ys, q.1, q.2, by omega⟩, fun i H v H' _ q y => ?_⟩
  · exact ⟨xs, ys, xs[i], ys[i], q.1, q.2, by simp [show i < xs.length by omega], by simp [show i < ys.length by omega]⟩
  · obtain ⟨T, x, z, h1, h2, h3, h4, h5⟩ := y
    exact ⟨T, x, z, h1, h2, h3, h4 xs q.1, h5 ys q.2⟩
end CqR
end
section
set_option Elab.async false
set_option linter.all false
set_option maxRecDepth 100000
set_option maxHeartbeats 4000000
namespace CqR
open PySem PySem.Spec PyProof.Rows L2
/-! ### the items of a dict with tuple keys -/
section
variable {X : Cx} {pins : List (Addr × Obj)} {σ : L2.St} {H : Hp} {s : Shared} {d : Addr}
/-- what stands at d, entry by entry -/
theorem dT_raw {kvs : List (List Key × V)} (I : Inv X pins σ H s) (h : Rd H d (.dT kvs)) :
    (d == sysModules) = false ∧ ∃ (es : Array DictEntry) (ep : Nat), s.heap.DictRaw d es ep ∧ es.size = kvs.length ∧
      ∀ (i : Nat) (k : List Key) (v : V), kvs[i]? = some (k, v) → ∃ (en : DictEntry) (q : Addr), es[i]? = some en ∧ en.key = .ref q ∧ H q = some (.tup (k.map kV)) ∧ RelV v en.val := by
  have ok : ObjOk X.prog X.w H s.heap d (.dT kvs) := h.ok I.hok
  obtain ⟨z, hs, xs, pr, o, es, ep, ho, hx, hdt, he, _⟩ := ok
  refine ⟨hs, es, ep, ⟨o, ho, hx, hdt⟩, ?_, fun i k v e => ?_⟩
  · have l1 : es.size = xs.length := by
      have q := congrArg List.length he
      simpa using q
    have l2 : kvs.length = xs.length := Paired.length pr
    omega
  · obtain ⟨b, hb, e1, e2, e3⟩ := paired_get pr e
    have q : es.toList[i]? = some (entryOfKey (tupleKind (mixKind X.prog X.w)) b) := by
      rw [he, List.getElem?_map, hb]
      rfl
    exact ⟨_, b.2.1, by simpa using q, rfl, e2, e3⟩
end
/-- the pairs, each a new tuple: the key's own tuple and the value -/
def ItI (d : Addr) (o : Obj) (kvs : List (List Key × V)) : It where
  go i H := H d = some (.frz o (.dT kvs)) ∧ i < kvs.length
  yld i H x H' := ∃ (T : Addr) (k : List Key) (v : V) (q : Addr), kvs[i]? = some (k, v) ∧ x = .ref T ∧ H T = none ∧ H q = some (.tup (k.map kV)) ∧ H' = upd H T (.tup [.ref q, v])
  stop i H := H d = some (.frz o (.dT kvs)) ∧ i = kvs.length
theorem turn_itemsT {P : Program} {w : World} {K : PySem.W.Frag} {d it : Addr} {o : Obj} {kvs : List (List Key × V)} {elts : List Expr} {kk : Nat} {tpos : Pos} {es0 : Array DictEntry} {ep : Nat} (hod : o.data = .dict es0 ep) (nd : d ≠ it) :
    Turn P w K (.Tuple elts kk tpos) (ItI d o kvs) [it] it (fun i h => ∃ ok ov, IsItemIter h it d i kvs.length ep ok ov) where
  mem := by simp
  obj := by
    intro i h st b hb
    obtain ⟨ok, ov, e⟩ := st
    obtain rfl : b = it := by simpa using hb
    exact ⟨_, e, fun v z => nomatch z⟩
  keep := by
    intro i h h' st k
    obtain ⟨ok, ov, e⟩ := st
    exact ⟨ok, ov, k it (by simp) _ e⟩
  item := by
    intro X hP hw hK hc i pins s σ H E I hf st hg
    subst hP hw hK
    obtain ⟨hd, hi⟩ := hg
    obtain ⟨hs, es, ep', hm, hsz, ent⟩ := dT_raw I (.inr ⟨o, hd⟩)
    have eep : ep' = ep := by
      obtain ⟨od, h1, _, h2⟩ := hm
      obtain ⟨h3, _⟩ := I.hok d _ hd
      rw [h3] at h1
      cases h1
      rw [hod] at h2
      cases h2
      rfl
    subst eep
    obtain ⟨⟨k, v⟩, hkv⟩ : ∃ p, kvs[i]? = some p := ⟨kvs[i], List.getElem?_eq_getElem hi⟩
    obtain ⟨en, q, hen, hkey, hq, rv⟩ := ent i k v hkv
    obtain ⟨ok, ov, he⟩ := st
    rw [← hsz] at he
    have hi2 : i < es.size := by omega
    have eg : es[i] = en := by
      have q := Array.getElem?_eq_getElem hi2
      rw [hen] at q
      exact (Option.some.inj q).symm
    have hlt : it < s.heap.objs.size := Heap.lt_size he
    refine wpAny_pyNext_items_item_raw he hm hi2 fun h' ho hT hz hk => ?_
    refine ⟨_, rfl, wpAny_letOwnedTupleGo_items (s := { s with heap := h' }) ho fun h'' he' sb => ?_⟩
    have hT2 : h''.get? s.heap.objs.size = some { cls := .type "tuple", data := .seq #[.ref q, en.val] } := by
      rw [eg, hkey] at hT
      exact (sb.2 _ (Nat.ne_of_gt hlt)).trans hT
    have new : ObjOk X.prog X.w (upd H s.heap.objs.size (.tup [.ref q, v])) h'' s.heap.objs.size (.tup [.ref q, v]) :=
      ⟨by show 2 ≤ sizeLine; decide, [.ref q, en.val], .cons rfl (.cons rv .nil), ⟨_, hT2, rfl, _, rfl⟩⟩
    have I1 : Inv X pins σ (upd H s.heap.objs.size (.tup [.ref q, v])) { s with heap := h'' } :=
      I.turnedNew (t' := s.toks) (ch := [it]) (fun b ob hb e => (sb.2 b (by simpa using hb)).trans (hk b ob (by simpa using hb) e)) hf (Nat.le_refl _) new
    refine ⟨.ref s.heap.objs.size, _, I1, rfl, ⟨_, k, v, q, hkv, rfl, I.hok.fresh (Nat.le_refl _), hq, rfl⟩, ⟨es[i].key, es[i].val, ?_⟩, fun b hb => ?_⟩
    · rw [← hsz]
      exact he'
    · obtain rfl : b = it := by simpa using hb
      rw [upd_ne (Nat.ne_of_lt hlt)]
      exact (hf b (by simp)).1
  done := by
    intro X hP hw hK hc i pins s σ H E I hf st hg
    subst hP hw hK
    obtain ⟨hd, hi⟩ := hg
    obtain ⟨f0, f1, f2, f3, f4, f5⟩ := hf it (by simp)
    obtain ⟨hs, es, ep', hm, hsz, ent⟩ := dT_raw I (.inr ⟨o, hd⟩)
    have eep : ep' = ep := by
      obtain ⟨od, h1, _, h2⟩ := hm
      obtain ⟨h3, _⟩ := I.hok d _ hd
      rw [h3] at h1
      cases h1
      rw [hod] at h2
      cases h2
      rfl
    subst eep
    obtain ⟨ok, ov, he⟩ := st
    rw [← hsz] at he
    exact wpAny_pyNext_items_end_raw (I.ok.hd hc) he hm (by omega) fun h' eb => ⟨rfl, I.turned (t' := s.toks) (fun b ob hb e => eb b ob hb e) f0 f1 f3 f4 f5⟩
  self := by
    intro A i s Q E st h
    obtain ⟨_, _, e⟩ := st
    exact wpAny_pyIter_itemiter e h
/-- d.items(), d locked already or locked now -/
def iItT (td : TE) : TI := fun σ H R => td σ H fun x H1 => ∃ d kvs, x = .ref d ∧
  ((∃ o, H1 d = some (.frz o (.dT kvs)) ∧ R (ItI d o kvs) H1) ∨ (H1 d = some (.dT kvs) ∧ ∀ o, R (ItI d o kvs) (upd H1 d (.frz o (.dT kvs)))))
theorem items_made {X : Cx} {pins : List (Addr × Obj)} {σ : L2.St} {H1 : Hp} {s1 : Shared} {R : It → Hp → Prop} {elts : List Expr} {kk : Nat} {tpos cpos : Pos} {d : Addr} {o : Obj} {kvs : List (List Key × V)}
    (I1 : Inv X pins σ H1 s1) (hd : H1 d = some (.frz o (.dT kvs))) (q : R (ItI d o kvs) H1) :
    s1.TypeIs (.ref d) "dict" ∧ (∀ a, Value.ref d = .ref a → ∃ ob, s1.heap.get? a = some ob ∧ ob.dict = none) ∧
      wpAny (model X.prog X.w) X.A (callWith cpos (.builtin "dict.items") [.ref d] [] []) (fun v s2 => wpAny (model X.prog X.w) X.A (pyIter v) (PIE X pins σ (.Tuple elts kk tpos) R) X.xe s2) X.xe s1 := by
  obtain ⟨hs, es, ep, hm, hsz, ent⟩ := dT_raw I1 (.inr ⟨o, hd⟩)
  obtain ⟨od, ho, hx, hdt⟩ := id hm
  have eo : od = o := by
    obtain ⟨h3, _⟩ := I1.hok d _ hd
    rw [h3] at ho
    exact (Option.some.inj ho).symm
  subst eo
  refine ⟨hm.typeIs, fun a e => ?_, ?_⟩
  · cases e
    exact ⟨od, ho, hx.2.1⟩
  have I2 : Inv X pins σ H1 { s1 with heap := s1.heap.push { cls := .type "dict_items", data := .fields #[.ref d] } } := I1.kept (t' := s1.toks) fun b ob q => Heap.get?_push_of_some _ q
  have hlt : d < s1.heap.objs.size := Heap.lt_size ho
  have fin : wpAny (model X.prog X.w) X.A (pyIter (.ref s1.heap.objs.size)) (PIE X pins σ (.Tuple elts kk tpos) R) X.xe { s1 with heap := s1.heap.push { cls := .type "dict_items", data := .fields #[.ref d] } } := by
    refine wpAny_pyIter_items_raw (d := d) ⟨_, Heap.get?_push_size _ rfl, rfl, rfl⟩ (hm.at fun ob e => Heap.get?_push_of_some _ e) (pi_one (tk := s1.toks) I2 _ (turn_itemsT hdt ?_) ⟨.none, .none, ?_⟩ q)
    · show d ≠ (s1.heap.push _).objs.size
      rw [Heap.size_push]
      exact Nat.ne_of_lt (Nat.lt_succ_of_lt hlt)
    · rw [← hsz]
      exact Heap.get?_push_size _ rfl
  exact method_meetsIn F.slot_dict_items F.entry_dict_items rfl (PySem.evalArgs_none ⟨rfl, hm.typeIs, F.args_dict_items_1 _, _, meets_dict_items_raw d hs, ⟨⟨es, ep, hm⟩, fin⟩⟩)
theorem pi_itemsT {X : Cx} {e : Expr} {td : TE} {apos cpos : Pos} {elts : List Expr} {kk : Nat} {tpos : Pos} (he : PE X e td) (hbase : attributeBase e "items" X.env (eval e X.env) = eval e X.env := by rfl)
    (hline : (apos.endLine == cpos.line) = true := by rfl) : PI X (.Tuple elts kk tpos) (.Call (.Attribute e "items" apos) [] [] cpos) (iItT td) := by
  constructor
  intro pins s σ H R I h
  refine wpAny_Call_method (T := "dict") (id := "dict.items") hbase rfl hline F.plainAttrs_dict F.slot_dict_items F.type_dict_items (thn (he.run pins s σ H _ I h) fun u s1 ⟨x, H1, I1, rx, d, kvs, ex, q⟩ => ?_)
  subst ex
  obtain rfl : u = Value.ref d := rx
  rcases q with ⟨o, hd, q⟩ | ⟨hd, q⟩
  · exact items_made I1 hd q
  · obtain ⟨o, I2⟩ := I1.lock hd (by exact True.intro)
    exact items_made I2 upd_same (q o)
theorem walk_itemsT {d : Addr} {o : Obj} {kvs : List (List Key × V)} : Walk (ItI d o kvs) kvs.length (fun H => H d = some (.frz o (.dT kvs)))
    (fun i H x H' => ∃ (T : Addr) (k : List Key) (v : V) (q : Addr), kvs[i]? = some (k, v) ∧ x = .ref T ∧ H T = none ∧ H q = some (.tup (k.map kV)) ∧ H' = upd H T (.tup [.ref q, v])) :=
  ⟨fun _ _ hi q => ⟨q, hi⟩, fun _ q => ⟨q, rfl⟩, fun _ _ _ _ _ _ y => y⟩
/-! ### sums -/
theorem preSum_ints {its : List Value} {ns : List Int} (h : PyProof.Rows.IntsAre its ns) : preSum (fun j => ns.getD j 0) its.length = ns.sum := by
  have key : ∀ n, n ≤ ns.length → preSum (fun j => ns.getD j 0) n = (ns.take n).sum := by
    intro n
    induction n with
    | zero => intro _; rfl
    | succ n ih =>
      intro hn
      show preSum _ n + ns.getD n 0 = _
      rw [ih (by omega), List.take_add_one, List.getElem?_eq_getElem (by omega), List.sum_append]
      simp [List.getD_eq_getElem?_getD, show n < ns.length by omega]
  have e := h.length
  rw [e, key _ (Nat.le_refl _), List.take_length]
theorem ints_at : ∀ {its : List Value} {ns : List Int}, PyProof.Rows.IntsAre its ns → ∀ (i : Nat) (v : Value), its[i]? = some v → ∃ t, v = .int (ns.getD i 0) t
  | _, _, .nil, i, v, e => by simp at e
  | _, _, .cons n t h, 0, v, e => ⟨t, by simpa using e.symm⟩
  | _, _, .cons n t h, i + 1, v, e => by
    obtain ⟨u, q⟩ := ints_at h i v (by simpa using e)
    exact ⟨u, by simpa using q⟩
end CqR
end
section
set_option Elab.async false
set_option linter.all false
set_option maxRecDepth 100000
set_option maxHeartbeats 4000000
namespace CqR
open PySem PySem.Spec PyProof.Rows L2
section
variable {X : Cx}
/-- sum of a tuple of ints -/
def rSumT (K : PySem.W.Frag) : List V → Hp → VK → Prop := fun vs H Q => ∃ (a : Addr) (ns : List Int), vs = [V.ref a] ∧ SqT K H a (ns.map V.int) ∧ Q (.int ns.sum) H
theorem cr_sumT (hc : X.calm = true) : CallR X (.builtin "sum") (rSumT X.K) := by
  intro pins s σ H vs us Q I r h
  obtain ⟨a, ns, rfl, hq, q⟩ := h
  obtain rfl := Vals.ref1 r
  obtain ⟨its, rv, p, hz⟩ := I.tuple hq
  have hlt : a < s.heap.objs.size := by obtain ⟨_, q, _⟩ := id p; exact Heap.lt_size q
  have hi := rv.ints
  refine call_sum_walkG (wpAny_pyIter_tuple (show s.heap.IsTuple a its.toArray from p) ?_)
  refine ⟨s.heap.objs.size, _, _, _, _, _, fun j => ns.getD j 0, rfl, Walks.tuple (A := X.A.in1) (I.ok.hd hc) _ a (Nat.ne_of_lt hlt) its.toArray, ⟨⟨_, Heap.get?_push_size _ rfl, rfl, rfl⟩, ?_⟩, fun b hb => ?_, fun i v hv => ?_, fun h' tk t' hk => ?_⟩
  · obtain ⟨o, ho, r⟩ := p
    exact ⟨o, Heap.get?_push_of_some _ ho, r⟩
  · show b < (s.heap.push _).objs.size
    rw [Heap.size_push]
    rcases (by simpa using hb : b = s.heap.objs.size ∨ b = a) with rfl | rfl
    · exact Nat.lt_succ_self _
    · exact Nat.lt_succ_of_lt hlt
  · exact ints_at hi i v (by simpa using hv)
  · have e : preSum (fun j => ns.getD j 0) its.toArray.size = ns.sum := by
      rw [List.size_toArray]
      exact preSum_ints hi
    rw [e]
    have k : ∀ b u, s.heap.get? b = some u → h'.get? b = some u := fun b u z => hk b u (fun m => by
      rw [List.mem_singleton.mp m] at z
      exact absurd (Heap.lt_size z) (Nat.lt_irrefl _)) (Heap.get?_push_of_some _ z)
    exact ⟨.int _, H, I.kept (t' := tk) k, ⟨t', rfl⟩, q⟩
/-- the view d.values() at p -/
def valsO (p d : Addr) : HO := .ext fun h => h.IsValuesView p d
def rValsT : V → List V → Hp → VK → Prop := fun x xs H Q => ∃ (a : Addr) (kvs : List (List L2.Key × V)), x = .ref a ∧ xs = [] ∧ Rd H a (.dT kvs) ∧ ∀ p, H p = none → Q (.ref p) (upd H p (valsO p a))
theorem mt_valsT : MtR X "dict.values" rValsT := by
  intro pins s σ H x xs v us Q I rx rxs h
  obtain ⟨a, kvs, rfl, rfl, ha, q⟩ := h
  cases rx
  cases rxs
  obtain ⟨hs, es, ep, hm, _⟩ := dT_raw I ha
  refine call_meetsIn F.slot_dict_values hm.typeIs F.entry_dict_values (F.args_dict_values_1 _) (meets_dict_values_raw a hs) ⟨⟨es, ep, hm⟩, ?_⟩
  have hf : H s.heap.objs.size = none := I.hok.fresh (Nat.le_refl _)
  refine ⟨.ref s.heap.objs.size, upd H s.heap.objs.size (valsO s.heap.objs.size a), I.laid (t' := s.toks) (fun b u e => Heap.get?_push_of_some _ e) (Nat.le_refl _) ?_, rfl, q _ hf⟩
  exact ⟨⟨_, Heap.get?_push_size _ rfl, rfl, rfl⟩, ⟨_, Heap.get?_push_size _ rfl⟩, fun h1 h2 z k => let ⟨o, ho, r⟩ := z; ⟨o, k o ho, r⟩⟩
/-- sum(d.values()), the values ints -/
def rSumV : List V → Hp → VK → Prop := fun vs H Q => ∃ (p a : Addr) (kvs : List (List L2.Key × V)) (ns : List Int), vs = [V.ref p] ∧ H p = some (valsO p a) ∧ Rd H a (.dT kvs) ∧ kvs.map (·.2) = ns.map V.int ∧ Q (.int ns.sum) H
theorem cr_sumV (hc : X.calm = true) : CallR X (.builtin "sum") rSumV := by
  intro pins s σ H vs us Q I r h
  obtain ⟨p, a, kvs, ns, rfl, hp, ha, hv, q⟩ := h
  obtain rfl := Vals.ref1 r
  obtain ⟨hs, es, ep, hm, hsz, ent⟩ := dT_raw I ha
  have view : s.heap.IsValuesView p a := (show ObjOk X.prog X.w H s.heap p (valsO p a) from I.hok p _ hp).1
  have hla : a < s.heap.objs.size := by obtain ⟨_, z, _⟩ := id hm; exact Heap.lt_size z
  have hn : kvs.length = ns.length := by
    have z := congrArg List.length hv
    simpa using z
  refine call_sum_walkG (wpAny_pyIter_values_raw view hm ?_)
  refine ⟨s.heap.objs.size, _, _, _, _, _, fun j => ns.getD j 0, rfl, Walks.rawValues (A := X.A.in1) (I.ok.hd hc) _ a (Nat.ne_of_lt hla) es ep, ⟨⟨_, Heap.get?_push_size _ rfl, rfl, rfl⟩, hm.at fun o e => Heap.get?_push_of_some _ e⟩, fun b hb => ?_, fun i v hv' => ?_, fun h' tk t' hk => ?_⟩
  · show b < (s.heap.push _).objs.size
    rw [Heap.size_push]
    rcases (by simpa using hb : b = s.heap.objs.size ∨ b = a) with rfl | rfl
    · exact Nat.lt_succ_self _
    · exact Nat.lt_succ_of_lt hla
  · obtain ⟨hi, rfl⟩ := hv'
    have hi2 : i < kvs.length := by omega
    obtain ⟨en, b, e1, _, _, rv⟩ := ent i (kvs[i]).1 (kvs[i]).2 (List.getElem?_eq_getElem hi2)
    rw [Array.getElem?_eq_getElem hi] at e1
    cases e1
    have z : (kvs.map (·.2))[i]? = (ns.map V.int)[i]? := by rw [hv]
    rw [List.getElem?_map, List.getElem?_map, List.getElem?_eq_getElem hi2, List.getElem?_eq_getElem (by omega)] at z
    have z2 : (kvs[i]).2 = V.int (ns[i]'(by omega)) := Option.some.inj z
    rw [z2] at rv
    obtain ⟨t, ht⟩ := rv
    refine ⟨t, ?_⟩
    rw [ht]
    simp [List.getD_eq_getElem?_getD, show i < ns.length by omega]
  · have e : preSum (fun j => ns.getD j 0) es.size = ns.sum := by
      have key : ∀ n, n ≤ ns.length → preSum (fun j => ns.getD j 0) n = (ns.take n).sum := by
        intro n
        induction n with
        | zero => intro _; rfl
        | succ n ih =>
          intro hn
          show preSum _ n + ns.getD n 0 = _
          rw [ih (by omega), List.take_add_one, List.getElem?_eq_getElem (by omega), List.sum_append]
          simp [List.getD_eq_getElem?_getD, show n < ns.length by omega]
      rw [hsz, hn, key _ (Nat.le_refl _), List.take_length]
    rw [e]
    have k : ∀ b u, s.heap.get? b = some u → h'.get? b = some u := fun b u z => hk b u (fun m => by
      rw [List.mem_singleton.mp m] at z
      exact absurd (Heap.lt_size z) (Nat.lt_irrefl _)) (Heap.get?_push_of_some _ z)
    exact ⟨.int _, H, I.kept (t' := tk) k, ⟨t', rfl⟩, q⟩
end
end CqR
end
section
set_option Elab.async false
set_option linter.all false
set_option maxRecDepth 100000
set_option maxHeartbeats 4000000
/-! own exceptions over Exception: a base that stores a field, classes over it whose __init__ calls the base's by its class -/
namespace CqX
open PySem PySem.W PySem.Calls PyProof.Rows PySem.HandSPX
open Builtin Builtin.ObjectAttr
abbrev eTail : List Value := [.type "Exception", .type "BaseException", .type "object"]
def refsE : List Value → Bool
  | .ref _ :: r => refsE r
  | l => l == eTail
theorem refsE_or (l : List Value) (e : refsE l = true) : (∃ c r, l = .ref c :: r ∧ refsE r = true) ∨ l = eTail := by
  cases l with
  | nil => exact .inr (beq_iff_eq.mp e)
  | cons a r =>
    cases a <;> first
      | exact .inl ⟨_, _, rfl, e⟩
      | exact .inr (beq_iff_eq.mp e)
theorem refsE_sets (self : Value) (l : List Value) (e : refsE l = true) : refuseLoop self "__setattr__" l = pure () := by
  induction l with
  | nil => exact absurd e (by decide)
  | cons a r ih =>
    rcases refsE_or _ e with ⟨c, r', q, h⟩ | q
    · cases q
      rw [refuseLoop_ref]
      exact ih h
    · rw [q]
      exact F.store_Exception.passes self
theorem refsE_has (X : String) (l : List Value) (e : refsE l = true) : l.contains (.type X) = eTail.contains (.type X) := by
  induction l with
  | nil => exact absurd e (by decide)
  | cons a r ih =>
    rcases refsE_or _ e with ⟨c, r', q, h⟩ | q
    · cases q
      rw [List.contains_cons, ih h]
      rfl
    · rw [q]
theorem refsE_some {l : List Value} (e : refsE l = true) : l.isEmpty = false := by
  cases l with
  | nil => exact absurd e (by decide)
  | cons _ _ => rfl
section
variable {prog : Program} {w : World} {A : Around} {E : Value → Shared → Prop} {R : Result → Shared → Prop} {hp : Heap} {g : Array GenState} {d : Drawn} {t : Nat} {os : OsState}
theorem exE_osa {K : W.Frag} {name : Str} {tk : Tok} {v : Value} {x C : Addr} {fv : Array Value} {cd : ClassData}
    (X : K.In hp) (hx : hp.get? x = some { cls := .ref C, data := .fields fv }) (hcd : W.clsIn K C = some cd) (hm : refsE cd.mro = true) (hh : cd.hasDict = true) (ha : W.findIn K (.ref C) name = some none)
    (hq : ∀ h' tk' dx, (∀ b o, b ≠ x → hp.get? b = some o → h'.get? b = some o) → hp.objs.size ≤ dx → dx ≠ x → h'.get? x = some { cls := .ref C, dict := some dx, data := .fields fv } →
      h'.Ns1 dx (fun y => if y = name then some v else none) → R (.ok (.ret .none)) ⟨h', g, d, tk', os⟩) :
    codeAny (model prog w) A (.call (.builtin "object.__setattr__") ⟨[.ref x, .str name tk, v], []⟩) R ⟨hp, g, d, t, os⟩ := by
  have J : W.InstAt hp x { cls := .ref C, data := .fields fv } C none := ⟨hx, rfl, rfl, trivial⟩
  have SF := F.store_object
  have nonempty := refsE_some hm
  have isobj : cd.mro.contains (.type "object") = true := (refsE_has "object" _ hm).trans (by decide +kernel)
  have ne : x ≠ hp.objs.size := Nat.ne_of_lt (Heap.lt_size hx)
  have inh : W.Looks (model prog w) hp (isInstance (.ref x) (.type "object")) true :=
    J.type.andThen (W.looks_mroIn X (by unfold W.mroIn; rw [hcd, Option.bind_some, if_neg (by rw [nonempty]; decide), isobj]))
  refine codeAny_call_builtin SF.slot.plain SF.entry (@W.check_slot (model prog w) _ _ ⟨hp, g, d, t, os⟩ "object.__setattr__" "object" "__setattr__" (.ref x) [.str name tk, v] [] _ SF.kind SF.split inh (SF.args (.ref x) (.str name tk) v) ?_)
  have mr : W.Looks (model prog w) hp (mroOf (.ref C)) cd.mro := (W.looks_clsIn X hcd).andThen .now
  have nt : W.Looks (model prog w) hp (storeTaker? none) none := .now
  have cl : W.Looks (model prog w) hp (classData C) cd := W.looks_clsIn X hcd
  rw [W.osa_eq, refuse_eq]
  refine wpAny_bind (wpAny_bind (J.type.at (wpAny_bind (mr.at ?_))))
  rw [refsE_sets _ _ hm]
  refine wpAny_pure (wpAny_bind (J.type.at (wpAny_bind ((W.looks_findIn X ha).at (wpAny_bind (nt.at ?_))))))
  show wpAny _ _ (storeInOwnDict (.ref x) (.ref C) (.str name tk) name v false) _ _ _
  obtain ⟨nm, bs, mro, ns, qn, hd, sn, sb, ab, col, del⟩ := cd
  dsimp only at hh
  subst hh
  unfold storeInOwnDict ownDictForStores
  repeat (first | with_reducible refine store_in_new ?_ ?_ | with_reducible refine wpAny_loadPart_at hx ?_ | with_reducible refine cl.at ?_ | wp_step)
  · exact ⟨_, #[], _, (Heap.get?_update_ne _ _ _ _ ne.symm).trans (Heap.get?_push_at rfl rfl), rfl, fun e he => absurd he (by simp), fun _ => rfl⟩
  · intro h' tk' hn' hs
    have hx₁ : (hp.push { cls := .type "dict", data := .dict #[] }).get? x = some { cls := .ref C, data := .fields fv } := Heap.get?_push_of_some _ hx
    exact hq h' tk' hp.objs.size (fun b o hb ho => (hs.2 b (Nat.ne_of_lt (Heap.lt_size ho))).trans ((Heap.get?_update_ne _ _ _ _ hb).trans (Heap.get?_push_of_some _ ho))) (Nat.le_refl _) ne.symm
      ((hs.2 x ne).trans (Heap.get?_update_self _ hx₁ rfl)) hn'
end
theorem typ_E : typeOf (.type "Exception") = pure (.type "type") := by kernel_rfl
end CqX

namespace CqR
open PySem PySem.Spec PyProof.Rows L2
/-- what the written part says of an error's class -/
structure ExE (K : PySem.W.Frag) (C : Addr) : Prop where
  cls : ∃ nm q N bs bm sn sub ab col dd k0 k1 k2 k3 k5, K.lookup C = some (excClassObj nm q C N bs bm true sn sub ab col dd k0 k1 k2 k3 k5 "Exception.__new__") ∧ CqX.refsE bm = true
  sa : PySem.W.findIn K (.ref C) "__setattr__" = some (some (.builtin "object.__setattr__"))
  exC : PySem.W.subIn K (.ref C) (.type "BaseException") = some true
  tyC : PySem.W.typeIn K (.ref C) = some (.type "type")
  kC : PySem.W.keepIn K (.ref C) = true
section
variable {X : Cx} {pins : List (Addr × Obj)} {σ : L2.St} {H : Hp} {s : Shared} {a C : Addr} {f : Str} {y : V} {u : Value} {Q : Unit → Shared → Prop} {E : Value → Shared → Prop} {A : Around}
/-- the first store to a new error's field -/
theorem exE_new (T : ExE X.K C) (I : Inv X pins σ H s) (e : H a = some (exo a C none)) (hno : PySem.W.findIn X.K (.ref C) f = some none) (ry : RelV y u)
    (h : ∀ dx s', H dx = none → dx ≠ a → Inv X pins σ (upd (upd H dx (exd dx [(f, y)])) a (exo a C (some dx))) s' → Q () s') : wpAny (model X.prog X.w) A (setAttr (.ref a) f u) Q E s := by
  obtain ⟨nm, q, N, bs, bm, sn, sub, ab, col, dd, k0, k1, k2, k3, k5, hC, hbm⟩ := T.cls
  have hcl : PySem.W.clsIn X.K C = some { name := nm, bases := bs, mro := .ref C :: bm, ns := N, qualname := q, hasDict := true, slotNames := sn, subclasses := sub, abstract := ab, collection := col, hasDel := false } := by
    unfold PySem.W.clsIn
    rw [hC] <;> rfl
  obtain ⟨t1, ho⟩ := exo_at I.hok e
  obtain ⟨hp, g, d, t, os⟩ := s
  refine PySem.W.set_plain I.kIn (ox := { cls := .ref C, dict := none, data := .fields #[.ref t1, .none, .none, .none, .bool false, .none] }) (od := none) ⟨ho, rfl, rfl, trivial⟩ T.sa ?_
  refine CqX.exE_osa I.kIn ho hcl (show CqX.refsE (.ref C :: bm) = true from hbm) rfl hno (fun h' tk' dx k dn dne hx hn => ?_)
  have hnd : H dx = none := I.hok.fresh dn
  have nd : ∀ {b : Addr} {o : Obj}, hp.get? b = some o → b ≠ dx := fun {b o} q => Nat.ne_of_lt (Nat.lt_of_lt_of_le (Heap.lt_size q) dn)
  have na : ∀ {b : Addr}, H b = none → b ≠ a := fun {b} n z => by rw [z, e] at n; cases n
  have dif : ∀ {b : Addr} {o : HO}, H b = some o → exo a C none ≠ o → upd (upd H dx (exd dx [(f, y)])) a (exo a C (some dx)) b = some o := fun {b o} q h => by
    rw [upd_ne (at_ne e q h), upd_ne (ne_of_none q hnd)]
    exact q
  have U : Un X.fs [] H (upd (upd H dx (exd dx [(f, y)])) a (exo a C (some dx))) hp h' := {
    keep := fun b o q n _ _ => k b o (na n) q
    slot := fun b o q n _ _ => ⟨o.slots, k b o (na n) q⟩
    free := fun b o q n _ => by
      rw [upd_ne (na n), upd_ne (nd q)]
      exact n
    there := fun b o q _ => by
      by_cases hb : b = a
      · exact ⟨_, by rw [hb]; exact hx⟩
      · exact ⟨o, k b o hb q⟩
    tups := fun b xs q => dif q exo_tup
    frzs := fun b o v q => dif q exo_frz
    tbls := fun b ps q => ⟨#[], by rw [dif q exo_tbl]; simp⟩ }
  refine h dx _ hnd dne (I.un (t' := tk') U fun b o q => ?_)
  by_cases hb : b = a
  · subst hb
    rw [upd_same] at q
    cases q
    exact exo_ok hx
  rw [upd_ne hb] at q
  by_cases hd : b = dx
  · subst hd
    rw [upd_same] at q
    cases q
    exact exd_ok hn (relO_put (fs := []) ry fun g => True.intro)
  rw [upd_ne hd] at q
  refine (I.hok b o q).stay (fun c v hc z => k c v ?_ z) (fun c hc => dif hc exo_own) (fun c xs hc => dif hc exo_tup)
  rcases hc with hc | hc
  · rw [hc]
    exact hb
  · exact at_ne e hc exo_own
/-- Exception.__init__(self) -/
theorem exE_init {us : List Value} {Q : Value → Shared → Prop} (T : ExE X.K C) (I : Inv X pins σ H s) (e : H a = some (exo a C none)) (hl : us.length ≤ sizeLine) (h : ∀ s', Inv X pins σ H s' → Q .none s') :
    wpAny (model X.prog X.w) A (call (.builtin "Exception.__init__") (.ref a :: us)) Q E s := by
  obtain ⟨nm, q, N, bs, bm, sn, sub, ab, col, dd, k0, k1, k2, k3, k5, hC, hbm⟩ := T.cls
  obtain ⟨t1, ho⟩ := exo_at I.hok e
  obtain ⟨hp, g, d, t, os⟩ := s
  refine wpAny_call (PySem.HandSPX.init_base F.excBase_Exception (fun Y => CqX.refsE_has Y bm hbm) (I.kIn _ _ hC) ho hl fun h' t2 k hx => ?_)
  have J := I.write (t' := t) (x := a) (e := a) (o := exo a C none) (by rw [e]; exact True.intro) (.inl rfl) k ⟨_, hx⟩ (exo_ok hx)
  have eu : upd H a (exo a C none) = H := by
    funext b
    by_cases hb : b = a
    · rw [hb, upd_same, e]
    · rw [upd_ne hb]
  rw [eu] at J
  exact h _ J
end
/-! ### readings and rules -/
def tExI (K : PySem.W.Frag) (ta : TA) : TE := fun σ H Q => ta σ H fun vs H1 => ∃ (a C : Addr) (ws : List V), vs = .ref a :: ws ∧ ws.length ≤ 1000 ∧ ExE K C ∧ H1 a = some (exo a C none) ∧ Q .non H1
def tExS (K : PySem.W.Frag) (f : Str) (to te : TE) : TS := fun D σ H => te σ H fun y H1 => to σ H1 fun x H2 => ∃ a C : Addr, x = .ref a ∧ ExE K C ∧ PySem.W.findIn K (.ref C) f = some none ∧
  H2 a = some (exo a C none) ∧ ∀ dx, H2 dx = none → dx ≠ a → D.nx σ (upd (upd H2 dx (exd dx [(f, y)])) a (exo a C (some dx)))
/-- C(), C's own __init__ keeping sp -/
def tExM (C : Addr) (sp : Sp) : L2.St → Hp → XK → Prop := fun σ H Q => ∀ a, H a = none → sp [.ref a] (upd H a (exo a C none))
  (fun v H2 => v = .non ∧ ∃ (d : Addr) (fs : List (Str × V)), H2 a = some (exo a C (some d)) ∧ H2 d = some (exd d fs) ∧ H d = none ∧ Q (.ref C) (some d) (upd (del H2 a) d (.xd fs))) (fun _ _ _ => False)
section
variable {X : Cx} {o e : Expr} {es : List Expr} {to te : TE} {ta : TA} {f : Str} {p p' p1 p2 pos : Pos}
theorem pe_exI {pl : Sem Bool} (hg : Gl X "Exception") (hm : X.mg "Exception" = none) (vV : PySem.W.findCls X.K (.type "Exception") (.type "type") "__init__" = some (.val (.builtin "Exception.__init__"))) (ha : PA X (e :: es) ta)
    (hc : eval (.Call (.Attribute (.Name "Exception" p1) "__init__" p2) (e :: es) [] pos) X.env = (do
      let ov ← eval (.Name "Exception" p1) X.env
      standAt p2.atName
      let (f, first) ← holding [ov] (getMethod ov "__init__" pl)
      callWith pos f first (backTo pos (starEach (e :: es) X.env)) (backToKw pos (keywordEach [] X.env))) := by rfl)
    (he : starEach (e :: es) X.env = (false, eval e X.env) :: starEach es X.env := by rfl) (hpl : (backTo pos (starEach es X.env)).any (·.1) = false := by rfl) :
    PE X (.Call (.Attribute (.Name "Exception" p1) "__init__" p2) (e :: es) [] pos) (tExI X.K ta) := by
  constructor
  intro pins s σ H Q I h
  refine PySem.W.methodCall_KW (ld_blt I hg hm PyProof.Rows.Boot.«Exception» ?_ (by decide) (by decide)) hc
  obtain ⟨m, fr⟩ := I.fr
  refine PySem.W.method_type fr I.ok.mod.kin CqX.typ_E (by decide +kernel) vV (by decide +kernel) ?_
  show wpAny _ _ (callWith pos (Value.builtin "Exception.__init__") [] (backTo pos (starEach (e :: es) X.env)) []) _ _ _
  refine PyProof.Rows.callWith_method1 (thn (ha.run pos pins _ σ H _ (I.tok _) h) fun us s1 ⟨vs, H1, I1, r1, a, C, ws, ev, hl, T, ea, q⟩ => ?_) he hpl
  subst ev
  cases r1 with
  | @cons _ u0 _ ur ra rw' =>
    obtain rfl : u0 = Value.ref a := ra
    exact exE_init T I1 ea (by rw [← Paired.length rw', sizeLine_eq]; omega) fun s' J => ⟨.non, H1, J, rfl, q⟩
theorem ps_exS (ho : PE X o to) (he : PE X e te) (hs : swapsWith e (some (.Attribute o f p')) pos.line X.env = pure false := by rfl) : PS X (.Assign [.Attribute o f p'] e pos) (tExS X.K f to te) := by
  constructor
  intro pins s σ H D I h
  refine plainObj_wpAny_Assign_Attribute (thn (he.run pins s σ H _ I h) fun v s1 ⟨y, H1, I1, r1, q1⟩ => thn (ho.run pins s1 σ H1 _ I1 q1) fun u s2 ⟨x, H2, I2, r2, a, C, ex, T, hno, ea, q⟩ => ?_) hs
  subst ex
  obtain rfl : u = Value.ref a := r2
  exact exE_new T I2 ea hno r1 fun dx s' n ne J => ⟨σ, _, J, q dx n ne⟩
/-- B.__init__(self, ..), B a class of the program -/
theorem pe_clsI {pl : Sem Bool} {CX : CXT} {x : Str} {B fB : Addr} {mc : Value} {k : Nat} {fd : FuncData} {ps : List Str} {sp : Sp} {E : XK} (hg : Gl X x) (hm : X.mg x = some (.ref B))
    (ga : PySem.W.specialIn X.K (.ref B) "__getattribute__" = some (some (.builtin "type.__getattribute__"))) (rd : PySem.W.readsIn X.K B mc = true) (fc : PySem.W.findCls X.K (.ref B) mc "__init__" = some (.val (.ref fB)))
    (kf : PySem.W.keepIn X.K (.ref fB) = true) (F : FnOk X.prog X.w X.K X.mg X.base CX k fB fd ps sp) (hr : Room k X.A) (hb : Binds X.K fd ps []) (hx : Passes CX X E) (ha : PA X (e :: es) ta)
    (hc : eval (.Call (.Attribute (.Name x p1) "__init__" p2) (e :: es) [] pos) X.env = (do
      let ov ← eval (.Name x p1) X.env
      standAt p2.atName
      let (f, first) ← holding [ov] (getMethod ov "__init__" pl)
      callWith pos f first (backTo pos (starEach (e :: es) X.env)) (backToKw pos (keywordEach [] X.env))) := by rfl) (hdb : (x == ("__debug__" : Str)) = false := by decide)
    (he : starEach (e :: es) X.env = (false, eval e X.env) :: starEach es X.env := by rfl) (hpl : (backTo pos (starEach es X.env)).any (·.1) = false := by rfl) :
    PE X (.Call (.Attribute (.Name x p1) "__init__" p2) (e :: es) [] pos) (tCall sp [] E ta) := by
  constructor
  intro pins s σ H Q I h
  refine PySem.W.methodCall_KW (ld_glob I hg hm ?_ hdb) hc
  refine PySem.W.method_cls I.kIn ga (PySem.W.cls_value I.kIn rd fc rfl ?_)
  show wpAny _ _ (callWith pos (Value.ref fB) [] (backTo pos (starEach (e :: es) X.env)) []) _ _ _
  refine PySem.W.callWith_K (h₀ := X.base) I.ok.mod.kin kf (thn (ha.run pos pins _ σ H _ (I.tok _) h) fun us s1 ⟨vs, H1, I1, r, q⟩ => ⟨I1.kIn, ?_⟩) he hpl
  exact run_fn F hr hb .nil hx I1 r q
theorem pmk_ex0 {CX : CXT} {x : Str} {C fI : Addr} {k : Nat} {fd : FuncData} {ps : List Str} {sp : Sp} (T : ExE X.K C) (iC : PySem.W.findIn X.K (.ref C) "__init__" = some (some (.ref fI))) (tI : PySem.W.typeIn X.K (.ref fI) = some (.type "function"))
    (F1 : FnOk X.prog X.w X.K X.mg X.base CX k fI fd ps sp) (hr : Room (k + 1) X.A) (hb : Binds X.K fd ps []) (hx : Passes CX X (fun _ _ _ => False)) (hg : Gl X x) (hm : X.mg x = some (.ref C))
    (hdb : (x == ("__debug__" : Str)) = false := by decide) : PMk X (.Call (.Name x p) [] [] pos) (tExM C sp) := by
  intro pins s σ H Q I h
  obtain ⟨nm, q, N, bs, bm, sn, sub, ab, col, dd, k0, k1, k2, k3, k5, hC, hbm⟩ := T.cls
  refine wpAny_Call_Name_kw (ld_glob I hg hm ?_ hdb)
  refine PySem.W.callWith_K0 I.kIn T.kC ?_
  obtain ⟨hp, g, dr, tk, os⟩ := s
  have hsz : hp.objs.size ≤ hp.objs.size + 1 := Nat.le_succ _
  have hn : H (hp.objs.size + 1) = none := I.hok.fresh hsz
  have hq := h (hp.objs.size + 1) hn
  have kk : ∀ b o, hp.get? b = some o → ((hp.push (PySem.W.kdv_tup [])).push (PySem.HandSPX.excO C hp.objs.size)).get? b = some o := fun b o e => Heap.get?_push_of_some _ (Heap.get?_push_of_some _ e)
  have hget : ((hp.push (PySem.W.kdv_tup [])).push (PySem.HandSPX.excO C hp.objs.size)).get? (hp.objs.size + 1) = some (PySem.HandSPX.excO C hp.objs.size) := by heap_get
  have I2 : Inv X pins σ (upd H (hp.objs.size + 1) (exo (hp.objs.size + 1) C none)) ⟨(hp.push (PySem.W.kdv_tup [])).push (PySem.HandSPX.excO C hp.objs.size), g, dr, tk, os⟩ :=
    I.laid (t' := tk) (a := hp.objs.size + 1) (o := exo (hp.objs.size + 1) C none) (h' := (hp.push (PySem.W.kdv_tup [])).push (PySem.HandSPX.excO C hp.objs.size)) kk hsz (exo_ok hget)
  have r2 : Vals [V.ref (hp.objs.size + 1)] [Value.ref (hp.objs.size + 1)] := .cons rfl .nil
  have hl : ([Value.ref (hp.objs.size + 1)] : List Value).length = ps.length := by
    have e := r2.length
    rw [F1.len _ _ _ _ hq] at e
    exact e.symm
  have b2 := hb ⟨(hp.push (PySem.W.kdv_tup [])).push (PySem.HandSPX.excO C hp.objs.size), g, dr, tk, os⟩ [Value.ref (hp.objs.size + 1)] I2.kIn (by rw [List.append_nil]; exact hl)
  rw [List.append_nil] at b2
  refine wpAny_call (PySem.HandSPX.call_own (rest := []) F.excBase_Exception (fun Y => CqX.refsE_has Y bm hbm) (I.kIn _ _ hC) (PySem.W.looks_findIn I.kIn iC) (fun self => PySem.W.bind_fn I.kIn self tI) (by rw [sizeLine_eq]; exact Nat.zero_le _)
    (codeAny_mono (F1.run _ X.stack _ _ ⟨[Value.ref (hp.objs.size + 1)], []⟩ [Value.ref (hp.objs.size + 1)] _ _ (fun _ _ _ => False) (hr.make C [] []) (I2.env0.make C [] []) b2 r2 hq) fun r s' hq' => ?_))
  cases r with
  | error er => exact hx pins σ _ _ er s' I2 hq'
  | ok fl =>
    cases fl with
    | ret u =>
      obtain ⟨v, H2, os2, bare2, un2, hok2, rv, ev, d, fs, ea, ed, hd1, q2⟩ := hq'
      subst ev
      obtain ⟨h2, g2, d2, t2, os'⟩ := s'
      exact ⟨rv, mk_end (raises_own T.exC T.tyC) I hsz kk un2 hok2 os2 bare2 ea ed hd1 q2⟩
    | next => exact False.elim hq'
    | brk => exact False.elim hq'
    | cont => exact False.elim hq'
end
end CqR
end
section
set_option Elab.async false
set_option linter.all false
set_option maxRecDepth 100000
set_option maxHeartbeats 4000000
/-! what the end asks of the written part -/
namespace CqH
open PySem PySem.Spec PyProof.Rows L2 He CqR
/-! ### a class of errors over Exception -/
def exB (K : PySem.W.Frag) (C : Addr) : Bool := match K.lookup C with
  | some ⟨.type T, _, .cls cd, sl⟩ => decide (T = "type") && (match cd.mro with
    | .ref D :: bm => decide (D = C) && CqX.refsE bm
    | _ => false) && (cd.hasDict && (!cd.hasDel && (match sl.toList with
    | [_, _, _, _, some (.builtin n), _] => decide (n = "Exception.__new__")
    | _ => false)))
  | _ => false
theorem exB_ok {K : PySem.W.Frag} {C : Addr} (h : exB K C = true) :
    ∃ nm q N bs bm sn sub ab col dd k0 k1 k2 k3 k5, K.lookup C = some (excClassObj nm q C N bs bm true sn sub ab col dd k0 k1 k2 k3 k5 "Exception.__new__") ∧ CqX.refsE bm = true := by
  unfold exB at h
  cases e : K.lookup C with
  | none =>
    rw [e] at h
    cases h
  | some o =>
    obtain ⟨oc, od, dt, sl⟩ := o
    rw [e] at h
    cases oc with
    | type T =>
      cases dt with
      | cls cd =>
        obtain ⟨h12, h345⟩ := ba h
        obtain ⟨h1, h2⟩ := ba h12
        obtain ⟨h3, h45⟩ := ba h345
        obtain ⟨h4, h5⟩ := ba h45
        obtain ⟨nm, bs, mro, N, q, hd, sn, sub, ab, col, del⟩ := cd
        obtain ⟨l⟩ := sl
        have eT : T = "type" := of_decide_eq_true h1
        have ed : hd = true := h3
        have el : del = false := by
          cases del with
          | true => cases h4
          | false => rfl
        subst eT ed el
        cases mro with
        | nil => cases h2
        | cons m bm =>
          cases m with
          | ref D =>
            obtain ⟨h6, h7⟩ := ba (show (decide (D = C) && CqX.refsE bm) = true from h2)
            have eD : D = C := of_decide_eq_true h6
            subst eD
            match l, h5 with
            | [k0, k1, k2, k3, some (.builtin n), k5], h5 =>
              have en : n = "Exception.__new__" := of_decide_eq_true h5
              subst en
              exact ⟨nm, q, N, bs, bm, sn, sub, ab, col, od, k0, k1, k2, k3, k5, rfl, h7⟩
          | _ => cases h2
      | _ => cases h
    | _ => cases dt <;> cases h
/-- all that is asked of the class of errors named x -/
def exF (K : PySem.W.Frag) (x : Str) : Bool := eqO (PySem.W.nsIn K mainGlobals x) (some (some (.ref (ga K x)))) && (exB K (ga K x) && (eqO (PySem.W.findIn K (.ref (ga K x)) "__setattr__") (some (some (.builtin "object.__setattr__"))) &&
  (decide (PySem.W.subIn K (.ref (ga K x)) (.type "BaseException") = some true) && (decide (PySem.W.typeIn K (.ref (ga K x)) = some (.type "type")) && (PySem.W.keepIn K (.ref (ga K x)) && (eqO (PySem.W.findIn K (.ref (ga K x)) "code") (some none) &&
  (eqO (PySem.W.findIn K (.ref (ga K x)) "__init__") (some (some (.ref (ma K (ga K x) "__init__")))) && (decide (PySem.W.typeIn K (.ref (ma K (ga K x) "__init__")) = some (.type "function")) && (xfB K (ga K x) &&
  decide (PySem.W.exmOne K (.ref (ga K x)) (.ref (ga K "Refusal")) = some true))))))))))
structure ExFacts (K : PySem.W.Frag) (mg : Str → Option Value) (x : Str) : Prop where
  gl : mg x = some (.ref (ga K x))
  ex : ExE K (ga K x)
  no : PySem.W.findIn K (.ref (ga K x)) "code" = some none
  ini : PySem.W.findIn K (.ref (ga K x)) "__init__" = some (some (.ref (ma K (ga K x) "__init__")))
  ty : PySem.W.typeIn K (.ref (ma K (ga K x) "__init__")) = some (.type "function")
  xf : XfC K (ga K x)
  exm : PySem.W.exmOne K (.ref (ga K x)) (.ref (ga K "Refusal")) = some true
theorem exF_ok {K : PySem.W.Frag} {h : Heap} {mg : Str → Option Value} (X : K.In h) (G : h.Ns mainGlobals mg) {x : Str} (c : exF K x = true) : ExFacts K mg x := by
  obtain ⟨c1, c⟩ := ba c
  obtain ⟨c2, c⟩ := ba c
  obtain ⟨c3, c⟩ := ba c
  obtain ⟨c4, c⟩ := ba c
  obtain ⟨c5, c⟩ := ba c
  obtain ⟨c6, c⟩ := ba c
  obtain ⟨c7, c⟩ := ba c
  obtain ⟨c8, c⟩ := ba c
  obtain ⟨c9, c⟩ := ba c
  obtain ⟨c10, c11⟩ := ba c
  exact ⟨PySem.W.mg_of X G (eqO_ok c1), ⟨exB_ok c2, eqO_ok c3, of_decide_eq_true c4, of_decide_eq_true c5, c6⟩, eqO_ok c7, eqO_ok c8, of_decide_eq_true c9, xfB_ok c10, of_decide_eq_true c11⟩
/-- a class asked for its __init__ -/
def clF (K : PySem.W.Frag) (x : Str) : Bool := eqO (PySem.W.specialIn K (.ref (ga K x)) "__getattribute__") (some (some (.builtin "type.__getattribute__"))) && (PySem.W.readsIn K (ga K x) (.type "type") &&
  ((match PySem.W.findCls K (.ref (ga K x)) (.type "type") "__init__" with
    | some (.val (.ref f)) => decide (f = ma K (ga K x) "__init__")
    | _ => false) && (PySem.W.keepIn K (.ref (ma K (ga K x) "__init__")) && (match PySem.W.findCls K (.type "Exception") (.type "type") "__init__" with
    | some (.val (.builtin n)) => decide (n = "Exception.__init__")
    | _ => false))))
structure ClFacts (K : PySem.W.Frag) (x : Str) : Prop where
  ga : PySem.W.specialIn K (.ref (ga K x)) "__getattribute__" = some (some (.builtin "type.__getattribute__"))
  rd : PySem.W.readsIn K (He.ga K x) (.type "type") = true
  fc : PySem.W.findCls K (.ref (He.ga K x)) (.type "type") "__init__" = some (.val (.ref (ma K (He.ga K x) "__init__")))
  kf : PySem.W.keepIn K (.ref (ma K (He.ga K x) "__init__")) = true
  eI : PySem.W.findCls K (.type "Exception") (.type "type") "__init__" = some (.val (.builtin "Exception.__init__"))
theorem clF_ok {K : PySem.W.Frag} {x : Str} (c : clF K x = true) : ClFacts K x := by
  obtain ⟨c1, c⟩ := ba c
  obtain ⟨c2, c⟩ := ba c
  obtain ⟨c3, c⟩ := ba c
  obtain ⟨c4, c5⟩ := ba c
  refine ⟨eqO_ok c1, c2, ?_, c4, ?_⟩
  · split at c3
    · rename_i f e
      rw [e, of_decide_eq_true c3]
    · cases c3
  · split at c5
    · rename_i n e
      rw [e, of_decide_eq_true c5]
    · cases c5
/-! ### the Hook: defs, facts, classes of errors, tuples -/
abbrev Al : Type := AlD × Bool
/-- fa: facts; fn: defs; ex: error classes; tu: tuples -/
structure Wish where
  fa : List Fa
  fn : List DefD
  ex : List Str
  tu : List (Str × List Dv)
def Wish.more (W : Wish) (K : PySem.W.Frag) : Bool := (W.ex.all fun x => exF K x) && (clF K "Refusal" && W.tu.all fun q => tupB K q.1 q.2)
def Wish.obs (W : Wish) (K : PySem.W.Frag) : Al := (obsD W.fa W.fn K, W.more K)
def Wish.val (W : Wish) : Al := (valD W.fn, true)
def Wish.Says (W : Wish) (K : PySem.W.Frag) : Prop := W.obs K = W.val
def Wish.obsG (W : Wish) (as : List Addr) (g : Addr → Option Obj) : Al := W.obs (frG g as)
def Wish.hook (W : Wish) (n : List Addr) : PySem.W.Hook where
  α := Al
  obs := fun s => W.obsG n s.heap.get?
  val := fun _ => W.val
  says := fun _ h => ∃ K : PySem.W.Frag, K.In h ∧ W.Says K
  of := fun _ _ e => ⟨_, frG_in, e⟩
  keeps := fun _ _ _ ⟨K, hK, c⟩ k => ⟨K, PySem.W.Frag.In.keeps hK k, c⟩
theorem Wish.Says.d {W : Wish} {K : PySem.W.Frag} (c : W.Says K) : SaysD W.fa W.fn K := congrArg (fun z : Al => z.1) c
theorem Wish.Says.m {W : Wish} {K : PySem.W.Frag} (c : W.Says K) : W.more K = true := congrArg (fun z : Al => z.2) c
theorem Wish.Says.exc {W : Wish} {K : PySem.W.Frag} (c : W.Says K) {x : Str} (h : x ∈ W.ex) : exF K x = true := List.all_eq_true.mp (ba c.m).1 x h
theorem Wish.Says.ref {W : Wish} {K : PySem.W.Frag} (c : W.Says K) : ClFacts K "Refusal" := clF_ok (ba (ba c.m).2).1
theorem Wish.Says.tup {W : Wish} {K : PySem.W.Frag} (c : W.Says K) {q : Str × List Dv} (h : q ∈ W.tu) (H : Hp) : SqT K H (ga K q.1) (q.2.map (Dv.v K)) := tupB_ok (List.all_eq_true.mp (ba (ba c.m).2).2 q h) H
end CqH
end
section
set_option Elab.async false
set_option linter.all false
set_option maxRecDepth 100000
set_option maxHeartbeats 0
namespace CqH
open PySem PySem.Spec PyProof.Rows L2 He CqR
def top (i : Nat) : Stmt := PySem.Challenge.pw_closedqueues_s01_answers.main.body.getD i (.Pass ⟨0, 0, 0, 0⟩)
def fnAt (x : Str) (i : Nat) : DefD := ⟨(x, none), x, x, defArgs (top i), defBody (top i), defScope (top i), [], []⟩
def mtAt (C m q : Str) (i j : Nat) : DefD := ⟨(C, some m), m, q, defArgs (inClass (top i) j), defBody (inClass (top i) j), defScope (inClass (top i) j), [], []⟩
def fn0 : List DefD := [fnAt "numbers_within" 1, fnAt "rest_of" 2, fnAt "with_customers" 3, fnAt "one_less" 4, fnAt "power" 5, fnAt "factorial" 6, fnAt "factorial_product" 7, fnAt "check_range" 25, fnAt "check_sizes" 26, fnAt "check_service" 27, fnAt "check_demand" 28, fnAt "check_population" 29, fnAt "check_numbers" 30, fnAt "check_sum" 31, fnAt "check_goal" 32, fnAt "fits" 33, fnAt "check_fits" 34, fnAt "most_fitting" 35, fnAt "is_proper" 39, fnAt "is_demanded" 40]
def fn1 : List DefD := [fnAt "require_proper" 41, fnAt "is_simple" 42, fnAt "with_demand" 43, fnAt "common_divisor" 45, fnAt "lowest_terms" 46, fnAt "plus" 47, fnAt "minus" 48, fnAt "total" 49, fnAt "is_less" 50, fnAt "multiplied" 51, fnAt "times" 52, fnAt "divided" 53, fnAt "service_product" 55, fnAt "demand_product" 56, fnAt "factor_scale" 57, fnAt "scaled_factor" 58, fnAt "factor_table" 59, fnAt "splits_within" 60, fnAt "joined" 61, fnAt "norm_table" 62]
def fn2 : List DefD := [fnAt "network_norm" 63, fnAt "throughput_in" 64, fnAt "class_throughput" 65, fnAt "all_throughputs" 66, fnAt "throughput_curve" 67, fnAt "marginal_weights" 68, fnAt "class_mean" 69, fnAt "station_mean" 70, fnAt "marginal_probability" 71, fnAt "sum_probability" 72, fnAt "rows_probability" 73, fnAt "fraction_answer" 75, fnAt "fractions_answer" 76, fnAt "arrival_sees" 78, fnAt "curve" 79, fnAt "fewest_customers" 80, fnAt "gain" 81, fnAt "mean_values" 83, fnAt "mva_throughput" 84, fnAt "means_table" 85]
def fn3 : List DefD := [fnAt "means_from" 86, fnAt "stays_at" 87, fnAt "stay_at" 88, fnAt "rate_of" 89, fnAt "norm" 91, fnAt "throughput" 92, fnAt "cycle" 93, fnAt "mean_number" 94, fnAt "station_number" 95, fnAt "residence" 96, fnAt "busy" 97, fnAt "utilization" 98, fnAt "utilization_of" 99, fnAt "bottleneck" 100, fnAt "marginal" 102, fnAt "number_probability" 103, fnAt "idle" 104, fnAt "state_probability" 105, fnAt "rows_of" 106, fnAt "check_sums" 107]
def fn4 : List DefD := [fnAt "create" 109, fnAt "set_station" 110, fnAt "set_demand" 111, fnAt "set_population" 112, fnAt "get_demand" 113, fnAt "get_population" 114, fnAt "summary" 115, fnAt "answers" 119, fnAt "call_length" 120, fnAt "answer_or_code" 121, fnAt "answer_to" 122, fnAt "settings_answer" 123, fnAt "measures_answer" 124, fnAt "probabilities_answer" 125, fnAt "analysis_answer" 126, fnAt "changes_answer" 127, mtAt "Refusal" "__init__" "Refusal.__init__" 9 0, mtAt "NoInstance" "__init__" "NoInstance.__init__" 10 0, mtAt "NoSuchStationOrClass" "__init__" "NoSuchStationOrClass.__init__" 11 0, mtAt "NoCustomers" "__init__" "NoCustomers.__init__" 12 0]
def fn5 : List DefD := [mtAt "OutOfRange" "__init__" "OutOfRange.__init__" 13 0, mtAt "PopulationsTooLarge" "__init__" "PopulationsTooLarge.__init__" 14 0, mtAt "NoResult" "__init__" "NoResult.__init__" 15 0, mtAt "Station" "__init__" "Station.__init__" 37 0, mtAt "Network" "__init__" "Network.__init__" 38 0, mtAt "Network" "check_exists" "Network.check_exists" 38 1, mtAt "Network" "check_station" "Network.check_station" 38 2, mtAt "Network" "check_class" "Network.check_class" 38 3, mtAt "Network" "check_customers" "Network.check_customers" 38 4, mtAt "Network" "check_queue" "Network.check_queue" 38 5, mtAt "Network" "check_proper" "Network.check_proper" 38 6, mtAt "Network" "check_simple" "Network.check_simple" 38 7]
def fnL : List DefD := fn0 ++ (fn1 ++ (fn2 ++ (fn3 ++ (fn4 ++ (fn5)))))
def fa0 : List Fa := [.glo "numbers_within", .glo "rest_of", .glo "with_customers", .glo "one_less", .glo "power", .glo "factorial", .glo "factorial_product", .glo "check_range", .glo "check_sizes", .glo "check_service", .glo "check_demand", .glo "check_population", .glo "check_numbers", .glo "check_sum", .glo "check_goal", .glo "fits", .glo "check_fits", .glo "most_fitting", .glo "is_proper", .glo "is_demanded"]
def fa1 : List Fa := [.glo "require_proper", .glo "is_simple", .glo "with_demand", .glo "common_divisor", .glo "lowest_terms", .glo "plus", .glo "minus", .glo "total", .glo "is_less", .glo "multiplied", .glo "times", .glo "divided", .glo "service_product", .glo "demand_product", .glo "factor_scale", .glo "scaled_factor", .glo "factor_table", .glo "splits_within", .glo "joined", .glo "norm_table"]
def fa2 : List Fa := [.glo "network_norm", .glo "throughput_in", .glo "class_throughput", .glo "all_throughputs", .glo "throughput_curve", .glo "marginal_weights", .glo "class_mean", .glo "station_mean", .glo "marginal_probability", .glo "sum_probability", .glo "rows_probability", .glo "fraction_answer", .glo "fractions_answer", .glo "arrival_sees", .glo "curve", .glo "fewest_customers", .glo "gain", .glo "mean_values", .glo "mva_throughput", .glo "means_table"]
def fa3 : List Fa := [.glo "means_from", .glo "stays_at", .glo "stay_at", .glo "rate_of", .glo "norm", .glo "throughput", .glo "cycle", .glo "mean_number", .glo "station_number", .glo "residence", .glo "busy", .glo "utilization", .glo "utilization_of", .glo "bottleneck", .glo "marginal", .glo "number_probability", .glo "idle", .glo "state_probability", .glo "rows_of", .glo "check_sums"]
def fa4 : List Fa := [.glo "create", .glo "set_station", .glo "set_demand", .glo "set_population", .glo "get_demand", .glo "get_population", .glo "summary", .glo "answers", .glo "call_length", .glo "answer_or_code", .glo "answer_to", .glo "settings_answer", .glo "measures_answer", .glo "probabilities_answer", .glo "analysis_answer", .glo "changes_answer", .glo "Station", .glo "Network", .cls "Station", .cls "Network"]
def fa5 : List Fa := [.mkr "Station", .mkr "Network", .noat "Station" "is_delay", .noat "Station" "servers", .noat "Station" "demands", .noat "Network" "stations", .noat "Network" "populations", .meth "Network" "check_exists", .meth "Network" "check_station", .meth "Network" "check_class", .meth "Network" "check_customers", .meth "Network" "check_queue", .meth "Network" "check_proper", .meth "Network" "check_simple", .int "MOST_STATIONS" 5, .int "MOST_CLASSES" 3, .int "MOST_SERVERS" 20, .int "MOST_DEMAND" 1000, .int "MOST_POPULATION" 12, .int "MOST_CUSTOMERS" 100]
def fa6 : List Fa := [.int "MOST_TERM" 1000000, .int "MOST_PRODUCT" 40, .free "len", .free "range", .free "enumerate", .free "zip", .free "sum", .free "min", .free "max", .free "list", .free "tuple", .free "Exception", .glo "ARGUMENT_COUNTS", .glo "CALLS_WITH_ROW"]
def faL : List Fa := fa0 ++ (fa1 ++ (fa2 ++ (fa3 ++ (fa4 ++ (fa5 ++ (fa6))))))
def exL : List Str := ["Refusal", "NoInstance", "NoSuchStationOrClass", "NoCustomers", "OutOfRange", "PopulationsTooLarge", "NoResult"]
def tuL : List (Str × List Dv) := [("ARGUMENT_COUNTS", [.int 2, .int 3, .int 3, .int 2, .int 2, .int 1, .int 0, .int 1, .int 1, .int 2, .int 1, .int 2, .int 2, .int 1, .int 1, .int 2, .int 1, .int 0, .int 0, .int 1, .int 2, .int 2, .int 3, .int 3, .int 0, .int 0]), ("CALLS_WITH_ROW", [.int 14, .int 17])]
def wish : Wish := ⟨faL, fnL, exL, tuL⟩
def lo0 : List PySem.Str := ["numbers_within", "rest_of", "with_customers", "one_less", "power", "factorial", "factorial_product", "Refusal", "NoInstance", "NoSuchStationOrClass", "NoCustomers", "OutOfRange", "PopulationsTooLarge", "NoResult", "MOST_STATIONS", "MOST_CLASSES", "MOST_SERVERS", "MOST_DEMAND", "MOST_POPULATION", "MOST_CUSTOMERS", "MOST_TERM", "MOST_PRODUCT", "check_range", "check_sizes", "check_service", "check_demand", "check_population", "check_numbers", "check_sum", "check_goal"]
def lo1 : List PySem.Str := ["fits", "check_fits", "most_fitting", "Station", "Network", "is_proper", "is_demanded", "require_proper", "is_simple", "with_demand", "common_divisor", "lowest_terms", "plus", "minus", "total", "is_less", "multiplied", "times", "divided", "service_product", "demand_product", "factor_scale", "scaled_factor", "factor_table", "splits_within", "joined", "norm_table", "network_norm", "throughput_in", "class_throughput"]
def lo2 : List PySem.Str := ["all_throughputs", "throughput_curve", "marginal_weights", "class_mean", "station_mean", "marginal_probability", "sum_probability", "rows_probability", "fraction_answer", "fractions_answer", "arrival_sees", "curve", "fewest_customers", "gain", "mean_values", "mva_throughput", "means_table", "means_from", "stays_at", "stay_at", "rate_of", "norm", "throughput", "cycle", "mean_number", "station_number", "residence", "busy", "utilization", "utilization_of"]
def lo3 : List PySem.Str := ["bottleneck", "marginal", "number_probability", "idle", "state_probability", "rows_of", "check_sums", "create", "set_station", "set_demand", "set_population", "get_demand", "get_population", "summary", "ARGUMENT_COUNTS", "CALLS_WITH_ROW", "call_length", "answer_or_code", "answer_to", "settings_answer", "measures_answer", "probabilities_answer", "analysis_answer", "changes_answer"]
def loose : List PySem.Str := lo0 ++ (lo1 ++ (lo2 ++ (lo3)))

abbrev R : PySem.W.OpenSpec := PySem.Challenge.rw_closedqueues_s01_answers
abbrev qv : Program := PySem.W.view R.prog [119]
def ad0 : List Addr := [3, 2, 6, 4, 21, 20, 26, 25, 33, 32, 40, 39, 47, 46, 54, 53, 61, 60, 78, 77, 75, 74, 76, 79, 98, 97, 95, 94, 96, 117, 116, 114, 113, 115, 136, 135, 133, 132, 134, 155]
def ad1 : List Addr := [154, 152, 151, 153, 174, 173, 171, 170, 172, 193, 192, 190, 189, 191, 202, 201, 209, 208, 216, 215, 223, 222, 230, 229, 237, 236, 244, 243, 251, 250, 258, 257, 265, 264, 272, 271, 289, 288, 286, 285]
def ad2 : List Addr := [287, 290, 291, 359, 358, 307, 306, 314, 313, 321, 320, 328, 327, 335, 334, 342, 341, 349, 348, 356, 355, 357, 360, 361, 370, 369, 377, 376, 384, 383, 391, 390, 398, 397, 405, 404, 412, 411, 419, 418]
def ad3 : List Addr := [426, 425, 433, 432, 440, 439, 447, 446, 454, 453, 461, 460, 468, 467, 475, 474, 482, 481, 489, 488, 496, 495, 501, 500, 506, 505, 513, 512, 520, 519, 527, 526, 534, 533, 539, 538, 546, 545, 553, 552]
def ad4 : List Addr := [558, 557, 563, 562, 570, 569, 575, 574, 582, 581, 589, 588, 596, 595, 603, 602, 610, 609, 617, 616, 622, 621, 629, 628, 636, 635, 643, 642, 648, 647, 653, 652, 660, 659, 667, 666, 674, 673, 681, 680]
def ad5 : List Addr := [688, 687, 695, 694, 702, 701, 709, 708, 716, 715, 723, 722, 728, 727, 733, 732, 740, 739, 747, 746, 754, 753, 761, 760, 766, 765, 771, 770, 776, 775, 783, 782, 790, 789, 797, 796, 804, 803, 811, 810]
def ad6 : List Addr := [818, 817, 819, 820, 827, 826, 834, 833, 841, 840, 848, 847, 855, 854, 862, 861, 869, 868, 876, 875, 883, 882]
def addrs : List Addr := ad0 ++ (ad1 ++ (ad2 ++ (ad3 ++ (ad4 ++ (ad5 ++ (ad6))))))
abbrev hk : PySem.W.Hook := wish.hook addrs
def ob (s : PySem.W.SharedT) : Al := wish.obsG addrs (HeadRun.getT s)
theorem ob_eq (s : PySem.W.SharedT) : ob s = hk.obs s.abs := by
  have e : HeadRun.getT s = s.abs.heap.get? := funext (HeadRun.getT_eq s)
  show wish.obsG addrs (HeadRun.getT s) = wish.obsG addrs s.abs.heap.get?
  rw [e]

end CqH
namespace CqH
open PySem PySem.W PySem.Calls PyProof.Rows
theorem run_a (w : World) (os : OsState) : (HeadRun.endF (HeadRun.stepQ (HeadRun.denQ HeadRun.tabQ) R.prog w) 6000 R.prog w os).map (fun s => HeadRun.looksF R.prog (boot_heap w.params) s.abs) = some true := by
  kernel_rfl
theorem run_b (w : World) (os : OsState) : (HeadRun.endF (HeadRun.stepQ (HeadRun.denQ HeadRun.tabQ) R.prog w) 6000 R.prog w os).map (fun s => HeadRun.seenQ qv loose (importedModules R.prog.main.body) (fun s => xlAt qv [] s && recOk [] s) s.abs) = some (openGood qv loose) := by
  kernel_rfl
theorem run_c (w : World) (os : OsState) : (HeadRun.endF (HeadRun.stepQ (HeadRun.denQ HeadRun.tabQ) R.prog w) 6000 R.prog w os).map (fun s => ob s) = some wish.val := by
  kernel_rfl
theorem map3 {A B C D : Type} {o : Option A} {f : A → B} {g : A → C} {h : A → D} {b : B} {c : C} {d : D} (h1 : o.map f = some b) (h2 : o.map g = some c) (h3 : o.map h = some d) : o.map (fun s => (f s, g s, h s)) = some (b, c, d) := by
  cases o with
  | none => cases h1
  | some a =>
    have e1 : f a = b := Option.some.inj h1
    have e2 : g a = c := Option.some.inj h2
    have e3 : h a = d := Option.some.inj h3
    show some (f a, g a, h a) = some (b, c, d)
    rw [e1, e2, e3]
theorem run (w : World) : HeadRun.RunEqS R qv hk ob 6000 loose w := fun os => map3 (run_a w os) (run_b w os) (run_c w os)
end CqH
end
section
set_option autoImplicit false
namespace CQ
open Lrx1 (Fraction)
/-- a rational as a fraction of the document -/
def fr (q : Rat) : Fraction := ⟨q.num, q.den⟩
theorem reduce_fr (n : Int) (d : Nat) : Lrx1.reduce n d = fr (mkRat n d) := by
  unfold Lrx1.reduce fr
  by_cases h : d = 0
  · subst h; simp
  · have e : mkRat n d = Rat.normalize n d h := (Rat.normalize_eq_mkRat h).symm
    rw [if_neg h, e, Rat.normalize_eq]
theorem fr_inj {a b : Rat} (h : fr a = fr b) : a = b := by
  unfold fr at h
  injection h with h1 h2
  exact Rat.ext h1 h2
theorem zero_fr : Lrx1.zero = fr 0 := rfl
theorem one_fr : Lrx1.one = fr 1 := rfl
theorem whole_fr (n : Int) : Lrx1.whole n = fr n := rfl
theorem add_fr (a b : Rat) : Lrx1.add (fr a) (fr b) = fr (a + b) := by
  unfold Lrx1.add
  rw [reduce_fr, Rat.add_def']
  rfl
theorem sub_fr (a b : Rat) : Lrx1.sub (fr a) (fr b) = fr (a - b) := by
  unfold Lrx1.sub
  rw [reduce_fr, Rat.sub_def']
  rfl
theorem mul_fr (a b : Rat) : Lrx1.mul (fr a) (fr b) = fr (a * b) := by
  unfold Lrx1.mul
  rw [reduce_fr, Rat.mul_def']
  rfl
theorem num_over (a : Rat) : a = (a.num : Rat) / (a.den : Rat) := by
  rw [← Rat.mkRat_eq_div, Rat.mkRat_self]
theorem divide_fr (a b : Rat) : Lrx1.divide (fr a) (fr b) = fr (a / b) := by
  unfold Lrx1.divide
  rw [reduce_fr]
  congr 1
  show mkRat (if b.num < 0 then -(a.num * (b.den : Int)) else a.num * (b.den : Int)) (a.den * b.num.natAbs) = a / b
  rw [Rat.mkRat_eq_div]
  have hb := num_over b
  have ha := num_over a
  have h1 : (a.den : Rat) ≠ 0 := by
    have := a.den_nz
    intro h; exact this (Rat.natCast_eq_zero_iff.mp h)
  have h2 : (b.den : Rat) ≠ 0 := by
    have := b.den_nz
    intro h; exact this (Rat.natCast_eq_zero_iff.mp h)
  by_cases hz : b.num = 0
  · have : b = 0 := Rat.num_eq_zero.mp hz
    subst this
    simp
    grind
  · have hz' : (b.num : Rat) ≠ 0 := fun h => hz (Rat.intCast_eq_zero_iff.mp h)
    by_cases hn : b.num < 0
    · rw [if_pos hn]
      have e : ((a.den * b.num.natAbs : Nat) : Rat) = -((a.den : Rat) * (b.num : Rat)) := by
        have e1 : ((b.num.natAbs : Nat) : Int) = - b.num := by omega
        rw [Rat.natCast_mul, ← Rat.intCast_natCast b.num.natAbs, e1, Rat.intCast_neg]
        grind
      rw [e, Rat.intCast_neg, Rat.intCast_mul, Rat.intCast_natCast]
      grind
    · rw [if_neg hn]
      have e : ((a.den * b.num.natAbs : Nat) : Rat) = ((a.den : Rat) * (b.num : Rat)) := by
        have e1 : ((b.num.natAbs : Nat) : Int) = b.num := by omega
        rw [Rat.natCast_mul, ← Rat.intCast_natCast b.num.natAbs, e1]
      rw [e, Rat.intCast_mul, Rat.intCast_natCast]
      grind
theorem lt_fr (a b : Rat) : Lrx1.lt (fr a) (fr b) = decide (a < b) := by
  unfold Lrx1.lt fr
  exact decide_eq_decide.mpr (Rat.lt_iff a b).symm
theorem le_fr (a b : Rat) : Lrx1.le (fr a) (fr b) = decide (a ≤ b) := by
  unfold Lrx1.le fr
  exact decide_eq_decide.mpr (Rat.le_iff a b).symm
/-- sums -/
def rs : List Rat → Rat
  | [] => 0
  | x :: r => x + rs r
def ns : List Nat → Nat
  | [] => 0
  | x :: r => x + ns r
theorem rs_append (l m : List Rat) : rs (l ++ m) = rs l + rs m := by
  induction l with
  | nil => simp [rs, Rat.zero_add]
  | cons x r ih => simp only [List.cons_append, rs, ih]; grind
theorem foldl_add_fr (l : List Rat) (a : Rat) : (l.map fr).foldl Lrx1.add (fr a) = fr (a + rs l) := by
  induction l generalizing a with
  | nil => simp [rs, Rat.add_zero]
  | cons x r ih =>
    simp only [List.map_cons, List.foldl_cons, add_fr, ih, rs]
    congr 1; grind
theorem sum_fr (l : List Rat) : Lrx1.sum (l.map fr) = fr (rs l) := by
  unfold Lrx1.sum
  rw [zero_fr, foldl_add_fr, Rat.zero_add]
theorem sum_map_fr {α : Type} (l : List α) (f : α → Fraction) (g : α → Rat) (h : ∀ x ∈ l, f x = fr (g x)) : Lrx1.sum (l.map f) = fr (rs (l.map g)) := by
  rw [← sum_fr, List.map_map]
  congr 1
  exact List.map_congr_left h
theorem ns_cast (l : List Nat) : ((ns l : Nat) : Rat) = rs (l.map fun (x : Nat) => ((x : Nat) : Rat)) := by
  induction l with
  | nil => rfl
  | cons x r ih => simp only [ns, List.map_cons, rs, Rat.natCast_add, ih]
theorem rs_mul {α : Type} (c : Rat) (l : List α) (f : α → Rat) : rs (l.map fun x => c * f x) = c * rs (l.map f) := by
  induction l with
  | nil => simp [rs]
  | cons x r ih => simp only [List.map_cons, rs, ih]; grind
theorem rs_add {α : Type} (l : List α) (f g : α → Rat) : rs (l.map fun x => f x + g x) = rs (l.map f) + rs (l.map g) := by
  induction l with
  | nil => simp only [List.map_nil, rs]; grind
  | cons x r ih => simp only [List.map_cons, rs, ih]; grind
theorem rs_zero {α : Type} (l : List α) : rs (l.map fun _ => (0 : Rat)) = 0 := by
  induction l with
  | nil => rfl
  | cons x r ih => simp only [List.map_cons, rs, ih]; grind
theorem rs_nonneg {α : Type} (l : List α) (f : α → Rat) (h : ∀ x ∈ l, 0 ≤ f x) : 0 ≤ rs (l.map f) := by
  induction l with
  | nil => exact Rat.le_refl
  | cons x r ih =>
    have h1 := h x (List.mem_cons_self ..)
    have h2 := ih fun y hy => h y (List.mem_cons_of_mem _ hy)
    simp only [List.map_cons, rs]; grind
theorem rs_pos {α : Type} (l : List α) (f : α → Rat) (h : ∀ x ∈ l, 0 ≤ f x) {y : α} (hy : y ∈ l) (hp : 0 < f y) : 0 < rs (l.map f) := by
  induction l with
  | nil => cases hy
  | cons x r ih =>
    have h1 := h x (List.mem_cons_self ..)
    have h2 : 0 ≤ rs (r.map f) := rs_nonneg r f fun y hy => h y (List.mem_cons_of_mem _ hy)
    simp only [List.map_cons, rs]
    rcases List.mem_cons.mp hy with rfl | hy
    · grind
    · have := ih (fun y hy => h y (List.mem_cons_of_mem _ hy)) hy
      grind
theorem rs_swap {α β : Type} (l : List α) (m : List β) (f : α → β → Rat) : rs (l.map fun x => rs (m.map fun y => f x y)) = rs (m.map fun y => rs (l.map fun x => f x y)) := by
  induction l with
  | nil => simp only [List.map_nil, rs]; exact (rs_zero m).symm
  | cons x r ih => simp only [List.map_cons, rs, ih, rs_add]
theorem rs_flatMap {α β : Type} (l : List α) (g : α → List β) (f : β → Rat) : rs ((l.flatMap g).map f) = rs (l.map fun x => rs ((g x).map f)) := by
  induction l with
  | nil => rfl
  | cons x r ih => simp only [List.flatMap_cons, List.map_append, rs_append, ih, List.map_cons, rs]
theorem rs_congr {α : Type} (l : List α) (f g : α → Rat) (h : ∀ x ∈ l, f x = g x) : rs (l.map f) = rs (l.map g) := by
  rw [List.map_congr_left h]
theorem rs_filter {α : Type} (l : List α) (p : α → Bool) (f : α → Rat) : rs ((l.filter p).map f) = rs (l.map fun x => if p x then f x else 0) := by
  induction l with
  | nil => rfl
  | cons x r ih =>
    cases h : p x
    · rw [List.filter_cons_of_neg (by simp [h])]
      simp only [List.map_cons, rs, h, ih]; simp [Rat.zero_add]
    · rw [List.filter_cons_of_pos h]
      simp only [List.map_cons, rs, h, ih]; simp
end CQ
end
section
set_option autoImplicit false
namespace CQ
open Lrx5 (below minus total count without isNothing)
/-- numbers that are nowhere greater -/
def leL : List Nat → List Nat → Prop
  | [], [] => True
  | a :: m, b :: n => a ≤ b ∧ leL m n
  | _, _ => False
instance leL_dec : (m n : List Nat) → Decidable (leL m n)
  | [], [] => isTrue True.intro
  | a :: m, b :: n => by
    have := leL_dec m n
    unfold leL
    exact inferInstance
  | [], _ :: _ => isFalse id
  | _ :: _, [] => isFalse id
theorem mem_below : ∀ {n m : List Nat}, m ∈ below n ↔ leL m n
  | [], m => by cases m <;> simp [below, leL]
  | b :: n, m => by
    unfold below
    rw [List.mem_flatMap]
    constructor
    · rintro ⟨k, hk, h⟩
      obtain ⟨t, ht, rfl⟩ := List.mem_map.mp h
      have := List.mem_range.mp hk
      exact ⟨by omega, mem_below.mp ht⟩
    · intro h
      cases m with
      | nil => cases h
      | cons a m =>
        obtain ⟨h1, h2⟩ := h
        exact ⟨a, List.mem_range.mpr (by omega), List.mem_map.mpr ⟨m, mem_below.mpr h2, rfl⟩⟩
theorem leL_len : ∀ {m n : List Nat}, leL m n → m.length = n.length
  | [], [], _ => rfl
  | _ :: _, _ :: _, h => by simp [leL_len h.2]
theorem leL_refl : ∀ n : List Nat, leL n n
  | [] => True.intro
  | _ :: n => ⟨Nat.le_refl _, leL_refl n⟩
theorem leL_trans : ∀ {a b c : List Nat}, leL a b → leL b c → leL a c
  | [], [], [], _, _ => True.intro
  | _ :: _, _ :: _, _ :: _, h, k => ⟨Nat.le_trans h.1 k.1, leL_trans h.2 k.2⟩
theorem minus_cons (a b : Nat) (n m : List Nat) : minus (a :: n) (b :: m) = (a - b) :: minus n m := rfl
theorem minus_nil : minus [] [] = [] := rfl
theorem leL_minus : ∀ {m n : List Nat}, leL m n → leL (minus n m) n
  | [], [], _ => True.intro
  | _ :: _, _ :: _, h => by rw [minus_cons]; exact ⟨Nat.sub_le _ _, leL_minus h.2⟩
theorem leL_minus_comm : ∀ {n m k : List Nat}, leL m n → leL k n → (leL k (minus n m) ↔ leL m (minus n k))
  | [], [], [], _, _ => Iff.rfl
  | a :: n, b :: m, c :: k, h, h' => by
    simp only [minus_cons, leL]
    have := leL_minus_comm h.2 h'.2
    have h1 := h.1
    have h2 := h'.1
    rw [this]
    constructor
    · rintro ⟨x, y⟩; exact ⟨by omega, y⟩
    · rintro ⟨x, y⟩; exact ⟨by omega, y⟩
theorem minus_minus : ∀ {n m k : List Nat}, leL m n → leL k n → minus (minus n m) k = minus (minus n k) m
  | [], [], [], _, _ => rfl
  | a :: n, b :: m, c :: k, h, h' => by
    simp only [minus_cons, minus_minus h.2 h'.2]
    congr 1; omega
def S (n : List Nat) (f : List Nat → Rat) : Rat := rs ((below n).map f)
theorem S_nil (f : List Nat → Rat) : S [] f = f [] := by simp [S, below, rs]; grind
theorem S_cons (a : Nat) (n : List Nat) (f : List Nat → Rat) : S (a :: n) f = rs ((List.range (a + 1)).map fun k => S n fun t => f (k :: t)) := by
  unfold S
  rw [below, rs_flatMap]
  refine rs_congr _ _ _ fun k _ => ?_
  rw [List.map_map]
  rfl
theorem S_congr {n : List Nat} {f g : List Nat → Rat} (h : ∀ m, leL m n → f m = g m) : S n f = S n g := rs_congr _ _ _ fun m hm => h m (mem_below.mp hm)
theorem S_mul (n : List Nat) (c : Rat) (f : List Nat → Rat) : S n (fun m => c * f m) = c * S n f := rs_mul c _ f
theorem S_add (n : List Nat) (f g : List Nat → Rat) : S n (fun m => f m + g m) = S n f + S n g := rs_add _ f g
theorem S_zero (n : List Nat) : S n (fun _ => 0) = 0 := rs_zero _
theorem S_swap (n k : List Nat) (f : List Nat → List Nat → Rat) : S n (fun x => S k fun y => f x y) = S k fun y => S n fun x => f x y := rs_swap _ _ f
theorem S_nonneg {n : List Nat} {f : List Nat → Rat} (h : ∀ m, leL m n → 0 ≤ f m) : 0 ≤ S n f := rs_nonneg _ _ fun m hm => h m (mem_below.mp hm)
theorem S_pos {n : List Nat} {f : List Nat → Rat} (h : ∀ m, leL m n → 0 ≤ f m) {y : List Nat} (hy : leL y n) (hp : 0 < f y) : 0 < S n f := rs_pos _ _ (fun m hm => h m (mem_below.mp hm)) (mem_below.mpr hy) hp
theorem range_le (f : Nat → Rat) (a : Nat) : ∀ b, a ≤ b → rs ((List.range (a + 1)).map f) = rs ((List.range (b + 1)).map fun k => if k ≤ a then f k else 0)
  | b, h => by
    by_cases e : a = b
    · subst e
      refine rs_congr _ _ _ fun k hk => ?_
      have := List.mem_range.mp hk
      rw [if_pos (by omega)]
    · cases b with
      | zero => omega
      | succ b =>
        rw [List.range_succ (n := b + 1), List.map_append, rs_append, ← range_le f a b (by omega)]
        simp only [List.map_cons, List.map_nil, rs]
        rw [if_neg (by omega)]
        grind
theorem S_restrict : ∀ {n n' : List Nat}, leL n' n → ∀ f : List Nat → Rat, S n' f = S n fun m => if leL m n' then f m else 0
  | [], [], _, f => by rw [S_nil, S_nil, if_pos (show leL [] [] from True.intro)]
  | b :: n, a :: n', h, f => by
    rw [S_cons, S_cons, range_le _ a b h.1]
    refine rs_congr _ _ _ fun k _ => ?_
    by_cases hk : k ≤ a
    · rw [if_pos hk, S_restrict h.2]
      refine S_congr fun m _ => ?_
      by_cases hm : leL m n'
      · rw [if_pos hm, if_pos (show leL (k :: m) (a :: n') from ⟨hk, hm⟩)]
      · rw [if_neg hm, if_neg (fun z : leL (k :: m) (a :: n') => hm z.2)]
    · rw [if_neg hk]
      refine ((S_congr (g := fun _ => 0) fun m _ => ?_).trans (S_zero n)).symm
      rw [if_neg (fun z : leL (k :: m) (a :: n') => hk z.1)]
theorem S_pairs (n : List Nat) (F : List Nat → List Nat → Rat) : S n (fun m => S (minus n m) fun k => F m k) = S n (fun k => S (minus n k) fun m => F m k) := by
  have e : ∀ G : List Nat → List Nat → Rat, S n (fun m => S (minus n m) fun k => G m k) = S n fun m => S n fun k => if leL k (minus n m) then G m k else 0 := fun G =>
    S_congr fun m hm => S_restrict (leL_minus hm) _
  rw [e F, e fun k m => F m k, S_swap]
  refine S_congr fun k hk => S_congr fun m hm => ?_
  by_cases h : leL k (minus n m)
  · rw [if_pos h, if_pos ((leL_minus_comm hm hk).mp h)]
  · rw [if_neg h, if_neg fun z => h ((leL_minus_comm hm hk).mpr z)]
/-- convolution -/
def conv (f g : List Nat → Rat) (n : List Nat) : Rat := S n fun m => f m * g (minus n m)
theorem conv_left_comm (f g h : List Nat → Rat) : conv f (conv g h) = conv g (conv f h) := by
  funext n
  unfold conv
  have e : ∀ f g : List Nat → Rat, S n (fun m => f m * S (minus n m) fun k => g k * h (minus (minus n m) k)) = S n fun m => S (minus n m) fun k => f m * g k * h (minus (minus n m) k) := fun f g =>
    S_congr fun m _ => by rw [← S_mul]; exact S_congr fun k _ => by grind
  rw [e, e, S_pairs]
  refine S_congr fun k hk => S_congr fun m hm => ?_
  have hm' : leL m n := leL_trans hm (leL_minus hk)
  rw [minus_minus hm' hk]
  grind
def delta (n : List Nat) : Rat := if isNothing n then 1 else 0
/-- from the right, and from the left -/
def nR (f : List (List Nat → Rat)) : List Nat → Rat := match f with
  | [] => delta
  | a :: r => conv a (nR r)
def nL (f : List (List Nat → Rat)) (g : List Nat → Rat) : List Nat → Rat := match f with
  | [] => g
  | a :: r => nL r (conv a g)
theorem nL_conv (a : List Nat → Rat) : ∀ (f : List (List Nat → Rat)) (g : List Nat → Rat), nL f (conv a g) = conv a (nL f g)
  | [], _ => rfl
  | b :: r, g => by
    show nL r (conv b (conv a g)) = conv a (nL r (conv b g))
    rw [conv_left_comm, nL_conv a r]
theorem nL_nR : ∀ f : List (List Nat → Rat), nL f delta = nR f
  | [] => rfl
  | a :: r => by
    show nL r (conv a delta) = conv a (nR r)
    rw [nL_conv, nL_nR r]
end CQ
end
section
set_option autoImplicit false
namespace CQ
open Lrx5 (below minus total count without isNothing Station demand factorial factor normAt normsOf Norms)
/-- products of powers, of factorials, of speeds -/
def dprod : List Nat → List Nat → Nat
  | d :: ds, k :: ks => d ^ k * dprod ds ks
  | _, _ => 1
def fprod : List Nat → Nat
  | [] => 1
  | k :: ks => factorial k * fprod ks
def speeds (c : Nat) : Nat → Nat
  | 0 => 1
  | t + 1 => speeds c t * min (t + 1) c
def tot : List Nat → Nat
  | [] => 0
  | k :: ks => k + tot ks
theorem foldl_add (l : List Nat) (a : Nat) : l.foldl (fun (a b : Nat) => a + b) a = a + tot l := by
  induction l generalizing a with
  | nil => rfl
  | cons x r ih => rw [List.foldl_cons, ih, tot]; omega
theorem total_eq (l : List Nat) : total l = tot l := by
  unfold total
  rw [foldl_add]; omega
theorem foldl_fact (l : List Nat) (a : Nat) : l.foldl (fun (p k : Nat) => p * factorial k) a = a * fprod l := by
  induction l generalizing a with
  | nil => simp [fprod]
  | cons x r ih => rw [List.foldl_cons, ih, fprod, Nat.mul_assoc]
theorem foldl_speeds (c t : Nat) : (List.range t).foldl (fun (p k : Nat) => p * min (k + 1) c) 1 = speeds c t := by
  induction t with
  | zero => rfl
  | succ t ih => rw [List.range_succ, List.foldl_append, ih]; rfl
theorem foldl_dem : ∀ (n : List Nat) (ds : List Nat) (a : Nat), ds.length = n.length →
    (List.range n.length).foldl (fun (p r : Nat) => p * ds.getD r 0 ^ count n r) a = a * dprod ds n
  | [], [], a, _ => by simp [dprod]
  | k :: n, d :: ds, a, h => by
    have ih := foldl_dem n ds (a * d ^ k) (by simpa using h)
    rw [List.length_cons, List.range_succ_eq_map, List.foldl_cons, List.foldl_map]
    show (List.range n.length).foldl (fun (p r : Nat) => p * ds.getD r 0 ^ count n r) (a * d ^ k) = _
    rw [ih, dprod, Nat.mul_assoc]
theorem fact_pos : ∀ n, 0 < factorial n
  | 0 => Nat.one_pos
  | n + 1 => Nat.mul_pos (Nat.succ_pos n) (fact_pos n)
theorem fprod_pos : ∀ n, 0 < fprod n
  | [] => Nat.one_pos
  | k :: n => Nat.mul_pos (fact_pos k) (fprod_pos n)
theorem speeds_pos {c : Nat} (hc : 0 < c) : ∀ t, 0 < speeds c t
  | 0 => Nat.one_pos
  | t + 1 => Nat.mul_pos (speeds_pos hc t) (by omega)
/-- a station's factor -/
def fac (s : Station) (m : List Nat) : Rat :=
  if s.isDelay then ((dprod s.demands m : Nat) : Rat) / ((fprod m : Nat) : Rat) else ((factorial (tot m) * dprod s.demands m : Nat) : Rat) / ((fprod m * speeds s.servers (tot m) : Nat) : Rat)
theorem factor_fr {s : Station} {m : List Nat} (h : s.demands.length = m.length) : factor s m = fr (fac s m) := by
  unfold factor fac
  simp only [total_eq]
  have e1 : (List.range m.length).foldl (fun (p r : Nat) => p * demand s r ^ count m r) 1 = dprod s.demands m := by
    have := foldl_dem m s.demands 1 h
    rw [Nat.one_mul] at this
    exact this
  have e2 : m.foldl (fun (p k : Nat) => p * factorial k) 1 = fprod m := by rw [foldl_fact, Nat.one_mul]
  rw [e1, e2, foldl_speeds]
  cases s.isDelay
  · rw [if_neg Bool.false_ne_true, if_neg Bool.false_ne_true, reduce_fr, Rat.mkRat_eq_div, Rat.intCast_natCast]
  · rw [if_pos rfl, if_pos rfl, reduce_fr, Rat.mkRat_eq_div, Rat.intCast_natCast]
theorem natCast_ne {n : Nat} (h : 0 < n) : (n : Rat) ≠ 0 := fun z => by
  have := Rat.natCast_eq_zero_iff.mp z
  omega
theorem div_nonneg {a b : Rat} (ha : 0 ≤ a) (hb : 0 ≤ b) : 0 ≤ a / b := by
  by_cases h : b = 0
  · subst h; rw [Rat.div_def, Rat.inv_zero, Rat.mul_zero]; exact Rat.le_refl
  · have hp : 0 < b := by grind
    have := (Rat.inv_pos (a := b)).mpr hp
    rw [Rat.div_def]
    exact Rat.mul_nonneg ha (Rat.le_of_lt this)
theorem div_pos {a b : Rat} (ha : 0 < a) (hb : 0 < b) : 0 < a / b := by
  rw [Rat.div_def]
  exact Rat.mul_pos ha ((Rat.inv_pos (a := b)).mpr hb)
theorem fac_nonneg (s : Station) (m : List Nat) : 0 ≤ fac s m := by
  unfold fac
  split
  · exact div_nonneg (Rat.natCast_nonneg ..) (Rat.natCast_nonneg ..)
  · exact div_nonneg (Rat.natCast_nonneg ..) (Rat.natCast_nonneg ..)
theorem fac_pos {s : Station} {m : List Nat} (hs : 0 < s.servers) (hd : 0 < dprod s.demands m) : 0 < fac s m := by
  unfold fac
  split
  · exact div_pos (Rat.natCast_pos.mpr hd) (Rat.natCast_pos.mpr (fprod_pos m))
  · exact div_pos (Rat.natCast_pos.mpr (Nat.mul_pos (fact_pos _) hd)) (Rat.natCast_pos.mpr (Nat.mul_pos (fprod_pos m) (speeds_pos hs _)))
/-- norms -/
def nrm (sts : List Station) : List Nat → Rat := nR (sts.map fac)
theorem nrm_cons (s : Station) (r : List Station) (n : List Nat) : nrm (s :: r) n = conv (fac s) (nrm r) n := rfl
theorem normAt_map (l : List (List Nat)) (f : List Nat → Lrx1.Fraction) (n : List Nat) : normAt (l.map fun m => (m, f m)) n = if n ∈ l then f n else Lrx1.zero := by
  unfold normAt
  induction l with
  | nil => simp
  | cons x r ih =>
    rw [List.map_cons, List.find?_cons]
    by_cases e : x = n
    · subst e
      simp
    · have e' : (x == n) = false := by simpa using e
      simp only [e']
      rw [ih]
      by_cases hm : n ∈ r
      · rw [if_pos hm, if_pos (List.mem_cons_of_mem _ hm)]
      · rw [if_neg hm, if_neg fun z => by
          rcases List.mem_cons.mp z with z | z
          · exact e z.symm
          · exact hm z]
theorem isNothing_fr (n : List Nat) : (if isNothing n then Lrx1.one else Lrx1.zero) = fr (delta n) := by
  unfold delta
  split <;> rfl
theorem normAt_norms {N : List Nat} : ∀ (sts : List Station), (∀ s ∈ sts, s.demands.length = N.length) → ∀ n, leL n N → normAt (normsOf (below N) sts) n = fr (nrm sts n)
  | [], _, n, hn => by
    unfold normsOf
    rw [normAt_map, if_pos (mem_below.mpr hn), isNothing_fr]
    rfl
  | s :: r, h, n, hn => by
    unfold normsOf
    simp only []
    rw [normAt_map, if_pos (mem_below.mpr hn), nrm_cons]
    unfold conv S
    refine sum_map_fr _ _ _ fun m hm => ?_
    have hm' := mem_below.mp hm
    have hmN := leL_trans hm' hn
    rw [normAt_map, if_pos (mem_below.mpr hmN), normAt_norms r (fun x hx => h x (List.mem_cons_of_mem _ hx)) _ (leL_trans (leL_minus hm') hn), factor_fr ((h s (List.mem_cons_self ..)).trans (leL_len hmN).symm), mul_fr]
/-! ### positive -/
/-- every class with customers has a demand somewhere -/
def prop (sts : List Station) : List Nat → Nat → Prop
  | [], _ => True
  | k :: n, r => (k = 0 ∨ ∃ s ∈ sts, 0 < demand s r) ∧ prop sts n (r + 1)
theorem prop_iff (sts : List Station) : ∀ (n : List Nat) (r : Nat), prop sts n r ↔ ∀ j, count n j = 0 ∨ ∃ s ∈ sts, 0 < demand s (r + j)
  | [], r => by simp [prop, count]
  | k :: n, r => by
    unfold prop
    rw [prop_iff sts n (r + 1)]
    constructor
    · rintro ⟨h, h2⟩ j
      cases j with
      | zero => exact h
      | succ j =>
        have := h2 j
        rw [show r + 1 + j = r + (j + 1) by omega] at this
        exact this
    · intro h
      refine ⟨h 0, fun j => ?_⟩
      have := h (j + 1)
      rw [show r + (j + 1) = r + 1 + j by omega] at this
      exact this
/-- what a station can take: all customers of the classes with a demand -/
def takes (ds : List Nat) : List Nat → List Nat
  | [] => []
  | k :: n => match ds with
    | [] => 0 :: takes [] n
    | d :: ds => (if d = 0 then 0 else k) :: takes ds n
theorem takes_le : ∀ (ds n : List Nat), leL (takes ds n) n
  | _, [] => True.intro
  | [], k :: n => ⟨Nat.zero_le _, takes_le [] n⟩
  | d :: ds, k :: n => by
    refine ⟨?_, takes_le ds n⟩
    split <;> omega
theorem takes_dprod : ∀ (ds n : List Nat), 0 < dprod ds (takes ds n)
  | [], [] => Nat.one_pos
  | _ :: _, [] => Nat.one_pos
  | [], k :: n => Nat.one_pos
  | d :: ds, k :: n => by
    show 0 < d ^ (if d = 0 then 0 else k) * dprod ds (takes ds n)
    refine Nat.mul_pos ?_ (takes_dprod ds n)
    by_cases h : d = 0
    · rw [if_pos h]; exact Nat.one_pos
    · exact Nat.pow_pos (by omega)
theorem count_cons_zero (k : Nat) (n : List Nat) : count (k :: n) 0 = k := rfl
theorem count_cons_succ (k : Nat) (n : List Nat) (j : Nat) : count (k :: n) (j + 1) = count n j := rfl
theorem takes_rest : ∀ (ds n : List Nat) (j : Nat), count (minus n (takes ds n)) j = if ds.getD j 0 = 0 then count n j else 0
  | ds, [], j => by simp [takes, minus, count]
  | [], k :: n, 0 => by
    show k - 0 = if (0 : Nat) = 0 then k else 0
    rw [if_pos rfl]; rfl
  | [], k :: n, j + 1 => by
    show count (minus n (takes [] n)) j = if (0 : Nat) = 0 then count n j else 0
    rw [takes_rest [] n j]
    rfl
  | d :: ds, k :: n, 0 => by
    show k - (if d = 0 then 0 else k) = if d = 0 then k else 0
    split <;> omega
  | d :: ds, k :: n, j + 1 => takes_rest ds n j
theorem delta_pos : ∀ {n : List Nat}, (∀ j, count n j = 0) → delta n = 1
  | n, h => by
    unfold delta
    rw [if_pos]
    unfold isNothing
    rw [List.all_eq_true]
    intro x hx
    obtain ⟨i, hi, rfl⟩ := List.getElem_of_mem hx
    have := h i
    unfold count at this
    rw [List.getD_eq_getElem?_getD, List.getElem?_eq_getElem hi] at this
    simpa using this
theorem nrm_nonneg : ∀ (sts : List Station) (n : List Nat), 0 ≤ nrm sts n
  | [], n => by
    show 0 ≤ delta n
    unfold delta; split <;> decide
  | s :: r, n => S_nonneg fun m _ => Rat.mul_nonneg (fac_nonneg s m) (nrm_nonneg r _)
theorem nrm_pos : ∀ (sts : List Station) (n : List Nat), (∀ s ∈ sts, 0 < s.servers) → (∀ j, count n j = 0 ∨ ∃ s ∈ sts, 0 < demand s j) → 0 < nrm sts n
  | [], n, _, h => by
    show 0 < delta n
    rw [delta_pos fun j => (h j).resolve_right fun ⟨_, hs, _⟩ => nomatch hs]
    decide
  | s :: r, n, hs, h => by
    refine S_pos (y := takes s.demands n) (fun m _ => Rat.mul_nonneg (fac_nonneg s m) (nrm_nonneg r _)) (takes_le _ _) (Rat.mul_pos (fac_pos (hs s (List.mem_cons_self ..)) (takes_dprod _ _)) ?_)
    refine nrm_pos r _ (fun x hx => hs x (List.mem_cons_of_mem _ hx)) fun j => ?_
    rw [takes_rest]
    by_cases e : s.demands.getD j 0 = 0
    · rw [if_pos e]
      rcases h j with h | ⟨x, hx, hd⟩
      · exact .inl h
      · rcases List.mem_cons.mp hx with rfl | hx
        · exact absurd hd (by unfold demand; omega)
        · exact .inr ⟨x, hx, hd⟩
    · rw [if_neg e]; exact .inl rfl
end CQ
end
section
set_option autoImplicit false
namespace CQ
open Lrx5 (below minus total count without isNothing Station demand factorial)
/-! ### whole quotients -/
theorem fact_succ (n : Nat) : factorial (n + 1) = (n + 1) * factorial n := rfl
theorem fact_dvd : ∀ (t a b : Nat), a + b = t → factorial a * factorial b ∣ factorial (a + b)
  | 0, a, b, h => by
    obtain rfl : a = 0 := by omega
    obtain rfl : b = 0 := by omega
    exact Nat.dvd_refl _
  | t + 1, 0, b, h => by
    rw [Nat.zero_add]
    show 1 * factorial b ∣ factorial b
    rw [Nat.one_mul]; exact Nat.dvd_refl _
  | t + 1, a + 1, 0, h => by
    show factorial (a + 1) * 1 ∣ factorial (a + 1 + 0)
    rw [Nat.mul_one]; exact Nat.dvd_refl _
  | t + 1, a + 1, b + 1, h => by
    have h1 := fact_dvd t a (b + 1) (by omega)
    have h2 := fact_dvd t (a + 1) b (by omega)
    have e : factorial (a + 1 + (b + 1)) = (a + 1) * factorial (a + (b + 1)) + (b + 1) * factorial (a + 1 + b) := by
      rw [show a + 1 + (b + 1) = (a + 1 + b) + 1 by omega, fact_succ, show a + (b + 1) = a + 1 + b by omega, ← Nat.add_mul]
      congr 1
      try omega
    rw [e]
    refine Nat.dvd_add ?_ ?_
    · rw [fact_succ a, Nat.mul_assoc]
      exact Nat.mul_dvd_mul_left _ h1
    · rw [fact_succ b, ← Nat.mul_assoc, Nat.mul_comm (factorial (a + 1)), Nat.mul_assoc]
      exact Nat.mul_dvd_mul_left _ h2
theorem fact_dvd_le {a n : Nat} (h : a ≤ n) : factorial a ∣ factorial n := by
  induction n with
  | zero =>
    obtain rfl : a = 0 := by omega
    exact Nat.dvd_refl _
  | succ n ih =>
    by_cases e : a = n + 1
    · subst e; exact Nat.dvd_refl _
    · rw [fact_succ]
      exact Nat.dvd_trans (ih (by omega)) (Nat.dvd_mul_left ..)
theorem fprod_dvd_fact : ∀ m : List Nat, fprod m ∣ factorial (tot m)
  | [] => Nat.dvd_refl _
  | k :: m => Nat.dvd_trans (Nat.mul_dvd_mul_left _ (fprod_dvd_fact m)) (fact_dvd _ k (tot m) rfl)
theorem fprod_dvd : ∀ {m n : List Nat}, leL m n → fprod m ∣ fprod n
  | [], [], _ => Nat.dvd_refl _
  | _ :: _, _ :: _, h => Nat.mul_dvd_mul (fact_dvd_le h.1) (fprod_dvd h.2)
theorem tot_le : ∀ {m n : List Nat}, leL m n → tot m ≤ tot n
  | [], [], _ => Nat.le_refl _
  | _ :: _, _ :: _, h => Nat.add_le_add h.1 (tot_le h.2)
theorem speeds_dvd (c : Nat) {a b : Nat} (h : a ≤ b) : speeds c a ∣ speeds c b := by
  induction b with
  | zero =>
    obtain rfl : a = 0 := by omega
    exact Nat.dvd_refl _
  | succ n ih =>
    by_cases e : a = n + 1
    · subst e; exact Nat.dvd_refl _
    · exact Nat.dvd_trans (ih (by omega)) (Nat.dvd_mul_right ..)
/-! ### the program's numbers -/
def scl (s : Station) (lim : List Nat) : Nat := if s.isDelay then fprod lim else speeds s.servers (tot lim)
def sfS (s : Station) (m : List Nat) (c : Nat) : Nat :=
  if s.isDelay then dprod s.demands m * (c / fprod m) else factorial (tot m) / fprod m * dprod s.demands m * (c / speeds s.servers (tot m))
def sf (s : Station) (lim m : List Nat) : Nat := sfS s m (scl s lim)
theorem scl_pos {s : Station} (h : 0 < s.servers) (lim : List Nat) : 0 < scl s lim := by
  unfold scl
  split
  · exact fprod_pos _
  · exact speeds_pos h _
theorem natCast_div {a b : Nat} (h : b ∣ a) : ((a / b : Nat) : Rat) = (a : Rat) / (b : Rat) := by
  obtain ⟨c, rfl⟩ := h
  by_cases hb : b = 0
  · subst hb
    simp
    grind
  · rw [Nat.mul_div_cancel_left _ (by omega), Rat.natCast_mul]
    have := natCast_ne (n := b) (by omega)
    grind
theorem sf_cast {s : Station} {lim m : List Nat} (hs : 0 < s.servers) (h : leL m lim) : ((sf s lim m : Nat) : Rat) = (scl s lim : Rat) * fac s m := by
  unfold sf sfS scl fac
  have h1 := natCast_ne (fprod_pos m)
  have h2 := natCast_ne (speeds_pos hs (tot m))
  split
  · rw [Rat.natCast_mul, natCast_div (fprod_dvd h)]
    grind
  · rw [Rat.natCast_mul, Rat.natCast_mul, natCast_div (speeds_dvd _ (tot_le h)), natCast_div (fprod_dvd_fact m), Rat.natCast_mul, Rat.natCast_mul]
    grind
def sN (n : List Nat) (f : List Nat → Nat) : Nat := ns ((below n).map f)
def convN (f g : List Nat → Nat) (n : List Nat) : Nat := sN n fun m => f m * g (minus n m)
def delN (n : List Nat) : Nat := if tot n = 0 then 1 else 0
def gT (lim : List Nat) (sts : List Station) : List Nat → Nat := sts.foldl (fun g s => convN (sf s lim) g) delN
def scls (sts : List Station) (lim : List Nat) : Nat := sts.foldl (fun c s => c * scl s lim) 1
theorem sN_cast (n : List Nat) (f : List Nat → Nat) : ((sN n f : Nat) : Rat) = S n fun m => (f m : Rat) := by
  unfold sN S
  rw [ns_cast, List.map_map]
  rfl
theorem convN_cast {lim : List Nat} {f g : List Nat → Nat} {F G : List Nat → Rat} {c d : Rat} (hf : ∀ m, leL m lim → (f m : Rat) = c * F m) (hg : ∀ m, leL m lim → (g m : Rat) = d * G m) {n : List Nat} (hn : leL n lim) :
    (convN f g n : Rat) = d * c * conv F G n := by
  unfold convN conv
  rw [sN_cast, ← S_mul]
  refine S_congr fun m hm => ?_
  rw [Rat.natCast_mul, hf m (leL_trans hm hn), hg _ (leL_trans (leL_minus hm) hn)]
  grind
theorem tot_zero : ∀ {n : List Nat}, tot n = 0 ↔ isNothing n = true
  | [] => by simp [tot, isNothing]
  | k :: n => by
    have := tot_zero (n := n)
    unfold isNothing at this ⊢
    rw [List.all_cons, Bool.and_eq_true, ← this, tot]
    simp
theorem delN_cast (n : List Nat) : ((delN n : Nat) : Rat) = 1 * delta n := by
  unfold delN delta
  by_cases h : tot n = 0
  · rw [if_pos h, if_pos (tot_zero.mp h)]; grind
  · rw [if_neg h, if_neg fun z => h (tot_zero.mpr z)]; grind
theorem gT_go (lim : List Nat) : ∀ (sts : List Station) (g : List Nat → Nat) (G : List Nat → Rat) (c : Nat), (∀ s ∈ sts, 0 < s.servers) → (∀ m, leL m lim → (g m : Rat) = (c : Rat) * G m) →
    ∀ n, leL n lim → ((sts.foldl (fun g s => convN (sf s lim) g) g n : Nat) : Rat) = ((sts.foldl (fun c s => c * scl s lim) c : Nat) : Rat) * nL (sts.map fac) G n
  | [], _, _, _, _, h, n, hn => h n hn
  | s :: r, g, G, c, hs, h, n, hn => by
    refine gT_go lim r _ (conv (fac s) G) (c * scl s lim) (fun x hx => hs x (List.mem_cons_of_mem _ hx)) (fun m hm => ?_) n hn
    rw [Rat.natCast_mul]
    exact convN_cast (fun m hm => sf_cast (hs s (List.mem_cons_self ..)) hm) h hm
theorem gT_cast {lim : List Nat} {sts : List Station} (hs : ∀ s ∈ sts, 0 < s.servers) {n : List Nat} (hn : leL n lim) : ((gT lim sts n : Nat) : Rat) = (scls sts lim : Rat) * nrm sts n := by
  have := gT_go lim sts delN delta 1 hs (fun m _ => delN_cast m) n hn
  unfold gT scls nrm
  rw [← nL_nR]
  exact this
theorem scls_pos {sts : List Station} (hs : ∀ s ∈ sts, 0 < s.servers) (lim : List Nat) : 0 < scls sts lim := by
  unfold scls
  have key : ∀ (l : List Station) (c : Nat), 0 < c → (∀ s ∈ l, 0 < s.servers) → 0 < l.foldl (fun c s => c * scl s lim) c := by
    intro l
    induction l with
    | nil => intro c h _; exact h
    | cons s r ih =>
      intro c h hs
      exact ih _ (Nat.mul_pos h (scl_pos (hs s (List.mem_cons_self ..)) lim)) fun x hx => hs x (List.mem_cons_of_mem _ hx)
  exact key sts 1 Nat.one_pos hs
/-! ### the program's fractions -/
/-- what the program makes of two whole numbers: a fraction in lowest terms -/
def lt2 (a b : Int) : Int × Int := ((mkRat a b.toNat).num, ((mkRat a b.toNat).den : Int))
theorem scaled_ratio {a b : Nat} {c x y : Rat} (hc : c ≠ 0) (ha : (a : Rat) = c * x) (hb : (b : Rat) = c * y) : (mkRat (a : Int) b) = x / y := by
  rw [Rat.mkRat_eq_div, Rat.intCast_natCast, ha, hb]
  by_cases hy : y = 0
  · subst hy
    simp
    grind
  · grind
end CQ
end
section
set_option autoImplicit false
set_option linter.all false
namespace CQ
open Lrx5 (below minus total count without isNothing Station demand factorial)
/-! ### one customer less -/
theorem without_zero (k : Nat) (n : List Nat) : without (k :: n) 0 = (k - 1) :: n := rfl
theorem without_succ (k : Nat) (n : List Nat) (r : Nat) : without (k :: n) (r + 1) = k :: without n r := rfl
theorem count_nil (r : Nat) : count [] r = 0 := rfl
theorem leL_without : ∀ (n : List Nat) (r : Nat), leL (without n r) n
  | [], _ => True.intro
  | k :: n, 0 => by rw [without_zero]; exact ⟨Nat.sub_le _ _, leL_refl n⟩
  | k :: n, r + 1 => by rw [without_succ]; exact ⟨Nat.le_refl _, leL_without n r⟩
theorem tot_without : ∀ (n : List Nat) (r : Nat), count n r ≠ 0 → tot (without n r) + 1 = tot n
  | [], r, h => absurd (count_nil r) h
  | k :: n, 0, h => by
    rw [without_zero, tot, tot]
    have : k ≠ 0 := h
    omega
  | k :: n, r + 1, h => by
    rw [without_succ, tot, tot]
    have := tot_without n r h
    omega
theorem length_without (n : List Nat) (r : Nat) : (without n r).length = n.length := leL_len (leL_without n r)
theorem count_without_same : ∀ (n : List Nat) (r : Nat), count (without n r) r = count n r - 1
  | [], r => rfl
  | k :: n, 0 => rfl
  | k :: n, r + 1 => count_without_same n r
theorem count_without_ne : ∀ (n : List Nat) (r s : Nat), r ≠ s → count (without n r) s = count n s
  | [], r, s, _ => rfl
  | k :: n, 0, 0, h => absurd rfl h
  | k :: n, 0, s + 1, _ => rfl
  | k :: n, r + 1, 0, _ => rfl
  | k :: n, r + 1, s + 1, h => count_without_ne n r s fun e => h (by rw [e])
theorem without_comm : ∀ (n : List Nat) (r s : Nat), without (without n r) s = without (without n s) r
  | [], _, _ => rfl
  | k :: n, 0, 0 => rfl
  | k :: n, 0, s + 1 => rfl
  | k :: n, r + 1, 0 => rfl
  | k :: n, r + 1, s + 1 => by
    show k :: without (without n r) s = k :: without (without n s) r
    rw [without_comm n r s]
/-- the function of one customer less -/
def sh (r : Nat) (g : List Nat → Rat) (n : List Nat) : Rat := if count n r = 0 then 0 else g (without n r)
theorem sh_comm (r s : Nat) (g : List Nat → Rat) (n : List Nat) : sh r (sh s g) n = sh s (sh r g) n := by
  by_cases e : r = s
  · subst e; rfl
  · unfold sh
    rw [count_without_ne n r s e, count_without_ne n s r (Ne.symm e), without_comm n r s]
    by_cases h1 : count n r = 0
    · rw [if_pos h1]
      by_cases h2 : count n s = 0
      · rw [if_pos h2]
      · rw [if_neg h2, if_pos h1]
    · rw [if_neg h1]
      by_cases h2 : count n s = 0
      · rw [if_pos h2, if_pos h2]
      · rw [if_neg h2, if_neg h2, if_neg h1]
theorem range_shift (f : Nat → Rat) (a : Nat) : rs ((List.range (a + 1)).map fun k => if k = 0 then 0 else f (k - 1)) = if a = 0 then 0 else rs ((List.range (a - 1 + 1)).map f) := by
  rw [List.range_succ_eq_map, List.map_cons, List.map_map]
  have e : ((fun k => if k = 0 then 0 else f (k - 1)) ∘ Nat.succ) = f := by
    funext k
    show (if k + 1 = 0 then 0 else f (k + 1 - 1)) = f k
    rw [if_neg (by omega)]; rfl
  rw [e]
  show (if (0 : Nat) = 0 then (0 : Rat) else f (0 - 1)) + rs ((List.range a).map f) = _
  rw [if_pos rfl, Rat.zero_add]
  cases a with
  | zero => rfl
  | succ a =>
    rw [if_neg (Nat.succ_ne_zero a), Nat.add_sub_cancel]
theorem S_shift : ∀ (n : List Nat) (r : Nat) (f : List Nat → Rat), S n (sh r f) = sh r (fun n => S n f) n
  | [], r, f => by
    rw [S_nil]
    unfold sh
    rw [if_pos (count_nil r), if_pos (count_nil r)]
  | a :: n, 0, f => by
    rw [S_cons]
    have e : (fun k => S n fun t => sh 0 f (k :: t)) = fun k => if k = 0 then 0 else (fun k => S n fun t => f (k :: t)) (k - 1) := by
      funext k
      by_cases h : k = 0
      · rw [if_pos h, ← S_zero n]
        refine S_congr fun m _ => ?_
        unfold sh
        rw [if_pos (show count (k :: m) 0 = 0 from h)]
      · rw [if_neg h]
        refine S_congr fun m _ => ?_
        unfold sh
        rw [if_neg (show ¬ count (k :: m) 0 = 0 from h)]; rfl
    rw [e, range_shift (fun k => S n fun t => f (k :: t)) a]
    show _ = if a = 0 then 0 else S ((a - 1) :: n) f
    rw [S_cons]
  | a :: n, r + 1, f => by
    rw [S_cons]
    have e : (fun k => S n fun t => sh (r + 1) f (k :: t)) = fun k => sh r (fun n => S n fun t => f (k :: t)) n := by
      funext k
      rw [← S_shift n r]
      rfl
    rw [e]
    unfold sh
    rw [count_cons_succ, without_succ]
    by_cases h : count n r = 0
    · rw [if_pos h]
      simp only [if_pos h]
      exact rs_zero _
    · rw [if_neg h]
      simp only [if_neg h]
      exact (S_cons a (without n r) f).symm
theorem minus_without : ∀ {n m : List Nat} (r : Nat), leL m n → count m r ≠ 0 → minus n m = minus (without n r) (without m r)
  | [], [], r, _, h => absurd (count_nil r) h
  | a :: n, b :: m, 0, h, hc => by
    rw [without_zero, without_zero, minus_cons, minus_cons]
    have h1 := h.1
    have : b ≠ 0 := hc
    congr 1; omega
  | a :: n, b :: m, r + 1, h, hc => by
    rw [without_succ, without_succ, minus_cons, minus_cons, minus_without r h.2 hc]
theorem count_le : ∀ {m n : List Nat} (r : Nat), leL m n → count m r ≤ count n r
  | [], [], r, _ => Nat.le_refl _
  | _ :: _, _ :: _, 0, h => h.1
  | _ :: _, _ :: _, r + 1, h => count_le r h.2
theorem conv_sh_left (r : Nat) (f g : List Nat → Rat) : conv (sh r f) g = sh r (conv f g) := by
  funext n
  have e : conv (sh r f) g n = S n (sh r fun m => f m * g (minus (without n r) m)) := by
    refine S_congr fun m hm => ?_
    unfold sh
    by_cases h : count m r = 0
    · rw [if_pos h, if_pos h]; grind
    · rw [if_neg h, if_neg h, minus_without r hm h]
  rw [e, S_shift]
  unfold sh
  split <;> rfl
theorem count_minus : ∀ {n m : List Nat} (r : Nat), leL m n → count (minus n m) r = count n r - count m r
  | [], [], r, _ => rfl
  | _ :: _, _ :: _, 0, _ => rfl
  | _ :: _, _ :: _, r + 1, h => count_minus r h.2
theorem leL_without_iff : ∀ {n m : List Nat} (r : Nat), leL m n → count n r ≠ 0 → (leL m (without n r) ↔ count m r ≠ count n r)
  | [], [], r, _, h => absurd (count_nil r) h
  | a :: n, b :: m, 0, h, hc => by
    rw [without_zero, count_cons_zero, count_cons_zero]
    have h1 := h.1
    have : a ≠ 0 := hc
    constructor
    · rintro ⟨x, _⟩; omega
    · intro x; exact ⟨by omega, h.2⟩
  | a :: n, b :: m, r + 1, h, hc => by
    rw [without_succ, count_cons_succ, count_cons_succ]
    have ih := leL_without_iff r h.2 hc
    constructor
    · rintro ⟨_, x⟩; exact ih.mp x
    · intro x; exact ⟨h.1, ih.mpr x⟩
theorem without_minus : ∀ {n m : List Nat} (r : Nat), leL m n → count m r ≠ count n r → without (minus n m) r = minus (without n r) m
  | [], [], r, _, _ => rfl
  | a :: n, b :: m, 0, h, hc => by
    rw [without_zero, minus_cons, minus_cons, without_zero]
    have h1 := h.1
    have : b ≠ a := hc
    congr 1; omega
  | a :: n, b :: m, r + 1, h, hc => by
    rw [without_succ, minus_cons, minus_cons, without_succ, without_minus r h.2 hc]
theorem conv_sh_right (r : Nat) (f g : List Nat → Rat) : conv f (sh r g) = sh r (conv f g) := by
  funext n
  by_cases h : count n r = 0
  · have e : sh r (conv f g) n = 0 := if_pos h
    rw [e, ← S_zero n]
    refine S_congr fun m hm => ?_
    unfold sh
    rw [if_pos (by rw [count_minus r hm]; omega)]
    grind
  · have e : sh r (conv f g) n = S (without n r) fun m => f m * g (minus (without n r) m) := if_neg h
    rw [e, S_restrict (leL_without n r)]
    refine S_congr fun m hm => ?_
    have hc := count_le r hm
    by_cases hm2 : count m r = count n r
    · rw [if_neg fun z => (leL_without_iff r hm h).mp z hm2]
      unfold sh
      rw [if_pos (by rw [count_minus r hm]; omega)]
      grind
    · rw [if_pos ((leL_without_iff r hm h).mpr hm2)]
      unfold sh
      rw [if_neg (by rw [count_minus r hm]; omega), without_minus r hm hm2]
theorem conv_congr {f f' g g' : List Nat → Rat} {n : List Nat} (hf : ∀ m, leL m n → f m = f' m) (hg : ∀ m, leL m n → g m = g' m) : conv f g n = conv f' g' n :=
  S_congr fun m hm => by rw [hf m hm, hg _ (leL_minus hm)]
theorem conv_add (f g h : List Nat → Rat) : conv (fun m => f m + g m) h = fun n => conv f h n + conv g h n := by
  funext n
  unfold conv
  rw [← S_add]
  exact S_congr fun m _ => by grind
theorem conv_mul (c : Rat) (f h : List Nat → Rat) : conv (fun m => c * f m) h = fun n => c * conv f h n := by
  funext n
  unfold conv
  rw [← S_mul]
  exact S_congr fun m _ => by grind
theorem conv_mul_right (c : Rat) (f h : List Nat → Rat) : conv f (fun m => c * h m) = fun n => c * conv f h n := by
  funext n
  unfold conv
  rw [← S_mul]
  exact S_congr fun m _ => by grind
/-- sums over classes -/
theorem conv_rs {α : Type} (l : List α) (F : α → List Nat → Rat) (h : List Nat → Rat) (n : List Nat) : conv (fun m => rs (l.map fun s => F s m)) h n = rs (l.map fun s => conv (F s) h n) := by
  unfold conv S
  rw [← rs_swap]
  refine rs_congr _ _ _ fun m _ => ?_
  have e : (fun s => F s m * h (minus n m)) = fun s => h (minus n m) * F s m := by funext s; grind
  rw [e, rs_mul]; grind
theorem conv_rs_right {α : Type} (l : List α) (F : α → List Nat → Rat) (h : List Nat → Rat) (n : List Nat) : conv h (fun m => rs (l.map fun s => F s m)) n = rs (l.map fun s => conv h (F s) n) := by
  unfold conv S
  rw [← rs_swap]
  refine rs_congr _ _ _ fun m _ => ?_
  rw [rs_mul]
end CQ
end
section
set_option autoImplicit false
set_option linter.all false
namespace CQ
open Lrx5 (below minus total count without isNothing Station demand factorial)
theorem rs_single (N r : Nat) (F : Nat → Rat) (h : r < N) : rs ((List.range N).map fun s => if s = r then F s else 0) = F r := by
  induction N with
  | zero => omega
  | succ N ih =>
    rw [List.range_succ, List.map_append, rs_append]
    simp only [List.map_cons, List.map_nil, rs]
    by_cases e : N = r
    · subst e
      rw [if_pos rfl]
      have : rs ((List.range N).map fun s => if s = N then F s else 0) = 0 := by
        refine (rs_congr _ _ (fun _ => (0 : Rat)) fun s hs => ?_).trans (rs_zero (List.range N))
        have := List.mem_range.mp hs
        rw [if_neg (by omega)]
      rw [this]; grind
    · rw [if_neg e, ih (by omega)]; grind
theorem rs_counts : ∀ (m : List Nat) (K : Rat), rs ((List.range m.length).map fun r => (count m r : Rat) * K) = (tot m : Rat) * K
  | [], K => by simp [rs, tot]
  | k :: m, K => by
    rw [List.length_cons, List.range_succ_eq_map, List.map_cons, List.map_map]
    show (k : Rat) * K + rs ((List.range m.length).map fun r => (count m r : Rat) * K) = _
    rw [rs_counts m K, tot, Rat.natCast_add]; grind
theorem dprod_without : ∀ (ds m : List Nat) (r : Nat), ds.length = m.length → count m r ≠ 0 → dprod ds m = ds.getD r 0 * dprod ds (without m r)
  | [], [], r, _, h => absurd (count_nil r) h
  | d :: ds, k :: m, 0, h, hc => by
    rw [without_zero]
    show d ^ k * dprod ds m = d * (d ^ (k - 1) * dprod ds m)
    have : k ≠ 0 := hc
    obtain ⟨j, rfl⟩ : ∃ j, k = j + 1 := ⟨k - 1, by omega⟩
    rw [Nat.add_sub_cancel, ← Nat.mul_assoc, Nat.pow_succ, Nat.mul_comm (d ^ j) d]
  | d :: ds, k :: m, r + 1, h, hc => by
    rw [without_succ]
    show d ^ k * dprod ds m = ds.getD r 0 * (d ^ k * dprod ds (without m r))
    rw [dprod_without ds m r (by simpa using h) hc, ← Nat.mul_assoc, ← Nat.mul_assoc, Nat.mul_comm (d ^ k)]
theorem fprod_without : ∀ (m : List Nat) (r : Nat), count m r ≠ 0 → fprod m = count m r * fprod (without m r)
  | [], r, h => absurd (count_nil r) h
  | k :: m, 0, hc => by
    rw [without_zero, count_cons_zero, fprod, fprod]
    have : k ≠ 0 := hc
    obtain ⟨j, rfl⟩ : ∃ j, k = j + 1 := ⟨k - 1, by omega⟩
    rw [Nat.add_sub_cancel, fact_succ, Nat.mul_assoc]
  | k :: m, r + 1, hc => by
    rw [without_succ, count_cons_succ, fprod, fprod, fprod_without m r hc, ← Nat.mul_assoc, ← Nat.mul_assoc, Nat.mul_comm (factorial k)]
theorem speeds_one : ∀ t, speeds 1 t = 1
  | 0 => rfl
  | t + 1 => by rw [speeds, speeds_one t]; omega
theorem zeros_facts : ∀ {m : List Nat}, tot m = 0 → fprod m = 1 ∧ (∀ ds, dprod ds m = 1) ∧ ∀ r, count m r = 0
  | [], _ => ⟨rfl, fun ds => by cases ds <;> rfl, fun r => rfl⟩
  | k :: m, h => by
    rw [tot] at h
    obtain ⟨h1, h2, h3⟩ := zeros_facts (m := m) (by omega)
    have hk : k = 0 := by omega
    subst hk
    refine ⟨by rw [fprod, h1]; rfl, fun ds => ?_, fun r => ?_⟩
    · cases ds with
      | nil => rfl
      | cons d ds => rw [dprod, h2]; rfl
    · cases r with
      | zero => rfl
      | succ r => exact h3 r
theorem delta_zero {m : List Nat} (h : tot m ≠ 0) : delta m = 0 := by
  unfold delta
  rw [if_neg fun z => h (tot_zero.mpr z)]
theorem delta_one {m : List Nat} (h : tot m = 0) : delta m = 1 := by
  unfold delta
  rw [if_pos (tot_zero.mp h)]
/-- the factor of a queue with one server -/
theorem fac_queue {s : Station} (hq : s.isDelay = false) (h1 : s.servers = 1) (m : List Nat) : fac s m = (factorial (tot m) : Rat) * (dprod s.demands m : Rat) / (fprod m : Rat) := by
  unfold fac
  rw [hq, if_neg Bool.false_ne_true, h1, speeds_one, Nat.mul_one, Rat.natCast_mul]
theorem fac_delay {s : Station} (hq : s.isDelay = true) (m : List Nat) : fac s m = (dprod s.demands m : Rat) / (fprod m : Rat) := by
  unfold fac
  rw [hq, if_pos rfl]
/-- the factor with one customer more -/
theorem fac_rec {s : Station} (hq : s.isDelay = false) (h1 : s.servers = 1) {m : List Nat} (hl : s.demands.length = m.length) :
    fac s m = delta m + rs ((List.range m.length).map fun r => (demand s r : Rat) * sh r (fac s) m) := by
  by_cases h0 : tot m = 0
  · obtain ⟨z1, z2, z3⟩ := zeros_facts h0
    have e : rs ((List.range m.length).map fun r => (demand s r : Rat) * sh r (fac s) m) = 0 := by
      rw [← rs_zero (List.range m.length)]
      refine rs_congr _ _ _ fun r _ => ?_
      unfold sh
      rw [if_pos (z3 r)]; grind
    rw [e, delta_one h0, fac_queue hq h1, z1, z2, h0]
    show ((factorial 0 : Nat) : Rat) * ((1 : Nat) : Rat) / ((1 : Nat) : Rat) = 1 + 0
    have : ((factorial 0 : Nat) : Rat) = 1 := rfl
    rw [this]
    have : ((1 : Nat) : Rat) = 1 := rfl
    rw [this]; grind
  · rw [delta_zero h0]
    obtain ⟨t, ht⟩ : ∃ t, tot m = t + 1 := ⟨tot m - 1, by omega⟩
    have e : rs ((List.range m.length).map fun r => (demand s r : Rat) * sh r (fac s) m) = rs ((List.range m.length).map fun r => (count m r : Rat) * ((factorial t : Rat) * (dprod s.demands m : Rat) / (fprod m : Rat))) := by
      refine rs_congr _ _ _ fun r _ => ?_
      unfold sh
      by_cases hc : count m r = 0
      · rw [if_pos hc, hc]
        show _ = ((0 : Nat) : Rat) * _
        have : ((0 : Nat) : Rat) = 0 := rfl
        rw [this]; grind
      · rw [if_neg hc, fac_queue hq h1]
        have e1 : tot (without m r) = t := by have := tot_without m r hc; omega
        have e2 := dprod_without s.demands m r hl hc
        have e3 := fprod_without m r hc
        have e4 : ((dprod s.demands m : Nat) : Rat) = (demand s r : Rat) * (dprod s.demands (without m r) : Rat) := by rw [e2, Rat.natCast_mul]; rfl
        have e5 : ((fprod m : Nat) : Rat) = (count m r : Rat) * (fprod (without m r) : Rat) := by rw [e3, Rat.natCast_mul]
        have n1 := natCast_ne (fprod_pos (without m r))
        have n2 := natCast_ne (n := count m r) (by omega)
        rw [e1, e4, e5]
        grind
    rw [e, rs_counts, fac_queue hq h1, ht, fact_succ, Rat.natCast_mul]
    grind
/-- times the number of customers of a class -/
def D (r : Nat) (f : List Nat → Rat) (m : List Nat) : Rat := (count m r : Rat) * f m
theorem D_delay {s : Station} (hq : s.isDelay = true) {m : List Nat} (r : Nat) (hl : s.demands.length = m.length) : D r (fac s) m = (demand s r : Rat) * sh r (fac s) m := by
  unfold D sh
  by_cases hc : count m r = 0
  · rw [if_pos hc, hc]
    have : ((0 : Nat) : Rat) = 0 := rfl
    rw [this]; grind
  · rw [if_neg hc, fac_delay hq, fac_delay hq]
    have e4 : ((dprod s.demands m : Nat) : Rat) = (demand s r : Rat) * (dprod s.demands (without m r) : Rat) := by rw [dprod_without s.demands m r hl hc, Rat.natCast_mul]; rfl
    have e5 : ((fprod m : Nat) : Rat) = (count m r : Rat) * (fprod (without m r) : Rat) := by rw [fprod_without m r hc, Rat.natCast_mul]
    have n1 := natCast_ne (fprod_pos (without m r))
    have n2 := natCast_ne (n := count m r) (by omega)
    rw [e4, e5]
    grind
theorem D_queue {s : Station} (hq : s.isDelay = false) (h1 : s.servers = 1) {m : List Nat} (r : Nat) (hr : r < m.length) (hl : s.demands.length = m.length) :
    D r (fac s) m = (demand s r : Rat) * sh r (fac s) m + rs ((List.range m.length).map fun j => (demand s j : Rat) * sh j (D r (fac s)) m) := by
  have e0 : (demand s r : Rat) * sh r (fac s) m = rs ((List.range m.length).map fun j => if j = r then (demand s j : Rat) * sh j (fac s) m else 0) := (rs_single m.length r (fun j => (demand s j : Rat) * sh j (fac s) m) hr).symm
  rw [e0, ← rs_add]
  have e1 : D r (fac s) m = rs ((List.range m.length).map fun j => (count m r : Rat) * ((demand s j : Rat) * sh j (fac s) m)) := by
    rw [rs_mul]
    unfold D
    by_cases h0 : tot m = 0
    · have := (zeros_facts h0).2.2 r
      rw [this]
      have : ((0 : Nat) : Rat) = 0 := rfl
      rw [this]; grind
    · have := fac_rec hq h1 hl
      rw [delta_zero h0, Rat.zero_add] at this
      rw [← this]
  rw [e1]
  refine rs_congr _ _ _ fun j _ => ?_
  unfold sh D
  by_cases hc : count m j = 0
  · simp only [if_pos hc]
    split <;> grind
  · simp only [if_neg hc]
    by_cases e : j = r
    · subst e
      rw [if_pos rfl, count_without_same]
      obtain ⟨t, ht⟩ : ∃ t, count m j = t + 1 := ⟨count m j - 1, by omega⟩
      rw [ht, Nat.add_sub_cancel, Rat.natCast_add]
      have : ((1 : Nat) : Rat) = 1 := rfl
      rw [this]; grind
    · rw [if_neg e, count_without_ne m j r e]; grind
theorem delta_cons (k : Nat) (t : List Nat) : delta (k :: t) = if k = 0 then delta t else 0 := by
  by_cases h : k = 0
  · subst h
    rw [if_pos rfl]
    rfl
  · rw [if_neg h, delta_zero (by rw [tot]; omega)]
def zeros (n : List Nat) : List Nat := n.map fun _ => 0
theorem S_delta : ∀ (n : List Nat) (h : List Nat → Rat), S n (fun m => delta m * h m) = h (zeros n)
  | [], h => by
    rw [S_nil]
    show delta [] * h [] = h []
    rw [delta_one rfl]; grind
  | a :: n, h => by
    rw [S_cons]
    have e : (fun k => S n fun t => delta (k :: t) * h (k :: t)) = fun k => if k = 0 then h (k :: zeros n) else 0 := by
      funext k
      by_cases hk : k = 0
      · rw [if_pos hk, ← S_delta n fun t => h (k :: t)]
        exact S_congr fun m _ => by rw [delta_cons, if_pos hk]
      · rw [if_neg hk, ← S_zero n]
        exact S_congr fun m _ => by rw [delta_cons, if_neg hk]; grind
    rw [e, rs_single (a + 1) 0 (fun k => h (k :: zeros n)) (by omega)]
    rfl
theorem minus_zeros : ∀ n : List Nat, minus n (zeros n) = n
  | [] => rfl
  | k :: n => by
    show (k - 0) :: minus n (zeros n) = k :: n
    rw [minus_zeros n]; rfl
theorem conv_delta (g : List Nat → Rat) (n : List Nat) : conv delta g n = g n := by
  unfold conv
  rw [S_delta n fun m => g (minus n m), minus_zeros]
/-- A = g + the sum of d A with one customer less -/
theorem conv_rec {s : Station} (hq : s.isDelay = false) (h1 : s.servers = 1) (g : List Nat → Rat) {n : List Nat} (hl : s.demands.length = n.length) :
    conv (fac s) g n = g n + rs ((List.range n.length).map fun r => (demand s r : Rat) * sh r (conv (fac s) g) n) := by
  have e : conv (fac s) g n = conv (fun m => delta m + rs ((List.range n.length).map fun r => (demand s r : Rat) * sh r (fac s) m)) g n :=
    conv_congr (fun m hm => by
      have := leL_len hm
      rw [← this]
      exact fac_rec hq h1 (by rw [hl, this])) fun _ _ => rfl
  rw [e, conv_add]
  show conv delta g n + _ = _
  rw [conv_delta, conv_rs]
  congr 1
  refine rs_congr _ _ _ fun r _ => ?_
  rw [conv_mul, conv_sh_left]
/-- two functions with the same recursion are the same -/
theorem rec_unique {C : Nat} {d : Nat → Rat} {B X Z : List Nat → Rat} (hX : ∀ n : List Nat, n.length = C → X n = B n + rs ((List.range C).map fun r => d r * sh r X n))
    (hZ : ∀ n : List Nat, n.length = C → Z n = B n + rs ((List.range C).map fun r => d r * sh r Z n)) : ∀ (t : Nat) (n : List Nat), n.length = C → tot n = t → X n = Z n
  | t, n, hl, ht => by
    rw [hX n hl, hZ n hl]
    congr 1
    refine rs_congr _ _ _ fun r _ => ?_
    unfold sh
    by_cases hc : count n r = 0
    · rw [if_pos hc, if_pos hc]
    · rw [if_neg hc, if_neg hc]
      have := tot_without n r hc
      rw [rec_unique hX hZ (tot (without n r)) (without n r) ((length_without n r).trans hl) rfl]
termination_by t => t
decreasing_by omega
/-- what the class r brings of one station: its own customers there, beside g -/
def Y (s : Station) (g : List Nat → Rat) : List Nat → Rat := if s.isDelay then g else conv (fac s) g
def simple (s : Station) : Prop := s.isDelay = true ∨ s.servers = 1
theorem sh_add (r : Nat) (f g : List Nat → Rat) (n : List Nat) : sh r (fun n => f n + g n) n = sh r f n + sh r g n := by
  unfold sh; split <;> grind
theorem sh_rs {α : Type} (r : Nat) (l : List α) (F : α → List Nat → Rat) (n : List Nat) : sh r (fun n => rs (l.map fun a => F a n)) n = rs (l.map fun a => sh r (F a) n) := by
  unfold sh
  split
  · exact (rs_zero l).symm
  · rfl
theorem sh_mul (r : Nat) (c : Rat) (f : List Nat → Rat) (n : List Nat) : sh r (fun n => c * f n) n = c * sh r f n := by
  unfold sh; split <;> grind
theorem conv_D {s : Station} (hs : simple s) (g : List Nat → Rat) {n : List Nat} {r : Nat} (hr : r < n.length) (hl : s.demands.length = n.length) :
    conv (D r (fac s)) g n = (demand s r : Rat) * sh r (Y s (conv (fac s) g)) n := by
  unfold Y
  cases hq : s.isDelay
  · have h1 : s.servers = 1 := by
      rcases hs with h | h
      · rw [hq] at h; cases h
      · exact h
    rw [if_neg Bool.false_ne_true]
    refine rec_unique (C := n.length) (d := fun j => (demand s j : Rat)) (B := fun n => (demand s r : Rat) * sh r (conv (fac s) g) n) (X := conv (D r (fac s)) g) (Z := fun n => (demand s r : Rat) * sh r (conv (fac s) (conv (fac s) g)) n) (fun k hk => ?_) (fun k hk => ?_) (tot n) n rfl rfl
    · have e : conv (D r (fac s)) g k = conv (fun m => (demand s r : Rat) * sh r (fac s) m + rs ((List.range k.length).map fun j => (demand s j : Rat) * sh j (D r (fac s)) m)) g k :=
        conv_congr (fun m hm => by
          have := leL_len hm
          rw [← this]
          exact D_queue hq h1 r (by omega) (by rw [hl, this, hk])) fun _ _ => rfl
      rw [e, conv_add]
      show conv (fun m => (demand s r : Rat) * sh r (fac s) m) g k + _ = _
      rw [conv_mul, conv_sh_left, conv_rs, hk]
      congr 1
      refine rs_congr _ _ _ fun j _ => ?_
      rw [conv_mul, conv_sh_left]
    · have e : sh r (conv (fac s) (conv (fac s) g)) k = sh r (fun n => conv (fac s) g n + rs ((List.range k.length).map fun j => (demand s j : Rat) * sh j (conv (fac s) (conv (fac s) g)) n)) k := by
        unfold sh
        by_cases hc : count k r = 0
        · rw [if_pos hc, if_pos hc]
        · rw [if_neg hc, if_neg hc]
          have := conv_rec hq h1 (conv (fac s) g) (n := without k r) (by rw [length_without, hk, hl])
          rw [length_without] at this
          rw [this]; rfl
      have e2 : (demand s r : Rat) * sh r (conv (fac s) (conv (fac s) g)) k = (demand s r : Rat) * sh r (conv (fac s) g) k + rs ((List.range k.length).map fun j => (demand s r : Rat) * ((demand s j : Rat) * sh j (sh r (conv (fac s) (conv (fac s) g))) k)) := by
        rw [rs_mul, e, sh_add, sh_rs]
        have e3 : rs ((List.range k.length).map fun j => sh r (fun n => (demand s j : Rat) * sh j (conv (fac s) (conv (fac s) g)) n) k) = rs ((List.range k.length).map fun j => (demand s j : Rat) * sh j (sh r (conv (fac s) (conv (fac s) g))) k) :=
          rs_congr _ _ _ fun j _ => by rw [sh_mul, sh_comm]
        rw [e3]; grind
      rw [e2, hk]
      congr 1
      refine rs_congr _ _ _ fun j _ => ?_
      rw [sh_mul]; grind
  · rw [if_pos rfl]
    have e : conv (D r (fac s)) g n = conv (fun m => (demand s r : Rat) * sh r (fac s) m) g n :=
      conv_congr (fun m hm => D_delay hq r (by rw [hl, leL_len hm])) fun _ _ => rfl
    rw [e, conv_mul, conv_sh_left]
theorem D_conv (r : Nat) (f g : List Nat → Rat) (n : List Nat) : D r (conv f g) n = conv (D r f) g n + conv f (D r g) n := by
  unfold D conv
  rw [← S_mul, ← S_add]
  refine S_congr fun m hm => ?_
  have h1 := count_le r hm
  have h2 := count_minus r hm
  have e : (count n r : Rat) = (count m r : Rat) + (count (minus n m) r : Rat) := by
    rw [← Rat.natCast_add]
    congr 1; omega
  rw [e]; grind
theorem conv_Y (s x : Station) (g : List Nat → Rat) : conv (fac x) (Y s g) = Y s (conv (fac x) g) := by
  unfold Y
  split
  · rfl
  · exact conv_left_comm _ _ _
/-- the customers of a class are somewhere -/
theorem euler : ∀ (sts : List Station) {n : List Nat} {r : Nat}, r < n.length → (∀ s ∈ sts, s.demands.length = n.length ∧ simple s) →
    (count n r : Rat) * nrm sts n = rs (sts.map fun s => (demand s r : Rat) * sh r (Y s (nrm sts)) n)
  | [], n, r, hr, _ => by
    show (count n r : Rat) * delta n = 0
    by_cases h0 : tot n = 0
    · rw [(zeros_facts h0).2.2 r]
      have : ((0 : Nat) : Rat) = 0 := rfl
      rw [this]; grind
    · rw [delta_zero h0]; grind
  | x :: l, n, r, hr, h => by
    have hx := h x (List.mem_cons_self ..)
    have hl : ∀ s ∈ l, s.demands.length = n.length ∧ simple s := fun s hs => h s (List.mem_cons_of_mem _ hs)
    have e0 : (count n r : Rat) * nrm (x :: l) n = D r (conv (fac x) (nrm l)) n := rfl
    rw [e0, D_conv, conv_D hx.2 (nrm l) hr hx.1]
    have e1 : conv (fac x) (D r (nrm l)) n = conv (fac x) (fun m => rs (l.map fun s => (demand s r : Rat) * sh r (Y s (nrm l)) m)) n :=
      conv_congr (fun _ _ => rfl) fun m hm => by
        have := leL_len hm
        exact euler l (by omega) fun s hs => by rw [this]; exact hl s hs
    rw [e1, conv_rs_right, List.map_cons, rs]
    congr 1
    refine rs_congr _ _ _ fun s _ => ?_
    rw [conv_mul_right, conv_sh_right, conv_Y]
    rfl
end CQ
end
section
set_option autoImplicit false
set_option linter.all false
namespace CQ
open Lrx5 (below minus total count without isNothing Station Network demand factorial classes classCount getStation meansAt residenceFrom)
open Lrx1 (entry)
/-- the mean number of customers at a station of a simple network -/
def qd (sts : List Station) (s : Station) (n : List Nat) : Rat := rs ((List.range n.length).map fun r => (demand s r : Rat) * sh r (Y s (nrm sts)) n) / nrm sts n
/-- how long a customer of a class stays at a station who meets there those of n -/
def stay (sts : List Station) (r : Nat) (n : List Nat) (s : Station) : Rat := (demand s r : Rat) * (Y s (nrm sts) n / nrm sts n)
structure Good (sts : List Station) (C : Nat) : Prop where
  len : ∀ s ∈ sts, s.demands.length = C
  srv : ∀ s ∈ sts, 0 < s.servers
/-- every class with customers has a demand somewhere -/
def Proper (sts : List Station) (n : List Nat) : Prop := ∀ j, count n j = 0 ∨ ∃ s ∈ sts, 0 < demand s j
theorem Proper.le {sts : List Station} {m n : List Nat} (h : Proper sts n) (hm : leL m n) : Proper sts m := fun j => by
  have := count_le j hm
  rcases h j with h | h
  · exact .inl (by omega)
  · exact .inr h
theorem nrm_pos' {sts : List Station} {C : Nat} (g : Good sts C) {n : List Nat} (h : Proper sts n) : 0 < nrm sts n := nrm_pos sts n g.srv h
theorem Y_nonneg (s : Station) {g : List Nat → Rat} (h : ∀ n, 0 ≤ g n) (n : List Nat) : 0 ≤ Y s g n := by
  unfold Y
  split
  · exact h n
  · exact S_nonneg fun m _ => Rat.mul_nonneg (fac_nonneg s m) (h _)
theorem qd_queue {sts : List Station} {C : Nat} {s : Station} (g : Good sts C) (hs : s ∈ sts) (hq : s.isDelay = false) (h1 : s.servers = 1) {n : List Nat} (hl : n.length = C) (hp : Proper sts n) :
    1 + qd sts s n = Y s (nrm sts) n / nrm sts n := by
  have hn : nrm sts n ≠ 0 := by have := nrm_pos' g hp; grind
  have e : Y s (nrm sts) = conv (fac s) (nrm sts) := by unfold Y; rw [hq, if_neg Bool.false_ne_true]
  have := conv_rec hq h1 (nrm sts) (n := n) ((g.len s hs).trans hl.symm)
  unfold qd
  rw [e, this]
  have e2 : rs ((List.range n.length).map fun r => (demand s r : Rat) * sh r (conv (fac s) (nrm sts)) n) = conv (fac s) (nrm sts) n - nrm sts n := by grind
  rw [e2]
  grind
theorem residence_fr {sts : List Station} {C : Nat} {s : Station} (g : Good sts C) (hs : s ∈ sts) (hq : simple s) {n : List Nat} (hl : n.length = C) (hp : Proper sts n) (r : Nat) :
    residenceFrom s r (fr (qd sts s n)) = fr (stay sts r n s) := by
  have hn : nrm sts n ≠ 0 := by have := nrm_pos' g hp; grind
  unfold residenceFrom stay
  cases hd : s.isDelay
  · rw [if_neg Bool.false_ne_true, whole_fr, one_fr, add_fr, mul_fr]
    have h1 : s.servers = 1 := by
      rcases hq with h | h
      · rw [hd] at h; cases h
      · exact h
    rw [qd_queue g hs hd h1 hl hp, Rat.intCast_natCast]
  · rw [if_pos rfl, whole_fr]
    have e : Y s (nrm sts) n = nrm sts n := by unfold Y; rw [hd, if_pos rfl]
    rw [e, Rat.intCast_natCast]
    congr 1; grind
/-- the sum of all stays -/
theorem stay_sum {sts : List Station} {C : Nat} (g : Good sts C) (hq : ∀ s ∈ sts, simple s) {n : List Nat} {r : Nat} (hr : r < n.length) (hl : n.length = C) (hc : count n r ≠ 0) :
    rs (sts.map (stay sts r (without n r))) = (count n r : Rat) * nrm sts n / nrm sts (without n r) := by
  have e := euler sts hr fun s hs => ⟨(g.len s hs).trans hl.symm, hq s hs⟩
  have e2 : rs (sts.map fun s => (demand s r : Rat) * sh r (Y s (nrm sts)) n) = rs (sts.map fun s => (demand s r : Rat) * Y s (nrm sts) (without n r)) := rs_congr _ _ _ fun s _ => by
    unfold sh; rw [if_neg hc]
  rw [e, e2]
  have e3 : rs (sts.map (stay sts r (without n r))) = rs (sts.map fun s => (1 / nrm sts (without n r)) * ((demand s r : Rat) * Y s (nrm sts) (without n r))) := rs_congr _ _ _ fun s _ => by
    unfold stay; grind
  rw [e3, rs_mul]; grind
theorem map_range_get {α β : Type} (l : List α) (d : α) (f : α → β) : (List.range l.length).map (fun i => f (l.getD i d)) = l.map f := by
  refine List.ext_getElem (by simp) fun i h1 h2 => ?_
  have : i < l.length := by simpa using h2
  simp [this]
theorem entry_map {α : Type} (l : List α) (f : α → Lrx1.Fraction) (i : Nat) (h : i < l.length) : entry (l.map f) i = f l[i] := by
  unfold entry
  simp [h]
theorem qd_zero {sts : List Station} {s : Station} {n : List Nat} (h : tot n = 0) : qd sts s n = 0 := by
  unfold qd
  have e : rs ((List.range n.length).map fun r => (demand s r : Rat) * sh r (Y s (nrm sts)) n) = 0 := by
    refine (rs_congr _ _ (fun _ => (0 : Rat)) fun r _ => ?_).trans (rs_zero _)
    unfold sh
    rw [if_pos ((zeros_facts h).2.2 r)]; grind
  rw [e]; grind
theorem getStation_mem (net : Network) (i : Nat) (h : i < net.stations.length) : getStation net i ∈ net.stations := by
  unfold getStation
  rw [List.getD_eq_getElem?_getD, List.getElem?_eq_getElem h]
  exact List.getElem_mem h
theorem getStation_eq (net : Network) (i : Nat) (h : i < net.stations.length) : getStation net i = net.stations[i] := by
  unfold getStation
  rw [List.getD_eq_getElem?_getD, List.getElem?_eq_getElem h]
  rfl
theorem stays_fr {net : Network} {C : Nat} (g : Good net.stations C) (hq : ∀ s ∈ net.stations, simple s) {n : List Nat} (hl : n.length = C) (hp : Proper net.stations n) (r : Nat) :
    (List.range net.stations.length).map (fun i => residenceFrom (getStation net i) r (entry (net.stations.map fun s => fr (qd net.stations s n)) i)) = net.stations.map fun s => fr (stay net.stations r n s) := by
  refine List.ext_getElem (by simp) fun i h1 h2 => ?_
  have hi : i < net.stations.length := by simpa using h2
  have hm := List.getElem_mem hi
  simp only [List.getElem_map, List.getElem_range]
  rw [entry_map _ _ i hi, getStation_eq net i hi]
  exact residence_fr g hm (hq _ hm) hl hp r
theorem rate_fr {net : Network} {C : Nat} (g : Good net.stations C) (hq : ∀ s ∈ net.stations, simple s) {n : List Nat} (hl : n.length = C) (hp : Proper net.stations n) {r : Nat} (hr : r < C) (hc : count n r ≠ 0) :
    Lrx1.divide (Lrx1.whole (count n r : Int)) (Lrx1.sum (net.stations.map fun s => fr (stay net.stations r (without n r) s))) = fr (nrm net.stations (without n r) / nrm net.stations n) := by
  have e : (net.stations.map fun s => fr (stay net.stations r (without n r) s)) = (net.stations.map (stay net.stations r (without n r))).map fr := by rw [List.map_map]; rfl
  have n1 : nrm net.stations n ≠ 0 := by have := nrm_pos' g hp; grind
  have n2 : nrm net.stations (without n r) ≠ 0 := by have := nrm_pos' g (hp.le (leL_without n r)); grind
  have n3 := natCast_ne (n := count n r) (by omega)
  rw [e, sum_fr, whole_fr, divide_fr, stay_sum g hq (by omega) hl hc, Rat.intCast_natCast]
  congr 1; grind
theorem means_fr {net : Network} {C : Nat} (hC : classCount net = C) (g : Good net.stations C) (hq : ∀ s ∈ net.stations, simple s) : ∀ (steps : Nat) (n : List Nat), n.length = C → Proper net.stations n → tot n ≤ steps →
    meansAt net steps n = net.stations.map fun s => fr (qd net.stations s n)
  | 0, n, hl, hp, ht => by
    unfold meansAt
    refine List.map_congr_left fun s _ => ?_
    rw [qd_zero (by omega)]; rfl
  | steps + 1, n, hl, hp, ht => by
    unfold meansAt
    simp only []
    refine List.ext_getElem (by simp) fun i h1 h2 => ?_
    have hi : i < net.stations.length := by simpa using h2
    simp only [List.getElem_map, List.getElem_range]
    rw [List.map_map]
    unfold classes
    rw [hC, ← hl]
    refine (sum_map_fr _ _ (fun r => (1 / nrm net.stations n) * ((demand (net.stations[i]) r : Rat) * sh r (Y (net.stations[i]) (nrm net.stations)) n)) fun r hr => ?_).trans ?_
    · have hr' := List.mem_range.mp hr
      show entry _ i = _
      simp only [Function.comp]
      by_cases hc : count n r = 0
      · rw [if_pos hc, entry_map _ _ i hi]
        unfold sh
        rw [if_pos hc]
        show fr 0 = _
        congr 1; grind
      · rw [if_neg hc]
        have ih := means_fr hC g hq steps (without n r) ((length_without n r).trans hl) (hp.le (leL_without n r)) (by have := tot_without n r hc; omega)
        rw [ih, stays_fr g hq ((length_without n r).trans hl) (hp.le (leL_without n r)) r, rate_fr g hq hl hp (by omega) hc, List.map_map, entry_map _ _ i hi]
        simp only [Function.comp]
        rw [mul_fr]
        unfold sh stay
        rw [if_neg hc]
        have n2 : nrm net.stations (without n r) ≠ 0 := by have := nrm_pos' g (hp.le (leL_without n r)); grind
        congr 1; grind
    · rw [rs_mul]
      unfold qd
      congr 1; grind
end CQ
end
section
set_option autoImplicit false
set_option linter.all false
namespace CQ
open Lrx5 (below minus total count without isNothing Station Network demand factorial)
/-! ### the numbers within limits, made from the left -/
def ext (n : Nat) (x : List Nat) : List (List Nat) := (List.range (n + 1)).map fun k => x ++ [k]
theorem below_snoc : ∀ (l : List Nat) (n : Nat), below (l ++ [n]) = (below l).flatMap (ext n)
  | [], n => by
    show below [n] = _
    unfold below below ext
    simp [List.flatMap_map]
    rw [List.map_eq_flatMap]
  | a :: l, n => by
    show below (a :: (l ++ [n])) = _
    unfold below
    rw [below_snoc l n, List.flatMap_assoc]
    congr 1
    funext k
    rw [List.map_flatMap, List.flatMap_map]
    congr 1
    funext x
    unfold ext
    rw [List.map_map]
    rfl
def vec : List Nat → Nat
  | [] => 1
  | k :: n => (k + 1) * vec n
theorem length_below : ∀ n : List Nat, (below n).length = vec n
  | [] => rfl
  | k :: n => by
    unfold below vec
    rw [List.length_flatMap]
    have e : (List.range (k + 1)).map (fun j => ((below n).map fun t => j :: t).length) = (List.range (k + 1)).map fun _ => vec n := by
      refine List.map_congr_left fun j _ => ?_
      rw [List.length_map, length_below n]
    rw [e, List.map_const', List.length_range, List.sum_replicate_nat]
theorem vec_le : ∀ {m n : List Nat}, leL m n → vec m ≤ vec n
  | [], [], _ => Nat.le_refl _
  | _ :: _, _ :: _, h => Nat.mul_le_mul (Nat.succ_le_succ h.1) (vec_le h.2)
theorem vec_pos : ∀ n : List Nat, 0 < vec n
  | [] => Nat.one_pos
  | k :: n => Nat.mul_pos (Nat.succ_pos k) (vec_pos n)
theorem vec_append : ∀ (l m : List Nat), vec (l ++ m) = vec l * vec m
  | [], m => by simp [vec]
  | k :: l, m => by
    show (k + 1) * vec (l ++ m) = (k + 1) * vec l * vec m
    rw [vec_append l m, Nat.mul_assoc]
theorem vec_take (l : List Nat) (i : Nat) : vec (l.take i) ≤ vec l := by
  have h := vec_append (l.take i) (l.drop i)
  rw [List.take_append_drop] at h
  rw [h]
  exact Nat.le_mul_of_pos_right _ (vec_pos _)
theorem mem_le_vec : ∀ {l : List Nat} {k : Nat}, k ∈ l → k + 1 ≤ vec l
  | x :: l, k, h => by
    unfold vec
    rcases List.mem_cons.mp h with rfl | h
    · exact Nat.le_mul_of_pos_right _ (vec_pos _)
    · exact Nat.le_trans (mem_le_vec h) (Nat.le_mul_of_pos_left _ (Nat.succ_pos _))
theorem vectors_eq (n : List Nat) : Lrx5.vectors n = vec n := by
  unfold Lrx5.vectors
  have key : ∀ (l : List Nat) (a : Nat), l.foldl (fun (p k : Nat) => p * (k + 1)) a = a * vec l := by
    intro l
    induction l with
    | nil => intro a; simp [vec]
    | cons x r ih => intro a; rw [List.foldl_cons, ih, vec, Nat.mul_assoc]
  rw [key, Nat.one_mul]
theorem length_take_flatMap {α β : Type} (f : α → List β) (l : List α) (j : Nat) : ((l.take j).flatMap f).length ≤ (l.flatMap f).length := by
  have h : l.flatMap f = (l.take j).flatMap f ++ (l.drop j).flatMap f := by rw [← List.flatMap_append, List.take_append_drop]
  rw [h, List.length_append]
  omega
end CQ
end
section
set_option autoImplicit false
namespace CQ
/-- numbers not too great -/
def Sm (x : Nat) (q : Rat) : Prop := q.num.natAbs < 2 ^ x ∧ q.den < 2 ^ x
theorem Sm.mono {x y : Nat} {q : Rat} (h : Sm x q) (l : x ≤ y) : Sm y q :=
  ⟨Nat.lt_of_lt_of_le h.1 (Nat.pow_le_pow_right (by decide) l), Nat.lt_of_lt_of_le h.2 (Nat.pow_le_pow_right (by decide) l)⟩
theorem mk_num_dvd (n : Int) {d : Nat} (h : d ≠ 0) : (mkRat n d).num = n / (Nat.gcd n.natAbs d : Nat) ∧ (mkRat n d).den = d / Nat.gcd n.natAbs d := by
  have e : mkRat n d = Rat.normalize n d h := (Rat.normalize_eq_mkRat h).symm
  rw [e, Rat.normalize_eq]
  exact ⟨rfl, rfl⟩
theorem mkRat_sm {n : Int} {d : Nat} {x : Nat} (hn : n.natAbs < 2 ^ x) (hd : d < 2 ^ x) (h : d ≠ 0) : Sm x (mkRat n d) := by
  obtain ⟨h1, h2⟩ := mk_num_dvd n h
  refine ⟨?_, ?_⟩
  · rw [h1]
    refine Nat.lt_of_le_of_lt ?_ hn
    exact Int.natAbs_ediv_le_natAbs ..
  · rw [h2]
    exact Nat.lt_of_le_of_lt (Nat.div_le_self ..) hd
theorem add_nat {a b x : Nat} (ha : a < 2 ^ x) (hb : b < 2 ^ x) : a + b < 2 ^ (x + 1) := by
  rw [Nat.pow_succ]
  omega
theorem mul_nat {a b x y : Nat} (ha : a < 2 ^ x) (hb : b < 2 ^ y) : a * b < 2 ^ (x + y) := by
  rw [Nat.pow_add]
  exact Nat.mul_lt_mul'' ha hb
theorem Sm_add {x y : Nat} {p q : Rat} (hp : Sm x p) (hq : Sm y q) : Sm (x + y + 1) (p + q) := by
  rw [Rat.add_def']
  refine mkRat_sm ?_ ?_ (Nat.mul_ne_zero p.den_nz q.den_nz)
  · refine Nat.lt_of_le_of_lt (Int.natAbs_add_le ..) (add_nat ?_ ?_)
    · rw [Int.natAbs_mul]
      exact mul_nat hp.1 hq.2
    · rw [Int.natAbs_mul, Nat.add_comm x y]
      exact mul_nat hq.1 hp.2
  · exact Nat.lt_of_lt_of_le (mul_nat hp.2 hq.2) (Nat.pow_le_pow_right (by decide) (by omega))
theorem Sm_mul {x y : Nat} {p q : Rat} (hp : Sm x p) (hq : Sm y q) : Sm (x + y) (p * q) := by
  rw [Rat.mul_def']
  refine mkRat_sm ?_ (mul_nat hp.2 hq.2) (Nat.mul_ne_zero p.den_nz q.den_nz)
  rw [Int.natAbs_mul]
  exact mul_nat hp.1 hq.1
theorem Sm_nat {x n : Nat} (h : n < 2 ^ x) (hx : 0 < x) : Sm x (n : Rat) := by
  refine ⟨by simpa using h, ?_⟩
  show 1 < 2 ^ x
  exact Nat.one_lt_two_pow (by omega)
theorem Sm_zero {x : Nat} (hx : 0 < x) : Sm x 0 := Sm_nat (n := 0) (Nat.two_pow_pos x) hx
/-! ### the greatest common divisor by remainders -/
theorem gcd_step (a b : Int) : Int.gcd b (a % b) = Int.gcd a b := by
  rw [Int.emod_def, Int.gcd_sub_mul_left_right, Int.gcd_comm]
theorem gcd_le {n : Int} {d x : Nat} (hd : d < 2 ^ x) (h : 0 < d) : Int.gcd n d < 2 ^ x := Nat.lt_of_le_of_lt (Nat.le_of_dvd h (Nat.gcd_dvd_right ..)) hd
theorem gcd_pos {n : Int} {d : Nat} (h : 0 < d) : 0 < Int.gcd n d := Nat.gcd_pos_of_pos_right _ h
end CQ
end
section
set_option autoImplicit false
set_option exponentiation.threshold 100000
namespace CQ
open Lrx5 (Station below minus factorial)
/-! ### sizes -/
structure FitL (lim : List Nat) : Prop where
  len : lim.length ≤ 3
  le : ∀ k ∈ lim, k ≤ 12
  vec : CQ.vec lim ≤ 40
structure FitS (C : Nat) (s : Station) : Prop where
  dl : s.demands.length = C
  dm : ∀ d ∈ s.demands, d ≤ 1000
  sv : 0 < s.servers
  s20 : s.servers ≤ 20
structure Fit (sts : List Station) (lim : List Nat) : Prop where
  n5 : sts.length ≤ 5
  st : ∀ s ∈ sts, FitS lim.length s
  fl : FitL lim
theorem three : ∀ a, a < 13 → ∀ b, b < 13 → ∀ c, c < 13 → (a + 1) * ((b + 1) * (c + 1)) ≤ 40 → a + (b + c) ≤ 14 := by decide +kernel
theorem FitL.tot {lim : List Nat} (h : FitL lim) : CQ.tot lim ≤ 14 := by
  obtain ⟨h1, h2, h3⟩ := h
  match lim, h1, h2, h3 with
  | [], _, _, _ => exact Nat.zero_le _
  | [a], _, h2, h3 =>
    have := h2 a (by simp)
    show a + 0 ≤ 14
    omega
  | [a, b], _, h2, h3 =>
    have ha := h2 a (by simp)
    have hb := h2 b (by simp)
    have := three a (by omega) b (by omega) 0 (by omega) (by simpa [CQ.vec] using h3)
    show a + (b + 0) ≤ 14
    omega
  | [a, b, c], _, h2, h3 =>
    have ha := h2 a (by simp)
    have hb := h2 b (by simp)
    have hc := h2 c (by simp)
    have := three a (by omega) b (by omega) c (by omega) (by simpa [CQ.vec] using h3)
    show a + (b + (c + 0)) ≤ 14
    omega
  | _ :: _ :: _ :: _ :: _, h1, _, _ => simp at h1
theorem mem_of_leL : ∀ {m n : List Nat} {k : Nat}, leL m n → k ∈ m → ∃ j ∈ n, k ≤ j
  | [], _, k, _, h => by cases h
  | a :: m, b :: n, k, h, hk => by
    rcases List.mem_cons.mp hk with rfl | hk
    · exact ⟨b, List.mem_cons_self .., h.1⟩
    · obtain ⟨j, h1, h2⟩ := mem_of_leL h.2 hk
      exact ⟨j, List.mem_cons_of_mem _ h1, h2⟩
theorem FitL.sub {m lim : List Nat} (h : FitL lim) (l : leL m lim) : FitL m :=
  ⟨by rw [leL_len l]; exact h.len, fun k hk => by obtain ⟨j, h1, h2⟩ := mem_of_leL l hk; have := h.le j h1; omega, Nat.le_trans (vec_le l) h.vec⟩
theorem Fit.sub {sts : List Station} {m lim : List Nat} (h : Fit sts lim) (l : leL m lim) : Fit sts m :=
  ⟨h.n5, fun s hs => by rw [leL_len l]; exact h.st s hs, h.fl.sub l⟩
theorem fact_mono {a b : Nat} (h : a ≤ b) : factorial a ≤ factorial b := Nat.le_of_dvd (fact_pos b) (fact_dvd_le h)
theorem fact14 {a : Nat} (h : a ≤ 14) : factorial a < 2 ^ 37 := Nat.lt_of_le_of_lt (fact_mono h) (by decide)
theorem fprod_le (m : List Nat) : fprod m ≤ factorial (tot m) := Nat.le_of_dvd (fact_pos _) (fprod_dvd_fact m)
theorem speeds_le (c t : Nat) : speeds c t ≤ factorial t := by
  induction t with
  | zero => exact Nat.le_refl _
  | succ t ih =>
    rw [fact_succ, speeds, Nat.mul_comm]
    exact Nat.mul_le_mul (Nat.min_le_left ..) ih
theorem dprod_le : ∀ (ds m : List Nat), (∀ d ∈ ds, d ≤ 1000) → dprod ds m ≤ (2 ^ 10) ^ tot m
  | [], [], _ => Nat.le_refl _
  | [], _ :: _, _ => Nat.pos_of_ne_zero (Nat.ne_of_gt (Nat.pow_pos (by decide)))
  | _ :: _, [], _ => Nat.le_refl _
  | d :: ds, k :: m, h => by
    have ih := dprod_le ds m fun x hx => h x (List.mem_cons_of_mem _ hx)
    rw [dprod, tot, Nat.pow_add]
    have hd := h d (List.mem_cons_self ..)
    exact Nat.mul_le_mul (Nat.pow_le_pow_left (by omega) k) ih
theorem dprod_lt {ds m : List Nat} (h : ∀ d ∈ ds, d ≤ 1000) (t : tot m ≤ 14) : dprod ds m < 2 ^ 141 := by
  refine Nat.lt_of_le_of_lt (dprod_le ds m h) ?_
  rw [← Nat.pow_mul]
  exact Nat.pow_lt_pow_right (by decide) (by omega)
theorem scl_lt (s : Station) {lim : List Nat} (h : tot lim ≤ 14) : scl s lim < 2 ^ 37 := by
  unfold scl
  split
  · exact Nat.lt_of_le_of_lt (fprod_le lim) (fact14 h)
  · exact Nat.lt_of_le_of_lt (speeds_le _ _) (fact14 h)
theorem sfS_lt {C : Nat} {s : Station} {m : List Nat} {c : Nat} (f : FitS C s) (t : tot m ≤ 14) (hc : c < 2 ^ 37) : sfS s m c < 2 ^ 215 := by
  unfold sfS
  have hd := dprod_lt f.dm t
  split
  · exact Nat.lt_of_lt_of_le (mul_nat hd (Nat.lt_of_le_of_lt (Nat.div_le_self ..) hc)) (Nat.pow_le_pow_right (by decide) (by decide))
  · exact mul_nat (mul_nat (Nat.lt_of_le_of_lt (Nat.div_le_self ..) (fact14 t)) hd) (Nat.lt_of_le_of_lt (Nat.div_le_self ..) hc)
theorem sf_lt {C : Nat} {s : Station} {lim m : List Nat} (f : FitS C s) (h : FitL lim) (l : leL m lim) : sf s lim m < 2 ^ 215 := sfS_lt f (Nat.le_trans (tot_le l) h.tot) (scl_lt s h.tot)
theorem ns_le {α : Type} (l : List α) (f : α → Nat) {B : Nat} (h : ∀ x ∈ l, f x ≤ B) : ns (l.map f) ≤ l.length * B := by
  induction l with
  | nil => exact Nat.zero_le _
  | cons x r ih =>
    rw [List.map_cons, ns, List.length_cons, Nat.succ_mul]
    have := h x (List.mem_cons_self ..)
    have := ih fun y hy => h y (List.mem_cons_of_mem _ hy)
    omega
theorem sN_lt {n : List Nat} {f : List Nat → Nat} {x : Nat} (hv : vec n ≤ 40) (h : ∀ m, leL m n → f m < 2 ^ x) : sN n f < 2 ^ (x + 6) := by
  unfold sN
  have h1 := ns_le (below n) f (B := 2 ^ x) fun m hm => Nat.le_of_lt (h m (mem_below.mp hm))
  rw [length_below] at h1
  refine Nat.lt_of_le_of_lt (Nat.le_trans h1 (Nat.mul_le_mul_right _ hv)) ?_
  rw [Nat.pow_add, Nat.mul_comm]
  exact Nat.mul_lt_mul_of_pos_left (by decide) (Nat.two_pow_pos x)
theorem convN_lt {lim : List Nat} {f g : List Nat → Nat} {x y : Nat} (hv : vec lim ≤ 40) (hf : ∀ m, leL m lim → f m < 2 ^ x) (hg : ∀ m, leL m lim → g m < 2 ^ y) {n : List Nat} (hn : leL n lim) : convN f g n < 2 ^ (x + y + 6) := by
  unfold convN
  exact sN_lt (Nat.le_trans (vec_le hn) hv) fun m hm => mul_nat (hf m (leL_trans hm hn)) (hg _ (leL_trans (leL_minus hm) hn))
theorem gT_go_lt {lim : List Nat} (h : FitL lim) : ∀ (sts : List Station) (g : List Nat → Nat) (y : Nat), (∀ s ∈ sts, FitS lim.length s) → (∀ m, leL m lim → g m < 2 ^ y) → ∀ n, leL n lim → sts.foldl (fun g s => convN (sf s lim) g) g n < 2 ^ (y + 221 * sts.length)
  | [], g, y, _, hg, n, hn => hg n hn
  | s :: r, g, y, hs, hg, n, hn => by
    have ih := gT_go_lt h r (convN (sf s lim) g) (y + 221) (fun x hx => hs x (List.mem_cons_of_mem _ hx)) (fun m hm => by
      have := convN_lt (x := 215) (y := y) h.vec (fun m hm => sf_lt (hs s (List.mem_cons_self ..)) h hm) hg hm
      rw [show y + 221 = 215 + y + 6 by omega]
      exact this) n hn
    rw [List.length_cons, show y + 221 * (r.length + 1) = y + 221 + 221 * r.length by omega]
    exact ih
theorem gT_lt {sts : List Station} {lim : List Nat} (h : Fit sts lim) {n : List Nat} (hn : leL n lim) : gT lim sts n < 2 ^ 1106 := by
  have := gT_go_lt h.fl sts delN 1 h.st (fun m _ => by unfold delN; split <;> decide) n hn
  refine Nat.lt_of_lt_of_le this (Nat.pow_le_pow_right (by decide) ?_)
  have := h.n5
  omega
theorem scls_lt {sts : List Station} {lim : List Nat} (h : Fit sts lim) : scls sts lim < 2 ^ 186 := by
  have key : ∀ (l : List Station) (c y : Nat), c < 2 ^ y → l.foldl (fun c s => c * scl s lim) c < 2 ^ (y + 37 * l.length) := by
    intro l
    induction l with
    | nil => intro c y h; exact h
    | cons s r ih =>
      intro c y hc
      have := ih (c * scl s lim) (y + 37) (mul_nat hc (scl_lt s h.fl.tot))
      rw [List.length_cons, show y + 37 * (r.length + 1) = y + 37 + 37 * r.length by omega]
      exact this
  refine Nat.lt_of_lt_of_le (key sts 1 1 (by decide)) (Nat.pow_le_pow_right (by decide) ?_)
  have := h.n5
  omega
end CQ
end
section
set_option autoImplicit false
namespace CQ
open Lrx5 (below minus)
theorem below_nodup : ∀ n : List Nat, (below n).Nodup
  | [] => by simp [below]
  | a :: n => by
    unfold below
    unfold List.Nodup
    rw [List.pairwise_flatMap]
    refine ⟨fun k _ => ?_, ?_⟩
    · rw [List.pairwise_map]
      exact (below_nodup n).imp fun h z => h (List.cons.inj z).2
    · refine (List.nodup_range (n := a + 1)).imp fun {x y} h p hp q hq z => ?_
      obtain ⟨u, _, rfl⟩ := List.mem_map.mp hp
      obtain ⟨v, _, rfl⟩ := List.mem_map.mp hq
      exact h (List.cons.inj z).1
theorem nodup_take_not {α : Type} {l : List α} {i : Nat} {x : α} (h : l.Nodup) (e : l[i]? = some x) : x ∉ l.take i := by
  intro z
  obtain ⟨j, hj⟩ := List.mem_iff_getElem?.mp z
  rw [List.getElem?_take] at hj
  split at hj
  · rename_i lt
    have l1 : i < l.length := (List.getElem?_eq_some_iff.mp e).1
    have z2 := (List.getElem?_inj (i := j) (j := i) (l := l) (by omega) h).mp (by rw [hj, e])
    omega
  · cases hj
theorem below_ne (n : List Nat) : below n ≠ [] := fun z => by
  have h := length_below n
  rw [z] at h
  have := vec_pos n
  simp at h
  omega
theorem vec_le40 {m n : List Nat} (h : leL m n) (k : vec n ≤ 40) : vec m ≤ 40 := Nat.le_trans (vec_le h) k
end CQ
end
section
set_option autoImplicit false
namespace CQ
open Lrx5 (below minus total count without Station Network demand factorial normAt normsOf throughputAt)
/-! ### throughputs -/
def thr (sts : List Station) (n : List Nat) (r : Nat) : Rat := if count n r = 0 then 0 else nrm sts (without n r) / nrm sts n
theorem Fit.srv {sts : List Station} {lim : List Nat} (h : Fit sts lim) : ∀ s ∈ sts, 0 < s.servers := fun s hs => (h.st s hs).sv
theorem Fit.good {sts : List Station} {lim : List Nat} (h : Fit sts lim) : Good sts lim.length := ⟨fun s hs => (h.st s hs).dl, h.srv⟩
theorem cast_pos {n : Nat} (h : 0 < n) : (0 : Rat) < (n : Rat) := Rat.natCast_pos.mpr h
theorem scls_ne {sts : List Station} {lim : List Nat} (h : Fit sts lim) : ((scls sts lim : Nat) : Rat) ≠ 0 := natCast_ne (scls_pos h.srv lim)
theorem gT_pos {sts : List Station} {lim n : List Nat} (h : Fit sts lim) (hn : leL n lim) (p : 0 < nrm sts n) : 0 < gT lim sts n := by
  have e := gT_cast h.srv hn
  have q : (0 : Rat) < ((gT lim sts n : Nat) : Rat) := by
    rw [e]
    exact Rat.mul_pos (cast_pos (scls_pos h.srv lim)) p
  exact Rat.natCast_pos.mp q
theorem thr_mk {sts : List Station} {lim n : List Nat} {r : Nat} (h : Fit sts lim) (hn : leL n lim) (hc : count n r ≠ 0) : mkRat ((gT lim sts (without n r) : Nat) : Int) (gT lim sts n) = thr sts n r := by
  unfold thr
  rw [if_neg hc]
  exact scaled_ratio (scls_ne h) (gT_cast h.srv (leL_trans (leL_without n r) hn)) (gT_cast h.srv hn)
theorem thr_sm {sts : List Station} {n : List Nat} {r : Nat} (h : Fit sts n) (p : count n r ≠ 0 → 0 < nrm sts n) : Sm 1106 (thr sts n r) := by
  by_cases hc : count n r = 0
  · unfold thr
    rw [if_pos hc]
    exact Sm_zero (by decide)
  · rw [← thr_mk h (leL_refl n) hc]
    exact mkRat_sm (by have := gT_lt h (leL_without n r); simpa using this) (gT_lt h (leL_refl n)) (Nat.ne_of_gt (gT_pos h (leL_refl n) (p hc)))
theorem throughput_fr {net : Network} {n : List Nat} (h : ∀ s ∈ net.stations, s.demands.length = n.length) (r : Nat) : throughputAt net n r = fr (thr net.stations n r) := by
  unfold throughputAt thr
  by_cases hc : count n r = 0
  · rw [if_pos hc, if_pos hc]
    rfl
  · rw [if_neg hc, if_neg hc]
    simp only []
    rw [normAt_norms _ h _ (leL_without n r), normAt_norms _ h _ (leL_refl n), divide_fr]
theorem count_set_same : ∀ {n : List Nat} {r k : Nat}, r < n.length → count (n.set r k) r = k
  | _ :: _, 0, _, _ => rfl
  | _ :: n, r + 1, k, h => count_set_same (n := n) (r := r) (by simpa using h)
theorem count_set_ne : ∀ {n : List Nat} {r j k : Nat}, r ≠ j → count (n.set r k) j = count n j
  | [], _, _, _, _ => rfl
  | _ :: _, 0, 0, _, h => absurd rfl h
  | _ :: _, 0, _ + 1, _, _ => rfl
  | _ :: _, _ + 1, 0, _, _ => rfl
  | _ :: n, r + 1, j + 1, k, h => count_set_ne (n := n) (r := r) (j := j) fun z => h (by rw [z])
theorem leL_set : ∀ {n : List Nat} {r k : Nat}, k ≤ count n r → leL (n.set r k) n
  | [], _, _, _ => True.intro
  | _ :: n, 0, _, h => ⟨h, leL_refl n⟩
  | _ :: n, r + 1, k, h => ⟨Nat.le_refl _, leL_set (n := n) (r := r) h⟩
theorem set_set : ∀ (n : List Nat) (r j k : Nat), (n.set r j).set r k = n.set r k
  | [], _, _, _ => rfl
  | _ :: _, 0, _, _ => rfl
  | a :: n, r + 1, j, k => by
    show a :: (n.set r j).set r k = _
    rw [set_set n r j k]
    rfl
end CQ
end
section
set_option autoImplicit false
set_option linter.all false
set_option exponentiation.threshold 100000
namespace CQ
open Lrx5 (below minus total count without Station Network demand factorial normAt normsOf throughputAt getStation marginals meanNumber numberProbability marginal factor classes classCount)
open Lrx1 (whole)
/-! ### marginal probabilities -/
abbrev sta (sts : List Station) (i : Nat) : Station := sts.getD i ⟨false, 1, []⟩
def wt (sts : List Station) (i : Nat) (lim m : List Nat) : Nat := sf (sta sts i) lim m * gT lim (sts.eraseIdx i) (minus lim m)
def pw (sts : List Station) (i : Nat) (lim m : List Nat) : Rat := fac (sta sts i) m * nrm (sts.eraseIdx i) (minus lim m)
theorem sta_mem {sts : List Station} {i : Nat} (h : i < sts.length) : sta sts i ∈ sts := by
  unfold sta
  rw [List.getD_eq_getElem?_getD, List.getElem?_eq_getElem h]
  exact List.getElem_mem h
theorem sta_get {sts : List Station} {i : Nat} (h : i < sts.length) : sts[i]? = some (sta sts i) := by
  unfold sta
  rw [List.getD_eq_getElem?_getD, List.getElem?_eq_getElem h]
  rfl
theorem Fit.erase {sts : List Station} {lim : List Nat} (h : Fit sts lim) (i : Nat) : Fit (sts.eraseIdx i) lim :=
  ⟨Nat.le_trans (List.length_eraseIdx_le ..) h.n5, fun s hs => h.st s (List.mem_of_mem_eraseIdx hs), h.fl⟩
theorem nrm_erase : ∀ (sts : List Station) (i : Nat), i < sts.length → nrm sts = conv (fac (sta sts i)) (nrm (sts.eraseIdx i))
  | s :: r, 0, _ => rfl
  | s :: r, i + 1, h => by
    have ih := nrm_erase r i (by simpa using h)
    show conv (fac s) (nrm r) = conv (fac (sta r i)) (conv (fac s) (nrm (r.eraseIdx i)))
    rw [ih, conv_left_comm]
theorem S_pw {sts : List Station} {i : Nat} (h : i < sts.length) (lim : List Nat) : S lim (pw sts i lim) = nrm sts lim := by
  rw [nrm_erase sts i h]
  rfl
theorem wt_cast {sts : List Station} {i : Nat} {lim m : List Nat} (h : Fit sts lim) (hi : i < sts.length) (hm : leL m lim) :
    ((wt sts i lim m : Nat) : Rat) = ((scl (sta sts i) lim * scls (sts.eraseIdx i) lim : Nat) : Rat) * pw sts i lim m := by
  unfold wt pw
  rw [Rat.natCast_mul, sf_cast (h.srv _ (sta_mem hi)) hm, gT_cast (h.erase i).srv (leL_minus hm), Rat.natCast_mul]
  grind
def W (sts : List Station) (i : Nat) (lim : List Nat) : Nat := sN lim (wt sts i lim)
/-- what is expected of a number at a station -/
def mean (sts : List Station) (i : Nat) (lim : List Nat) (φ : List Nat → Nat) : Rat := S lim (fun m => (φ m : Rat) * pw sts i lim m) / nrm sts lim
theorem cne {sts : List Station} {i : Nat} {lim : List Nat} (h : Fit sts lim) (hi : i < sts.length) : ((scl (sta sts i) lim * scls (sts.eraseIdx i) lim : Nat) : Rat) ≠ 0 :=
  natCast_ne (Nat.mul_pos (scl_pos (h.srv _ (sta_mem hi)) lim) (scls_pos (h.erase i).srv lim))
theorem W_cast {sts : List Station} {i : Nat} {lim : List Nat} (h : Fit sts lim) (hi : i < sts.length) : ((W sts i lim : Nat) : Rat) = ((scl (sta sts i) lim * scls (sts.eraseIdx i) lim : Nat) : Rat) * nrm sts lim := by
  unfold W
  rw [sN_cast, ← S_pw hi lim, ← S_mul]
  exact S_congr fun m hm => wt_cast h hi hm
theorem W_pos {sts : List Station} {i : Nat} {lim : List Nat} (h : Fit sts lim) (hi : i < sts.length) (p : 0 < nrm sts lim) : 0 < W sts i lim := by
  have q : (0 : Rat) < ((W sts i lim : Nat) : Rat) := by
    rw [W_cast h hi]
    refine Rat.mul_pos (cast_pos ?_) p
    exact Nat.mul_pos (scl_pos (h.srv _ (sta_mem hi)) lim) (scls_pos (h.erase i).srv lim)
  exact Rat.natCast_pos.mp q
theorem wt_lt {sts : List Station} {i : Nat} {lim m : List Nat} (h : Fit sts lim) (hi : i < sts.length) (hm : leL m lim) : wt sts i lim m < 2 ^ 1321 :=
  mul_nat (sf_lt (h.st _ (sta_mem hi)) h.fl hm) (gT_lt (h.erase i) (leL_minus hm))
theorem W_lt {sts : List Station} {i : Nat} {lim : List Nat} (h : Fit sts lim) (hi : i < sts.length) : W sts i lim < 2 ^ 1327 := sN_lt h.fl.vec fun m hm => wt_lt h hi hm
theorem mean_mk {sts : List Station} {i : Nat} {lim : List Nat} (h : Fit sts lim) (hi : i < sts.length) (φ : List Nat → Nat) : mkRat ((sN lim fun m => φ m * wt sts i lim m : Nat) : Int) (W sts i lim) = mean sts i lim φ := by
  refine scaled_ratio (cne h hi) ?_ (W_cast h hi)
  rw [sN_cast, ← S_mul]
  refine S_congr fun m hm => ?_
  rw [Rat.natCast_mul, wt_cast h hi hm]
  grind
theorem sN_lt' {sts : List Station} {i : Nat} {lim : List Nat} (h : Fit sts lim) (hi : i < sts.length) {φ : List Nat → Nat} (hφ : ∀ m, leL m lim → φ m < 2 ^ 10) : (sN lim fun m => φ m * wt sts i lim m) < 2 ^ 1337 :=
  sN_lt (x := 1331) h.fl.vec fun m hm => mul_nat (hφ m hm) (wt_lt h hi hm)
theorem mean_sm {sts : List Station} {i : Nat} {lim : List Nat} (h : Fit sts lim) (hi : i < sts.length) (p : 0 < nrm sts lim) {φ : List Nat → Nat} (hφ : ∀ m, leL m lim → φ m < 2 ^ 10) : Sm 1337 (mean sts i lim φ) := by
  rw [← mean_mk h hi φ]
  exact mkRat_sm (by have := sN_lt' h hi hφ; simpa using this) (Nat.lt_of_lt_of_le (W_lt h hi) (Nat.pow_le_pow_right (by decide) (by decide))) (Nat.ne_of_gt (W_pos h hi p))
/-- how likely certain numbers are -/
def pr (sts : List Station) (i : Nat) (lim n : List Nat) : Rat := if n ∈ below lim then pw sts i lim n / nrm sts lim else 0
theorem pr_mk {sts : List Station} {i : Nat} {lim : List Nat} (h : Fit sts lim) (hi : i < sts.length) (n : List Nat) : mkRat ((if n ∈ below lim then wt sts i lim n else 0 : Nat) : Int) (W sts i lim) = pr sts i lim n := by
  unfold pr
  by_cases hn : n ∈ below lim
  · rw [if_pos hn, if_pos hn]
    exact scaled_ratio (cne h hi) (wt_cast h hi (mem_below.mp hn)) (W_cast h hi)
  · rw [if_neg hn, if_neg hn]
    exact Rat.zero_mkRat _
/-! ### the document's words -/
theorem marginals_fr {net : Network} {i : Nat} (h : Fit net.stations net.population) (hi : i < net.stations.length) : marginals net i = (below net.population).map fun n => (n, fr (pw net.stations i net.population n / nrm net.stations net.population)) := by
  unfold marginals
  simp only []
  have e1 : ∀ n ∈ below net.population, Lrx1.mul (factor (getStation net i) n) (normAt (normsOf (below net.population) (net.stations.eraseIdx i)) (minus net.population n)) = fr (pw net.stations i net.population n) := fun n hn => by
    have ln := mem_below.mp hn
    rw [show getStation net i = sta net.stations i from rfl, factor_fr (((h.st _ (sta_mem hi)).dl).trans (leL_len ln).symm), normAt_norms _ (fun s hs => ((h.erase i).st s hs).dl) _ (leL_minus ln), mul_fr]
    rfl
  have e2 : Lrx1.sum (((below net.population).map fun n => (n, Lrx1.mul (factor (getStation net i) n) (normAt (normsOf (below net.population) (net.stations.eraseIdx i)) (minus net.population n)))).map fun e => e.2) = fr (nrm net.stations net.population) := by
    rw [List.map_map, ← S_pw hi]
    exact sum_map_fr _ _ _ e1
  rw [e2, List.map_map]
  refine List.map_congr_left fun n hn => ?_
  show (n, Lrx1.divide (Lrx1.mul _ _) _) = _
  rw [e1 n hn, divide_fr]
theorem meanNumber_fr {net : Network} {i r : Nat} (h : Fit net.stations net.population) (hi : i < net.stations.length) : meanNumber net i r = fr (mean net.stations i net.population fun m => count m r) := by
  unfold meanNumber mean
  rw [marginals_fr h hi, List.map_map]
  refine (sum_map_fr _ _ (fun m => (count m r : Rat) * (pw net.stations i net.population m / nrm net.stations net.population)) fun m hm => ?_).trans ?_
  · show Lrx1.mul (whole _) (fr _) = _
    rw [whole_fr, mul_fr]
    rfl
  · congr 1
    show S net.population _ = _
    have e : S net.population (fun m => (count m r : Rat) * (pw net.stations i net.population m / nrm net.stations net.population)) = S net.population fun m => (1 / nrm net.stations net.population) * ((count m r : Rat) * pw net.stations i net.population m) := S_congr fun m _ => by grind
    rw [e, S_mul]
    grind
theorem numberProbability_fr {net : Network} {i k : Nat} (h : Fit net.stations net.population) (hi : i < net.stations.length) : numberProbability net i k = fr (mean net.stations i net.population fun m => if tot m = k then 1 else 0) := by
  unfold numberProbability mean
  rw [marginals_fr h hi, List.filter_map, List.map_map]
  refine (sum_map_fr _ _ (fun m => pw net.stations i net.population m / nrm net.stations net.population) fun m hm => rfl).trans ?_
  congr 1
  rw [rs_filter]
  have e : S net.population (fun m => if (total m == k) = true then pw net.stations i net.population m / nrm net.stations net.population else 0) = S net.population fun m => (1 / nrm net.stations net.population) * (((if tot m = k then 1 else 0 : Nat) : Rat) * pw net.stations i net.population m) := S_congr fun m _ => by
    rw [total_eq]
    by_cases hk : tot m = k
    · rw [if_pos hk, if_pos (by simpa using hk)]
      grind
    · rw [if_neg hk, if_neg (by simpa using hk)]
      grind
  refine (show _ = S net.population (fun m => if (total m == k) = true then pw net.stations i net.population m / nrm net.stations net.population else 0) from rfl).trans ?_
  rw [e, S_mul]
  grind
theorem marginal_fr {net : Network} {i : Nat} (h : Fit net.stations net.population) (hi : i < net.stations.length) (n : List Nat) : marginal net i n = fr (pr net.stations i net.population n) := by
  unfold marginal pr
  rw [marginals_fr h hi, normAt_map]
  split
  · rfl
  · rfl
theorem stationNumber_fr {net : Network} {i : Nat} (h : Fit net.stations net.population) (hi : i < net.stations.length) : Lrx1.sum ((classes net).map (meanNumber net i)) = fr (mean net.stations i net.population tot) := by
  refine (sum_map_fr _ _ (fun r => mean net.stations i net.population fun m => count m r) fun r _ => meanNumber_fr h hi).trans ?_
  congr 1
  unfold mean
  have e : ∀ r, S net.population (fun m => (count m r : Rat) * pw net.stations i net.population m) / nrm net.stations net.population = (1 / nrm net.stations net.population) * S net.population (fun m => (count m r : Rat) * pw net.stations i net.population m) := fun r => by grind
  rw [rs_congr _ _ _ fun r _ => e r, rs_mul]
  have e2 : rs ((classes net).map fun r => S net.population fun m => (count m r : Rat) * pw net.stations i net.population m) = S net.population fun m => (tot m : Rat) * pw net.stations i net.population m := by
    unfold S
    rw [rs_swap]
    refine rs_congr _ _ _ fun m hm => ?_
    have := rs_counts m (pw net.stations i net.population m)
    rw [leL_len (mem_below.mp hm)] at this
    exact this
  rw [e2]
  grind
end CQ
end
section
set_option autoImplicit false
set_option linter.all false
set_option exponentiation.threshold 100000
namespace CQ
open Lrx5 (below minus total count without Station Network demand factorial normAt normsOf throughputAt getStation factor classes classCount)
theorem ns_filter {α : Type} (p : α → Bool) (f : α → Nat) : ∀ l : List α, ns ((l.filter p).map f) = ns (l.map fun m => (if p m = true then 1 else 0) * f m)
  | [] => rfl
  | x :: l => by
    cases h : p x
    · rw [List.filter_cons_of_neg (by simp [h]), ns_filter p f l, List.map_cons, ns, h]
      simp
    · rw [List.filter_cons_of_pos h, List.map_cons, ns, ns_filter p f l, List.map_cons, ns, h]
      simp
/-! ### states -/
def rowsN (lim : List Nat) (l : List (Station × List Nat)) : Nat := l.foldl (fun p x => p * sf x.1 lim x.2) 1
def rowsR (l : List (Station × List Nat)) : Rat := l.foldl (fun p x => p * fac x.1 x.2) 1
theorem rows_cast {lim : List Nat} : ∀ (l : List (Station × List Nat)) (c d : Nat) (q : Rat), (∀ x ∈ l, 0 < x.1.servers ∧ leL x.2 lim) → (d : Rat) = (c : Rat) * q →
    ((l.foldl (fun p x => p * sf x.1 lim x.2) d : Nat) : Rat) = (((l.map Prod.fst).foldl (fun c s => c * scl s lim) c : Nat) : Rat) * l.foldl (fun p x => p * fac x.1 x.2) q
  | [], c, d, q, _, e => e
  | x :: l, c, d, q, h, e => by
    refine rows_cast l (c * scl x.1 lim) (d * sf x.1 lim x.2) (q * fac x.1 x.2) (fun y hy => h y (List.mem_cons_of_mem _ hy)) ?_
    obtain ⟨h1, h2⟩ := h x (List.mem_cons_self ..)
    rw [Rat.natCast_mul, Rat.natCast_mul, sf_cast h1 h2, e]
    grind
theorem rows_mk {sts : List Station} {lim : List Nat} {rows : List (List Nat)} (h : Fit sts lim) (hl : rows.length = sts.length) (hr : ∀ m ∈ rows, leL m lim) :
    mkRat ((rowsN lim (sts.zip rows) : Nat) : Int) (gT lim sts lim) = rowsR (sts.zip rows) / nrm sts lim := by
  refine scaled_ratio (scls_ne h) ?_ (gT_cast h.srv (leL_refl lim))
  have := rows_cast (lim := lim) (sts.zip rows) 1 1 1 (fun x hx => ⟨h.srv _ (List.of_mem_zip hx).1, hr _ (List.of_mem_zip hx).2⟩) (by grind)
  rw [List.map_fst_zip (by omega)] at this
  exact this
theorem rowsN_lt {sts : List Station} {lim : List Nat} {rows : List (List Nat)} (h : Fit sts lim) (hr : ∀ m ∈ rows, leL m lim) : rowsN lim (sts.zip rows) < 2 ^ 1076 := by
  have key : ∀ (l : List (Station × List Nat)) (d y : Nat), (∀ x ∈ l, FitS lim.length x.1 ∧ leL x.2 lim) → d < 2 ^ y → l.foldl (fun p x => p * sf x.1 lim x.2) d < 2 ^ (y + 215 * l.length) := by
    intro l
    induction l with
    | nil => intro d y _ h; exact h
    | cons x l ih =>
      intro d y hx hd
      have z := ih (d * sf x.1 lim x.2) (y + 215) (fun y hy => hx y (List.mem_cons_of_mem _ hy)) (mul_nat hd (sf_lt (hx x (List.mem_cons_self ..)).1 h.fl (hx x (List.mem_cons_self ..)).2))
      rw [List.length_cons, show y + 215 * (l.length + 1) = y + 215 + 215 * l.length by omega]
      exact z
  refine Nat.lt_of_lt_of_le (key (sts.zip rows) 1 1 (fun x hx => ⟨h.st _ (List.of_mem_zip hx).1, hr _ (List.of_mem_zip hx).2⟩) (by decide)) (Nat.pow_le_pow_right (by decide) ?_)
  have := h.n5
  rw [List.length_zip]
  omega
end CQ
end
section
set_option autoImplicit false
set_option linter.all false
set_option exponentiation.threshold 100000
namespace CQ
open Lrx5 (below minus total count without Station Network demand factorial isProper classes classCount)
/-! ### mean value analysis: sizes, order -/
def yN (sts : List Station) (s : Station) (lim m : List Nat) : Nat := if s.isDelay then scl s lim * gT lim sts m else convN (sf s lim) (gT lim sts) m
theorem yN_cast {sts : List Station} {s : Station} {lim m : List Nat} (h : Fit sts lim) (hs : s ∈ sts) (hm : leL m lim) : ((yN sts s lim m : Nat) : Rat) = ((scl s lim * scls sts lim : Nat) : Rat) * Y s (nrm sts) m := by
  unfold yN Y
  split
  · rw [Rat.natCast_mul, gT_cast h.srv hm, Rat.natCast_mul]
    grind
  · rw [convN_cast (fun m hm => sf_cast (h.srv s hs) hm) (fun m hm => gT_cast h.srv hm) hm, Rat.natCast_mul]
    grind
def qdN (sts : List Station) (s : Station) (n : List Nat) : Nat := ns ((List.range n.length).map fun r => demand s r * (if count n r = 0 then 0 else yN sts s n (without n r)))
theorem qd_mk {sts : List Station} {s : Station} {n : List Nat} (h : Fit sts n) (hs : s ∈ sts) : mkRat ((qdN sts s n : Nat) : Int) (scl s n * gT n sts n) = qd sts s n := by
  have c0 : ((scl s n * scls sts n : Nat) : Rat) ≠ 0 := natCast_ne (Nat.mul_pos (scl_pos (h.srv s hs) n) (scls_pos h.srv n))
  unfold qd
  refine scaled_ratio c0 ?_ ?_
  · unfold qdN
    rw [ns_cast, List.map_map, ← rs_mul]
    refine rs_congr _ _ _ fun r _ => ?_
    show ((demand s r * (if count n r = 0 then 0 else yN sts s n (without n r)) : Nat) : Rat) = _
    unfold sh
    rw [Rat.natCast_mul]
    by_cases hc : count n r = 0
    · rw [if_pos hc, if_pos hc]
      grind
    · rw [if_neg hc, if_neg hc, yN_cast h hs (leL_without n r)]
      grind
  · rw [Rat.natCast_mul, gT_cast h.srv (leL_refl n), Rat.natCast_mul]
    grind
theorem demand_lt {C : Nat} {s : Station} (h : FitS C s) (r : Nat) : demand s r < 2 ^ 10 := by
  unfold demand
  rw [List.getD_eq_getElem?_getD]
  cases e : s.demands[r]? with
  | none => decide
  | some d =>
    have := h.dm d (List.mem_of_getElem? e)
    show d < 1024
    omega
theorem yN_lt {sts : List Station} {s : Station} {lim m : List Nat} (h : Fit sts lim) (hs : s ∈ sts) (hm : leL m lim) : yN sts s lim m < 2 ^ 1327 := by
  unfold yN
  split
  · exact Nat.lt_of_lt_of_le (mul_nat (scl_lt s h.fl.tot) (gT_lt h hm)) (Nat.pow_le_pow_right (by decide) (by decide))
  · exact convN_lt h.fl.vec (fun m hm => sf_lt (h.st s hs) h.fl hm) (fun m hm => gT_lt h hm) hm
theorem qd_sm {sts : List Station} {s : Station} {n : List Nat} (h : Fit sts n) (hs : s ∈ sts) (p : 0 < nrm sts n) : Sm 1400 (qd sts s n) := by
  rw [← qd_mk h hs]
  refine mkRat_sm ?_ ?_ (Nat.ne_of_gt (Nat.mul_pos (scl_pos (h.srv s hs) n) (gT_pos h (leL_refl n) p)))
  · have h1 : qdN sts s n ≤ (List.range n.length).length * 2 ^ 1337 := by
      refine ns_le _ _ fun r _ => Nat.le_of_lt (mul_nat (x := 10) (y := 1327) (demand_lt (h.st s hs) r) ?_)
      by_cases hc : count n r = 0
      · rw [if_pos hc]; decide
      · rw [if_neg hc]; exact yN_lt h hs (leL_without n r)
    rw [List.length_range] at h1
    have h3 : n.length * 2 ^ 1337 ≤ 3 * 2 ^ 1337 := Nat.mul_le_mul_right _ h.fl.len
    have h4 : 3 * 2 ^ 1337 < 2 ^ 1400 := by decide
    show ((qdN sts s n : Nat) : Int).natAbs < _
    rw [Int.natAbs_natCast]
    exact Nat.lt_of_le_of_lt (Nat.le_trans h1 h3) h4
  · exact Nat.lt_of_lt_of_le (mul_nat (scl_lt s h.fl.tot) (gT_lt h (leL_refl n))) (Nat.pow_le_pow_right (by decide) (by decide))
/-- what the classes before the k-th bring -/
def mv (sts : List Station) (s : Station) (n : List Nat) (k : Nat) : Rat := rs ((List.range k).map fun r => thr sts n r * stay sts r (without n r) s)
theorem mv_succ (sts : List Station) (s : Station) (n : List Nat) (k : Nat) : mv sts s n (k + 1) = mv sts s n k + thr sts n k * stay sts k (without n k) s := by
  unfold mv
  rw [List.range_succ, List.map_append, rs_append]
  show _ + (_ + 0) = _
  rw [Rat.add_zero]
theorem mv_zero {sts : List Station} {s : Station} {n : List Nat} {k : Nat} (h : count n k = 0) : mv sts s n (k + 1) = mv sts s n k := by
  rw [mv_succ]
  unfold thr
  rw [if_pos h]
  grind
theorem mv_all {sts : List Station} {s : Station} {n : List Nat} {C : Nat} (g : Good sts C) (hp : Proper sts n) : mv sts s n n.length = qd sts s n := by
  unfold mv qd
  have hn : nrm sts n ≠ 0 := by have := nrm_pos' g hp; grind
  have e : rs ((List.range n.length).map fun r => thr sts n r * stay sts r (without n r) s) = rs ((List.range n.length).map fun r => (1 / nrm sts n) * ((demand s r : Rat) * sh r (Y s (nrm sts)) n)) := rs_congr _ _ _ fun r _ => by
    unfold thr sh stay
    by_cases hc : count n r = 0
    · rw [if_pos hc, if_pos hc]
      grind
    · rw [if_neg hc, if_neg hc]
      have n2 : nrm sts (without n r) ≠ 0 := by have := nrm_pos' g (hp.le (leL_without n r)); grind
      grind
  rw [e, rs_mul]
  grind
theorem stay_eq {sts : List Station} {C : Nat} {s : Station} (g : Good sts C) (hs : s ∈ sts) (hq : simple s) {n : List Nat} (hl : n.length = C) (hp : Proper sts n) (r : Nat) :
    (if s.isDelay then (demand s r : Rat) else (1 + qd sts s n) * (demand s r : Rat)) = stay sts r n s := by
  have hn : nrm sts n ≠ 0 := by have := nrm_pos' g hp; grind
  unfold stay
  cases hd : s.isDelay
  · rw [if_neg Bool.false_ne_true]
    have h1 : s.servers = 1 := by
      rcases hq with h | h
      · rw [hd] at h; cases h
      · exact h
    rw [qd_queue g hs hd h1 hl hp]
    grind
  · rw [if_pos rfl]
    have e : Y s (nrm sts) n = nrm sts n := by unfold Y; rw [hd, if_pos rfl]
    rw [e]
    grind
theorem stay_sm {sts : List Station} {s : Station} {n : List Nat} (h : Fit sts n) (hs : s ∈ sts) (hq : simple s) (hp : Proper sts n) (r : Nat) : Sm 1412 (stay sts r n s) := by
  rw [← stay_eq h.good hs hq rfl hp r]
  have hd := Sm_nat (demand_lt (h.st s hs) r) (by decide)
  have h1 : Sm 1 (1 : Rat) := Sm_nat (n := 1) (by decide) (by decide)
  cases s.isDelay
  · rw [if_neg Bool.false_ne_true]
    exact Sm_mul (Sm_add h1 (qd_sm h hs (nrm_pos' h.good hp))) hd
  · rw [if_pos rfl]
    exact hd.mono (by decide)
theorem rs_sm {x : Nat} : ∀ (l : List Rat), (∀ q ∈ l, Sm x q) → Sm ((x + 1) * l.length + 1) (rs l)
  | [], _ => Sm_zero (Nat.succ_pos _)
  | q :: l, h => by
    have ih := rs_sm l fun p hp => h p (List.mem_cons_of_mem _ hp)
    have z := Sm_add (h q (List.mem_cons_self ..)) ih
    rw [List.length_cons, show (x + 1) * (l.length + 1) + 1 = x + ((x + 1) * l.length + 1) + 1 by rw [Nat.mul_succ]; omega]
    exact z
theorem mv_sm {sts : List Station} {s : Station} {n : List Nat} (h : Fit sts n) (hs : s ∈ sts) (hq : simple s) (hp : Proper sts n) (k : Nat) (hk : k ≤ 2) : Sm 5039 (mv sts s n k) := by
  have z := rs_sm (x := 2518) ((List.range k).map fun r => thr sts n r * stay sts r (without n r) s) fun q hq2 => by
    obtain ⟨r, _, rfl⟩ := List.mem_map.mp hq2
    exact Sm_mul (thr_sm h fun _ => nrm_pos' h.good hp) (stay_sm (h.sub (leL_without n r)) hs hq (hp.le (leL_without n r)) r)
  rw [List.length_map, List.length_range] at z
  refine z.mono ?_
  have : 2519 * k ≤ 2519 * 2 := Nat.mul_le_mul_left _ hk
  omega
theorem rate_eq {sts : List Station} {n : List Nat} {r : Nat} {C : Nat} (g : Good sts C) (hq : ∀ s ∈ sts, simple s) (hl : n.length = C) (hp : Proper sts n) (hr : r < C) (hc : count n r ≠ 0) :
    (count n r : Rat) / rs (sts.map (stay sts r (without n r))) = thr sts n r ∧ 0 < rs (sts.map (stay sts r (without n r))) := by
  have n1 := nrm_pos' g hp
  have n2 := nrm_pos' g (hp.le (leL_without n r))
  have n3 : (0 : Rat) < (count n r : Rat) := cast_pos (by omega)
  rw [stay_sum g hq (by omega) hl hc]
  unfold thr
  rw [if_neg hc]
  refine ⟨?_, div_pos (Rat.mul_pos n3 n1) n2⟩
  grind
/-! ### the order -/
def lx : List Nat → List Nat → Prop
  | a :: m, b :: n => a < b ∨ (a = b ∧ lx m n)
  | _, _ => False
theorem lx_irr : ∀ {n : List Nat}, ¬ lx n n
  | [], h => h
  | a :: n, h => by
    rcases h with h | h
    · omega
    · exact lx_irr h.2
theorem lx_asym : ∀ {m n : List Nat}, lx m n → ¬ lx n m
  | [], _, h, _ => h
  | _ :: _, [], h, _ => h
  | a :: m, b :: n, h, k => by
    rcases h with h | h
    · rcases k with k | k
      · omega
      · omega
    · rcases k with k | k
      · omega
      · exact lx_asym h.2 k.2
theorem lx_without : ∀ {n : List Nat} {r : Nat}, count n r ≠ 0 → lx (without n r) n
  | [], r, h => absurd rfl h
  | a :: n, 0, h => by
    rw [without_zero]
    have : a ≠ 0 := h
    exact .inl (by omega)
  | a :: n, r + 1, h => by
    rw [without_succ]
    exact .inr ⟨rfl, lx_without (n := n) (r := r) h⟩
theorem below_sorted : ∀ n : List Nat, (below n).Pairwise lx
  | [] => by simp [below]
  | a :: n => by
    unfold below
    rw [List.pairwise_flatMap]
    refine ⟨fun k _ => ?_, ?_⟩
    · rw [List.pairwise_map]
      exact (below_sorted n).imp fun h => .inr ⟨rfl, h⟩
    · refine (List.pairwise_lt_range (n := a + 1)).imp fun {x y} h p hp q hq => ?_
      obtain ⟨u, _, rfl⟩ := List.mem_map.mp hp
      obtain ⟨v, _, rfl⟩ := List.mem_map.mp hq
      exact .inl h
theorem without_before {lim n : List Nat} {i r : Nat} (h : (below lim)[i]? = some n) (hc : count n r ≠ 0) : without n r ∈ (below lim).take i := by
  have hn := mem_below.mp (List.mem_of_getElem? h)
  have hw : without n r ∈ below lim := mem_below.mpr (leL_trans (leL_without n r) hn)
  obtain ⟨j, hj⟩ := List.mem_iff_getElem?.mp hw
  have hi := (List.getElem?_eq_some_iff.mp h)
  have hj' := (List.getElem?_eq_some_iff.mp hj)
  obtain ⟨h1, h2⟩ := hi
  obtain ⟨h3, h4⟩ := hj'
  have lt : j < i := by
    rcases Nat.lt_trichotomy j i with z | z | z
    · exact z
    · subst z
      rw [h2] at h4
      have := lx_without hc
      rw [← h4] at this
      exact absurd this lx_irr
    · have := List.pairwise_iff_getElem.mp (below_sorted lim) i j h1 h3 z
      rw [h2, h4] at this
      exact absurd this (lx_asym (lx_without hc))
  exact List.mem_iff_getElem?.mpr ⟨j, by rw [List.getElem?_take, if_pos lt]; exact hj⟩
theorem proper_iff {sts : List Station} {n : List Nat} : isProper ⟨sts, n⟩ = true ↔ Proper sts n := by
  unfold isProper Proper classes classCount
  rw [List.all_eq_true]
  constructor
  · intro h j
    by_cases hj : j < n.length
    · have := h j (List.mem_range.mpr hj)
      rw [Bool.or_eq_true, List.any_eq_true] at this
      rcases this with z | ⟨s, hs, z⟩
      · exact .inl (by simpa using z)
      · exact .inr ⟨s, hs, of_decide_eq_true z⟩
    · refine .inl ?_
      unfold count
      rw [List.getD_eq_getElem?_getD, List.getElem?_eq_none (by omega)]
      rfl
  · intro h j _
    rw [Bool.or_eq_true, List.any_eq_true]
    rcases h j with z | ⟨s, hs, z⟩
    · exact .inl (by simpa using z)
    · exact .inr ⟨s, hs, decide_eq_true z⟩
end CQ
end
section
set_option autoImplicit false
set_option linter.all false
set_option exponentiation.threshold 100000
namespace CQ
open Lrx5 (below minus total count without Station Network demand factorial isProper classes classCount getStation normAt normsOf)
open Lrx1 (whole)
theorem norm_fr {sts : List Station} {n : List Nat} (h : Fit sts n) : Lrx5.norm sts n = fr (nrm sts n) := normAt_norms sts (fun s hs => (h.st s hs).dl) n (leL_refl n)
theorem norm_mk {sts : List Station} {n : List Nat} (h : Fit sts n) : mkRat ((gT n sts n : Nat) : Int) (scls sts n) = nrm sts n := by
  have e := scaled_ratio (b := scls sts n) (x := nrm sts n) (y := 1) (scls_ne h) (gT_cast h.srv (leL_refl n)) (by grind)
  rw [e]
  grind
theorem thr_fr {net : Network} (h : Fit net.stations net.population) (r : Nat) : Lrx5.throughput net r = fr (thr net.stations net.population r) := throughput_fr (fun s hs => (h.st s hs).dl) r
theorem cycle_fr {net : Network} (h : Fit net.stations net.population) (r : Nat) : Lrx5.cycle net r = fr ((count net.population r : Rat) / thr net.stations net.population r) := by
  unfold Lrx5.cycle
  rw [thr_fr h, whole_fr, divide_fr]
  rfl
theorem residence_fr' {net : Network} {i r : Nat} (h : Fit net.stations net.population) (hi : i < net.stations.length) : Lrx5.residence net i r = fr (mean net.stations i net.population (fun m => count m r) / thr net.stations net.population r) := by
  unfold Lrx5.residence
  rw [thr_fr h, meanNumber_fr h hi, divide_fr]
theorem busy_fr {net : Network} {i r : Nat} (h : Fit net.stations net.population) : Lrx5.busy net i r = fr (thr net.stations net.population r * (demand (sta net.stations i) r : Rat)) := by
  unfold Lrx5.busy
  rw [thr_fr h, whole_fr, mul_fr, Rat.mul_comm]
  rfl
/-- the rates with the demands -/
theorem rs_zip : ∀ (qs : List Rat) (ds : List Nat), qs.length = ds.length → rs (List.zipWith (fun q (d : Nat) => q * (d : Rat)) qs ds) = rs ((List.range ds.length).map fun r => qs.getD r 0 * ((ds.getD r 0 : Nat) : Rat))
  | [], [], _ => rfl
  | q :: qs, d :: ds, h => by
    have ih := rs_zip qs ds (by simpa using h)
    rw [List.length_cons, List.range_succ_eq_map, List.map_cons, List.map_map]
    show q * (d : Rat) + _ = q * (d : Rat) + _
    rw [ih]
    rfl
def rates (sts : List Station) (n : List Nat) : List Rat := (List.range n.length).map (thr sts n)
theorem rates_get {sts : List Station} {n : List Nat} {r : Nat} (h : r < n.length) : (rates sts n).getD r 0 = thr sts n r := by
  unfold rates
  rw [List.getD_eq_getElem?_getD, List.getElem?_map, List.getElem?_range h]
  rfl
def util (sts : List Station) (n : List Nat) (s : Station) : Rat := rs (List.zipWith (fun q (d : Nat) => q * (d : Rat)) (rates sts n) s.demands) / (s.servers : Rat)
theorem utilizationOf_fr {net : Network} {i : Nat} (h : Fit net.stations net.population) (hi : i < net.stations.length) (hd : (sta net.stations i).isDelay = false) : Lrx5.utilizationOf net i = fr (util net.stations net.population (sta net.stations i)) := by
  unfold Lrx5.utilizationOf
  rw [show getStation net i = sta net.stations i from rfl, hd, if_neg Bool.false_ne_true]
  have e : Lrx5.busyTotal net i = fr (rs (List.zipWith (fun q (d : Nat) => q * (d : Rat)) (rates net.stations net.population) (sta net.stations i).demands)) := by
    have hl := (h.st _ (sta_mem hi)).dl
    unfold Lrx5.busyTotal
    refine (sum_map_fr _ _ (fun r => thr net.stations net.population r * (demand (sta net.stations i) r : Rat)) fun r _ => busy_fr h).trans ?_
    congr 1
    rw [rs_zip _ _ (by unfold rates; rw [List.length_map, List.length_range, hl]), hl]
    refine rs_congr _ _ _ fun r hr => ?_
    rw [rates_get (List.mem_range.mp hr)]
    rfl
  rw [e, whole_fr, divide_fr]
  rfl
end CQ
end
section
set_option autoImplicit false
set_option linter.all false
namespace CQ
open Lrx5 (below minus total count without Station Network demand isProper classes classCount getStation step error properOnly fractionResult fractionsResult Result Call isStation isClass withPopulation)
/-! ### what is due, in the order of the checks -/
def Res (sts : List Station) (n : List Nat) (c : Call) : Result := (step (some ⟨sts, n⟩) c).2
abbrev Bad (sts : List Station) (n : List Nat) : Prop := isProper ⟨sts, n⟩ = false
def prp (sts : List Station) (n : List Nat) (x : Result) : Result := if Bad sts n then error (-33) else x
def onS (sts : List Station) (i : Nat) (x : Result) : Result := if ¬ i < sts.length then error (-2) else x
def onC (n : List Nat) (r : Nat) (x : Result) : Result := if ¬ r < n.length then error (-2) else x
theorem isS {sts : List Station} {n : List Nat} {i : Nat} : isStation ⟨sts, n⟩ i = false ↔ ¬ i < sts.length := decide_eq_false_iff_not
theorem isC {sts : List Station} {n : List Nat} {r : Nat} : isClass ⟨sts, n⟩ r = false ↔ ¬ r < n.length := decide_eq_false_iff_not
theorem onS_eq (sts : List Station) (n : List Nat) (i : Nat) (x : Result) : (if isStation ⟨sts, n⟩ i = false then error (-2) else x) = onS sts i x := by
  unfold onS
  by_cases h : i < sts.length
  · rw [if_neg fun z => isS.mp z h, if_neg fun z => z h]
  · rw [if_pos (isS.mpr h), if_pos h]
theorem onC_eq (sts : List Station) (n : List Nat) (r : Nat) (x : Result) : (if isClass ⟨sts, n⟩ r = false then error (-2) else x) = onC n r x := by
  unfold onC
  by_cases h : r < n.length
  · rw [if_neg fun z => isC.mp z h, if_neg fun z => z h]
  · rw [if_pos (isC.mpr h), if_pos h]
theorem onSC_eq (sts : List Station) (n : List Nat) (i r : Nat) (x : Result) : (if isStation ⟨sts, n⟩ i = false ∨ isClass ⟨sts, n⟩ r = false then error (-2) else x) = onS sts i (onC n r x) := by
  rw [← onC_eq sts n, ← onS_eq sts n]
  by_cases h : isStation ⟨sts, n⟩ i = false
  · rw [if_pos (.inl h), if_pos h]
  · by_cases k : isClass ⟨sts, n⟩ r = false
    · rw [if_pos (.inr k), if_neg h, if_pos k]
    · rw [if_neg fun z => z.elim h k, if_neg h, if_neg k]
theorem onS_bad {sts : List Station} {i : Nat} {x : Result} (h : ¬ i < sts.length) : onS sts i x = error (-2) := if_pos h
theorem onS_ok {sts : List Station} {i : Nat} {x : Result} (h : i < sts.length) : onS sts i x = x := if_neg fun z => z h
theorem onC_bad {n : List Nat} {i : Nat} {x : Result} (h : ¬ i < n.length) : onC n i x = error (-2) := if_pos h
theorem onC_ok {n : List Nat} {i : Nat} {x : Result} (h : i < n.length) : onC n i x = x := if_neg fun z => z h
theorem prp_bad {sts : List Station} {n : List Nat} {x : Result} (h : Bad sts n) : prp sts n x = error (-33) := if_pos h
theorem prp_ok {sts : List Station} {n : List Nat} {x : Result} (h : isProper ⟨sts, n⟩ = true) : prp sts n x = x := if_neg (by unfold Bad; rw [h]; exact Bool.noConfusion)
section
variable (sts : List Station) (n : List Nat) (i r k : Nat)
theorem res_norm : Res sts n .norm = prp sts n (fractionResult (Lrx5.norm sts n)) := rfl
theorem res_throughput : Res sts n (.throughput r) = onC n r (prp sts n (fractionResult (Lrx5.throughput ⟨sts, n⟩ r))) := onC_eq sts n r _
theorem res_cycle : Res sts n (.cycle r) = onC n r (if count n r = 0 then error (-6) else prp sts n (fractionResult (Lrx5.cycle ⟨sts, n⟩ r))) := onC_eq sts n r _
theorem res_meanNumber : Res sts n (.meanNumber i r) = onS sts i (onC n r (prp sts n (fractionResult (Lrx5.meanNumber ⟨sts, n⟩ i r)))) := onSC_eq sts n i r _
theorem res_stationNumber : Res sts n (.stationNumber i) = onS sts i (prp sts n (fractionResult (Lrx1.sum ((classes ⟨sts, n⟩).map (Lrx5.meanNumber ⟨sts, n⟩ i))))) := onS_eq sts n i _
theorem res_residence : Res sts n (.residence i r) = onS sts i (onC n r (if count n r = 0 then error (-6) else prp sts n (fractionResult (Lrx5.residence ⟨sts, n⟩ i r)))) := onSC_eq sts n i r _
theorem res_busy : Res sts n (.busy i r) = onS sts i (onC n r (prp sts n (fractionResult (Lrx5.busy ⟨sts, n⟩ i r)))) := onSC_eq sts n i r _
theorem res_utilization : Res sts n (.utilization i) = onS sts i (if (sta sts i).isDelay = true then error (-33) else prp sts n (fractionResult (Lrx5.utilizationOf ⟨sts, n⟩ i))) := onS_eq sts n i _
theorem res_marginal (m : List Nat) : Res sts n (.marginal i m) = onS sts i (if m.length ≠ n.length ∨ (m.all fun j => decide (j ≤ 12)) = false then error (-22) else prp sts n (fractionResult (Lrx5.marginal ⟨sts, n⟩ i m))) := onS_eq sts n i _
theorem res_numberProbability : Res sts n (.numberProbability i k) = onS sts i (if 100 < k then error (-22) else prp sts n (fractionResult (Lrx5.numberProbability ⟨sts, n⟩ i k))) := onS_eq sts n i _
theorem res_idle : Res sts n (.idle i) = onS sts i (prp sts n (fractionResult (Lrx5.numberProbability ⟨sts, n⟩ i 0))) := onS_eq sts n i _
theorem res_meanValues : Res sts n .meanValues = if Lrx5.isSimple ⟨sts, n⟩ = false then error (-33) else prp sts n (fractionsResult (Lrx5.meanValues ⟨sts, n⟩)) := rfl
theorem res_mvaThroughput : Res sts n (.mvaThroughput r) = onC n r (if Lrx5.isSimple ⟨sts, n⟩ = false then error (-33) else prp sts n (fractionResult (Lrx5.mvaThroughput ⟨sts, n⟩ r))) := onC_eq sts n r _
theorem res_arrivalSees : Res sts n (.arrivalSees i r) = onS sts i (onC n r (if count n r = 0 then error (-6) else prp sts n (fractionResult (Lrx1.sum ((classes ⟨sts, n⟩).map (Lrx5.meanNumber ⟨sts, without n r⟩ i)))))) := onSC_eq sts n i r _
theorem res_getDemand : Res sts n (.getDemand i r) = onS sts i (onC n r (Lrx5.number ((demand (sta sts i) r : Nat) : Int))) := onSC_eq sts n i r _
theorem res_getPopulation : Res sts n (.getPopulation r) = onC n r (Lrx5.number ((count n r : Nat) : Int)) := onC_eq sts n r _
theorem res_curve (m : Nat) : Res sts n (.curve r m) = onC n r (if 12 < m then error (-22) else if 40 < vec (n.set r m) then error (-28) else if Bad sts (n.set r (max 1 m)) then error (-33) else
    fractionsResult ((List.range (m + 1)).map fun j => Lrx5.throughput ⟨sts, n.set r j⟩ r)) := by
  refine (onC_eq sts n r _).trans ?_
  rw [vectors_eq]
  rfl
theorem res_gain (d : Nat) : Res sts n (.gain i r d) = onS sts i (onC n r (if 1000 < d then error (-22) else prp sts n (if Bad (sts.set i { sta sts i with demands := (sta sts i).demands.set r d }) n then error (-33) else
    fractionsResult ((classes ⟨sts, n⟩).map fun k => Lrx1.sub (Lrx5.throughput ⟨sts.set i { sta sts i with demands := (sta sts i).demands.set r d }, n⟩ k) (Lrx5.throughput ⟨sts, n⟩ k))))) := by
  refine (onSC_eq sts n i r _).trans ?_
  congr 2
  unfold prp
  by_cases h : 1000 < d
  · rw [if_pos h, if_pos (show Lrx5.maxDemand < d from h)]
  · rw [if_neg h, if_neg (show ¬ Lrx5.maxDemand < d from h)]
    simp only []
    by_cases h1 : Bad sts n
    · rw [if_pos h1, if_pos (.inl h1)]
    · rw [if_neg h1]
      by_cases h2 : Bad (sts.set i { sta sts i with demands := (sta sts i).demands.set r d }) n
      · rw [if_pos h2, if_pos (.inr h2)]
      · rw [if_neg h2, if_neg fun z => z.elim h1 h2]
        rfl
end
/-- an error leaves the network as it was -/
theorem step_same (net : Network) (c : Call) (hc : match c with | .create _ _ => False | .setStation _ _ _ => False | .setDemand _ _ _ => False | .setPopulation _ _ => False | _ => True) : (step (some net) c).1 = some net := by
  cases c <;> first | rfl | exact False.elim hc
end CQ
end
section
set_option autoImplicit false
set_option linter.all false
namespace CQ
open Lrx5 (below minus total count without Station Network demand isProper classes classCount getStation step error properOnly fractionResult Call factor stateProbability)
/-! ### the probability of a state -/
def rowAt (m : List Nat) (C i : Nat) : List Nat := (m.drop (i * C)).take C
def rowsOf (m : List Nat) (C S : Nat) : List (List Nat) := (List.range S).map (rowAt m C)
theorem row_len {m : List Nat} {C S i : Nat} (h : m.length = S * C) (hi : i < S) : (rowAt m C i).length = C := by
  unfold rowAt
  rw [List.length_take, List.length_drop, h]
  have : (i + 1) * C ≤ S * C := Nat.mul_le_mul_right _ hi
  rw [Nat.succ_mul] at this
  omega
theorem row_count {m : List Nat} {C i r : Nat} (hr : r < C) : count (rowAt m C i) r = m.getD (i * C + r) 0 := by
  unfold rowAt count
  rw [List.getD_eq_getElem?_getD, List.getD_eq_getElem?_getD, List.getElem?_take, if_pos hr, List.getElem?_drop]
def rsum (rows : List (List Nat)) (r : Nat) : Nat := ns (rows.map fun m => count m r)
theorem foldl_ns (l : List Nat) (f : Nat → Nat) (a : Nat) : l.foldl (fun (s i : Nat) => s + f i) a = a + ns (l.map f) := by
  induction l generalizing a with
  | nil => rfl
  | cons x l ih =>
    rw [List.foldl_cons, ih, List.map_cons, ns, Nat.add_assoc]
theorem rsum_eq {m : List Nat} {C S r : Nat} (hr : r < C) : (List.range S).foldl (fun (s i : Nat) => s + m.getD (i * C + r) 0) 0 = rsum (rowsOf m C S) r := by
  rw [foldl_ns, Nat.zero_add]
  unfold rsum rowsOf
  rw [List.map_map]
  congr 1
  refine List.map_congr_left fun i _ => ?_
  exact (row_count hr).symm
def BadS (rows : List (List Nat)) (n : List Nat) : Prop := ∃ r, r < n.length ∧ rsum rows r ≠ count n r
theorem any_bad {m n : List Nat} {S : Nat} : ((List.range n.length).any fun r => ((List.range S).foldl (fun (s i : Nat) => s + m.getD (i * n.length + r) 0) 0) != count n r) = true ↔ BadS (rowsOf m n.length S) n := by
  unfold BadS
  rw [List.any_eq_true]
  constructor
  · rintro ⟨r, hr, h⟩
    have hr' := List.mem_range.mp hr
    rw [rsum_eq hr'] at h
    exact ⟨r, hr', by simpa using h⟩
  · rintro ⟨r, hr, h⟩
    refine ⟨r, List.mem_range.mpr hr, ?_⟩
    rw [rsum_eq hr]
    simpa using h
theorem mem_ns : ∀ {l : List Nat} {x : Nat}, x ∈ l → x ≤ ns l
  | [], _, h => by cases h
  | a :: l, x, h => by
    rcases List.mem_cons.mp h with rfl | h
    · exact Nat.le_add_right ..
    · exact Nat.le_trans (mem_ns h) (Nat.le_add_left ..)
theorem leL_of : ∀ {m n : List Nat}, m.length = n.length → (∀ r, r < n.length → count m r ≤ count n r) → leL m n
  | [], [], _, _ => True.intro
  | a :: m, b :: n, h, k => ⟨k 0 (by simp), leL_of (by simpa using h) fun r hr => k (r + 1) (by simpa using hr)⟩
  | [], _ :: _, h, _ => by simp at h
  | _ :: _, [], h, _ => by simp at h
theorem rows_le {m n : List Nat} {S : Nat} (h : m.length = S * n.length) (k : ¬ BadS (rowsOf m n.length S) n) : ∀ x ∈ rowsOf m n.length S, leL x n := fun x hx => by
  obtain ⟨i, hi, rfl⟩ := List.mem_map.mp hx
  have hi' := List.mem_range.mp hi
  refine leL_of (row_len h hi') fun r hr => ?_
  have e : rsum (rowsOf m n.length S) r = count n r := Decidable.byContradiction fun z => k ⟨r, hr, z⟩
  rw [← e]
  unfold rsum
  exact mem_ns (List.mem_map.mpr ⟨_, hx, rfl⟩)
theorem zip_range {α : Type} (f : Nat → α) (sts : List Station) : sts.zip ((List.range sts.length).map f) = (List.range sts.length).map fun i => (sta sts i, f i) := by
  refine List.ext_getElem (by simp) fun i h1 h2 => ?_
  have hi : i < sts.length := by simpa using h2
  simp [hi, sta]
theorem foldl_fr {α : Type} (l : List α) (f : α → Lrx1.Fraction) (g : α → Rat) (h : ∀ x ∈ l, f x = fr (g x)) : ∀ q : Rat, l.foldl (fun p x => Lrx1.mul p (f x)) (fr q) = fr (l.foldl (fun p x => p * g x) q) := by
  induction l with
  | nil => intro q; rfl
  | cons x l ih =>
    intro q
    rw [List.foldl_cons, List.foldl_cons, h x (List.mem_cons_self ..), mul_fr]
    exact ih (fun y hy => h y (List.mem_cons_of_mem _ hy)) _
theorem stateProbability_fr {sts : List Station} {n m : List Nat} (h : Fit sts n) (hl : m.length = sts.length * n.length) : stateProbability ⟨sts, n⟩ m = fr (rowsR (sts.zip (rowsOf m n.length sts.length)) / nrm sts n) := by
  unfold stateProbability
  simp only []
  rw [norm_fr h]
  have e := foldl_fr (List.range sts.length) (fun i => factor (getStation ⟨sts, n⟩ i) (rowAt m n.length i)) (fun i => fac (sta sts i) (rowAt m n.length i)) (fun i hi => by
    have hi' := List.mem_range.mp hi
    exact factor_fr (((h.st _ (sta_mem hi')).dl).trans (row_len hl hi').symm)) 1
  have e2 : rowsR (sts.zip (rowsOf m n.length sts.length)) = (List.range sts.length).foldl (fun p i => p * fac (sta sts i) (rowAt m n.length i)) 1 := by
    unfold rowsR rowsOf
    rw [zip_range, List.foldl_map]
  rw [e2, ← divide_fr, ← e]
  rfl
theorem res_stateProbability (sts : List Station) (n m : List Nat) : Res sts n (.stateProbability m) = if m.length ≠ sts.length * n.length ∨ (m.all fun j => decide (j ≤ 12)) = false then error (-22) else
    if ((List.range n.length).any fun r => ((List.range sts.length).foldl (fun (s i : Nat) => s + m.getD (i * n.length + r) 0) 0) != count n r) = true then error (-33) else prp sts n (fractionResult (stateProbability ⟨sts, n⟩ m)) := rfl
end CQ
end
section
set_option autoImplicit false
set_option linter.all false
namespace CQ
open Lrx5 (below minus total count without Station Network demand isProper classes classCount getStation step error properOnly fractionResult fractionsResult Call)
/-! ### mean value analysis, as the document has it -/
theorem simple_iff {sts : List Station} {n : List Nat} : Lrx5.isSimple ⟨sts, n⟩ = true ↔ ∀ s ∈ sts, simple s := by
  unfold Lrx5.isSimple simple
  rw [List.all_eq_true]
  constructor
  · intro h s hs
    have := h s hs
    rw [Bool.or_eq_true] at this
    rcases this with z | z
    · exact .inl z
    · exact .inr (by simpa using z)
  · intro h s hs
    rw [Bool.or_eq_true]
    rcases h s hs with z | z
    · exact .inl z
    · exact .inr (by simpa using z)
theorem meanValues_fr {sts : List Station} {n : List Nat} (h : Fit sts n) (hq : ∀ s ∈ sts, simple s) (hp : Proper sts n) : Lrx5.meanValues ⟨sts, n⟩ = (sts.map fun s => qd sts s n).map fr := by
  unfold Lrx5.meanValues
  rw [total_eq, means_fr (net := ⟨sts, n⟩) (C := n.length) rfl h.good hq _ n rfl hp (Nat.le_refl _), List.map_map]
  rfl
theorem mva_fr {sts : List Station} {n : List Nat} {r : Nat} (h : Fit sts n) (hq : ∀ s ∈ sts, simple s) (hp : Proper sts n) (hr : r < n.length) : Lrx5.mvaThroughput ⟨sts, n⟩ r = fr (thr sts n r) := by
  unfold Lrx5.mvaThroughput thr
  show (if count n r = 0 then Lrx1.zero else _) = _
  by_cases hc : count n r = 0
  · rw [if_pos hc, if_pos hc]
    rfl
  · rw [if_neg hc, if_neg hc]
    simp only []
    have e1 := length_without n r
    rw [total_eq, means_fr (net := ⟨sts, n⟩) (C := n.length) rfl h.good hq _ (without n r) e1 (hp.le (leL_without n r)) (by have := tot_without n r hc; omega)]
    rw [stays_fr (net := ⟨sts, n⟩) (C := n.length) h.good hq e1 (hp.le (leL_without n r)) r, rate_fr (net := ⟨sts, n⟩) (C := n.length) h.good hq rfl hp hr hc]
/-! ### other populations, other demands -/
theorem arrival_fr {sts : List Station} {n : List Nat} {i r : Nat} (h : Fit sts n) (hi : i < sts.length) : Lrx1.sum ((classes ⟨sts, n⟩).map (Lrx5.meanNumber ⟨sts, without n r⟩ i)) = fr (mean sts i (without n r) tot) := by
  have e : classes ⟨sts, n⟩ = classes ⟨sts, without n r⟩ := by
    unfold classes classCount
    rw [length_without]
  rw [e]
  exact stationNumber_fr (net := ⟨sts, without n r⟩) (h.sub (leL_without n r)) hi
theorem leL_sets : ∀ {n : List Nat} {r j k : Nat}, j ≤ k → leL (n.set r j) (n.set r k)
  | [], _, _, _, _ => True.intro
  | _ :: n, 0, _, _, h => ⟨h, leL_refl n⟩
  | _ :: n, r + 1, j, k, h => ⟨Nat.le_refl _, leL_sets (n := n) (r := r) h⟩
theorem fl_set {n : List Nat} {r k : Nat} (h : FitL n) (hk : k ≤ 12) (hv : vec (n.set r k) ≤ 40) : FitL (n.set r k) := by
  refine ⟨by rw [List.length_set]; exact h.len, fun j hj => ?_, hv⟩
  rcases List.mem_or_eq_of_mem_set hj with z | z
  · exact h.le j z
  · omega
theorem fit_set {sts : List Station} {n : List Nat} {r k : Nat} (h : Fit sts n) (hk : k ≤ 12) (hv : vec (n.set r k) ≤ 40) : Fit sts (n.set r k) :=
  ⟨h.n5, fun s hs => by rw [List.length_set]; exact h.st s hs, fl_set h.fl hk hv⟩
theorem throughputs_fr {sts : List Station} {n : List Nat} (h : Fit sts n) (r : Nat) : ∀ k, Lrx5.throughput ⟨sts, n.set r k⟩ r = fr (thr sts (n.set r k) r) := fun k =>
  throughput_fr (net := ⟨sts, n.set r k⟩) (fun s hs => ((h.st s hs).dl).trans (List.length_set ..).symm) r
def wdS (s : Station) (r d : Nat) : Station := { s with demands := s.demands.set r d }
theorem fit_wd {sts : List Station} {n : List Nat} {i r d : Nat} (h : Fit sts n) (hi : i < sts.length) (hd : d ≤ 1000) : Fit (sts.set i (wdS (sta sts i) r d)) n := by
  refine ⟨by rw [List.length_set]; exact h.n5, fun s hs => ?_, h.fl⟩
  rcases List.mem_or_eq_of_mem_set hs with z | z
  · exact h.st s z
  · subst z
    have hs := h.st _ (sta_mem hi)
    refine ⟨?_, fun x hx => ?_, hs.sv, hs.s20⟩
    · show ((sta sts i).demands.set r d).length = _
      rw [List.length_set]
      exact hs.dl
    · rcases List.mem_or_eq_of_mem_set hx with z | z
      · exact hs.dm x z
      · omega
/-! ### the fewest customers -/
theorem lt_aux {p C D E : Rat} (hD : 0 < D) (hE : 0 < E) : p < C / D ↔ p * E * D < C * E := by
  have n1 : D ≠ 0 := fun z => by rw [z] at hD; exact absurd hD (Rat.lt_irrefl)
  have e : C / D * D = C := by grind
  have e1 : p * D * E = p * E * D := by grind
  constructor
  · intro h
    have z := Rat.mul_lt_mul_of_pos_right (Rat.mul_lt_mul_of_pos_right h hD) hE
    rw [e, e1] at z
    exact z
  · intro h
    refine Decidable.byContradiction fun z => ?_
    have z1 := Rat.not_lt.mp z
    have z2 := Rat.mul_le_mul_of_nonneg_right (Rat.mul_le_mul_of_nonneg_right z1 (Rat.le_of_lt hD)) (Rat.le_of_lt hE)
    rw [e, e1] at z2
    exact absurd h (Rat.not_lt.mpr z2)
theorem lt_mk {p : Rat} {c : Int} {d : Nat} (hd : 0 < d) : p < mkRat c d ↔ p.num * (d : Int) < c * (p.den : Int) := by
  have h1 : (0 : Rat) < (d : Rat) := cast_pos hd
  have h2 : (0 : Rat) < (p.den : Rat) := cast_pos (Nat.pos_of_ne_zero p.den_nz)
  have n2 : (p.den : Rat) ≠ 0 := natCast_ne (Nat.pos_of_ne_zero p.den_nz)
  have e := num_over p
  rw [Rat.mkRat_eq_div, lt_aux h1 h2]
  have e2 : p * (p.den : Rat) = (p.num : Rat) := by
    have : p * (p.den : Rat) = (p.num : Rat) / (p.den : Rat) * (p.den : Rat) := by rw [← e]
    rw [this]
    generalize (p.num : Rat) = x at *
    generalize (p.den : Rat) = y at *
    clear e this
    grind
  have k : p.num * (d : Int) < c * (p.den : Int) ↔ ((p.num * (d : Int) : Int) : Rat) < ((c * (p.den : Int) : Int) : Rat) := Rat.intCast_lt_intCast.symm
  rw [k, Rat.intCast_mul, Rat.intCast_mul, Rat.intCast_natCast, Rat.intCast_natCast, e2]
def goalP (sts : List Station) (n : List Nat) (r : Nat) (c : Int) (d : Nat) (k : Nat) : Bool := !decide (thr sts (n.set r k) r < mkRat c d)
theorem find_congr {α : Type} {p q : α → Bool} : ∀ {l : List α}, (∀ x ∈ l, p x = q x) → l.find? p = l.find? q
  | [], _ => rfl
  | x :: l, h => by
    rw [List.find?_cons, List.find?_cons, h x (List.mem_cons_self ..), find_congr fun y hy => h y (List.mem_cons_of_mem _ hy)]
theorem few_fr {sts : List Station} {n : List Nat} {r most : Nat} {c : Nat} {d : Nat} (h : Fit sts n) (h12 : most ≤ 12) (h1 : most ≠ 0 → vec (n.set r most) ≤ 40) (h2 : most < 12 → 40 < vec (n.set r (most + 1))) :
    ((List.range (Lrx5.maxPopulation + 1)).find? fun k => decide (Lrx5.vectors (n.set r k) ≤ Lrx5.maxVectors) && Lrx1.le (Lrx1.reduce c d) (Lrx5.throughput ⟨sts, n.set r k⟩ r)) = (List.range (most + 1)).find? (goalP sts n r c d) := by
  have e : List.range (Lrx5.maxPopulation + 1) = List.range (most + 1) ++ (List.range (12 - most)).map (fun x => most + 1 + x) := by
    rw [← List.range_add]
    congr 1
    show 12 + 1 = _
    omega
  have v0 : vec (n.set r 0) ≤ 40 := Nat.le_trans (vec_le (leL_set (Nat.zero_le _))) h.fl.vec
  rw [e, List.find?_append]
  have en : ((List.range (12 - most)).map (fun x => most + 1 + x)).find? (fun k => decide (Lrx5.vectors (n.set r k) ≤ Lrx5.maxVectors) && Lrx1.le (Lrx1.reduce c d) (Lrx5.throughput ⟨sts, n.set r k⟩ r)) = none := by
    rw [List.find?_eq_none]
    intro k hk
    obtain ⟨x, hx, rfl⟩ := List.mem_map.mp hk
    have hx' := List.mem_range.mp hx
    have z := h2 (by omega)
    have z2 := vec_le (leL_sets (n := n) (r := r) (j := most + 1) (k := most + 1 + x) (by omega))
    rw [vectors_eq, decide_eq_false (show ¬ vec (n.set r (most + 1 + x)) ≤ Lrx5.maxVectors from fun y => by have y2 : vec (n.set r (most + 1 + x)) ≤ 40 := y; omega)]
    simp
  rw [en, Option.or_none]
  refine find_congr fun k hk => ?_
  have hk' := List.mem_range.mp hk
  have hv : vec (n.set r k) ≤ 40 := by
    by_cases m0 : most = 0
    · have : k = 0 := by omega
      rw [this]; exact v0
    · exact Nat.le_trans (vec_le (leL_sets (by omega))) (h1 m0)
  rw [vectors_eq, decide_eq_true (show vec (n.set r k) ≤ Lrx5.maxVectors from hv), Bool.true_and, throughputs_fr h, reduce_fr, le_fr]
  unfold goalP
  rw [← decide_not]
  exact decide_eq_decide.mpr Rat.not_lt.symm
end CQ
end
section
set_option autoImplicit false
set_option linter.all false
namespace CQ
open Lrx5 (below minus total count without Station Network demand isProper classes classCount getStation step error properOnly fractionResult fractionsResult Call)
theorem find_range : ∀ (N : Nat) {p : Nat → Bool} {i : Nat}, i < N → p i = true → (∀ j, j < i → p j = false) → (List.range N).find? p = some i
  | 0, _, _, h, _, _ => by omega
  | N + 1, p, i, h, hp, hj => by
    rw [List.range_succ, List.find?_append]
    by_cases e : i < N
    · rw [find_range N e hp hj]
      rfl
    · have e2 : i = N := by omega
      subst e2
      have : (List.range i).find? p = none := by
        rw [List.find?_eq_none]
        intro x hx
        rw [hj x (List.mem_range.mp hx)]
        exact Bool.noConfusion
      rw [this]
      simp [hp]
theorem find_none {N : Nat} {p : Nat → Bool} (h : ∀ j, j < N → p j = false) : (List.range N).find? p = none := by
  rw [List.find?_eq_none]
  intro x hx
  rw [h x (List.mem_range.mp hx)]
  exact Bool.noConfusion
theorem res_few (sts : List Station) (n : List Nat) (r c d : Nat) : Res sts n (.fewestCustomers r c d) = onC n r (if d = 0 ∨ 1000000 < c ∨ 1000000 < d then error (-22) else if Bad sts (n.set r 1) then error (-33) else
    match (List.range (Lrx5.maxPopulation + 1)).find? fun k => decide (Lrx5.vectors (n.set r k) ≤ Lrx5.maxVectors) && Lrx1.le (Lrx1.reduce c d) (Lrx5.throughput ⟨sts, n.set r k⟩ r) with
      | none => error (-33)
      | some k => Lrx5.number (k : Nat)) := onC_eq sts n r _
theorem proper_set {sts : List Station} {n : List Nat} {r k : Nat} (hr : r < n.length) (h : Proper sts (n.set r 1)) : Proper sts (n.set r k) := fun j => by
  by_cases e : r = j
  · subst e
    rcases h r with z | z
    · rw [count_set_same hr] at z
      cases z
    · exact .inr z
  · rcases h j with z | z
    · rw [count_set_ne e] at z
      exact .inl (by rw [count_set_ne e]; exact z)
    · exact .inr z
theorem gain_fr {sts sts' : List Station} {n : List Nat} (h : Fit sts n) (h' : Fit sts' n) : ((classes ⟨sts, n⟩).map fun k => Lrx1.sub (Lrx5.throughput ⟨sts', n⟩ k) (Lrx5.throughput ⟨sts, n⟩ k)) = ((List.range n.length).map fun k => thr sts' n k - thr sts n k).map fr := by
  rw [List.map_map]
  refine List.map_congr_left fun k _ => ?_
  rw [thr_fr (net := ⟨sts', n⟩) h', thr_fr (net := ⟨sts, n⟩) h, sub_fr]
  rfl
/-! ### the bottleneck -/
def queues (sts : List Station) : List Nat := (List.range sts.length).filter fun i => !(sta sts i).isDelay
theorem mem_queues {sts : List Station} {i : Nat} : i ∈ queues sts ↔ i < sts.length ∧ (sta sts i).isDelay = false := by
  unfold queues
  rw [List.mem_filter, List.mem_range]
  simp
def bestOf (u : Nat → Rat) (l : List Nat) (b : Nat) : Nat := l.foldl (fun best i => if u best < u i then i else best) b
theorem best_mem (u : Nat → Rat) : ∀ (l : List Nat) (b : Nat), bestOf u l b = b ∨ bestOf u l b ∈ l
  | [], b => .inl rfl
  | i :: l, b => by
    show bestOf u l (if u b < u i then i else b) = b ∨ _
    rcases best_mem u l (if u b < u i then i else b) with z | z
    · show bestOf u l _ = b ∨ bestOf u l _ ∈ i :: l
      rw [z]
      split
      · exact .inr (List.mem_cons_self ..)
      · exact .inl rfl
    · exact .inr (List.mem_cons_of_mem _ z)
theorem best_fr {sts : List Station} {n : List Nat} (h : Fit sts n) : ∀ (l : List Nat) (b : Nat), (∀ i ∈ l, i ∈ queues sts) → b ∈ queues sts → l.foldl (fun (best i : Nat) => if Lrx1.lt (Lrx5.utilizationOf ⟨sts, n⟩ best) (Lrx5.utilizationOf ⟨sts, n⟩ i) then i else best) b = bestOf (fun i => util sts n (sta sts i)) l b
  | [], _, _, _ => rfl
  | i :: l, b, hl, hb => by
    have hi := hl i (List.mem_cons_self ..)
    have h1 := mem_queues.mp hi
    have h2 := mem_queues.mp hb
    show l.foldl _ (if Lrx1.lt _ _ = true then i else b) = bestOf _ l (if _ < _ then i else b)
    rw [utilizationOf_fr (net := ⟨sts, n⟩) h h2.1 h2.2, utilizationOf_fr (net := ⟨sts, n⟩) h h1.1 h1.2, lt_fr]
    have e : (if decide (util sts n (sta sts b) < util sts n (sta sts i)) = true then i else b) = if util sts n (sta sts b) < util sts n (sta sts i) then i else b := by
      by_cases z : util sts n (sta sts b) < util sts n (sta sts i)
      · rw [if_pos z, if_pos (decide_eq_true z)]
      · rw [if_neg z, if_neg (by rw [decide_eq_false z]; exact Bool.noConfusion)]
    show l.foldl _ (if decide (util sts n (sta sts b) < util sts n (sta sts i)) = true then i else b) = _
    rw [e]
    refine best_fr h l _ (fun j hj => hl j (List.mem_cons_of_mem _ hj)) ?_
    split
    · exact hi
    · exact hb
def best (sts : List Station) (n : List Nat) : Nat := bestOf (fun i => util sts n (sta sts i)) (queues sts) ((queues sts).headD 0)
theorem queues_nil {sts : List Station} : queues sts = [] ↔ (sts.all fun s => s.isDelay) = true := by
  unfold queues
  rw [List.filter_eq_nil_iff, List.all_eq_true]
  constructor
  · intro h s hs
    obtain ⟨i, hi⟩ := List.mem_iff_getElem?.mp hs
    have hi' := (List.getElem?_eq_some_iff.mp hi).1
    have := h i (List.mem_range.mpr hi')
    have e : sta sts i = s := by
      have z := sta_get hi'
      rw [hi] at z
      exact (Option.some.inj z).symm
    rw [e] at this
    simpa using this
  · intro h i hi
    have hi' := List.mem_range.mp hi
    rw [h _ (sta_mem hi')]
    exact Bool.noConfusion
theorem res_bottleneck {sts : List Station} {n : List Nat} (h : Fit sts n) : Res sts n .bottleneck = if queues sts = [] then error (-33) else prp sts n ⟨(best sts n : Int), Lrx1.ints (fr (util sts n (sta sts (best sts n))))⟩ := by
  unfold Res step
  show (if (sts.all fun s => s.isDelay) = true then error (-33) else properOnly ⟨sts, n⟩ ⟨(((queues sts).foldl (fun (best i : Nat) => if Lrx1.lt (Lrx5.utilizationOf ⟨sts, n⟩ best) (Lrx5.utilizationOf ⟨sts, n⟩ i) then i else best) ((queues sts).headD 0) : Nat) : Int), Lrx5.ints (Lrx5.utilizationOf ⟨sts, n⟩ ((queues sts).foldl (fun (best i : Nat) => if Lrx1.lt (Lrx5.utilizationOf ⟨sts, n⟩ best) (Lrx5.utilizationOf ⟨sts, n⟩ i) then i else best) ((queues sts).headD 0)))⟩) = _
  by_cases hq : queues sts = []
  · rw [if_pos (queues_nil.mp hq), if_pos hq]
  · rw [if_neg fun z => hq (queues_nil.mpr z), if_neg hq]
    have hh : (queues sts).headD 0 ∈ queues sts := by
      cases e : queues sts with
      | nil => exact absurd e hq
      | cons a l => exact List.mem_cons_self ..
    have e := best_fr (n := n) h (queues sts) ((queues sts).headD 0) (fun _ hi => hi) hh
    rw [e]
    have hb : best sts n ∈ queues sts := by
      rcases best_mem (fun i => util sts n (sta sts i)) (queues sts) ((queues sts).headD 0) with z | z
      · unfold best
        rw [z]
        exact hh
      · exact z
    have hb' := mem_queues.mp hb
    show properOnly _ ⟨((best sts n : Nat) : Int), Lrx5.ints (Lrx5.utilizationOf ⟨sts, n⟩ (best sts n))⟩ = _
    rw [utilizationOf_fr (net := ⟨sts, n⟩) h hb'.1 hb'.2]
    rfl
theorem res_summary (sts : List Station) (n : List Nat) : Res sts n .summary = ⟨(sts.length : Int), [(n.length : Int), (tot n : Int), (if isProper ⟨sts, n⟩ then 1 else 0), (if Lrx5.isSimple ⟨sts, n⟩ then 1 else 0)]⟩ := by
  unfold Res step
  simp only [total_eq]
  rfl
end CQ
end
section
set_option Elab.async false
set_option linter.all false
set_option maxRecDepth 100000
set_option maxHeartbeats 4000000
namespace Cq
open PySem PySem.Spec PyProof.Rows L2 CqR
abbrev Kf := PySem.W.Frag
def top (i : Nat) : Stmt := PySem.Challenge.pw_closedqueues_s01_answers.main.body.getD i (.Pass ⟨0, 0, 0, 0⟩)
/-- a def of the module as it stands behind the top -/
structure At (K : Kf) (mg : Str → Option Value) (x : Str) (i : Nat) : Prop where
  fn : ∃ fd, FunD K x x (defArgs (top i)) (defBody (top i)) (defScope (top i)) [] [] (He.ga K x) fd
  gl : mg x = some (.ref (He.ga K x))
/-- a def that keeps a promise, to be called by its name -/
structure Dfn (P : Program) (w : World) (K : Kf) (mg : Str → Option Value) (base : Heap) (CX : CXT) (k : Nat) (x : Str) (ps : List Str) (sp : Sp) : Prop where
  ex : ∃ f fd, FnOk P w K mg base CX k f fd ps sp ∧ mg x = some (.ref f) ∧ PySem.W.keepIn K (.ref f) = true ∧ Binds K fd ps []
section
variable {P : Program} {w : World} {K : Kf} {mg : Str → Option Value} {base : Heap}
/-- a def that lets no error out -/
theorem dfn0 {x : Str} {i : Nat} {N ps : List Str} {k : Nat} {sp : Sp} (T : At K mg x i) (S : FnScope N ps (defScope (top i)))
    (hb : ∀ (kV doc pm : Value) (an : Option Addr) (cdv ct : Value) (us : List Value), us.length = ps.length → bindArgs (PySem.W.fnOf x x (defArgs (top i)) (defBody (top i)) (defScope (top i)) .none kV doc pm an cdv ct) ⟨us, []⟩ = pure (ps.zip us))
    (len : ∀ vs H Q E, sp vs H Q E → vs.length = ps.length)
    (body : ∀ (cdv : Value) (A : Around) (outer : List Env) (s : Shared) (H : Hp) (vs : List V) (Q : VK) (E : XK), Room k (A.deeper (envOfC x (defScope (top i)) s.heap.objs.size (He.ga K x) cdv)) → sp vs H Q E →
      ∃ t, PSs (cxOf CX0 P w K mg base N x (defScope (top i)) (He.ga K x) cdv A outer s H E).nox (defBody (top i)) t ∧ t { nx := fun _ H' => Q .non H', rt := Q } (start N vs) H) :
    Dfn P w K mg base CX0 (k + 1) x ps sp := by
  obtain ⟨fd, F⟩ := T.fn
  refine ⟨_, fd, F.ok S len fun cdv A outer s H vs Q E hr h => ?_, T.gl, F.kp, F.bindsN hb⟩
  obtain ⟨t, h1, h2⟩ := body cdv A outer s H vs Q E hr h
  exact ⟨t, h1.nox, h2⟩
/-- a def that may let errors out -/
theorem dfnX {x : Str} {i : Nat} {N ps : List Str} {k : Nat} {sp : Sp} (T : At K mg x i) (S : FnScope N ps (defScope (top i)))
    (hb : ∀ (kV doc pm : Value) (an : Option Addr) (cdv ct : Value) (us : List Value), us.length = ps.length → bindArgs (PySem.W.fnOf x x (defArgs (top i)) (defBody (top i)) (defScope (top i)) .none kV doc pm an cdv ct) ⟨us, []⟩ = pure (ps.zip us))
    (len : ∀ vs H Q E, sp vs H Q E → vs.length = ps.length)
    (body : ∀ (cdv : Value) (A : Around) (outer : List Env) (s : Shared) (H : Hp) (vs : List V) (Q : VK) (E : XK), Room k (A.deeper (envOfC x (defScope (top i)) s.heap.objs.size (He.ga K x) cdv)) → sp vs H Q E →
      ∃ t, PSs (cxOf (L2.CX P w) P w K mg base N x (defScope (top i)) (He.ga K x) cdv A outer s H E) (defBody (top i)) t ∧ t { nx := fun _ H' => Q .non H', rt := Q } (start N vs) H) :
    Dfn P w K mg base (L2.CX P w) (k + 1) x ps sp := by
  obtain ⟨fd, F⟩ := T.fn
  exact ⟨_, fd, F.ok S len body, T.gl, F.kp, F.bindsN hb⟩
end
section
variable {X : Cx} {CX : CXT} {k : Nat} {x : Str} {ps : List Str} {sp : Sp} {E : XK} {p pos : Pos} {e : Expr} {es : List Expr} {t : TA}
theorem pe_dfn (D : Dfn X.prog X.w X.K X.mg X.base CX k x ps sp) (hr : Room k X.A) (hx : Passes CX X E) (ha : PA X (e :: es) t) (hg : Gl X x := by rfl)
    (hdb : (x == ("__debug__" : Str)) = false := by decide) (he : starEach (e :: es) X.env = (false, eval e X.env) :: starEach es X.env := by rfl) (hpl : (backTo pos (starEach es X.env)).any (·.1) = false := by rfl) :
    PE X (.Call (.Name x p) (e :: es) [] pos) (tCall sp [] E t) := by
  obtain ⟨f, fd, F, hm, hk, hb⟩ := D.ex
  exact pe_call F hr hg hm hk hb .nil hx ha hdb he hpl
theorem pe_dfn0 (D : Dfn X.prog X.w X.K X.mg X.base CX k x ps sp) (hr : Room k X.A) (hx : Passes CX X E) (hg : Gl X x := by rfl) (hdb : (x == ("__debug__" : Str)) = false := by decide) :
    PE X (.Call (.Name x p) [] [] pos) (tCall sp [] E tNil) := by
  obtain ⟨f, fd, F, hm, hk, hb⟩ := D.ex
  exact pe_call0 F hr hg hm hk hb .nil hx hdb
end
end Cq
namespace Cq
open PySem PySem.Spec PyProof.Rows L2 CqR
/-! ### what the top has left -/
def tb (x : Str) (i : Nat) : Str × Nat := (x, i)
def tbl : List (Str × Nat) := [tb "numbers_within" 1, tb "rest_of" 2, tb "with_customers" 3, tb "one_less" 4, tb "power" 5, tb "factorial" 6, tb "factorial_product" 7,
  tb "check_range" 25, tb "check_sizes" 26, tb "check_service" 27, tb "check_demand" 28, tb "check_population" 29, tb "check_numbers" 30, tb "check_sum" 31, tb "check_goal" 32, tb "fits" 33, tb "check_fits" 34, tb "most_fitting" 35,
  tb "is_proper" 39, tb "is_demanded" 40, tb "require_proper" 41, tb "is_simple" 42, tb "with_demand" 43,
  tb "common_divisor" 45, tb "lowest_terms" 46, tb "plus" 47, tb "minus" 48, tb "total" 49, tb "is_less" 50, tb "multiplied" 51, tb "times" 52, tb "divided" 53,
  tb "service_product" 55, tb "demand_product" 56, tb "factor_scale" 57, tb "scaled_factor" 58, tb "factor_table" 59, tb "splits_within" 60, tb "joined" 61, tb "norm_table" 62, tb "network_norm" 63, tb "throughput_in" 64, tb "class_throughput" 65, tb "all_throughputs" 66, tb "throughput_curve" 67,
  tb "marginal_weights" 68, tb "class_mean" 69, tb "station_mean" 70, tb "marginal_probability" 71, tb "sum_probability" 72, tb "rows_probability" 73,
  tb "fraction_answer" 75, tb "fractions_answer" 76, tb "arrival_sees" 78, tb "curve" 79, tb "fewest_customers" 80, tb "gain" 81,
  tb "mean_values" 83, tb "mva_throughput" 84, tb "means_table" 85, tb "means_from" 86, tb "stays_at" 87, tb "stay_at" 88, tb "rate_of" 89,
  tb "norm" 91, tb "throughput" 92, tb "cycle" 93, tb "mean_number" 94, tb "station_number" 95, tb "residence" 96, tb "busy" 97, tb "utilization" 98, tb "utilization_of" 99, tb "bottleneck" 100,
  tb "marginal" 102, tb "number_probability" 103, tb "idle" 104, tb "state_probability" 105, tb "rows_of" 106, tb "check_sums" 107,
  tb "create" 109, tb "set_station" 110, tb "set_demand" 111, tb "set_population" 112, tb "get_demand" 113, tb "get_population" 114, tb "summary" 115,
  tb "answers" 119, tb "call_length" 120, tb "answer_or_code" 121, tb "answer_to" 122, tb "settings_answer" 123, tb "measures_answer" 124, tb "probabilities_answer" 125, tb "analysis_answer" 126, tb "changes_answer" 127]
def argCounts : List Nat := [2, 3, 3, 2, 2, 1, 0, 1, 1, 2, 1, 2, 2, 1, 1, 2, 1, 0, 0, 1, 2, 2, 3, 3, 0, 0]
/-- a method of a class, or its __init__ -/
def MAt (K : Kf) (C m q : Str) (i j : Nat) : Prop := ∃ fd, FunD K m q (defArgs (inClass (top i) j)) (defBody (inClass (top i) j)) (defScope (inClass (top i) j)) [] [] (He.ma K (He.ga K C) m) fd
abbrev cS (K : Kf) : Addr := He.ga K "Station"
abbrev cN (K : Kf) : Addr := He.ga K "Network"
/-- the names of the error classes with their codes -/
def eb (x : Str) (c : Int) (i : Nat) : Str × Int × Nat := (x, c, i)
def errs : List (Str × Int × Nat) := [eb "NoInstance" (-11) 10, eb "NoSuchStationOrClass" (-2) 11, eb "NoCustomers" (-6) 12, eb "OutOfRange" (-22) 13, eb "PopulationsTooLarge" (-28) 14, eb "NoResult" (-33) 15]
structure Facts (K : Kf) (mg : Str → Option Value) : Prop where
  d : ∀ (j : Nat) {x : Str} {i : Nat}, tbl[j]? = some (x, i) → At K mg x i
  f_len : mg "len" = none
  f_range : mg "range" = none
  f_enumerate : mg "enumerate" = none
  f_zip : mg "zip" = none
  f_sum : mg "sum" = none
  f_min : mg "min" = none
  f_max : mg "max" = none
  f_list : mg "list" = none
  f_tuple : mg "tuple" = none
  f_Exception : mg "Exception" = none
  g_MOST_STATIONS : ∃ t, mg "MOST_STATIONS" = some (.int 5 t)
  g_MOST_CLASSES : ∃ t, mg "MOST_CLASSES" = some (.int 3 t)
  g_MOST_SERVERS : ∃ t, mg "MOST_SERVERS" = some (.int 20 t)
  g_MOST_DEMAND : ∃ t, mg "MOST_DEMAND" = some (.int 1000 t)
  g_MOST_POPULATION : ∃ t, mg "MOST_POPULATION" = some (.int 12 t)
  g_MOST_CUSTOMERS : ∃ t, mg "MOST_CUSTOMERS" = some (.int 100 t)
  g_MOST_TERM : ∃ t, mg "MOST_TERM" = some (.int 1000000 t)
  g_MOST_PRODUCT : ∃ t, mg "MOST_PRODUCT" = some (.int 40 t)
  g_ARGUMENT_COUNTS : mg "ARGUMENT_COUNTS" = some (.ref (He.ga K "ARGUMENT_COUNTS"))
  g_CALLS_WITH_ROW : mg "CALLS_WITH_ROW" = some (.ref (He.ga K "CALLS_WITH_ROW"))
  s_ARGUMENT_COUNTS : ∀ H, SqT K H (He.ga K "ARGUMENT_COUNTS") (argCounts.map fun (n : Nat) => V.int (n : Int))
  s_CALLS_WITH_ROW : ∀ H, SqT K H (He.ga K "CALLS_WITH_ROW") [V.int 14, V.int 17]
  g_Station : mg "Station" = some (.ref (cS K))
  g_Network : mg "Network" = some (.ref (cN K))
  cl_Station : Cls K (cS K)
  cl_Network : Cls K (cN K)
  mk_Station : Mk K (cS K) (He.ma K (cS K) "__init__")
  mk_Network : Mk K (cN K) (He.ma K (cN K) "__init__")
  n_is_delay : NoAttr K (cS K) "is_delay"
  n_servers : NoAttr K (cS K) "servers"
  n_demands : NoAttr K (cS K) "demands"
  n_stations : NoAttr K (cN K) "stations"
  n_populations : NoAttr K (cN K) "populations"
  i_Station : MAt K "Station" "__init__" "Station.__init__" 37 0
  i_Network : MAt K "Network" "__init__" "Network.__init__" 38 0
  m_exists : MAt K "Network" "check_exists" "Network.check_exists" 38 1 ∧ Meth K (cN K) "check_exists" (He.ma K (cN K) "check_exists")
  m_station : MAt K "Network" "check_station" "Network.check_station" 38 2 ∧ Meth K (cN K) "check_station" (He.ma K (cN K) "check_station")
  m_class : MAt K "Network" "check_class" "Network.check_class" 38 3 ∧ Meth K (cN K) "check_class" (He.ma K (cN K) "check_class")
  m_customers : MAt K "Network" "check_customers" "Network.check_customers" 38 4 ∧ Meth K (cN K) "check_customers" (He.ma K (cN K) "check_customers")
  m_queue : MAt K "Network" "check_queue" "Network.check_queue" 38 5 ∧ Meth K (cN K) "check_queue" (He.ma K (cN K) "check_queue")
  m_proper : MAt K "Network" "check_proper" "Network.check_proper" 38 6 ∧ Meth K (cN K) "check_proper" (He.ma K (cN K) "check_proper")
  m_simple : MAt K "Network" "check_simple" "Network.check_simple" 38 7 ∧ Meth K (cN K) "check_simple" (He.ma K (cN K) "check_simple")
  e : ∀ (j : Nat) {x : Str} {c : Int} {i : Nat}, errs[j]? = some (x, c, i) → CqH.ExFacts K mg x ∧ MAt K x "__init__" (x ++ ".__init__") i 0
  r_ex : CqH.ExFacts K mg "Refusal"
  r_cl : CqH.ClFacts K "Refusal"
  r_in : MAt K "Refusal" "__init__" "Refusal.__init__" 9 0
section
variable {X : Cx}
theorem pe_globI {x : Str} {pos : Pos} {i : Int} (h : ∃ t, X.mg x = some (.int i t)) (hg : Gl X x := by rfl) (hdb : (x == ("__debug__" : Str)) = false := by decide) : PE X (.Name x pos) (tC (.int i)) := by
  obtain ⟨t, h⟩ := h
  exact pe_glob hg h ⟨t, rfl⟩ hdb
end
/-- a tuple as a comprehension's target -/
theorem pg_tupB {X : Cx} {s : Shared} {H : Hp} {scope : Scope} {en : Env} {fp : List Addr} {pos : Pos} {es : List Expr} {k : Nat} {t : TGs} {n : Nat} (hc : X.calm = true) (h : PGs (X.blk s H scope en fp) es t)
    (hn : (assignEach es en).length = n) (hst : (assignEach es en).findIdx? (·.1) = none) : PG (X.blk s H scope en fp) (.Tuple es k pos) (gTup X.K n t) := pg_tup hc h hn hst
/-- a comprehension without a condition -/
theorem yes {σ : L2.St} {H : Hp} {A B : Hp → Prop} (h : A H) : tYes σ H (fun b H3 => if b = true then A H3 else B H3) := iteT (B := B H) h
/-! ### heaps -/
/-- a tuple, a list of numbers -/
def nv (ns : List Nat) : List V := ns.map fun (n : Nat) => V.int (n : Int)
def TN (H : Hp) (a : Addr) (ns : List Nat) : Prop := H a = some (.tup (nv ns))
theorem nv_len (ns : List Nat) : (nv ns).length = ns.length := List.length_map ..
theorem nv_get (ns : List Nat) (i : Nat) : (nv ns)[i]? = (ns[i]?).map fun (n : Nat) => V.int (n : Int) := List.getElem?_map ..
theorem nv_append (a b : List Nat) : nv (a ++ b) = nv a ++ nv b := List.map_append ..
theorem TN.sq {K : Kf} {H : Hp} {a : Addr} {ns : List Nat} (h : TN H a ns) : SqT K H a (nv ns) := SqT.of h
/-- tuples of such, at addresses -/
def AllT (H : Hp) : List Addr → List (List Nat) → Prop
  | [], [] => True
  | a :: as, n :: ns => TN H a n ∧ AllT H as ns
  | _, _ => False
theorem TN.mono {H H' : Hp} (s : Same H H') {a : Addr} {n : List Nat} (h : TN H a n) : TN H' a n := s a _ h
theorem AllT.mono {H H' : Hp} (s : ∀ a xs, H a = some (.tup xs) → H' a = some (.tup xs)) : ∀ {as : List Addr} {ns : List (List Nat)}, AllT H as ns → AllT H' as ns
  | [], [], _ => True.intro
  | _ :: _, _ :: _, h => ⟨s _ _ h.1, AllT.mono s h.2⟩
theorem AllT.len {H : Hp} : ∀ {as : List Addr} {ns : List (List Nat)}, AllT H as ns → as.length = ns.length
  | [], [], _ => rfl
  | _ :: _, _ :: _, h => by simp [AllT.len h.2]
theorem AllT.get {H : Hp} : ∀ {as : List Addr} {ns : List (List Nat)} {i : Nat} {a : Addr}, AllT H as ns → as[i]? = some a → ∃ n, ns[i]? = some n ∧ TN H a n
  | [], [], i, a, _, e => by simp at e
  | b :: as, n :: ns, 0, a, h, e => ⟨n, rfl, by have : b = a := by simpa using e
                                                subst this; exact h.1⟩
  | _ :: as, _ :: ns, i + 1, a, h, e => by
    obtain ⟨n, h1, h2⟩ := AllT.get (i := i) h.2 (by simpa using e)
    exact ⟨n, by simpa using h1, h2⟩
theorem AllT.snoc {H : Hp} {a : Addr} {n : List Nat} (ha : TN H a n) : ∀ {as : List Addr} {ns : List (List Nat)}, AllT H as ns → AllT H (as ++ [a]) (ns ++ [n])
  | [], [], _ => ⟨ha, True.intro⟩
  | _ :: _, _ :: _, h => ⟨h.1, AllT.snoc ha h.2⟩
def rv (as : List Addr) : List V := as.map V.ref
def LT (H : Hp) (l : Addr) (ns : List (List Nat)) : Prop := ∃ as, H l = some (.lst (rv as)) ∧ AllT H as ns
theorem LT.mono {H H' : Hp} (s : Same H H') {l : Addr} {ns : List (List Nat)} (h : LT H l ns) : LT H' l ns := by
  obtain ⟨as, h1, h2⟩ := h
  exact ⟨as, s _ _ h1, h2.mono fun a xs e => s a _ e⟩
/-! ### what stays -/
theorem sPut {H0 H : Hp} {l : Addr} {o : HO} (s : Same H0 H) (n : H0 l = none) : Same H0 (upd H l o) := fun b u e => by
  rw [upd_ne (ne_of_none e n)]
  exact s b u e
theorem sNew {H0 H : Hp} {l : Addr} {o : HO} (s : Same H0 H) (n : H l = none) : Same H0 (upd H l o) := sPut s (s.free n)
theorem same_new {H : Hp} {l : Addr} {o : HO} (n : H l = none) : Same H (upd H l o) := sNew (Same.refl H) n
/-- tuples stay, whatever list is written -/
theorem tup_put {H : Hp} {l : Addr} {xs : List V} {o : HO} (hl : H l = some (.lst xs)) : ∀ a ys, H a = some (.tup ys) → upd H l o a = some (.tup ys) := fun a ys e => by
  rw [upd_ne (ne_of e hl (fun z => nomatch z))]
  exact e
theorem tup_new {H : Hp} {l : Addr} {o : HO} (n : H l = none) : ∀ a ys, H a = some (.tup ys) → upd H l o a = some (.tup ys) := fun a ys e => by
  rw [upd_ne (ne_of_none e n)]
  exact e
end Cq
end
section
set_option Elab.async false
set_option linter.all false
set_option maxRecDepth 100000
set_option maxHeartbeats 4000000
namespace Cq
open PySem PySem.Spec PyProof.Rows L2 CqR
/-! ### methods -/
structure Mth (P : Program) (w : World) (K : Kf) (mg : Str → Option Value) (base : Heap) (CX : CXT) (k : Nat) (C : Addr) (m : Str) (ps : List Str) (sp : Sp) : Prop where
  ex : ∃ f fd, FnOk P w K mg base CX k f fd ps sp ∧ Meth K C m f ∧ Binds K fd ps [] ∧ Cls K C
section
variable {P : Program} {w : World} {K : Kf} {mg : Str → Option Value} {base : Heap}
theorem mthX {C m q : Str} {i j : Nat} {N ps : List Str} {k : Nat} {sp : Sp} (T : MAt K C m q i j ∧ Meth K (He.ga K C) m (He.ma K (He.ga K C) m)) (cl : Cls K (He.ga K C)) (S : FnScope N ps (defScope (inClass (top i) j)))
    (hb : ∀ (kV doc pm : Value) (an : Option Addr) (cdv ct : Value) (us : List Value), us.length = ps.length → bindArgs (PySem.W.fnOf m q (defArgs (inClass (top i) j)) (defBody (inClass (top i) j)) (defScope (inClass (top i) j)) .none kV doc pm an cdv ct) ⟨us, []⟩ = pure (ps.zip us))
    (len : ∀ vs H Q E, sp vs H Q E → vs.length = ps.length)
    (body : ∀ (cdv : Value) (A : Around) (outer : List Env) (s : Shared) (H : Hp) (vs : List V) (Q : VK) (E : XK), Room k (A.deeper (envOfC q (defScope (inClass (top i) j)) s.heap.objs.size (He.ma K (He.ga K C) m) cdv)) → sp vs H Q E →
      ∃ t, PSs (cxOf (L2.CX P w) P w K mg base N q (defScope (inClass (top i) j)) (He.ma K (He.ga K C) m) cdv A outer s H E) (defBody (inClass (top i) j)) t ∧ t { nx := fun _ H' => Q .non H', rt := Q } (start N vs) H) :
    Mth P w K mg base (L2.CX P w) (k + 1) (He.ga K C) m ps sp := by
  obtain ⟨⟨fd, F⟩, M⟩ := T
  exact ⟨_, fd, F.ok S len body, M, F.bindsN hb, cl⟩
/-- an __init__ -/
structure Ini (P : Program) (w : World) (K : Kf) (mg : Str → Option Value) (base : Heap) (CX : CXT) (k : Nat) (f : Addr) (ps : List Str) (sp : Sp) : Prop where
  ex : ∃ fd, FnOk P w K mg base CX k f fd ps sp ∧ Binds K fd ps []
theorem ini0 {C m q : Str} {i j : Nat} {N ps : List Str} {k : Nat} {sp : Sp} (T : MAt K C m q i j) (S : FnScope N ps (defScope (inClass (top i) j)))
    (hb : ∀ (kV doc pm : Value) (an : Option Addr) (cdv ct : Value) (us : List Value), us.length = ps.length → bindArgs (PySem.W.fnOf m q (defArgs (inClass (top i) j)) (defBody (inClass (top i) j)) (defScope (inClass (top i) j)) .none kV doc pm an cdv ct) ⟨us, []⟩ = pure (ps.zip us))
    (len : ∀ vs H Q E, sp vs H Q E → vs.length = ps.length)
    (body : ∀ (cdv : Value) (A : Around) (outer : List Env) (s : Shared) (H : Hp) (vs : List V) (Q : VK) (E : XK), Room k (A.deeper (envOfC q (defScope (inClass (top i) j)) s.heap.objs.size (He.ma K (He.ga K C) m) cdv)) → sp vs H Q E →
      ∃ t, PSs (cxOf CX0 P w K mg base N q (defScope (inClass (top i) j)) (He.ma K (He.ga K C) m) cdv A outer s H E).nox (defBody (inClass (top i) j)) t ∧ t { nx := fun _ H' => Q .non H', rt := Q } (start N vs) H) :
    Ini P w K mg base CX0 (k + 1) (He.ma K (He.ga K C) m) ps sp := by
  obtain ⟨fd, F⟩ := T
  refine ⟨fd, F.ok S len fun cdv A outer s H vs Q E hr h => ?_, F.bindsN hb⟩
  obtain ⟨t, h1, h2⟩ := body cdv A outer s H vs Q E hr h
  exact ⟨t, h1.nox, h2⟩
end
section
variable {X : Cx} {CX : CXT} {k : Nat} {x m : Str} {C f : Addr} {ps : List Str} {sp : Sp} {E : XK} {p pos apos : Pos} {o e : Expr} {es : List Expr} {ta : TE} {t : TA}
theorem pe_mth {pl : Sem Bool} (M : Mth X.prog X.w X.K X.mg X.base CX k C m ps sp) (hr : Room k X.A) (hx : Passes CX X E) (he : PE X o ta) (ha : PA X (e :: es) t)
    (hst : starEach (e :: es) X.env = (false, eval e X.env) :: starEach es X.env := by rfl) (hpl : (backTo pos (starEach es X.env)).any (·.1) = false := by rfl)
    (ht : eval (.Call (.Attribute o m apos) (e :: es) [] pos) X.env = (do
      let ov ← eval o X.env
      standAt apos.atName
      let (f, first) ← holding [ov] (getMethod ov m pl)
      callWith pos f first (backTo pos (starEach (e :: es) X.env)) (backToKw pos (keywordEach [] X.env))) := by rfl) :
    PE X (.Call (.Attribute o m apos) (e :: es) [] pos) (tMeth C m sp [] E ta t) := by
  obtain ⟨f, fd, F, hm, hb, c⟩ := M.ex
  exact pe_meth he c hm F hr hb .nil hx ha hst hpl ht
theorem pe_mth0 {pl : Sem Bool} (M : Mth X.prog X.w X.K X.mg X.base CX k C m ps sp) (hr : Room k X.A) (hx : Passes CX X E) (he : PE X o ta)
    (ht : eval (.Call (.Attribute o m apos) [] [] pos) X.env = (do
      let ov ← eval o X.env
      standAt apos.atName
      let (f, first) ← holding [ov] (getMethod ov m pl)
      callWith pos f first (backTo pos (starEach [] X.env)) (backToKw pos (keywordEach [] X.env))) := by rfl) :
    PE X (.Call (.Attribute o m apos) [] [] pos) (tMeth C m sp [] E ta tNil) := by
  obtain ⟨f, fd, F, hm, hb, c⟩ := M.ex
  exact pe_meth0 he c hm F hr hb .nil hx ht
theorem pe_mk (M : Mk X.K C f) (D : Ini X.prog X.w X.K X.mg X.base CX0 k f ps sp) (hm : X.mg x = some (.ref C)) (hr : Room (k + 1) X.A) (ha : PA X (e :: es) t) (hg : Gl X x := by rfl)
    (hdb : (x == ("__debug__" : Str)) = false := by decide) (he : starEach (e :: es) X.env = (false, eval e X.env) :: starEach es X.env := by rfl) (hpl : (backTo pos (starEach es X.env)).any (·.1) = false := by rfl) :
    PE X (.Call (.Name x p) (e :: es) [] pos) (tMake C sp [] E0 t) := by
  obtain ⟨fd, F, hb⟩ := D.ex
  exact pe_make M F hr hg hm hb .nil pass0 ha hdb he hpl
theorem pe_mk0 (M : Mk X.K C f) (D : Ini X.prog X.w X.K X.mg X.base CX0 k f ps sp) (hm : X.mg x = some (.ref C)) (hr : Room (k + 1) X.A) (hg : Gl X x := by rfl)
    (hdb : (x == ("__debug__" : Str)) = false := by decide) : PE X (.Call (.Name x p) [] [] pos) (tMake C sp [] E0 tNil) := by
  obtain ⟨fd, F, hb⟩ := D.ex
  exact pe_make0 M F hr hg hm hb .nil pass0 hdb
end
section
variable {X : Cx} {s : Shared} {H : Hp} {scope : Scope} {en : Env} {fp : List Addr} {o : Expr} {f : Str} {pos : Pos} {ta : TE}
/-! ### within a comprehension -/
theorem ix_listB : IxR (X.blk s H scope en fp) (rIxL X.K) := ix_list
theorem ix_tupB : IxR (X.blk s H scope en fp) (rIxT X.K) := ix_tup
theorem cr_sumTB (hc : X.calm = true) : CallR (X.blk s H scope en fp) (.builtin "sum") (rSumT X.K) := cr_sumT hc
theorem call_tuple_ofB : CallR (X.blk s H scope en fp) (.type "tuple") (fun xs H Q => ∃ p ys, xs = [.ref p] ∧ ((SqL X.K H p ys ∧ ∀ l, H l = none → Q (.ref l) (upd H l (.tup ys))) ∨ (SqT X.K H p ys ∧ Q (.ref p) H))) := call_tuple_of
theorem sl_listB : SlR (X.blk s H scope en fp) (rSlL X.K) := sl_list
theorem pe_fldB (he : PE (X.blk s H scope en fp) o ta) (hb : attributeBase o f (X.blk s H scope en fp).env (eval o (X.blk s H scope en fp).env) = eval o (X.blk s H scope en fp).env) : PE (X.blk s H scope en fp) (.Attribute o f pos) (tFld X.K ta f) := pe_fld he hb
theorem pe_globR {x : Str} {a : Addr} (hg : Gl X x) (hm : X.mg x = some (.ref a)) (hd : (x == ("__debug__" : Str)) = false := by decide) : PE X (.Name x pos) (tC (.ref a)) := pe_glob hg hm rfl hd
end
/-! ### errors -/
/-- an error of the class with the code is let out -/
def Er (K : Kf) (x : Str) (c : Int) (H : Hp) (E : XK) : Prop := ∀ d H', Same H H' → H' d = some (.xd [("code", .int c)]) → E (.ref (He.ga K x)) (some d) H'
theorem Er.mono {K : Kf} {x : Str} {c : Int} {H H1 : Hp} {E : XK} (h : Er K x c H E) (s : Same H H1) : Er K x c H1 E := fun d H' s' e => h d H' (s.trans s') e
/-- X.__init__(self, code) of the base -/
def spRef (K : Kf) : Sp := fun vs H Q _ => ∃ (a C : Addr) (y : V), vs = [.ref a, y] ∧ ExE K C ∧ PySem.W.findIn K (.ref C) "code" = some none ∧ H a = some (exo a C none) ∧
  ∀ dx, H dx = none → dx ≠ a → Q .non (upd (upd H dx (exd dx [("code", y)])) a (exo a C (some dx)))
def spErr (K : Kf) (x : Str) (c : Int) : Sp := fun vs H Q _ => ∃ a, vs = [.ref a] ∧ H a = some (exo a (He.ga K x) none) ∧
  ∀ dx, H dx = none → dx ≠ a → Q .non (upd (upd H dx (exd dx [("code", .int c)])) a (exo a (He.ga K x) (some dx)))
section
variable {P : Program} {w : World} {K : Kf} {mg : Str → Option Value} {base : Heap}
theorem sc_Refusal_init : FnScope ["self", "code"] ["self", "code"] (defScope (inClass (top 9) 0)) := ⟨rfl, rfl, rfl, by decide +kernel, rfl, by decide +kernel, by decide +kernel⟩
theorem ini_Refusal (T : Facts K mg) : Ini P w K mg base CX0 1 (He.ma K (He.ga K "Refusal") "__init__") ["self", "code"] (spRef K) := by
  refine ini0 T.r_in sc_Refusal_init (fun _ _ _ _ _ _ us hl => match us, hl with | [_, _], _ => rfl) (fun vs H Q E h => by obtain ⟨a, C, y, rfl, _⟩ := h; rfl) fun cdv A outer s H vs Q E hr h => ⟨_,
    (pss_cons (ps_expr (pe_exI rfl T.f_Exception T.r_cl.eI (pa_cons (pv 0) pa_nil)))
    (pss_one (ps_exS (pv 0) (pv 1)))), ?_⟩
  obtain ⟨a, C, y, rfl, hC, hno, ha, q⟩ := h
  exact ⟨_, rfl, a, C, [], rfl, by decide, hC, ha, _, rfl, _, rfl, a, C, rfl, hC, hno, ha, q⟩
end
end Cq
end
section
set_option Elab.async false
set_option linter.all false
set_option maxRecDepth 100000
set_option maxHeartbeats 4000000
namespace Cq
open PySem PySem.Spec PyProof.Rows L2 CqR
section
variable {P : Program} {w : World} {K : Kf} {mg : Str → Option Value} {base : Heap}
theorem sc_NoInstance_init : FnScope ["self"] ["self"] (defScope (inClass (top 10) 0)) := ⟨rfl, rfl, rfl, by decide +kernel, rfl, by decide +kernel, by decide +kernel⟩
theorem ini_NoInstance (T : Facts K mg) : Ini P w K mg base CX0 2 (He.ma K (He.ga K "NoInstance") "__init__") ["self"] (spErr K "NoInstance" (-11)) := by
  refine ini0 (T.e 0 rfl).2 sc_NoInstance_init (fun _ _ _ _ _ _ us hl => match us, hl with | [_], _ => rfl) (fun vs H Q E h => by obtain ⟨a, rfl, _⟩ := h; rfl) fun cdv A outer s H vs Q E hr h => ?_
  obtain ⟨fd, F, hb⟩ := (ini_Refusal (P := P) (w := w) (base := base) T).ex
  refine ⟨_, (pss_one (ps_expr (pe_clsI rfl T.r_ex.gl T.r_cl.ga T.r_cl.rd T.r_cl.fc T.r_cl.kf F hr hb pass0 (pa_cons (pv 0) (pa_cons (pe_un un_neg pe_int) pa_nil))))), ?_⟩
  obtain ⟨a, rfl, ha, q⟩ := h
  exact ⟨_, rfl, _, rfl, a, _, _, rfl, (T.e 0 rfl).1.ex, (T.e 0 rfl).1.no, ha, q⟩
theorem sc_NoSuchStationOrClass_init : FnScope ["self"] ["self"] (defScope (inClass (top 11) 0)) := ⟨rfl, rfl, rfl, by decide +kernel, rfl, by decide +kernel, by decide +kernel⟩
theorem ini_NoSuchStationOrClass (T : Facts K mg) : Ini P w K mg base CX0 2 (He.ma K (He.ga K "NoSuchStationOrClass") "__init__") ["self"] (spErr K "NoSuchStationOrClass" (-2)) := by
  refine ini0 (T.e 1 rfl).2 sc_NoSuchStationOrClass_init (fun _ _ _ _ _ _ us hl => match us, hl with | [_], _ => rfl) (fun vs H Q E h => by obtain ⟨a, rfl, _⟩ := h; rfl) fun cdv A outer s H vs Q E hr h => ?_
  obtain ⟨fd, F, hb⟩ := (ini_Refusal (P := P) (w := w) (base := base) T).ex
  refine ⟨_, (pss_one (ps_expr (pe_clsI rfl T.r_ex.gl T.r_cl.ga T.r_cl.rd T.r_cl.fc T.r_cl.kf F hr hb pass0 (pa_cons (pv 0) (pa_cons (pe_un un_neg pe_int) pa_nil))))), ?_⟩
  obtain ⟨a, rfl, ha, q⟩ := h
  exact ⟨_, rfl, _, rfl, a, _, _, rfl, (T.e 1 rfl).1.ex, (T.e 1 rfl).1.no, ha, q⟩
theorem sc_NoCustomers_init : FnScope ["self"] ["self"] (defScope (inClass (top 12) 0)) := ⟨rfl, rfl, rfl, by decide +kernel, rfl, by decide +kernel, by decide +kernel⟩
theorem ini_NoCustomers (T : Facts K mg) : Ini P w K mg base CX0 2 (He.ma K (He.ga K "NoCustomers") "__init__") ["self"] (spErr K "NoCustomers" (-6)) := by
  refine ini0 (T.e 2 rfl).2 sc_NoCustomers_init (fun _ _ _ _ _ _ us hl => match us, hl with | [_], _ => rfl) (fun vs H Q E h => by obtain ⟨a, rfl, _⟩ := h; rfl) fun cdv A outer s H vs Q E hr h => ?_
  obtain ⟨fd, F, hb⟩ := (ini_Refusal (P := P) (w := w) (base := base) T).ex
  refine ⟨_, (pss_one (ps_expr (pe_clsI rfl T.r_ex.gl T.r_cl.ga T.r_cl.rd T.r_cl.fc T.r_cl.kf F hr hb pass0 (pa_cons (pv 0) (pa_cons (pe_un un_neg pe_int) pa_nil))))), ?_⟩
  obtain ⟨a, rfl, ha, q⟩ := h
  exact ⟨_, rfl, _, rfl, a, _, _, rfl, (T.e 2 rfl).1.ex, (T.e 2 rfl).1.no, ha, q⟩
theorem sc_OutOfRange_init : FnScope ["self"] ["self"] (defScope (inClass (top 13) 0)) := ⟨rfl, rfl, rfl, by decide +kernel, rfl, by decide +kernel, by decide +kernel⟩
theorem ini_OutOfRange (T : Facts K mg) : Ini P w K mg base CX0 2 (He.ma K (He.ga K "OutOfRange") "__init__") ["self"] (spErr K "OutOfRange" (-22)) := by
  refine ini0 (T.e 3 rfl).2 sc_OutOfRange_init (fun _ _ _ _ _ _ us hl => match us, hl with | [_], _ => rfl) (fun vs H Q E h => by obtain ⟨a, rfl, _⟩ := h; rfl) fun cdv A outer s H vs Q E hr h => ?_
  obtain ⟨fd, F, hb⟩ := (ini_Refusal (P := P) (w := w) (base := base) T).ex
  refine ⟨_, (pss_one (ps_expr (pe_clsI rfl T.r_ex.gl T.r_cl.ga T.r_cl.rd T.r_cl.fc T.r_cl.kf F hr hb pass0 (pa_cons (pv 0) (pa_cons (pe_un un_neg pe_int) pa_nil))))), ?_⟩
  obtain ⟨a, rfl, ha, q⟩ := h
  exact ⟨_, rfl, _, rfl, a, _, _, rfl, (T.e 3 rfl).1.ex, (T.e 3 rfl).1.no, ha, q⟩
theorem sc_PopulationsTooLarge_init : FnScope ["self"] ["self"] (defScope (inClass (top 14) 0)) := ⟨rfl, rfl, rfl, by decide +kernel, rfl, by decide +kernel, by decide +kernel⟩
theorem ini_PopulationsTooLarge (T : Facts K mg) : Ini P w K mg base CX0 2 (He.ma K (He.ga K "PopulationsTooLarge") "__init__") ["self"] (spErr K "PopulationsTooLarge" (-28)) := by
  refine ini0 (T.e 4 rfl).2 sc_PopulationsTooLarge_init (fun _ _ _ _ _ _ us hl => match us, hl with | [_], _ => rfl) (fun vs H Q E h => by obtain ⟨a, rfl, _⟩ := h; rfl) fun cdv A outer s H vs Q E hr h => ?_
  obtain ⟨fd, F, hb⟩ := (ini_Refusal (P := P) (w := w) (base := base) T).ex
  refine ⟨_, (pss_one (ps_expr (pe_clsI rfl T.r_ex.gl T.r_cl.ga T.r_cl.rd T.r_cl.fc T.r_cl.kf F hr hb pass0 (pa_cons (pv 0) (pa_cons (pe_un un_neg pe_int) pa_nil))))), ?_⟩
  obtain ⟨a, rfl, ha, q⟩ := h
  exact ⟨_, rfl, _, rfl, a, _, _, rfl, (T.e 4 rfl).1.ex, (T.e 4 rfl).1.no, ha, q⟩
theorem sc_NoResult_init : FnScope ["self"] ["self"] (defScope (inClass (top 15) 0)) := ⟨rfl, rfl, rfl, by decide +kernel, rfl, by decide +kernel, by decide +kernel⟩
theorem ini_NoResult (T : Facts K mg) : Ini P w K mg base CX0 2 (He.ma K (He.ga K "NoResult") "__init__") ["self"] (spErr K "NoResult" (-33)) := by
  refine ini0 (T.e 5 rfl).2 sc_NoResult_init (fun _ _ _ _ _ _ us hl => match us, hl with | [_], _ => rfl) (fun vs H Q E h => by obtain ⟨a, rfl, _⟩ := h; rfl) fun cdv A outer s H vs Q E hr h => ?_
  obtain ⟨fd, F, hb⟩ := (ini_Refusal (P := P) (w := w) (base := base) T).ex
  refine ⟨_, (pss_one (ps_expr (pe_clsI rfl T.r_ex.gl T.r_cl.ga T.r_cl.rd T.r_cl.fc T.r_cl.kf F hr hb pass0 (pa_cons (pv 0) (pa_cons (pe_un un_neg pe_int) pa_nil))))), ?_⟩
  obtain ⟨a, rfl, ha, q⟩ := h
  exact ⟨_, rfl, _, rfl, a, _, _, rfl, (T.e 5 rfl).1.ex, (T.e 5 rfl).1.no, ha, q⟩
end
section
variable {X : Cx} {p pos pos2 : Pos} {x : Str} {c : Int} {i : Nat} {W : WX}
/-- raise X() -/
def tErr (K : Kf) (x : Str) (c : Int) (W : WX) : TS := fun _ σ H => ∀ d H', Same H H' → H' d = some (.xd [("code", .int c)]) → W (.ref (He.ga K x)) (some d) σ H'
theorem ps_err (F : CqH.ExFacts X.K X.mg x) (D : Ini X.prog X.w X.K X.mg X.base CX0 2 (He.ma X.K (He.ga X.K x) "__init__") ["self"] (spErr X.K x c)) (hr : Room 3 X.A) (hc : X.calm = true) (tk : Takes X W) (hg : Gl X x := by rfl) (hdb : (x == ("__debug__" : Str)) = false := by decide) :
    PS X (.Raise (some (.Call (.Name x p) [] [] pos)) none pos2) (tErr X.K x c W) := by
  obtain ⟨fd, G, hb⟩ := D.ex
  have z := ps_raise (pos := pos2) hc tk (pmk_ex0 (p := p) (pos := pos) F.ex F.ini F.ty G hr hb pass0 hg F.gl hdb)
  refine ⟨fun pins s σ H D I h => z.run pins s σ H D I ?_⟩
  intro a ha
  refine ⟨a, rfl, upd_same, fun dx hdx ne => ⟨rfl, dx, [("code", .int c)], upd_same, ?_, ?_, ?_⟩⟩
  · rw [upd_ne ne, upd_same]
  · rw [upd_ne ne] at hdx
    exact hdx
  · rw [upd_ne ne] at hdx
    refine h dx _ (fun b u e => ?_) upd_same
    have n1 : b ≠ a := ne_of_none e ha
    have n2 : b ≠ dx := ne_of_none e hdx
    rw [upd_ne n2, del_ne n1, upd_ne n1, upd_ne n2, upd_ne n1]
    exact e
end
end Cq
end
section
set_option Elab.async false
set_option linter.all false
set_option maxRecDepth 100000
set_option maxHeartbeats 4000000
set_option exponentiation.threshold 100000
namespace Cq
open PySem PySem.Spec PyProof.Rows L2 CqR
open Lrx5 (below)
open CQ (vec ext)
section
variable {P : Program} {w : World} {K : Kf} {mg : Str → Option Value} {base : Heap}
/-! ### numbers_within -/
def spNW : Sp := fun vs H Q _ => ∃ (a : Addr) (lim : List Nat), vs = [.ref a] ∧ TN H a lim ∧ vec lim ≤ 1000 ∧ lim.length ≤ 1000 ∧ ∀ p H', Same H H' → LT H' p (below lim) → Q (.ref p) H'
theorem sc_numbers_within : FnScope ["limits", "found", "limit", "longer", "numbers", "customers"] ["limits"] (defScope (top 1)) := ⟨rfl, rfl, rfl, by decide +kernel, rfl, by decide +kernel, by decide +kernel⟩
theorem sizeK {n : Nat} (h : n ≤ 100000) : n < sizeLine := by
  rw [sizeLine_eq]
  omega
theorem take_one {α : Type} {l : List α} {i : Nat} {x : α} (h : l[i]? = some x) : l.take (i + 1) = l.take i ++ [x] := by
  rw [List.take_add_one, h]
  rfl
theorem getE {α : Type} {l : List α} {i : Nat} (h : i < l.length) : ∃ x, l[i]? = some x := ⟨l[i], List.getElem?_eq_getElem h⟩
theorem ltE {α : Type} {l : List α} {i : Nat} {x : α} (h : l[i]? = some x) : i < l.length := (List.getElem?_eq_some_iff.mp h).1
theorem rv_get {as : List Addr} {i : Nat} {x : V} (h : (rv as)[i]? = some x) : ∃ b, as[i]? = some b ∧ x = .ref b := by
  unfold rv at h
  rw [List.getElem?_map] at h
  cases e : as[i]? with
  | none =>
    rw [e] at h
    cases h
  | some b =>
    rw [e] at h
    exact ⟨b, rfl, (Option.some.inj h).symm⟩
theorem nvE {ns : List Nat} {i : Nat} {x : V} (h : (nv ns)[i]? = some x) : ∃ n : Nat, ns[i]? = some n ∧ x = .int (n : Int) := by
  rw [nv_get] at h
  cases e : ns[i]? with
  | none =>
    rw [e] at h
    cases h
  | some b =>
    rw [e] at h
    exact ⟨b, rfl, (Option.some.inj h).symm⟩
theorem rv_snoc (as : List Addr) (b : Addr) : rv as ++ [V.ref b] = rv (as ++ [b]) := by
  unfold rv
  rw [List.map_append]
  rfl
theorem d_numbers_within (T : Facts K mg) : Dfn P w K mg base CX0 1 "numbers_within" ["limits"] spNW := by
  refine dfn0 (T.d 0 rfl) sc_numbers_within (fun _ _ _ _ _ _ us hl => match us, hl with | [_], _ => rfl) (fun vs H Q E h => by obtain ⟨a, lim, rfl, _⟩ := h; rfl) fun cdv A outer s H vs Q E hr h => ⟨_,
    (pss_cons (ps_set (i := 1) sc_numbers_within.nd rfl (Or.inl rfl) (pe_lst (pa_cons (pe_tup pa_nil) pa_nil)))
    (pss_cons (ps_for PassesOwn.never rfl (pi_tup (pv 0)) (pg_name (i := 2) sc_numbers_within.nd rfl (Or.inl rfl))
        (pss_cons (ps_set (i := 3) sc_numbers_within.nd rfl (Or.inl rfl) (pe_lst pa_nil))
        (pss_cons (ps_for PassesOwn.never rfl (pi_list (pv 1)) (pg_name (i := 4) sc_numbers_within.nd rfl (Or.inl rfl))
            (pss_one (ps_for PassesOwn.never rfl (pi_range1 rfl T.f_range (pa_cons (pe_op op_add (pv 2) pe_int) pa_nil)) (pg_name (i := 5) sc_numbers_within.nd rfl (Or.inl rfl))
                (pss_one (ps_expr (pe_bm PySem.F.plainAttrs_list PySem.F.slot_list_append PySem.F.type_list_append mt_append (pv 3) (pa_cons (pe_op op_catA (pv 4) (pe_tup (pa_cons (pv 5) pa_nil))) pa_nil)))))))
        (pss_one (ps_set (i := 1) sc_numbers_within.nd rfl (Or.inl rfl) (pv 3))))))
    (pss_one (ps_ret (pv 1))))), ?_⟩
  obtain ⟨a, lim, rfl, ha, hv, hll, q⟩ := h
  -- found = [()]
  refine ⟨by decide, fun p0 h0 => ⟨by show 1 ≤ sizeLine; decide, fun l0 hl0 => ?_⟩⟩
  have s0 : Same H (upd (upd H p0 (.tup [])) l0 (.lst [.ref p0])) := sNew (same_new h0) hl0
  refine ⟨_, rfl, a, rfl, ⟨_, (TN.mono s0 ha).sq⟩, for_it walk_tup (fun i σ H1 => Same H H1 ∧ ∃ l v2 v3 v4 v5, σ = [some (.ref a), some (.ref l), v2, v3, v4, v5] ∧ LT H1 l (below (lim.take i)))
    ⟨s0, l0, none, none, none, none, rfl, [p0], upd_same, by
      show TN _ _ _ ∧ _
      refine ⟨?_, True.intro⟩
      show upd _ _ _ _ = _
      rw [upd_ne (fun z => by rw [z, upd_same] at hl0; cases hl0)]
      exact upd_same⟩ (fun i σ H1 _ h => (TN.mono h.1 ha).sq) ?_ ?_⟩
  · rintro i x σ H1 H2 hi ⟨s1, l, v2, v3, v4, v5, rfl, as, hl, hT⟩ ⟨rfl, hx⟩
    obtain ⟨n, hn, rfl⟩ := nvE hx
    have hn1 : n + 1 ≤ vec lim := CQ.mem_le_vec (List.mem_of_getElem? hn)
    -- longer = []
    refine ⟨by decide, fun l2 hl2 => ?_⟩
    have ne : l ≠ l2 := ne_of_none hl hl2
    have s2 : Same H (upd H2 l2 (.lst [])) := sNew s1 hl2
    have n2 : H l2 = none := s1.free hl2
    have hlen : as.length = (below (lim.take i)).length := hT.len
    have hsz : ((below (lim.take i)).flatMap (ext n)).length ≤ 1000 := by
      rw [← CQ.below_snoc, ← take_one hn, CQ.length_below]
      exact Nat.le_trans (CQ.vec_take _ _) hv
    refine ⟨_, rfl, l, rfl, ⟨rv as, SqL.of (by rw [upd_ne ne]; exact hl)⟩, for_it (walk_list (xs := rv as)) (fun j σ H1 => Same H H1 ∧ H1 l = some (.lst (rv as)) ∧ AllT H1 as (below (lim.take i)) ∧
      ∃ v4 v5 acc, σ = [some (.ref a), some (.ref l), some (.int n), some (.ref l2), v4, v5] ∧ H1 l2 = some (.lst (rv acc)) ∧ AllT H1 acc (((below (lim.take i)).take j).flatMap (ext n)))
      ⟨s2, by rw [upd_ne ne]; exact hl, hT.mono (tup_new hl2), v4, v5, [], rfl, upd_same, True.intro⟩ (fun j σ H1 _ h => SqL.of h.2.1) ?_ ?_⟩
    · rintro j x σ H3 H4 hj ⟨s3, hl3, hT3, v4, v5, acc, rfl, hacc, hTa⟩ ⟨rfl, hx⟩
      obtain ⟨b, hb, rfl⟩ := rv_get hx
      obtain ⟨m, hm, hbm⟩ := hT3.get hb
      refine ⟨_, rfl, _, _, rfl, rfl, _, rfl, by omega, by omega, for_it (walk_range (lo := 0) (n := n + 1)) (fun k σ H1 => Same H H1 ∧ H1 l = some (.lst (rv as)) ∧ AllT H1 as (below (lim.take i)) ∧
        ∃ v5 acc, σ = [some (.ref a), some (.ref l), some (.int n), some (.ref l2), some (.ref b), v5] ∧ H1 l2 = some (.lst (rv acc)) ∧ TN H1 b m ∧ AllT H1 acc (((below (lim.take i)).take j).flatMap (ext n) ++ (List.range k).map fun c => m ++ [c]))
        ⟨s3, hl3, hT3, v5, acc, rfl, hacc, hbm, by simpa using hTa⟩ (fun _ _ _ _ _ => trivial) ?_ ?_⟩
      · rintro k x σ H5 H6 hk ⟨s5, hl5, hT5, v5, acc, rfl, hacc5, hbm5, hTa5⟩ ⟨rfl, rfl⟩
        refine ⟨_, rfl, .inl ⟨rfl, _, SqL.of hacc5⟩, _, rfl, _, rfl, (by show 1 ≤ sizeLine; decide), fun p hp => ?_⟩
        have e0 : (0 : Int) + (k : Int) = ((k : Nat) : Int) := by omega
        have hcl : acc.length < sizeLine := by
          have e := hTa5.len
          rw [List.length_append, List.length_map, List.length_range] at e
          have := CQ.length_take_flatMap (ext n) (below (lim.take i)) j
          exact sizeK (by omega)
        have np : p ≠ l2 := fun z => by rw [z, hacc5] at hp; cases hp
        have done : ∀ r H7, Same H H7 → H7 l = some (.lst (rv as)) → AllT H7 as (below (lim.take i)) → H7 l2 = some (.lst (rv acc)) → TN H7 b m → AllT H7 acc (((below (lim.take i)).take j).flatMap (ext n) ++ (List.range k).map fun c => m ++ [c]) → TN H7 r (m ++ [k]) →
            Same H (upd H7 l2 (.lst (rv acc ++ [V.ref r]))) ∧ upd H7 l2 (.lst (rv acc ++ [V.ref r])) l = some (.lst (rv as)) ∧ AllT (upd H7 l2 (.lst (rv acc ++ [V.ref r]))) as (below (lim.take i)) ∧
            ∃ v5 acc', [some (.ref a), some (.ref l), some (.int n), some (.ref l2), some (.ref b), some (.int (0 + (k : Int)))] = [some (V.ref a), some (.ref l), some (.int n), some (.ref l2), some (.ref b), v5] ∧ upd H7 l2 (.lst (rv acc ++ [V.ref r])) l2 = some (.lst (rv acc')) ∧ TN (upd H7 l2 (.lst (rv acc ++ [V.ref r]))) b m ∧
              AllT (upd H7 l2 (.lst (rv acc ++ [V.ref r]))) acc' (((below (lim.take i)).take j).flatMap (ext n) ++ (List.range (k + 1)).map fun c => m ++ [c]) := by
          intro r H7 t1 t2 t3 t4 t5 t6 t7
          have u := tup_put (o := .lst (rv acc ++ [V.ref r])) t4
          refine ⟨sPut t1 n2, by rw [upd_ne ne]; exact t2, t3.mono u, _, acc ++ [r], rfl, by rw [upd_same, rv_snoc], u _ _ t5, ?_⟩
          rw [List.range_succ, List.map_append, ← List.append_assoc]
          exact (t6.mono u).snoc (u _ _ t7)
        have ht : upd H6 p (.tup [.int (0 + (k : Int))]) p = some (.tup (nv [k])) := by
          rw [upd_same, e0]
          rfl
        have nn : ∀ x, H6 x ≠ none → x ≠ p := fun x hx z => hx (by rw [z]; exact hp)
        have lp : l ≠ p := nn l (by rw [hl5]; simp)
        have l2p : l2 ≠ p := nn l2 (by rw [hacc5]; simp)
        refine ⟨b, p, _, _, rfl, rfl, SqT.of ((tup_new hp) _ _ hbm5), SqT.of upd_same, by rw [nv_len]; exact Nat.le_of_lt (sizeK (by have := CQ.leL_len (CQ.mem_below.mp (List.mem_of_getElem? hm)); have := List.length_take_le' i lim; show m.length + 1 ≤ 100000; omega)), fun em => ?_, fun _ e => (by cases e), fun _ _ r hr2 => ?_⟩
        · have em' : m = [] := List.map_eq_nil_iff.mp em
          refine ⟨l2, _, _, rfl, rfl, by rw [upd_ne l2p]; exact hacc5, by rw [rv, List.length_map]; exact hcl, ?_⟩
          exact done p _ (sNew s5 hp) (by rw [upd_ne lp]; exact hl5) (hT5.mono (tup_new hp)) (by rw [upd_ne l2p]; exact hacc5) (tup_new hp _ _ hbm5) (hTa5.mono (tup_new hp)) (by rw [em']; exact ht)
        · have lr : ∀ x, upd H6 p (.tup [.int (0 + (k : Int))]) x ≠ none → x ≠ r := fun x hx z => hx (by rw [z]; exact hr2)
          have l2' : upd H6 p (.tup [.int (0 + (k : Int))]) l2 = some (.lst (rv acc)) := by rw [upd_ne l2p]; exact hacc5
          have l1' : upd H6 p (.tup [.int (0 + (k : Int))]) l = some (.lst (rv as)) := by rw [upd_ne lp]; exact hl5
          have l2r : l2 ≠ r := lr l2 (by rw [l2']; simp)
          have l1r : l ≠ r := lr l (by rw [l1']; simp)
          refine ⟨l2, _, _, rfl, rfl, by rw [upd_ne l2r]; exact l2', by rw [rv, List.length_map]; exact hcl, ?_⟩
          refine done r _ (sNew (sNew s5 hp) hr2) (by rw [upd_ne l1r]; exact l1') ((hT5.mono (tup_new hp)).mono (tup_new hr2)) (by rw [upd_ne l2r]; exact l2') (tup_new hr2 _ _ (tup_new hp _ _ hbm5)) ((hTa5.mono (tup_new hp)).mono (tup_new hr2)) ?_
          show upd _ _ _ _ = _
          rw [upd_same, nv_append]
          show some (HO.tup (nv m ++ [V.int (0 + (k : Int))])) = _
          rw [e0]
          rfl
      · rintro σ H5 ⟨s5, hl5, hT5, v5, acc, rfl, hacc5, hbm5, hTa5⟩
        refine ⟨s5, hl5, hT5, some (.ref b), v5, acc, rfl, hacc5, ?_⟩
        rw [take_one hm, List.flatMap_append]
        have e : ([m].flatMap (ext n)) = (List.range (n + 1)).map fun c => m ++ [c] := by
          show ext n m ++ [] = _
          rw [List.append_nil]
          rfl
        rw [e]
        exact hTa5
    · rintro σ H3 ⟨s3, hl3, hT3, v4, v5, acc, rfl, hacc, hTa⟩
      refine ⟨_, rfl, s3, l2, some (.int n), some (.ref l2), v4, v5, rfl, acc, hacc, ?_⟩
      rw [take_one hn, CQ.below_snoc]
      have e : (rv as).length = (below (lim.take i)).length := by rw [rv, List.length_map]; exact hlen
      rw [e, List.take_length] at hTa
      exact hTa
  · rintro σ H1 ⟨s1, l, v2, v3, v4, v5, rfl, hl⟩
    refine ⟨_, rfl, q l _ s1 ?_⟩
    rw [nv_len, List.take_length] at hl
    exact hl
end
end Cq
end
section
set_option Elab.async false
set_option linter.all false
set_option maxRecDepth 100000
set_option maxHeartbeats 4000000
set_option exponentiation.threshold 100000
namespace Cq
open PySem PySem.Spec PyProof.Rows L2 CqR
open Lrx5 (below minus count without)
section
variable {P : Program} {w : World} {K : Kf} {mg : Str → Option Value} {base : Heap}
/-! ### rest_of -/
def sp_rest_of : Sp := fun vs H Q _ => ∃ (a b : Addr) (n m : List Nat), vs = [.ref a, .ref b] ∧ TN H a n ∧ TN H b m ∧ CQ.leL m n ∧ n.length ≤ 1000 ∧ ∀ p H', Same H H' → TN H' p (minus n m) → Q (.ref p) H'
theorem minus_get {n m : List Nat} {i : Nat} {x y : Nat} (hx : n[i]? = some x) (hy : m[i]? = some y) : (minus n m)[i]? = some (x - y) := by
  unfold minus
  rw [List.getElem?_map, (List.getElem?_zip_eq_some (z := (x, y))).mpr ⟨hx, hy⟩]
  rfl
theorem minus_len {n m : List Nat} (h : CQ.leL m n) : (minus n m).length = n.length := CQ.leL_len (CQ.leL_minus h)
theorem leL_get : ∀ {m n : List Nat} {i x y : Nat}, CQ.leL m n → n[i]? = some x → m[i]? = some y → y ≤ x
  | [], [], i, x, y, _, h, _ => by simp at h
  | b :: m, a :: n, 0, x, y, h, hx, hy => by
    have e1 : a = x := by simpa using hx
    have e2 : b = y := by simpa using hy
    rw [← e1, ← e2]
    exact h.1
  | b :: m, a :: n, i + 1, x, y, h, hx, hy => leL_get (i := i) h.2 (by simpa using hx) (by simpa using hy)
theorem sc_rest_of : FnScope ["numbers", "part", "whole", "taken"] ["numbers", "part"] (defScope (top 2)) := ⟨rfl, rfl, rfl, by decide +kernel, rfl, by decide +kernel, by decide +kernel⟩
theorem d_rest_of (T : Facts K mg) : Dfn P w K mg base CX0 1 "rest_of" ["numbers", "part"] (sp_rest_of) := by
  refine dfn0 (T.d 1 rfl) sc_rest_of (fun _ _ _ _ _ _ us hl => match us, hl with | [_, _], _ => rfl) (fun vs H Q E h => by obtain ⟨a, b, n, m, rfl, _⟩ := h; rfl) fun cdv A outer s H vs Q E hr h => ⟨_,
    (pss_one (ps_ret (pe_callTy call_tuple_of (by rfl) T.f_tuple boot_tuple (pa_cons (by exact (pe_lc rfl sc_rest_of.nd (RZ.pi_zipA (by rfl) T.f_zip (pa_cons (pv 0) (pa_cons (pv 1) pa_nil))) (blkOk_by (own := [("whole", 2), ("taken", 3)]) (N := ["numbers", "part", "whole", "taken"]) (sc := defScope (top 2)) (by decide +kernel)) (fun _ _ _ _ _ => by exact (pg_tupB (n := 2) rfl (pgs_cons (pg_name (i := 2) sc_rest_of.nd rfl (Or.inl rfl) (Or.inr rfl)) (pgs_cons (pg_name (i := 3) sc_rest_of.nd rfl (Or.inl rfl) (Or.inr rfl)) pgs_nil)) rfl rfl)) (fun _ _ _ _ _ => by exact pts_nil) (fun _ _ _ _ _ => by exact (pe_op op_sub (pv 2) (pv 3))))) pa_nil)))), ?_⟩
  obtain ⟨a, b, n, m, rfl, ha, hb, hle, hsz, q⟩ := h
  have hl : m.length = n.length := CQ.leL_len hle
  refine ⟨_, rfl, _, rfl, a, b, nv n, nv m, rfl, .inr ⟨ha.sq, hb.sq, fun D hD => ?_⟩⟩
  have s0 : Same H (upd H D (.lst [])) := same_new hD
  refine lc_it (walk_zipTT (n := n.length) (by rw [nv_len, nv_len, hl, Nat.min_self])) (fun i H1 => Same H H1 ∧ H1 D = some (.lst (nv ((minus n m).take i)))) ⟨s0, upd_same⟩ (fun i H1 _ h => ⟨(TN.mono h.1 ha).sq, (TN.mono h.1 hb).sq⟩) ?_ ?_
  · rintro i x H1 H2 hi ⟨s1, hD1⟩ ⟨t, x1, x2, rfl, ht, rfl, h1, h2⟩
    obtain ⟨n1, e1, rfl⟩ := nvE h1
    obtain ⟨n2, e2, rfl⟩ := nvE h2
    have nt : D ≠ t := ne_of_none hD1 ht
    refine ⟨t, _, rfl, SqT.of upd_same, rfl, _, _, rfl, _, _, rfl, rfl, rfl, ?_⟩
    refine yes ?_
    refine ⟨_, rfl, _, rfl, _, _, rfl, rfl, nv ((minus n m).take i), by rw [upd_ne nt]; exact hD1, by rw [nv_len]; exact sizeK (by have := List.length_take_le' i (minus n m); have := minus_len hle; omega), ?_⟩
    refine ⟨sPut (sNew s1 ht) hD, ?_⟩
    rw [upd_same, take_one (minus_get e1 e2), nv_append]
    have e : ((n1 : Nat) : Int) - ((n2 : Nat) : Int) = ((n1 - n2 : Nat) : Int) := by have := leL_get hle e1 e2; omega
    show some (HO.lst (_ ++ [V.int ((n1 : Int) - (n2 : Int))])) = _
    rw [e]
    rfl
  · rintro H1 ⟨s1, hD1⟩
    refine ⟨D, _, rfl, .inl ⟨SqL.of hD1, fun p hp => q p _ (sNew s1 hp) ?_⟩⟩
    show upd _ _ _ _ = _
    rw [upd_same, List.take_of_length_le (by rw [minus_len hle]; exact Nat.le_refl _)]
/-! ### with_customers, one_less -/
def sp_with_customers : Sp := fun vs H Q _ => ∃ (a : Addr) (n : List Nat) (r k : Nat), vs = [.ref a, .int r, .int k] ∧ TN H a n ∧ r < n.length ∧ ∀ p H', Same H H' → TN H' p (n.set r k) → Q (.ref p) H'
theorem ixN_nat {n r : Nat} (h : r < n) : ixN n (r : Int) = some r := by
  unfold ixN
  rw [if_pos (by omega), if_pos (by omega)]
  rfl
theorem nv_set (n : List Nat) (r k : Nat) : (nv n).set r (V.int (k : Int)) = nv (n.set r k) := by
  unfold nv
  rw [List.map_set]
theorem sc_with_customers : FnScope ["numbers", "customer_class", "customers", "changed"] ["numbers", "customer_class", "customers"] (defScope (top 3)) := ⟨rfl, rfl, rfl, by decide +kernel, rfl, by decide +kernel, by decide +kernel⟩
theorem d_with_customers (T : Facts K mg) : Dfn P w K mg base CX0 1 "with_customers" ["numbers", "customer_class", "customers"] (sp_with_customers) := by
  refine dfn0 (T.d 2 rfl) sc_with_customers (fun _ _ _ _ _ _ us hl => match us, hl with | [_, _, _], _ => rfl) (fun vs H Q E h => by obtain ⟨a, n, r, k, rfl, _⟩ := h; rfl) fun cdv A outer s H vs Q E hr h => ⟨_,
    (pss_cons (ps_set (i := 3) sc_with_customers.nd rfl (Or.inl rfl) (pe_callTy call_list_of (by rfl) T.f_list boot_list (pa_cons (pv 0) pa_nil)))
    (pss_cons (ps_asg (pv 2) (pg_sub (pv 3) (pv 1) set_list))
    (pss_one (ps_ret (pe_callTy call_tuple_of (by rfl) T.f_tuple boot_tuple (pa_cons (pv 3) pa_nil)))))), ?_⟩
  obtain ⟨a, n, r, k, rfl, ha, hr2, q⟩ := h
  refine ⟨_, rfl, a, _, rfl, .inr ha.sq, fun l hl => ?_⟩
  refine ⟨_, rfl, _, rfl, _, rfl, l, _, _, r, rfl, rfl, upd_same, by rw [nv_len]; exact ixN_nat hr2, ?_⟩
  refine ⟨_, rfl, l, _, rfl, .inl ⟨SqL.of upd_same, fun p hp => q p _ (sNew (sPut (same_new hl) hl) hp) ?_⟩⟩
  show upd _ _ _ _ = _
  rw [upd_same, nv_set]
def sp_one_less : Sp := fun vs H Q _ => ∃ (a : Addr) (n : List Nat) (r : Nat), vs = [.ref a, .int r] ∧ TN H a n ∧ r < n.length ∧ count n r ≠ 0 ∧ ∀ p H', Same H H' → TN H' p (without n r) → Q (.ref p) H'
theorem nv_at {n : List Nat} {r : Nat} (h : r < n.length) : atI (nv n) (r : Int) = some (V.int (count n r : Int)) := by
  refine atI_nat ?_
  rw [nv_get, List.getElem?_eq_getElem h]
  unfold count
  rw [List.getD_eq_getElem?_getD, List.getElem?_eq_getElem h]
  rfl
theorem sc_one_less : FnScope ["numbers", "customer_class"] ["numbers", "customer_class"] (defScope (top 4)) := ⟨rfl, rfl, rfl, by decide +kernel, rfl, by decide +kernel, by decide +kernel⟩
theorem d_one_less (T : Facts K mg) : Dfn P w K mg base CX0 2 "one_less" ["numbers", "customer_class"] (sp_one_less) := by
  refine dfn0 (T.d 3 rfl) sc_one_less (fun _ _ _ _ _ _ us hl => match us, hl with | [_, _], _ => rfl) (fun vs H Q E h => by obtain ⟨a, n, r, rfl, _⟩ := h; rfl) fun cdv A outer s H vs Q E hr h => ⟨_,
    (pss_one (ps_ret (pe_dfn (d_with_customers T) hr pass0 (pa_cons (pv 0) (pa_cons (pv 1) (pa_cons (pe_op op_sub (pe_ix ix_tup (pv 0) (pv 1) (fun _ _ => rfl)) pe_int) pa_nil)))))), ?_⟩
  obtain ⟨a, n, r, rfl, ha, hr2, hc, q⟩ := h
  refine ⟨_, rfl, _, rfl, _, rfl, _, rfl, a, _, _, _, rfl, rfl, ha.sq, nv_at hr2, _, _, rfl, rfl, ?_⟩
  refine ⟨a, n, r, count n r - 1, ?_, ha, hr2, q⟩
  show [V.ref a, V.int (r : Int), V.int ((count n r : Int) - 1)] = _
  have e : (count n r : Int) - 1 = ((count n r - 1 : Nat) : Int) := by omega
  rw [e]
/-! ### products -/
def sp_power : Sp := fun vs H Q _ => ∃ n k : Nat, vs = [.int n, .int k] ∧ n < 2 ^ 10 ∧ k ≤ 40 ∧ Q (.int ((n ^ k : Nat) : Int)) H
theorem pow_lt {n k : Nat} (h : n < 2 ^ 10) (hk : k ≤ 40) : n ^ k < 2 ^ 401 := by
  have h1 : n ^ k ≤ (2 ^ 10) ^ k := Nat.pow_le_pow_left (Nat.le_of_lt h) k
  rw [← Nat.pow_mul] at h1
  exact Nat.lt_of_le_of_lt h1 (Nat.pow_lt_pow_right (by omega) (by omega))
theorem sc_power : FnScope ["number", "exponent", "product", "turn"] ["number", "exponent"] (defScope (top 5)) := ⟨rfl, rfl, rfl, by decide +kernel, rfl, by decide +kernel, by decide +kernel⟩
theorem d_power (T : Facts K mg) : Dfn P w K mg base CX0 1 "power" ["number", "exponent"] (sp_power) := by
  refine dfn0 (T.d 4 rfl) sc_power (fun _ _ _ _ _ _ us hl => match us, hl with | [_, _], _ => rfl) (fun vs H Q E h => by obtain ⟨n, k, rfl, _⟩ := h; rfl) fun cdv A outer s H vs Q E hr h => ⟨_,
    (pss_cons (ps_set (i := 2) sc_power.nd rfl (Or.inl rfl) pe_int)
    (pss_cons (ps_for PassesOwn.never rfl (pi_range1 rfl T.f_range (pa_cons (pv 1) pa_nil)) (pg_name (i := 3) sc_power.nd rfl (Or.inl rfl))
        (pss_one (ps_set (i := 2) sc_power.nd rfl (Or.inl rfl) (pe_op op_mulW (pv 2) (pv 0)))))
    (pss_one (ps_ret (pv 2))))), ?_⟩
  obtain ⟨n, k, rfl, hn, hk, q⟩ := h
  refine ⟨_, rfl, _, rfl, by omega, by omega, for_it (walk_range (lo := 0) (n := k)) (fun i σ H' => H' = H ∧ ∃ v, σ = [some (.int n), some (.int k), some (.int ((n ^ i : Nat) : Int)), v]) ⟨rfl, none, rfl⟩ (fun _ _ _ _ _ => trivial) ?_ ?_⟩
  · rintro i x σ H1 H2 hi ⟨rfl, v, rfl⟩ ⟨rfl, rfl⟩
    refine ⟨_, rfl, _, rfl, _, _, rfl, rfl, wide_mul (a := 401) (b := 10) (by have := pow_lt hn (show i ≤ 40 by omega); simpa using this) (by simpa using hn) (by decide) (by decide) (by decide), ?_⟩
    refine ⟨rfl, some (.int (0 + i)), ?_⟩
    have e : ((n ^ i : Nat) : Int) * (n : Int) = ((n ^ (i + 1) : Nat) : Int) := by rw [Nat.pow_succ]; simp
    rw [← e]
    rfl
  · rintro σ H1 ⟨rfl, v, rfl⟩
    exact ⟨_, rfl, q⟩
def sp_factorial : Sp := fun vs H Q _ => ∃ n : Nat, vs = [.int n] ∧ n ≤ 40 ∧ Q (.int ((Lrx5.factorial n : Nat) : Int)) H
theorem fact_lt : ∀ {n : Nat}, n ≤ 40 → Lrx5.factorial n < 2 ^ 213
  | n, h => by
    have key : ∀ j, Lrx5.factorial j ≤ (max j 1) ^ j := by
      intro j
      induction j with
      | zero => exact Nat.le_refl _
      | succ j ih =>
        rw [CQ.fact_succ, Nat.pow_succ, Nat.mul_comm]
        refine Nat.mul_le_mul (Nat.le_trans ih (Nat.pow_le_pow_left (by omega) j)) (by omega)
    have h1 := key n
    have h2 : (max n 1) ^ n ≤ 40 ^ 40 := Nat.le_trans (Nat.pow_le_pow_left (by omega) n) (Nat.pow_le_pow_right (by decide) h)
    exact Nat.lt_of_le_of_lt h1 (Nat.lt_of_le_of_lt h2 (by decide))
theorem natAbs_lt {n : Nat} {b : Nat} (h : n < 2 ^ b) : ((n : Nat) : Int).natAbs < 2 ^ b := by simpa using h
theorem sc_factorial : FnScope ["number", "product", "factor"] ["number"] (defScope (top 6)) := ⟨rfl, rfl, rfl, by decide +kernel, rfl, by decide +kernel, by decide +kernel⟩
theorem d_factorial (T : Facts K mg) : Dfn P w K mg base CX0 1 "factorial" ["number"] (sp_factorial) := by
  refine dfn0 (T.d 5 rfl) sc_factorial (fun _ _ _ _ _ _ us hl => match us, hl with | [_], _ => rfl) (fun vs H Q E h => by obtain ⟨n, rfl, _⟩ := h; rfl) fun cdv A outer s H vs Q E hr h => ⟨_,
    (pss_cons (ps_set (i := 1) sc_factorial.nd rfl (Or.inl rfl) pe_int)
    (pss_cons (ps_for PassesOwn.never rfl (pi_range2 rfl T.f_range (pa_cons pe_int (pa_cons (pe_op op_add (pv 0) pe_int) pa_nil))) (pg_name (i := 2) sc_factorial.nd rfl (Or.inl rfl))
        (pss_one (ps_set (i := 1) sc_factorial.nd rfl (Or.inl rfl) (pe_op op_mulW (pv 1) (pv 2)))))
    (pss_one (ps_ret (pv 1))))), ?_⟩
  obtain ⟨n, rfl, hn, q⟩ := h
  refine ⟨_, rfl, _, _, rfl, rfl, 2, _, rfl, ⟨by omega, by omega, by omega, by omega⟩, for_it (walk_range (lo := 2) (n := ((n : Int) + 1 - 2).toNat)) (fun i σ H' => H' = H ∧ ∃ v, σ = [some (.int n), some (.int ((Lrx5.factorial (i + 1) : Nat) : Int)), v]) ⟨rfl, none, rfl⟩ (fun _ _ _ _ _ => trivial) ?_ ?_⟩
  · rintro i x σ H1 H2 hi ⟨rfl, v, rfl⟩ ⟨rfl, rfl⟩
    refine ⟨_, rfl, _, rfl, _, _, rfl, rfl, wide_mul (a := 213) (b := 10) (natAbs_lt (fact_lt (by omega))) (by show (2 + (i : Int)).natAbs < 2 ^ 10; omega) (by decide) (by decide) (by decide), ?_⟩
    refine ⟨rfl, some (.int (2 + i)), ?_⟩
    have e : ((Lrx5.factorial (i + 1) : Nat) : Int) * (2 + (i : Int)) = ((Lrx5.factorial (i + 1 + 1) : Nat) : Int) := by
      rw [CQ.fact_succ (i + 1), Int.natCast_mul, Int.mul_comm]
      congr 1
      omega
    rw [← e]
    rfl
  · rintro σ H1 ⟨rfl, v, rfl⟩
    refine ⟨_, rfl, ?_⟩
    have e : ((n : Int) + 1 - 2).toNat + 1 = n ∨ n = 0 := by omega
    rcases e with e | e
    · rw [e]
      exact q
    · subst e
      exact q
def sp_factorial_product : Sp := fun vs H Q _ => ∃ (a : Addr) (n : List Nat), vs = [.ref a] ∧ TN H a n ∧ (∀ k ∈ n, k ≤ 40) ∧ n.length ≤ 10 ∧ Q (.int ((CQ.fprod n : Nat) : Int)) H
theorem fprod_lt : ∀ {n : List Nat}, (∀ k ∈ n, k ≤ 40) → n.length ≤ 10 → CQ.fprod n < 2 ^ 2131 := by
  have key : ∀ {n : List Nat}, (∀ k ∈ n, k ≤ 40) → CQ.fprod n ≤ (2 ^ 213) ^ n.length := by
    intro n
    induction n with
    | nil => intro _; exact Nat.le_refl _
    | cons k n ih =>
      intro h
      rw [CQ.fprod, List.length_cons, Nat.pow_succ, Nat.mul_comm]
      exact Nat.mul_le_mul (ih fun x hx => h x (List.mem_cons_of_mem _ hx)) (Nat.le_of_lt (fact_lt (h k (List.mem_cons_self ..))))
  intro n h hl
  refine Nat.lt_of_le_of_lt (key h) ?_
  rw [← Nat.pow_mul]
  exact Nat.pow_lt_pow_right (by decide) (by omega)
theorem fprod_append : ∀ (a b : List Nat), CQ.fprod (a ++ b) = CQ.fprod a * CQ.fprod b
  | [], b => by simp [CQ.fprod]
  | k :: a, b => by
    show Lrx5.factorial k * CQ.fprod (a ++ b) = Lrx5.factorial k * CQ.fprod a * CQ.fprod b
    rw [fprod_append a b, Nat.mul_assoc]
theorem sc_factorial_product : FnScope ["numbers", "product", "customers"] ["numbers"] (defScope (top 7)) := ⟨rfl, rfl, rfl, by decide +kernel, rfl, by decide +kernel, by decide +kernel⟩
theorem d_factorial_product (T : Facts K mg) : Dfn P w K mg base CX0 2 "factorial_product" ["numbers"] (sp_factorial_product) := by
  refine dfn0 (T.d 6 rfl) sc_factorial_product (fun _ _ _ _ _ _ us hl => match us, hl with | [_], _ => rfl) (fun vs H Q E h => by obtain ⟨a, n, rfl, _⟩ := h; rfl) fun cdv A outer s H vs Q E hr h => ⟨_,
    (pss_cons (ps_set (i := 1) sc_factorial_product.nd rfl (Or.inl rfl) pe_int)
    (pss_cons (ps_for PassesOwn.never rfl (pi_tup (pv 0)) (pg_name (i := 2) sc_factorial_product.nd rfl (Or.inl rfl))
        (pss_one (ps_set (i := 1) sc_factorial_product.nd rfl (Or.inl rfl) (pe_op op_mulW (pv 1) (pe_dfn (d_factorial T) hr pass0 (pa_cons (pv 2) pa_nil))))))
    (pss_one (ps_ret (pv 1))))), ?_⟩
  obtain ⟨a, n, rfl, ha, hk, hl, q⟩ := h
  refine ⟨_, rfl, a, rfl, ⟨_, ha.sq⟩, for_it walk_tup (fun i σ H' => H' = H ∧ ∃ v, σ = [some (.ref a), some (.int ((CQ.fprod (n.take i) : Nat) : Int)), v]) ⟨rfl, none, rfl⟩ (fun i σ H1 _ h => by obtain ⟨rfl, _⟩ := h; exact ha.sq) ?_ ?_⟩
  · rintro i x σ H1 H2 hi ⟨rfl, v, rfl⟩ ⟨rfl, hx⟩
    obtain ⟨k, hn, rfl⟩ := nvE hx
    have hkk := hk k (List.mem_of_getElem? hn)
    refine ⟨_, rfl, _, rfl, k, rfl, hkk, _, _, rfl, rfl, wide_mul (a := 2131) (b := 213) (natAbs_lt (fprod_lt (fun x hx => hk x (List.mem_of_mem_take hx)) (Nat.le_trans (List.length_take_le' ..) hl))) (natAbs_lt (fact_lt hkk)) (by decide) (by decide) (by decide), ?_⟩
    refine ⟨rfl, some (.int k), ?_⟩
    have e : ((CQ.fprod (n.take i) : Nat) : Int) * ((Lrx5.factorial k : Nat) : Int) = ((CQ.fprod (n.take (i + 1)) : Nat) : Int) := by
      rw [take_one hn, fprod_append, Int.natCast_mul]
      show _ = _ * ((Lrx5.factorial k * 1 : Nat) : Int)
      rw [Nat.mul_one]
    rw [← e]
    rfl
  · rintro σ H1 ⟨rfl, v, rfl⟩
    refine ⟨_, rfl, ?_⟩
    rw [nv_len, List.take_length]
    exact q
end
end Cq
end
section
set_option Elab.async false
set_option linter.all false
set_option maxRecDepth 100000
set_option maxHeartbeats 4000000
set_option exponentiation.threshold 100000
namespace Cq
open PySem PySem.Spec PyProof.Rows L2 CqR
open CQ (Sm Sm_add Sm_mul rs)
/-- a ratio, a list of such -/
def TR (H : Hp) (a : Addr) (q : Rat) : Prop := H a = some (.tup [.int q.num, .int (q.den : Int)])
theorem TR.mono {H H' : Hp} (s : Same H H') {a : Addr} {q : Rat} (h : TR H a q) : TR H' a q := s a _ h
theorem TR.sq {K : Kf} {H : Hp} {a : Addr} {q : Rat} (h : TR H a q) : SqT K H a [.int q.num, .int (q.den : Int)] := SqT.of h
section
variable {α : Type} {R : Hp → Addr → α → Prop}
/-- things at addresses -/
def AllR (R : Hp → Addr → α → Prop) (H : Hp) : List Addr → List α → Prop
  | [], [] => True
  | a :: as, n :: ns => R H a n ∧ AllR R H as ns
  | _, _ => False
theorem AllR.mono {H H' : Hp} (s : ∀ a n, R H a n → R H' a n) : ∀ {as : List Addr} {ns : List α}, AllR R H as ns → AllR R H' as ns
  | [], [], _ => True.intro
  | _ :: _, _ :: _, h => ⟨s _ _ h.1, AllR.mono s h.2⟩
theorem AllR.len {H : Hp} : ∀ {as : List Addr} {ns : List α}, AllR R H as ns → as.length = ns.length
  | [], [], _ => rfl
  | _ :: _, _ :: _, h => by simp [AllR.len h.2]
theorem AllR.get {H : Hp} : ∀ {as : List Addr} {ns : List α} {i : Nat} {a : Addr}, AllR R H as ns → as[i]? = some a → ∃ n, ns[i]? = some n ∧ R H a n
  | [], [], i, a, _, e => by simp at e
  | b :: as, n :: ns, 0, a, h, e => ⟨n, rfl, by have : b = a := by simpa using e
                                                subst this; exact h.1⟩
  | _ :: as, _ :: ns, i + 1, a, h, e => by
    obtain ⟨n, h1, h2⟩ := AllR.get (i := i) h.2 (by simpa using e)
    exact ⟨n, by simpa using h1, h2⟩
theorem AllR.snoc {H : Hp} {a : Addr} {n : α} (ha : R H a n) : ∀ {as : List Addr} {ns : List α}, AllR R H as ns → AllR R H (as ++ [a]) (ns ++ [n])
  | [], [], _ => ⟨ha, True.intro⟩
  | _ :: _, _ :: _, h => ⟨h.1, AllR.snoc ha h.2⟩
end
def LR (H : Hp) (l : Addr) (qs : List Rat) : Prop := ∃ as, H l = some (.lst (rv as)) ∧ AllR TR H as qs
theorem LR.mono {H H' : Hp} (s : Same H H') {l : Addr} {qs : List Rat} (h : LR H l qs) : LR H' l qs := by
  obtain ⟨as, h1, h2⟩ := h
  exact ⟨as, s _ _ h1, h2.mono fun a q e => TR.mono s e⟩
section
variable {P : Program} {w : World} {K : Kf} {mg : Str → Option Value} {base : Heap}
/-! ### common_divisor, lowest_terms -/
def sp_common_divisor : Sp := fun vs H Q _ => ∃ (n : Int) (d : Nat), vs = [.int n, .int d] ∧ 0 < d ∧ Q (.int ((Int.gcd n d : Nat) : Int)) H
theorem sc_common_divisor : FnScope ["first", "second", "rest"] ["first", "second"] (defScope (top 45)) := ⟨rfl, rfl, rfl, by decide +kernel, rfl, by decide +kernel, by decide +kernel⟩
theorem d_common_divisor (T : Facts K mg) : Dfn P w K mg base CX0 1 "common_divisor" ["first", "second"] (sp_common_divisor) := by
  refine dfn0 (T.d 23 rfl) sc_common_divisor (fun _ _ _ _ _ _ us hl => match us, hl with | [_, _], _ => rfl) (fun vs H Q E h => by obtain ⟨n, d, rfl, _⟩ := h; rfl) fun cdv A outer s H vs Q E hr h => ⟨_,
    (pss_cons (ps_while PassesOwn.never (pt_cmpR op_gt (pv 1) pe_int (nomark _))
        (pss_cons (ps_set (i := 2) sc_common_divisor.nd rfl (Or.inl rfl) (pe_op op_mod (pv 0) (pv 1)))
        (pss_cons (ps_set (i := 0) sc_common_divisor.nd rfl (Or.inl rfl) (pv 1))
        (pss_one (ps_set (i := 1) sc_common_divisor.nd rfl (Or.inl rfl) (pv 2))))))
    (pss_one (ps_ret (pv 0)))), ?_⟩
  obtain ⟨n, d, rfl, hd, q⟩ := h
  refine ⟨fun m σ H' => H' = H ∧ ∃ (a b : Int) (v : Option V), σ = [some (.int a), some (.int b), v] ∧ m = b.toNat ∧ Int.gcd a b = Int.gcd n d ∧ (0 < b ∨ (b = 0 ∧ a = (Int.gcd n d : Nat))), ⟨_, rfl, n, d, none, rfl, rfl, rfl, .inl (by omega)⟩, ?_⟩
  rintro m σ H' ⟨rfl, a, b, v, rfl, rfl, hg, hb⟩
  refine ⟨_, rfl, _, _, rfl, rfl, _, rfl, ?_⟩
  cases h0' : decide (0 < b) with
  | true =>
    have h0 : 0 < b := of_decide_eq_true h0'
    refine iteT ?_
    refine ⟨_, fun σ' H2 h => h, _, rfl, _, rfl, _, _, rfl, rfl, h0, ?_⟩
    have h1 : 0 ≤ a % b := Int.emod_nonneg a (by omega)
    have h2 : a % b < b := Int.emod_lt_of_pos a h0
    refine ⟨_, rfl, _, rfl, (a % b).toNat, by omega, rfl, b, a % b, _, rfl, rfl, by rw [CQ.gcd_step, hg], ?_⟩
    by_cases h3 : 0 < a % b
    · exact .inl h3
    · have e : a % b = 0 := by omega
      refine .inr ⟨e, ?_⟩
      have z := CQ.gcd_step a b
      rw [e, hg] at z
      rw [← z]
      simp
      omega
  | false =>
    have h0 : ¬ 0 < b := of_decide_eq_false h0'
    refine iteF ?_
    refine ⟨_, rfl, ?_⟩
    rcases hb with hb | ⟨_, rfl⟩
    · exact absurd hb h0
    · exact q
def sp_lowest_terms : Sp := fun vs H Q _ => ∃ (n : Int) (d : Nat), vs = [.int n, .int d] ∧ 0 < d ∧ d < 2 ^ 8990 ∧ ∀ p H', Same H H' → TR H' p (mkRat n d) → Q (.ref p) H'
theorem sc_lowest_terms : FnScope ["numerator", "denominator", "divisor"] ["numerator", "denominator"] (defScope (top 46)) := ⟨rfl, rfl, rfl, by decide +kernel, rfl, by decide +kernel, by decide +kernel⟩
theorem d_lowest_terms (T : Facts K mg) : Dfn P w K mg base CX0 2 "lowest_terms" ["numerator", "denominator"] (sp_lowest_terms) := by
  refine dfn0 (T.d 24 rfl) sc_lowest_terms (fun _ _ _ _ _ _ us hl => match us, hl with | [_, _], _ => rfl) (fun vs H Q E h => by obtain ⟨n, d, rfl, _⟩ := h; rfl) fun cdv A outer s H vs Q E hr h => ⟨_,
    (pss_cons (ps_set (i := 2) sc_lowest_terms.nd rfl (Or.inl rfl) (pe_dfn (d_common_divisor T) hr pass0 (pa_cons (pv 0) (pa_cons (pv 1) pa_nil))))
    (pss_one (ps_ret (pe_tup (pa_cons (pe_op op_fdivW (pv 0) (pv 2)) (pa_cons (pe_op op_fdivW (pv 1) (pv 2)) pa_nil)))))), ?_⟩
  obtain ⟨n, d, rfl, hd, hs, q⟩ := h
  have hg : CDivW 0 ((Int.gcd n d : Nat) : Int) := wide_div (b := 8990) (by have := CQ.gcd_pos (n := n) hd; omega) (natAbs_lt (CQ.gcd_le hs hd)) (by decide) (by decide)
  refine ⟨_, rfl, _, rfl, n, d, rfl, hd, ?_⟩
  refine ⟨_, rfl, _, rfl, _, _, rfl, rfl, hg, _, rfl, _, rfl, _, _, rfl, rfl, hg, by show 2 ≤ sizeLine; decide, fun p hp => q p _ (same_new hp) ?_⟩
  obtain ⟨h1, h2⟩ := CQ.mk_num_dvd n (d := d) (by omega)
  show upd _ _ _ _ = _
  rw [upd_same, h1, h2]
  rfl
/-! ### with ratios -/
theorem at0 {q : Rat} : atI [V.int q.num, V.int (q.den : Int)] 0 = some (.int q.num) := rfl
theorem at1 {q : Rat} : atI [V.int q.num, V.int (q.den : Int)] 1 = some (.int (q.den : Int)) := rfl
theorem smN {x y : Nat} {p q : Rat} (hp : Sm x p) (hq : Sm y q) (l : x + y ≤ 8990) : CMulW p.num (q.den : Int) :=
  wide_mul (a := x + 1) (b := y + 1) (Nat.lt_of_lt_of_le hp.1 (Nat.pow_le_pow_right (by decide) (by omega))) (Nat.lt_of_lt_of_le (natAbs_lt hq.2) (Nat.pow_le_pow_right (by decide) (by omega))) (by omega) (by omega) (by omega)
theorem smD {x y : Nat} {p q : Rat} (hp : Sm x p) (hq : Sm y q) (l : x + y ≤ 8990) : CMulW (p.den : Int) (q.den : Int) :=
  wide_mul (a := x + 1) (b := y + 1) (Nat.lt_of_lt_of_le (natAbs_lt hp.2) (Nat.pow_le_pow_right (by decide) (by omega))) (Nat.lt_of_lt_of_le (natAbs_lt hq.2) (Nat.pow_le_pow_right (by decide) (by omega))) (by omega) (by omega) (by omega)
theorem smM {x y : Nat} {p q : Rat} (hp : Sm x p) (hq : Sm y q) (l : x + y ≤ 8990) : CMulW p.num q.num :=
  wide_mul (a := x + 1) (b := y + 1) (Nat.lt_of_lt_of_le hp.1 (Nat.pow_le_pow_right (by decide) (by omega))) (Nat.lt_of_lt_of_le hq.1 (Nat.pow_le_pow_right (by decide) (by omega))) (by omega) (by omega) (by omega)
theorem denD {x y : Nat} {p q : Rat} (hp : Sm x p) (hq : Sm y q) (l : x + y ≤ 8990) : 0 < p.den * q.den ∧ p.den * q.den < 2 ^ 8990 :=
  ⟨Nat.mul_pos (Nat.pos_of_ne_zero p.den_nz) (Nat.pos_of_ne_zero q.den_nz), Nat.lt_of_lt_of_le (CQ.mul_nat hp.2 hq.2) (Nat.pow_le_pow_right (by decide) l)⟩
def sp_op2 (f : Rat → Rat → Rat) (ok : Rat → Prop) : Sp := fun vs H Q _ => ∃ (a b : Addr) (p q : Rat) (x y : Nat), vs = [.ref a, .ref b] ∧ TR H a p ∧ TR H b q ∧ Sm x p ∧ Sm y q ∧ x + y ≤ 8990 ∧ ok q ∧ ∀ r H', Same H H' → TR H' r (f p q) → Q (.ref r) H'
abbrev sp_plus : Sp := sp_op2 (fun p q => p + q) fun _ => True
abbrev sp_minus : Sp := sp_op2 (fun p q => p - q) fun _ => True
abbrev sp_multiplied : Sp := sp_op2 (fun p q => p * q) fun _ => True
abbrev sp_divided : Sp := sp_op2 (fun p q => p / q) fun q => 0 < q
theorem sc_plus : FnScope ["first", "second"] ["first", "second"] (defScope (top 47)) := ⟨rfl, rfl, rfl, by decide +kernel, rfl, by decide +kernel, by decide +kernel⟩
theorem d_plus (T : Facts K mg) : Dfn P w K mg base CX0 3 "plus" ["first", "second"] (sp_plus) := by
  refine dfn0 (T.d 25 rfl) sc_plus (fun _ _ _ _ _ _ us hl => match us, hl with | [_, _], _ => rfl) (fun vs H Q E h => by obtain ⟨a, b, p, q, x, y, rfl, _⟩ := h; rfl) fun cdv A outer s H vs Q E hr h => ⟨_,
    (pss_one (ps_ret (pe_dfn (d_lowest_terms T) hr pass0 (pa_cons (pe_op op_add (pe_op op_mulW (pe_ix ix_tup (pv 0) pe_int (fun _ _ => rfl)) (pe_ix ix_tup (pv 1) pe_int (fun _ _ => rfl))) (pe_op op_mulW (pe_ix ix_tup (pv 1) pe_int (fun _ _ => rfl)) (pe_ix ix_tup (pv 0) pe_int (fun _ _ => rfl)))) (pa_cons (pe_op op_mulW (pe_ix ix_tup (pv 0) pe_int (fun _ _ => rfl)) (pe_ix ix_tup (pv 1) pe_int (fun _ _ => rfl))) pa_nil))))), ?_⟩
  obtain ⟨a, b, p, q, x, y, rfl, ha, hb, sp, sq, hxy, _, z⟩ := h
  obtain ⟨d1, d2⟩ := denD sp sq hxy
  refine ⟨_, rfl, a, _, _, _, rfl, rfl, ha.sq, at0, _, rfl, b, _, _, _, rfl, rfl, hb.sq, at1, _, _, rfl, rfl, smN sp sq hxy, ?_⟩
  refine ⟨_, rfl, b, _, _, _, rfl, rfl, hb.sq, at0, _, rfl, a, _, _, _, rfl, rfl, ha.sq, at1, _, _, rfl, rfl, smN sq sp (by omega), _, _, rfl, rfl, ?_⟩
  refine ⟨_, rfl, a, _, _, _, rfl, rfl, ha.sq, at1, _, rfl, b, _, _, _, rfl, rfl, hb.sq, at1, _, _, rfl, rfl, smD sp sq hxy, ?_⟩
  refine ⟨_, p.den * q.den, by rw [Int.natCast_mul]; rfl, d1, d2, ?_⟩
  rw [← Rat.add_def']
  exact z
theorem sc_minus : FnScope ["first", "second"] ["first", "second"] (defScope (top 48)) := ⟨rfl, rfl, rfl, by decide +kernel, rfl, by decide +kernel, by decide +kernel⟩
theorem d_minus (T : Facts K mg) : Dfn P w K mg base CX0 3 "minus" ["first", "second"] (sp_minus) := by
  refine dfn0 (T.d 26 rfl) sc_minus (fun _ _ _ _ _ _ us hl => match us, hl with | [_, _], _ => rfl) (fun vs H Q E h => by obtain ⟨a, b, p, q, x, y, rfl, _⟩ := h; rfl) fun cdv A outer s H vs Q E hr h => ⟨_,
    (pss_one (ps_ret (pe_dfn (d_lowest_terms T) hr pass0 (pa_cons (pe_op op_sub (pe_op op_mulW (pe_ix ix_tup (pv 0) pe_int (fun _ _ => rfl)) (pe_ix ix_tup (pv 1) pe_int (fun _ _ => rfl))) (pe_op op_mulW (pe_ix ix_tup (pv 1) pe_int (fun _ _ => rfl)) (pe_ix ix_tup (pv 0) pe_int (fun _ _ => rfl)))) (pa_cons (pe_op op_mulW (pe_ix ix_tup (pv 0) pe_int (fun _ _ => rfl)) (pe_ix ix_tup (pv 1) pe_int (fun _ _ => rfl))) pa_nil))))), ?_⟩
  obtain ⟨a, b, p, q, x, y, rfl, ha, hb, sp, sq, hxy, _, z⟩ := h
  obtain ⟨d1, d2⟩ := denD sp sq hxy
  refine ⟨_, rfl, a, _, _, _, rfl, rfl, ha.sq, at0, _, rfl, b, _, _, _, rfl, rfl, hb.sq, at1, _, _, rfl, rfl, smN sp sq hxy, ?_⟩
  refine ⟨_, rfl, b, _, _, _, rfl, rfl, hb.sq, at0, _, rfl, a, _, _, _, rfl, rfl, ha.sq, at1, _, _, rfl, rfl, smN sq sp (by omega), _, _, rfl, rfl, ?_⟩
  refine ⟨_, rfl, a, _, _, _, rfl, rfl, ha.sq, at1, _, rfl, b, _, _, _, rfl, rfl, hb.sq, at1, _, _, rfl, rfl, smD sp sq hxy, ?_⟩
  refine ⟨_, p.den * q.den, by rw [Int.natCast_mul]; rfl, d1, d2, ?_⟩
  rw [← Rat.sub_def']
  exact z
theorem sc_multiplied : FnScope ["first", "second"] ["first", "second"] (defScope (top 51)) := ⟨rfl, rfl, rfl, by decide +kernel, rfl, by decide +kernel, by decide +kernel⟩
theorem d_multiplied (T : Facts K mg) : Dfn P w K mg base CX0 3 "multiplied" ["first", "second"] (sp_multiplied) := by
  refine dfn0 (T.d 29 rfl) sc_multiplied (fun _ _ _ _ _ _ us hl => match us, hl with | [_, _], _ => rfl) (fun vs H Q E h => by obtain ⟨a, b, p, q, x, y, rfl, _⟩ := h; rfl) fun cdv A outer s H vs Q E hr h => ⟨_,
    (pss_one (ps_ret (pe_dfn (d_lowest_terms T) hr pass0 (pa_cons (pe_op op_mulW (pe_ix ix_tup (pv 0) pe_int (fun _ _ => rfl)) (pe_ix ix_tup (pv 1) pe_int (fun _ _ => rfl))) (pa_cons (pe_op op_mulW (pe_ix ix_tup (pv 0) pe_int (fun _ _ => rfl)) (pe_ix ix_tup (pv 1) pe_int (fun _ _ => rfl))) pa_nil))))), ?_⟩
  obtain ⟨a, b, p, q, x, y, rfl, ha, hb, sp, sq, hxy, _, z⟩ := h
  obtain ⟨d1, d2⟩ := denD sp sq hxy
  refine ⟨_, rfl, a, _, _, _, rfl, rfl, ha.sq, at0, _, rfl, b, _, _, _, rfl, rfl, hb.sq, at0, _, _, rfl, rfl, smM sp sq hxy, ?_⟩
  refine ⟨_, rfl, a, _, _, _, rfl, rfl, ha.sq, at1, _, rfl, b, _, _, _, rfl, rfl, hb.sq, at1, _, _, rfl, rfl, smD sp sq hxy, ?_⟩
  refine ⟨_, p.den * q.den, by rw [Int.natCast_mul]; rfl, d1, d2, ?_⟩
  rw [← Rat.mul_def']
  exact z
end
end Cq
end
section
set_option Elab.async false
set_option linter.all false
set_option maxRecDepth 100000
set_option maxHeartbeats 4000000
set_option exponentiation.threshold 100000
namespace Cq
open PySem PySem.Spec PyProof.Rows L2 CqR
open CQ (Sm Sm_add Sm_mul rs)
section
variable {P : Program} {w : World} {K : Kf} {mg : Str → Option Value} {base : Heap}
theorem div_mk (p q : Rat) (hq : 0 < q) : mkRat (p.num * (q.den : Int)) (p.den * q.num.natAbs) = p / q ∧ ((q.num.natAbs : Nat) : Int) = q.num ∧ 0 < q.num.natAbs := by
  have hn : 0 < q.num := by
    have := (Rat.lt_iff 0 q).mp hq
    simpa using this
  refine ⟨?_, by omega, by omega⟩
  have e := CQ.divide_fr p q
  unfold Lrx1.divide at e
  rw [CQ.reduce_fr] at e
  have e2 := CQ.fr_inj e
  rw [← e2]
  congr 1
  show _ = if q.num < 0 then -(p.num * (q.den : Int)) else p.num * (q.den : Int)
  rw [if_neg (by omega)]
theorem sc_divided : FnScope ["ratio", "divisor"] ["ratio", "divisor"] (defScope (top 53)) := ⟨rfl, rfl, rfl, by decide +kernel, rfl, by decide +kernel, by decide +kernel⟩
theorem d_divided (T : Facts K mg) : Dfn P w K mg base CX0 3 "divided" ["ratio", "divisor"] (sp_divided) := by
  refine dfn0 (T.d 31 rfl) sc_divided (fun _ _ _ _ _ _ us hl => match us, hl with | [_, _], _ => rfl) (fun vs H Q E h => by obtain ⟨a, b, p, q, x, y, rfl, _⟩ := h; rfl) fun cdv A outer s H vs Q E hr h => ⟨_,
    (pss_one (ps_ret (pe_dfn (d_lowest_terms T) hr pass0 (pa_cons (pe_op op_mulW (pe_ix ix_tup (pv 0) pe_int (fun _ _ => rfl)) (pe_ix ix_tup (pv 1) pe_int (fun _ _ => rfl))) (pa_cons (pe_op op_mulW (pe_ix ix_tup (pv 0) pe_int (fun _ _ => rfl)) (pe_ix ix_tup (pv 1) pe_int (fun _ _ => rfl))) pa_nil))))), ?_⟩
  obtain ⟨a, b, p, q, x, y, rfl, ha, hb, sp, sq, hxy, h0, z⟩ := h
  obtain ⟨e1, e2, e3⟩ := div_mk p q h0
  have c2 : CMulW (p.den : Int) q.num := wide_mul (a := x + 1) (b := y + 1) (Nat.lt_of_lt_of_le (natAbs_lt sp.2) (Nat.pow_le_pow_right (by decide) (by omega))) (Nat.lt_of_lt_of_le sq.1 (Nat.pow_le_pow_right (by decide) (by omega))) (by omega) (by omega) (by omega)
  refine ⟨_, rfl, a, _, _, _, rfl, rfl, ha.sq, at0, _, rfl, b, _, _, _, rfl, rfl, hb.sq, at1, _, _, rfl, rfl, smN sp sq hxy, ?_⟩
  refine ⟨_, rfl, a, _, _, _, rfl, rfl, ha.sq, at1, _, rfl, b, _, _, _, rfl, rfl, hb.sq, at0, _, _, rfl, rfl, c2, ?_⟩
  refine ⟨_, p.den * q.num.natAbs, by rw [Int.natCast_mul, e2]; rfl, Nat.mul_pos (Nat.pos_of_ne_zero p.den_nz) e3, Nat.lt_of_lt_of_le (CQ.mul_nat sp.2 sq.1) (Nat.pow_le_pow_right (by decide) hxy), ?_⟩
  rw [e1]
  exact z
def sp_times : Sp := fun vs H Q _ => ∃ (a : Addr) (p : Rat) (n x : Nat), vs = [.ref a, .int n] ∧ TR H a p ∧ Sm x p ∧ x ≤ 8000 ∧ n < 2 ^ 10 ∧ ∀ r H', Same H H' → TR H' r (p * (n : Rat)) → Q (.ref r) H'
theorem sc_times : FnScope ["ratio", "number"] ["ratio", "number"] (defScope (top 52)) := ⟨rfl, rfl, rfl, by decide +kernel, rfl, by decide +kernel, by decide +kernel⟩
theorem d_times (T : Facts K mg) : Dfn P w K mg base CX0 3 "times" ["ratio", "number"] (sp_times) := by
  refine dfn0 (T.d 30 rfl) sc_times (fun _ _ _ _ _ _ us hl => match us, hl with | [_, _], _ => rfl) (fun vs H Q E h => by obtain ⟨a, p, n, x, rfl, _⟩ := h; rfl) fun cdv A outer s H vs Q E hr h => ⟨_,
    (pss_one (ps_ret (pe_dfn (d_lowest_terms T) hr pass0 (pa_cons (pe_op op_mulW (pe_ix ix_tup (pv 0) pe_int (fun _ _ => rfl)) (pv 1)) (pa_cons (pe_ix ix_tup (pv 0) pe_int (fun _ _ => rfl)) pa_nil))))), ?_⟩
  obtain ⟨a, p, n, x, rfl, ha, sp, hx, hn, z⟩ := h
  refine ⟨_, rfl, a, _, _, _, rfl, rfl, ha.sq, at0, _, rfl, _, _, rfl, rfl, wide_mul (a := x + 1) (b := 10) (Nat.lt_of_lt_of_le sp.1 (Nat.pow_le_pow_right (by decide) (by omega))) (natAbs_lt hn) (by omega) (by omega) (by omega), ?_⟩
  refine ⟨_, rfl, a, _, _, _, rfl, rfl, ha.sq, at1, ?_⟩
  refine ⟨_, p.den, rfl, Nat.pos_of_ne_zero p.den_nz, Nat.lt_of_lt_of_le sp.2 (Nat.pow_le_pow_right (by decide) (by omega)), ?_⟩
  have e : p * (n : Rat) = mkRat (p.num * (n : Int)) p.den := by
    rw [Rat.mul_def']
    show mkRat (p.num * (n : Int)) (p.den * 1) = _
    rw [Nat.mul_one]
  rw [← e]
  exact z
/-- a numerator and a denominator, in lowest terms or not -/
def TP (H : Hp) (a : Addr) (c : Int) (d : Nat) : Prop := H a = some (.tup [.int c, .int (d : Int)])
def sp_is_less : Sp := fun vs H Q _ => ∃ (a b : Addr) (p : Rat) (c : Int) (d x y : Nat), vs = [.ref a, .ref b] ∧ TR H a p ∧ TP H b c d ∧ Sm x p ∧ c.natAbs < 2 ^ y ∧ d < 2 ^ y ∧ x + y ≤ 8990 ∧ Q (.bl (decide (p.num * (d : Int) < c * (p.den : Int)))) H
theorem sc_is_less : FnScope ["first", "second"] ["first", "second"] (defScope (top 50)) := ⟨rfl, rfl, rfl, by decide +kernel, rfl, by decide +kernel, by decide +kernel⟩
theorem d_is_less (T : Facts K mg) : Dfn P w K mg base CX0 1 "is_less" ["first", "second"] (sp_is_less) := by
  refine dfn0 (T.d 28 rfl) sc_is_less (fun _ _ _ _ _ _ us hl => match us, hl with | [_, _], _ => rfl) (fun vs H Q E h => by obtain ⟨a, b, p, c, d, x, y, rfl, _⟩ := h; rfl) fun cdv A outer s H vs Q E hr h => ⟨_,
    (pss_one (ps_ret (pe_cmpR op_lt (pe_op op_mulW (pe_ix ix_tup (pv 0) pe_int (fun _ _ => rfl)) (pe_ix ix_tup (pv 1) pe_int (fun _ _ => rfl))) (pe_op op_mulW (pe_ix ix_tup (pv 1) pe_int (fun _ _ => rfl)) (pe_ix ix_tup (pv 0) pe_int (fun _ _ => rfl))) (nomark _)))), ?_⟩
  obtain ⟨a, b, p, c, d, x, y, rfl, ha, hb, sp, hc, hd, hxy, z⟩ := h
  have up : ∀ {k x y : Nat}, k < 2 ^ x → x ≤ y → k < 2 ^ y := fun h l => Nat.lt_of_lt_of_le h (Nat.pow_le_pow_right (by decide) l)
  have m1 : CMulW p.num (d : Int) := wide_mul (a := x + 1) (b := y + 1) (up sp.1 (by omega)) (natAbs_lt (up hd (by omega))) (by omega) (by omega) (by omega)
  have m2 : CMulW c (p.den : Int) := wide_mul (a := y + 1) (b := x + 1) (up hc (by omega)) (natAbs_lt (up sp.2 (by omega))) (by omega) (by omega) (by omega)
  have hb2 : SqT K H b [.int c, .int (d : Int)] := SqT.of hb
  exact ⟨_, rfl, a, _, _, _, rfl, rfl, ha.sq, at0, _, rfl, b, _, _, _, rfl, rfl, hb2, rfl, _, _, rfl, rfl, m1, _, rfl, b, _, _, _, rfl, rfl, hb2, rfl, _, rfl, a, _, _, _, rfl, rfl, ha.sq, at1, _, _, rfl, rfl, m2, _, _, rfl, rfl, z⟩
def sp_total : Sp := fun vs H Q _ => ∃ (l : Addr) (qs : List Rat) (x y : Nat), vs = [.ref l] ∧ LR H l qs ∧ (∀ i, Sm x (rs (qs.take i))) ∧ (∀ q ∈ qs, Sm y q) ∧ x + y ≤ 8990 ∧ ∀ r H', Same H H' → TR H' r (rs qs) → Q (.ref r) H'
theorem sc_total : FnScope ["ratios", "found", "ratio"] ["ratios"] (defScope (top 49)) := ⟨rfl, rfl, rfl, by decide +kernel, rfl, by decide +kernel, by decide +kernel⟩
theorem d_total (T : Facts K mg) : Dfn P w K mg base CX0 4 "total" ["ratios"] (sp_total) := by
  refine dfn0 (T.d 27 rfl) sc_total (fun _ _ _ _ _ _ us hl => match us, hl with | [_], _ => rfl) (fun vs H Q E h => by obtain ⟨l, qs, x, y, rfl, _⟩ := h; rfl) fun cdv A outer s H vs Q E hr h => ⟨_,
    (pss_cons (ps_set (i := 1) sc_total.nd rfl (Or.inl rfl) (pe_tup (pa_cons pe_int (pa_cons pe_int pa_nil))))
    (pss_cons (ps_for PassesOwn.never rfl (pi_list (pv 0)) (pg_name (i := 2) sc_total.nd rfl (Or.inl rfl))
        (pss_one (ps_set (i := 1) sc_total.nd rfl (Or.inl rfl) (pe_dfn (d_plus T) hr pass0 (pa_cons (pv 1) (pa_cons (pv 2) pa_nil))))))
    (pss_one (ps_ret (pv 1))))), ?_⟩
  obtain ⟨l, qs, x, y, rfl, ⟨as, hl, hT⟩, hx, hy, hxy, z⟩ := h
  refine ⟨by decide, fun p0 h0 => ?_⟩
  have s0 : Same H (upd H p0 (.tup [.int 0, .int 1])) := same_new h0
  refine ⟨_, rfl, l, rfl, ⟨_, SqL.of (s0 _ _ hl)⟩, for_it walk_list (fun i σ H1 => Same H H1 ∧ ∃ p v, σ = [some (.ref l), some (.ref p), v] ∧ TR H1 p (rs (qs.take i)))
    ⟨s0, p0, none, rfl, upd_same⟩ (fun i σ H1 _ h => SqL.of (h.1 _ _ hl)) ?_ ?_⟩
  · rintro i x1 σ H1 H2 hi ⟨s1, p, v, rfl, hp⟩ ⟨rfl, hx1⟩
    obtain ⟨b, hb, rfl⟩ := rv_get hx1
    obtain ⟨q, hq, hbq⟩ := hT.get hb
    refine ⟨_, rfl, _, rfl, p, b, _, q, x, y, rfl, hp, TR.mono s1 hbq, hx i, hy q (List.mem_of_getElem? hq), hxy, True.intro, fun r H' s2 hr => ⟨s1.trans s2, r, some (.ref b), rfl, ?_⟩⟩
    have e : rs (qs.take (i + 1)) = rs (qs.take i) + q := by
      rw [take_one hq, CQ.rs_append]
      show _ + (q + 0) = _
      rw [Rat.add_zero]
    rw [e]
    exact hr
  · rintro σ H1 ⟨s1, p, v, rfl, hp⟩
    refine ⟨_, rfl, z p _ s1 ?_⟩
    have e : (rv as).length = qs.length := by rw [rv, List.length_map]; exact hT.len
    rw [e, List.take_length] at hp
    exact hp
/-! ### answers -/
def AL (H : Hp) (p : Addr) (l : List Int) : Prop := H p = some (.lst (l.map V.int))
def sp_fraction_answer : Sp := fun vs H Q _ => ∃ (a : Addr) (q : Rat), vs = [.ref a] ∧ TR H a q ∧ ∀ r H', Same H H' → H r = none → AL H' r [0, q.num, (q.den : Int)] → Q (.ref r) H'
theorem sc_fraction_answer : FnScope ["ratio"] ["ratio"] (defScope (top 75)) := ⟨rfl, rfl, rfl, by decide +kernel, rfl, by decide +kernel, by decide +kernel⟩
theorem d_fraction_answer (T : Facts K mg) : Dfn P w K mg base CX0 1 "fraction_answer" ["ratio"] (sp_fraction_answer) := by
  refine dfn0 (T.d 51 rfl) sc_fraction_answer (fun _ _ _ _ _ _ us hl => match us, hl with | [_], _ => rfl) (fun vs H Q E h => by obtain ⟨a, q, rfl, _⟩ := h; rfl) fun cdv A outer s H vs Q E hr h => ⟨_,
    (pss_one (ps_ret (pe_lst (pa_cons pe_int (pa_cons (pe_ix ix_tup (pv 0) pe_int (fun _ _ => rfl)) (pa_cons (pe_ix ix_tup (pv 0) pe_int (fun _ _ => rfl)) pa_nil)))))), ?_⟩
  obtain ⟨a, q, rfl, ha, z⟩ := h
  refine ⟨_, rfl, a, _, _, _, rfl, rfl, ha.sq, at0, _, rfl, a, _, _, _, rfl, rfl, ha.sq, at1, by show 3 ≤ sizeLine; decide, fun p hp => ?_⟩
  exact z p _ (same_new hp) hp upd_same
def fls (qs : List Rat) : List Int := qs.flatMap fun q => [q.num, (q.den : Int)]
theorem fls_take {qs : List Rat} {i : Nat} {q : Rat} (h : qs[i]? = some q) : fls (qs.take (i + 1)) = fls (qs.take i) ++ [q.num, (q.den : Int)] := by
  unfold fls
  rw [take_one h, List.flatMap_append]
  rfl
theorem fls_len (qs : List Rat) (i : Nat) : (fls (qs.take i)).length ≤ 2 * qs.length := by
  have e : ∀ l : List Rat, (fls l).length = 2 * l.length := by
    intro l
    induction l with
    | nil => rfl
    | cons a r ih =>
      show ([a.num, (a.den : Int)] ++ fls r).length = _
      rw [List.length_append, ih]
      simp
      omega
  rw [e]
  have := List.length_take_le' i qs
  omega
def sp_fractions_answer : Sp := fun vs H Q _ => ∃ (l : Addr) (qs : List Rat), vs = [.ref l] ∧ LR H l qs ∧ qs.length ≤ 1000 ∧ ∀ r H', Same H H' → H r = none → AL H' r ((qs.length : Int) :: fls qs) → Q (.ref r) H'
theorem sc_fractions_answer : FnScope ["ratios", "answer", "ratio"] ["ratios"] (defScope (top 76)) := ⟨rfl, rfl, rfl, by decide +kernel, rfl, by decide +kernel, by decide +kernel⟩
theorem d_fractions_answer (T : Facts K mg) : Dfn P w K mg base CX0 1 "fractions_answer" ["ratios"] (sp_fractions_answer) := by
  refine dfn0 (T.d 52 rfl) sc_fractions_answer (fun _ _ _ _ _ _ us hl => match us, hl with | [_], _ => rfl) (fun vs H Q E h => by obtain ⟨l, qs, rfl, _⟩ := h; rfl) fun cdv A outer s H vs Q E hr h => ⟨_,
    (pss_cons (ps_set (i := 1) sc_fractions_answer.nd rfl (Or.inl rfl) (pe_lst (pa_cons (pe_callB call_len_seq (by rfl) T.f_len PySem.boot_len (pa_cons (pv 0) pa_nil)) pa_nil)))
    (pss_cons (ps_for PassesOwn.never rfl (pi_list (pv 0)) (pg_name (i := 2) sc_fractions_answer.nd rfl (Or.inl rfl))
        (pss_cons (ps_expr (pe_bm PySem.F.plainAttrs_list PySem.F.slot_list_append PySem.F.type_list_append mt_append (pv 1) (pa_cons (pe_ix ix_tup (pv 2) pe_int (fun _ _ => rfl)) pa_nil)))
        (pss_one (ps_expr (pe_bm PySem.F.plainAttrs_list PySem.F.slot_list_append PySem.F.type_list_append mt_append (pv 1) (pa_cons (pe_ix ix_tup (pv 2) pe_int (fun _ _ => rfl)) pa_nil))))))
    (pss_one (ps_ret (pv 1))))), ?_⟩
  obtain ⟨l, qs, rfl, ⟨as, hl, hT⟩, hn, z⟩ := h
  have el : (rv as).length = qs.length := by rw [rv, List.length_map]; exact hT.len
  refine ⟨_, rfl, l, _, rfl, .inl (SqL.of hl), by show 1 ≤ sizeLine; decide, fun A hA => ?_⟩
  have s0 : Same H (upd H A (.lst [.int (rv as).length])) := same_new hA
  refine ⟨_, rfl, l, rfl, ⟨_, SqL.of (s0 _ _ hl)⟩, for_it walk_list (fun i σ H1 => Same H H1 ∧ ∃ v, σ = [some (.ref l), some (.ref A), v] ∧ AL H1 A ((qs.length : Int) :: fls (qs.take i)))
    ⟨s0, none, rfl, by show upd _ _ _ _ = _; rw [upd_same, el]; rfl⟩ (fun i σ H1 _ h => SqL.of (h.1 _ _ hl)) ?_ ?_⟩
  · rintro i x1 σ H1 H2 hi ⟨s1, v, rfl, hp⟩ ⟨rfl, hx1⟩
    obtain ⟨b, hb, rfl⟩ := rv_get hx1
    obtain ⟨q, hq, hbq⟩ := hT.get hb
    have hk := fls_len qs i
    have hbA : b ≠ A := fun z => by rw [z] at hbq; rw [show H A = _ from hbq] at hA; cases hA
    refine ⟨_, rfl, .inl ⟨rfl, _, SqL.of hp⟩, _, rfl, b, _, _, _, rfl, rfl, (TR.mono s1 hbq).sq, at0, A, _, _, rfl, rfl, hp, by rw [List.length_map]; exact Nat.lt_of_lt_of_le (show _ < 10000 by simp; omega) (by decide), ?_⟩
    have s2 : Same H (upd H2 A (.lst (((qs.length : Int) :: fls (qs.take i)).map V.int ++ [.int q.num]))) := sPut s1 hA
    refine ⟨_, rfl, .inl ⟨rfl, _, SqL.of upd_same⟩, _, rfl, b, _, _, _, rfl, rfl, (TR.mono s2 hbq).sq, at1, A, _, _, rfl, rfl, upd_same, by rw [List.length_append, List.length_map]; exact Nat.lt_of_lt_of_le (show _ < 10000 by simp; omega) (by decide), ?_⟩
    refine ⟨sPut s2 hA, some (.ref b), rfl, ?_⟩
    show upd _ _ _ _ = _
    rw [upd_same, fls_take hq]
    simp
  · rintro σ H1 ⟨s1, v, rfl, hp⟩
    refine ⟨_, rfl, z A _ s1 hA ?_⟩
    rw [el, List.take_length] at hp
    exact hp
end
end Cq
end
section
set_option Elab.async false
set_option linter.all false
set_option maxRecDepth 100000
set_option maxHeartbeats 4000000
set_option exponentiation.threshold 100000
namespace Cq
open PySem PySem.Spec PyProof.Rows L2 CqR
open Lrx5 (Station below minus factorial)
open CQ (FitL FitS Fit tot fprod dprod speeds scl sfS sf leL)
/-! ### stations -/
def dB (s : Station) : Int := if s.isDelay then 1 else 0
def StD (K : Kf) (H : Hp) (a d : Addr) (s : Station) : Prop := (∃ dx, H a = some (.ins (cS K) dx [("is_delay", .int (dB s)), ("servers", .int (s.servers : Int)), ("demands", .ref d)])) ∧ H d = some (.lst (nv s.demands))
def St1 (K : Kf) (H : Hp) (a : Addr) (s : Station) : Prop := ∃ d, StD K H a d s
theorem StD.mono {K : Kf} {H H' : Hp} (z : Same H H') {a d : Addr} {s : Station} (h : StD K H a d s) : StD K H' a d s := by
  obtain ⟨⟨dx, h1⟩, h2⟩ := h
  exact ⟨⟨dx, z _ _ h1⟩, z _ _ h2⟩
theorem St1.mono {K : Kf} {H H' : Hp} (z : Same H H') {a : Addr} {s : Station} (h : St1 K H a s) : St1 K H' a s := h.elim fun d h => ⟨d, h.mono z⟩
def LS (K : Kf) (H : Hp) (l : Addr) (sts : List Station) : Prop := ∃ as, H l = some (.lst (rv as)) ∧ AllR (St1 K) H as sts
theorem LS.mono {K : Kf} {H H' : Hp} (z : Same H H') {l : Addr} {sts : List Station} (h : LS K H l sts) : LS K H' l sts := by
  obtain ⟨as, h1, h2⟩ := h
  exact ⟨as, z _ _ h1, h2.mono fun a s e => St1.mono z e⟩
theorem eqT {a b : Int} (h : a = b) : V.bl (decide (V.int a = V.int b)) = V.bl true := by
  rw [decide_eq_true (by rw [h])]
theorem eqF {a b : Int} (h : a ≠ b) : V.bl (decide (V.int a = V.int b)) = V.bl false := by
  rw [decide_eq_false fun z => h (by injection z)]
theorem dB1 {s : Station} (h : s.isDelay = true) : dB s = 1 := by unfold dB; rw [h]; rfl
theorem dB0 {s : Station} (h : s.isDelay = false) : dB s ≠ 1 := by unfold dB; rw [h]; decide
theorem tot_append : ∀ a b : List Nat, tot (a ++ b) = tot a + tot b
  | [], b => by simp [tot]
  | k :: a, b => by
    show k + tot (a ++ b) = k + tot a + tot b
    rw [tot_append a b, Nat.add_assoc]
theorem tot_take (l : List Nat) (i : Nat) : tot (l.take i) ≤ tot l := by
  have e := tot_append (l.take i) (l.drop i)
  rw [List.take_append_drop] at e
  omega
theorem mem_tot : ∀ {l : List Nat} {k : Nat}, k ∈ l → k ≤ tot l
  | [], k, h => by cases h
  | a :: l, k, h => by
    rcases List.mem_cons.mp h with rfl | h
    · exact Nat.le_add_right ..
    · exact Nat.le_trans (mem_tot h) (Nat.le_add_left ..)
theorem dprod_snoc : ∀ (ds m : List Nat) (d k : Nat), ds.length = m.length → dprod (ds ++ [d]) (m ++ [k]) = dprod ds m * d ^ k
  | [], [], d, k, _ => by simp [dprod]
  | e :: ds, j :: m, d, k, h => by
    show e ^ j * dprod (ds ++ [d]) (m ++ [k]) = e ^ j * dprod ds m * d ^ k
    rw [dprod_snoc ds m d k (by simpa using h), Nat.mul_assoc]
theorem sum_nv (m : List Nat) : (m.map fun (n : Nat) => (n : Int)).sum = (tot m : Int) := by
  induction m with
  | nil => rfl
  | cons k m ih =>
    rw [List.map_cons, List.sum_cons, ih]
    show _ = ((k + tot m : Nat) : Int)
    omega
theorem nv_int (m : List Nat) : nv m = (m.map fun (n : Nat) => (n : Int)).map V.int := by
  rw [List.map_map]
  rfl
section
variable {P : Program} {w : World} {K : Kf} {mg : Str → Option Value} {base : Heap}
def sp_service_product : Sp := fun vs H Q _ => ∃ c t : Nat, vs = [.int c, .int t] ∧ t ≤ 14 ∧ c ≤ 20 ∧ Q (.int ((speeds c t : Nat) : Int)) H
theorem speeds_lt {c t : Nat} (h : t ≤ 14) : speeds c t < 2 ^ 37 := Nat.lt_of_le_of_lt (CQ.speeds_le c t) (CQ.fact14 h)
theorem sc_service_product : FnScope ["servers", "customers", "product", "present"] ["servers", "customers"] (defScope (top 55)) := ⟨rfl, rfl, rfl, by decide +kernel, rfl, by decide +kernel, by decide +kernel⟩
theorem d_service_product (T : Facts K mg) : Dfn P w K mg base CX0 1 "service_product" ["servers", "customers"] (sp_service_product) := by
  refine dfn0 (T.d 32 rfl) sc_service_product (fun _ _ _ _ _ _ us hl => match us, hl with | [_, _], _ => rfl) (fun vs H Q E h => by obtain ⟨c, t, rfl, _⟩ := h; rfl) fun cdv A outer s H vs Q E hr h => ⟨_,
    (pss_cons (ps_set (i := 2) sc_service_product.nd rfl (Or.inl rfl) pe_int)
    (pss_cons (ps_for PassesOwn.never rfl (pi_range2 rfl T.f_range (pa_cons pe_int (pa_cons (pe_op op_add (pv 1) pe_int) pa_nil))) (pg_name (i := 3) sc_service_product.nd rfl (Or.inl rfl))
        (pss_one (ps_set (i := 2) sc_service_product.nd rfl (Or.inl rfl) (pe_op op_mulW (pv 2) (pe_callB (call_min2 rfl) (by rfl) T.f_min boot_min (pa_cons (pv 3) (pa_cons (pv 0) pa_nil)))))))
    (pss_one (ps_ret (pv 2))))), ?_⟩
  obtain ⟨c, t, rfl, ht, hc, q⟩ := h
  refine ⟨_, rfl, _, _, rfl, rfl, 1, _, rfl, ⟨by omega, by omega, by omega, by omega⟩, for_it (walk_range (lo := 1) (n := ((t : Int) + 1 - 1).toNat)) (fun i σ H' => H' = H ∧ ∃ v, σ = [some (.int c), some (.int t), some (.int ((speeds c i : Nat) : Int)), v]) ⟨rfl, none, rfl⟩ (fun _ _ _ _ _ => trivial) ?_ ?_⟩
  · rintro i x σ H1 H2 hi ⟨rfl, v, rfl⟩ ⟨rfl, rfl⟩
    have e0 : (if (c : Int) < 1 + (i : Int) then (c : Int) else 1 + (i : Int)) = ((min (i + 1) c : Nat) : Int) := by
      split <;> omega
    refine ⟨_, rfl, _, rfl, _, rfl, _, _, rfl, _, _, rfl, rfl, ?_, ?_⟩
    · show CMulW _ (if (c : Int) < 1 + (i : Int) then (c : Int) else 1 + (i : Int))
      rw [e0]
      exact wide_mul (a := 37) (b := 10) (natAbs_lt (speeds_lt (by omega))) (natAbs_lt (Nat.lt_of_le_of_lt (Nat.min_le_left ..) (by omega))) (by decide) (by decide) (by decide)
    refine ⟨rfl, some (.int (1 + i)), ?_⟩
    have e : ((speeds c i : Nat) : Int) * (if (c : Int) < 1 + (i : Int) then (c : Int) else 1 + (i : Int)) = ((speeds c (i + 1) : Nat) : Int) := by
      rw [e0, ← Int.natCast_mul]
      rfl
    rw [← e]
    rfl
  · rintro σ H1 ⟨rfl, v, rfl⟩
    refine ⟨_, rfl, ?_⟩
    rw [show ((t : Int) + 1 - 1).toNat = t by omega]
    exact q
def sp_demand_product (K : Kf) : Sp := fun vs H Q _ => ∃ (l a : Addr) (ds m : List Nat), vs = [.ref l, .ref a] ∧ H l = some (.lst (nv ds)) ∧ TN H a m ∧ ds.length = m.length ∧ (∀ d ∈ ds, d ≤ 1000) ∧ tot m ≤ 14 ∧ ∀ H', Same H H' → Q (.int ((dprod ds m : Nat) : Int)) H'
theorem sc_demand_product : FnScope ["demands", "numbers", "product", "demand", "customers"] ["demands", "numbers"] (defScope (top 56)) := ⟨rfl, rfl, rfl, by decide +kernel, rfl, by decide +kernel, by decide +kernel⟩
theorem d_demand_product (T : Facts K mg) : Dfn P w K mg base CX0 2 "demand_product" ["demands", "numbers"] (sp_demand_product K) := by
  refine dfn0 (T.d 33 rfl) sc_demand_product (fun _ _ _ _ _ _ us hl => match us, hl with | [_, _], _ => rfl) (fun vs H Q E h => by obtain ⟨l, a, ds, m, rfl, _⟩ := h; rfl) fun cdv A outer s H vs Q E hr h => ⟨_,
    (pss_cons (ps_set (i := 2) sc_demand_product.nd rfl (Or.inl rfl) pe_int)
    (pss_cons (ps_for PassesOwn.never rfl (pi_zipLT (by rfl) T.f_zip (pa_cons (pv 0) (pa_cons (pv 1) pa_nil))) (pg_tup rfl (pgs_cons (pg_name (i := 3) sc_demand_product.nd rfl (Or.inl rfl)) (pgs_cons (pg_name (i := 4) sc_demand_product.nd rfl (Or.inl rfl)) pgs_nil)))
        (pss_one (ps_set (i := 2) sc_demand_product.nd rfl (Or.inl rfl) (pe_op op_mulW (pv 2) (pe_dfn (d_power T) hr pass0 (pa_cons (pv 3) (pa_cons (pv 4) pa_nil)))))))
    (pss_one (ps_ret (pv 2))))), ?_⟩
  obtain ⟨l, a, ds, m, rfl, hl, ha, hn, hd, ht, q⟩ := h
  refine ⟨_, rfl, _, rfl, l, a, nv ds, nv m, rfl, SqL.of hl, ha.sq, for_it (walk_zipLT (n := m.length) (by rw [nv_len, nv_len, hn, Nat.min_self])) (fun i σ H1 => Same H H1 ∧ ∃ v3 v4, σ = [some (.ref l), some (.ref a), some (.int ((dprod (ds.take i) (m.take i) : Nat) : Int)), v3, v4])
    ⟨Same.refl H, none, none, rfl⟩ (fun i σ H1 _ h => ⟨SqL.of (h.1 _ _ hl), (TN.mono h.1 ha).sq⟩) ?_ ?_⟩
  · rintro i x σ H1 H2 hi ⟨s1, v3, v4, rfl⟩ ⟨t, x1, x2, rfl, ht1, rfl, h1, h2⟩
    obtain ⟨d, e1, rfl⟩ := nvE h1
    obtain ⟨k, e2, rfl⟩ := nvE h2
    have hd1 := hd d (List.mem_of_getElem? e1)
    have hk1 := mem_tot (List.mem_of_getElem? e2)
    refine ⟨t, _, rfl, SqT.of upd_same, rfl, _, _, rfl, _, _, rfl, rfl, ?_⟩
    refine ⟨_, rfl, _, rfl, _, rfl, d, k, rfl, by omega, by omega, _, _, rfl, rfl, ?_, ?_⟩
    · exact wide_mul (a := 141) (b := 401) (natAbs_lt (CQ.dprod_lt (fun x hx => hd x (List.mem_of_mem_take hx)) (Nat.le_trans (tot_take ..) ht))) (natAbs_lt (pow_lt (by omega) (by omega))) (by decide) (by decide) (by decide)
    refine ⟨sNew s1 ht1, some (.int d), some (.int k), ?_⟩
    have e : ((dprod (ds.take i) (m.take i) : Nat) : Int) * ((d ^ k : Nat) : Int) = ((dprod (ds.take (i + 1)) (m.take (i + 1)) : Nat) : Int) := by
      rw [take_one e1, take_one e2, dprod_snoc _ _ _ _ (by rw [List.length_take, List.length_take, hn]), Int.natCast_mul]
    rw [← e]
    rfl
  · rintro σ H1 ⟨s1, v3, v4, rfl⟩
    refine ⟨_, rfl, ?_⟩
    rw [List.take_of_length_le (by omega), List.take_of_length_le (by omega)]
    exact q _ s1
def sp_factor_scale (K : Kf) : Sp := fun vs H Q _ => ∃ (a p : Addr) (s : Station) (lim : List Nat), vs = [.ref a, .ref p] ∧ St1 K H a s ∧ TN H p lim ∧ FitL lim ∧ s.servers ≤ 20 ∧ Q (.int ((scl s lim : Nat) : Int)) H
theorem sc_factor_scale : FnScope ["station", "limits"] ["station", "limits"] (defScope (top 57)) := ⟨rfl, rfl, rfl, by decide +kernel, rfl, by decide +kernel, by decide +kernel⟩
theorem d_factor_scale (T : Facts K mg) : Dfn P w K mg base CX0 3 "factor_scale" ["station", "limits"] (sp_factor_scale K) := by
  refine dfn0 (T.d 34 rfl) sc_factor_scale (fun _ _ _ _ _ _ us hl => match us, hl with | [_, _], _ => rfl) (fun vs H Q E h => by obtain ⟨a, p, s, lim, rfl, _⟩ := h; rfl) fun cdv A outer s H vs Q E hr h => ⟨_,
    (pss_cons (ps_if (pt_cmpR op_eq (pe_fld (pv 0) rfl) pe_int (nomark _))
        (pss_one (ps_ret (pe_dfn (d_factorial_product T) hr pass0 (pa_cons (pv 1) pa_nil))))
        pss_nil)
    (pss_one (ps_ret (pe_dfn (d_service_product T) (hr.mono (by decide)) pass0 (pa_cons (pe_fld (pv 0) rfl) (pa_cons (pe_callB (cr_sumT rfl) (by rfl) T.f_sum boot_sum (pa_cons (pv 1) pa_nil)) pa_nil)))))), ?_⟩
  obtain ⟨a, p, s, lim, rfl, ⟨d, ⟨dx, ha⟩, hd⟩, hp, hf, hs, q⟩ := h
  refine ⟨_, rfl, a, _, dx, _, _, rfl, ha, T.cl_Station, T.n_is_delay, rfl, rfl, ?_⟩
  cases hb : s.isDelay with
  | true =>
    have e : scl s lim = fprod lim := by unfold scl; rw [hb]; rfl
    rw [e] at q
    exact ⟨true, eqT (dB1 hb), iteT ⟨_, rfl, p, lim, rfl, hp, fun k hk => Nat.le_trans (hf.le k hk) (by decide), Nat.le_trans hf.len (by decide), q⟩⟩
  | false =>
    have e : scl s lim = speeds s.servers (tot lim) := by unfold scl; rw [hb]; rfl
    rw [e] at q
    refine ⟨false, eqF (dB0 hb), iteF ?_⟩
    refine ⟨_, rfl, a, _, dx, _, _, rfl, ha, T.cl_Station, T.n_servers, rfl, _, rfl, p, _, rfl, by rw [← nv_int]; exact hp.sq, ?_⟩
    rw [sum_nv]
    exact ⟨_, _, rfl, hf.tot, hs, q⟩
theorem len_tot14 {m : List Nat} (h : tot m ≤ 14) : ∀ k ∈ m, k ≤ 40 := fun k hk => Nat.le_trans (mem_tot hk) (by omega)
def sp_scaled_factor (K : Kf) : Sp := fun vs H Q _ => ∃ (a p : Addr) (s : Station) (m : List Nat) (c : Nat), vs = [.ref a, .ref p, .int c] ∧ St1 K H a s ∧ TN H p m ∧ FitS m.length s ∧ tot m ≤ 14 ∧ m.length ≤ 10 ∧ c < 2 ^ 37 ∧ ∀ H', Same H H' → Q (.int ((sfS s m c : Nat) : Int)) H'
theorem sc_scaled_factor : FnScope ["station", "numbers", "scale", "demanded", "repeats", "customers", "orders"] ["station", "numbers", "scale"] (defScope (top 58)) := ⟨rfl, rfl, rfl, by decide +kernel, rfl, by decide +kernel, by decide +kernel⟩
theorem d_scaled_factor (T : Facts K mg) : Dfn P w K mg base CX0 3 "scaled_factor" ["station", "numbers", "scale"] (sp_scaled_factor K) := by
  refine dfn0 (T.d 35 rfl) sc_scaled_factor (fun _ _ _ _ _ _ us hl => match us, hl with | [_, _, _], _ => rfl) (fun vs H Q E h => by obtain ⟨a, p, s, m, c, rfl, _⟩ := h; rfl) fun cdv A outer s H vs Q E hr h => ⟨_,
    (pss_cons (ps_set (i := 3) sc_scaled_factor.nd rfl (Or.inl rfl) (pe_dfn (d_demand_product T) hr pass0 (pa_cons (pe_fld (pv 0) rfl) (pa_cons (pv 1) pa_nil))))
    (pss_cons (ps_set (i := 4) sc_scaled_factor.nd rfl (Or.inl rfl) (pe_dfn (d_factorial_product T) hr pass0 (pa_cons (pv 1) pa_nil)))
    (pss_cons (ps_if (pt_cmpR op_eq (pe_fld (pv 0) rfl) pe_int (nomark _))
        (pss_one (ps_ret (pe_op op_mulW (pv 3) (pe_op op_fdivW (pv 2) (pv 4)))))
        pss_nil)
    (pss_cons (ps_set (i := 5) sc_scaled_factor.nd rfl (Or.inl rfl) (pe_callB (cr_sumT rfl) (by rfl) T.f_sum boot_sum (pa_cons (pv 1) pa_nil)))
    (pss_cons (ps_set (i := 6) sc_scaled_factor.nd rfl (Or.inl rfl) (pe_op op_fdivW (pe_dfn (d_factorial T) (hr.mono (by decide)) pass0 (pa_cons (pv 5) pa_nil)) (pv 4)))
    (pss_one (ps_ret (pe_op op_mulW (pe_op op_mulW (pv 6) (pv 3)) (pe_op op_fdivW (pv 2) (pe_dfn (d_service_product T) (hr.mono (by decide)) pass0 (pa_cons (pe_fld (pv 0) rfl) (pa_cons (pv 5) pa_nil)))))))))))), ?_⟩
  obtain ⟨a, p, s, m, c, rfl, ⟨d, ⟨dx, ha⟩, hd⟩, hp, hf, ht, hm, hc, q⟩ := h
  refine ⟨_, rfl, a, _, dx, _, _, rfl, ha, T.cl_Station, T.n_demands, rfl, _, rfl, d, p, s.demands, m, rfl, hd, hp, hf.dl, hf.dm, ht, fun H1 s1 => ?_⟩
  have hp1 := TN.mono s1 hp
  have ha1 := s1 _ _ ha
  refine ⟨_, rfl, p, m, rfl, hp1, len_tot14 ht, hm, ?_⟩
  have fp : 0 < fprod m := CQ.fprod_pos m
  have fl : fprod m < 2 ^ 37 := Nat.lt_of_le_of_lt (CQ.fprod_le m) (CQ.fact14 ht)
  have dv : CDivW 0 ((fprod m : Nat) : Int) := wide_div (b := 37) (by omega) (natAbs_lt fl) (by decide) (by decide)
  have hdp := CQ.dprod_lt hf.dm ht
  refine ⟨_, rfl, a, _, dx, _, _, rfl, ha1, T.cl_Station, T.n_is_delay, rfl, rfl, ?_⟩
  cases hb : s.isDelay with
  | true =>
    have e : ((sfS s m c : Nat) : Int) = ((dprod s.demands m : Nat) : Int) * ((c : Int) / ((fprod m : Nat) : Int)) := by
      unfold sfS
      rw [hb]
      show ((dprod s.demands m * (c / fprod m) : Nat) : Int) = _
      rw [Int.natCast_mul, Int.natCast_ediv]
    refine ⟨true, eqT (dB1 hb), iteT ?_⟩
    refine ⟨_, rfl, _, rfl, _, rfl, _, _, rfl, rfl, dv, _, _, rfl, rfl, ?_, ?_⟩
    · show CMulW _ ((c : Int) / ((fprod m : Nat) : Int))
      rw [← Int.natCast_ediv]
      exact wide_mul (a := 141) (b := 37) (natAbs_lt hdp) (natAbs_lt (Nat.lt_of_le_of_lt (Nat.div_le_self ..) hc)) (by decide) (by decide) (by decide)
    · have z := q H1 s1
      rw [e] at z
      exact z
  | false =>
    refine ⟨false, eqF (dB0 hb), iteF ?_⟩
    have sp0 : 0 < speeds s.servers (tot m) := CQ.speeds_pos hf.sv _
    have dv2 : CDivW 0 ((speeds s.servers (tot m) : Nat) : Int) := wide_div (b := 37) (by omega) (natAbs_lt (speeds_lt ht)) (by decide) (by decide)
    have e : ((sfS s m c : Nat) : Int) = (((factorial (tot m) : Nat) : Int) / ((fprod m : Nat) : Int)) * ((dprod s.demands m : Nat) : Int) * ((c : Int) / ((speeds s.servers (tot m) : Nat) : Int)) := by
      unfold sfS
      rw [hb]
      show ((factorial (tot m) / fprod m * dprod s.demands m * (c / speeds s.servers (tot m)) : Nat) : Int) = _
      rw [Int.natCast_mul, Int.natCast_mul, Int.natCast_ediv, Int.natCast_ediv]
    refine ⟨_, rfl, p, _, rfl, by rw [← nv_int]; exact hp1.sq, ?_⟩
    rw [sum_nv]
    refine ⟨_, rfl, tot m, rfl, by omega, _, rfl, _, _, rfl, rfl, dv, ?_⟩
    have h1 : CMulW (((factorial (tot m) : Nat) : Int) / ((fprod m : Nat) : Int)) ((dprod s.demands m : Nat) : Int) := by
      rw [← Int.natCast_ediv]
      exact wide_mul (a := 37) (b := 141) (natAbs_lt (Nat.lt_of_le_of_lt (Nat.div_le_self ..) (CQ.fact14 ht))) (natAbs_lt hdp) (by decide) (by decide) (by decide)
    have h2 : CMulW (((factorial (tot m) : Nat) : Int) / ((fprod m : Nat) : Int) * ((dprod s.demands m : Nat) : Int)) ((c : Int) / ((speeds s.servers (tot m) : Nat) : Int)) := by
      rw [← Int.natCast_ediv, ← Int.natCast_ediv, ← Int.natCast_mul]
      exact wide_mul (a := 178) (b := 37) (natAbs_lt (CQ.mul_nat (Nat.lt_of_le_of_lt (Nat.div_le_self ..) (CQ.fact14 ht)) hdp)) (natAbs_lt (Nat.lt_of_le_of_lt (Nat.div_le_self ..) hc)) (by decide) (by decide) (by decide)
    refine ⟨_, rfl, _, rfl, _, _, rfl, rfl, h1, _, rfl, _, rfl, a, _, dx, _, _, rfl, ha1, T.cl_Station, T.n_servers, rfl, _, rfl, _, _, rfl, ht, hf.s20, _, _, rfl, rfl, dv2, _, _, rfl, rfl, h2, ?_⟩
    have z := q H1 s1
    rw [e] at z
    exact z
end
end Cq
end
section
set_option Elab.async false
set_option linter.all false
set_option maxRecDepth 100000
set_option maxHeartbeats 4000000
set_option exponentiation.threshold 100000
namespace Cq
open PySem PySem.Spec PyProof.Rows L2 CqR
open Lrx5 (Station below minus factorial)
open CQ (FitL FitS Fit tot fprod dprod speeds scl sfS sf leL gT convN delN vec)
/-! ### all stays but one -/
def Sb (d : Addr) (H H' : Hp) : Prop := ∀ b u, b ≠ d → H b = some u → H' b = some u
theorem Sb.refl (d : Addr) (H : Hp) : Sb d H H := fun _ _ _ e => e
theorem Sb.trans {d : Addr} {H H1 H2 : Hp} (s : Sb d H H1) (t : Same H1 H2) : Sb d H H2 := fun b u n e => t b u (s b u n e)
theorem Sb.put {d : Addr} {H H1 : Hp} {o : HO} (s : Sb d H H1) : Sb d H (upd H1 d o) := fun b u n e => by
  rw [upd_ne n]
  exact s b u n e
theorem Sb.same {d : Addr} {H H1 : Hp} (s : Sb d H H1) (n : H d = none) : Same H H1 := fun b u e => s b u (ne_of_none e n) e
theorem Sb.pre {d : Addr} {H0 H H1 : Hp} (t : Same H0 H) (s : Sb d H H1) (n : H0 d = none) : Same H0 H1 := fun b u e => s b u (ne_of_none e n) (t b u e)
theorem TN.sb {d : Addr} {H H' : Hp} (s : Sb d H H') {a : Addr} {n : List Nat} (h : TN H a n) (x : a ≠ d) : TN H' a n := s a _ x h
/-! ### dicts of numbers -/
def kk (n : List Nat) : List L2.Key := n.map fun (k : Nat) => Sum.inl (k : Int)
theorem kk_kV (n : List Nat) : (kk n).map kV = nv n := by
  unfold kk nv
  rw [List.map_map]
  rfl
theorem kk_inj : ∀ {a b : List Nat}, kk a = kk b → a = b
  | [], [], _ => rfl
  | [], _ :: _, h => by cases h
  | _ :: _, [], h => by cases h
  | x :: a, y :: b, h => by
    have h1 := (List.cons.inj h).1
    have h2 := kk_inj (List.cons.inj h).2
    have h3 : x = y := by
      injection h1 with z
      omega
    rw [h2, h3]
theorem TN.key {H : Hp} {a : Addr} {n : List Nat} (h : TN H a n) : H a = some (.tup ((kk n).map kV)) := by
  rw [kk_kV]
  exact h
/-- entries for keys -/
def tabV {α : Type} (g : α → V) (ks : List (List Nat)) (vs : List α) : List (List L2.Key × V) := List.zipWith (fun n v => (kk n, g v)) ks vs
theorem valV_none {α : Type} {g : α → V} {m : List Nat} : ∀ {ks : List (List Nat)} {vs : List α}, m ∉ ks → valV (tabV g ks vs) (kk m) = none
  | [], vs, _ => by simp [tabV, valV]
  | _ :: _, [], _ => by simp [tabV, valV]
  | k :: ks, v :: vs, h => by
    have h1 : ¬ kk k = kk m := fun z => h (by rw [kk_inj z]; exact List.mem_cons_self ..)
    show valV ((kk k, g v) :: tabV g ks vs) (kk m) = none
    rw [valV_neg h1]
    exact valV_none fun z => h (List.mem_cons_of_mem _ z)
theorem tabV_put {α : Type} {g : α → V} {ks : List (List Nat)} {vs : List α} {i : Nat} {m : List Nat} {v : α} (hn : ks.Nodup) (hm : ks[i]? = some m) (hl : vs.length = i) :
    putK (tabV g (ks.take i) vs) (kk m) (g v) = tabV g (ks.take (i + 1)) (vs ++ [v]) := by
  rw [putK_new _ (valV_none (CQ.nodup_take_not hn hm)), take_one hm]
  unfold tabV
  have h1 := ltE hm
  rw [List.zipWith_append (by rw [List.length_take]; omega)]
  rfl
theorem tabV_len {α : Type} (g : α → V) (ks : List (List Nat)) (vs : List α) : (tabV g ks vs).length ≤ ks.length := by
  unfold tabV
  rw [List.length_zipWith]
  omega
def dI (ks : List (List Nat)) (f : List Nat → Nat) : List (List L2.Key × V) := tabV (fun n : Nat => V.int (n : Int)) ks (ks.map f)
def DI (H : Hp) (d : Addr) (ks : List (List Nat)) (f : List Nat → Nat) : Prop := H d = some (.dT (dI ks f))
theorem dI_val {f : List Nat → Nat} {m : List Nat} : ∀ {ks : List (List Nat)}, m ∈ ks → valV (dI ks f) (kk m) = some (.int (f m))
  | [], h => by cases h
  | k :: ks, h => by
    show valV ((kk k, V.int (f k)) :: dI ks f) (kk m) = _
    by_cases e : k = m
    · subst e
      rw [valV_pos rfl]
    · rw [valV_neg fun z => e (kk_inj z)]
      exact dI_val ((List.mem_cons.mp h).resolve_left fun z => e z.symm)
theorem dI_none {f : List Nat → Nat} {m : List Nat} {ks : List (List Nat)} (h : m ∉ ks) : valV (dI ks f) (kk m) = none := valV_none h
theorem dI_put {ks : List (List Nat)} {f : List Nat → Nat} {i : Nat} {m : List Nat} (hn : ks.Nodup) (hm : ks[i]? = some m) : putK (dI (ks.take i) f) (kk m) (V.int (f m : Nat)) = dI (ks.take (i + 1)) f := by
  have e := tabV_put (g := fun n : Nat => V.int (n : Int)) (vs := (ks.take i).map f) (v := f m) hn hm (by rw [List.length_map, List.length_take]; have := ltE hm; omega)
  unfold dI
  rw [e, take_one hm, List.map_append]
  rfl
theorem dI_len (ks : List (List Nat)) (f : List Nat → Nat) (i : Nat) : (dI (ks.take i) f).length ≤ ks.length := Nat.le_trans (tabV_len ..) (List.length_take_le' ..)
theorem DI.get {H : Hp} {d b : Addr} {ks : List (List Nat)} {f : List Nat → Nat} {m : List Nat} (h : DI H d ks f) (hm : m ∈ ks) (hb : TN H b m) : DGet H d (.ref b) (some (.int (f m))) := by
  rw [← dI_val (f := f) hm]
  exact .t h hb.key
theorem DI.put {H : Hp} {d b : Addr} {ks : List (List Nat)} {f : List Nat → Nat} {i : Nat} {m : List Nat} (h : DI H d (ks.take i) f) (hn : ks.Nodup) (hm : ks[i]? = some m) (hb : TN H b m) (hl : ks.length ≤ 1000) :
    DPut H d (.ref b) (.int (f m : Nat)) (upd H d (.dT (dI (ks.take (i + 1)) f))) := by
  rw [← dI_put hn hm]
  exact .t h hb.key (sizeK (by have := dI_len ks f i; omega))
theorem DI.ne {H : Hp} {d b : Addr} {ks : List (List Nat)} {f : List Nat → Nat} {n : List Nat} (h : DI H d ks f) (hb : TN H b n) : b ≠ d := fun z => by
  rw [z, TN, h] at hb
  cases hb
section
variable {P : Program} {w : World} {K : Kf} {mg : Str → Option Value} {base : Heap}
def sp_factor_table (K : Kf) : Sp := fun vs H Q _ => ∃ (a p : Addr) (s : Station) (lim : List Nat), vs = [.ref a, .ref p] ∧ St1 K H a s ∧ TN H p lim ∧ FitS lim.length s ∧ FitL lim ∧ ∀ r H', Same H H' → H r = none → DI H' r (below lim) (sf s lim) → Q (.ref r) H'
theorem below_len {lim : List Nat} (h : FitL lim) : (below lim).length ≤ 40 := by
  rw [CQ.length_below]
  exact h.vec
theorem sc_factor_table : FnScope ["station", "limits", "scale", "table", "numbers"] ["station", "limits"] (defScope (top 59)) := ⟨rfl, rfl, rfl, by decide +kernel, rfl, by decide +kernel, by decide +kernel⟩
theorem d_factor_table (T : Facts K mg) : Dfn P w K mg base CX0 4 "factor_table" ["station", "limits"] (sp_factor_table K) := by
  refine dfn0 (T.d 36 rfl) sc_factor_table (fun _ _ _ _ _ _ us hl => match us, hl with | [_, _], _ => rfl) (fun vs H Q E h => by obtain ⟨a, p, s, lim, rfl, _⟩ := h; rfl) fun cdv A outer s H vs Q E hr h => ⟨_,
    (pss_cons (ps_set (i := 2) sc_factor_table.nd rfl (Or.inl rfl) (pe_dfn (d_factor_scale T) hr pass0 (pa_cons (pv 0) (pa_cons (pv 1) pa_nil))))
    (pss_cons (ps_set (i := 3) sc_factor_table.nd rfl (Or.inl rfl) pe_dnewT)
    (pss_cons (ps_for PassesOwn.never rfl (pi_list (pe_dfn (d_numbers_within T) (hr.mono (by decide)) pass0 (pa_cons (pv 1) pa_nil))) (pg_name (i := 4) sc_factor_table.nd rfl (Or.inl rfl))
        (pss_one (ps_dput (hu_of hr) (pv 3) (pv 4) (pe_dfn (d_scaled_factor T) hr pass0 (pa_cons (pv 0) (pa_cons (pv 4) (pa_cons (pv 2) pa_nil)))) rfl)))
    (pss_one (ps_ret (pv 3)))))), ?_⟩
  obtain ⟨a, p, s, lim, rfl, ha, hp, hs, hf, q⟩ := h
  refine ⟨_, rfl, _, rfl, a, p, s, lim, rfl, ha, hp, hf, hs.s20, fun d h0 => ?_⟩
  have s0 : Same H (upd H d (.dT [])) := same_new h0
  refine ⟨_, rfl, p, lim, rfl, TN.mono s0 hp, Nat.le_trans hf.vec (by decide), Nat.le_trans hf.len (by decide), fun l H2 s2 ⟨as, hl, hT⟩ => ?_⟩
  have d2 : H2 d = some (.dT []) := s2 _ _ upd_same
  have ld : l ≠ d := fun z => by rw [z, d2] at hl; cases hl
  have s02 : Same H H2 := s0.trans s2
  refine ⟨l, rfl, ⟨_, SqL.of hl⟩, for_it walk_list (fun i σ H1 => Sb d H2 H1 ∧ DI H1 d ((below lim).take i) (sf s lim) ∧ ∃ v, σ = [some (.ref a), some (.ref p), some (.int (scl s lim : Nat)), some (.ref d), v])
    ⟨Sb.refl d H2, d2, none, rfl⟩ (fun i σ H1 _ h => SqL.of (h.1 _ _ ld hl)) ?_ ?_⟩
  · rintro i x σ H1 H3 hi ⟨s1, hd, v, rfl⟩ ⟨rfl, hx⟩
    obtain ⟨b, hb, rfl⟩ := rv_get hx
    obtain ⟨m, hm, hbm⟩ := hT.get hb
    have bd : b ≠ d := fun z => by rw [z, TN, d2] at hbm; cases hbm
    have hbm1 := TN.sb s1 hbm bd
    have lm := CQ.mem_below.mp (List.mem_of_getElem? hm)
    refine ⟨_, rfl, _, rfl, _, rfl, a, b, s, m, scl s lim, rfl, St1.mono (Sb.pre s02 s1 h0) ha, hbm1, by rw [CQ.leL_len lm]; exact hs, Nat.le_trans (CQ.tot_le lm) hf.tot, by rw [CQ.leL_len lm]; exact Nat.le_trans hf.len (by decide), CQ.scl_lt s hf.tot, fun H4 s4 => ?_⟩
    refine ⟨_, rfl, _, rfl, d, _, rfl, DI.put (s4 _ _ hd) (CQ.below_nodup lim) hm (TN.mono s4 hbm1) (Nat.le_trans (below_len hf) (by decide)), (s1.trans s4).put, upd_same, some (.ref b), rfl⟩
  · rintro σ H1 ⟨s1, hd, v, rfl⟩
    have e : (rv as).length = (below lim).length := by rw [rv, List.length_map]; exact hT.len
    rw [e, List.take_length] at hd
    exact ⟨_, rfl, q d _ (Sb.pre s02 s1 h0) h0 hd⟩
end
end Cq
end
section
set_option Elab.async false
set_option linter.all false
set_option maxRecDepth 100000
set_option maxHeartbeats 4000000
set_option exponentiation.threshold 100000
namespace Cq
open PySem PySem.Spec PyProof.Rows L2 CqR
open Lrx5 (Station below minus factorial)
open CQ (FitL FitS Fit tot fprod dprod speeds scl sfS sf leL gT convN delN vec)
/-! ### the splits -/
def PairR (n : List Nat) (H : Hp) (a : Addr) (m : List Nat) : Prop := ∃ b c, H a = some (.tup [.ref b, .ref c]) ∧ TN H b m ∧ TN H c (minus n m)
def SplitR (H : Hp) (l : Addr) (n : List Nat) : Prop := ∃ as, H l = some (.lst (rv as)) ∧ AllR (PairR n) H as (below n)
theorem PairR.sb {d : Addr} {n m : List Nat} {H H' : Hp} (s : ∀ b xs, H b = some (.tup xs) → H' b = some (.tup xs)) {a : Addr} (h : PairR n H a m) : PairR n H' a m := by
  obtain ⟨b, c, h1, h2, h3⟩ := h
  exact ⟨b, c, s _ _ h1, s _ _ h2, s _ _ h3⟩
theorem SplitR.mono {n : List Nat} {H H' : Hp} (s : Same H H') {a : Addr} (h : SplitR H a n) : SplitR H' a n := by
  obtain ⟨as, h1, h2⟩ := h
  exact ⟨as, s _ _ h1, h2.mono fun a m e => PairR.sb (d := a) (fun b xs z => s _ _ z) e⟩
/-- lists and tuples stay -/
def dS (ks : List (List Nat)) (ls : List Addr) : List (List L2.Key × V) := tabV V.ref ks ls
def DS (H : Hp) (d : Addr) (ks : List (List Nat)) : Prop := ∃ ls, H d = some (.dT (dS ks ls)) ∧ AllR SplitR H ls ks
theorem SplitR.put {n : List Nat} {H : Hp} {d : Addr} {kvs : List (List L2.Key × V)} {o : HO} (hd : H d = some (.dT kvs)) {a : Addr} (h : SplitR H a n) : SplitR (upd H d o) a n := by
  obtain ⟨as, h1, h2⟩ := h
  have t : ∀ b xs, H b = some (.tup xs) → upd H d o b = some (.tup xs) := fun b xs z => by
    rw [upd_ne (ne_of z hd fun z => nomatch z)]
    exact z
  exact ⟨as, by rw [upd_ne (ne_of h1 hd fun z => nomatch z)]; exact h1, h2.mono fun a m e => PairR.sb (d := a) t e⟩
theorem DS.mono {H H' : Hp} (s : Same H H') {d : Addr} {ks : List (List Nat)} (h : DS H d ks) : DS H' d ks := by
  obtain ⟨ls, h1, h2⟩ := h
  exact ⟨ls, s _ _ h1, h2.mono fun a m e => SplitR.mono s e⟩
theorem AllR.lt {α : Type} {R : Hp → Addr → α → Prop} {H : Hp} : ∀ {as : List Addr} {ns : List α} {i : Nat} {n : α}, AllR R H as ns → ns[i]? = some n → ∃ a, as[i]? = some a ∧ R H a n
  | [], [], i, a, _, e => by simp at e
  | b :: as, n :: ns, 0, a, h, e => ⟨b, rfl, by have : n = a := by simpa using e
                                                subst this; exact h.1⟩
  | _ :: as, _ :: ns, i + 1, a, h, e => by
    obtain ⟨n, h1, h2⟩ := AllR.lt (i := i) h.2 (by simpa using e)
    exact ⟨n, by simpa using h1, h2⟩
section
variable {P : Program} {w : World} {K : Kf} {mg : Str → Option Value} {base : Heap}
def sp_splits_within : Sp := fun vs H Q _ => ∃ (p : Addr) (lim : List Nat), vs = [.ref p] ∧ TN H p lim ∧ FitL lim ∧ ∀ r H', Same H H' → DS H' r (below lim) → Q (.ref r) H'
theorem sc_splits_within : FnScope ["limits", "splits", "numbers", "part"] ["limits"] (defScope (top 60)) := ⟨rfl, rfl, rfl, by decide +kernel, rfl, by decide +kernel, by decide +kernel⟩
theorem d_splits_within (T : Facts K mg) : Dfn P w K mg base CX0 2 "splits_within" ["limits"] (sp_splits_within) := by
  refine dfn0 (T.d 37 rfl) sc_splits_within (fun _ _ _ _ _ _ us hl => match us, hl with | [_], _ => rfl) (fun vs H Q E h => by obtain ⟨p, lim, rfl, _⟩ := h; rfl) fun cdv A outer s H vs Q E hr h => ⟨_,
    (pss_cons (ps_set (i := 1) sc_splits_within.nd rfl (Or.inl rfl) pe_dnewT)
    (pss_cons (ps_for PassesOwn.never rfl (pi_list (pe_dfn (d_numbers_within T) hr pass0 (pa_cons (pv 0) pa_nil))) (pg_name (i := 2) sc_splits_within.nd rfl (Or.inr rfl))
        (pss_one (ps_dput (hu_of hr) (pv 1) (pv 2) (by exact (pe_lc rfl sc_splits_within.nd (pi_list (pe_dfn (d_numbers_within T) hr pass0 (pa_cons (pv 2) pa_nil))) (blkOk_by (own := [("part", 3)]) (N := ["limits", "splits", "numbers", "part"]) (sc := defScope (top 60)) (by decide +kernel)) (fun _ _ _ _ _ => by exact (pg_name (i := 3) sc_splits_within.nd rfl (Or.inl rfl) (Or.inr rfl))) (fun _ _ _ _ _ => by exact pts_nil) (fun _ _ _ _ _ => by exact (pe_tup (pa_cons (pv 3) (pa_cons (pe_dfn (d_rest_of T) hr pass0 (pa_cons (pv 2) (pa_cons (pv 3) pa_nil))) pa_nil)))))) rfl)))
    (pss_one (ps_ret (pv 1))))), ?_⟩
  obtain ⟨p, lim, rfl, hp, hf, q⟩ := h
  intro d h0
  have s0 : Same H (upd H d (.dT [])) := same_new h0
  refine ⟨_, rfl, p, lim, rfl, TN.mono s0 hp, Nat.le_trans hf.vec (by decide), Nat.le_trans hf.len (by decide), fun l H2 s2 ⟨as, hl, hT⟩ => ?_⟩
  have d2 : H2 d = some (.dT []) := s2 _ _ upd_same
  have ld : l ≠ d := fun z => by rw [z, d2] at hl; cases hl
  have s02 : Same H H2 := s0.trans s2
  refine ⟨l, rfl, ⟨_, SqL.of hl⟩, for_it walk_list (fun i σ H1 => Sb d H2 H1 ∧ (∃ ls, H1 d = some (.dT (dS ((below lim).take i) ls)) ∧ AllR SplitR H1 ls ((below lim).take i)) ∧ ∃ v v3, σ = [some (.ref p), some (.ref d), v, v3])
    ⟨Sb.refl d H2, ⟨[], d2, True.intro⟩, none, none, rfl⟩ (fun i σ H1 _ h => SqL.of (h.1 _ _ ld hl)) ?_ ?_⟩
  · rintro i x σ H1 H3 hi ⟨s1, ⟨ls, hd, hA⟩, v, v3, rfl⟩ ⟨rfl, hx⟩
    obtain ⟨b, hb, rfl⟩ := rv_get hx
    obtain ⟨m, hm, hbm⟩ := hT.get hb
    have bd : b ≠ d := fun z => by rw [z, TN, d2] at hbm; cases hbm
    have hbm1 := TN.sb s1 hbm bd
    have lm := CQ.mem_below.mp (List.mem_of_getElem? hm)
    have fm := hf.sub lm
    refine ⟨_, rfl, b, m, rfl, hbm1, Nat.le_trans fm.vec (by decide), Nat.le_trans fm.len (by decide), fun l4 H4 s4 ⟨bs, hl4, hT4⟩ => ?_⟩
    refine ⟨l4, rfl, ⟨_, SqL.of hl4⟩, fun D hD => ?_⟩
    have e4 : (rv bs).length = (below m).length := by rw [rv, List.length_map]; exact hT4.len
    refine lc_it walk_list (fun j H5 => Same H4 H5 ∧ ∃ cs, H5 D = some (.lst (rv cs)) ∧ AllR (PairR m) H5 cs ((below m).take j)) ⟨same_new hD, [], upd_same, True.intro⟩ (fun j H5 _ h => SqL.of (h.1 _ _ hl4)) ?_ ?_
    · rintro j x H5 H6 hj ⟨s5, cs, hcs, hP⟩ ⟨rfl, hx⟩
      obtain ⟨c, hc, rfl⟩ := rv_get hx
      obtain ⟨k, hk, hck⟩ := hT4.get hc
      have lk := CQ.mem_below.mp (List.mem_of_getElem? hk)
      refine ⟨rfl, ?_⟩
      refine yes ?_
      have hb6 := TN.mono (s4.trans s5) hbm1
      have hc6 := TN.mono s5 hck
      refine ⟨_, rfl, _, rfl, _, rfl, b, c, m, k, rfl, hb6, hc6, lk, Nat.le_trans fm.len (by decide), fun r H7 s7 hr7 => ?_⟩
      refine ⟨by show 2 ≤ sizeLine; decide, fun t ht => ?_⟩
      have hD7 := s7 _ _ hcs
      have s8 : Same H7 (upd H7 t (.tup [.ref c, .ref r])) := same_new ht
      have nD : D ≠ t := ne_of_none hD7 ht
      refine ⟨rv cs, by rw [upd_ne nD]; exact hD7, by rw [rv, List.length_map, hP.len]; exact sizeK (by have := List.length_take_le' j (below m); have := below_len fm; omega), ?_⟩
      refine ⟨sPut ((s5.trans s7).trans s8) hD, cs ++ [t], by rw [upd_same, rv_snoc], ?_⟩
      have tp : ∀ b xs, H7 b = some (.tup xs) → upd (upd H7 t (.tup [.ref c, .ref r])) D (.lst (rv cs ++ [V.ref t])) b = some (.tup xs) := fun b xs z => by
        rw [upd_ne (ne_of z hD7 fun z => nomatch z)]
        exact s8 _ _ z
      rw [take_one hk]
      refine AllR.snoc ⟨c, r, ?_, tp _ _ (TN.mono s7 hc6), tp _ _ hr7⟩ (hP.mono fun a n e => PairR.sb (d := a) (fun b xs z => tp b xs (s7 _ _ z)) e)
      rw [upd_ne nD.symm, upd_same]
    · rintro H5 ⟨s5, cs, hcs, hP⟩
      rw [e4, List.take_length] at hP
      have s45 := s4.trans s5
      have hd5 := s45 _ _ hd
      have sD : SplitR H5 D m := ⟨cs, hcs, hP⟩
      refine ⟨_, rfl, _, rfl, d, _, rfl, .t hd5 (TN.mono s45 hbm1).key (sizeK (by have := tabV_len V.ref ((below lim).take i) ls; have := List.length_take_le' i (below lim); have := below_len hf; show (dS _ _).length ≤ _; unfold dS; omega)), (s1.trans s45).put, ⟨ls ++ [D], ?_, ?_⟩, some (.ref b), v3, rfl⟩
      · rw [upd_same]
        exact congrArg (fun z => some (HO.dT z)) (tabV_put (CQ.below_nodup lim) hm (by rw [hA.len, List.length_take]; have := ltE hm; omega))
      · rw [take_one hm]
        exact AllR.snoc (sD.put hd5) (hA.mono fun a n e => (e.mono s45).put hd5)
  · rintro σ H1 ⟨s1, ⟨ls, hd, hA⟩, v, v3, rfl⟩
    have e : (rv as).length = (below lim).length := by rw [rv, List.length_map]; exact hT.len
    rw [e, List.take_length] at hd hA
    exact ⟨_, rfl, q d _ (Sb.pre s02 s1 h0) ⟨ls, hd, hA⟩⟩
end
end Cq
end
section
set_option Elab.async false
set_option linter.all false
set_option maxRecDepth 100000
set_option maxHeartbeats 4000000
set_option exponentiation.threshold 100000
namespace Cq
open PySem PySem.Spec PyProof.Rows L2 CqR
open Lrx5 (Station below minus factorial)
open CQ (FitL FitS Fit tot fprod dprod speeds scl sfS sf leL gT convN delN vec ns scls)
theorem tabV_get {α : Type} {g : α → V} : ∀ {ks : List (List Nat)} {vs : List α} {i : Nat} {k : List L2.Key} {v : V}, (tabV g ks vs)[i]? = some (k, v) → ∃ n a, ks[i]? = some n ∧ vs[i]? = some a ∧ k = kk n ∧ v = g a
  | [], _, i, k, v, h => by simp [tabV] at h
  | _ :: _, [], i, k, v, h => by simp [tabV] at h
  | n :: ks, a :: vs, 0, k, v, h => by
    have e : (kk n, g a) = (k, v) := by simpa [tabV] using h
    exact ⟨n, a, rfl, rfl, (congrArg Prod.fst e).symm, (congrArg Prod.snd e).symm⟩
  | _ :: ks, _ :: vs, i + 1, k, v, h => by
    obtain ⟨n, a, h1, h2, h3, h4⟩ := tabV_get (ks := ks) (vs := vs) (i := i) (by simpa [tabV] using h)
    exact ⟨n, a, by simpa using h1, by simpa using h2, h3, h4⟩
theorem tabV_full {α : Type} (g : α → V) {ks : List (List Nat)} {vs : List α} (h : vs.length = ks.length) : (tabV g ks vs).length = ks.length := by
  unfold tabV
  rw [List.length_zipWith, h, Nat.min_self]
theorem DI.neS {H : Hp} {a b : Addr} {lim : List Nat} {f : List Nat → Nat} (h : DI H a (below lim) f) (s : DS H b (below lim)) : a ≠ b := fun z => by
  subst z
  obtain ⟨ls, h1, h2⟩ := s
  rw [DI, h1] at h
  have e : dS (below lim) ls = dI (below lim) f := by injection Option.some.inj h
  have hl := h2.len
  cases e1 : below lim with
  | nil => exact CQ.below_ne _ e1
  | cons k ks =>
    rw [e1] at e hl
    cases ls with
    | nil => simp at hl
    | cons l ls =>
      have q := (List.cons.inj e).1
      have q2 := congrArg Prod.snd q
      cases q2
theorem ns_int (l : List Nat) : (l.map fun (n : Nat) => (n : Int)).sum = ((ns l : Nat) : Int) := by
  induction l with
  | nil => rfl
  | cons k m ih =>
    rw [List.map_cons, List.sum_cons, ih]
    show _ = ((k + ns m : Nat) : Int)
    omega
theorem map_get {α β : Type} {l : List α} {f : α → β} {i : Nat} {a : α} (h : l[i]? = some a) : (l.map f).take (i + 1) = (l.map f).take i ++ [f a] := by
  have e : (l.map f)[i]? = some (f a) := by rw [List.getElem?_map, h]; rfl
  exact take_one e
/-- an object is locked, and free again -/
def Sl (d : Addr) (u : HO) (o : Obj) (H H' : Hp) : Prop := ∀ b v, b ≠ d → H b = some v → H' b = some v
theorem unlockS {d a : Addr} {u f : HO} {H H1 : Hp} (hu : H d = some u) (s : Sb a (upd H d f) H1) (na : H a = none) : Same H (upd H1 d u) := fun b v e => by
  by_cases hb : b = d
  · subst hb
    rw [upd_same, ← hu, e]
  · rw [upd_ne hb]
    exact s b v (ne_of_none e na) (by rw [upd_ne hb]; exact e)
section
variable {P : Program} {w : World} {K : Kf} {mg : Str → Option Value} {base : Heap}
def sp_joined : Sp := fun vs H Q _ => ∃ (a1 a2 a3 : Addr) (lim : List Nat) (f g : List Nat → Nat) (x y : Nat), vs = [.ref a1, .ref a2, .ref a3] ∧ DI H a1 (below lim) g ∧ DI H a2 (below lim) f ∧ DS H a3 (below lim) ∧ vec lim ≤ 40 ∧
  (∀ m, leL m lim → f m < 2 ^ x) ∧ (∀ m, leL m lim → g m < 2 ^ y) ∧ 0 < x ∧ 0 < y ∧ x + y ≤ 9000 ∧ ∀ r H', Same H H' → DI H' r (below lim) (convN f g) → Q (.ref r) H'
theorem sc_joined : FnScope ["norms", "factors", "splits", "table", "numbers", "pairs", "part", "rest"] ["norms", "factors", "splits"] (defScope (top 61)) := ⟨rfl, rfl, rfl, by decide +kernel, rfl, by decide +kernel, by decide +kernel⟩
theorem d_joined (T : Facts K mg) : Dfn P w K mg base CX0 1 "joined" ["norms", "factors", "splits"] (sp_joined) := by
  refine dfn0 (T.d 38 rfl) sc_joined (fun _ _ _ _ _ _ us hl => match us, hl with | [_, _, _], _ => rfl) (fun vs H Q E h => by obtain ⟨a1, a2, a3, lim, f, g, x, y, rfl, _⟩ := h; rfl) fun cdv A outer s H vs Q E hr h => ⟨_,
    (pss_cons (ps_set (i := 3) sc_joined.nd rfl (Or.inl rfl) pe_dnewT)
    (pss_cons (ps_lock (ps_for PassesOwn.never rfl (pi_itemsT (pv 2)) (pg_tup rfl (pgs_cons (pg_name (i := 4) sc_joined.nd rfl (Or.inl rfl)) (pgs_cons (pg_name (i := 5) sc_joined.nd rfl (Or.inl rfl)) pgs_nil)))
        (pss_one (ps_dput (hu_of hr) (pv 3) (pv 4) (pe_callB (cr_sum rfl) (by rfl) T.f_sum boot_sum (pa_cons (by exact (pe_lc rfl sc_joined.nd (pi_list (pv 5)) (blkOk_by (own := [("part", 6), ("rest", 7)]) (N := ["norms", "factors", "splits", "table", "numbers", "pairs", "part", "rest"]) (sc := defScope (top 61)) (by decide +kernel)) (fun _ _ _ _ _ => by exact (pg_tupB (n := 2) rfl (pgs_cons (pg_name (i := 6) sc_joined.nd rfl (Or.inl rfl) (Or.inr rfl)) (pgs_cons (pg_name (i := 7) sc_joined.nd rfl (Or.inl rfl) (Or.inr rfl)) pgs_nil)) rfl rfl)) (fun _ _ _ _ _ => by exact pts_nil) (fun _ _ _ _ _ => by exact (pe_op op_mulW (pe_dget (hu_of hr) (pv 1) (pv 6) (fun _ _ => rfl)) (pe_dget (hu_of hr) (pv 0) (pv 7) (fun _ _ => rfl)))))) pa_nil)) rfl))))
    (pss_one (ps_ret (pv 3))))), ?_⟩
  obtain ⟨a1, a2, a3, lim, f, g, x, y, rfl, h1, h2, ⟨ls, h3, hA⟩, hv, hf, hg, x0, y0, hxy, q⟩ := h
  have n13 : a1 ≠ a3 := h1.neS ⟨ls, h3, hA⟩
  have n23 : a2 ≠ a3 := h2.neS ⟨ls, h3, hA⟩
  intro t ht
  have s0 : Same H (upd H t (.dT [])) := same_new ht
  have n1t : a1 ≠ t := ne_of_none h1 ht
  have n2t : a2 ≠ t := ne_of_none h2 ht
  have n3t : a3 ≠ t := ne_of_none h3 ht
  have e3 : upd H t (.dT []) a3 = some (.dT (dS (below lim) ls)) := s0 _ _ h3
  have hlen : ls.length = (below lim).length := hA.len
  refine ⟨a3, _, e3, True.intro, fun od => ?_⟩
  have g1 : DI (upd (upd H t (.dT [])) a3 (.frz od (.dT (dS (below lim) ls)))) a1 (below lim) g := by
    show upd _ _ _ _ = _
    rw [upd_ne n13]
    exact s0 _ _ h1
  have g2 : DI (upd (upd H t (.dT [])) a3 (.frz od (.dT (dS (below lim) ls)))) a2 (below lim) f := by
    show upd _ _ _ _ = _
    rw [upd_ne n23]
    exact s0 _ _ h2
  have gl : ∀ b xs, H b = some (.lst xs) → upd (upd H t (.dT [])) a3 (.frz od (.dT (dS (below lim) ls))) b = some (.lst xs) := fun b xs e => by
    rw [upd_ne (ne_of e h3 fun z => nomatch z)]
    exact s0 _ _ e
  have gt : ∀ b xs, H b = some (.tup xs) → upd (upd H t (.dT [])) a3 (.frz od (.dT (dS (below lim) ls))) b = some (.tup xs) := fun b xs e => by
    rw [upd_ne (ne_of e h3 fun z => nomatch z)]
    exact s0 _ _ e
  refine ⟨_, rfl, a3, _, rfl, .inl ⟨od, upd_same, for_it walk_itemsT (fun i σ H1 => Sb t (upd (upd H t (.dT [])) a3 (.frz od (.dT (dS (below lim) ls)))) H1 ∧ DI H1 t ((below lim).take i) (convN f g) ∧ ∃ v4 v5 v6 v7, σ = [some (.ref a1), some (.ref a2), some (.ref a3), some (.ref t), v4, v5, v6, v7])
    ⟨Sb.refl t _, by show upd _ _ _ _ = _; rw [upd_ne n3t.symm, upd_same]; rfl, none, none, none, none, rfl⟩ (fun i σ H1 _ h => h.1 _ _ n3t upd_same) ?_ ?_⟩⟩
  · rintro i x1 σ H1 H2 hi ⟨s1, hd, v4, v5, v6, v7, rfl⟩ ⟨T1, k, v, qa, hk, rfl, hT, hq, rfl⟩
    obtain ⟨n, l, hn, hl, rfl, rfl⟩ := tabV_get hk
    obtain ⟨n', hn', as, has, hP⟩ := hA.get hl
    obtain rfl : n' = n := by rw [hn] at hn'; exact (Option.some.inj hn').symm
    have ln := CQ.mem_below.mp (List.mem_of_getElem? hn)
    have s12 : Same H1 (upd H1 T1 (.tup [.ref qa, .ref l])) := same_new hT
    have s2 : Sb t (upd (upd H t (.dT [])) a3 (.frz od (.dT (dS (below lim) ls)))) (upd H1 T1 (.tup [.ref qa, .ref l])) := s1.trans s12
    have hl2 : upd H1 T1 (.tup [.ref qa, .ref l]) l = some (.lst (rv as)) := s2 _ _ (ne_of_none has ht) (gl _ _ has)
    have hq2 := s12 _ _ hq
    have hd2 := s12 _ _ hd
    refine ⟨T1, _, rfl, SqT.of upd_same, rfl, _, _, rfl, _, _, rfl, rfl, ?_⟩
    refine ⟨_, rfl, l, rfl, ⟨_, SqL.of hl2⟩, fun D hD => ?_⟩
    have e4 : (rv as).length = (below n').length := by rw [rv, List.length_map]; exact hP.len
    refine lc_it walk_list (fun j H5 => Same (upd H1 T1 (.tup [.ref qa, .ref l])) H5 ∧ H5 D = some (.lst (nv (((below n').map fun m => f m * g (minus n' m)).take j)))) ⟨same_new hD, upd_same⟩ (fun j H5 _ h => SqL.of (h.1 _ _ hl2)) ?_ ?_
    · rintro j x5 H5 H6 hj ⟨s5, hcs⟩ ⟨rfl, hx⟩
      obtain ⟨c, hc, rfl⟩ := rv_get hx
      obtain ⟨m, hm, b1, b2, hb0, hb1, hb2⟩ := hP.get hc
      have lm := CQ.mem_below.mp (List.mem_of_getElem? hm)
      have lml := CQ.leL_trans lm ln
      have lmr := CQ.leL_trans (CQ.leL_minus lm) ln
      have st : ∀ b xs, H b = some (.tup xs) → H6 b = some (.tup xs) := fun b xs e => s5 _ _ (s2 _ _ (ne_of_none e ht) (gt _ _ e))
      refine ⟨c, _, rfl, SqT.of (st _ _ hb0), rfl, _, _, rfl, _, _, rfl, rfl, rfl, ?_⟩
      refine yes ?_
      refine ⟨_, rfl, _, rfl, a2, _, rfl, DI.get (s5 _ _ (s2 _ _ n2t g2)) (CQ.mem_below.mpr lml) (st _ _ hb1), _, rfl, _, rfl, a1, _, rfl, DI.get (s5 _ _ (s2 _ _ n1t g1)) (CQ.mem_below.mpr lmr) (st _ _ hb2), _, _, rfl, rfl, wide_mul (a := x) (b := y) (natAbs_lt (hf m lml)) (natAbs_lt (hg _ lmr)) x0 y0 (by omega), ?_⟩
      refine ⟨_, hcs, by rw [nv_len]; exact sizeK (by have z1 := List.length_take_le' j ((below n').map fun m => f m * g (minus n' m)); rw [List.length_map, CQ.length_below] at z1; have := CQ.vec_le ln; omega), sPut s5 hD, ?_⟩
      rw [upd_same, map_get hm, nv_append]
      show some (HO.lst (_ ++ [V.int ((f m : Int) * (g (minus n' m) : Int))])) = _
      rw [← Int.natCast_mul]
      rfl
    · rintro H5 ⟨s5, hcs⟩
      rw [e4, ← List.length_map (as := below n') (f := fun m => f m * g (minus n' m)), List.take_length] at hcs
      refine ⟨D, _, rfl, by rw [← nv_int]; exact SqL.of hcs, ?_⟩
      rw [ns_int]
      have hd5 : DI H5 t ((below lim).take i) (convN f g) := s5 _ _ hd2
      have hb : TN H5 qa n' := by
        show H5 qa = some (.tup (nv n'))
        rw [← kk_kV]
        exact s5 _ _ hq2
      refine ⟨_, rfl, _, rfl, t, _, rfl, DI.put (f := convN f g) hd5 (CQ.below_nodup lim) hn hb (by rw [CQ.length_below]; omega), (s2.trans s5).put, upd_same, some (.ref qa), some (.ref l), v6, v7, rfl⟩
  · rintro σ H1 ⟨s1, hd, v4, v5, v6, v7, rfl⟩
    have e : (dS (below lim) ls).length = (below lim).length := tabV_full _ hlen
    rw [e, List.take_length] at hd
    refine ⟨s1 _ _ n3t upd_same, _, rfl, q t _ ?_ ?_⟩
    · refine fun b u e => ?_
      by_cases hb : b = a3
      · subst hb
        rw [upd_same, ← h3, e]
      · rw [upd_ne hb]
        exact s1 b u (ne_of_none e ht) (by rw [upd_ne hb]; exact s0 _ _ e)
    · show upd _ _ _ _ = _
      rw [upd_ne n3t.symm]
      exact hd
end
end Cq
end
section
set_option Elab.async false
set_option linter.all false
set_option maxRecDepth 100000
set_option maxHeartbeats 4000000
set_option exponentiation.threshold 100000
namespace Cq
open PySem PySem.Spec PyProof.Rows L2 CqR
open Lrx5 (Station below minus factorial)
open CQ (FitL FitS Fit tot fprod dprod speeds scl sfS sf leL gT convN delN vec ns scls)
theorem LS.get {K : Kf} {H : Hp} {as : List Addr} {sts : List Station} {i : Nat} {x : V} (h : AllR (St1 K) H as sts) (hx : (rv as)[i]? = some x) : ∃ a s, x = .ref a ∧ as[i]? = some a ∧ sts[i]? = some s ∧ St1 K H a s := by
  obtain ⟨b, hb, rfl⟩ := rv_get hx
  obtain ⟨s, hs, z⟩ := h.get hb
  exact ⟨b, s, rfl, hb, hs, z⟩
theorem rv_len {α : Type} {R : Hp → Addr → α → Prop} {H : Hp} {as : List Addr} {ns : List α} (h : AllR R H as ns) : (rv as).length = ns.length := by rw [rv, List.length_map]; exact h.len
theorem gT_take {lim : List Nat} {sts : List Station} {i : Nat} {s : Station} (h : sts[i]? = some s) : gT lim (sts.take (i + 1)) = convN (sf s lim) (gT lim (sts.take i)) := by
  rw [take_one h]
  unfold gT
  rw [List.foldl_append]
  rfl
theorem scls_take {lim : List Nat} {sts : List Station} {i : Nat} {s : Station} (h : sts[i]? = some s) : scls (sts.take (i + 1)) lim = scls (sts.take i) lim * scl s lim := by
  rw [take_one h]
  unfold scls
  rw [List.foldl_append]
  rfl
theorem Fit.take {sts : List Station} {lim : List Nat} (h : Fit sts lim) (i : Nat) : Fit (sts.take i) lim := ⟨Nat.le_trans (List.length_take_le' ..) h.n5, fun s hs => h.st s (List.mem_of_mem_take hs), h.fl⟩
section
variable {P : Program} {w : World} {K : Kf} {mg : Str → Option Value} {base : Heap}
def sp_norm_table (K : Kf) : Sp := fun vs H Q _ => ∃ (l p : Addr) (sts : List Station) (lim : List Nat), vs = [.ref l, .ref p] ∧ LS K H l sts ∧ TN H p lim ∧ Fit sts lim ∧ ∀ r H', Same H H' → DI H' r (below lim) (gT lim sts) → Q (.ref r) H'
theorem sc_norm_table : FnScope ["stations", "limits", "splits", "norms", "numbers", "station"] ["stations", "limits"] (defScope (top 62)) := ⟨rfl, rfl, rfl, by decide +kernel, rfl, by decide +kernel, by decide +kernel⟩
theorem d_norm_table (T : Facts K mg) : Dfn P w K mg base CX0 5 "norm_table" ["stations", "limits"] (sp_norm_table K) := by
  refine dfn0 (T.d 39 rfl) sc_norm_table (fun _ _ _ _ _ _ us hl => match us, hl with | [_, _], _ => rfl) (fun vs H Q E h => by obtain ⟨l, p, sts, lim, rfl, _⟩ := h; rfl) fun cdv A outer s H vs Q E hr h => ⟨_,
    (pss_cons (ps_set (i := 2) sc_norm_table.nd rfl (Or.inl rfl) (pe_dfn (d_splits_within T) (hr.mono (by decide)) pass0 (pa_cons (pv 1) pa_nil)))
    (pss_cons (ps_set (i := 3) sc_norm_table.nd rfl (Or.inl rfl) pe_dnewT)
    (pss_cons (ps_lock (ps_for PassesOwn.never rfl (pi_keys (pv 2)) (pg_name (i := 4) sc_norm_table.nd rfl (Or.inl rfl))
        (pss_one (ps_dput (hu_of hr) (pv 3) (pv 4) (pe_ifExp (pt_cmpR op_eq (pe_callB (cr_sumT rfl) (by rfl) T.f_sum boot_sum (pa_cons (pv 4) pa_nil)) pe_int (nomark _)) pe_int pe_int) rfl))))
    (pss_cons (ps_for PassesOwn.never rfl (pi_list (pv 0)) (pg_name (i := 5) sc_norm_table.nd rfl (Or.inl rfl))
        (pss_one (ps_set (i := 3) sc_norm_table.nd rfl (Or.inl rfl) (pe_dfn (d_joined T) (hr.mono (by decide)) pass0 (pa_cons (pv 3) (pa_cons (pe_dfn (d_factor_table T) hr pass0 (pa_cons (pv 5) (pa_cons (pv 1) pa_nil))) (pa_cons (pv 2) pa_nil)))))))
    (pss_one (ps_ret (pv 3))))))), ?_⟩
  obtain ⟨l, p, sts, lim, rfl, ⟨as, hl, hA⟩, hp, hf, q⟩ := h
  refine ⟨_, rfl, p, lim, rfl, hp, hf.fl, fun w1 H1 s1 hw => ?_⟩
  intro d hd
  have s0 : Same H1 (upd H1 d (.dT [])) := same_new hd
  obtain ⟨ls, hw1, hA1⟩ := hw
  have nw : w1 ≠ d := ne_of_none hw1 hd
  refine ⟨w1, _, s0 _ _ hw1, True.intro, fun od => ?_⟩
  refine ⟨_, rfl, w1, od, rfl, .inr ⟨_, upd_same, for_it walk_keysT (fun i σ H2 => Sb d (upd (upd H1 d (.dT [])) w1 (.frz od (.dT (dS (below lim) ls)))) H2 ∧ DI H2 d ((below lim).take i) delN ∧ ∃ v4 v5, σ = [some (.ref l), some (.ref p), some (.ref w1), some (.ref d), v4, v5])
    ⟨Sb.refl d _, by show upd _ _ _ _ = _; rw [upd_ne nw.symm, upd_same]; rfl, none, none, rfl⟩ (fun i σ H2 _ h => h.1 _ _ nw upd_same) ?_ ?_⟩⟩
  · rintro i x σ H2 H3 hi ⟨s2, hd2, v4, v5, rfl⟩ ⟨rfl, k, v, qa, hk, rfl, hq⟩
    obtain ⟨n, a, hn, ha, rfl, rfl⟩ := tabV_get hk
    have hb : TN H3 qa n := by
      show H3 qa = some (.tup (nv n))
      rw [← kk_kV]
      exact hq
    refine ⟨_, rfl, qa, _, rfl, by rw [← nv_int]; exact hb.sq, ?_⟩
    rw [sum_nv]
    refine ⟨rfl, ?_⟩
    have fin : ∀ z : Int, z = (delN n : Nat) → tVar 3 [some (V.ref l), some (V.ref p), some (V.ref w1), some (V.ref d), some (V.ref qa), v5] H3 fun x H4 => tVar 4 [some (V.ref l), some (V.ref p), some (V.ref w1), some (V.ref d), some (V.ref qa), v5] H4 fun y H5 => ∃ a H6, x = .ref a ∧ DPut H5 a y (.int z) H6 ∧
        (Sb d (upd (upd H1 d (.dT [])) w1 (.frz od (.dT (dS (below lim) ls)))) H6 ∧ DI H6 d ((below lim).take (i + 1)) delN ∧ ∃ v4' v5', [some (V.ref l), some (V.ref p), some (V.ref w1), some (V.ref d), some (V.ref qa), v5] = [some (.ref l), some (.ref p), some (.ref w1), some (.ref d), v4', v5']) := by
      rintro z rfl
      exact ⟨_, rfl, _, rfl, d, _, rfl, DI.put (f := delN) hd2 (CQ.below_nodup lim) hn hb (Nat.le_trans (below_len hf.fl) (by decide)), s2.put, upd_same, some (.ref qa), v5, rfl⟩
    by_cases h0 : tot n = 0
    · exact ⟨true, eqT (by omega), iteT (fin 1 (by unfold delN; rw [if_pos h0]; rfl))⟩
    · exact ⟨false, eqF (by omega), iteF (fin 0 (by unfold delN; rw [if_neg h0]; rfl))⟩
  · rintro σ H2 ⟨s2, hd2, v4, v5, rfl⟩
    have e : (dS (below lim) ls).length = (below lim).length := tabV_full _ hA1.len
    rw [e, List.take_length] at hd2
    have s3 : Same H1 (upd H2 w1 (.dT (dS (below lim) ls))) := fun b u e => by
      by_cases hb : b = w1
      · subst hb
        rw [upd_same, ← hw1, e]
      · rw [upd_ne hb]
        exact s2 b u (ne_of_none e hd) (by rw [upd_ne hb]; exact s0 _ _ e)
    have hd3 : DI (upd H2 w1 (.dT (dS (below lim) ls))) d (below lim) delN := by
      show upd _ _ _ _ = _
      rw [upd_ne nw.symm]
      exact hd2
    have s4 := s1.trans s3
    have hw4 : DS (upd H2 w1 (.dT (dS (below lim) ls))) w1 (below lim) := DS.mono s3 ⟨ls, hw1, hA1⟩
    refine ⟨s2 _ _ nw upd_same, ?_⟩
    refine ⟨_, rfl, l, rfl, ⟨_, SqL.of (s4 _ _ hl)⟩, for_it walk_list (fun i σ H5 => Same (upd H2 w1 (.dT (dS (below lim) ls))) H5 ∧ ∃ g v4 v5, σ = [some (.ref l), some (.ref p), some (.ref w1), some (.ref g), v4, v5] ∧ DI H5 g (below lim) (gT lim (sts.take i)))
      ⟨Same.refl _, d, v4, v5, rfl, hd3⟩ (fun i σ H5 _ h => SqL.of (h.1 _ _ (s4 _ _ hl))) ?_ ?_⟩
    · rintro i x σ H5 H6 hi ⟨s5, g, v4, v5, rfl, hg⟩ ⟨rfl, hx⟩
      obtain ⟨a, s, rfl, ha, hs, hst⟩ := LS.get hA hx
      have s45 := s4.trans s5
      have hS := hf.st s (List.mem_of_getElem? hs)
      refine ⟨_, rfl, _, rfl, _, rfl, a, p, s, lim, rfl, St1.mono s45 hst, TN.mono s45 hp, hS, hf.fl, fun r H7 s7 _ hr7 => ?_⟩
      refine ⟨_, rfl, g, r, w1, lim, sf s lim, gT lim (sts.take i), 215, 1106, rfl, s7 _ _ hg, hr7, DS.mono (s5.trans s7) hw4, hf.fl.vec, fun m hm => CQ.sf_lt hS hf.fl hm, fun m hm => CQ.gT_lt (Fit.take hf i) hm, by decide, by decide, by decide, fun r2 H8 s8 hr8 => ?_⟩
      refine ⟨(s5.trans s7).trans s8, r2, v4, some (.ref a), rfl, ?_⟩
      rw [gT_take hs]
      exact hr8
    · rintro σ H5 ⟨s5, g, v4, v5, rfl, hg⟩
      rw [rv_len hA, List.take_length] at hg
      exact ⟨_, rfl, q g _ (s4.trans s5) hg⟩
def sp_network_norm (K : Kf) : Sp := fun vs H Q _ => ∃ (l p : Addr) (sts : List Station) (lim : List Nat), vs = [.ref l, .ref p] ∧ LS K H l sts ∧ TN H p lim ∧ Fit sts lim ∧ ∀ r H', Same H H' → TR H' r (mkRat (gT lim sts lim) (scls sts lim)) → Q (.ref r) H'
theorem sc_network_norm : FnScope ["stations", "populations", "scale", "station"] ["stations", "populations"] (defScope (top 63)) := ⟨rfl, rfl, rfl, by decide +kernel, rfl, by decide +kernel, by decide +kernel⟩
theorem d_network_norm (T : Facts K mg) : Dfn P w K mg base CX0 6 "network_norm" ["stations", "populations"] (sp_network_norm K) := by
  refine dfn0 (T.d 40 rfl) sc_network_norm (fun _ _ _ _ _ _ us hl => match us, hl with | [_, _], _ => rfl) (fun vs H Q E h => by obtain ⟨l, p, sts, lim, rfl, _⟩ := h; rfl) fun cdv A outer s H vs Q E hr h => ⟨_,
    (pss_cons (ps_set (i := 2) sc_network_norm.nd rfl (Or.inl rfl) pe_int)
    (pss_cons (ps_for PassesOwn.never rfl (pi_list (pv 0)) (pg_name (i := 3) sc_network_norm.nd rfl (Or.inl rfl))
        (pss_one (ps_set (i := 2) sc_network_norm.nd rfl (Or.inl rfl) (pe_op op_mulW (pv 2) (pe_dfn (d_factor_scale T) (hr.mono (by decide)) pass0 (pa_cons (pv 3) (pa_cons (pv 1) pa_nil)))))))
    (pss_one (ps_ret (pe_dfn (d_lowest_terms T) (hr.mono (by decide)) pass0 (pa_cons (pe_dget (hu_of hr) (pe_dfn (d_norm_table T) hr pass0 (pa_cons (pv 0) (pa_cons (pv 1) pa_nil))) (pv 1) (fun _ _ => rfl)) (pa_cons (pv 2) pa_nil))))))), ?_⟩
  obtain ⟨l, p, sts, lim, rfl, ⟨as, hl, hA⟩, hp, hf, q⟩ := h
  refine ⟨_, rfl, l, rfl, ⟨_, SqL.of hl⟩, for_it walk_list (fun i σ H5 => H5 = H ∧ ∃ v, σ = [some (.ref l), some (.ref p), some (.int (scls (sts.take i) lim : Nat)), v])
    ⟨rfl, none, rfl⟩ (fun i σ H5 _ h => by obtain ⟨rfl, _⟩ := h; exact SqL.of hl) ?_ ?_⟩
  · rintro i x σ H5 H6 hi ⟨rfl, v, rfl⟩ ⟨rfl, hx⟩
    obtain ⟨a, s, rfl, ha, hs, hst⟩ := LS.get hA hx
    have hS := hf.st s (List.mem_of_getElem? hs)
    refine ⟨_, rfl, _, rfl, _, rfl, a, p, s, lim, rfl, hst, hp, hf.fl, hS.s20, _, _, rfl, rfl, wide_mul (a := 186) (b := 37) (natAbs_lt (CQ.scls_lt (Fit.take hf i))) (natAbs_lt (CQ.scl_lt s hf.fl.tot)) (by decide) (by decide) (by decide), ?_⟩
    refine ⟨rfl, some (.ref a), ?_⟩
    rw [scls_take hs, Int.natCast_mul]
    rfl
  · rintro σ H5 ⟨rfl, v, rfl⟩
    refine ⟨_, rfl, _, rfl, l, p, sts, lim, rfl, ⟨as, hl, hA⟩, hp, hf, fun r H7 s7 hr7 => ?_⟩
    refine ⟨_, rfl, r, _, rfl, DI.get hr7 (CQ.mem_below.mpr (CQ.leL_refl lim)) (TN.mono s7 hp), _, rfl, _, scls sts lim, ?_, CQ.scls_pos (fun s hs => (hf.st s hs).sv) lim, Nat.lt_of_lt_of_le (CQ.scls_lt hf) (Nat.pow_le_pow_right (by decide) (by decide)), fun r2 H8 s8 hr8 => q r2 _ (s7.trans s8) hr8⟩
    rw [rv_len hA, List.take_length]
    rfl
end
end Cq
end
section
set_option Elab.async false
set_option linter.all false
set_option maxRecDepth 100000
set_option maxHeartbeats 4000000
set_option exponentiation.threshold 100000
namespace Cq
open PySem PySem.Spec PyProof.Rows L2 CqR
open Lrx5 (Station below minus factorial count without)
open CQ (FitL FitS Fit tot fprod dprod speeds scl sfS sf leL gT convN delN vec ns scls thr nrm Sm)
section
variable {P : Program} {w : World} {K : Kf} {mg : Str → Option Value} {base : Heap}
def sp_throughput_in : Sp := fun vs H Q _ => ∃ (a1 p : Addr) (lim n : List Nat) (r : Nat) (sts : List Station), vs = [.ref a1, .ref p, .int r] ∧ DI H a1 (below lim) (gT lim sts) ∧ TN H p n ∧ leL n lim ∧ r < n.length ∧ Fit sts lim ∧
  (count n r ≠ 0 → 0 < nrm sts n) ∧ ∀ t H', Same H H' → TR H' t (thr sts n r) → Q (.ref t) H'
theorem sc_throughput_in : FnScope ["norms", "populations", "customer_class"] ["norms", "populations", "customer_class"] (defScope (top 64)) := ⟨rfl, rfl, rfl, by decide +kernel, rfl, by decide +kernel, by decide +kernel⟩
theorem d_throughput_in (T : Facts K mg) : Dfn P w K mg base CX0 3 "throughput_in" ["norms", "populations", "customer_class"] (sp_throughput_in) := by
  refine dfn0 (T.d 41 rfl) sc_throughput_in (fun _ _ _ _ _ _ us hl => match us, hl with | [_, _, _], _ => rfl) (fun vs H Q E h => by obtain ⟨a1, p, lim, n, r, sts, rfl, _⟩ := h; rfl) fun cdv A outer s H vs Q E hr h => ⟨_,
    (pss_cons (ps_if (pt_cmpR op_eq (pe_ix ix_tup (pv 1) (pv 2) (fun _ _ => rfl)) pe_int (nomark _))
        (pss_one (ps_ret (pe_tup (pa_cons pe_int (pa_cons pe_int pa_nil)))))
        pss_nil)
    (pss_one (ps_ret (pe_dfn (d_lowest_terms T) hr pass0 (pa_cons (pe_dget (hu_of hr) (pv 0) (pe_dfn (d_one_less T) hr pass0 (pa_cons (pv 1) (pa_cons (pv 2) pa_nil))) (fun _ _ => rfl)) (pa_cons (pe_dget (hu_of hr) (pv 0) (pv 1) (fun _ _ => rfl)) pa_nil)))))), ?_⟩
  obtain ⟨a1, p, lim, n, r, sts, rfl, hd, hp, hn, hr2, hf, hpos, q⟩ := h
  refine ⟨_, rfl, _, rfl, p, _, _, _, rfl, rfl, hp.sq, nv_at hr2, rfl, ?_⟩
  by_cases hc : count n r = 0
  · refine ⟨true, eqT (by omega), iteT ⟨by show 2 ≤ sizeLine; decide, fun t ht => q t _ (same_new ht) ?_⟩⟩
    have e : thr sts n r = 0 := by unfold thr; rw [if_pos hc]
    rw [e]
    exact upd_same
  · refine ⟨false, eqF (by omega), iteF ?_⟩
    have l1 := CQ.leL_trans (CQ.leL_without n r) hn
    have g0 := CQ.gT_pos hf hn (hpos hc)
    refine ⟨_, rfl, _, rfl, _, rfl, p, n, r, rfl, hp, hr2, hc, fun p2 H2 s2 hp2 => ?_⟩
    refine ⟨a1, _, rfl, DI.get (s2 _ _ hd) (CQ.mem_below.mpr l1) hp2, _, rfl, _, rfl, a1, _, rfl, DI.get (s2 _ _ hd) (CQ.mem_below.mpr hn) (TN.mono s2 hp), ?_⟩
    refine ⟨_, _, rfl, g0, Nat.lt_of_lt_of_le (CQ.gT_lt hf hn) (Nat.pow_le_pow_right (by decide) (by decide)), fun t H3 s3 ht => q t _ (s2.trans s3) ?_⟩
    rw [← CQ.thr_mk hf hn hc]
    exact ht
def sp_class_throughput (K : Kf) : Sp := fun vs H Q _ => ∃ (l p : Addr) (sts : List Station) (n : List Nat) (r : Nat), vs = [.ref l, .ref p, .int r] ∧ LS K H l sts ∧ TN H p n ∧ r < n.length ∧ Fit sts n ∧ (count n r ≠ 0 → 0 < nrm sts n) ∧ ∀ t H', Same H H' → TR H' t (thr sts n r) → Q (.ref t) H'
theorem sc_class_throughput : FnScope ["stations", "populations", "customer_class"] ["stations", "populations", "customer_class"] (defScope (top 65)) := ⟨rfl, rfl, rfl, by decide +kernel, rfl, by decide +kernel, by decide +kernel⟩
theorem d_class_throughput (T : Facts K mg) : Dfn P w K mg base CX0 6 "class_throughput" ["stations", "populations", "customer_class"] (sp_class_throughput K) := by
  refine dfn0 (T.d 42 rfl) sc_class_throughput (fun _ _ _ _ _ _ us hl => match us, hl with | [_, _, _], _ => rfl) (fun vs H Q E h => by obtain ⟨l, p, sts, n, r, rfl, _⟩ := h; rfl) fun cdv A outer s H vs Q E hr h => ⟨_,
    (pss_one (ps_ret (pe_dfn (d_throughput_in T) (hr.mono (by decide)) pass0 (pa_cons (pe_dfn (d_norm_table T) hr pass0 (pa_cons (pv 0) (pa_cons (pv 1) pa_nil))) (pa_cons (pv 1) (pa_cons (pv 2) pa_nil)))))), ?_⟩
  obtain ⟨l, p, sts, n, r, rfl, hl, hp, hr2, hf, hpos, q⟩ := h
  refine ⟨_, rfl, _, rfl, l, p, sts, n, rfl, hl, hp, hf, fun d H1 s1 hd => ?_⟩
  exact ⟨_, rfl, _, rfl, d, p, n, n, r, sts, rfl, hd, TN.mono s1 hp, CQ.leL_refl n, hr2, hf, hpos, fun t H2 s2 ht => q t _ (s1.trans s2) ht⟩
def sp_all_throughputs (K : Kf) : Sp := fun vs H Q _ => ∃ (l p : Addr) (sts : List Station) (n : List Nat), vs = [.ref l, .ref p] ∧ LS K H l sts ∧ TN H p n ∧ Fit sts n ∧ 0 < nrm sts n ∧ ∀ t H', Same H H' → LR H' t ((List.range n.length).map (thr sts n)) → Q (.ref t) H'
theorem sc_all_throughputs : FnScope ["stations", "populations", "norms", "customer_class"] ["stations", "populations"] (defScope (top 66)) := ⟨rfl, rfl, rfl, by decide +kernel, rfl, by decide +kernel, by decide +kernel⟩
theorem d_all_throughputs (T : Facts K mg) : Dfn P w K mg base CX0 6 "all_throughputs" ["stations", "populations"] (sp_all_throughputs K) := by
  refine dfn0 (T.d 43 rfl) sc_all_throughputs (fun _ _ _ _ _ _ us hl => match us, hl with | [_, _], _ => rfl) (fun vs H Q E h => by obtain ⟨l, p, sts, n, rfl, _⟩ := h; rfl) fun cdv A outer s H vs Q E hr h => ⟨_,
    (pss_cons (ps_set (i := 2) sc_all_throughputs.nd rfl (Or.inr rfl) (pe_dfn (d_norm_table T) hr pass0 (pa_cons (pv 0) (pa_cons (pv 1) pa_nil))))
    (pss_one (ps_ret (by exact (pe_lc rfl sc_all_throughputs.nd (pi_range1 rfl T.f_range (pa_cons (pe_callB call_len_seq (by rfl) T.f_len PySem.boot_len (pa_cons (pv 1) pa_nil)) pa_nil)) (blkOk_by (own := [("customer_class", 3)]) (N := ["stations", "populations", "norms", "customer_class"]) (sc := defScope (top 66)) (by decide +kernel)) (fun _ _ _ _ _ => by exact (pg_name (i := 3) sc_all_throughputs.nd rfl (Or.inl rfl) (Or.inr rfl))) (fun _ _ _ _ _ => by exact pts_nil) (fun _ _ _ _ _ => by exact (pe_dfn (d_throughput_in T) (hr.mono (by decide)) pass0 (pa_cons (pv 2) (pa_cons (pv 1) (pa_cons (pv 3) pa_nil)))))))))), ?_⟩
  obtain ⟨l, p, sts, n, rfl, hl, hp, hf, hpos, q⟩ := h
  refine ⟨_, rfl, _, rfl, l, p, sts, n, rfl, hl, hp, hf, fun d H1 s1 hd => ?_⟩
  have hn3 := hf.fl.len
  refine ⟨_, rfl, p, _, rfl, .inr (TN.mono s1 hp).sq, _, rfl, by rw [nv_len]; omega, by rw [nv_len]; omega, fun D hD => ?_⟩
  rw [nv_len]
  refine lc_it (walk_range (lo := 0) (n := n.length)) (fun i H2 => Same H1 H2 ∧ ∃ as, H2 D = some (.lst (rv as)) ∧ AllR TR H2 as (((List.range n.length).map (thr sts n)).take i)) ⟨same_new hD, [], upd_same, True.intro⟩ (fun _ _ _ _ => trivial) ?_ ?_
  · rintro i x H2 H3 hi ⟨s2, as, hD2, hA⟩ ⟨rfl, rfl⟩
    have e0 : (0 : Int) + (i : Int) = ((i : Nat) : Int) := by omega
    refine ⟨rfl, ?_⟩
    refine yes ?_
    refine ⟨_, rfl, _, rfl, _, rfl, d, p, n, n, i, sts, by show [_, _, V.int ((0 : Int) + (i : Int))] = _; rw [e0], s2 _ _ hd, TN.mono (s1.trans s2) hp, CQ.leL_refl n, hi, hf, fun _ => hpos, fun t H4 s4 ht => ?_⟩
    have hD4 := s4 _ _ hD2
    have tD : ∀ q, TR H4 t q → t ≠ D := fun q z e => by rw [e, TR, hD4] at z; cases z
    have up : ∀ a q, TR H4 a q → TR (upd H4 D (.lst (rv as ++ [V.ref t]))) a q := fun a q z => by
      show upd _ _ _ _ = _
      rw [upd_ne (ne_of z hD4 fun z => nomatch z)]
      exact z
    refine ⟨rv as, hD4, by rw [rv_len hA]; exact sizeK (by have := List.length_take_le' i ((List.range n.length).map (thr sts n)); rw [List.length_map, List.length_range] at this; omega), sPut (s2.trans s4) hD, as ++ [t], by rw [upd_same, rv_snoc], ?_⟩
    rw [map_get (a := i) (by rw [List.getElem?_range hi])]
    exact AllR.snoc (up _ _ ht) (hA.mono fun a q z => up _ _ (s4 _ _ z))
  · rintro H2 ⟨s2, as, hD2, hA⟩
    refine q D _ (s1.trans s2) ⟨as, hD2, ?_⟩
    rw [List.take_of_length_le (by rw [List.length_map, List.length_range]; exact Nat.le_refl _)] at hA
    exact hA
def sp_throughput_curve (K : Kf) : Sp := fun vs H Q _ => ∃ (l p : Addr) (sts : List Station) (n : List Nat) (r : Nat), vs = [.ref l, .ref p, .int r] ∧ LS K H l sts ∧ TN H p n ∧ r < n.length ∧ Fit sts n ∧ (∀ k, k ≤ count n r → k ≠ 0 → 0 < nrm sts (n.set r k)) ∧
  ∀ t H', Same H H' → LR H' t ((List.range (count n r + 1)).map fun k => thr sts (n.set r k) r) → Q (.ref t) H'
theorem sc_throughput_curve : FnScope ["stations", "populations", "customer_class", "norms", "rates", "customers"] ["stations", "populations", "customer_class"] (defScope (top 67)) := ⟨rfl, rfl, rfl, by decide +kernel, rfl, by decide +kernel, by decide +kernel⟩
theorem d_throughput_curve (T : Facts K mg) : Dfn P w K mg base CX0 6 "throughput_curve" ["stations", "populations", "customer_class"] (sp_throughput_curve K) := by
  refine dfn0 (T.d 44 rfl) sc_throughput_curve (fun _ _ _ _ _ _ us hl => match us, hl with | [_, _, _], _ => rfl) (fun vs H Q E h => by obtain ⟨l, p, sts, n, r, rfl, _⟩ := h; rfl) fun cdv A outer s H vs Q E hr h => ⟨_,
    (pss_cons (ps_set (i := 3) sc_throughput_curve.nd rfl (Or.inl rfl) (pe_dfn (d_norm_table T) hr pass0 (pa_cons (pv 0) (pa_cons (pv 1) pa_nil))))
    (pss_cons (ps_set (i := 4) sc_throughput_curve.nd rfl (Or.inl rfl) (pe_lst pa_nil))
    (pss_cons (ps_for PassesOwn.never rfl (pi_range1 rfl T.f_range (pa_cons (pe_op op_add (pe_ix ix_tup (pv 1) (pv 2) (fun _ _ => rfl)) pe_int) pa_nil)) (pg_name (i := 5) sc_throughput_curve.nd rfl (Or.inl rfl))
        (pss_one (ps_expr (pe_bm PySem.F.plainAttrs_list PySem.F.slot_list_append PySem.F.type_list_append mt_append (pv 4) (pa_cons (pe_dfn (d_throughput_in T) (hr.mono (by decide)) pass0 (pa_cons (pv 3) (pa_cons (pe_dfn (d_with_customers T) (hr.mono (by decide)) pass0 (pa_cons (pv 1) (pa_cons (pv 2) (pa_cons (pv 5) pa_nil)))) (pa_cons (pv 2) pa_nil)))) pa_nil)))))
    (pss_one (ps_ret (pv 4)))))), ?_⟩
  obtain ⟨l, p, sts, n, r, rfl, hl, hp, hr2, hf, hpos, q⟩ := h
  refine ⟨_, rfl, _, rfl, l, p, sts, n, rfl, hl, hp, hf, fun d H1 s1 hd => ?_⟩
  have hk12 : count n r ≤ 12 := by
    refine hf.fl.le _ ?_
    unfold count
    rw [List.getD_eq_getElem?_getD, List.getElem?_eq_getElem hr2]
    exact List.getElem_mem hr2
  refine ⟨by show 0 ≤ sizeLine; decide, fun D hD => ?_⟩
  refine ⟨_, rfl, _, rfl, p, _, _, _, rfl, rfl, (TN.mono (s1.trans (same_new hD)) hp).sq, nv_at hr2, _, _, rfl, rfl, _, rfl, by omega, by omega, for_it (walk_range (lo := 0) (n := count n r + 1)) (fun i σ H2 => Same H1 H2 ∧ ∃ as v, σ = [some (.ref l), some (.ref p), some (.int r), some (.ref d), some (.ref D), v] ∧ H2 D = some (.lst (rv as)) ∧ AllR TR H2 as (((List.range (count n r + 1)).map fun k => thr sts (n.set r k) r).take i))
    ⟨same_new hD, [], none, rfl, upd_same, True.intro⟩ (fun _ _ _ _ _ => trivial) ?_ ?_⟩
  · rintro i x σ H2 H3 hi ⟨s2, as, v, rfl, hD2, hA⟩ ⟨rfl, rfl⟩
    have e0 : (0 : Int) + (i : Int) = ((i : Nat) : Int) := by omega
    refine ⟨_, rfl, .inl ⟨rfl, _, SqL.of hD2⟩, _, rfl, _, rfl, _, rfl, _, rfl, p, n, r, i, by show [_, _, V.int ((0 : Int) + (i : Int))] = _; rw [e0], TN.mono (s1.trans s2) hp, hr2, fun p4 H4 s4 hp4 => ?_⟩
    refine ⟨_, rfl, d, p4, n, n.set r i, r, sts, rfl, (s2.trans s4) _ _ hd, hp4, CQ.leL_set (by omega), by rw [List.length_set]; exact hr2, hf, fun hc => hpos i (by omega) (by rw [CQ.count_set_same hr2] at hc; exact hc), fun t H5 s5 ht => ?_⟩
    have hD5 := s5 _ _ (s4 _ _ hD2)
    have up : ∀ a q, TR H5 a q → TR (upd H5 D (.lst (rv as ++ [V.ref t]))) a q := fun a q z => by
      show upd _ _ _ _ = _
      rw [upd_ne (ne_of z hD5 fun z => nomatch z)]
      exact z
    refine ⟨D, _, _, rfl, rfl, hD5, by rw [rv_len hA]; exact sizeK (by have := List.length_take_le' i ((List.range (count n r + 1)).map fun k => thr sts (n.set r k) r); rw [List.length_map, List.length_range] at this; omega), ?_⟩
    refine ⟨sPut ((s2.trans s4).trans s5) hD, as ++ [t], some (.int (0 + (i : Int))), rfl, by rw [upd_same, rv_snoc], ?_⟩
    rw [map_get (a := i) (by rw [List.getElem?_range hi])]
    exact AllR.snoc (up _ _ ht) (hA.mono fun a q z => up _ _ (s5 _ _ (s4 _ _ z)))
  · rintro σ H2 ⟨s2, as, v, rfl, hD2, hA⟩
    refine ⟨_, rfl, q D _ (s1.trans s2) ⟨as, hD2, ?_⟩⟩
    rw [List.take_of_length_le (by rw [List.length_map, List.length_range]; exact Nat.le_refl _)] at hA
    exact hA
end
end Cq
end
section
set_option Elab.async false
set_option linter.all false
set_option maxRecDepth 100000
set_option maxHeartbeats 4000000
set_option exponentiation.threshold 100000
namespace Cq
open PySem PySem.Spec PyProof.Rows L2 CqR
open Lrx5 (Station below minus factorial count without)
open CQ (FitL FitS Fit tot fprod dprod speeds scl sfS sf leL gT convN delN vec ns scls thr nrm Sm wt W sta sN mean pr)
theorem AllR.append {α : Type} {R : Hp → Addr → α → Prop} {H : Hp} : ∀ {as bs : List Addr} {ns ms : List α}, AllR R H as ns → AllR R H bs ms → AllR R H (as ++ bs) (ns ++ ms)
  | [], _, [], _, _, h => h
  | _ :: _, _, _ :: _, _, h, k => ⟨h.1, AllR.append h.2 k⟩
theorem AllR.take {α : Type} {R : Hp → Addr → α → Prop} {H : Hp} : ∀ {as : List Addr} {ns : List α} (i : Nat), AllR R H as ns → AllR R H (as.take i) (ns.take i)
  | [], [], i, _ => by simp [AllR]
  | _ :: _, _ :: _, 0, _ => True.intro
  | _ :: _, _ :: _, i + 1, h => ⟨h.1, AllR.take i h.2⟩
theorem AllR.drop {α : Type} {R : Hp → Addr → α → Prop} {H : Hp} : ∀ {as : List Addr} {ns : List α} (i : Nat), AllR R H as ns → AllR R H (as.drop i) (ns.drop i)
  | [], [], i, _ => by simp [AllR]
  | _ :: _, _ :: _, 0, h => h
  | _ :: _, _ :: _, i + 1, h => AllR.drop i h.2
theorem cut_to {xs : List V} {i : Nat} (h : i ≤ xs.length) : cutV xs none (some (i : Int)) = xs.take i := by
  unfold cutV
  rw [HT.sIx_none, HT.sIx_nat, Nat.min_eq_left h]
  rfl
theorem cut_from {xs : List V} {i : Nat} (h : i ≤ xs.length) : cutV xs (some (i : Int)) none = xs.drop i := by
  unfold cutV
  rw [HT.sIx_none, HT.sIx_nat, Nat.min_eq_left h, List.take_of_length_le]
  rw [List.length_drop]
  exact Nat.le_refl _
section
variable {P : Program} {w : World} {K : Kf} {mg : Str → Option Value} {base : Heap}
def sp_marginal_weights (K : Kf) : Sp := fun vs H Q _ => ∃ (l p : Addr) (i : Nat) (sts : List Station) (lim : List Nat), vs = [.ref l, .int i, .ref p] ∧ LS K H l sts ∧ i < sts.length ∧ TN H p lim ∧ Fit sts lim ∧
  ∀ r H', Same H H' → H r = none → DI H' r (below lim) (wt sts i lim) → Q (.ref r) H'
theorem sc_marginal_weights : FnScope ["stations", "station", "populations", "others", "norms", "weights", "numbers", "factor"] ["stations", "station", "populations"] (defScope (top 68)) := ⟨rfl, rfl, rfl, by decide +kernel, rfl, by decide +kernel, by decide +kernel⟩
theorem d_marginal_weights (T : Facts K mg) : Dfn P w K mg base CX0 6 "marginal_weights" ["stations", "station", "populations"] (sp_marginal_weights K) := by
  refine dfn0 (T.d 45 rfl) sc_marginal_weights (fun _ _ _ _ _ _ us hl => match us, hl with | [_, _, _], _ => rfl) (fun vs H Q E h => by obtain ⟨l, p, i, sts, lim, rfl, _⟩ := h; rfl) fun cdv A outer s H vs Q E hr h => ⟨_,
    (pss_cons (ps_set (i := 3) sc_marginal_weights.nd rfl (Or.inl rfl) (pe_op op_cat (pe_slice sl_list (pv 0) po_none (po_some (pv 1))) (pe_slice sl_list (pv 0) (po_some (pe_op op_add (pv 1) pe_int)) po_none)))
    (pss_cons (ps_set (i := 4) sc_marginal_weights.nd rfl (Or.inl rfl) (pe_dfn (d_norm_table T) hr pass0 (pa_cons (pv 3) (pa_cons (pv 2) pa_nil))))
    (pss_cons (ps_set (i := 5) sc_marginal_weights.nd rfl (Or.inl rfl) pe_dnewT)
    (pss_cons (ps_for PassesOwn.never rfl (pi_itemsT (pe_dfn (d_factor_table T) (hr.mono (by decide)) pass0 (pa_cons (pe_ix ix_list (pv 0) (pv 1) (fun _ _ => rfl)) (pa_cons (pv 2) pa_nil)))) (pg_tup rfl (pgs_cons (pg_name (i := 6) sc_marginal_weights.nd rfl (Or.inl rfl)) (pgs_cons (pg_name (i := 7) sc_marginal_weights.nd rfl (Or.inl rfl)) pgs_nil)))
        (pss_one (ps_dput (hu_of hr) (pv 5) (pv 6) (pe_op op_mulW (pv 7) (pe_dget (hu_of hr) (pv 4) (pe_dfn (d_rest_of T) (hr.mono (by decide)) pass0 (pa_cons (pv 2) (pa_cons (pv 6) pa_nil))) (fun _ _ => rfl))) rfl)))
    (pss_one (ps_ret (pv 5))))))), ?_⟩
  obtain ⟨l, p, i, sts, lim, rfl, ⟨as, hl, hA⟩, hi, hp, hf, q⟩ := h
  have el : (rv as).length = sts.length := rv_len hA
  have ea : as.length = sts.length := hA.len
  have n5 := hf.n5
  refine ⟨_, rfl, _, rfl, _, rfl, l, _, rfl, SqL.of hl, fun p1 h1 => ?_⟩
  have s1 : Same H (upd H p1 (.lst (cutV (rv as) none (some (i : Int))))) := same_new h1
  refine ⟨_, rfl, _, rfl, _, _, rfl, rfl, _, rfl, l, _, rfl, SqL.of (s1 _ _ hl), fun p2 h2 => ?_⟩
  have s2 := sNew s1 (o := .lst (cutV (rv as) (some ((i : Int) + 1)) none)) h2
  refine ⟨p1, p2, cutV (rv as) none (some (i : Int)), cutV (rv as) (some ((i : Int) + 1)) none, rfl, rfl, ?_, upd_same, ?_, fun p3 h3 => ?_⟩
  · rw [upd_ne (ne_of_none upd_same h2)]
    exact upd_same
  · have := cutV_length (rv as) none (some (i : Int))
    have := cutV_length (rv as) (some ((i : Int) + 1)) none
    exact Nat.le_trans (show _ ≤ 1000 by omega) (by decide)
  have s3 := sNew s2 (o := .lst (cutV (rv as) none (some (i : Int)) ++ cutV (rv as) (some ((i : Int) + 1)) none)) h3
  have ho : LS K (upd (upd (upd H p1 (.lst (cutV (rv as) none (some (i : Int))))) p2 (.lst (cutV (rv as) (some ((i : Int) + 1)) none))) p3 (.lst (cutV (rv as) none (some (i : Int)) ++ cutV (rv as) (some ((i : Int) + 1)) none))) p3 (sts.eraseIdx i) := by
    refine ⟨as.take i ++ as.drop (i + 1), ?_, ?_⟩
    · rw [upd_same, cut_to (by omega), show ((i : Int) + 1) = ((i + 1 : Nat) : Int) by omega, cut_from (by omega)]
      unfold rv
      rw [List.map_append, List.map_take, List.map_drop]
    · rw [List.eraseIdx_eq_take_drop_succ]
      exact ((hA.take i).append (hA.drop (i + 1))).mono fun a s z => St1.mono s3 z
  refine ⟨_, rfl, _, rfl, p3, p, sts.eraseIdx i, lim, rfl, ho, TN.mono s3 hp, hf.erase i, fun d4 H4 s4 hd4 => ?_⟩
  intro d5 h5
  have s5 : Same H (upd H4 d5 (.dT [])) := (s3.trans s4).trans (same_new h5)
  have f5 : H d5 = none := (s3.trans s4).free h5
  have hsa := CQ.sta_get hi
  obtain ⟨a, ha, hst⟩ := hA.lt hsa
  have hSt := hf.st _ (CQ.sta_mem hi)
  refine ⟨_, rfl, _, rfl, l, _, i, _, rfl, rfl, SqL.of (s5 _ _ hl), atI_nat (by rw [rv, List.getElem?_map, ha]; rfl), _, rfl, a, p, sta sts i, lim, rfl, St1.mono s5 hst, TN.mono s5 hp, hSt, hf.fl, fun r H6 s6 fr hr6 => ?_⟩
  have fr0 : H r = none := s5.free fr
  have nrd : r ≠ d5 := fun z => by rw [z, upd_same] at fr; cases fr
  have n45 : d4 ≠ d5 := ne_of_none hd4 h5
  have n4r : d4 ≠ r := fun z => by
    have : upd H4 d5 (.dT []) d4 = some (.dT (dI (below lim) (gT lim (sts.eraseIdx i)))) := by rw [upd_ne n45]; exact hd4
    rw [z, fr] at this
    cases this
  have hd46 : DI H6 d4 (below lim) (gT lim (sts.eraseIdx i)) := s6 _ _ (by rw [upd_ne n45]; exact hd4)
  refine ⟨r, _, rfl, .inr ⟨hr6, fun o => for_it walk_itemsT (fun j σ H1 => Sb d5 (upd H6 r (.frz o (.dT (dI (below lim) (sf (sta sts i) lim))))) H1 ∧ DI H1 d5 ((below lim).take j) (wt sts i lim) ∧ ∃ v6 v7, σ = [some (.ref l), some (.int i), some (.ref p), some (.ref p3), some (.ref d4), some (.ref d5), v6, v7])
    ⟨Sb.refl d5 _, by show upd _ _ _ _ = _; rw [upd_ne nrd.symm]; exact s6 _ _ upd_same, none, none, rfl⟩ (fun j σ H1 _ h => h.1 _ _ nrd upd_same) ?_ ?_⟩⟩
  · rintro j x1 σ H1 H2 hj ⟨s7, hd, v6, v7, rfl⟩ ⟨T1, k, v, qa, hk, rfl, hT, hq, rfl⟩
    obtain ⟨n, l2, hn, hl2, rfl, rfl⟩ := tabV_get hk
    have e2 : l2 = sf (sta sts i) lim n := by
      rw [List.getElem?_map, hn] at hl2
      exact (Option.some.inj hl2).symm
    subst e2
    have ln := CQ.mem_below.mp (List.mem_of_getElem? hn)
    have s12 : Same H1 (upd H1 T1 (.tup [.ref qa, .int (sf (sta sts i) lim n : Nat)])) := same_new hT
    have s8 := s7.trans s12
    have hq2 : TN (upd H1 T1 (.tup [.ref qa, .int (sf (sta sts i) lim n : Nat)])) qa n := by
      show _ = some (HO.tup (nv n))
      rw [← kk_kV]
      exact s12 _ _ hq
    have hp2 : TN (upd H1 T1 (.tup [.ref qa, .int (sf (sta sts i) lim n : Nat)])) p lim := s8 _ _ (ne_of_none hp f5) (by rw [upd_ne (ne_of_none hp fr0)]; exact s6 _ _ (s5 _ _ hp))
    have hd42 : DI (upd H1 T1 (.tup [.ref qa, .int (sf (sta sts i) lim n : Nat)])) d4 (below lim) (gT lim (sts.eraseIdx i)) := s8 _ _ n45 (by rw [upd_ne n4r]; exact hd46)
    refine ⟨T1, _, rfl, SqT.of upd_same, rfl, _, _, rfl, _, _, rfl, rfl, ?_⟩
    refine ⟨_, rfl, _, rfl, _, rfl, _, rfl, p, qa, lim, n, rfl, hp2, hq2, ln, Nat.le_trans hf.fl.len (by decide), fun r9 H9 s9 hr9 => ?_⟩
    refine ⟨d4, _, rfl, DI.get (s9 _ _ hd42) (CQ.mem_below.mpr (CQ.leL_minus ln)) hr9, _, _, rfl, rfl, wide_mul (a := 215) (b := 1106) (natAbs_lt (CQ.sf_lt hSt hf.fl ln)) (natAbs_lt (CQ.gT_lt (hf.erase i) (CQ.leL_minus ln))) (by decide) (by decide) (by decide), ?_⟩
    have e : ((sf (sta sts i) lim n : Nat) : Int) * ((gT lim (sts.eraseIdx i) (minus lim n) : Nat) : Int) = ((wt sts i lim n : Nat) : Int) := by
      rw [← Int.natCast_mul]
      rfl
    refine ⟨_, rfl, _, rfl, d5, _, rfl, DI.put (f := wt sts i lim) (s9 _ _ (s12 _ _ hd)) (CQ.below_nodup lim) hn (TN.mono s9 hq2) (Nat.le_trans (below_len hf.fl) (by decide)), (s8.trans s9).put, upd_same, some (.ref qa), some (.int (sf (sta sts i) lim n : Nat)), rfl⟩
  · rintro σ H1 ⟨s7, hd, v6, v7, rfl⟩
    have e : (dI (below lim) (sf (sta sts i) lim)).length = (below lim).length := tabV_full _ (by rw [List.length_map])
    rw [e, List.take_length] at hd
    refine ⟨_, rfl, q d5 _ (fun b u z => s7 _ _ (ne_of_none z f5) (by rw [upd_ne (ne_of_none z fr0)]; exact s6 _ _ (s5 _ _ z))) f5 hd⟩
end
end Cq
end
section
set_option Elab.async false
set_option linter.all false
set_option maxRecDepth 100000
set_option maxHeartbeats 4000000
set_option exponentiation.threshold 100000
namespace Cq
open PySem PySem.Spec PyProof.Rows L2 CqR
open Lrx5 (Station below minus factorial count without)
open CQ (FitL FitS Fit tot fprod dprod speeds scl sfS sf leL gT convN delN vec ns scls thr nrm Sm wt W sta sN mean pr)
theorem dI_full (ks : List (List Nat)) (f : List Nat → Nat) : (dI ks f).length = ks.length := tabV_full _ (by rw [List.length_map])
theorem dI_at {ks : List (List Nat)} {f : List Nat → Nat} {i : Nat} {k : List L2.Key} {v : V} (h : (dI ks f)[i]? = some (k, v)) : ∃ n, ks[i]? = some n ∧ k = kk n ∧ v = .int (f n) := by
  obtain ⟨n, l, h1, h2, h3, h4⟩ := tabV_get h
  rw [List.getElem?_map, h1] at h2
  refine ⟨n, h1, h3, ?_⟩
  rw [h4, ← Option.some.inj h2]
theorem dI_vals : ∀ (ks : List (List Nat)) (f : List Nat → Nat), (dI ks f).map (·.2) = ((ks.map f).map fun (n : Nat) => (n : Int)).map V.int
  | [], _ => rfl
  | k :: ks, f => by
    show V.int (f k : Nat) :: (dI ks f).map (·.2) = _
    rw [dI_vals ks f]
    rfl
theorem sN_int (n : List Nat) (f : List Nat → Nat) : (((below n).map f).map fun (k : Nat) => (k : Int)).sum = ((sN n f : Nat) : Int) := ns_int _
theorem count_lt {lim m : List Nat} (h : FitL lim) (r : Nat) (l : leL m lim) : count m r < 2 ^ 10 := by
  have h1 := h.tot
  have h2 : count m r ≤ tot m := by
    unfold count
    rw [List.getD_eq_getElem?_getD]
    cases e : m[r]? with
    | none => exact Nat.zero_le _
    | some k => exact mem_tot (List.mem_of_getElem? e)
  have h3 := CQ.tot_le l
  omega
theorem tot_lt {lim m : List Nat} (h : FitL lim) (l : leL m lim) : tot m < 2 ^ 10 := by
  have h1 := h.tot
  have h3 := CQ.tot_le l
  omega
section
variable {P : Program} {w : World} {K : Kf} {mg : Str → Option Value} {base : Heap}
/-- what an items comprehension over the weights keeps -/
def Wl (d D : Addr) (H0 H1 : Hp) (l : List Nat) : Prop := Sb D H0 H1 ∧ H1 D = some (.lst (nv l))
def sp_class_mean (K : Kf) : Sp := fun vs H Q _ => ∃ (l p : Addr) (i r : Nat) (sts : List Station) (lim : List Nat), vs = [.ref l, .ref p, .int i, .int r] ∧ LS K H l sts ∧ i < sts.length ∧ r < lim.length ∧ TN H p lim ∧ Fit sts lim ∧ 0 < nrm sts lim ∧
  ∀ t H', Same H H' → TR H' t (mean sts i lim fun m => count m r) → Q (.ref t) H'
theorem sc_class_mean : FnScope ["stations", "populations", "station", "customer_class", "weights", "weighted", "numbers", "weight"] ["stations", "populations", "station", "customer_class"] (defScope (top 69)) := ⟨rfl, rfl, rfl, by decide +kernel, rfl, by decide +kernel, by decide +kernel⟩
theorem d_class_mean (T : Facts K mg) : Dfn P w K mg base CX0 7 "class_mean" ["stations", "populations", "station", "customer_class"] (sp_class_mean K) := by
  refine dfn0 (T.d 46 rfl) sc_class_mean (fun _ _ _ _ _ _ us hl => match us, hl with | [_, _, _, _], _ => rfl) (fun vs H Q E h => by obtain ⟨l, p, i, r, sts, lim, rfl, _⟩ := h; rfl) fun cdv A outer s H vs Q E hr h => ⟨_,
    (pss_cons (ps_set (i := 4) sc_class_mean.nd rfl (Or.inl rfl) (pe_dfn (d_marginal_weights T) hr pass0 (pa_cons (pv 0) (pa_cons (pv 2) (pa_cons (pv 1) pa_nil)))))
    (pss_cons (ps_set (i := 5) sc_class_mean.nd rfl (Or.inl rfl) (pe_callB (cr_sum rfl) (by rfl) T.f_sum boot_sum (pa_cons (by exact (pe_lock (pe_lc rfl sc_class_mean.nd (pi_itemsT (pv 4)) (blkOk_by (own := [("numbers", 6), ("weight", 7)]) (N := ["stations", "populations", "station", "customer_class", "weights", "weighted", "numbers", "weight"]) (sc := defScope (top 69)) (by decide +kernel)) (fun _ _ _ _ _ => by exact (pg_tupB (n := 2) rfl (pgs_cons (pg_name (i := 6) sc_class_mean.nd rfl (Or.inl rfl) (Or.inr rfl)) (pgs_cons (pg_name (i := 7) sc_class_mean.nd rfl (Or.inl rfl) (Or.inr rfl)) pgs_nil)) rfl rfl)) (fun _ _ _ _ _ => by exact pts_nil) (fun _ _ _ _ _ => by exact (pe_op op_mulW (pe_ix ix_tupB (pv 6) (pv 3) (fun _ _ => rfl)) (pv 7)))))) pa_nil)))
    (pss_one (ps_ret (pe_dfn (d_lowest_terms T) (hr.mono (by decide)) pass0 (pa_cons (pv 5) (pa_cons (pe_callB (cr_sumV rfl) (by rfl) T.f_sum boot_sum (pa_cons (pe_bm0 PySem.F.plainAttrs_dict PySem.F.slot_dict_values PySem.F.type_dict_values mt_valsT (pv 4)) pa_nil)) pa_nil))))))), ?_⟩
  obtain ⟨l, p, i, r, sts, lim, rfl, hl, hi, hr2, hp, hf, hpos, q⟩ := h
  refine ⟨_, rfl, _, rfl, _, rfl, l, p, i, sts, lim, rfl, hl, hi, hp, hf, fun d H1 s1 fd hd => ?_⟩
  refine ⟨d, _, hd, True.intro, fun od => ?_⟩
  refine ⟨_, rfl, d, _, rfl, .inl ⟨od, upd_same, fun D hD => ?_⟩⟩
  have nD : d ≠ D := ne_of_none upd_same hD
  refine lc_it walk_itemsT (fun j H2 => Sb D (upd H1 d (.frz od (.dT (dI (below lim) (wt sts i lim))))) H2 ∧ H2 D = some (.lst (nv (((below lim).map fun m => count m r * wt sts i lim m).take j)))) ⟨(Sb.refl D _).put, upd_same⟩ (fun j H2 _ h => h.1 _ _ nD upd_same) ?_ ?_
  · rintro j x1 H2 H3 hj ⟨s2, hD2⟩ ⟨T1, k, v, qa, hk, rfl, hT, hq, rfl⟩
    obtain ⟨n, hn, rfl, rfl⟩ := dI_at hk
    have ln := CQ.mem_below.mp (List.mem_of_getElem? hn)
    have nT : D ≠ T1 := ne_of_none hD2 hT
    have s12 : Same H2 (upd H2 T1 (.tup [.ref qa, .int (wt sts i lim n : Nat)])) := same_new hT
    have hq2 : TN (upd H2 T1 (.tup [.ref qa, .int (wt sts i lim n : Nat)])) qa n := by
      show _ = some (HO.tup (nv n))
      rw [← kk_kV]
      exact s12 _ _ hq
    refine ⟨T1, _, rfl, SqT.of upd_same, rfl, _, _, rfl, _, _, rfl, rfl, rfl, ?_⟩
    refine yes ?_
    refine ⟨_, rfl, _, rfl, qa, _, _, _, rfl, rfl, hq2.sq, nv_at (by rw [CQ.leL_len ln]; exact hr2), _, rfl, _, _, rfl, rfl, wide_mul (a := 10) (b := 1321) (natAbs_lt (count_lt hf.fl r ln)) (natAbs_lt (CQ.wt_lt hf hi ln)) (by decide) (by decide) (by decide), ?_⟩
    refine ⟨_, s12 _ _ hD2, by rw [nv_len]; exact sizeK (by have z1 := List.length_take_le' j ((below lim).map fun m => count m r * wt sts i lim m); rw [List.length_map] at z1; have := below_len hf.fl; omega), (s2.trans s12).put, ?_⟩
    rw [upd_same, map_get hn, nv_append]
    show some (HO.lst (_ ++ [V.int ((count n r : Int) * (wt sts i lim n : Int))])) = _
    rw [← Int.natCast_mul]
    rfl
  · rintro H2 ⟨s2, hD2⟩
    rw [dI_full, ← List.length_map (as := below lim) (f := fun m => count m r * wt sts i lim m), List.take_length] at hD2
    refine ⟨s2 _ _ nD upd_same, ?_⟩
    have s3 : Same H (upd H2 d (.dT (dI (below lim) (wt sts i lim)))) := fun b u e => by
      have nb := ne_of_none e fd
      have nbD : b ≠ D := fun z => by
        rw [z] at e nb
        rw [upd_ne nb] at hD
        rw [s1 _ _ e] at hD
        cases hD
      rw [upd_ne nb]
      exact s2 _ _ nbD (by rw [upd_ne nb]; exact s1 _ _ e)
    have hD3 : upd H2 d (.dT (dI (below lim) (wt sts i lim))) D = some (.lst (nv ((below lim).map fun m => count m r * wt sts i lim m))) := by rw [upd_ne nD.symm]; exact hD2
    refine ⟨D, _, rfl, by rw [← nv_int]; exact SqL.of hD3, ?_⟩
    rw [sN_int]
    refine ⟨_, rfl, _, rfl, .inr (.inr (.inl ⟨rfl, .inr ⟨_, upd_same⟩⟩)), d, _, rfl, rfl, .inl upd_same, fun p9 h9 => ?_⟩
    have n9 : d ≠ p9 := ne_of_none upd_same h9
    refine ⟨p9, d, _, _, rfl, upd_same, .inl (by rw [upd_ne n9]; exact upd_same), dI_vals _ _, ?_⟩
    rw [sN_int]
    refine ⟨_, _, rfl, CQ.W_pos hf hi hpos, Nat.lt_of_lt_of_le (CQ.W_lt hf hi) (Nat.pow_le_pow_right (by decide) (by decide)), fun t H5 s5 ht => q t _ ((sNew s3 h9).trans s5) ?_⟩
    rw [← CQ.mean_mk hf hi]
    exact ht
end
end Cq
end
section
set_option Elab.async false
set_option linter.all false
set_option maxRecDepth 100000
set_option maxHeartbeats 4000000
set_option exponentiation.threshold 100000
namespace Cq
open PySem PySem.Spec PyProof.Rows L2 CqR
open Lrx5 (Station below minus factorial count without)
open CQ (FitL FitS Fit tot fprod dprod speeds scl sfS sf leL gT convN delN vec ns scls thr nrm Sm wt W sta sN mean pr rowsN rowsR)
section
variable {P : Program} {w : World} {K : Kf} {mg : Str → Option Value} {base : Heap}
def sp_station_mean (K : Kf) : Sp := fun vs H Q _ => ∃ (l p : Addr) (i : Nat) (sts : List Station) (lim : List Nat), vs = [.ref l, .ref p, .int i] ∧ LS K H l sts ∧ i < sts.length ∧ TN H p lim ∧ Fit sts lim ∧ 0 < nrm sts lim ∧
  ∀ t H', Same H H' → TR H' t (mean sts i lim tot) → Q (.ref t) H'
theorem sc_station_mean : FnScope ["stations", "populations", "station", "weights", "weighted", "numbers", "weight"] ["stations", "populations", "station"] (defScope (top 70)) := ⟨rfl, rfl, rfl, by decide +kernel, rfl, by decide +kernel, by decide +kernel⟩
theorem d_station_mean (T : Facts K mg) : Dfn P w K mg base CX0 7 "station_mean" ["stations", "populations", "station"] (sp_station_mean K) := by
  refine dfn0 (T.d 47 rfl) sc_station_mean (fun _ _ _ _ _ _ us hl => match us, hl with | [_, _, _], _ => rfl) (fun vs H Q E h => by obtain ⟨l, p, i, sts, lim, rfl, _⟩ := h; rfl) fun cdv A outer s H vs Q E hr h => ⟨_,
    (pss_cons (ps_set (i := 3) sc_station_mean.nd rfl (Or.inl rfl) (pe_dfn (d_marginal_weights T) hr pass0 (pa_cons (pv 0) (pa_cons (pv 2) (pa_cons (pv 1) pa_nil)))))
    (pss_cons (ps_set (i := 4) sc_station_mean.nd rfl (Or.inl rfl) (pe_callB (cr_sum rfl) (by rfl) T.f_sum boot_sum (pa_cons (by exact (pe_lock (pe_lc rfl sc_station_mean.nd (pi_itemsT (pv 3)) (blkOk_by (own := [("numbers", 5), ("weight", 6)]) (N := ["stations", "populations", "station", "weights", "weighted", "numbers", "weight"]) (sc := defScope (top 70)) (by decide +kernel)) (fun _ _ _ _ _ => by exact (pg_tupB (n := 2) rfl (pgs_cons (pg_name (i := 5) sc_station_mean.nd rfl (Or.inl rfl) (Or.inr rfl)) (pgs_cons (pg_name (i := 6) sc_station_mean.nd rfl (Or.inl rfl) (Or.inr rfl)) pgs_nil)) rfl rfl)) (fun _ _ _ _ _ => by exact pts_nil) (fun _ _ _ _ _ => by exact (pe_op op_mulW (pe_callB (cr_sumTB rfl) (by rfl) T.f_sum boot_sum (pa_cons (pv 5) pa_nil)) (pv 6)))))) pa_nil)))
    (pss_one (ps_ret (pe_dfn (d_lowest_terms T) (hr.mono (by decide)) pass0 (pa_cons (pv 4) (pa_cons (pe_callB (cr_sumV rfl) (by rfl) T.f_sum boot_sum (pa_cons (pe_bm0 PySem.F.plainAttrs_dict PySem.F.slot_dict_values PySem.F.type_dict_values mt_valsT (pv 3)) pa_nil)) pa_nil))))))), ?_⟩
  obtain ⟨l, p, i, sts, lim, rfl, hl, hi, hp, hf, hpos, q⟩ := h
  refine ⟨_, rfl, _, rfl, _, rfl, l, p, i, sts, lim, rfl, hl, hi, hp, hf, fun d H1 s1 fd hd => ?_⟩
  refine ⟨d, _, hd, True.intro, fun od => ?_⟩
  refine ⟨_, rfl, d, _, rfl, .inl ⟨od, upd_same, fun D hD => ?_⟩⟩
  have nD : d ≠ D := ne_of_none upd_same hD
  refine lc_it walk_itemsT (fun j H2 => Sb D (upd H1 d (.frz od (.dT (dI (below lim) (wt sts i lim))))) H2 ∧ H2 D = some (.lst (nv (((below lim).map fun m => tot m * wt sts i lim m).take j)))) ⟨(Sb.refl D _).put, upd_same⟩ (fun j H2 _ h => h.1 _ _ nD upd_same) ?_ ?_
  · rintro j x1 H2 H3 hj ⟨s2, hD2⟩ ⟨T1, k, v, qa, hk, rfl, hT, hq, rfl⟩
    obtain ⟨n, hn, rfl, rfl⟩ := dI_at hk
    have ln := CQ.mem_below.mp (List.mem_of_getElem? hn)
    have nT : D ≠ T1 := ne_of_none hD2 hT
    have s12 : Same H2 (upd H2 T1 (.tup [.ref qa, .int (wt sts i lim n : Nat)])) := same_new hT
    have hq2 : TN (upd H2 T1 (.tup [.ref qa, .int (wt sts i lim n : Nat)])) qa n := by
      show _ = some (HO.tup (nv n))
      rw [← kk_kV]
      exact s12 _ _ hq
    refine ⟨T1, _, rfl, SqT.of upd_same, rfl, _, _, rfl, _, _, rfl, rfl, rfl, ?_⟩
    refine yes ?_
    refine ⟨_, rfl, qa, _, rfl, by rw [← nv_int]; exact hq2.sq, ?_⟩
    rw [sum_nv]
    refine ⟨_, rfl, _, _, rfl, rfl, wide_mul (a := 10) (b := 1321) (natAbs_lt (tot_lt hf.fl ln)) (natAbs_lt (CQ.wt_lt hf hi ln)) (by decide) (by decide) (by decide), ?_⟩
    refine ⟨_, s12 _ _ hD2, by rw [nv_len]; exact sizeK (by have z1 := List.length_take_le' j ((below lim).map fun m => tot m * wt sts i lim m); rw [List.length_map] at z1; have := below_len hf.fl; omega), (s2.trans s12).put, ?_⟩
    rw [upd_same, map_get hn, nv_append]
    show some (HO.lst (_ ++ [V.int ((tot n : Int) * (wt sts i lim n : Int))])) = _
    rw [← Int.natCast_mul]
    rfl
  · rintro H2 ⟨s2, hD2⟩
    rw [dI_full, ← List.length_map (as := below lim) (f := fun m => tot m * wt sts i lim m), List.take_length] at hD2
    refine ⟨s2 _ _ nD upd_same, ?_⟩
    have s3 : Same H (upd H2 d (.dT (dI (below lim) (wt sts i lim)))) := fun b u e => by
      have nb := ne_of_none e fd
      have nbD : b ≠ D := fun z => by
        rw [z] at e nb
        rw [upd_ne nb] at hD
        rw [s1 _ _ e] at hD
        cases hD
      rw [upd_ne nb]
      exact s2 _ _ nbD (by rw [upd_ne nb]; exact s1 _ _ e)
    have hD3 : upd H2 d (.dT (dI (below lim) (wt sts i lim))) D = some (.lst (nv ((below lim).map fun m => tot m * wt sts i lim m))) := by rw [upd_ne nD.symm]; exact hD2
    refine ⟨D, _, rfl, by rw [← nv_int]; exact SqL.of hD3, ?_⟩
    rw [sN_int]
    refine ⟨_, rfl, _, rfl, .inr (.inr (.inl ⟨rfl, .inr ⟨_, upd_same⟩⟩)), d, _, rfl, rfl, .inl upd_same, fun p9 h9 => ?_⟩
    have n9 : d ≠ p9 := ne_of_none upd_same h9
    refine ⟨p9, d, _, _, rfl, upd_same, .inl (by rw [upd_ne n9]; exact upd_same), dI_vals _ _, ?_⟩
    rw [sN_int]
    refine ⟨_, _, rfl, CQ.W_pos hf hi hpos, Nat.lt_of_lt_of_le (CQ.W_lt hf hi) (Nat.pow_le_pow_right (by decide) (by decide)), fun t H5 s5 ht => q t _ ((sNew s3 h9).trans s5) ?_⟩
    rw [← CQ.mean_mk hf hi]
    exact ht
def sp_marginal_probability (K : Kf) : Sp := fun vs H Q _ => ∃ (l p a : Addr) (i : Nat) (sts : List Station) (lim n : List Nat), vs = [.ref l, .ref p, .int i, .ref a] ∧ LS K H l sts ∧ i < sts.length ∧ TN H p lim ∧ H a = some (.lst (nv n)) ∧ Fit sts lim ∧ 0 < nrm sts lim ∧
  ∀ t H', Same H H' → TR H' t (pr sts i lim n) → Q (.ref t) H'
theorem sc_marginal_probability : FnScope ["stations", "populations", "station", "numbers", "weights"] ["stations", "populations", "station", "numbers"] (defScope (top 71)) := ⟨rfl, rfl, rfl, by decide +kernel, rfl, by decide +kernel, by decide +kernel⟩
theorem d_marginal_probability (T : Facts K mg) : Dfn P w K mg base CX0 7 "marginal_probability" ["stations", "populations", "station", "numbers"] (sp_marginal_probability K) := by
  refine dfn0 (T.d 48 rfl) sc_marginal_probability (fun _ _ _ _ _ _ us hl => match us, hl with | [_, _, _, _], _ => rfl) (fun vs H Q E h => by obtain ⟨l, p, a, i, sts, lim, n, rfl, _⟩ := h; rfl) fun cdv A outer s H vs Q E hr h => ⟨_,
    (pss_cons (ps_set (i := 4) sc_marginal_probability.nd rfl (Or.inl rfl) (pe_dfn (d_marginal_weights T) hr pass0 (pa_cons (pv 0) (pa_cons (pv 2) (pa_cons (pv 1) pa_nil)))))
    (pss_one (ps_ret (pe_dfn (d_lowest_terms T) (hr.mono (by decide)) pass0 (pa_cons (pe_dget2 (hu_of hr) (pv 4) (pe_callTy call_tuple_of (by rfl) T.f_tuple boot_tuple (pa_cons (pv 3) pa_nil)) pe_int (by exact ⟨rfl, rfl, rfl, rfl⟩)) (pa_cons (pe_callB (cr_sumV rfl) (by rfl) T.f_sum boot_sum (pa_cons (pe_bm0 PySem.F.plainAttrs_dict PySem.F.slot_dict_values PySem.F.type_dict_values mt_valsT (pv 4)) pa_nil)) pa_nil)))))), ?_⟩
  obtain ⟨l, p, a, i, sts, lim, n, rfl, hl, hi, hp, ha, hf, hpos, q⟩ := h
  refine ⟨_, rfl, _, rfl, _, rfl, l, p, i, sts, lim, rfl, hl, hi, hp, hf, fun d H1 s1 fd hd => ?_⟩
  refine ⟨_, rfl, d, rfl, .inr ⟨_, .inl hd⟩, _, rfl, a, _, rfl, .inl ⟨SqL.of (s1 _ _ ha), fun t ht => ?_⟩⟩
  have s2 : Same H1 (upd H1 t (.tup (nv n))) := same_new ht
  have ht2 : TN (upd H1 t (.tup (nv n))) t n := upd_same
  obtain ⟨o, ho, hv⟩ : ∃ o, DGet (upd H1 t (.tup (nv n))) d (.ref t) o ∧ o.getD (V.int 0) = V.int ((if n ∈ below lim then wt sts i lim n else 0 : Nat) : Int) := by
    by_cases hn : n ∈ below lim
    · exact ⟨_, DI.get (s2 _ _ hd) hn ht2, by rw [if_pos hn]; rfl⟩
    · exact ⟨none, by rw [← dI_none (f := wt sts i lim) hn]; exact .t (s2 _ _ hd) ht2.key, by rw [if_neg hn]; rfl⟩
  refine ⟨o, ho, ?_⟩
  rw [hv]
  have hd2 := s2 _ _ hd
  refine ⟨_, rfl, .inr (.inr (.inl ⟨rfl, .inr ⟨_, hd2⟩⟩)), d, _, rfl, rfl, .inl hd2, fun p9 h9 => ?_⟩
  have n9 : d ≠ p9 := ne_of_none hd2 h9
  refine ⟨p9, d, _, _, rfl, upd_same, .inl (by rw [upd_ne n9]; exact hd2), dI_vals _ _, ?_⟩
  rw [sN_int]
  refine ⟨_, _, rfl, CQ.W_pos hf hi hpos, Nat.lt_of_lt_of_le (CQ.W_lt hf hi) (Nat.pow_le_pow_right (by decide) (by decide)), fun t H5 s5 ht => q t _ ((sNew (s1.trans s2) h9).trans s5) ?_⟩
  rw [← CQ.pr_mk hf hi]
  exact ht
theorem take_filter {ks : List (List Nat)} {p : List Nat → Bool} {f : List Nat → Nat} {j : Nat} {n : List Nat} (h : ks[j]? = some n) :
    ((ks.take (j + 1)).filter p).map f = ((ks.take j).filter p).map f ++ if p n = true then [f n] else [] := by
  rw [take_one h, List.filter_append, List.map_append]
  congr 1
  cases e : p n with
  | true => rw [if_pos rfl, List.filter_cons_of_pos e]; rfl
  | false => rw [if_neg Bool.false_ne_true, List.filter_cons_of_neg (by simp [e])]; rfl
theorem filter_le (ks : List (List Nat)) (p : List Nat → Bool) (f : List Nat → Nat) (j : Nat) : (((ks.take j).filter p).map f).length ≤ ks.length := by
  rw [List.length_map]
  exact Nat.le_trans (List.length_filter_le ..) (List.length_take_le' ..)
def sp_sum_probability (K : Kf) : Sp := fun vs H Q _ => ∃ (l p : Addr) (i k : Nat) (sts : List Station) (lim : List Nat), vs = [.ref l, .ref p, .int i, .int k] ∧ LS K H l sts ∧ i < sts.length ∧ TN H p lim ∧ Fit sts lim ∧ 0 < nrm sts lim ∧
  ∀ t H', Same H H' → TR H' t (mean sts i lim fun m => if tot m = k then 1 else 0) → Q (.ref t) H'
theorem sc_sum_probability : FnScope ["stations", "populations", "station", "customers", "weights", "found", "numbers", "weight"] ["stations", "populations", "station", "customers"] (defScope (top 72)) := ⟨rfl, rfl, rfl, by decide +kernel, rfl, by decide +kernel, by decide +kernel⟩
theorem d_sum_probability (T : Facts K mg) : Dfn P w K mg base CX0 7 "sum_probability" ["stations", "populations", "station", "customers"] (sp_sum_probability K) := by
  refine dfn0 (T.d 49 rfl) sc_sum_probability (fun _ _ _ _ _ _ us hl => match us, hl with | [_, _, _, _], _ => rfl) (fun vs H Q E h => by obtain ⟨l, p, i, k, sts, lim, rfl, _⟩ := h; rfl) fun cdv A outer s H vs Q E hr h => ⟨_,
    (pss_cons (ps_set (i := 4) sc_sum_probability.nd rfl (Or.inl rfl) (pe_dfn (d_marginal_weights T) hr pass0 (pa_cons (pv 0) (pa_cons (pv 2) (pa_cons (pv 1) pa_nil)))))
    (pss_cons (ps_set (i := 5) sc_sum_probability.nd rfl (Or.inl rfl) (pe_callB (cr_sum rfl) (by rfl) T.f_sum boot_sum (pa_cons (by exact (pe_lock (pe_lc rfl sc_sum_probability.nd (pi_itemsT (pv 4)) (blkOk_by (own := [("numbers", 6), ("weight", 7)]) (N := ["stations", "populations", "station", "customers", "weights", "found", "numbers", "weight"]) (sc := defScope (top 72)) (by decide +kernel)) (fun _ _ _ _ _ => by exact (pg_tupB (n := 2) rfl (pgs_cons (pg_name (i := 6) sc_sum_probability.nd rfl (Or.inl rfl) (Or.inr rfl)) (pgs_cons (pg_name (i := 7) sc_sum_probability.nd rfl (Or.inl rfl) (Or.inr rfl)) pgs_nil)) rfl rfl)) (fun _ _ _ _ _ => by exact (pts_one (pt_cmpR op_eq (pe_callB (cr_sumTB rfl) (by rfl) T.f_sum boot_sum (pa_cons (pv 6) pa_nil)) (pv 3) (nomark _)))) (fun _ _ _ _ _ => by exact (pv 7))))) pa_nil)))
    (pss_one (ps_ret (pe_dfn (d_lowest_terms T) (hr.mono (by decide)) pass0 (pa_cons (pv 5) (pa_cons (pe_callB (cr_sumV rfl) (by rfl) T.f_sum boot_sum (pa_cons (pe_bm0 PySem.F.plainAttrs_dict PySem.F.slot_dict_values PySem.F.type_dict_values mt_valsT (pv 4)) pa_nil)) pa_nil))))))), ?_⟩
  obtain ⟨l, p, i, k, sts, lim, rfl, hl, hi, hp, hf, hpos, q⟩ := h
  refine ⟨_, rfl, _, rfl, _, rfl, l, p, i, sts, lim, rfl, hl, hi, hp, hf, fun d H1 s1 fd hd => ?_⟩
  refine ⟨d, _, hd, True.intro, fun od => ?_⟩
  refine ⟨_, rfl, d, _, rfl, .inl ⟨od, upd_same, fun D hD => ?_⟩⟩
  have nD : d ≠ D := ne_of_none upd_same hD
  refine lc_it walk_itemsT (fun j H2 => Sb D (upd H1 d (.frz od (.dT (dI (below lim) (wt sts i lim))))) H2 ∧ H2 D = some (.lst (nv ((((below lim).take j).filter fun m => decide (tot m = k)).map fun m => wt sts i lim m)))) ⟨(Sb.refl D _).put, upd_same⟩ (fun j H2 _ h => h.1 _ _ nD upd_same) ?_ ?_
  · rintro j x1 H2 H3 hj ⟨s2, hD2⟩ ⟨T1, k2, v, qa, hk, rfl, hT, hq, rfl⟩
    obtain ⟨n, hn, rfl, rfl⟩ := dI_at hk
    have ln := CQ.mem_below.mp (List.mem_of_getElem? hn)
    have nT : D ≠ T1 := ne_of_none hD2 hT
    have s12 : Same H2 (upd H2 T1 (.tup [.ref qa, .int (wt sts i lim n : Nat)])) := same_new hT
    have hq2 : TN (upd H2 T1 (.tup [.ref qa, .int (wt sts i lim n : Nat)])) qa n := by
      show _ = some (HO.tup (nv n))
      rw [← kk_kV]
      exact s12 _ _ hq
    refine ⟨T1, _, rfl, SqT.of upd_same, rfl, _, _, rfl, _, _, rfl, rfl, rfl, ?_⟩
    refine ⟨_, rfl, qa, _, rfl, by rw [← nv_int]; exact hq2.sq, ?_⟩
    rw [sum_nv]
    refine ⟨_, rfl, rfl, ?_⟩
    have tk := take_filter (p := fun m => decide (tot m = k)) (f := fun m => wt sts i lim m) hn
    by_cases h0 : tot n = k
    · refine ⟨true, eqT (by omega), iteT ?_⟩
      rw [if_pos (by simpa using h0)] at tk
      refine ⟨_, rfl, _, s12 _ _ hD2, by rw [nv_len]; exact sizeK (by have z1 := filter_le (below lim) (fun m => decide (tot m = k)) (fun m => wt sts i lim m) j; have := below_len hf.fl; omega), (s2.trans s12).put, ?_⟩
      rw [upd_same, tk, nv_append]
      rfl
    · refine ⟨false, eqF (by omega), iteF ?_⟩
      rw [if_neg (by simpa using h0), List.append_nil] at tk
      refine ⟨s2.trans s12, ?_⟩
      rw [tk]
      exact s12 _ _ hD2
  · rintro H2 ⟨s2, hD2⟩
    rw [dI_full, List.take_length] at hD2
    refine ⟨s2 _ _ nD upd_same, ?_⟩
    have s3 : Same H (upd H2 d (.dT (dI (below lim) (wt sts i lim)))) := fun b u e => by
      have nb := ne_of_none e fd
      have nbD : b ≠ D := fun z => by
        rw [z] at e nb
        rw [upd_ne nb] at hD
        rw [s1 _ _ e] at hD
        cases hD
      rw [upd_ne nb]
      exact s2 _ _ nbD (by rw [upd_ne nb]; exact s1 _ _ e)
    have hD3 : upd H2 d (.dT (dI (below lim) (wt sts i lim))) D = some (.lst (nv (((below lim).filter fun m => decide (tot m = k)).map fun m => wt sts i lim m))) := by rw [upd_ne nD.symm]; exact hD2
    refine ⟨D, _, rfl, by rw [← nv_int]; exact SqL.of hD3, ?_⟩
    rw [ns_int, CQ.ns_filter]
    have ef : (fun m : List Nat => (if decide (tot m = k) = true then 1 else 0) * wt sts i lim m) = fun m => (if tot m = k then 1 else 0) * wt sts i lim m := by
      funext m
      by_cases h0 : tot m = k
      · rw [if_pos h0, if_pos (by simpa using h0)]
      · rw [if_neg h0, if_neg (by simpa using h0)]
    rw [ef]
    refine ⟨_, rfl, _, rfl, .inr (.inr (.inl ⟨rfl, .inr ⟨_, upd_same⟩⟩)), d, _, rfl, rfl, .inl upd_same, fun p9 h9 => ?_⟩
    have n9 : d ≠ p9 := ne_of_none upd_same h9
    refine ⟨p9, d, _, _, rfl, upd_same, .inl (by rw [upd_ne n9]; exact upd_same), dI_vals _ _, ?_⟩
    rw [sN_int]
    refine ⟨_, _, rfl, CQ.W_pos hf hi hpos, Nat.lt_of_lt_of_le (CQ.W_lt hf hi) (Nat.pow_le_pow_right (by decide) (by decide)), fun t H5 s5 ht => q t _ ((sNew s3 h9).trans s5) ?_⟩
    rw [← CQ.mean_mk hf hi]
    exact ht
theorem rowsN_take {sts : List Station} {rows : List (List Nat)} {lim : List Nat} {i : Nat} {s : Station} {m : List Nat} (h : sts[i]? = some s) (k : rows[i]? = some m) : rowsN lim ((sts.take (i + 1)).zip (rows.take (i + 1))) = rowsN lim ((sts.take i).zip (rows.take i)) * sf s lim m := by
  rw [take_one h, take_one k, List.zip_append (by rw [List.length_take, List.length_take]; have := ltE h; have := ltE k; omega)]
  unfold rowsN
  rw [List.foldl_append]
  rfl
def sp_rows_probability (K : Kf) : Sp := fun vs H Q _ => ∃ (l p b : Addr) (sts : List Station) (lim : List Nat) (rows : List (List Nat)), vs = [.ref l, .ref p, .ref b] ∧ LS K H l sts ∧ TN H p lim ∧ LT H b rows ∧ rows.length = sts.length ∧ (∀ m ∈ rows, leL m lim) ∧ Fit sts lim ∧ 0 < nrm sts lim ∧
  ∀ t H', Same H H' → TR H' t (rowsR (sts.zip rows) / nrm sts lim) → Q (.ref t) H'
theorem sc_rows_probability : FnScope ["stations", "populations", "rows", "weight", "station", "numbers"] ["stations", "populations", "rows"] (defScope (top 73)) := ⟨rfl, rfl, rfl, by decide +kernel, rfl, by decide +kernel, by decide +kernel⟩
theorem d_rows_probability (T : Facts K mg) : Dfn P w K mg base CX0 6 "rows_probability" ["stations", "populations", "rows"] (sp_rows_probability K) := by
  refine dfn0 (T.d 50 rfl) sc_rows_probability (fun _ _ _ _ _ _ us hl => match us, hl with | [_, _, _], _ => rfl) (fun vs H Q E h => by obtain ⟨l, p, b, sts, lim, rows, rfl, _⟩ := h; rfl) fun cdv A outer s H vs Q E hr h => ⟨_,
    (pss_cons (ps_set (i := 3) sc_rows_probability.nd rfl (Or.inl rfl) pe_int)
    (pss_cons (ps_for PassesOwn.never rfl (pi_zip (by rfl) T.f_zip (pa_cons (pv 0) (pa_cons (pv 2) pa_nil))) (pg_tup rfl (pgs_cons (pg_name (i := 4) sc_rows_probability.nd rfl (Or.inl rfl)) (pgs_cons (pg_name (i := 5) sc_rows_probability.nd rfl (Or.inl rfl)) pgs_nil)))
        (pss_one (ps_set (i := 3) sc_rows_probability.nd rfl (Or.inl rfl) (pe_op op_mulW (pv 3) (pe_dfn (d_scaled_factor T) (hr.mono (by decide)) pass0 (pa_cons (pv 4) (pa_cons (pv 5) (pa_cons (pe_dfn (d_factor_scale T) (hr.mono (by decide)) pass0 (pa_cons (pv 4) (pa_cons (pv 1) pa_nil))) pa_nil))))))))
    (pss_one (ps_ret (pe_dfn (d_lowest_terms T) (hr.mono (by decide)) pass0 (pa_cons (pv 3) (pa_cons (pe_dget (hu_of hr) (pe_dfn (d_norm_table T) hr pass0 (pa_cons (pv 0) (pa_cons (pv 1) pa_nil))) (pv 1) (fun _ _ => rfl)) pa_nil))))))), ?_⟩
  obtain ⟨l, p, b, sts, lim, rows, rfl, ⟨as, hl, hA⟩, hp, ⟨bs, hb, hB⟩, hn, hr2, hf, hpos, q⟩ := h
  have ea : (rv as).length = sts.length := rv_len hA
  have eb : (rv bs).length = rows.length := by rw [rv, List.length_map]; exact hB.len
  refine ⟨_, rfl, _, rfl, l, b, rv as, rv bs, rfl, SqL.of hl, SqL.of hb, for_it (walk_zip (n := sts.length) (by rw [ea, eb, hn, Nat.min_self])) (fun i σ H1 => Same H H1 ∧ ∃ v4 v5, σ = [some (.ref l), some (.ref p), some (.ref b), some (.int (rowsN lim ((sts.take i).zip (rows.take i)) : Nat)), v4, v5])
    ⟨Same.refl H, none, none, rfl⟩ (fun i σ H1 _ h => ⟨SqL.of (h.1 _ _ hl), SqL.of (h.1 _ _ hb)⟩) ?_ ?_⟩
  · rintro i x σ H1 H2 hi ⟨s1, v4, v5, rfl⟩ ⟨t, x1, x2, rfl, ht1, rfl, h1, h2⟩
    obtain ⟨a, s, rfl, ha, hs, hst⟩ := LS.get hA h1
    obtain ⟨c, hc, rfl⟩ := rv_get h2
    obtain ⟨m, hm, hcm⟩ := hB.get hc
    have s2 : Same H (upd H1 t (.tup [.ref a, .ref c])) := sNew s1 ht1
    have lm := hr2 m (List.mem_of_getElem? hm)
    have hS := hf.st s (List.mem_of_getElem? hs)
    refine ⟨t, _, rfl, SqT.of upd_same, rfl, _, _, rfl, _, _, rfl, rfl, ?_⟩
    refine ⟨_, rfl, _, rfl, _, rfl, _, rfl, _, rfl, a, p, s, lim, rfl, St1.mono s2 hst, TN.mono s2 hp, hf.fl, hS.s20, ?_⟩
    refine ⟨a, c, s, m, scl s lim, rfl, St1.mono s2 hst, TN.mono s2 hcm, by rw [CQ.leL_len lm]; exact hS, Nat.le_trans (CQ.tot_le lm) hf.fl.tot, by rw [CQ.leL_len lm]; exact Nat.le_trans hf.fl.len (by decide), CQ.scl_lt s hf.fl.tot, fun H4 s4 => ?_⟩
    refine ⟨_, _, rfl, rfl, wide_mul (a := 1076) (b := 215) (natAbs_lt (CQ.rowsN_lt (Fit.take hf i) fun m hm => hr2 m (List.mem_of_mem_take hm))) (natAbs_lt (CQ.sf_lt hS hf.fl lm)) (by decide) (by decide) (by decide), ?_⟩
    refine ⟨s2.trans s4, some (.ref a), some (.ref c), ?_⟩
    rw [rowsN_take hs hm, Int.natCast_mul]
    rfl
  · rintro σ H1 ⟨s1, v4, v5, rfl⟩
    refine ⟨_, rfl, _, rfl, _, rfl, l, p, sts, lim, rfl, LS.mono s1 ⟨as, hl, hA⟩, TN.mono s1 hp, hf, fun d H2 s2 hd => ?_⟩
    refine ⟨_, rfl, d, _, rfl, DI.get hd (CQ.mem_below.mpr (CQ.leL_refl lim)) (TN.mono (s1.trans s2) hp), _, gT lim sts lim, rfl, CQ.gT_pos hf (CQ.leL_refl lim) hpos, Nat.lt_of_lt_of_le (CQ.gT_lt hf (CQ.leL_refl lim)) (Nat.pow_le_pow_right (by decide) (by decide)), fun t H3 s3 ht => q t _ ((s1.trans s2).trans s3) ?_⟩
    rw [← CQ.rows_mk hf hn hr2]
    rw [List.take_length, ← hn, List.take_length] at ht
    exact ht
end
end Cq
end
section
set_option Elab.async false
set_option linter.all false
set_option maxRecDepth 100000
set_option maxHeartbeats 4000000
set_option exponentiation.threshold 100000
namespace Cq
open PySem PySem.Spec PyProof.Rows L2 CqR
open Lrx5 (Station below minus factorial count without)
open CQ (FitL FitS Fit vec leL)
theorem blT {p : Prop} [Decidable p] (h : p) : V.bl (decide p) = V.bl true := by rw [decide_eq_true h]
theorem blF {p : Prop} [Decidable p] (h : ¬ p) : V.bl (decide p) = V.bl false := by rw [decide_eq_false h]
section
variable {P : Program} {w : World} {K : Kf} {mg : Str → Option Value} {base : Heap}
/-- out of the range: the error; else on -/
def Chk (K : Kf) (x : Str) (c : Int) (bad : Prop) (H : Hp) (Q : VK) (E : XK) : Prop := (bad → Er K x c H E) ∧ (¬ bad → Q .non H)
def sp_check_range (K : Kf) : Sp := fun vs H Q E => ∃ v l m : Int, vs = [.int v, .int l, .int m] ∧ Chk K "OutOfRange" (-22) (v < l ∨ m < v) H Q E
theorem sc_check_range : FnScope ["value", "least", "most"] ["value", "least", "most"] (defScope (top 25)) := ⟨rfl, rfl, rfl, by decide +kernel, rfl, by decide +kernel, by decide +kernel⟩
theorem d_check_range (T : Facts K mg) : Dfn P w K mg base (L2.CX P w) 4 "check_range" ["value", "least", "most"] (sp_check_range K) := by
  refine dfnX (T.d 7 rfl) sc_check_range (fun _ _ _ _ _ _ us hl => match us, hl with | [_, _, _], _ => rfl) (fun vs H Q E h => by obtain ⟨v, l, m, rfl, _⟩ := h; rfl) fun cdv A outer s H vs Q E hr h => ⟨_,
    (pss_one (ps_if (PW.pt (pw_or (pt_cmpR op_lt (pv 0) (pv 1) (nomark _)) (pw_or1 (pt_cmpR op_gt (pv 0) (pv 2) (nomark _)))))
        (pss_one (ps_err (T.e 3 rfl).1 (ini_OutOfRange T) hr rfl (takes_of rfl rfl rfl rfl)))
        pss_nil)), ?_⟩
  obtain ⟨v, l, m, rfl, hb, hg⟩ := h
  refine ⟨_, rfl, _, rfl, _, _, rfl, rfl, ?_⟩
  by_cases h1 : v < l
  · exact ⟨true, blT h1, iteT (iteT (hb (.inl h1)))⟩
  · refine ⟨false, blF h1, iteF ⟨_, rfl, _, rfl, _, _, rfl, rfl, ?_⟩⟩
    by_cases h2 : m < v
    · exact ⟨true, blT h2, iteT (hb (.inr h2))⟩
    · exact ⟨false, blF h2, iteF (hg (by omega))⟩
def sp_check_sizes (K : Kf) : Sp := fun vs H Q E => ∃ a b : Nat, vs = [.int a, .int b] ∧ Chk K "OutOfRange" (-22) (a = 0 ∨ 5 < a ∨ b = 0 ∨ 3 < b) H Q E
theorem sc_check_sizes : FnScope ["station_count", "class_count"] ["station_count", "class_count"] (defScope (top 26)) := ⟨rfl, rfl, rfl, by decide +kernel, rfl, by decide +kernel, by decide +kernel⟩
theorem d_check_sizes (T : Facts K mg) : Dfn P w K mg base (L2.CX P w) 5 "check_sizes" ["station_count", "class_count"] (sp_check_sizes K) := by
  refine dfnX (T.d 8 rfl) sc_check_sizes (fun _ _ _ _ _ _ us hl => match us, hl with | [_, _], _ => rfl) (fun vs H Q E h => by obtain ⟨a, b, rfl, _⟩ := h; rfl) fun cdv A outer s H vs Q E hr h => ⟨_,
    (pss_cons (ps_expr (pe_dfn (d_check_range T) hr (passes_call (takes_of rfl rfl rfl rfl) (fun _ _ _ _ z => z)) (pa_cons (pv 0) (pa_cons pe_int (pa_cons (pe_globI T.g_MOST_STATIONS) pa_nil)))))
    (pss_one (ps_expr (pe_dfn (d_check_range T) hr (passes_call (takes_of rfl rfl rfl rfl) (fun _ _ _ _ z => z)) (pa_cons (pv 1) (pa_cons pe_int (pa_cons (pe_globI T.g_MOST_CLASSES) pa_nil))))))), ?_⟩
  obtain ⟨a, b, rfl, hb, hg⟩ := h
  refine ⟨_, rfl, _, _, _, rfl, fun h1 => hb (by omega), fun h1 => ?_⟩
  exact ⟨_, rfl, _, _, _, rfl, fun h2 => hb (by omega), fun h2 => hg (by omega)⟩
def sp_check_service (K : Kf) : Sp := fun vs H Q E => ∃ a b : Nat, vs = [.int a, .int b] ∧ Chk K "OutOfRange" (-22) (1 < a ∨ b = 0 ∨ 20 < b ∨ (a = 1 ∧ b ≠ 1)) H Q E
theorem sc_check_service : FnScope ["is_delay", "servers"] ["is_delay", "servers"] (defScope (top 27)) := ⟨rfl, rfl, rfl, by decide +kernel, rfl, by decide +kernel, by decide +kernel⟩
theorem d_check_service (T : Facts K mg) : Dfn P w K mg base (L2.CX P w) 5 "check_service" ["is_delay", "servers"] (sp_check_service K) := by
  refine dfnX (T.d 9 rfl) sc_check_service (fun _ _ _ _ _ _ us hl => match us, hl with | [_, _], _ => rfl) (fun vs H Q E h => by obtain ⟨a, b, rfl, _⟩ := h; rfl) fun cdv A outer s H vs Q E hr h => ⟨_,
    (pss_cons (ps_expr (pe_dfn (d_check_range T) hr (passes_call (takes_of rfl rfl rfl rfl) (fun _ _ _ _ z => z)) (pa_cons (pv 0) (pa_cons pe_int (pa_cons pe_int pa_nil)))))
    (pss_one (ps_expr (pe_dfn (d_check_range T) hr (passes_call (takes_of rfl rfl rfl rfl) (fun _ _ _ _ z => z)) (pa_cons (pv 1) (pa_cons pe_int (pa_cons (pe_ifExp (pt_cmpR op_eq (pv 0) pe_int (nomark _)) pe_int (pe_globI T.g_MOST_SERVERS)) pa_nil))))))), ?_⟩
  obtain ⟨a, b, rfl, hb, hg⟩ := h
  refine ⟨_, rfl, _, _, _, rfl, fun h1 => hb (by omega), fun h1 => ?_⟩
  refine ⟨_, rfl, _, rfl, rfl, ?_⟩
  by_cases h2 : a = 1
  · exact ⟨true, eqT (by omega), iteT ⟨_, _, _, rfl, fun h3 => hb (by omega), fun h3 => hg (by omega)⟩⟩
  · exact ⟨false, eqF (by omega), iteF ⟨_, _, _, rfl, fun h3 => hb (by omega), fun h3 => hg (by omega)⟩⟩
def sp_check_demand (K : Kf) : Sp := fun vs H Q E => ∃ a : Nat, vs = [.int a] ∧ Chk K "OutOfRange" (-22) (1000 < a) H Q E
theorem sc_check_demand : FnScope ["demand"] ["demand"] (defScope (top 28)) := ⟨rfl, rfl, rfl, by decide +kernel, rfl, by decide +kernel, by decide +kernel⟩
theorem d_check_demand (T : Facts K mg) : Dfn P w K mg base (L2.CX P w) 5 "check_demand" ["demand"] (sp_check_demand K) := by
  refine dfnX (T.d 10 rfl) sc_check_demand (fun _ _ _ _ _ _ us hl => match us, hl with | [_], _ => rfl) (fun vs H Q E h => by obtain ⟨a, rfl, _⟩ := h; rfl) fun cdv A outer s H vs Q E hr h => ⟨_,
    (pss_one (ps_expr (pe_dfn (d_check_range T) hr (passes_call (takes_of rfl rfl rfl rfl) (fun _ _ _ _ z => z)) (pa_cons (pv 0) (pa_cons pe_int (pa_cons (pe_globI T.g_MOST_DEMAND) pa_nil)))))), ?_⟩
  obtain ⟨a, rfl, hb, hg⟩ := h
  exact ⟨_, rfl, _, _, _, rfl, fun h3 => hb (by omega), fun h3 => hg (by omega)⟩
def sp_check_population (K : Kf) : Sp := fun vs H Q E => ∃ a : Nat, vs = [.int a] ∧ Chk K "OutOfRange" (-22) (12 < a) H Q E
theorem sc_check_population : FnScope ["population"] ["population"] (defScope (top 29)) := ⟨rfl, rfl, rfl, by decide +kernel, rfl, by decide +kernel, by decide +kernel⟩
theorem d_check_population (T : Facts K mg) : Dfn P w K mg base (L2.CX P w) 5 "check_population" ["population"] (sp_check_population K) := by
  refine dfnX (T.d 11 rfl) sc_check_population (fun _ _ _ _ _ _ us hl => match us, hl with | [_], _ => rfl) (fun vs H Q E h => by obtain ⟨a, rfl, _⟩ := h; rfl) fun cdv A outer s H vs Q E hr h => ⟨_,
    (pss_one (ps_expr (pe_dfn (d_check_range T) hr (passes_call (takes_of rfl rfl rfl rfl) (fun _ _ _ _ z => z)) (pa_cons (pv 0) (pa_cons pe_int (pa_cons (pe_globI T.g_MOST_POPULATION) pa_nil)))))), ?_⟩
  obtain ⟨a, rfl, hb, hg⟩ := h
  exact ⟨_, rfl, _, _, _, rfl, fun h3 => hb (by omega), fun h3 => hg (by omega)⟩
def sp_check_sum (K : Kf) : Sp := fun vs H Q E => ∃ a : Nat, vs = [.int a] ∧ Chk K "OutOfRange" (-22) (100 < a) H Q E
theorem sc_check_sum : FnScope ["customers"] ["customers"] (defScope (top 31)) := ⟨rfl, rfl, rfl, by decide +kernel, rfl, by decide +kernel, by decide +kernel⟩
theorem d_check_sum (T : Facts K mg) : Dfn P w K mg base (L2.CX P w) 5 "check_sum" ["customers"] (sp_check_sum K) := by
  refine dfnX (T.d 13 rfl) sc_check_sum (fun _ _ _ _ _ _ us hl => match us, hl with | [_], _ => rfl) (fun vs H Q E h => by obtain ⟨a, rfl, _⟩ := h; rfl) fun cdv A outer s H vs Q E hr h => ⟨_,
    (pss_one (ps_expr (pe_dfn (d_check_range T) hr (passes_call (takes_of rfl rfl rfl rfl) (fun _ _ _ _ z => z)) (pa_cons (pv 0) (pa_cons pe_int (pa_cons (pe_globI T.g_MOST_CUSTOMERS) pa_nil)))))), ?_⟩
  obtain ⟨a, rfl, hb, hg⟩ := h
  exact ⟨_, rfl, _, _, _, rfl, fun h3 => hb (by omega), fun h3 => hg (by omega)⟩
def sp_check_goal (K : Kf) : Sp := fun vs H Q E => ∃ a b : Nat, vs = [.int a, .int b] ∧ Chk K "OutOfRange" (-22) (b = 0 ∨ 1000000 < a ∨ 1000000 < b) H Q E
theorem sc_check_goal : FnScope ["num", "den"] ["num", "den"] (defScope (top 32)) := ⟨rfl, rfl, rfl, by decide +kernel, rfl, by decide +kernel, by decide +kernel⟩
theorem d_check_goal (T : Facts K mg) : Dfn P w K mg base (L2.CX P w) 5 "check_goal" ["num", "den"] (sp_check_goal K) := by
  refine dfnX (T.d 14 rfl) sc_check_goal (fun _ _ _ _ _ _ us hl => match us, hl with | [_, _], _ => rfl) (fun vs H Q E h => by obtain ⟨a, b, rfl, _⟩ := h; rfl) fun cdv A outer s H vs Q E hr h => ⟨_,
    (pss_cons (ps_expr (pe_dfn (d_check_range T) hr (passes_call (takes_of rfl rfl rfl rfl) (fun _ _ _ _ z => z)) (pa_cons (pv 0) (pa_cons pe_int (pa_cons (pe_globI T.g_MOST_TERM) pa_nil)))))
    (pss_one (ps_expr (pe_dfn (d_check_range T) hr (passes_call (takes_of rfl rfl rfl rfl) (fun _ _ _ _ z => z)) (pa_cons (pv 1) (pa_cons pe_int (pa_cons (pe_globI T.g_MOST_TERM) pa_nil))))))), ?_⟩
  obtain ⟨a, b, rfl, hb, hg⟩ := h
  refine ⟨_, rfl, _, _, _, rfl, fun h1 => hb (by omega), fun h1 => ?_⟩
  exact ⟨_, rfl, _, _, _, rfl, fun h2 => hb (by omega), fun h2 => hg (by omega)⟩
def sp_check_numbers (K : Kf) : Sp := fun vs H Q E => ∃ (a : Addr) (n : List Nat) (k : Nat), vs = [.ref a, .int k] ∧ H a = some (.lst (nv n)) ∧ Chk K "OutOfRange" (-22) (n.length ≠ k ∨ (n.all fun j => decide (j ≤ 12)) = false) H Q E
theorem sc_check_numbers : FnScope ["numbers", "length", "customers"] ["numbers", "length"] (defScope (top 30)) := ⟨rfl, rfl, rfl, by decide +kernel, rfl, by decide +kernel, by decide +kernel⟩
theorem d_check_numbers (T : Facts K mg) : Dfn P w K mg base (L2.CX P w) 6 "check_numbers" ["numbers", "length"] (sp_check_numbers K) := by
  refine dfnX (T.d 12 rfl) sc_check_numbers (fun _ _ _ _ _ _ us hl => match us, hl with | [_, _], _ => rfl) (fun vs H Q E h => by obtain ⟨a, n, k, rfl, _⟩ := h; rfl) fun cdv A outer s H vs Q E hr h => ⟨_,
    (pss_cons (ps_if (pt_cmpR op_ne (pe_callB call_len_seq (by rfl) T.f_len PySem.boot_len (pa_cons (pv 0) pa_nil)) (pv 1) (nomark _))
        (pss_one (ps_err (T.e 3 rfl).1 (ini_OutOfRange T) (hr.mono (by decide)) rfl (takes_of rfl rfl rfl rfl)))
        pss_nil)
    (pss_one (ps_for (passes_of rfl) rfl (pi_list (pv 0)) (pg_name (i := 2) sc_check_numbers.nd rfl (Or.inl rfl))
        (pss_one (ps_expr (pe_dfn (d_check_population T) hr (passes_call (takes_of rfl rfl rfl rfl) (fun _ _ _ _ z => z)) (pa_cons (pv 2) pa_nil))))))), ?_⟩
  obtain ⟨a, n, k, rfl, ha, hb, hg⟩ := h
  refine ⟨_, rfl, a, _, rfl, .inl (SqL.of ha), _, rfl, rfl, ?_⟩
  by_cases h0 : n.length = k
  · refine ⟨false, by rw [decide_eq_true (by rw [nv_len, h0])]; rfl, iteF ?_⟩
    refine ⟨_, rfl, a, rfl, ⟨_, SqL.of ha⟩, for_it walk_list (fun i σ H1 => H1 = H ∧ (∀ j ∈ n.take i, j ≤ 12) ∧ ∃ v, σ = [some (.ref a), some (.int k), v])
      ⟨rfl, (fun j hj => by cases hj), none, rfl⟩ (fun i σ H1 _ h => by obtain ⟨rfl, _⟩ := h; exact SqL.of ha) ?_ ?_⟩
    · rintro i x σ H1 H2 hi ⟨rfl, hle, v, rfl⟩ ⟨rfl, hx⟩
      obtain ⟨m, hm, rfl⟩ := nvE hx
      refine ⟨_, rfl, m, rfl, fun h1 => hb (.inr ?_), fun h1 => ⟨rfl, fun j hj => ?_, some (.int m), rfl⟩⟩
      · rw [Bool.eq_false_iff]
        intro z
        have := List.all_eq_true.mp z m (List.mem_of_getElem? hm)
        have := of_decide_eq_true this
        omega
      · rw [take_one hm] at hj
        rcases List.mem_append.mp hj with hj | hj
        · exact hle j hj
        · have := List.mem_singleton.mp hj
          omega
    · rintro σ H1 ⟨rfl, hle, v, rfl⟩
      rw [nv_len, List.take_length] at hle
      refine hg fun z => ?_
      rcases z with z | z
      · exact z h0
      · rw [Bool.eq_false_iff] at z
        exact z (List.all_eq_true.mpr fun j hj => decide_eq_true (hle j hj))
  · refine ⟨true, by rw [decide_eq_false fun z => h0 (by injection z with z; rw [nv_len] at z; omega)]; rfl, iteT ?_⟩
    exact hb (.inl h0)
def sp_fits : Sp := fun vs H Q _ => ∃ (a : Addr) (n : List Nat), vs = [.ref a] ∧ TN H a n ∧ (∀ k ∈ n, k ≤ 12) ∧ n.length ≤ 3 ∧ Q (.bl (decide (vec n ≤ 40))) H
theorem vec_lt : ∀ {n : List Nat}, (∀ k ∈ n, k ≤ 12) → n.length ≤ 3 → vec n < 2 ^ 16 := by
  have key : ∀ {n : List Nat}, (∀ k ∈ n, k ≤ 12) → vec n ≤ 13 ^ n.length := by
    intro n
    induction n with
    | nil => intro _; exact Nat.le_refl _
    | cons k n ih =>
      intro h
      rw [vec, List.length_cons, Nat.pow_succ, Nat.mul_comm]
      exact Nat.mul_le_mul (ih fun x hx => h x (List.mem_cons_of_mem _ hx)) (by have := h k (List.mem_cons_self ..); omega)
  intro n h hl
  exact Nat.lt_of_le_of_lt (Nat.le_trans (key h) (Nat.pow_le_pow_right (by decide) hl)) (by decide)
theorem sc_fits : FnScope ["populations", "product", "population"] ["populations"] (defScope (top 33)) := ⟨rfl, rfl, rfl, by decide +kernel, rfl, by decide +kernel, by decide +kernel⟩
theorem d_fits (T : Facts K mg) : Dfn P w K mg base CX0 1 "fits" ["populations"] (sp_fits) := by
  refine dfn0 (T.d 15 rfl) sc_fits (fun _ _ _ _ _ _ us hl => match us, hl with | [_], _ => rfl) (fun vs H Q E h => by obtain ⟨a, n, rfl, _⟩ := h; rfl) fun cdv A outer s H vs Q E hr h => ⟨_,
    (pss_cons (ps_set (i := 1) sc_fits.nd rfl (Or.inl rfl) pe_int)
    (pss_cons (ps_for PassesOwn.never rfl (pi_tup (pv 0)) (pg_name (i := 2) sc_fits.nd rfl (Or.inl rfl))
        (pss_one (ps_set (i := 1) sc_fits.nd rfl (Or.inl rfl) (pe_op op_mulW (pv 1) (pe_op op_add (pv 2) pe_int)))))
    (pss_one (ps_ret (pe_cmpR op_le (pv 1) (pe_globI T.g_MOST_PRODUCT) (nomark _)))))), ?_⟩
  obtain ⟨a, n, rfl, ha, h12, hl, q⟩ := h
  refine ⟨_, rfl, a, rfl, ⟨_, ha.sq⟩, for_it walk_tup (fun i σ H1 => H1 = H ∧ ∃ v, σ = [some (.ref a), some (.int (vec (n.take i) : Nat)), v])
    ⟨rfl, none, rfl⟩ (fun i σ H1 _ h => by obtain ⟨rfl, _⟩ := h; exact ha.sq) ?_ ?_⟩
  · rintro i x σ H1 H2 hi ⟨rfl, v, rfl⟩ ⟨rfl, hx⟩
    obtain ⟨m, hm, rfl⟩ := nvE hx
    have hm12 := h12 m (List.mem_of_getElem? hm)
    refine ⟨_, rfl, _, rfl, _, _, rfl, rfl, _, _, rfl, rfl, wide_mul (a := 16) (b := 10) (natAbs_lt (vec_lt (fun k hk => h12 k (List.mem_of_mem_take hk)) (Nat.le_trans (List.length_take_le' ..) hl))) (by omega) (by decide) (by decide) (by decide), ?_⟩
    refine ⟨rfl, some (.int m), ?_⟩
    have e : ((vec (n.take i) : Nat) : Int) * ((m : Int) + 1) = ((vec (n.take (i + 1)) : Nat) : Int) := by
      rw [take_one hm, CQ.vec_append, Int.natCast_mul]
      show _ = _ * (((m + 1) * 1 : Nat) : Int)
      rw [Nat.mul_one]
      rfl
    rw [← e]
    rfl
  · rintro σ H1 ⟨rfl, v, rfl⟩
    rw [nv_len, List.take_length]
    refine ⟨_, rfl, _, _, rfl, rfl, ?_⟩
    have e : decide (((vec n : Nat) : Int) ≤ 40) = decide (vec n ≤ 40) := decide_eq_decide.mpr (by omega)
    rw [← e] at q
    exact q
def sp_check_fits (K : Kf) : Sp := fun vs H Q E => ∃ (a : Addr) (n : List Nat), vs = [.ref a] ∧ TN H a n ∧ (∀ k ∈ n, k ≤ 12) ∧ n.length ≤ 3 ∧ Chk K "PopulationsTooLarge" (-28) (40 < vec n) H Q E
theorem sc_check_fits : FnScope ["populations"] ["populations"] (defScope (top 34)) := ⟨rfl, rfl, rfl, by decide +kernel, rfl, by decide +kernel, by decide +kernel⟩
theorem d_check_fits (T : Facts K mg) : Dfn P w K mg base (L2.CX P w) 4 "check_fits" ["populations"] (sp_check_fits K) := by
  refine dfnX (T.d 16 rfl) sc_check_fits (fun _ _ _ _ _ _ us hl => match us, hl with | [_], _ => rfl) (fun vs H Q E h => by obtain ⟨a, n, rfl, _⟩ := h; rfl) fun cdv A outer s H vs Q E hr h => ⟨_,
    (pss_one (ps_if (pt_not (pt_val (pe_dfn (d_fits T) (hr.mono (by decide)) pass0 (pa_cons (pv 0) pa_nil))))
        (pss_one (ps_err (T.e 4 rfl).1 (ini_PopulationsTooLarge T) hr rfl (takes_of rfl rfl rfl rfl)))
        pss_nil)), ?_⟩
  obtain ⟨a, n, rfl, ha, h12, hl, hb, hg⟩ := h
  refine ⟨_, rfl, a, n, rfl, ha, h12, hl, _, rfl, ?_⟩
  by_cases h0 : vec n ≤ 40
  · rw [decide_eq_true h0]
    exact iteF (hg (by omega))
  · rw [decide_eq_false h0]
    exact iteT (hb (by omega))
theorem set_le {n : List Nat} {r k : Nat} (h : ∀ j ∈ n, j ≤ 12) (hk : k ≤ 12) : ∀ j ∈ n.set r k, j ≤ 12 := fun j hj => by
  rcases List.mem_or_eq_of_mem_set hj with h1 | h1
  · exact h j h1
  · omega
def sp_most_fitting : Sp := fun vs H Q _ => ∃ (a : Addr) (n : List Nat) (r : Nat), vs = [.ref a, .int r] ∧ TN H a n ∧ r < n.length ∧ (∀ k ∈ n, k ≤ 12) ∧ n.length ≤ 3 ∧
  ∀ (m : Nat) H', Same H H' → m ≤ 12 → (m ≠ 0 → vec (n.set r m) ≤ 40) → (m < 12 → 40 < vec (n.set r (m + 1))) → Q (.int m) H'
theorem sc_most_fitting : FnScope ["populations", "customer_class", "most"] ["populations", "customer_class"] (defScope (top 35)) := ⟨rfl, rfl, rfl, by decide +kernel, rfl, by decide +kernel, by decide +kernel⟩
theorem d_most_fitting (T : Facts K mg) : Dfn P w K mg base CX0 2 "most_fitting" ["populations", "customer_class"] (sp_most_fitting) := by
  refine dfn0 (T.d 17 rfl) sc_most_fitting (fun _ _ _ _ _ _ us hl => match us, hl with | [_, _], _ => rfl) (fun vs H Q E h => by obtain ⟨a, n, r, rfl, _⟩ := h; rfl) fun cdv A outer s H vs Q E hr h => ⟨_,
    (pss_cons (ps_set (i := 2) sc_most_fitting.nd rfl (Or.inl rfl) pe_int)
    (pss_cons (ps_while PassesOwn.never (PW.pt (pw_and (pt_cmpR op_lt (pv 2) (pe_globI T.g_MOST_POPULATION) (nomark _)) (pw_and1 (pt_val (pe_dfn (d_fits T) hr pass0 (pa_cons (pe_dfn (d_with_customers T) hr pass0 (pa_cons (pv 0) (pa_cons (pv 1) (pa_cons (pe_op op_add (pv 2) pe_int) pa_nil)))) pa_nil))))))
        (pss_one (ps_set (i := 2) sc_most_fitting.nd rfl (Or.inl rfl) (pe_op op_add (pv 2) pe_int))))
    (pss_one (ps_ret (pv 2))))), ?_⟩
  obtain ⟨a, n, r, rfl, ha, hr2, h12, hl, q⟩ := h
  refine ⟨fun m σ H1 => Same H H1 ∧ ∃ k : Nat, σ = [some (.ref a), some (.int r), some (.int k)] ∧ k ≤ 12 ∧ m = 12 - k ∧ (k ≠ 0 → vec (n.set r k) ≤ 40), ⟨_, Same.refl H, 0, rfl, by decide, rfl, fun z => absurd rfl z⟩, ?_⟩
  rintro m σ H1 ⟨s1, k, rfl, hk, rfl, hv⟩
  refine ⟨_, rfl, _, _, rfl, rfl, ?_⟩
  by_cases h0 : k < 12
  · refine ⟨true, blT (by omega), iteT ⟨_, rfl, _, rfl, _, rfl, _, _, rfl, rfl, a, n, r, k + 1, rfl, TN.mono s1 ha, hr2, fun p H2 s2 hp => ?_⟩⟩
    refine ⟨p, _, rfl, hp, set_le h12 (by omega), by rw [List.length_set]; exact hl, ?_⟩
    by_cases h1 : vec (n.set r (k + 1)) ≤ 40
    · refine ⟨true, blT h1, iteT ⟨_, fun σ' H3 h => h, _, rfl, _, _, rfl, rfl, 12 - (k + 1), by omega, s1.trans s2, k + 1, rfl, by omega, rfl, fun _ => h1⟩⟩
    · exact ⟨false, blF h1, iteF ⟨_, rfl, q k _ (s1.trans s2) hk hv fun _ => by omega⟩⟩
  · exact ⟨false, blF (by omega), iteF (iteF ⟨_, rfl, q k _ s1 hk hv fun z => absurd z h0⟩)⟩
end
end Cq
end
section
set_option Elab.async false
set_option linter.all false
set_option maxRecDepth 100000
set_option maxHeartbeats 4000000
set_option exponentiation.threshold 100000
namespace Cq
open PySem PySem.Spec PyProof.Rows L2 CqR
open Lrx5 (Station Network below minus factorial count without isProper isSimple demand classes classCount)
open CQ (FitL FitS Fit vec leL)
theorem anyS (sts : List Station) (r : Nat) {i : Nat} {s : Station} (h : sts[i]? = some s) : ((sts.take (i + 1)).any fun s => decide (0 < demand s r)) = (((sts.take i).any fun s => decide (0 < demand s r)) || decide (0 < demand s r)) := by
  rw [take_one h, List.any_append]
  simp
theorem mem_any {sts : List Station} {s : Station} {r : Nat} (h : s ∈ sts) (k : 0 < demand s r) : (sts.any fun s => decide (0 < demand s r)) = true := List.any_eq_true.mpr ⟨s, h, decide_eq_true k⟩
theorem nv_atd {s : Station} {r : Nat} (h : r < s.demands.length) : atI (nv s.demands) (r : Int) = some (V.int (demand s r : Int)) := by
  refine atI_nat ?_
  rw [nv_get, List.getElem?_eq_getElem h]
  unfold demand
  rw [List.getD_eq_getElem?_getD, List.getElem?_eq_getElem h]
  rfl
section
variable {P : Program} {w : World} {K : Kf} {mg : Str → Option Value} {base : Heap}
def sp_is_demanded (K : Kf) : Sp := fun vs H Q _ => ∃ (l : Addr) (sts : List Station) (r : Nat), vs = [.ref l, .int r] ∧ LS K H l sts ∧ (∀ s ∈ sts, r < s.demands.length) ∧ Q (.bl (sts.any fun s => decide (0 < demand s r))) H
theorem sc_is_demanded : FnScope ["stations", "customer_class", "station"] ["stations", "customer_class"] (defScope (top 40)) := ⟨rfl, rfl, rfl, by decide +kernel, rfl, by decide +kernel, by decide +kernel⟩
theorem d_is_demanded (T : Facts K mg) : Dfn P w K mg base CX0 1 "is_demanded" ["stations", "customer_class"] (sp_is_demanded K) := by
  refine dfn0 (T.d 19 rfl) sc_is_demanded (fun _ _ _ _ _ _ us hl => match us, hl with | [_, _], _ => rfl) (fun vs H Q E h => by obtain ⟨l, sts, r, rfl, _⟩ := h; rfl) fun cdv A outer s H vs Q E hr h => ⟨_,
    (pss_cons (ps_for PassesOwn.never rfl (pi_list (pv 0)) (pg_name (i := 2) sc_is_demanded.nd rfl (Or.inl rfl))
        (pss_one (ps_if (pt_cmpR op_gt (pe_ix ix_list (pe_fld (pv 2) rfl) (pv 1) (fun _ _ => rfl)) pe_int (nomark _))
            (pss_one (ps_ret pe_bl))
            pss_nil)))
    (pss_one (ps_ret pe_bl))), ?_⟩
  obtain ⟨l, sts, r, rfl, ⟨as, hl, hA⟩, hd, q⟩ := h
  refine ⟨_, rfl, l, rfl, ⟨_, SqL.of hl⟩, for_it walk_list (fun i σ H1 => H1 = H ∧ ((sts.take i).any fun s => decide (0 < demand s r)) = false ∧ ∃ v, σ = [some (.ref l), some (.int r), v])
    ⟨rfl, rfl, none, rfl⟩ (fun i σ H1 _ h => by obtain ⟨rfl, _⟩ := h; exact SqL.of hl) ?_ ?_⟩
  · rintro i x σ H1 H2 hi ⟨rfl, hn, v, rfl⟩ ⟨rfl, hx⟩
    obtain ⟨a, s, rfl, ha, hs, d, ⟨dx, h1⟩, h2⟩ := LS.get hA hx
    have ms := List.mem_of_getElem? hs
    refine ⟨_, rfl, a, _, dx, _, _, rfl, h1, T.cl_Station, T.n_demands, rfl, _, rfl, d, _, _, _, rfl, rfl, SqL.of h2, nv_atd (hd s ms), _, _, rfl, rfl, ?_⟩
    by_cases h0 : 0 < demand s r
    · refine ⟨true, blT (by omega), iteT ?_⟩
      rw [mem_any ms h0] at q
      exact q
    · refine ⟨false, blF (by omega), iteF ⟨rfl, ?_, some (.ref a), rfl⟩⟩
      rw [anyS sts r hs, hn, decide_eq_false h0]
      rfl
  · rintro σ H1 ⟨rfl, hn, v, rfl⟩
    rw [rv_len hA, List.take_length] at hn
    rw [hn] at q
    exact q
theorem nvE2 {n : List Nat} {i : Nat} {x : V} (h : (nv n)[i]? = some x) : i < n.length ∧ x = .int (count n i : Int) := by
  obtain ⟨m, hm, rfl⟩ := nvE h
  refine ⟨ltE hm, ?_⟩
  unfold count
  rw [List.getD_eq_getElem?_getD, hm]
  rfl
theorem proper_all {sts : List Station} {n : List Nat} (h : ∀ j, j < n.length → (count n j == 0 || sts.any fun s => decide (0 < demand s j)) = true) : isProper ⟨sts, n⟩ = true := by
  unfold isProper
  exact List.all_eq_true.mpr fun j hj => h j (List.mem_range.mp hj)
theorem proper_not {sts : List Station} {n : List Nat} {j : Nat} (hj : j < n.length) (h : (count n j == 0 || sts.any fun s => decide (0 < demand s j)) = false) : isProper ⟨sts, n⟩ = false := by
  rw [Bool.eq_false_iff]
  intro z
  have := List.all_eq_true.mp z j (List.mem_range.mpr hj)
  rw [this] at h
  cases h
def sp_is_proper (K : Kf) : Sp := fun vs H Q _ => ∃ (l p : Addr) (sts : List Station) (n : List Nat), vs = [.ref l, .ref p] ∧ LS K H l sts ∧ TN H p n ∧ (∀ s ∈ sts, s.demands.length = n.length) ∧ ∀ H', Same H H' → Q (.bl (isProper ⟨sts, n⟩)) H'
theorem sc_is_proper : FnScope ["stations", "populations", "customer_class", "population"] ["stations", "populations"] (defScope (top 39)) := ⟨rfl, rfl, rfl, by decide +kernel, rfl, by decide +kernel, by decide +kernel⟩
theorem d_is_proper (T : Facts K mg) : Dfn P w K mg base CX0 2 "is_proper" ["stations", "populations"] (sp_is_proper K) := by
  refine dfn0 (T.d 18 rfl) sc_is_proper (fun _ _ _ _ _ _ us hl => match us, hl with | [_, _], _ => rfl) (fun vs H Q E h => by obtain ⟨l, p, sts, n, rfl, _⟩ := h; rfl) fun cdv A outer s H vs Q E hr h => ⟨_,
    (pss_cons (ps_for PassesOwn.never rfl (pi_enumT (by rfl) T.f_enumerate (pa_cons (pv 1) pa_nil)) (pg_tup rfl (pgs_cons (pg_name (i := 2) sc_is_proper.nd rfl (Or.inl rfl)) (pgs_cons (pg_name (i := 3) sc_is_proper.nd rfl (Or.inl rfl)) pgs_nil)))
        (pss_one (ps_if (PW.pt (pw_and (pt_cmpR op_gt (pv 3) pe_int (nomark _)) (pw_and1 (pt_not (pt_val (pe_dfn (d_is_demanded T) hr pass0 (pa_cons (pv 0) (pa_cons (pv 2) pa_nil))))))))
            (pss_one (ps_ret pe_bl))
            pss_nil)))
    (pss_one (ps_ret pe_bl))), ?_⟩
  obtain ⟨l, p, sts, n, rfl, hl, hp, hd, q⟩ := h
  refine ⟨_, rfl, p, _, rfl, hp.sq, for_it walk_enumT (fun i σ H1 => Same H H1 ∧ (∀ j, j < i → (count n j == 0 || sts.any fun s => decide (0 < demand s j)) = true) ∧ ∃ v2 v3, σ = [some (.ref l), some (.ref p), v2, v3])
    ⟨Same.refl H, (fun j hj => absurd hj (Nat.not_lt_zero j)), none, none, rfl⟩ (fun i σ H1 _ h => (TN.mono h.1 hp).sq) ?_ ?_⟩
  · rintro i x σ H1 H2 hi ⟨s1, hj, v2, v3, rfl⟩ ⟨t, x1, x2, rfl, ht1, rfl, h1, h2⟩
    obtain ⟨hin, rfl⟩ := nvE2 h2
    obtain rfl := Option.some.inj h1
    have s2 : Same H (upd H1 t (.tup [.int (i : Nat), .int (count n i : Int)])) := sNew s1 ht1
    refine ⟨t, _, rfl, SqT.of upd_same, rfl, _, _, rfl, _, _, rfl, rfl, ?_⟩
    refine ⟨_, rfl, _, _, rfl, rfl, ?_⟩
    by_cases h0 : count n i = 0
    · refine ⟨false, blF (by omega), iteF (iteF ⟨s2, fun j hj2 => ?_, some (.int (i : Nat)), some (.int (count n i : Int)), rfl⟩)⟩
      by_cases e : j = i
      · subst e
        rw [h0]
        rfl
      · exact hj j (by omega)
    · refine ⟨true, blT (by omega), iteT ⟨_, rfl, _, rfl, l, sts, i, rfl, LS.mono s2 hl, (fun s hs => by rw [hd s hs]; exact hin), ?_⟩⟩
      cases ea : sts.any fun s => decide (0 < demand s i) with
      | true =>
        refine ⟨_, rfl, iteF ⟨s2, fun j hj2 => ?_, some (.int (i : Nat)), some (.int (count n i : Int)), rfl⟩⟩
        by_cases e : j = i
        · subst e
          rw [ea, Bool.or_true]
        · exact hj j (by omega)
      | false =>
        refine ⟨_, rfl, iteT ?_⟩
        have e := proper_not (sts := sts) hin (by rw [ea, Bool.or_false]; simpa using h0)
        have z := q _ s2
        rw [e] at z
        exact z
  · rintro σ H1 ⟨s1, hj, v2, v3, rfl⟩
    rw [nv_len] at hj
    have z := q _ s1
    rw [proper_all hj] at z
    exact z
def sp_require_proper (K : Kf) : Sp := fun vs H Q E => ∃ (l p : Addr) (sts : List Station) (n : List Nat), vs = [.ref l, .ref p] ∧ LS K H l sts ∧ TN H p n ∧ (∀ s ∈ sts, s.demands.length = n.length) ∧ (isProper ⟨sts, n⟩ = false → Er K "NoResult" (-33) H E) ∧ (isProper ⟨sts, n⟩ = true → ∀ H', Same H H' → Q .non H')
theorem sc_require_proper : FnScope ["stations", "populations"] ["stations", "populations"] (defScope (top 41)) := ⟨rfl, rfl, rfl, by decide +kernel, rfl, by decide +kernel, by decide +kernel⟩
theorem d_require_proper (T : Facts K mg) : Dfn P w K mg base (L2.CX P w) 4 "require_proper" ["stations", "populations"] (sp_require_proper K) := by
  refine dfnX (T.d 20 rfl) sc_require_proper (fun _ _ _ _ _ _ us hl => match us, hl with | [_, _], _ => rfl) (fun vs H Q E h => by obtain ⟨l, p, sts, n, rfl, _⟩ := h; rfl) fun cdv A outer s H vs Q E hr h => ⟨_,
    (pss_one (ps_if (pt_not (pt_val (pe_dfn (d_is_proper T) (hr.mono (by decide)) pass0 (pa_cons (pv 0) (pa_cons (pv 1) pa_nil)))))
        (pss_one (ps_err (T.e 5 rfl).1 (ini_NoResult T) hr rfl (takes_of rfl rfl rfl rfl)))
        pss_nil)), ?_⟩
  obtain ⟨l, p, sts, n, rfl, hl, hp, hd, hb, hg⟩ := h
  refine ⟨_, rfl, _, rfl, l, p, sts, n, rfl, hl, hp, hd, fun H1 s1 => ⟨_, rfl, ?_⟩⟩
  cases e : isProper ⟨sts, n⟩ with
  | true => exact iteF (hg e _ s1)
  | false => exact iteT ((hb e).mono s1)
def sp_is_simple (K : Kf) : Sp := fun vs H Q _ => ∃ (l : Addr) (sts : List Station), vs = [.ref l] ∧ LS K H l sts ∧ (∀ s ∈ sts, 0 < s.servers) ∧ Q (.bl (sts.all fun s => s.isDelay || s.servers == 1)) H
theorem sc_is_simple : FnScope ["stations", "station"] ["stations"] (defScope (top 42)) := ⟨rfl, rfl, rfl, by decide +kernel, rfl, by decide +kernel, by decide +kernel⟩
theorem d_is_simple (T : Facts K mg) : Dfn P w K mg base CX0 1 "is_simple" ["stations"] (sp_is_simple K) := by
  refine dfn0 (T.d 21 rfl) sc_is_simple (fun _ _ _ _ _ _ us hl => match us, hl with | [_], _ => rfl) (fun vs H Q E h => by obtain ⟨l, sts, rfl, _⟩ := h; rfl) fun cdv A outer s H vs Q E hr h => ⟨_,
    (pss_cons (ps_for PassesOwn.never rfl (pi_list (pv 0)) (pg_name (i := 1) sc_is_simple.nd rfl (Or.inl rfl))
        (pss_one (ps_if (PW.pt (pw_and (pt_cmpR op_eq (pe_fld (pv 1) rfl) pe_int (nomark _)) (pw_and1 (pt_cmpR op_gt (pe_fld (pv 1) rfl) pe_int (nomark _)))))
            (pss_one (ps_ret pe_bl))
            pss_nil)))
    (pss_one (ps_ret pe_bl))), ?_⟩
  obtain ⟨l, sts, rfl, ⟨as, hl, hA⟩, hd, q⟩ := h
  refine ⟨_, rfl, l, rfl, ⟨_, SqL.of hl⟩, for_it walk_list (fun i σ H1 => H1 = H ∧ (∀ s ∈ sts.take i, (s.isDelay || s.servers == 1) = true) ∧ ∃ v, σ = [some (.ref l), v])
    ⟨rfl, (fun s hs => by cases hs), none, rfl⟩ (fun i σ H1 _ h => by obtain ⟨rfl, _⟩ := h; exact SqL.of hl) ?_ ?_⟩
  · rintro i x σ H1 H2 hi ⟨rfl, hn, v, rfl⟩ ⟨rfl, hx⟩
    obtain ⟨a, s, rfl, ha, hs, d, ⟨dx, h1⟩, h2⟩ := LS.get hA hx
    have ms := List.mem_of_getElem? hs
    have hsv := hd s ms
    have next : (s.isDelay || s.servers == 1) = true → ∀ t ∈ sts.take (i + 1), (t.isDelay || t.servers == 1) = true := fun e t ht => by
      rw [take_one hs] at ht
      rcases List.mem_append.mp ht with ht | ht
      · exact hn t ht
      · rw [List.mem_singleton.mp ht]
        exact e
    refine ⟨_, rfl, a, _, dx, _, _, rfl, h1, T.cl_Station, T.n_is_delay, rfl, rfl, ?_⟩
    cases hb : s.isDelay with
    | true => exact ⟨false, eqF (by rw [dB1 hb]; decide), iteF (iteF ⟨rfl, next (by rw [hb]; rfl), some (.ref a), rfl⟩)⟩
    | false =>
      refine ⟨true, eqT (by unfold dB; rw [hb]; rfl), iteT ⟨_, rfl, a, _, dx, _, _, rfl, h1, T.cl_Station, T.n_servers, rfl, _, _, rfl, rfl, ?_⟩⟩
      by_cases h0 : s.servers = 1
      · exact ⟨false, blF (by omega), iteF ⟨rfl, next (by rw [hb, h0]; rfl), some (.ref a), rfl⟩⟩
      · refine ⟨true, blT (by omega), iteT ?_⟩
        have e : (sts.all fun s => s.isDelay || s.servers == 1) = false := by
          rw [Bool.eq_false_iff]
          intro z
          have := List.all_eq_true.mp z s ms
          rw [hb] at this
          simp at this
          exact h0 this
        rw [e] at q
        exact q
  · rintro σ H1 ⟨rfl, hn, v, rfl⟩
    rw [rv_len hA, List.take_length] at hn
    rw [List.all_eq_true.mpr hn] at q
    exact q
end
end Cq
end
section
set_option Elab.async false
set_option linter.all false
set_option maxRecDepth 100000
set_option maxHeartbeats 4000000
set_option exponentiation.threshold 100000
namespace Cq
open PySem PySem.Spec PyProof.Rows L2 CqR
open Lrx5 (Station Network below minus factorial count without isProper isSimple demand classes classCount)
open CQ (FitL FitS Fit vec leL sta)
def stF (v c : Int) (d : Addr) : List (Str × V) := [("is_delay", .int v), ("servers", .int c), ("demands", .ref d)]
def ntF (l p : Addr) : List (Str × V) := [("stations", .ref l), ("populations", .ref p)]
/-- the network, to be read -/
def NetR (K : Kf) (H : Hp) (a : Addr) (sts : List Station) (n : List Nat) : Prop := ∃ dx l p, H a = some (.ins (cN K) dx (ntF l p)) ∧ LS K H l sts ∧ TN H p n
theorem NetR.mono {K : Kf} {H H' : Hp} (z : Same H H') {a : Addr} {sts : List Station} {n : List Nat} (h : NetR K H a sts n) : NetR K H' a sts n := by
  obtain ⟨dx, l, p, h1, h2, h3⟩ := h
  exact ⟨dx, l, p, z _ _ h1, h2.mono z, h3.mono z⟩
section
variable {P : Program} {w : World} {K : Kf} {mg : Str → Option Value} {base : Heap}
def sp_ini_Station (K : Kf) : Sp := fun vs H Q _ => ∃ (x dx : Addr) (n : Nat), vs = [.ref x, .int n] ∧ H x = some (.ins (cS K) dx []) ∧ n ≤ 1000 ∧ ∀ d H', Sb x H H' → H d = none → H' x = some (.ins (cS K) dx (stF 0 1 d)) → H' d = some (.lst (nv (List.replicate n 0))) → Q .non H'
theorem rep0 (n : Nat) : (List.replicate n [V.int 0]).flatten = nv (List.replicate n 0) := by
  induction n with
  | zero => rfl
  | succ n ih =>
    rw [List.replicate_succ, List.flatten_cons, ih, List.replicate_succ]
    rfl
theorem sc_Station_init : FnScope ["self", "class_count"] ["self", "class_count"] (defScope (inClass (top 37) 0)) := ⟨rfl, rfl, rfl, by decide +kernel, rfl, by decide +kernel, by decide +kernel⟩
theorem ini_Station (T : Facts K mg) : Ini P w K mg base CX0 1 (He.ma K (He.ga K "Station") "__init__") ["self", "class_count"] (sp_ini_Station K) := by
  refine ini0 T.i_Station sc_Station_init (fun _ _ _ _ _ _ us hl => match us, hl with | [_, _], _ => rfl) (fun vs H Q E h => by obtain ⟨x, dx, n, rfl, _⟩ := h; rfl) fun cdv A outer s H vs Q E hr h => ⟨_,
    (pss_cons (ps_fld (pv 0) pe_int rfl)
    (pss_cons (ps_fld (pv 0) pe_int rfl)
    (pss_one (ps_fld (pv 0) (pe_op op_rep (pe_lst (pa_cons pe_int pa_nil)) (pv 1)) rfl)))), ?_⟩
  obtain ⟨x, dx, n, rfl, hx, hn, q⟩ := h
  refine ⟨_, rfl, x, cS K, dx, [], rfl, hx, T.cl_Station, T.n_is_delay, by decide, ?_⟩
  refine ⟨_, rfl, x, cS K, dx, _, rfl, upd_same, T.cl_Station, T.n_servers, by decide, ?_⟩
  have s0 : Sb x H (upd (upd H x (.ins (cS K) dx (putF "is_delay" (.int 0) []))) x (.ins (cS K) dx (putF "servers" (.int 1) (putF "is_delay" (.int 0) [])))) := (Sb.refl x H).put.put
  refine ⟨by decide, fun l1 h1 => ⟨_, rfl, l1, _, _, rfl, rfl, upd_same, by omega, by omega, ?_, fun d hd => ?_⟩⟩
  · show 1 * (n : Int).toNat ≤ sizeLine
    exact Nat.le_trans (show _ ≤ 1000 by omega) (by decide)
  have nx1 : x ≠ l1 := ne_of_none upd_same h1
  have s1 := s0.trans (same_new (o := .lst [.int 0]) h1)
  have nxd : x ≠ d := ne_of_none (show upd (upd _ x _) l1 _ x = some _ by rw [upd_ne nx1]; exact upd_same) hd
  have s2 := s1.trans (same_new (o := .lst (List.replicate (n : Int).toNat [V.int 0]).flatten) hd)
  refine ⟨_, rfl, x, cS K, dx, _, rfl, by rw [upd_ne nxd, upd_ne nx1]; exact upd_same, T.cl_Station, T.n_demands, by decide, ?_⟩
  refine q d _ s2.put ?_ ?_ ?_
  · have z : (upd (upd H x (.ins (cS K) dx (putF "is_delay" (.int 0) []))) x (.ins (cS K) dx (putF "servers" (.int 1) (putF "is_delay" (.int 0) [])))) d = none := by
      by_cases e : d = l1
      · rw [e]; exact h1
      · rw [upd_ne e] at hd; exact hd
    rw [upd_ne nxd.symm, upd_ne nxd.symm] at z
    exact z
  · rw [upd_same]
    rfl
  · rw [upd_ne nxd.symm, upd_same, Int.toNat_natCast, rep0]
def sp_ini_Network (K : Kf) : Sp := fun vs H Q _ => ∃ (x dx : Addr), vs = [.ref x] ∧ H x = some (.ins (cN K) dx []) ∧ ∀ l p H', Sb x H H' → H l = none → H p = none → H' x = some (.ins (cN K) dx (ntF l p)) → H' l = some (.lst []) → H' p = some (.tup []) → Q .non H'
theorem sc_Network_init : FnScope ["self"] ["self"] (defScope (inClass (top 38) 0)) := ⟨rfl, rfl, rfl, by decide +kernel, rfl, by decide +kernel, by decide +kernel⟩
theorem ini_Network (T : Facts K mg) : Ini P w K mg base CX0 1 (He.ma K (He.ga K "Network") "__init__") ["self"] (sp_ini_Network K) := by
  refine ini0 T.i_Network sc_Network_init (fun _ _ _ _ _ _ us hl => match us, hl with | [_], _ => rfl) (fun vs H Q E h => by obtain ⟨x, dx, rfl, _⟩ := h; rfl) fun cdv A outer s H vs Q E hr h => ⟨_,
    (pss_cons (ps_fld (pv 0) (pe_lst pa_nil) rfl)
    (pss_one (ps_fld (pv 0) (pe_tup pa_nil) rfl))), ?_⟩
  obtain ⟨x, dx, rfl, hx, q⟩ := h
  refine ⟨by decide, fun l hl => ?_⟩
  have nxl : x ≠ l := ne_of_none hx hl
  have s0 := (Sb.refl x H).trans (same_new (o := .lst []) hl)
  refine ⟨_, rfl, x, cN K, dx, [], rfl, by rw [upd_ne nxl]; exact hx, T.cl_Network, T.n_stations, by decide, ?_⟩
  refine ⟨by decide, fun p hp => ?_⟩
  have nxp : x ≠ p := ne_of_none upd_same hp
  have nlp : l ≠ p := fun z => by
    rw [← z, upd_ne nxl.symm, upd_same] at hp
    cases hp
  have s1 := s0.put.trans (same_new (o := .tup []) hp)
  refine ⟨_, rfl, x, cN K, dx, putF "stations" (.ref l) [], rfl, by rw [upd_ne nxp]; exact upd_same, T.cl_Network, T.n_populations, (show 1 < 1000 by decide), ?_⟩
  refine q l p _ s1.put hl ?_ ?_ ?_ ?_
  · rw [upd_ne nxp.symm, upd_ne nlp.symm] at hp
    exact hp
  · rw [upd_same]
    rfl
  · rw [upd_ne nxl.symm, upd_ne nlp, upd_ne nxl.symm, upd_same]
  · rw [upd_ne nxp.symm, upd_same]
/-! ### the network's checks -/
theorem nfS {l p : Addr} : (ntF l p).lookup ("stations" : Str) = some (V.ref l) := rfl
theorem nfP {l p : Addr} : (ntF l p).lookup ("populations" : Str) = some (V.ref p) := rfl
def sp_check_exists (K : Kf) : Sp := fun vs H Q E => ∃ (a : Addr) (sts : List Station) (n : List Nat), vs = [.ref a] ∧ NetR K H a sts n ∧ Chk K "NoInstance" (-11) (sts = []) H Q E
theorem sc_Network_check_exists : FnScope ["self"] ["self"] (defScope (inClass (top 38) 1)) := ⟨rfl, rfl, rfl, by decide +kernel, rfl, by decide +kernel, by decide +kernel⟩
theorem m_check_exists (T : Facts K mg) : Mth P w K mg base (L2.CX P w) 4 (cN K) "check_exists" ["self"] (sp_check_exists K) := by
  refine mthX T.m_exists T.cl_Network sc_Network_check_exists (fun _ _ _ _ _ _ us hl => match us, hl with | [_], _ => rfl) (fun vs H Q E h => by obtain ⟨a, sts, n, rfl, _⟩ := h; rfl) fun cdv A outer s H vs Q E hr h => ⟨_,
    (pss_one (ps_if (pt_cmpR op_eq (pe_callB call_len_seq (by rfl) T.f_len PySem.boot_len (pa_cons (pe_fld (pv 0) rfl) pa_nil)) pe_int (nomark _))
        (pss_one (ps_err (T.e 0 rfl).1 (ini_NoInstance T) hr rfl (takes_of rfl rfl rfl rfl)))
        pss_nil)), ?_⟩
  obtain ⟨a, sts, n, rfl, ⟨dx, l, p, ha, ⟨as, hl, hA⟩, hp⟩, hb, hg⟩ := h
  refine ⟨_, rfl, a, _, dx, _, _, rfl, ha, T.cl_Network, T.n_stations, nfS, l, _, rfl, .inl (SqL.of hl), rfl, ?_⟩
  by_cases h0 : sts = []
  · exact ⟨true, eqT (by rw [rv_len hA, h0]; rfl), iteT (hb h0)⟩
  · exact ⟨false, eqF (by rw [rv_len hA]; have := List.length_pos_iff.mpr h0; omega), iteF (hg h0)⟩
def sp_check_station (K : Kf) : Sp := fun vs H Q E => ∃ (a : Addr) (i : Nat) (sts : List Station) (n : List Nat), vs = [.ref a, .int i] ∧ NetR K H a sts n ∧ Chk K "NoSuchStationOrClass" (-2) (¬ i < sts.length) H Q E
theorem sc_Network_check_station : FnScope ["self", "station"] ["self", "station"] (defScope (inClass (top 38) 2)) := ⟨rfl, rfl, rfl, by decide +kernel, rfl, by decide +kernel, by decide +kernel⟩
theorem m_check_station (T : Facts K mg) : Mth P w K mg base (L2.CX P w) 4 (cN K) "check_station" ["self", "station"] (sp_check_station K) := by
  refine mthX T.m_station T.cl_Network sc_Network_check_station (fun _ _ _ _ _ _ us hl => match us, hl with | [_, _], _ => rfl) (fun vs H Q E h => by obtain ⟨a, i, sts, n, rfl, _⟩ := h; rfl) fun cdv A outer s H vs Q E hr h => ⟨_,
    (pss_one (ps_if (pt_cmpR op_ge (pv 1) (pe_callB call_len_seq (by rfl) T.f_len PySem.boot_len (pa_cons (pe_fld (pv 0) rfl) pa_nil)) (nomark _))
        (pss_one (ps_err (T.e 1 rfl).1 (ini_NoSuchStationOrClass T) hr rfl (takes_of rfl rfl rfl rfl)))
        pss_nil)), ?_⟩
  obtain ⟨a, i, sts, n, rfl, ⟨dx, l, p, ha, ⟨as, hl, hA⟩, hp⟩, hb, hg⟩ := h
  refine ⟨_, rfl, _, rfl, a, _, dx, _, _, rfl, ha, T.cl_Network, T.n_stations, nfS, l, _, rfl, .inl (SqL.of hl), _, _, rfl, rfl, ?_⟩
  rw [rv_len hA]
  by_cases h0 : i < sts.length
  · exact ⟨false, blF (by omega), iteF (hg fun z => z h0)⟩
  · exact ⟨true, blT (by omega), iteT (hb h0)⟩
def sp_check_class (K : Kf) : Sp := fun vs H Q E => ∃ (a : Addr) (r : Nat) (sts : List Station) (n : List Nat), vs = [.ref a, .int r] ∧ NetR K H a sts n ∧ Chk K "NoSuchStationOrClass" (-2) (¬ r < n.length) H Q E
theorem sc_Network_check_class : FnScope ["self", "customer_class"] ["self", "customer_class"] (defScope (inClass (top 38) 3)) := ⟨rfl, rfl, rfl, by decide +kernel, rfl, by decide +kernel, by decide +kernel⟩
theorem m_check_class (T : Facts K mg) : Mth P w K mg base (L2.CX P w) 4 (cN K) "check_class" ["self", "customer_class"] (sp_check_class K) := by
  refine mthX T.m_class T.cl_Network sc_Network_check_class (fun _ _ _ _ _ _ us hl => match us, hl with | [_, _], _ => rfl) (fun vs H Q E h => by obtain ⟨a, r, sts, n, rfl, _⟩ := h; rfl) fun cdv A outer s H vs Q E hr h => ⟨_,
    (pss_one (ps_if (pt_cmpR op_ge (pv 1) (pe_callB call_len_seq (by rfl) T.f_len PySem.boot_len (pa_cons (pe_fld (pv 0) rfl) pa_nil)) (nomark _))
        (pss_one (ps_err (T.e 1 rfl).1 (ini_NoSuchStationOrClass T) hr rfl (takes_of rfl rfl rfl rfl)))
        pss_nil)), ?_⟩
  obtain ⟨a, r, sts, n, rfl, ⟨dx, l, p, ha, ⟨as, hl, hA⟩, hp⟩, hb, hg⟩ := h
  refine ⟨_, rfl, _, rfl, a, _, dx, _, _, rfl, ha, T.cl_Network, T.n_populations, nfP, p, _, rfl, .inr hp.sq, _, _, rfl, rfl, ?_⟩
  rw [nv_len]
  by_cases h0 : r < n.length
  · exact ⟨false, blF (by omega), iteF (hg fun z => z h0)⟩
  · exact ⟨true, blT (by omega), iteT (hb h0)⟩
def sp_check_customers (K : Kf) : Sp := fun vs H Q E => ∃ (a : Addr) (r : Nat) (sts : List Station) (n : List Nat), vs = [.ref a, .int r] ∧ NetR K H a sts n ∧ r < n.length ∧ Chk K "NoCustomers" (-6) (count n r = 0) H Q E
theorem sc_Network_check_customers : FnScope ["self", "customer_class"] ["self", "customer_class"] (defScope (inClass (top 38) 4)) := ⟨rfl, rfl, rfl, by decide +kernel, rfl, by decide +kernel, by decide +kernel⟩
theorem m_check_customers (T : Facts K mg) : Mth P w K mg base (L2.CX P w) 4 (cN K) "check_customers" ["self", "customer_class"] (sp_check_customers K) := by
  refine mthX T.m_customers T.cl_Network sc_Network_check_customers (fun _ _ _ _ _ _ us hl => match us, hl with | [_, _], _ => rfl) (fun vs H Q E h => by obtain ⟨a, r, sts, n, rfl, _⟩ := h; rfl) fun cdv A outer s H vs Q E hr h => ⟨_,
    (pss_one (ps_if (pt_cmpR op_eq (pe_ix ix_tup (pe_fld (pv 0) rfl) (pv 1) (fun _ _ => rfl)) pe_int (nomark _))
        (pss_one (ps_err (T.e 2 rfl).1 (ini_NoCustomers T) hr rfl (takes_of rfl rfl rfl rfl)))
        pss_nil)), ?_⟩
  obtain ⟨a, r, sts, n, rfl, ⟨dx, l, p, ha, ⟨as, hl, hA⟩, hp⟩, hr2, hb, hg⟩ := h
  refine ⟨_, rfl, a, _, dx, _, _, rfl, ha, T.cl_Network, T.n_populations, nfP, _, rfl, p, _, _, _, rfl, rfl, hp.sq, nv_at hr2, rfl, ?_⟩
  by_cases h0 : count n r = 0
  · exact ⟨true, eqT (by omega), iteT (hb h0)⟩
  · exact ⟨false, eqF (by omega), iteF (hg h0)⟩
def sp_check_queue (K : Kf) : Sp := fun vs H Q E => ∃ (a : Addr) (i : Nat) (sts : List Station) (n : List Nat), vs = [.ref a, .int i] ∧ NetR K H a sts n ∧ i < sts.length ∧ Chk K "NoResult" (-33) ((sta sts i).isDelay = true) H Q E
theorem rv_at {K : Kf} {H : Hp} {as : List Addr} {sts : List Station} {i : Nat} (h : AllR (St1 K) H as sts) (hi : i < sts.length) : ∃ a, as[i]? = some a ∧ atI (rv as) (i : Int) = some (V.ref a) ∧ St1 K H a (sta sts i) := by
  obtain ⟨a, h1, h2⟩ := h.lt (CQ.sta_get hi)
  exact ⟨a, h1, atI_nat (by rw [rv, List.getElem?_map, h1]; rfl), h2⟩
theorem sc_Network_check_queue : FnScope ["self", "station"] ["self", "station"] (defScope (inClass (top 38) 5)) := ⟨rfl, rfl, rfl, by decide +kernel, rfl, by decide +kernel, by decide +kernel⟩
theorem m_check_queue (T : Facts K mg) : Mth P w K mg base (L2.CX P w) 4 (cN K) "check_queue" ["self", "station"] (sp_check_queue K) := by
  refine mthX T.m_queue T.cl_Network sc_Network_check_queue (fun _ _ _ _ _ _ us hl => match us, hl with | [_, _], _ => rfl) (fun vs H Q E h => by obtain ⟨a, i, sts, n, rfl, _⟩ := h; rfl) fun cdv A outer s H vs Q E hr h => ⟨_,
    (pss_one (ps_if (pt_cmpR op_eq (pe_fld (pe_ix ix_list (pe_fld (pv 0) rfl) (pv 1) (fun _ _ => rfl)) rfl) pe_int (nomark _))
        (pss_one (ps_err (T.e 5 rfl).1 (ini_NoResult T) hr rfl (takes_of rfl rfl rfl rfl)))
        pss_nil)), ?_⟩
  obtain ⟨a, i, sts, n, rfl, ⟨dx, l, p, ha, ⟨as, hl, hA⟩, hp⟩, hi, hb, hg⟩ := h
  obtain ⟨b, hb1, hb2, d, ⟨dx2, hs1⟩, hs2⟩ := rv_at hA hi
  refine ⟨_, rfl, a, _, dx, _, _, rfl, ha, T.cl_Network, T.n_stations, nfS, _, rfl, l, _, _, _, rfl, rfl, SqL.of hl, hb2, b, _, dx2, _, _, rfl, hs1, T.cl_Station, T.n_is_delay, rfl, rfl, ?_⟩
  cases h0 : (sta sts i).isDelay with
  | true => exact ⟨true, eqT (dB1 h0), iteT (hb h0)⟩
  | false => exact ⟨false, eqF (dB0 h0), iteF (hg (by rw [h0]; exact Bool.false_ne_true))⟩
/-- proper, or the error -/
def Prp (K : Kf) (sts : List Station) (n : List Nat) (H : Hp) (Q : VK) (E : XK) : Prop := (isProper ⟨sts, n⟩ = false → Er K "NoResult" (-33) H E) ∧ (isProper ⟨sts, n⟩ = true → ∀ H', Same H H' → Q .non H')
def sp_check_proper (K : Kf) : Sp := fun vs H Q E => ∃ (a : Addr) (sts : List Station) (n : List Nat), vs = [.ref a] ∧ NetR K H a sts n ∧ (∀ s ∈ sts, s.demands.length = n.length) ∧ Prp K sts n H Q E
theorem sc_Network_check_proper : FnScope ["self"] ["self"] (defScope (inClass (top 38) 6)) := ⟨rfl, rfl, rfl, by decide +kernel, rfl, by decide +kernel, by decide +kernel⟩
theorem m_check_proper (T : Facts K mg) : Mth P w K mg base (L2.CX P w) 5 (cN K) "check_proper" ["self"] (sp_check_proper K) := by
  refine mthX T.m_proper T.cl_Network sc_Network_check_proper (fun _ _ _ _ _ _ us hl => match us, hl with | [_], _ => rfl) (fun vs H Q E h => by obtain ⟨a, sts, n, rfl, _⟩ := h; rfl) fun cdv A outer s H vs Q E hr h => ⟨_,
    (pss_one (ps_expr (pe_dfn (d_require_proper T) hr (passes_call (takes_of rfl rfl rfl rfl) (fun _ _ _ _ z => z)) (pa_cons (pe_fld (pv 0) rfl) (pa_cons (pe_fld (pv 0) rfl) pa_nil))))), ?_⟩
  obtain ⟨a, sts, n, rfl, ⟨dx, l, p, ha, hl, hp⟩, hd, hb, hg⟩ := h
  exact ⟨_, rfl, a, _, dx, _, _, rfl, ha, T.cl_Network, T.n_stations, nfS, _, rfl, a, _, dx, _, _, rfl, ha, T.cl_Network, T.n_populations, nfP, l, p, sts, n, rfl, hl, hp, hd, hb, hg⟩
def sp_check_simple (K : Kf) : Sp := fun vs H Q E => ∃ (a : Addr) (sts : List Station) (n : List Nat), vs = [.ref a] ∧ NetR K H a sts n ∧ (∀ s ∈ sts, 0 < s.servers) ∧ Chk K "NoResult" (-33) ((sts.all fun s => s.isDelay || s.servers == 1) = false) H Q E
theorem sc_Network_check_simple : FnScope ["self"] ["self"] (defScope (inClass (top 38) 7)) := ⟨rfl, rfl, rfl, by decide +kernel, rfl, by decide +kernel, by decide +kernel⟩
theorem m_check_simple (T : Facts K mg) : Mth P w K mg base (L2.CX P w) 4 (cN K) "check_simple" ["self"] (sp_check_simple K) := by
  refine mthX T.m_simple T.cl_Network sc_Network_check_simple (fun _ _ _ _ _ _ us hl => match us, hl with | [_], _ => rfl) (fun vs H Q E h => by obtain ⟨a, sts, n, rfl, _⟩ := h; rfl) fun cdv A outer s H vs Q E hr h => ⟨_,
    (pss_one (ps_if (pt_not (pt_val (pe_dfn (d_is_simple T) (hr.mono (by decide)) pass0 (pa_cons (pe_fld (pv 0) rfl) pa_nil))))
        (pss_one (ps_err (T.e 5 rfl).1 (ini_NoResult T) hr rfl (takes_of rfl rfl rfl rfl)))
        pss_nil)), ?_⟩
  obtain ⟨a, sts, n, rfl, ⟨dx, l, p, ha, hl, hp⟩, hd, hb, hg⟩ := h
  refine ⟨_, rfl, a, _, dx, _, _, rfl, ha, T.cl_Network, T.n_stations, nfS, l, sts, rfl, hl, hd, _, rfl, ?_⟩
  cases e : sts.all fun s => s.isDelay || s.servers == 1 with
  | true => exact iteF (hg (by rw [e]; exact Bool.noConfusion))
  | false => exact iteT (hb e)
/-! ### with_demand -/
def wdS (s : Station) (r d : Nat) : Station := { s with demands := s.demands.set r d }
def sp_with_demand (K : Kf) : Sp := fun vs H Q _ => ∃ (l : Addr) (i r d : Nat) (sts : List Station), vs = [.ref l, .int i, .int r, .int d] ∧ LS K H l sts ∧ i < sts.length ∧ sts.length ≤ 1000 ∧ r < (sta sts i).demands.length ∧ (sta sts i).demands.length ≤ 1000 ∧
  ∀ t H', Same H H' → LS K H' t (sts.set i (wdS (sta sts i) r d)) → Q (.ref t) H'
theorem sc_with_demand : FnScope ["stations", "station", "customer_class", "demand", "present", "changed"] ["stations", "station", "customer_class", "demand"] (defScope (top 43)) := ⟨rfl, rfl, rfl, by decide +kernel, rfl, by decide +kernel, by decide +kernel⟩
theorem d_with_demand (T : Facts K mg) : Dfn P w K mg base CX0 3 "with_demand" ["stations", "station", "customer_class", "demand"] (sp_with_demand K) := by
  refine dfn0 (T.d 22 rfl) sc_with_demand (fun _ _ _ _ _ _ us hl => match us, hl with | [_, _, _, _], _ => rfl) (fun vs H Q E h => by obtain ⟨l, i, r, d, sts, rfl, _⟩ := h; rfl) fun cdv A outer s H vs Q E hr h => ⟨_,
    (pss_cons (ps_set (i := 4) sc_with_demand.nd rfl (Or.inl rfl) (pe_ix ix_list (pv 0) (pv 1) (fun _ _ => rfl)))
    (pss_cons (ps_set (i := 5) sc_with_demand.nd rfl (Or.inl rfl) (pe_mk T.mk_Station (ini_Station T) T.g_Station hr (pa_cons (pe_callB call_len_seq (by rfl) T.f_len PySem.boot_len (pa_cons (pe_fld (pv 4) rfl) pa_nil)) pa_nil)))
    (pss_cons (ps_fld (pv 5) (pe_fld (pv 4) rfl) rfl)
    (pss_cons (ps_fld (pv 5) (pe_fld (pv 4) rfl) rfl)
    (pss_cons (ps_fld (pv 5) (pe_callTy call_list_of (by rfl) T.f_list boot_list (pa_cons (pe_fld (pv 4) rfl) pa_nil)) rfl)
    (pss_cons (ps_asg (pv 3) (pg_sub (pe_fld (pv 5) rfl) (pv 2) set_list))
    (pss_one (ps_ret (pe_op op_cat (pe_op op_cat (pe_slice sl_list (pv 0) po_none (po_some (pv 1))) (pe_lst (pa_cons (pv 5) pa_nil))) (pe_slice sl_list (pv 0) (po_some (pe_op op_add (pv 1) pe_int)) po_none)))))))))), ?_⟩
  obtain ⟨l, i, r, d, sts, rfl, ⟨as, hl, hA⟩, hi, hn, hr2, hdl, q⟩ := h
  obtain ⟨b, hb1, hb2, dd, ⟨dx2, hs1⟩, hs2⟩ := rv_at hA hi
  have el : (rv as).length = sts.length := rv_len hA
  refine ⟨_, rfl, _, rfl, l, _, _, _, rfl, rfl, SqL.of hl, hb2, ?_⟩
  refine ⟨_, rfl, b, _, dx2, _, _, rfl, hs1, T.cl_Station, T.n_demands, rfl, dd, _, rfl, .inl (SqL.of hs2), fun x dx hx hdx ne => ?_⟩
  rw [nv_len]
  have s0 : Sb x H (upd (upd H dx (.own x)) x (.ins (cS K) dx [])) := ((Sb.refl x H).trans (same_new hdx)).put
  refine ⟨x, dx, _, rfl, upd_same, hdl, fun d1 H1 s1 hd1 hx1 hl1 => ⟨rfl, ?_⟩⟩
  have sx1 : Sb x H H1 := fun a u n e => s1 a u n (s0 a u n e)
  have sH1 : Same H H1 := sx1.same hx
  -- is_delay, servers
  refine ⟨_, rfl, b, _, dx2, _, _, rfl, sH1 _ _ hs1, T.cl_Station, T.n_is_delay, rfl, _, rfl, x, _, dx, _, rfl, hx1, T.cl_Station, T.n_is_delay, (show 3 < 1000 by decide), ?_⟩
  have sx2 := sx1.put (o := .ins (cS K) dx (putF "is_delay" (.int (dB (sta sts i))) (stF 0 1 d1)))
  refine ⟨_, rfl, b, _, dx2, _, _, rfl, sx2.same hx _ _ hs1, T.cl_Station, T.n_servers, rfl, _, rfl, x, _, dx, _, rfl, upd_same, T.cl_Station, T.n_servers, (show 3 < 1000 by decide), ?_⟩
  have sx3 := sx2.put (o := .ins (cS K) dx (putF "servers" (.int ((sta sts i).servers : Nat)) (putF "is_delay" (.int (dB (sta sts i))) (stF 0 1 d1))))
  refine ⟨_, rfl, b, _, dx2, _, _, rfl, sx3.same hx _ _ hs1, T.cl_Station, T.n_demands, rfl, dd, _, rfl, .inl (SqL.of (sx3.same hx _ _ hs2)), fun d2 hd2 => ?_⟩
  have nx2 : x ≠ d2 := ne_of_none upd_same hd2
  have sx4 := sx3.trans (same_new (o := .lst (nv (sta sts i).demands)) hd2)
  refine ⟨_, rfl, x, _, dx, putF "servers" (.int ((sta sts i).servers : Nat)) (putF "is_delay" (.int (dB (sta sts i))) (stF 0 1 d1)), rfl, by rw [upd_ne nx2]; exact upd_same, T.cl_Station, T.n_demands, (show 3 < 1000 by decide), ?_⟩
  have sx5 := sx4.put (o := .ins (cS K) dx (putF "demands" (.ref d2) (putF "servers" (.int ((sta sts i).servers : Nat)) (putF "is_delay" (.int (dB (sta sts i))) (stF 0 1 d1)))))
  refine ⟨_, rfl, _, rfl, x, _, dx, _, _, rfl, upd_same, T.cl_Station, T.n_demands, rfl, _, rfl, d2, nv (sta sts i).demands, (r : Int), r, rfl, rfl, by rw [upd_ne nx2.symm]; exact upd_same, by rw [nv_len]; exact ixN_nat hr2, ?_⟩
  have n2 : d2 ≠ x := nx2.symm
  -- the new station
  have f2 : H d2 = none := by
    have z := hd2
    rw [upd_ne n2] at z
    rw [upd_ne n2] at z
    exact sH1.free z
  have sxA := sx5.same hx
  have sB : Same H (upd (upd (upd (upd (upd H1 x (.ins (cS K) dx (putF "is_delay" (.int (dB (sta sts i))) (stF 0 1 d1)))) x (.ins (cS K) dx (putF "servers" (.int ((sta sts i).servers : Nat)) (putF "is_delay" (.int (dB (sta sts i))) (stF 0 1 d1))))) d2 (.lst (nv (sta sts i).demands))) x (.ins (cS K) dx (putF "demands" (.ref d2) (putF "servers" (.int ((sta sts i).servers : Nat)) (putF "is_delay" (.int (dB (sta sts i))) (stF 0 1 d1)))))) d2 (.lst ((nv (sta sts i).demands).set r (.int (d : Nat))))) := sPut sxA f2
  have hst : St1 K (upd (upd (upd (upd (upd H1 x (.ins (cS K) dx (putF "is_delay" (.int (dB (sta sts i))) (stF 0 1 d1)))) x (.ins (cS K) dx (putF "servers" (.int ((sta sts i).servers : Nat)) (putF "is_delay" (.int (dB (sta sts i))) (stF 0 1 d1))))) d2 (.lst (nv (sta sts i).demands))) x (.ins (cS K) dx (putF "demands" (.ref d2) (putF "servers" (.int ((sta sts i).servers : Nat)) (putF "is_delay" (.int (dB (sta sts i))) (stF 0 1 d1)))))) d2 (.lst ((nv (sta sts i).demands).set r (.int (d : Nat))))) x (wdS (sta sts i) r d) := by
    refine ⟨d2, ⟨dx, ?_⟩, ?_⟩
    · rw [upd_ne nx2, upd_same]
      rfl
    · rw [upd_same, nv_set]
      rfl
  refine ⟨_, rfl, _, rfl, _, rfl, l, _, rfl, SqL.of (sB _ _ hl), fun p1 h1 => ?_⟩
  have t1 := same_new (o := .lst (cutV (rv as) none (some (i : Int)))) h1
  refine ⟨_, rfl, (show 1 ≤ sizeLine by decide), fun p2 h2 => ?_⟩
  have t2 := sNew t1 (o := .lst [V.ref x]) h2
  refine ⟨p1, p2, cutV (rv as) none (some (i : Int)), [V.ref x], rfl, rfl, ?_, upd_same, ?_, fun p3 h3 => ?_⟩
  · rw [upd_ne (ne_of_none upd_same h2)]
    exact upd_same
  · have := cutV_length (rv as) none (some (i : Int))
    exact Nat.le_trans (show _ ≤ 2000 by simp; omega) (by decide)
  have t3 := sNew t2 (o := .lst (cutV (rv as) none (some (i : Int)) ++ [V.ref x])) h3
  refine ⟨_, rfl, _, rfl, _, _, rfl, rfl, _, rfl, l, _, rfl, SqL.of (t3 _ _ (sB _ _ hl)), fun p4 h4 => ?_⟩
  have t4 := sNew t3 (o := .lst (cutV (rv as) (some ((i : Int) + 1)) none)) h4
  refine ⟨p3, p4, cutV (rv as) none (some (i : Int)) ++ [V.ref x], cutV (rv as) (some ((i : Int) + 1)) none, rfl, rfl, ?_, upd_same, ?_, fun p5 h5 => ?_⟩
  · rw [upd_ne (ne_of_none upd_same h4)]
    exact upd_same
  · have := cutV_length (rv as) none (some (i : Int))
    have := cutV_length (rv as) (some ((i : Int) + 1)) none
    exact Nat.le_trans (show _ ≤ 3000 by simp; omega) (by decide)
  have t5 := sNew t4 (o := .lst (cutV (rv as) none (some (i : Int)) ++ [V.ref x] ++ cutV (rv as) (some ((i : Int) + 1)) none)) h5
  have ea : as.length = sts.length := hA.len
  refine q p5 _ (sB.trans t5) ⟨as.take i ++ [x] ++ as.drop (i + 1), ?_, ?_⟩
  · rw [upd_same, cut_to (by omega), show ((i : Int) + 1) = ((i + 1 : Nat) : Int) by omega, cut_from (by omega)]
    unfold rv
    rw [List.map_append, List.map_append, List.map_take, List.map_drop]
    rfl
  · have eS : sts.set i (wdS (sta sts i) r d) = sts.take i ++ [wdS (sta sts i) r d] ++ sts.drop (i + 1) := by
      rw [List.set_eq_take_append_cons_drop, if_pos hi, List.append_assoc]
      rfl
    rw [eS]
    refine AllR.append (AllR.append ?_ ⟨hst.mono t5, True.intro⟩) ?_
    · exact (hA.take i).mono fun a s z => St1.mono (sB.trans t5) z
    · exact (hA.drop (i + 1)).mono fun a s z => St1.mono (sB.trans t5) z
end
end Cq
end
section
set_option Elab.async false
set_option linter.all false
set_option maxRecDepth 100000
set_option maxHeartbeats 4000000
set_option exponentiation.threshold 100000
namespace Cq
open PySem PySem.Spec PyProof.Rows L2 CqR
open Lrx5 (Station Network below minus factorial count without demand)
open CQ (FitL FitS Fit vec leL sta Sm thr nrm stay qd mv Proper simple rs)
theorem TR.put {H : Hp} {D a : Addr} {q : Rat} {xs : List V} {o : HO} (hD : H D = some (.lst xs)) (h : TR H a q) : TR (upd H D o) a q := by
  show upd _ _ _ _ = _
  rw [upd_ne (ne_of h hD fun z => nomatch z)]
  exact h
theorem accR {H : Hp} {D t : Addr} {as : List Addr} {qs : List Rat} {q : Rat} (hD : H D = some (.lst (rv as))) (hA : AllR TR H as qs) (ht : TR H t q) :
    ∃ bs, upd H D (.lst (rv as ++ [V.ref t])) D = some (.lst (rv bs)) ∧ AllR TR (upd H D (.lst (rv as ++ [V.ref t]))) bs (qs ++ [q]) :=
  ⟨as ++ [t], by rw [upd_same, rv_snoc], AllR.snoc (ht.put hD) (hA.mono fun a q z => z.put hD)⟩
theorem rv_sz {H : Hp} {as : List Addr} {qs : List Rat} {n : Nat} (h : AllR TR H as qs) (k : qs.length ≤ n) (l : n ≤ 1000) : (rv as).length < sizeLine := by
  rw [rv_len h]
  exact sizeK (by omega)
theorem tabV_val {g : Addr → V} {m : List Nat} : ∀ {ks : List (List Nat)} {vs : List Addr}, m ∈ ks → vs.length = ks.length → ∃ (j : Nat) (a : Addr), ks[j]? = some m ∧ vs[j]? = some a ∧ valV (tabV g ks vs) (kk m) = some (g a)
  | [], _, h, _ => by cases h
  | k :: ks, [], _, h => by simp at h
  | k :: ks, v :: vs, h, l => by
    by_cases e : k = m
    · subst e
      exact ⟨0, v, rfl, rfl, valV_pos rfl⟩
    · obtain ⟨j, a, h1, h2, h3⟩ := tabV_val (g := g) (ks := ks) (vs := vs) ((List.mem_cons.mp h).resolve_left fun z => e z.symm) (by simpa using l)
      refine ⟨j + 1, a, by simpa using h1, by simpa using h2, ?_⟩
      show valV ((kk k, g v) :: tabV g ks vs) (kk m) = _
      rw [valV_neg fun z => e (kk_inj z)]
      exact h3
/-- the table of means -/
def MR (sts : List Station) (H : Hp) (l : Addr) (n : List Nat) : Prop := LR H l (sts.map fun s => qd sts s n)
def DM (H : Hp) (d : Addr) (ks : List (List Nat)) (sts : List Station) : Prop := ∃ ls, H d = some (.dT (dS ks ls)) ∧ AllR (MR sts) H ls ks
theorem DM.mono {H H' : Hp} (s : Same H H') {d : Addr} {ks : List (List Nat)} {sts : List Station} (h : DM H d ks sts) : DM H' d ks sts := by
  obtain ⟨ls, h1, h2⟩ := h
  exact ⟨ls, s _ _ h1, AllR.mono (fun a n z => show MR sts H' a n from LR.mono s z) h2⟩
theorem DM.get {H : Hp} {d b : Addr} {ks : List (List Nat)} {sts : List Station} {m : List Nat} (h : DM H d ks sts) (hm : m ∈ ks) (hb : TN H b m) : ∃ l, DGet H d (.ref b) (some (.ref l)) ∧ MR sts H l m := by
  obtain ⟨ls, h1, h2⟩ := h
  obtain ⟨j, a, e1, e2, e3⟩ := tabV_val (g := V.ref) hm h2.len
  obtain ⟨n, hn, hr⟩ := h2.get e2
  obtain rfl : n = m := by rw [e1] at hn; exact (Option.some.inj hn).symm
  refine ⟨a, ?_, hr⟩
  rw [← e3]
  exact .t h1 hb.key
section
variable {P : Program} {w : World} {K : Kf} {mg : Str → Option Value} {base : Heap}
def stQ (s : Station) (r : Nat) (q : Rat) : Rat := if s.isDelay then (demand s r : Rat) else (1 + q) * (demand s r : Rat)
theorem one_sm : Sm 1 (1 : Rat) := CQ.Sm_nat (n := 1) (by decide) (by decide)
theorem tr_nat {H : Hp} {t : Addr} {n : Nat} (h : H t = some (.tup [.int (n : Nat), .int 1])) : TR H t (n : Rat) := h
def sp_stay_at (K : Kf) : Sp := fun vs H Q _ => ∃ (a m : Addr) (s : Station) (r x C : Nat) (q : Rat), vs = [.ref a, .int r, .ref m] ∧ St1 K H a s ∧ FitS C s ∧ r < s.demands.length ∧ TR H m q ∧ Sm x q ∧ x ≤ 7000 ∧ ∀ t H', Same H H' → TR H' t (stQ s r q) → Q (.ref t) H'
theorem sc_stay_at : FnScope ["station", "customer_class", "mean", "demand"] ["station", "customer_class", "mean"] (defScope (top 88)) := ⟨rfl, rfl, rfl, by decide +kernel, rfl, by decide +kernel, by decide +kernel⟩
theorem d_stay_at (T : Facts K mg) : Dfn P w K mg base CX0 4 "stay_at" ["station", "customer_class", "mean"] (sp_stay_at K) := by
  refine dfn0 (T.d 62 rfl) sc_stay_at (fun _ _ _ _ _ _ us hl => match us, hl with | [_, _, _], _ => rfl) (fun vs H Q E h => by obtain ⟨a, m, s, r, x, C, q, rfl, _⟩ := h; rfl) fun cdv A outer s H vs Q E hr h => ⟨_,
    (pss_cons (ps_set (i := 3) sc_stay_at.nd rfl (Or.inl rfl) (pe_ix ix_list (pe_fld (pv 0) rfl) (pv 1) (fun _ _ => rfl)))
    (pss_cons (ps_if (pt_cmpR op_eq (pe_fld (pv 0) rfl) pe_int (nomark _))
        (pss_one (ps_ret (pe_tup (pa_cons (pv 3) (pa_cons pe_int pa_nil)))))
        pss_nil)
    (pss_one (ps_ret (pe_dfn (d_times T) hr pass0 (pa_cons (pe_dfn (d_plus T) hr pass0 (pa_cons (pe_tup (pa_cons pe_int (pa_cons pe_int pa_nil))) (pa_cons (pv 2) pa_nil))) (pa_cons (pv 3) pa_nil))))))), ?_⟩
  obtain ⟨a, m, s, r, x, C, q, rfl, ⟨d, ⟨dx, ha⟩, hd⟩, hf, hr2, hm, hx, hx2, z⟩ := h
  refine ⟨_, rfl, a, _, dx, _, _, rfl, ha, T.cl_Station, T.n_demands, rfl, _, rfl, d, _, _, _, rfl, rfl, SqL.of hd, nv_atd hr2, ?_⟩
  refine ⟨_, rfl, a, _, dx, _, _, rfl, ha, T.cl_Station, T.n_is_delay, rfl, rfl, ?_⟩
  have hdl := CQ.demand_lt hf r
  cases hb : s.isDelay with
  | true =>
    have e : stQ s r q = (demand s r : Rat) := by unfold stQ; rw [hb]; rfl
    refine ⟨true, eqT (dB1 hb), iteT ⟨_, rfl, (show 2 ≤ sizeLine by decide), fun t ht => z t _ (same_new ht) ?_⟩⟩
    rw [e]
    exact tr_nat upd_same
  | false =>
    have e : stQ s r q = (1 + q) * (demand s r : Rat) := by unfold stQ; rw [hb]; rfl
    refine ⟨false, eqF (dB0 hb), iteF ⟨by decide, fun p1 h1 => ?_⟩⟩
    have s1 : Same H (upd H p1 (.tup [.int 1, .int 1])) := same_new h1
    refine ⟨_, rfl, p1, m, 1, q, 1, x, rfl, upd_same, TR.mono s1 hm, one_sm, hx, by omega, True.intro, fun p2 H2 s2 hp2 => ?_⟩
    refine ⟨_, rfl, p2, _, demand s r, 1 + x + 1, rfl, hp2, CQ.Sm_add one_sm hx, by omega, hdl, fun t H3 s3 ht => z t _ ((s1.trans s2).trans s3) ?_⟩
    rw [e]
    exact ht
def sp_rate_of : Sp := fun vs H Q _ => ∃ (l : Addr) (c x y : Nat) (qs : List Rat), vs = [.int c, .ref l] ∧ c < 2 ^ 10 ∧ LR H l qs ∧ (∀ i, Sm x (rs (qs.take i))) ∧ (∀ q ∈ qs, Sm y q) ∧ x + y ≤ 8900 ∧ 0 < rs qs ∧ ∀ t H', Same H H' → TR H' t ((c : Rat) / rs qs) → Q (.ref t) H'
theorem sc_rate_of : FnScope ["customers", "stays"] ["customers", "stays"] (defScope (top 89)) := ⟨rfl, rfl, rfl, by decide +kernel, rfl, by decide +kernel, by decide +kernel⟩
theorem d_rate_of (T : Facts K mg) : Dfn P w K mg base CX0 5 "rate_of" ["customers", "stays"] (sp_rate_of) := by
  refine dfn0 (T.d 63 rfl) sc_rate_of (fun _ _ _ _ _ _ us hl => match us, hl with | [_, _], _ => rfl) (fun vs H Q E h => by obtain ⟨l, c, x, y, qs, rfl, _⟩ := h; rfl) fun cdv A outer s H vs Q E hr h => ⟨_,
    (pss_one (ps_ret (pe_dfn (d_divided T) (hr.mono (by decide)) pass0 (pa_cons (pe_tup (pa_cons (pv 0) (pa_cons pe_int pa_nil))) (pa_cons (pe_dfn (d_total T) hr pass0 (pa_cons (pv 1) pa_nil)) pa_nil))))), ?_⟩
  obtain ⟨l, c, x, y, qs, rfl, hc, hl, hx, hy, hxy, hpos, z⟩ := h
  refine ⟨_, rfl, (show 2 ≤ sizeLine by decide), fun p1 h1 => ?_⟩
  have s1 : Same H (upd H p1 (.tup [.int (c : Nat), .int 1])) := same_new h1
  refine ⟨_, rfl, l, qs, x, y, rfl, LR.mono s1 hl, hx, hy, by omega, fun p2 H2 s2 hp2 => ?_⟩
  have hxx := hx qs.length
  rw [List.take_length] at hxx
  exact ⟨p1, p2, _, _, 10, x, rfl, tr_nat (s2 _ _ upd_same), hp2, CQ.Sm_nat hc (by decide), hxx, by omega, hpos, fun t H3 s3 ht => z t _ ((s1.trans s2).trans s3) ht⟩
structure Mv (sts : List Station) (n : List Nat) : Prop where
  fit : Fit sts n
  sim : ∀ s ∈ sts, simple s
  pro : Proper sts n
theorem Mv.sub {sts : List Station} {m n : List Nat} (h : Mv sts n) (l : leL m n) : Mv sts m := ⟨h.fit.sub l, h.sim, h.pro.le l⟩
theorem Mv.pos {sts : List Station} {n : List Nat} (h : Mv sts n) : 0 < nrm sts n := CQ.nrm_pos' h.fit.good h.pro
def sp_stays_at (K : Kf) : Sp := fun vs H Q _ => ∃ (l p d : Addr) (r : Nat) (sts : List Station) (n : List Nat) (ks : List (List Nat)), vs = [.ref l, .ref p, .int r, .ref d] ∧ LS K H l sts ∧ TN H p n ∧ Mv sts n ∧ r < n.length ∧ count n r ≠ 0 ∧ DM H d ks sts ∧ without n r ∈ ks ∧
  ∀ t H', Same H H' → LR H' t (sts.map (stay sts r (without n r))) → Q (.ref t) H'
theorem sc_stays_at : FnScope ["stations", "numbers", "customer_class", "table", "met", "station", "mean"] ["stations", "numbers", "customer_class", "table"] (defScope (top 87)) := ⟨rfl, rfl, rfl, by decide +kernel, rfl, by decide +kernel, by decide +kernel⟩
theorem d_stays_at (T : Facts K mg) : Dfn P w K mg base CX0 5 "stays_at" ["stations", "numbers", "customer_class", "table"] (sp_stays_at K) := by
  refine dfn0 (T.d 61 rfl) sc_stays_at (fun _ _ _ _ _ _ us hl => match us, hl with | [_, _, _, _], _ => rfl) (fun vs H Q E h => by obtain ⟨l, p, d, r, sts, n, ks, rfl, _⟩ := h; rfl) fun cdv A outer s H vs Q E hr h => ⟨_,
    (pss_cons (ps_set (i := 4) sc_stays_at.nd rfl (Or.inl rfl) (pe_dget (hu_of hr) (pv 3) (pe_dfn (d_one_less T) (hr.mono (by decide)) pass0 (pa_cons (pv 1) (pa_cons (pv 2) pa_nil))) (fun _ _ => rfl)))
    (pss_one (ps_ret (by exact (pe_lc rfl sc_stays_at.nd (pi_zip (by rfl) T.f_zip (pa_cons (pv 0) (pa_cons (pv 4) pa_nil))) (blkOk_by (own := [("station", 5), ("mean", 6)]) (N := ["stations", "numbers", "customer_class", "table", "met", "station", "mean"]) (sc := defScope (top 87)) (by decide +kernel)) (fun _ _ _ _ _ => by exact (pg_tupB (n := 2) rfl (pgs_cons (pg_name (i := 5) sc_stays_at.nd rfl (Or.inl rfl) (Or.inr rfl)) (pgs_cons (pg_name (i := 6) sc_stays_at.nd rfl (Or.inl rfl) (Or.inr rfl)) pgs_nil)) rfl rfl)) (fun _ _ _ _ _ => by exact pts_nil) (fun _ _ _ _ _ => by exact (pe_dfn (d_stay_at T) hr pass0 (pa_cons (pv 5) (pa_cons (pv 2) (pa_cons (pv 6) pa_nil)))))))))), ?_⟩
  obtain ⟨l, p, d, r, sts, n, ks, rfl, ⟨as, hl, hA⟩, hp, hv, hr2, hc, hd, hw, q⟩ := h
  have hv2 := hv.sub (CQ.leL_without n r)
  refine ⟨_, rfl, _, rfl, _, rfl, p, n, r, rfl, hp, hr2, hc, fun p2 H2 s2 hp2 => ?_⟩
  obtain ⟨met, g1, bs, g2, g3⟩ := (DM.mono s2 hd).get hw hp2
  refine ⟨d, _, rfl, g1, ?_⟩
  have ea : (rv as).length = sts.length := rv_len hA
  have eb : (rv bs).length = sts.length := by rw [rv_len g3, List.length_map]
  refine ⟨_, rfl, _, rfl, l, met, rv as, rv bs, rfl, SqL.of (s2 _ _ hl), SqL.of g2, fun D hD => ?_⟩
  refine lc_it (walk_zip (n := sts.length) (by rw [ea, eb, Nat.min_self])) (fun i H3 => Same H2 H3 ∧ ∃ cs, H3 D = some (.lst (rv cs)) ∧ AllR TR H3 cs ((sts.map (stay sts r (without n r))).take i)) ⟨same_new hD, [], upd_same, True.intro⟩ (fun i H3 _ h => ⟨SqL.of (h.1 _ _ (s2 _ _ hl)), SqL.of (h.1 _ _ g2)⟩) ?_ ?_
  · rintro i x H3 H4 hi ⟨s3, cs, hD3, hC⟩ ⟨t, x1, x2, rfl, ht, rfl, h1, h2⟩
    obtain ⟨a, s, rfl, ha, hs, hst⟩ := LS.get hA h1
    obtain ⟨b, hb, rfl⟩ := rv_get h2
    obtain ⟨qb, hq, hqb⟩ := g3.get hb
    have ms := List.mem_of_getElem? hs
    obtain rfl : qb = qd sts s (without n r) := by rw [List.getElem?_map, hs] at hq; exact (Option.some.inj hq).symm
    have s4 : Same H2 (upd H3 t (.tup [.ref a, .ref b])) := sNew s3 ht
    refine ⟨t, _, rfl, SqT.of upd_same, rfl, _, _, rfl, _, _, rfl, rfl, rfl, ?_⟩
    refine yes ?_
    refine ⟨_, rfl, _, rfl, _, rfl, a, b, s, r, 1400, _, _, rfl, St1.mono (s2.trans s4) hst, hv.fit.st s ms, by rw [(hv.fit.st s ms).dl]; exact hr2, TR.mono s4 hqb, CQ.qd_sm hv2.fit ms hv2.pos, by decide, fun t2 H5 s5 ht2 => ?_⟩
    have hD5 := s5 _ _ (show upd H3 t _ D = _ by rw [upd_ne (ne_of_none hD3 ht)]; exact hD3)
    have s35 : Same H3 H5 := (same_new ht).trans s5
    have hC5 := hC.mono (fun a q z => TR.mono s35 z)
    refine ⟨rv cs, hD5, rv_sz hC5 (n := 5) (by have z := List.length_take_le' i (sts.map (stay sts r (without n r))); rw [List.length_map] at z; have := hv.fit.n5; omega) (by decide), sPut (s4.trans s5) hD, ?_⟩
    rw [map_get hs]
    have e : stQ s r (qd sts s (without n r)) = stay sts r (without n r) s := CQ.stay_eq hv2.fit.good ms (hv.sim s ms) rfl hv2.pro r
    rw [e] at ht2
    exact accR hD5 hC5 ht2
  · rintro H3 ⟨s3, cs, hD3, hC⟩
    rw [List.take_of_length_le (by rw [List.length_map]; exact Nat.le_refl _)] at hC
    exact q D _ (s2.trans s3) ⟨cs, hD3, hC⟩
end
end Cq
end
section
set_option Elab.async false
set_option linter.all false
set_option maxRecDepth 100000
set_option maxHeartbeats 4000000
set_option exponentiation.threshold 100000
namespace Cq
open PySem PySem.Spec PyProof.Rows L2 CqR
open Lrx5 (Station Network below minus factorial count without demand)
open CQ (FitL FitS Fit vec leL sta Sm thr nrm stay qd mv Proper simple rs)
theorem take_sm {x n : Nat} {qs : List Rat} (h : ∀ q ∈ qs, Sm x q) (l : qs.length ≤ n) (i : Nat) : Sm ((x + 1) * n + 1) (rs (qs.take i)) := by
  have z := CQ.rs_sm (qs.take i) fun q hq => h q (List.mem_of_mem_take hq)
  refine z.mono ?_
  have h1 := List.length_take_le' i qs
  have : (x + 1) * (qs.take i).length ≤ (x + 1) * n := Nat.mul_le_mul_left _ (by omega)
  omega
section
variable {P : Program} {w : World} {K : Kf} {mg : Str → Option Value} {base : Heap}
def utL (s : Station) (qs : List Rat) : List Rat := List.zipWith (fun q (d : Nat) => q * (d : Rat)) qs s.demands
def utQ (s : Station) (qs : List Rat) : Rat := rs (utL s qs) / (s.servers : Rat)
def sp_utilization_of (K : Kf) : Sp := fun vs H Q _ => ∃ (a l : Addr) (s : Station) (C : Nat) (qs : List Rat), vs = [.ref a, .ref l] ∧ St1 K H a s ∧ FitS C s ∧ C ≤ 3 ∧ LR H l qs ∧ qs.length = C ∧ (∀ q ∈ qs, Sm 1106 q) ∧ ∀ t H', Same H H' → TR H' t (utQ s qs) → Q (.ref t) H'
theorem sc_utilization_of : FnScope ["queue", "rates", "used", "rate", "demand"] ["queue", "rates"] (defScope (top 99)) := ⟨rfl, rfl, rfl, by decide +kernel, rfl, by decide +kernel, by decide +kernel⟩
theorem d_utilization_of (T : Facts K mg) : Dfn P w K mg base CX0 5 "utilization_of" ["queue", "rates"] (sp_utilization_of K) := by
  refine dfn0 (T.d 72 rfl) sc_utilization_of (fun _ _ _ _ _ _ us hl => match us, hl with | [_, _], _ => rfl) (fun vs H Q E h => by obtain ⟨a, l, s, C, qs, rfl, _⟩ := h; rfl) fun cdv A outer s H vs Q E hr h => ⟨_,
    (pss_cons (ps_set (i := 2) sc_utilization_of.nd rfl (Or.inl rfl) (pe_dfn (d_total T) hr pass0 (pa_cons (by exact (pe_lc rfl sc_utilization_of.nd (pi_zip (by rfl) T.f_zip (pa_cons (pv 1) (pa_cons (pe_fld (pv 0) rfl) pa_nil))) (blkOk_by (own := [("rate", 3), ("demand", 4)]) (N := ["queue", "rates", "used", "rate", "demand"]) (sc := defScope (top 99)) (by decide +kernel)) (fun _ _ _ _ _ => by exact (pg_tupB (n := 2) rfl (pgs_cons (pg_name (i := 3) sc_utilization_of.nd rfl (Or.inl rfl) (Or.inr rfl)) (pgs_cons (pg_name (i := 4) sc_utilization_of.nd rfl (Or.inl rfl) (Or.inr rfl)) pgs_nil)) rfl rfl)) (fun _ _ _ _ _ => by exact pts_nil) (fun _ _ _ _ _ => by exact (pe_dfn (d_times T) (hr.mono (by decide)) pass0 (pa_cons (pv 3) (pa_cons (pv 4) pa_nil)))))) pa_nil)))
    (pss_one (ps_ret (pe_dfn (d_divided T) (hr.mono (by decide)) pass0 (pa_cons (pv 2) (pa_cons (pe_tup (pa_cons (pe_fld (pv 0) rfl) (pa_cons pe_int pa_nil))) pa_nil)))))), ?_⟩
  obtain ⟨a, l, s, C, qs, rfl, ⟨d, ⟨dx, ha⟩, hd⟩, hf, hC, ⟨as, hl, hA⟩, hlen, hsm, z⟩ := h
  have ea : (rv as).length = C := by rw [rv_len hA, hlen]
  have eb : (nv s.demands).length = C := by rw [nv_len, hf.dl]
  have eu : (utL s qs).length = C := by unfold utL; rw [List.length_zipWith, hlen, hf.dl, Nat.min_self]
  refine ⟨_, rfl, _, rfl, a, _, dx, _, _, rfl, ha, T.cl_Station, T.n_demands, rfl, l, d, rv as, nv s.demands, rfl, SqL.of hl, SqL.of hd, fun D hD => ?_⟩
  refine lc_it (walk_zip (n := C) (by rw [ea, eb, Nat.min_self])) (fun i H3 => Same H H3 ∧ ∃ cs, H3 D = some (.lst (rv cs)) ∧ AllR TR H3 cs ((utL s qs).take i)) ⟨same_new hD, [], upd_same, True.intro⟩ (fun i H3 _ h => ⟨SqL.of (h.1 _ _ hl), SqL.of (h.1 _ _ hd)⟩) ?_ ?_
  · rintro i x H3 H4 hi ⟨s3, cs, hD3, hC3⟩ ⟨t, x1, x2, rfl, ht, rfl, h1, h2⟩
    obtain ⟨b, hb, rfl⟩ := rv_get h1
    obtain ⟨q, hq, hbq⟩ := hA.get hb
    obtain ⟨k, hk, rfl⟩ := nvE h2
    have s4 : Same H (upd H3 t (.tup [.ref b, .int k])) := sNew s3 ht
    have hk10 := hf.dm k (List.mem_of_getElem? hk)
    refine ⟨t, _, rfl, SqT.of upd_same, rfl, _, _, rfl, _, _, rfl, rfl, rfl, ?_⟩
    refine yes ?_
    refine ⟨_, rfl, _, rfl, b, q, k, 1106, rfl, TR.mono s4 hbq, hsm q (List.mem_of_getElem? hq), by decide, by omega, fun t2 H5 s5 ht2 => ?_⟩
    have hD5 := s5 _ _ (show upd H3 t _ D = _ by rw [upd_ne (ne_of_none hD3 ht)]; exact hD3)
    have s35 : Same H3 H5 := (same_new ht).trans s5
    have hC5 := hC3.mono (fun a q z => TR.mono s35 z)
    refine ⟨rv cs, hD5, rv_sz hC5 (n := 5) (by have z := List.length_take_le' i (utL s qs); omega) (by decide), sPut (s4.trans s5) hD, ?_⟩
    have e : (utL s qs)[i]? = some (q * (k : Rat)) := by unfold utL; rw [List.getElem?_zipWith, hq, hk]
    rw [take_one e]
    exact accR hD5 hC5 ht2
  · rintro H3 ⟨s3, cs, hD3, hC3⟩
    rw [List.take_of_length_le (by omega)] at hC3
    have hu : ∀ q ∈ utL s qs, Sm 1116 q := fun q hq => by
      obtain ⟨i, hi⟩ := List.mem_iff_getElem?.mp hq
      unfold utL at hi
      rw [List.getElem?_zipWith] at hi
      cases e1 : qs[i]? with
      | none => rw [e1] at hi; cases hi
      | some p =>
        cases e2 : s.demands[i]? with
        | none => rw [e1, e2] at hi; cases hi
        | some k =>
          rw [e1, e2] at hi
          rw [← Option.some.inj hi]
          have := hf.dm k (List.mem_of_getElem? e2)
          exact CQ.Sm_mul (hsm p (List.mem_of_getElem? e1)) (CQ.Sm_nat (x := 10) (show k < 2 ^ 10 by omega) (by decide))
    have hx := take_sm (n := 3) hu (by omega)
    refine ⟨D, utL s qs, 3352, 1116, rfl, ⟨cs, hD3, hC3⟩, hx, hu, by decide, fun t4 H4 s4 ht4 => ?_⟩
    have s34 := s3.trans s4
    have hxx := hx C
    rw [← eu, List.take_length] at hxx
    refine ⟨_, rfl, _, rfl, a, _, dx, _, _, rfl, s34 _ _ ha, T.cl_Station, T.n_servers, rfl, (show 2 ≤ sizeLine by decide), fun t5 ht5 => ?_⟩
    have s45 := same_new (o := .tup [.int (s.servers : Nat), .int 1]) ht5
    refine ⟨t4, t5, _, _, 3352, 10, rfl, TR.mono s45 ht4, tr_nat upd_same, hxx, CQ.Sm_nat (by have := hf.s20; omega) (by decide), by decide, CQ.cast_pos hf.sv, fun t6 H6 s6 ht6 => z t6 _ ((s34.trans s45).trans s6) ht6⟩
def sp_means_from (K : Kf) : Sp := fun vs H Q _ => ∃ (l p d : Addr) (sts : List Station) (n : List Nat) (ks : List (List Nat)), vs = [.ref l, .ref p, .ref d] ∧ LS K H l sts ∧ TN H p n ∧ Mv sts n ∧ DM H d ks sts ∧ (∀ r, count n r ≠ 0 → without n r ∈ ks) ∧
  ∀ t H', Same H H' → MR sts H' t n → Q (.ref t) H'
theorem sc_means_from : FnScope ["stations", "numbers", "table", "means", "customer_class", "customers", "stays", "rate", "station", "mean", "stay"] ["stations", "numbers", "table"] (defScope (top 86)) := ⟨rfl, rfl, rfl, by decide +kernel, rfl, by decide +kernel, by decide +kernel⟩
theorem d_means_from (T : Facts K mg) : Dfn P w K mg base CX0 6 "means_from" ["stations", "numbers", "table"] (sp_means_from K) := by
  refine dfn0 (T.d 60 rfl) sc_means_from (fun _ _ _ _ _ _ us hl => match us, hl with | [_, _, _], _ => rfl) (fun vs H Q E h => by obtain ⟨l, p, d, sts, n, ks, rfl, _⟩ := h; rfl) fun cdv A outer s H vs Q E hr h => ⟨_,
    (pss_cons (ps_setLc (i := 3) rfl sc_means_from.nd rfl rfl (sw_true rfl rfl rfl (by decide +kernel)) (pi_list (pv 0)) (blkOk_by (own := [("station", 8)]) (N := ["stations", "numbers", "table", "means", "customer_class", "customers", "stays", "rate", "station", "mean", "stay"]) (sc := defScope (top 86)) (by decide +kernel)) (fun _ _ _ _ _ => by exact (pg_name (i := 8) sc_means_from.nd rfl (Or.inl rfl) (Or.inr rfl))) (fun _ _ _ _ _ => by exact pts_nil) (fun _ _ _ _ _ => by exact (pe_tup (pa_cons pe_int (pa_cons pe_int pa_nil)))))
    (pss_cons (ps_for PassesOwn.never rfl (pi_enumT (by rfl) T.f_enumerate (pa_cons (pv 1) pa_nil)) (pg_tup rfl (pgs_cons (pg_name (i := 4) sc_means_from.nd rfl (Or.inl rfl)) (pgs_cons (pg_name (i := 5) sc_means_from.nd rfl (Or.inl rfl)) pgs_nil)))
        (pss_one (ps_if (pt_cmpR op_gt (pv 5) pe_int (nomark _))
            (pss_cons (ps_set (i := 6) sc_means_from.nd rfl (Or.inl rfl) (pe_dfn (d_stays_at T) hr pass0 (pa_cons (pv 0) (pa_cons (pv 1) (pa_cons (pv 4) (pa_cons (pv 2) pa_nil))))))
            (pss_cons (ps_set (i := 7) sc_means_from.nd rfl (Or.inr rfl) (pe_dfn (d_rate_of T) hr pass0 (pa_cons (pv 5) (pa_cons (pv 6) pa_nil))))
            (pss_one (ps_setLc (i := 3) rfl sc_means_from.nd rfl rfl (sw_true rfl rfl rfl (by decide +kernel)) (pi_zip (by rfl) T.f_zip (pa_cons (pv 3) (pa_cons (pv 6) pa_nil))) (blkOk_by (own := [("mean", 9), ("stay", 10)]) (N := ["stations", "numbers", "table", "means", "customer_class", "customers", "stays", "rate", "station", "mean", "stay"]) (sc := defScope (top 86)) (by decide +kernel)) (fun _ _ _ _ _ => by exact (pg_tupB (n := 2) rfl (pgs_cons (pg_name (i := 9) sc_means_from.nd rfl (Or.inl rfl) (Or.inr rfl)) (pgs_cons (pg_name (i := 10) sc_means_from.nd rfl (Or.inl rfl) (Or.inr rfl)) pgs_nil)) rfl rfl)) (fun _ _ _ _ _ => by exact pts_nil) (fun _ _ _ _ _ => by exact (pe_dfn (d_plus T) (hr.mono (by decide)) pass0 (pa_cons (pv 9) (pa_cons (pe_dfn (d_multiplied T) (hr.mono (by decide)) pass0 (pa_cons (pv 7) (pa_cons (pv 10) pa_nil))) pa_nil))))))))
            pss_nil)))
    (pss_one (ps_ret (pv 3))))), ?_⟩
  obtain ⟨l, p, d, sts, n, ks, rfl, ⟨as, hl, hA⟩, hp, hv, hd, hw, q⟩ := h
  have n5 := hv.fit.n5
  have ea : (rv as).length = sts.length := rv_len hA
  refine ⟨_, rfl, l, rfl, ⟨_, SqL.of hl⟩, fun D hD => ?_⟩
  refine lc_it walk_list (fun i H3 => Same H H3 ∧ ∃ cs, H3 D = some (.lst (rv cs)) ∧ AllR TR H3 cs ((sts.map fun s => mv sts s n 0).take i)) ⟨same_new hD, [], upd_same, True.intro⟩ (fun i H3 _ h => SqL.of (h.1 _ _ hl)) ?_ ?_
  · rintro i x H3 H4 hi ⟨s3, cs, hD3, hC3⟩ ⟨rfl, hx⟩
    obtain ⟨a, s, rfl, ha, hs, hst⟩ := LS.get hA hx
    refine ⟨rfl, ?_⟩
    refine yes ⟨by decide, fun t ht => ?_⟩
    have s4 : Same H4 (upd H4 t (.tup [.int 0, .int 1])) := same_new ht
    have hD5 := s4 _ _ hD3
    have hC5 := hC3.mono (fun a q z => TR.mono s4 z)
    refine ⟨rv cs, hD5, rv_sz hC5 (n := 5) (by have z := List.length_take_le' i (sts.map fun s => mv sts s n 0); rw [List.length_map] at z; omega) (by decide), sPut (s3.trans s4) hD, ?_⟩
    rw [map_get hs]
    exact accR (q := mv sts s n 0) hD5 hC5 upd_same
  · rintro H3 ⟨s3, cs, hD3, hC3⟩
    rw [List.take_of_length_le (by rw [List.length_map]; omega)] at hC3
    refine ⟨_, rfl, p, _, rfl, (TN.mono s3 hp).sq, for_it walk_enumT (fun k σ H1 => Same H H1 ∧ ∃ m v4 v5 v6 v7, σ = [some (.ref l), some (.ref p), some (.ref d), some (.ref m), v4, v5, v6, v7, none, none, none] ∧ LR H1 m (sts.map fun s => mv sts s n k))
      ⟨s3, D, none, none, none, none, rfl, cs, hD3, hC3⟩ (fun i σ H1 _ h => (TN.mono h.1 hp).sq) ?_ ?_⟩
    · rintro k x σ H1 H2 hk ⟨s1, m, v4, v5, v6, v7, rfl, hm⟩ ⟨t, x1, x2, rfl, ht1, rfl, h1, h2⟩
      obtain ⟨hkn, rfl⟩ := nvE2 h2
      obtain rfl := Option.some.inj h1
      have s2' : Same H1 (upd H1 t (.tup [.int (k : Nat), .int (count n k : Int)])) := same_new ht1
      have s2 : Same H (upd H1 t (.tup [.int (k : Nat), .int (count n k : Int)])) := s1.trans s2'
      refine ⟨t, _, rfl, SqT.of upd_same, rfl, _, _, rfl, _, _, rfl, rfl, ?_⟩
      refine ⟨_, rfl, _, _, rfl, rfl, ?_⟩
      by_cases hc : count n k = 0
      · refine ⟨false, blF (by omega), iteF ⟨s2, m, some (.int (k : Nat)), some (.int (count n k : Int)), v6, v7, rfl, ?_⟩⟩
        have e : (sts.map fun s => mv sts s n (k + 1)) = sts.map fun s => mv sts s n k := List.map_congr_left fun s _ => CQ.mv_zero hc
        rw [e]
        exact LR.mono s2' hm
      · refine ⟨true, blT (by omega), iteT ?_⟩
        have hv2 := hv.sub (CQ.leL_without n k)
        refine ⟨_, rfl, _, rfl, _, rfl, _, rfl, l, p, d, k, sts, n, ks, rfl, LS.mono s2 ⟨as, hl, hA⟩, TN.mono s2 hp, hv, hkn, hc, DM.mono s2 hd, hw k hc, fun st H5 s5 hst => ?_⟩
        have hsS : ∀ q ∈ sts.map (stay sts k (without n k)), Sm 1412 q := fun q hq => by
          obtain ⟨s, ms, rfl⟩ := List.mem_map.mp hq
          exact CQ.stay_sm hv2.fit ms (hv.sim s ms) hv2.pro k
        obtain ⟨er, pr⟩ := CQ.rate_eq hv.fit.good hv.sim rfl hv.pro hkn hc
        have hk12 := count_lt hv.fit.fl k (CQ.leL_refl n)
        refine ⟨_, rfl, _, rfl, st, count n k, 7066, 1412, _, rfl, hk12, hst, take_sm (n := 5) hsS (by rw [List.length_map]; exact n5), hsS, by decide, pr, fun rt H6 s6 hrt => ?_⟩
        rw [er] at hrt
        obtain ⟨ms, hm1, hm2⟩ := hm
        have s56 := s5.trans s6
        have s26 := s2.trans s56
        have s16 := s2'.trans s56
        obtain ⟨ss, hs1, hs2⟩ := hst
        refine ⟨_, rfl, _, rfl, m, st, rv ms, rv ss, rfl, SqL.of (s16 _ _ hm1), SqL.of (s6 _ _ hs1), fun D2 hD2 => ?_⟩
        have e1 : (rv ms).length = sts.length := by rw [rv_len hm2, List.length_map]
        have e2 : (rv ss).length = sts.length := by rw [rv_len hs2, List.length_map]
        refine lc_it (walk_zip (n := sts.length) (by rw [e1, e2, Nat.min_self])) (fun i H7 => Same H6 H7 ∧ ∃ cs, H7 D2 = some (.lst (rv cs)) ∧ AllR TR H7 cs ((sts.map fun s => mv sts s n (k + 1)).take i)) ⟨same_new hD2, [], upd_same, True.intro⟩ (fun i H7 _ h => ⟨SqL.of (h.1 _ _ (s16 _ _ hm1)), SqL.of (h.1 _ _ (s6 _ _ hs1))⟩) ?_ ?_
        · rintro i x H7 H8 hi ⟨s7, cs, hD7, hC7⟩ ⟨t2, x1, x2, rfl, ht2, rfl, h1, h2⟩
          obtain ⟨a, ha, rfl⟩ := rv_get h1
          obtain ⟨q1, hq1, haq⟩ := hm2.get ha
          obtain ⟨b, hb, rfl⟩ := rv_get h2
          obtain ⟨q2, hq2, hbq⟩ := hs2.get hb
          rw [List.getElem?_map] at hq1 hq2
          obtain ⟨s, hs⟩ : ∃ s, sts[i]? = some s := getE hi
          rw [hs] at hq1 hq2
          obtain rfl := (Option.some.inj hq1).symm
          obtain rfl := (Option.some.inj hq2).symm
          have mss := List.mem_of_getElem? hs
          have s8' : Same H7 (upd H7 t2 (.tup [.ref a, .ref b])) := same_new ht2
          have s8 : Same H6 (upd H7 t2 (.tup [.ref a, .ref b])) := s7.trans s8'
          refine ⟨t2, _, rfl, SqT.of upd_same, rfl, _, _, rfl, _, _, rfl, rfl, rfl, ?_⟩
          refine yes ?_
          refine ⟨_, rfl, _, rfl, _, rfl, rt, b, _, _, 1106, 1412, rfl, TR.mono s8 hrt, TR.mono (s6.trans s8) hbq, CQ.thr_sm hv.fit (fun _ => hv.pos), CQ.stay_sm hv2.fit mss (hv.sim s mss) hv2.pro k, by decide, True.intro, fun t3 H9 s9 ht3 => ?_⟩
          have hkl := hv.fit.fl.len
          refine ⟨a, t3, _, _, 5039, 2518, rfl, TR.mono (s16.trans (s8.trans s9)) haq, ht3, CQ.mv_sm hv.fit mss (hv.sim s mss) hv.pro k (by omega), CQ.Sm_mul (CQ.thr_sm hv.fit (fun _ => hv.pos)) (CQ.stay_sm hv2.fit mss (hv.sim s mss) hv2.pro k), by decide, True.intro, fun t4 H10 s10 ht4 => ?_⟩
          have s79 : Same H7 H10 := s8'.trans (s9.trans s10)
          have hD10 := s79 _ _ hD7
          have hC10 := hC7.mono (fun a q z => TR.mono s79 z)
          refine ⟨rv cs, hD10, rv_sz hC10 (n := 5) (by have z := List.length_take_le' i (sts.map fun s => mv sts s n (k + 1)); rw [List.length_map] at z; omega) (by decide), sPut (s7.trans s79) hD2, ?_⟩
          rw [map_get hs]
          have ht5 : TR H10 t4 (mv sts s n k + thr sts n k * stay sts k (without n k) s) := ht4
          rw [← CQ.mv_succ] at ht5
          exact accR hD10 hC10 ht5
        · rintro H7 ⟨s7, cs, hD7, hC7⟩
          rw [List.take_of_length_le (by rw [List.length_map]; exact Nat.le_refl _)] at hC7
          exact ⟨s26.trans s7, D2, some (.int (k : Nat)), some (.int (count n k : Int)), some (.ref st), some (.ref rt), rfl, cs, hD7, hC7⟩
    · rintro σ H1 ⟨s1, m, v4, v5, v6, v7, rfl, hm⟩
      refine ⟨_, rfl, q m _ s1 ?_⟩
      rw [nv_len] at hm
      have e : (sts.map fun s => mv sts s n n.length) = sts.map fun s => qd sts s n := List.map_congr_left fun s _ => CQ.mv_all hv.fit.good hv.pro
      rw [e] at hm
      exact hm
end
end Cq
end
section
set_option Elab.async false
set_option linter.all false
set_option maxRecDepth 100000
set_option maxHeartbeats 4000000
set_option exponentiation.threshold 100000
namespace Cq
open PySem PySem.Spec PyProof.Rows L2 CqR
open Lrx5 (Station Network below minus factorial count without demand error fractionResult fractionsResult isProper)
open CQ (FitL FitS Fit vec leL sta Sm thr nrm stay qd mv Proper simple rs tot Res Bad mean pr fr)
/-- the answer that is due, or the error -/
def Ans (K : Kf) (r : Lrx5.Result) (H : Hp) (Q : VK) (E : XK) : Prop := (∀ (j : Nat) (x : Str) (c : Int) (i : Nat), errs[j]? = some (x, c, i) → r = error c → Er K x c H E) ∧ (0 ≤ r.num → ∀ t H', Same H H' → H t = none → AL H' t (r.num :: r.nums) → Q (.ref t) H')
theorem Ans.er {K : Kf} {r : Lrx5.Result} {H : Hp} {Q : VK} {E : XK} (h : Ans K r H Q E) (j : Nat) {x : Str} {c : Int} {i : Nat} (hj : errs[j]? = some (x, c, i)) (e : r = error c) : Er K x c H E := h.1 j x c i hj e
theorem Ans.frac {K : Kf} {r : Lrx5.Result} {H : Hp} {Q : VK} {E : XK} (h : Ans K r H Q E) {q : Rat} (e : r = fractionResult (fr q)) : ∀ t H', Same H H' → H t = none → AL H' t [0, q.num, (q.den : Int)] → Q (.ref t) H' := by
  subst e
  exact h.2 (Int.le_refl 0)
theorem Ans.int {K : Kf} {r : Lrx5.Result} {H : Hp} {Q : VK} {E : XK} (h : Ans K r H Q E) {k : Nat} (e : r = Lrx5.number (k : Int)) : ∀ t H', Same H H' → H t = none → AL H' t [(k : Int)] → Q (.ref t) H' := by
  subst e
  exact h.2 (Int.natCast_nonneg k)
theorem Ans.fracs {K : Kf} {r : Lrx5.Result} {H : Hp} {Q : VK} {E : XK} (h : Ans K r H Q E) {qs : List Rat} (e : r = fractionsResult (qs.map fr)) : ∀ t H', Same H H' → H t = none → AL H' t ((qs.length : Int) :: fls qs) → Q (.ref t) H' := by
  subst e
  have z := h.2 (show 0 ≤ (((qs.map fr).length : Nat) : Int) from Int.natCast_nonneg _)
  intro t H' s f a
  refine z t H' s f ?_
  have e1 : ((qs.map fr).length : Int) = (qs.length : Int) := by rw [List.length_map]
  have e2 : (qs.map fr).flatMap Lrx5.ints = fls qs := by
    unfold fls
    rw [List.flatMap_map]
    rfl
  show AL H' t (((qs.map fr).length : Int) :: (qs.map fr).flatMap Lrx5.ints)
  rw [e1, e2]
  exact a
/-- a read-only call -/
structure Net (K : Kf) (H : Hp) (a : Addr) (sts : List Station) (n : List Nat) : Prop where
  net : NetR K H a sts n
  fit : Fit sts n
  cl : 0 < n.length
theorem Net.mono {K : Kf} {H H' : Hp} (s : Same H H') {a : Addr} {sts : List Station} {n : List Nat} (h : Net K H a sts n) : Net K H' a sts n := ⟨h.net.mono s, h.fit, h.cl⟩
theorem Net.dl {K : Kf} {H : Hp} {a : Addr} {sts : List Station} {n : List Nat} (h : Net K H a sts n) : ∀ s ∈ sts, s.demands.length = n.length := fun s hs => (h.fit.st s hs).dl
theorem Net.pos {K : Kf} {H : Hp} {a : Addr} {sts : List Station} {n : List Nat} (h : Net K H a sts n) (p : isProper ⟨sts, n⟩ = true) : 0 < nrm sts n := CQ.nrm_pos' h.fit.good (CQ.proper_iff.mp p)
theorem count_zero {sts : List Station} {n : List Nat} {r : Nat} (h : count n r = 0) : thr sts n r = 0 := by unfold thr; rw [if_pos h]
theorem thr_pos {sts : List Station} {n : List Nat} {r : Nat} (g : Fit sts n) (hp : Proper sts n) (h : count n r ≠ 0) : 0 < thr sts n r := by
  unfold thr
  rw [if_neg h]
  exact CQ.div_pos (CQ.nrm_pos' g.good (hp.le (CQ.leL_without n r))) (CQ.nrm_pos' g.good hp)
section
variable {P : Program} {w : World} {K : Kf} {mg : Str → Option Value} {base : Heap}
def sp_means_table (K : Kf) : Sp := fun vs H Q _ => ∃ (l p : Addr) (sts : List Station) (lim : List Nat), vs = [.ref l, .ref p] ∧ LS K H l sts ∧ TN H p lim ∧ Mv sts lim ∧ ∀ t H', Same H H' → DM H' t (below lim) sts → Q (.ref t) H'
theorem sc_means_table : FnScope ["stations", "populations", "table", "numbers"] ["stations", "populations"] (defScope (top 85)) := ⟨rfl, rfl, rfl, by decide +kernel, rfl, by decide +kernel, by decide +kernel⟩
theorem d_means_table (T : Facts K mg) : Dfn P w K mg base CX0 7 "means_table" ["stations", "populations"] (sp_means_table K) := by
  refine dfn0 (T.d 59 rfl) sc_means_table (fun _ _ _ _ _ _ us hl => match us, hl with | [_, _], _ => rfl) (fun vs H Q E h => by obtain ⟨l, p, sts, lim, rfl, _⟩ := h; rfl) fun cdv A outer s H vs Q E hr h => ⟨_,
    (pss_cons (ps_set (i := 2) sc_means_table.nd rfl (Or.inl rfl) pe_dnewT)
    (pss_cons (ps_for PassesOwn.never rfl (pi_list (pe_dfn (d_numbers_within T) (hr.mono (by decide)) pass0 (pa_cons (pv 1) pa_nil))) (pg_name (i := 3) sc_means_table.nd rfl (Or.inl rfl))
        (pss_one (ps_dput (hu_of hr) (pv 2) (pv 3) (pe_dfn (d_means_from T) hr pass0 (pa_cons (pv 0) (pa_cons (pv 3) (pa_cons (pv 2) pa_nil)))) rfl)))
    (pss_one (ps_ret (pv 2))))), ?_⟩
  obtain ⟨l, p, sts, lim, rfl, hl, hp, hv, q⟩ := h
  have hf := hv.fit.fl
  intro d h0
  have s0 : Same H (upd H d (.dT [])) := same_new h0
  refine ⟨_, rfl, p, lim, rfl, TN.mono s0 hp, Nat.le_trans hf.vec (by decide), Nat.le_trans hf.len (by decide), fun l2 H2 s2 ⟨as, hl2, hT⟩ => ?_⟩
  have d2 : H2 d = some (.dT []) := s2 _ _ upd_same
  have ld : l2 ≠ d := fun z => by rw [z, d2] at hl2; cases hl2
  have s02 : Same H H2 := s0.trans s2
  refine ⟨l2, rfl, ⟨_, SqL.of hl2⟩, for_it walk_list (fun i σ H1 => Sb d H2 H1 ∧ DM H1 d ((below lim).take i) sts ∧ ∃ v, σ = [some (.ref l), some (.ref p), some (.ref d), v])
    ⟨Sb.refl d H2, ⟨[], d2, True.intro⟩, none, rfl⟩ (fun i σ H1 _ h => SqL.of (h.1 _ _ ld hl2)) ?_ ?_⟩
  · rintro i x σ H1 H3 hi ⟨s1, hdm, v, rfl⟩ ⟨rfl, hx⟩
    obtain ⟨b, hb, rfl⟩ := rv_get hx
    obtain ⟨m, hm, hbm⟩ := hT.get hb
    have bd : b ≠ d := fun z => by rw [z, TN, d2] at hbm; cases hbm
    have hbm1 := TN.sb s1 hbm bd
    have lm := CQ.mem_below.mp (List.mem_of_getElem? hm)
    refine ⟨_, rfl, _, rfl, _, rfl, l, b, d, sts, m, (below lim).take i, rfl, LS.mono (Sb.pre s02 s1 h0) hl, hbm1, hv.sub lm, hdm, fun r hr2 => CQ.without_before hm hr2, fun t H4 s4 ht => ?_⟩
    obtain ⟨ls, hd1, hA⟩ := DM.mono s4 hdm
    have e1 : ls.length = ((below lim).take i).length := hA.len
    refine ⟨_, rfl, _, rfl, d, _, rfl, .t hd1 (TN.mono s4 hbm1).key (sizeK (by have := tabV_len V.ref ((below lim).take i) ls; have := List.length_take_le' i (below lim); have := below_len hf; show (dS _ _).length ≤ _; unfold dS; omega)), (s1.trans s4).put, ⟨ls ++ [t], ?_, ?_⟩, some (.ref b), rfl⟩
    · rw [upd_same]
      exact congrArg (fun z => some (HO.dT z)) (tabV_put (CQ.below_nodup lim) hm (by rw [e1, List.length_take]; have := ltE hm; omega))
    · have up : ∀ o a k, MR sts H4 a k → MR sts (upd H4 d o) a k := fun o a k z => by
        obtain ⟨cs, z1, z2⟩ := z
        refine ⟨cs, by rw [upd_ne (ne_of z1 hd1 fun z => nomatch z)]; exact z1, z2.mono fun a q z => ?_⟩
        show upd _ _ _ _ = _
        rw [upd_ne (ne_of z hd1 fun z => nomatch z)]
        exact z
      rw [take_one hm]
      exact AllR.snoc (up _ _ _ ht) (AllR.mono (fun a k z => up _ a k z) hA)
  · rintro σ H1 ⟨s1, hdm, v, rfl⟩
    have e : (rv as).length = (below lim).length := by rw [rv, List.length_map]; exact hT.len
    rw [e, List.take_length] at hdm
    exact ⟨_, rfl, q d _ (Sb.pre s02 s1 h0) hdm⟩
/-! ### the measures -/
def sp_norm (K : Kf) : Sp := fun vs H Q E => ∃ (a : Addr) (sts : List Station) (n : List Nat), vs = [.ref a] ∧ Net K H a sts n ∧ Ans K (Res sts n .norm) H Q E
theorem sc_norm : FnScope ["network"] ["network"] (defScope (top 91)) := ⟨rfl, rfl, rfl, by decide +kernel, rfl, by decide +kernel, by decide +kernel⟩
theorem d_norm (T : Facts K mg) : Dfn P w K mg base (L2.CX P w) 7 "norm" ["network"] (sp_norm K) := by
  refine dfnX (T.d 64 rfl) sc_norm (fun _ _ _ _ _ _ us hl => match us, hl with | [_], _ => rfl) (fun vs H Q E h => by obtain ⟨a, sts, n, rfl, _⟩ := h; rfl) fun cdv A outer s H vs Q E hr h => ⟨_,
    (pss_cons (ps_expr (pe_mth0 (m_check_proper T) (hr.mono (by decide)) (passes_call (takes_of rfl rfl rfl rfl) (fun _ _ _ _ z => z)) (pv 0)))
    (pss_one (ps_ret (pe_dfn (d_fraction_answer T) (hr.mono (by decide)) pass0 (pa_cons (pe_dfn (d_network_norm T) hr pass0 (pa_cons (pe_fld (pv 0) rfl) (pa_cons (pe_fld (pv 0) rfl) pa_nil))) pa_nil))))), ?_⟩
  obtain ⟨a, sts, n, rfl, hN, h⟩ := h
  obtain ⟨dx, l, p, ha, hl, hp⟩ := hN.net
  rw [CQ.res_norm] at h
  refine ⟨_, rfl, a, dx, _, rfl, ha, rfl, a, sts, n, rfl, hN.net, hN.dl, fun hb => h.er 5 rfl (CQ.prp_bad hb), fun hg H1 s1 => ?_⟩
  rw [CQ.prp_ok hg, CQ.norm_fr hN.fit] at h
  refine ⟨_, rfl, a, _, dx, _, _, rfl, s1 _ _ ha, T.cl_Network, T.n_stations, nfS, _, rfl, a, _, dx, _, _, rfl, s1 _ _ ha, T.cl_Network, T.n_populations, nfP, l, p, sts, n, rfl, hl.mono s1, hp.mono s1, hN.fit, fun t2 H2 s2 ht2 => ?_⟩
  rw [CQ.norm_mk hN.fit] at ht2
  exact ⟨t2, _, rfl, ht2, fun t3 H3 s3 f9 ht3 => h.frac rfl t3 _ ((s1.trans s2).trans s3) ((s1.trans s2).free f9) ht3⟩
def sp_throughput (K : Kf) : Sp := fun vs H Q E => ∃ (a : Addr) (r : Nat) (sts : List Station) (n : List Nat), vs = [.ref a, .int r] ∧ Net K H a sts n ∧ Ans K (Res sts n (.throughput r)) H Q E
theorem sc_throughput : FnScope ["network", "customer_class"] ["network", "customer_class"] (defScope (top 92)) := ⟨rfl, rfl, rfl, by decide +kernel, rfl, by decide +kernel, by decide +kernel⟩
theorem d_throughput (T : Facts K mg) : Dfn P w K mg base (L2.CX P w) 7 "throughput" ["network", "customer_class"] (sp_throughput K) := by
  refine dfnX (T.d 65 rfl) sc_throughput (fun _ _ _ _ _ _ us hl => match us, hl with | [_, _], _ => rfl) (fun vs H Q E h => by obtain ⟨a, r, sts, n, rfl, _⟩ := h; rfl) fun cdv A outer s H vs Q E hr h => ⟨_,
    (pss_cons (ps_expr (pe_mth (m_check_class T) (hr.mono (by decide)) (passes_call (takes_of rfl rfl rfl rfl) (fun _ _ _ _ z => z)) (pv 0) (pa_cons (pv 1) pa_nil)))
    (pss_cons (ps_expr (pe_mth0 (m_check_proper T) (hr.mono (by decide)) (passes_call (takes_of rfl rfl rfl rfl) (fun _ _ _ _ z => z)) (pv 0)))
    (pss_one (ps_ret (pe_dfn (d_fraction_answer T) (hr.mono (by decide)) pass0 (pa_cons (pe_dfn (d_class_throughput T) hr pass0 (pa_cons (pe_fld (pv 0) rfl) (pa_cons (pe_fld (pv 0) rfl) (pa_cons (pv 1) pa_nil)))) pa_nil)))))), ?_⟩
  obtain ⟨a, r, sts, n, rfl, hN, h⟩ := h
  obtain ⟨dx, l, p, ha, hl, hp⟩ := hN.net
  rw [CQ.res_throughput] at h
  refine ⟨_, rfl, a, dx, _, rfl, ha, rfl, _, rfl, a, r, sts, n, rfl, hN.net, fun hb => h.er 1 rfl (CQ.onC_bad hb), fun hr2 => ?_⟩
  have hr2 := Decidable.not_not.mp hr2
  rw [CQ.onC_ok hr2] at h
  refine ⟨_, rfl, a, dx, _, rfl, ha, rfl, a, sts, n, rfl, hN.net, hN.dl, fun hb => h.er 5 rfl (CQ.prp_bad hb), fun hg H1 s1 => ?_⟩
  rw [CQ.prp_ok hg, CQ.thr_fr (net := ⟨sts, n⟩) hN.fit] at h
  refine ⟨_, rfl, a, _, dx, _, _, rfl, s1 _ _ ha, T.cl_Network, T.n_stations, nfS, _, rfl, a, _, dx, _, _, rfl, s1 _ _ ha, T.cl_Network, T.n_populations, nfP, _, rfl, l, p, sts, n, r, rfl, hl.mono s1, hp.mono s1, hr2, hN.fit, fun _ => hN.pos hg, fun t2 H2 s2 ht2 => ?_⟩
  exact ⟨t2, _, rfl, ht2, fun t3 H3 s3 f9 ht3 => h.frac rfl t3 _ ((s1.trans s2).trans s3) ((s1.trans s2).free f9) ht3⟩
def sp_cycle (K : Kf) : Sp := fun vs H Q E => ∃ (a : Addr) (r : Nat) (sts : List Station) (n : List Nat), vs = [.ref a, .int r] ∧ Net K H a sts n ∧ Ans K (Res sts n (.cycle r)) H Q E
theorem sc_cycle : FnScope ["network", "customer_class", "rate"] ["network", "customer_class"] (defScope (top 93)) := ⟨rfl, rfl, rfl, by decide +kernel, rfl, by decide +kernel, by decide +kernel⟩
theorem d_cycle (T : Facts K mg) : Dfn P w K mg base (L2.CX P w) 7 "cycle" ["network", "customer_class"] (sp_cycle K) := by
  refine dfnX (T.d 66 rfl) sc_cycle (fun _ _ _ _ _ _ us hl => match us, hl with | [_, _], _ => rfl) (fun vs H Q E h => by obtain ⟨a, r, sts, n, rfl, _⟩ := h; rfl) fun cdv A outer s H vs Q E hr h => ⟨_,
    (pss_cons (ps_expr (pe_mth (m_check_class T) (hr.mono (by decide)) (passes_call (takes_of rfl rfl rfl rfl) (fun _ _ _ _ z => z)) (pv 0) (pa_cons (pv 1) pa_nil)))
    (pss_cons (ps_expr (pe_mth (m_check_customers T) (hr.mono (by decide)) (passes_call (takes_of rfl rfl rfl rfl) (fun _ _ _ _ z => z)) (pv 0) (pa_cons (pv 1) pa_nil)))
    (pss_cons (ps_expr (pe_mth0 (m_check_proper T) (hr.mono (by decide)) (passes_call (takes_of rfl rfl rfl rfl) (fun _ _ _ _ z => z)) (pv 0)))
    (pss_cons (ps_set (i := 2) sc_cycle.nd rfl (Or.inl rfl) (pe_dfn (d_class_throughput T) hr pass0 (pa_cons (pe_fld (pv 0) rfl) (pa_cons (pe_fld (pv 0) rfl) (pa_cons (pv 1) pa_nil)))))
    (pss_one (ps_ret (pe_dfn (d_fraction_answer T) (hr.mono (by decide)) pass0 (pa_cons (pe_dfn (d_divided T) (hr.mono (by decide)) pass0 (pa_cons (pe_tup (pa_cons (pe_ix ix_tup (pe_fld (pv 0) rfl) (pv 1) (fun _ _ => rfl)) (pa_cons pe_int pa_nil))) (pa_cons (pv 2) pa_nil))) pa_nil)))))))), ?_⟩
  obtain ⟨a, r, sts, n, rfl, hN, h⟩ := h
  obtain ⟨dx, l, p, ha, hl, hp⟩ := hN.net
  rw [CQ.res_cycle] at h
  refine ⟨_, rfl, a, dx, _, rfl, ha, rfl, _, rfl, a, r, sts, n, rfl, hN.net, fun hb => h.er 1 rfl (CQ.onC_bad hb), fun hr2 => ?_⟩
  have hr2 := Decidable.not_not.mp hr2
  rw [CQ.onC_ok hr2] at h
  refine ⟨_, rfl, a, dx, _, rfl, ha, rfl, _, rfl, a, r, sts, n, rfl, hN.net, hr2, fun hb => h.er 2 rfl (if_pos hb), fun hc => ?_⟩
  rw [if_neg hc] at h
  refine ⟨_, rfl, a, dx, _, rfl, ha, rfl, a, sts, n, rfl, hN.net, hN.dl, fun hb => h.er 5 rfl (CQ.prp_bad hb), fun hg H1 s1 => ?_⟩
  rw [CQ.prp_ok hg, CQ.cycle_fr (net := ⟨sts, n⟩) hN.fit] at h
  refine ⟨_, rfl, a, _, dx, _, _, rfl, s1 _ _ ha, T.cl_Network, T.n_stations, nfS, _, rfl, a, _, dx, _, _, rfl, s1 _ _ ha, T.cl_Network, T.n_populations, nfP, _, rfl, l, p, sts, n, r, rfl, hl.mono s1, hp.mono s1, hr2, hN.fit, fun _ => hN.pos hg, fun t2 H2 s2 ht2 => ?_⟩
  have s12 := s1.trans s2
  have hk := count_lt hN.fit.fl r (CQ.leL_refl n)
  refine ⟨_, rfl, a, _, dx, _, _, rfl, s12 _ _ ha, T.cl_Network, T.n_populations, nfP, _, rfl, p, _, _, _, rfl, rfl, (hp.mono s12).sq, nv_at hr2, (show 2 ≤ sizeLine by decide), fun t3 ht3 => ?_⟩
  have s3 := same_new (o := .tup [.int (count n r : Nat), .int 1]) ht3
  refine ⟨_, rfl, t3, t2, _, _, 10, 1106, rfl, tr_nat upd_same, ht2.mono s3, CQ.Sm_nat hk (by decide), CQ.thr_sm hN.fit (fun _ => hN.pos hg), by decide, thr_pos hN.fit (CQ.proper_iff.mp hg) hc, fun t4 H4 s4 ht4 => ?_⟩
  exact ⟨t4, _, rfl, ht4, fun t5 H5 s5 f9 ht5 => h.frac rfl t5 _ (((s12.trans s3).trans s4).trans s5) (((s12.trans s3).trans s4).free f9) ht5⟩
end
end Cq
end
section
set_option Elab.async false
set_option linter.all false
set_option maxRecDepth 100000
set_option maxHeartbeats 4000000
set_option exponentiation.threshold 100000
namespace Cq
open PySem PySem.Spec PyProof.Rows L2 CqR
open Lrx5 (Station Network below minus factorial count without demand error fractionResult fractionsResult isProper)
open CQ (FitL FitS Fit vec leL sta Sm thr nrm stay qd mv Proper simple rs tot Res Bad mean pr)
section
variable {P : Program} {w : World} {K : Kf} {mg : Str → Option Value} {base : Heap}
def sp_mean_number (K : Kf) : Sp := fun vs H Q E => ∃ (a : Addr) (i r : Nat) (sts : List Station) (n : List Nat), vs = [.ref a, .int i, .int r] ∧ Net K H a sts n ∧ Ans K (Res sts n (.meanNumber i r)) H Q E
theorem sc_mean_number : FnScope ["network", "station", "customer_class"] ["network", "station", "customer_class"] (defScope (top 94)) := ⟨rfl, rfl, rfl, by decide +kernel, rfl, by decide +kernel, by decide +kernel⟩
theorem d_mean_number (T : Facts K mg) : Dfn P w K mg base (L2.CX P w) 8 "mean_number" ["network", "station", "customer_class"] (sp_mean_number K) := by
  refine dfnX (T.d 67 rfl) sc_mean_number (fun _ _ _ _ _ _ us hl => match us, hl with | [_, _, _], _ => rfl) (fun vs H Q E h => by obtain ⟨a, i, r, sts, n, rfl, _⟩ := h; rfl) fun cdv A outer s H vs Q E hr h => ⟨_,
    (pss_cons (ps_expr (pe_mth (m_check_station T) (hr.mono (by decide)) (passes_call (takes_of rfl rfl rfl rfl) (fun _ _ _ _ z => z)) (pv 0) (pa_cons (pv 1) pa_nil)))
    (pss_cons (ps_expr (pe_mth (m_check_class T) (hr.mono (by decide)) (passes_call (takes_of rfl rfl rfl rfl) (fun _ _ _ _ z => z)) (pv 0) (pa_cons (pv 2) pa_nil)))
    (pss_cons (ps_expr (pe_mth0 (m_check_proper T) (hr.mono (by decide)) (passes_call (takes_of rfl rfl rfl rfl) (fun _ _ _ _ z => z)) (pv 0)))
    (pss_one (ps_ret (pe_dfn (d_fraction_answer T) (hr.mono (by decide)) pass0 (pa_cons (pe_dfn (d_class_mean T) hr pass0 (pa_cons (pe_fld (pv 0) rfl) (pa_cons (pe_fld (pv 0) rfl) (pa_cons (pv 1) (pa_cons (pv 2) pa_nil))))) pa_nil))))))), ?_⟩
  obtain ⟨a, i, r, sts, n, rfl, hN, h⟩ := h
  obtain ⟨dx, l, p, ha, hl, hp⟩ := hN.net
  rw [CQ.res_meanNumber] at h
  refine ⟨_, rfl, a, dx, _, rfl, ha, rfl, _, rfl, a, i, sts, n, rfl, hN.net, fun hb => h.er 1 rfl (CQ.onS_bad hb), fun hi => ?_⟩
  have hi := Decidable.not_not.mp hi
  rw [CQ.onS_ok hi] at h
  refine ⟨_, rfl, a, dx, _, rfl, ha, rfl, _, rfl, a, r, sts, n, rfl, hN.net, fun hb => h.er 1 rfl (CQ.onC_bad hb), fun hr2 => ?_⟩
  have hr2 := Decidable.not_not.mp hr2
  rw [CQ.onC_ok hr2] at h
  refine ⟨_, rfl, a, dx, _, rfl, ha, rfl, a, sts, n, rfl, hN.net, hN.dl, fun hb => h.er 5 rfl (CQ.prp_bad hb), fun hg H1 s1 => ?_⟩
  rw [CQ.prp_ok hg, CQ.meanNumber_fr (net := ⟨sts, n⟩) hN.fit hi] at h
  refine ⟨_, rfl, a, _, dx, _, _, rfl, s1 _ _ ha, T.cl_Network, T.n_stations, nfS, _, rfl, a, _, dx, _, _, rfl, s1 _ _ ha, T.cl_Network, T.n_populations, nfP, _, rfl, _, rfl, l, p, i, r, sts, n, rfl, hl.mono s1, hi, hr2, hp.mono s1, hN.fit, hN.pos hg, fun t2 H2 s2 ht2 => ?_⟩
  exact ⟨t2, _, rfl, ht2, fun t3 H3 s3 f9 ht3 => h.frac rfl t3 _ ((s1.trans s2).trans s3) ((s1.trans s2).free f9) ht3⟩
def sp_station_number (K : Kf) : Sp := fun vs H Q E => ∃ (a : Addr) (i : Nat) (sts : List Station) (n : List Nat), vs = [.ref a, .int i] ∧ Net K H a sts n ∧ Ans K (Res sts n (.stationNumber i)) H Q E
theorem sc_station_number : FnScope ["network", "station"] ["network", "station"] (defScope (top 95)) := ⟨rfl, rfl, rfl, by decide +kernel, rfl, by decide +kernel, by decide +kernel⟩
theorem d_station_number (T : Facts K mg) : Dfn P w K mg base (L2.CX P w) 8 "station_number" ["network", "station"] (sp_station_number K) := by
  refine dfnX (T.d 68 rfl) sc_station_number (fun _ _ _ _ _ _ us hl => match us, hl with | [_, _], _ => rfl) (fun vs H Q E h => by obtain ⟨a, i, sts, n, rfl, _⟩ := h; rfl) fun cdv A outer s H vs Q E hr h => ⟨_,
    (pss_cons (ps_expr (pe_mth (m_check_station T) (hr.mono (by decide)) (passes_call (takes_of rfl rfl rfl rfl) (fun _ _ _ _ z => z)) (pv 0) (pa_cons (pv 1) pa_nil)))
    (pss_cons (ps_expr (pe_mth0 (m_check_proper T) (hr.mono (by decide)) (passes_call (takes_of rfl rfl rfl rfl) (fun _ _ _ _ z => z)) (pv 0)))
    (pss_one (ps_ret (pe_dfn (d_fraction_answer T) (hr.mono (by decide)) pass0 (pa_cons (pe_dfn (d_station_mean T) hr pass0 (pa_cons (pe_fld (pv 0) rfl) (pa_cons (pe_fld (pv 0) rfl) (pa_cons (pv 1) pa_nil)))) pa_nil)))))), ?_⟩
  obtain ⟨a, i, sts, n, rfl, hN, h⟩ := h
  obtain ⟨dx, l, p, ha, hl, hp⟩ := hN.net
  rw [CQ.res_stationNumber] at h
  refine ⟨_, rfl, a, dx, _, rfl, ha, rfl, _, rfl, a, i, sts, n, rfl, hN.net, fun hb => h.er 1 rfl (CQ.onS_bad hb), fun hi => ?_⟩
  have hi := Decidable.not_not.mp hi
  rw [CQ.onS_ok hi] at h
  refine ⟨_, rfl, a, dx, _, rfl, ha, rfl, a, sts, n, rfl, hN.net, hN.dl, fun hb => h.er 5 rfl (CQ.prp_bad hb), fun hg H1 s1 => ?_⟩
  rw [CQ.prp_ok hg, CQ.stationNumber_fr (net := ⟨sts, n⟩) hN.fit hi] at h
  refine ⟨_, rfl, a, _, dx, _, _, rfl, s1 _ _ ha, T.cl_Network, T.n_stations, nfS, _, rfl, a, _, dx, _, _, rfl, s1 _ _ ha, T.cl_Network, T.n_populations, nfP, _, rfl, l, p, i, sts, n, rfl, hl.mono s1, hi, hp.mono s1, hN.fit, hN.pos hg, fun t2 H2 s2 ht2 => ?_⟩
  exact ⟨t2, _, rfl, ht2, fun t3 H3 s3 f9 ht3 => h.frac rfl t3 _ ((s1.trans s2).trans s3) ((s1.trans s2).free f9) ht3⟩
def sp_residence (K : Kf) : Sp := fun vs H Q E => ∃ (a : Addr) (i r : Nat) (sts : List Station) (n : List Nat), vs = [.ref a, .int i, .int r] ∧ Net K H a sts n ∧ Ans K (Res sts n (.residence i r)) H Q E
theorem sc_residence : FnScope ["network", "station", "customer_class", "present", "rate"] ["network", "station", "customer_class"] (defScope (top 96)) := ⟨rfl, rfl, rfl, by decide +kernel, rfl, by decide +kernel, by decide +kernel⟩
theorem d_residence (T : Facts K mg) : Dfn P w K mg base (L2.CX P w) 8 "residence" ["network", "station", "customer_class"] (sp_residence K) := by
  refine dfnX (T.d 69 rfl) sc_residence (fun _ _ _ _ _ _ us hl => match us, hl with | [_, _, _], _ => rfl) (fun vs H Q E h => by obtain ⟨a, i, r, sts, n, rfl, _⟩ := h; rfl) fun cdv A outer s H vs Q E hr h => ⟨_,
    (pss_cons (ps_expr (pe_mth (m_check_station T) (hr.mono (by decide)) (passes_call (takes_of rfl rfl rfl rfl) (fun _ _ _ _ z => z)) (pv 0) (pa_cons (pv 1) pa_nil)))
    (pss_cons (ps_expr (pe_mth (m_check_class T) (hr.mono (by decide)) (passes_call (takes_of rfl rfl rfl rfl) (fun _ _ _ _ z => z)) (pv 0) (pa_cons (pv 2) pa_nil)))
    (pss_cons (ps_expr (pe_mth (m_check_customers T) (hr.mono (by decide)) (passes_call (takes_of rfl rfl rfl rfl) (fun _ _ _ _ z => z)) (pv 0) (pa_cons (pv 2) pa_nil)))
    (pss_cons (ps_expr (pe_mth0 (m_check_proper T) (hr.mono (by decide)) (passes_call (takes_of rfl rfl rfl rfl) (fun _ _ _ _ z => z)) (pv 0)))
    (pss_cons (ps_set (i := 3) sc_residence.nd rfl (Or.inl rfl) (pe_dfn (d_class_mean T) hr pass0 (pa_cons (pe_fld (pv 0) rfl) (pa_cons (pe_fld (pv 0) rfl) (pa_cons (pv 1) (pa_cons (pv 2) pa_nil))))))
    (pss_cons (ps_set (i := 4) sc_residence.nd rfl (Or.inl rfl) (pe_dfn (d_class_throughput T) (hr.mono (by decide)) pass0 (pa_cons (pe_fld (pv 0) rfl) (pa_cons (pe_fld (pv 0) rfl) (pa_cons (pv 2) pa_nil)))))
    (pss_one (ps_ret (pe_dfn (d_fraction_answer T) (hr.mono (by decide)) pass0 (pa_cons (pe_dfn (d_divided T) (hr.mono (by decide)) pass0 (pa_cons (pv 3) (pa_cons (pv 4) pa_nil))) pa_nil)))))))))), ?_⟩
  obtain ⟨a, i, r, sts, n, rfl, hN, h⟩ := h
  obtain ⟨dx, l, p, ha, hl, hp⟩ := hN.net
  rw [CQ.res_residence] at h
  refine ⟨_, rfl, a, dx, _, rfl, ha, rfl, _, rfl, a, i, sts, n, rfl, hN.net, fun hb => h.er 1 rfl (CQ.onS_bad hb), fun hi => ?_⟩
  have hi := Decidable.not_not.mp hi
  rw [CQ.onS_ok hi] at h
  refine ⟨_, rfl, a, dx, _, rfl, ha, rfl, _, rfl, a, r, sts, n, rfl, hN.net, fun hb => h.er 1 rfl (CQ.onC_bad hb), fun hr2 => ?_⟩
  have hr2 := Decidable.not_not.mp hr2
  rw [CQ.onC_ok hr2] at h
  refine ⟨_, rfl, a, dx, _, rfl, ha, rfl, _, rfl, a, r, sts, n, rfl, hN.net, hr2, fun hb => h.er 2 rfl (if_pos hb), fun hc => ?_⟩
  rw [if_neg hc] at h
  refine ⟨_, rfl, a, dx, _, rfl, ha, rfl, a, sts, n, rfl, hN.net, hN.dl, fun hb => h.er 5 rfl (CQ.prp_bad hb), fun hg H1 s1 => ?_⟩
  rw [CQ.prp_ok hg, CQ.residence_fr' (net := ⟨sts, n⟩) hN.fit hi] at h
  refine ⟨_, rfl, a, _, dx, _, _, rfl, s1 _ _ ha, T.cl_Network, T.n_stations, nfS, _, rfl, a, _, dx, _, _, rfl, s1 _ _ ha, T.cl_Network, T.n_populations, nfP, _, rfl, _, rfl, l, p, i, r, sts, n, rfl, hl.mono s1, hi, hr2, hp.mono s1, hN.fit, hN.pos hg, fun t2 H2 s2 ht2 => ?_⟩
  have s12 := s1.trans s2
  refine ⟨_, rfl, a, _, dx, _, _, rfl, s12 _ _ ha, T.cl_Network, T.n_stations, nfS, _, rfl, a, _, dx, _, _, rfl, s12 _ _ ha, T.cl_Network, T.n_populations, nfP, _, rfl, l, p, sts, n, r, rfl, hl.mono s12, hp.mono s12, hr2, hN.fit, fun _ => hN.pos hg, fun t3 H3 s3 ht3 => ?_⟩
  refine ⟨_, rfl, _, rfl, t2, t3, _, _, 1337, 1106, rfl, ht2.mono s3, ht3, CQ.mean_sm hN.fit hi (hN.pos hg) (fun m hm => count_lt hN.fit.fl r hm), CQ.thr_sm hN.fit (fun _ => hN.pos hg), by decide, thr_pos hN.fit (CQ.proper_iff.mp hg) hc, fun t4 H4 s4 ht4 => ?_⟩
  exact ⟨t4, _, rfl, ht4, fun t5 H5 s5 f9 ht5 => h.frac rfl t5 _ (((s12.trans s3).trans s4).trans s5) (((s12.trans s3).trans s4).free f9) ht5⟩
def sp_busy (K : Kf) : Sp := fun vs H Q E => ∃ (a : Addr) (i r : Nat) (sts : List Station) (n : List Nat), vs = [.ref a, .int i, .int r] ∧ Net K H a sts n ∧ Ans K (Res sts n (.busy i r)) H Q E
theorem sc_busy : FnScope ["network", "station", "customer_class", "rate"] ["network", "station", "customer_class"] (defScope (top 97)) := ⟨rfl, rfl, rfl, by decide +kernel, rfl, by decide +kernel, by decide +kernel⟩
theorem d_busy (T : Facts K mg) : Dfn P w K mg base (L2.CX P w) 7 "busy" ["network", "station", "customer_class"] (sp_busy K) := by
  refine dfnX (T.d 70 rfl) sc_busy (fun _ _ _ _ _ _ us hl => match us, hl with | [_, _, _], _ => rfl) (fun vs H Q E h => by obtain ⟨a, i, r, sts, n, rfl, _⟩ := h; rfl) fun cdv A outer s H vs Q E hr h => ⟨_,
    (pss_cons (ps_expr (pe_mth (m_check_station T) (hr.mono (by decide)) (passes_call (takes_of rfl rfl rfl rfl) (fun _ _ _ _ z => z)) (pv 0) (pa_cons (pv 1) pa_nil)))
    (pss_cons (ps_expr (pe_mth (m_check_class T) (hr.mono (by decide)) (passes_call (takes_of rfl rfl rfl rfl) (fun _ _ _ _ z => z)) (pv 0) (pa_cons (pv 2) pa_nil)))
    (pss_cons (ps_expr (pe_mth0 (m_check_proper T) (hr.mono (by decide)) (passes_call (takes_of rfl rfl rfl rfl) (fun _ _ _ _ z => z)) (pv 0)))
    (pss_cons (ps_set (i := 3) sc_busy.nd rfl (Or.inl rfl) (pe_dfn (d_class_throughput T) hr pass0 (pa_cons (pe_fld (pv 0) rfl) (pa_cons (pe_fld (pv 0) rfl) (pa_cons (pv 2) pa_nil)))))
    (pss_one (ps_ret (pe_dfn (d_fraction_answer T) (hr.mono (by decide)) pass0 (pa_cons (pe_dfn (d_times T) (hr.mono (by decide)) pass0 (pa_cons (pv 3) (pa_cons (pe_ix ix_list (pe_fld (pe_ix ix_list (pe_fld (pv 0) rfl) (pv 1) (fun _ _ => rfl)) rfl) (pv 2) (fun _ _ => rfl)) pa_nil))) pa_nil)))))))), ?_⟩
  obtain ⟨a, i, r, sts, n, rfl, hN, h⟩ := h
  obtain ⟨dx, l, p, ha, hl, hp⟩ := hN.net
  rw [CQ.res_busy] at h
  refine ⟨_, rfl, a, dx, _, rfl, ha, rfl, _, rfl, a, i, sts, n, rfl, hN.net, fun hb => h.er 1 rfl (CQ.onS_bad hb), fun hi => ?_⟩
  have hi := Decidable.not_not.mp hi
  rw [CQ.onS_ok hi] at h
  refine ⟨_, rfl, a, dx, _, rfl, ha, rfl, _, rfl, a, r, sts, n, rfl, hN.net, fun hb => h.er 1 rfl (CQ.onC_bad hb), fun hr2 => ?_⟩
  have hr2 := Decidable.not_not.mp hr2
  rw [CQ.onC_ok hr2] at h
  refine ⟨_, rfl, a, dx, _, rfl, ha, rfl, a, sts, n, rfl, hN.net, hN.dl, fun hb => h.er 5 rfl (CQ.prp_bad hb), fun hg H1 s1 => ?_⟩
  rw [CQ.prp_ok hg, CQ.busy_fr (net := ⟨sts, n⟩) hN.fit] at h
  refine ⟨_, rfl, a, _, dx, _, _, rfl, s1 _ _ ha, T.cl_Network, T.n_stations, nfS, _, rfl, a, _, dx, _, _, rfl, s1 _ _ ha, T.cl_Network, T.n_populations, nfP, _, rfl, l, p, sts, n, r, rfl, hl.mono s1, hp.mono s1, hr2, hN.fit, fun _ => hN.pos hg, fun t2 H2 s2 ht2 => ?_⟩
  have s12 := s1.trans s2
  obtain ⟨as, hl1, hA⟩ := hl.mono s12
  obtain ⟨b, hb1, hb2, dd, ⟨dx2, hs1⟩, hs2⟩ := rv_at hA hi
  have hS := hN.fit.st _ (CQ.sta_mem hi)
  refine ⟨_, rfl, _, rfl, a, _, dx, _, _, rfl, s12 _ _ ha, T.cl_Network, T.n_stations, nfS, _, rfl, l, _, _, _, rfl, rfl, SqL.of hl1, hb2, b, _, dx2, _, _, rfl, hs1, T.cl_Station, T.n_demands, rfl, _, rfl, dd, _, _, _, rfl, rfl, SqL.of hs2, nv_atd (by rw [hS.dl]; exact hr2), ?_⟩
  refine ⟨t2, _, _, 1106, rfl, ht2, CQ.thr_sm hN.fit (fun _ => hN.pos hg), by decide, CQ.demand_lt hS r, fun t3 H3 s3 ht3 => ?_⟩
  exact ⟨t3, _, rfl, ht3, fun t5 H5 s5 f9 ht5 => h.frac rfl t5 _ ((s12.trans s3).trans s5) ((s12.trans s3).free f9) ht5⟩
theorem ut_eq {sts : List Station} {n : List Nat} {s : Station} : utQ s (CQ.rates sts n) = CQ.util sts n s := rfl
theorem rates_sm {sts : List Station} {n : List Nat} (h : Fit sts n) (p : 0 < nrm sts n) : ∀ q ∈ CQ.rates sts n, Sm 1106 q := fun q hq => by
  obtain ⟨r, _, rfl⟩ := List.mem_map.mp hq
  exact CQ.thr_sm h fun _ => p
theorem rates_len (sts : List Station) (n : List Nat) : (CQ.rates sts n).length = n.length := by unfold CQ.rates; rw [List.length_map, List.length_range]
def sp_utilization (K : Kf) : Sp := fun vs H Q E => ∃ (a : Addr) (i : Nat) (sts : List Station) (n : List Nat), vs = [.ref a, .int i] ∧ Net K H a sts n ∧ Ans K (Res sts n (.utilization i)) H Q E
theorem sc_utilization : FnScope ["network", "station", "rates"] ["network", "station"] (defScope (top 98)) := ⟨rfl, rfl, rfl, by decide +kernel, rfl, by decide +kernel, by decide +kernel⟩
theorem d_utilization (T : Facts K mg) : Dfn P w K mg base (L2.CX P w) 7 "utilization" ["network", "station"] (sp_utilization K) := by
  refine dfnX (T.d 71 rfl) sc_utilization (fun _ _ _ _ _ _ us hl => match us, hl with | [_, _], _ => rfl) (fun vs H Q E h => by obtain ⟨a, i, sts, n, rfl, _⟩ := h; rfl) fun cdv A outer s H vs Q E hr h => ⟨_,
    (pss_cons (ps_expr (pe_mth (m_check_station T) (hr.mono (by decide)) (passes_call (takes_of rfl rfl rfl rfl) (fun _ _ _ _ z => z)) (pv 0) (pa_cons (pv 1) pa_nil)))
    (pss_cons (ps_expr (pe_mth (m_check_queue T) (hr.mono (by decide)) (passes_call (takes_of rfl rfl rfl rfl) (fun _ _ _ _ z => z)) (pv 0) (pa_cons (pv 1) pa_nil)))
    (pss_cons (ps_expr (pe_mth0 (m_check_proper T) (hr.mono (by decide)) (passes_call (takes_of rfl rfl rfl rfl) (fun _ _ _ _ z => z)) (pv 0)))
    (pss_cons (ps_set (i := 2) sc_utilization.nd rfl (Or.inl rfl) (pe_dfn (d_all_throughputs T) hr pass0 (pa_cons (pe_fld (pv 0) rfl) (pa_cons (pe_fld (pv 0) rfl) pa_nil))))
    (pss_one (ps_ret (pe_dfn (d_fraction_answer T) (hr.mono (by decide)) pass0 (pa_cons (pe_dfn (d_utilization_of T) (hr.mono (by decide)) pass0 (pa_cons (pe_ix ix_list (pe_fld (pv 0) rfl) (pv 1) (fun _ _ => rfl)) (pa_cons (pv 2) pa_nil))) pa_nil)))))))), ?_⟩
  obtain ⟨a, i, sts, n, rfl, hN, h⟩ := h
  obtain ⟨dx, l, p, ha, hl, hp⟩ := hN.net
  rw [CQ.res_utilization] at h
  refine ⟨_, rfl, a, dx, _, rfl, ha, rfl, _, rfl, a, i, sts, n, rfl, hN.net, fun hb => h.er 1 rfl (CQ.onS_bad hb), fun hi => ?_⟩
  have hi := Decidable.not_not.mp hi
  rw [CQ.onS_ok hi] at h
  refine ⟨_, rfl, a, dx, _, rfl, ha, rfl, _, rfl, a, i, sts, n, rfl, hN.net, hi, fun hb => h.er 5 rfl (if_pos hb), fun hq => ?_⟩
  rw [if_neg hq] at h
  refine ⟨_, rfl, a, dx, _, rfl, ha, rfl, a, sts, n, rfl, hN.net, hN.dl, fun hb => h.er 5 rfl (CQ.prp_bad hb), fun hg H1 s1 => ?_⟩
  rw [CQ.prp_ok hg, CQ.utilizationOf_fr (net := ⟨sts, n⟩) hN.fit hi (by simpa using hq)] at h
  refine ⟨_, rfl, a, _, dx, _, _, rfl, s1 _ _ ha, T.cl_Network, T.n_stations, nfS, _, rfl, a, _, dx, _, _, rfl, s1 _ _ ha, T.cl_Network, T.n_populations, nfP, l, p, sts, n, rfl, hl.mono s1, hp.mono s1, hN.fit, hN.pos hg, fun t2 H2 s2 ht2 => ?_⟩
  have s12 := s1.trans s2
  obtain ⟨as, hl1, hA⟩ := hl.mono s12
  obtain ⟨b, hb1, hb2, hst⟩ := rv_at hA hi
  have hS := hN.fit.st _ (CQ.sta_mem hi)
  refine ⟨_, rfl, a, _, dx, _, _, rfl, s12 _ _ ha, T.cl_Network, T.n_stations, nfS, _, rfl, l, _, _, _, rfl, rfl, SqL.of hl1, hb2, _, rfl, b, t2, sta sts i, n.length, CQ.rates sts n, rfl, hst, hS, hN.fit.fl.len, ht2, rates_len sts n, rates_sm hN.fit (hN.pos hg), fun t3 H3 s3 ht3 => ?_⟩
  exact ⟨t3, _, rfl, ht3, fun t5 H5 s5 f9 ht5 => h.frac rfl t5 _ ((s12.trans s3).trans s5) ((s12.trans s3).free f9) ht5⟩
end
end Cq
end
section
set_option Elab.async false
set_option linter.all false
set_option maxRecDepth 100000
set_option maxHeartbeats 4000000
set_option exponentiation.threshold 100000
namespace Cq
open PySem PySem.Spec PyProof.Rows L2 CqR
open Lrx5 (Station Network below minus factorial count without demand error fractionResult fractionsResult isProper)
open CQ (FitL FitS Fit vec leL sta Sm thr nrm stay qd mv Proper simple rs tot Res Bad mean pr rowAt rowsOf rsum BadS ns)
theorem neF {a b : Int} (h : a = b) : V.bl (!decide (V.int a = V.int b)) = V.bl false := by
  rw [decide_eq_true (by rw [h])]
  rfl
theorem neT {a b : Int} (h : a ≠ b) : V.bl (!decide (V.int a = V.int b)) = V.bl true := by
  rw [decide_eq_false fun z => h (by injection z)]
  rfl
theorem rgc : ∀ S, S < 6 → ∀ C, C < 4 → 0 < C → RgC 0 ((S * C : Nat) : Int) (C : Int) S := by
  unfold RgC
  decide +kernel
section
variable {P : Program} {w : World} {K : Kf} {mg : Str → Option Value} {base : Heap}
def sp_marginal (K : Kf) : Sp := fun vs H Q E => ∃ (a b : Addr) (i : Nat) (m : List Nat) (sts : List Station) (n : List Nat), vs = [.ref a, .int i, .ref b] ∧ H b = some (.lst (nv m)) ∧ Net K H a sts n ∧ Ans K (Res sts n (.marginal i m)) H Q E
theorem sc_marginal : FnScope ["network", "station", "numbers"] ["network", "station", "numbers"] (defScope (top 102)) := ⟨rfl, rfl, rfl, by decide +kernel, rfl, by decide +kernel, by decide +kernel⟩
theorem d_marginal (T : Facts K mg) : Dfn P w K mg base (L2.CX P w) 8 "marginal" ["network", "station", "numbers"] (sp_marginal K) := by
  refine dfnX (T.d 74 rfl) sc_marginal (fun _ _ _ _ _ _ us hl => match us, hl with | [_, _, _], _ => rfl) (fun vs H Q E h => by obtain ⟨a, b, i, m, sts, n, rfl, _⟩ := h; rfl) fun cdv A outer s H vs Q E hr h => ⟨_,
    (pss_cons (ps_expr (pe_mth (m_check_station T) (hr.mono (by decide)) (passes_call (takes_of rfl rfl rfl rfl) (fun _ _ _ _ z => z)) (pv 0) (pa_cons (pv 1) pa_nil)))
    (pss_cons (ps_expr (pe_dfn (d_check_numbers T) (hr.mono (by decide)) (passes_call (takes_of rfl rfl rfl rfl) (fun _ _ _ _ z => z)) (pa_cons (pv 2) (pa_cons (pe_callB call_len_seq (by rfl) T.f_len PySem.boot_len (pa_cons (pe_fld (pv 0) rfl) pa_nil)) pa_nil))))
    (pss_cons (ps_expr (pe_mth0 (m_check_proper T) (hr.mono (by decide)) (passes_call (takes_of rfl rfl rfl rfl) (fun _ _ _ _ z => z)) (pv 0)))
    (pss_one (ps_ret (pe_dfn (d_fraction_answer T) (hr.mono (by decide)) pass0 (pa_cons (pe_dfn (d_marginal_probability T) hr pass0 (pa_cons (pe_fld (pv 0) rfl) (pa_cons (pe_fld (pv 0) rfl) (pa_cons (pv 1) (pa_cons (pv 2) pa_nil))))) pa_nil))))))), ?_⟩
  obtain ⟨a, b, i, m, sts, n, rfl, hb0, hN, h⟩ := h
  obtain ⟨dx, l, p, ha, hl, hp⟩ := hN.net
  rw [CQ.res_marginal] at h
  refine ⟨_, rfl, a, dx, _, rfl, ha, rfl, _, rfl, a, i, sts, n, rfl, hN.net, fun hb => h.er 1 rfl (CQ.onS_bad hb), fun hi => ?_⟩
  have hi := Decidable.not_not.mp hi
  rw [CQ.onS_ok hi] at h
  refine ⟨_, rfl, _, rfl, a, _, dx, _, _, rfl, ha, T.cl_Network, T.n_populations, nfP, p, _, rfl, .inr hp.sq, ?_⟩
  rw [nv_len]
  refine ⟨b, m, n.length, rfl, hb0, fun hb => h.er 3 rfl (if_pos hb), fun hc => ?_⟩
  rw [if_neg hc] at h
  refine ⟨_, rfl, a, dx, _, rfl, ha, rfl, a, sts, n, rfl, hN.net, hN.dl, fun hb => h.er 5 rfl (CQ.prp_bad hb), fun hg H1 s1 => ?_⟩
  rw [CQ.prp_ok hg, CQ.marginal_fr (net := ⟨sts, n⟩) hN.fit hi] at h
  refine ⟨_, rfl, a, _, dx, _, _, rfl, s1 _ _ ha, T.cl_Network, T.n_stations, nfS, _, rfl, a, _, dx, _, _, rfl, s1 _ _ ha, T.cl_Network, T.n_populations, nfP, _, rfl, _, rfl, l, p, b, i, sts, n, m, rfl, hl.mono s1, hi, hp.mono s1, s1 _ _ hb0, hN.fit, hN.pos hg, fun t2 H2 s2 ht2 => ?_⟩
  exact ⟨t2, _, rfl, ht2, fun t3 H3 s3 f9 ht3 => h.frac rfl t3 _ ((s1.trans s2).trans s3) ((s1.trans s2).free f9) ht3⟩
def sp_number_probability (K : Kf) : Sp := fun vs H Q E => ∃ (a : Addr) (i k : Nat) (sts : List Station) (n : List Nat), vs = [.ref a, .int i, .int k] ∧ Net K H a sts n ∧ Ans K (Res sts n (.numberProbability i k)) H Q E
theorem sc_number_probability : FnScope ["network", "station", "customers"] ["network", "station", "customers"] (defScope (top 103)) := ⟨rfl, rfl, rfl, by decide +kernel, rfl, by decide +kernel, by decide +kernel⟩
theorem d_number_probability (T : Facts K mg) : Dfn P w K mg base (L2.CX P w) 8 "number_probability" ["network", "station", "customers"] (sp_number_probability K) := by
  refine dfnX (T.d 75 rfl) sc_number_probability (fun _ _ _ _ _ _ us hl => match us, hl with | [_, _, _], _ => rfl) (fun vs H Q E h => by obtain ⟨a, i, k, sts, n, rfl, _⟩ := h; rfl) fun cdv A outer s H vs Q E hr h => ⟨_,
    (pss_cons (ps_expr (pe_mth (m_check_station T) (hr.mono (by decide)) (passes_call (takes_of rfl rfl rfl rfl) (fun _ _ _ _ z => z)) (pv 0) (pa_cons (pv 1) pa_nil)))
    (pss_cons (ps_expr (pe_dfn (d_check_sum T) (hr.mono (by decide)) (passes_call (takes_of rfl rfl rfl rfl) (fun _ _ _ _ z => z)) (pa_cons (pv 2) pa_nil)))
    (pss_cons (ps_expr (pe_mth0 (m_check_proper T) (hr.mono (by decide)) (passes_call (takes_of rfl rfl rfl rfl) (fun _ _ _ _ z => z)) (pv 0)))
    (pss_one (ps_ret (pe_dfn (d_fraction_answer T) (hr.mono (by decide)) pass0 (pa_cons (pe_dfn (d_sum_probability T) hr pass0 (pa_cons (pe_fld (pv 0) rfl) (pa_cons (pe_fld (pv 0) rfl) (pa_cons (pv 1) (pa_cons (pv 2) pa_nil))))) pa_nil))))))), ?_⟩
  obtain ⟨a, i, k, sts, n, rfl, hN, h⟩ := h
  obtain ⟨dx, l, p, ha, hl, hp⟩ := hN.net
  rw [CQ.res_numberProbability] at h
  refine ⟨_, rfl, a, dx, _, rfl, ha, rfl, _, rfl, a, i, sts, n, rfl, hN.net, fun hb => h.er 1 rfl (CQ.onS_bad hb), fun hi => ?_⟩
  have hi := Decidable.not_not.mp hi
  rw [CQ.onS_ok hi] at h
  refine ⟨_, rfl, k, rfl, fun hb => h.er 3 rfl (if_pos hb), fun hc => ?_⟩
  rw [if_neg hc] at h
  refine ⟨_, rfl, a, dx, _, rfl, ha, rfl, a, sts, n, rfl, hN.net, hN.dl, fun hb => h.er 5 rfl (CQ.prp_bad hb), fun hg H1 s1 => ?_⟩
  rw [CQ.prp_ok hg, CQ.numberProbability_fr (net := ⟨sts, n⟩) hN.fit hi] at h
  refine ⟨_, rfl, a, _, dx, _, _, rfl, s1 _ _ ha, T.cl_Network, T.n_stations, nfS, _, rfl, a, _, dx, _, _, rfl, s1 _ _ ha, T.cl_Network, T.n_populations, nfP, _, rfl, _, rfl, l, p, i, k, sts, n, rfl, hl.mono s1, hi, hp.mono s1, hN.fit, hN.pos hg, fun t2 H2 s2 ht2 => ?_⟩
  exact ⟨t2, _, rfl, ht2, fun t3 H3 s3 f9 ht3 => h.frac rfl t3 _ ((s1.trans s2).trans s3) ((s1.trans s2).free f9) ht3⟩
def sp_idle (K : Kf) : Sp := fun vs H Q E => ∃ (a : Addr) (i : Nat) (sts : List Station) (n : List Nat), vs = [.ref a, .int i] ∧ Net K H a sts n ∧ Ans K (Res sts n (.idle i)) H Q E
theorem sc_idle : FnScope ["network", "station"] ["network", "station"] (defScope (top 104)) := ⟨rfl, rfl, rfl, by decide +kernel, rfl, by decide +kernel, by decide +kernel⟩
theorem d_idle (T : Facts K mg) : Dfn P w K mg base (L2.CX P w) 9 "idle" ["network", "station"] (sp_idle K) := by
  refine dfnX (T.d 76 rfl) sc_idle (fun _ _ _ _ _ _ us hl => match us, hl with | [_, _], _ => rfl) (fun vs H Q E h => by obtain ⟨a, i, sts, n, rfl, _⟩ := h; rfl) fun cdv A outer s H vs Q E hr h => ⟨_,
    (pss_one (ps_ret (pe_dfn (d_number_probability T) hr (passes_call (takes_of rfl rfl rfl rfl) (fun _ _ _ _ z => z)) (pa_cons (pv 0) (pa_cons (pv 1) (pa_cons pe_int pa_nil)))))), ?_⟩
  obtain ⟨a, i, sts, n, rfl, hN, h⟩ := h
  have e : Res sts n (.idle i) = Res sts n (.numberProbability i 0) := by rw [CQ.res_idle, CQ.res_numberProbability, if_neg (by decide)]
  rw [e] at h
  exact ⟨_, rfl, _, rfl, a, i, 0, sts, n, rfl, hN, h⟩
def sp_rows_of : Sp := fun vs H Q _ => ∃ (b : Addr) (S C : Nat) (m : List Nat), vs = [.ref b, .int C] ∧ H b = some (.lst (nv m)) ∧ 0 < C ∧ C ≤ 3 ∧ S ≤ 5 ∧ m.length = S * C ∧ ∀ t H', Same H H' → LT H' t (rowsOf m C S) → Q (.ref t) H'
theorem cut_nv {m : List Nat} {a b : Nat} (h : a + b ≤ m.length) : cutV (nv m) (some (a : Int)) (some ((a : Int) + (b : Int))) = nv ((m.drop a).take b) := by
  unfold cutV
  rw [show (a : Int) + (b : Int) = ((a + b : Nat) : Int) by omega, HT.sIx_nat, HT.sIx_nat, nv_len, Nat.min_eq_left h, Nat.min_eq_left (show a ≤ m.length by omega)]
  unfold nv
  rw [← List.map_drop, ← List.map_take]
  congr 2
  omega
theorem sc_rows_of : FnScope ["state", "class_count", "start"] ["state", "class_count"] (defScope (top 106)) := ⟨rfl, rfl, rfl, by decide +kernel, rfl, by decide +kernel, by decide +kernel⟩
theorem d_rows_of (T : Facts K mg) : Dfn P w K mg base CX0 1 "rows_of" ["state", "class_count"] (sp_rows_of) := by
  refine dfn0 (T.d 78 rfl) sc_rows_of (fun _ _ _ _ _ _ us hl => match us, hl with | [_, _], _ => rfl) (fun vs H Q E h => by obtain ⟨b, S, C, m, rfl, _⟩ := h; rfl) fun cdv A outer s H vs Q E hr h => ⟨_,
    (pss_one (ps_ret (by exact (pe_lc rfl sc_rows_of.nd (pi_range3 rfl T.f_range (pa_cons pe_int (pa_cons (pe_callB call_len_seq (by rfl) T.f_len PySem.boot_len (pa_cons (pv 0) pa_nil)) (pa_cons (pv 1) pa_nil)))) (blkOk_by (own := [("start", 2)]) (N := ["state", "class_count", "start"]) (sc := defScope (top 106)) (by decide +kernel)) (fun _ _ _ _ _ => by exact (pg_name (i := 2) sc_rows_of.nd rfl (Or.inl rfl) (Or.inr rfl))) (fun _ _ _ _ _ => by exact pts_nil) (fun _ _ _ _ _ => by exact (pe_callTy call_tuple_ofB (by rfl) T.f_tuple boot_tuple (pa_cons (pe_slice sl_listB (pv 0) (po_some (pv 2)) (po_some (pe_op op_add (pv 2) (pv 1)))) pa_nil))))))), ?_⟩
  obtain ⟨b, S, C, m, rfl, hb, hC0, hC, hS, hm, q⟩ := h
  refine ⟨_, rfl, b, _, rfl, .inl (SqL.of hb), _, rfl, 0, _, _, S, rfl, ?_, fun D hD => ?_⟩
  · rw [nv_len, hm]
    exact rgc S (by omega) C (by omega) hC0
  refine lc_it (walk_rangeC (lo := 0) (c := (C : Int)) (n := S)) (fun i H3 => Same H H3 ∧ ∃ cs, H3 D = some (.lst (rv cs)) ∧ AllT H3 cs ((rowsOf m C S).take i)) ⟨same_new hD, [], upd_same, True.intro⟩ (fun _ _ _ _ => trivial) ?_ ?_
  · rintro i x H3 H4 hi ⟨s3, cs, hD3, hC3⟩ ⟨rfl, rfl⟩
    have e0 : (0 : Int) + (i : Int) * (C : Int) = ((i * C : Nat) : Int) := by rw [Int.natCast_mul]; omega
    have hle : i * C + C ≤ m.length := by
      have : (i + 1) * C ≤ S * C := Nat.mul_le_mul_right _ hi
      rw [Nat.succ_mul] at this
      omega
    refine ⟨rfl, ?_⟩
    refine yes ?_
    refine ⟨_, rfl, _, rfl, _, rfl, _, rfl, _, rfl, _, _, rfl, rfl, _, rfl, b, _, rfl, SqL.of (s3 _ _ hb), fun p1 h1 => ?_⟩
    have s1 := same_new (o := .lst (cutV (nv m) (some ((0 : Int) + (i : Int) * (C : Int))) (some ((0 : Int) + (i : Int) * (C : Int) + (C : Int))))) h1
    refine ⟨p1, _, rfl, .inl ⟨SqL.of upd_same, fun p2 h2 => ?_⟩⟩
    have s2 := sNew s1 (o := .tup (cutV (nv m) (some ((0 : Int) + (i : Int) * (C : Int))) (some ((0 : Int) + (i : Int) * (C : Int) + (C : Int))))) h2
    have hD5 := s2 _ _ hD3
    have hlen := hC3.len
    have tp : ∀ a xs, (upd (upd H4 p1 (.lst (cutV (nv m) (some ((0 : Int) + (i : Int) * (C : Int))) (some ((0 : Int) + (i : Int) * (C : Int) + (C : Int)))))) p2 (.tup (cutV (nv m) (some ((0 : Int) + (i : Int) * (C : Int))) (some ((0 : Int) + (i : Int) * (C : Int) + (C : Int)))))) a = some (.tup xs) → upd (upd (upd H4 p1 (.lst (cutV (nv m) (some ((0 : Int) + (i : Int) * (C : Int))) (some ((0 : Int) + (i : Int) * (C : Int) + (C : Int)))))) p2 (.tup (cutV (nv m) (some ((0 : Int) + (i : Int) * (C : Int))) (some ((0 : Int) + (i : Int) * (C : Int) + (C : Int)))))) D (.lst (rv cs ++ [V.ref p2])) a = some (.tup xs) := fun a xs z => by
      rw [upd_ne (ne_of z hD5 fun z => nomatch z)]
      exact z
    refine ⟨rv cs, hD5, ?_, sPut (s3.trans s2) hD, cs ++ [p2], by rw [upd_same, rv_snoc], ?_⟩
    · rw [rv, List.length_map, hlen]
      refine sizeK ?_
      have := List.length_take_le' i (rowsOf m C S)
      unfold rowsOf at this ⊢
      rw [List.length_map, List.length_range] at this
      omega
    · have ei : (rowsOf m C S).take (i + 1) = (rowsOf m C S).take i ++ [rowAt m C i] := by
        unfold rowsOf
        exact map_get (a := i) (by rw [List.getElem?_range hi])
      rw [ei]
      refine AllT.snoc (tp _ _ ?_) (hC3.mono fun a xs z => tp _ _ (s2 _ _ z))
      rw [upd_same, e0, cut_nv hle]
      rfl
  · rintro H3 ⟨s3, cs, hD3, hC3⟩
    rw [List.take_of_length_le (by unfold rowsOf; rw [List.length_map, List.length_range]; exact Nat.le_refl _)] at hC3
    exact q D _ s3 ⟨cs, hD3, hC3⟩
def sp_check_sums (K : Kf) : Sp := fun vs H Q E => ∃ (a b : Addr) (sts : List Station) (n : List Nat) (rows : List (List Nat)), vs = [.ref a, .ref b] ∧ NetR K H a sts n ∧ LT H b rows ∧ (∀ m ∈ rows, m.length = n.length) ∧ rows.length ≤ 1000 ∧ (BadS rows n → Er K "NoResult" (-33) H E) ∧ (¬ BadS rows n → ∀ H', Same H H' → Q .non H')
theorem sc_check_sums : FnScope ["network", "rows", "customer_class", "population", "numbers"] ["network", "rows"] (defScope (top 107)) := ⟨rfl, rfl, rfl, by decide +kernel, rfl, by decide +kernel, by decide +kernel⟩
theorem d_check_sums (T : Facts K mg) : Dfn P w K mg base (L2.CX P w) 4 "check_sums" ["network", "rows"] (sp_check_sums K) := by
  refine dfnX (T.d 79 rfl) sc_check_sums (fun _ _ _ _ _ _ us hl => match us, hl with | [_, _], _ => rfl) (fun vs H Q E h => by obtain ⟨a, b, sts, n, rows, rfl, _⟩ := h; rfl) fun cdv A outer s H vs Q E hr h => ⟨_,
    (pss_one (ps_for (passes_of rfl) rfl (pi_enumT (by rfl) T.f_enumerate (pa_cons (pe_fld (pv 0) rfl) pa_nil)) (pg_tup rfl (pgs_cons (pg_name (i := 2) sc_check_sums.nd rfl (Or.inr rfl)) (pgs_cons (pg_name (i := 3) sc_check_sums.nd rfl (Or.inl rfl)) pgs_nil)))
        (pss_one (ps_if (pt_cmpR op_ne (pe_callB (cr_sum rfl) (by rfl) T.f_sum boot_sum (pa_cons (by exact (pe_lc rfl sc_check_sums.nd (pi_list (pv 1)) (blkOk_by (own := [("numbers", 4)]) (N := ["network", "rows", "customer_class", "population", "numbers"]) (sc := defScope (top 107)) (by decide +kernel)) (fun _ _ _ _ _ => by exact (pg_name (i := 4) sc_check_sums.nd rfl (Or.inl rfl) (Or.inr rfl))) (fun _ _ _ _ _ => by exact pts_nil) (fun _ _ _ _ _ => by exact (pe_ix ix_tupB (pv 4) (pv 2) (fun _ _ => rfl))))) pa_nil)) (pv 3) (nomark _))
            (pss_one (ps_err (T.e 5 rfl).1 (ini_NoResult T) hr rfl (takes_of rfl rfl rfl rfl)))
            pss_nil)))), ?_⟩
  obtain ⟨a, b, sts, n, rows, rfl, ⟨dx, l, p, ha, hl, hp⟩, ⟨bs, hb, hB⟩, hlen, h1000, hbad, hgood⟩ := h
  have eb : (rv bs).length = rows.length := by rw [rv, List.length_map]; exact hB.len
  refine ⟨_, rfl, a, _, dx, _, _, rfl, ha, T.cl_Network, T.n_populations, nfP, p, _, rfl, hp.sq, for_it walk_enumT (fun i σ H1 => Same H H1 ∧ (∀ r, r < i → rsum rows r = count n r) ∧ ∃ v2 v3, σ = [some (.ref a), some (.ref b), v2, v3, none])
    ⟨Same.refl H, (fun r hr => absurd hr (Nat.not_lt_zero r)), none, none, rfl⟩ (fun i σ H1 _ h => (TN.mono h.1 hp).sq) ?_ ?_⟩
  · rintro i x σ H1 H2 hi ⟨s1, hj, v2, v3, rfl⟩ ⟨t, x1, x2, rfl, ht1, rfl, h1, h2⟩
    obtain ⟨hin, rfl⟩ := nvE2 h2
    obtain rfl := Option.some.inj h1
    have s2 : Same H (upd H1 t (.tup [.int (i : Nat), .int (count n i : Int)])) := sNew s1 ht1
    refine ⟨t, _, rfl, SqT.of upd_same, rfl, _, _, rfl, _, _, rfl, rfl, ?_⟩
    refine ⟨_, rfl, b, rfl, ⟨_, SqL.of (s2 _ _ hb)⟩, fun D hD => ?_⟩
    refine lc_it walk_list (fun j H5 => Same (upd H1 t (.tup [.int (i : Nat), .int (count n i : Int)])) H5 ∧ H5 D = some (.lst (nv ((rows.map fun m => count m i).take j)))) ⟨same_new hD, upd_same⟩ (fun j H5 _ h => SqL.of (h.1 _ _ (s2 _ _ hb))) ?_ ?_
    · rintro j x5 H5 H6 hj5 ⟨s5, hcs⟩ ⟨rfl, hx⟩
      obtain ⟨c, hc, rfl⟩ := rv_get hx
      obtain ⟨m, hm, hcm⟩ := hB.get hc
      refine ⟨rfl, ?_⟩
      refine yes ?_
      refine ⟨_, rfl, _, rfl, c, _, _, _, rfl, rfl, ((TN.mono (s2.trans s5) hcm)).sq, nv_at (by rw [hlen m (List.mem_of_getElem? hm)]; exact hin), _, hcs, by rw [nv_len]; exact sizeK (by have z1 := List.length_take_le' j (rows.map fun m => count m i); rw [List.length_map] at z1; omega), sPut s5 hD, ?_⟩
      rw [upd_same, map_get hm, nv_append]
      rfl
    · rintro H5 ⟨s5, hcs⟩
      rw [eb, ← List.length_map (as := rows) (f := fun m => count m i), List.take_length] at hcs
      refine ⟨D, _, rfl, by rw [← nv_int]; exact SqL.of hcs, ?_⟩
      rw [ns_int]
      refine ⟨_, rfl, rfl, ?_⟩
      have s25 := s2.trans s5
      by_cases e : rsum rows i = count n i
      · refine ⟨false, neF (congrArg (fun k : Nat => (k : Int)) e), iteF ⟨s25, fun r hr2 => ?_, some (.int (i : Nat)), some (.int (count n i : Int)), rfl⟩⟩
        by_cases er : r = i
        · rw [er]; exact e
        · exact hj r (by omega)
      · refine ⟨true, neT (fun z => e (Int.ofNat.inj z)), iteT ?_⟩
        exact (hbad ⟨i, hin, e⟩).mono s25
  · rintro σ H1 ⟨s1, hj, v2, v3, rfl⟩
    rw [nv_len] at hj
    exact hgood (fun ⟨r, hr2, z⟩ => z (hj r hr2)) _ s1
def sp_state_probability (K : Kf) : Sp := fun vs H Q E => ∃ (a b : Addr) (m : List Nat) (sts : List Station) (n : List Nat), vs = [.ref a, .ref b] ∧ H b = some (.lst (nv m)) ∧ Net K H a sts n ∧ Ans K (Res sts n (.stateProbability m)) H Q E
theorem sc_state_probability : FnScope ["network", "state", "class_count", "rows"] ["network", "state"] (defScope (top 105)) := ⟨rfl, rfl, rfl, by decide +kernel, rfl, by decide +kernel, by decide +kernel⟩
theorem d_state_probability (T : Facts K mg) : Dfn P w K mg base (L2.CX P w) 7 "state_probability" ["network", "state"] (sp_state_probability K) := by
  refine dfnX (T.d 77 rfl) sc_state_probability (fun _ _ _ _ _ _ us hl => match us, hl with | [_, _], _ => rfl) (fun vs H Q E h => by obtain ⟨a, b, m, sts, n, rfl, _⟩ := h; rfl) fun cdv A outer s H vs Q E hr h => ⟨_,
    (pss_cons (ps_set (i := 2) sc_state_probability.nd rfl (Or.inl rfl) (pe_callB call_len_seq (by rfl) T.f_len PySem.boot_len (pa_cons (pe_fld (pv 0) rfl) pa_nil)))
    (pss_cons (ps_expr (pe_dfn (d_check_numbers T) hr (passes_call (takes_of rfl rfl rfl rfl) (fun _ _ _ _ z => z)) (pa_cons (pv 1) (pa_cons (pe_op op_mulW (pe_callB call_len_seq (by rfl) T.f_len PySem.boot_len (pa_cons (pe_fld (pv 0) rfl) pa_nil)) (pv 2)) pa_nil))))
    (pss_cons (ps_set (i := 3) sc_state_probability.nd rfl (Or.inl rfl) (pe_dfn (d_rows_of T) (hr.mono (by decide)) pass0 (pa_cons (pv 1) (pa_cons (pv 2) pa_nil))))
    (pss_cons (ps_expr (pe_dfn (d_check_sums T) (hr.mono (by decide)) (passes_call (takes_of rfl rfl rfl rfl) (fun _ _ _ _ z => z)) (pa_cons (pv 0) (pa_cons (pv 3) pa_nil))))
    (pss_cons (ps_expr (pe_mth0 (m_check_proper T) (hr.mono (by decide)) (passes_call (takes_of rfl rfl rfl rfl) (fun _ _ _ _ z => z)) (pv 0)))
    (pss_one (ps_ret (pe_dfn (d_fraction_answer T) (hr.mono (by decide)) pass0 (pa_cons (pe_dfn (d_rows_probability T) hr pass0 (pa_cons (pe_fld (pv 0) rfl) (pa_cons (pe_fld (pv 0) rfl) (pa_cons (pv 3) pa_nil)))) pa_nil))))))))), ?_⟩
  obtain ⟨a, b, m, sts, n, rfl, hb0, hN, h⟩ := h
  obtain ⟨dx, l, p, ha, hl, hp⟩ := hN.net
  obtain ⟨as, hl1, hA⟩ := id hl
  rw [CQ.res_stateProbability] at h
  have hn3 := hN.fit.fl.len
  have hs5 := hN.fit.n5
  refine ⟨_, rfl, a, _, dx, _, _, rfl, ha, T.cl_Network, T.n_populations, nfP, p, _, rfl, .inr hp.sq, ?_⟩
  rw [nv_len]
  refine ⟨_, rfl, _, rfl, a, _, dx, _, _, rfl, ha, T.cl_Network, T.n_stations, nfS, l, _, rfl, .inl (SqL.of hl1), ?_⟩
  rw [rv_len hA]
  refine ⟨_, rfl, _, _, rfl, rfl, wide_mul (a := 10) (b := 10) (by omega) (by omega) (by decide) (by decide) (by decide), ?_⟩
  refine ⟨b, m, sts.length * n.length, by rw [Int.natCast_mul]; rfl, hb0, fun hb => h.er 3 rfl (if_pos hb), fun hc => ?_⟩
  rw [if_neg hc] at h
  have hm : m.length = sts.length * n.length := Decidable.byContradiction fun z => hc (.inl z)
  refine ⟨_, rfl, _, rfl, b, sts.length, n.length, m, rfl, hb0, hN.cl, hn3, hs5, hm, fun t1 H1 s1 ht1 => ?_⟩
  refine ⟨_, rfl, _, rfl, a, t1, sts, n, rowsOf m n.length sts.length, rfl, hN.net.mono s1, ht1, fun x hx => ?_, ?_, fun hb => ?_, fun hg0 H2 s2 => ?_⟩
  · obtain ⟨i, hi, rfl⟩ := List.mem_map.mp hx
    exact CQ.row_len hm (List.mem_range.mp hi)
  · unfold rowsOf
    rw [List.length_map, List.length_range]
    omega
  · exact (h.er 5 rfl (if_pos (CQ.any_bad.mpr hb))).mono s1
  rw [if_neg fun z => hg0 (CQ.any_bad.mp z)] at h
  have s12 := s1.trans s2
  refine ⟨_, rfl, a, dx, _, rfl, s12 _ _ ha, rfl, a, sts, n, rfl, hN.net.mono s12, hN.dl, fun hb => (h.er 5 rfl (CQ.prp_bad hb)).mono s12, fun hg H3 s3 => ?_⟩
  have s13 := s12.trans s3
  rw [CQ.prp_ok hg, CQ.stateProbability_fr hN.fit hm] at h
  refine ⟨_, rfl, a, _, dx, _, _, rfl, s13 _ _ ha, T.cl_Network, T.n_stations, nfS, _, rfl, a, _, dx, _, _, rfl, s13 _ _ ha, T.cl_Network, T.n_populations, nfP, _, rfl, l, p, t1, sts, n, rowsOf m n.length sts.length, rfl, hl.mono s13, hp.mono s13, LT.mono (s2.trans s3) ht1, by unfold rowsOf; rw [List.length_map, List.length_range], CQ.rows_le hm hg0, hN.fit, hN.pos hg, fun t2 H4 s4 ht2 => ?_⟩
  exact ⟨t2, _, rfl, ht2, fun t3 H5 s5 f9 ht3 => h.frac rfl t3 _ ((s13.trans s4).trans s5) ((s13.trans s4).free f9) ht3⟩
end
end Cq
end
section
set_option Elab.async false
set_option linter.all false
set_option maxRecDepth 100000
set_option maxHeartbeats 4000000
set_option exponentiation.threshold 100000
namespace Cq
open PySem PySem.Spec PyProof.Rows L2 CqR
open Lrx5 (Station Network below minus factorial count without demand error fractionResult fractionsResult isProper)
open CQ (FitL FitS Fit vec leL sta Sm thr nrm stay qd mv Proper simple rs tot Res Bad mean pr)
theorem sim_eq {sts : List Station} {n : List Nat} : (sts.all fun s => s.isDelay || s.servers == 1) = Lrx5.isSimple ⟨sts, n⟩ := rfl
section
variable {P : Program} {w : World} {K : Kf} {mg : Str → Option Value} {base : Heap}
def sp_mean_values (K : Kf) : Sp := fun vs H Q E => ∃ (a : Addr) (sts : List Station) (n : List Nat), vs = [.ref a] ∧ Net K H a sts n ∧ Ans K (Res sts n .meanValues) H Q E
theorem sc_mean_values : FnScope ["network", "table"] ["network"] (defScope (top 83)) := ⟨rfl, rfl, rfl, by decide +kernel, rfl, by decide +kernel, by decide +kernel⟩
theorem d_mean_values (T : Facts K mg) : Dfn P w K mg base (L2.CX P w) 8 "mean_values" ["network"] (sp_mean_values K) := by
  refine dfnX (T.d 57 rfl) sc_mean_values (fun _ _ _ _ _ _ us hl => match us, hl with | [_], _ => rfl) (fun vs H Q E h => by obtain ⟨a, sts, n, rfl, _⟩ := h; rfl) fun cdv A outer s H vs Q E hr h => ⟨_,
    (pss_cons (ps_expr (pe_mth0 (m_check_simple T) (hr.mono (by decide)) (passes_call (takes_of rfl rfl rfl rfl) (fun _ _ _ _ z => z)) (pv 0)))
    (pss_cons (ps_expr (pe_mth0 (m_check_proper T) (hr.mono (by decide)) (passes_call (takes_of rfl rfl rfl rfl) (fun _ _ _ _ z => z)) (pv 0)))
    (pss_cons (ps_set (i := 1) sc_mean_values.nd rfl (Or.inl rfl) (pe_dfn (d_means_table T) hr pass0 (pa_cons (pe_fld (pv 0) rfl) (pa_cons (pe_fld (pv 0) rfl) pa_nil))))
    (pss_one (ps_ret (pe_dfn (d_fractions_answer T) (hr.mono (by decide)) pass0 (pa_cons (pe_dget (hu_of hr) (pv 1) (pe_fld (pv 0) rfl) (fun _ _ => rfl)) pa_nil))))))), ?_⟩
  obtain ⟨a, sts, n, rfl, hN, h⟩ := h
  obtain ⟨dx, l, p, ha, hl, hp⟩ := hN.net
  rw [CQ.res_meanValues] at h
  refine ⟨_, rfl, a, dx, _, rfl, ha, rfl, a, sts, n, rfl, hN.net, hN.fit.srv, fun hb => h.er 5 rfl (if_pos hb), fun hs => ?_⟩
  have hs2 : Lrx5.isSimple ⟨sts, n⟩ = true := by rw [sim_eq (n := n)] at hs; simpa using hs
  rw [if_neg (by rw [hs2]; exact Bool.noConfusion)] at h
  refine ⟨_, rfl, a, dx, _, rfl, ha, rfl, a, sts, n, rfl, hN.net, hN.dl, fun hb => h.er 5 rfl (CQ.prp_bad hb), fun hg H1 s1 => ?_⟩
  have hv : Mv sts n := ⟨hN.fit, CQ.simple_iff.mp hs2, CQ.proper_iff.mp hg⟩
  rw [CQ.prp_ok hg, CQ.meanValues_fr hN.fit hv.sim hv.pro] at h
  refine ⟨_, rfl, a, _, dx, _, _, rfl, s1 _ _ ha, T.cl_Network, T.n_stations, nfS, _, rfl, a, _, dx, _, _, rfl, s1 _ _ ha, T.cl_Network, T.n_populations, nfP, l, p, sts, n, rfl, hl.mono s1, hp.mono s1, hv, fun t2 H2 s2 ht2 => ?_⟩
  have s12 := s1.trans s2
  obtain ⟨m, g1, g2⟩ := ht2.get (CQ.mem_below.mpr (CQ.leL_refl n)) (hp.mono s12)
  refine ⟨_, rfl, _, rfl, a, _, dx, _, _, rfl, s12 _ _ ha, T.cl_Network, T.n_populations, nfP, t2, _, rfl, g1, ?_⟩
  exact ⟨m, _, rfl, g2, by rw [List.length_map]; exact Nat.le_trans hN.fit.n5 (by decide), fun t3 H3 s3 f9 ht3 => h.fracs rfl t3 _ (s12.trans s3) (s12.free f9) ht3⟩
def sp_mva_throughput (K : Kf) : Sp := fun vs H Q E => ∃ (a : Addr) (r : Nat) (sts : List Station) (n : List Nat), vs = [.ref a, .int r] ∧ Net K H a sts n ∧ Ans K (Res sts n (.mvaThroughput r)) H Q E
theorem sc_mva_throughput : FnScope ["network", "customer_class", "table", "stays"] ["network", "customer_class"] (defScope (top 84)) := ⟨rfl, rfl, rfl, by decide +kernel, rfl, by decide +kernel, by decide +kernel⟩
theorem d_mva_throughput (T : Facts K mg) : Dfn P w K mg base (L2.CX P w) 8 "mva_throughput" ["network", "customer_class"] (sp_mva_throughput K) := by
  refine dfnX (T.d 58 rfl) sc_mva_throughput (fun _ _ _ _ _ _ us hl => match us, hl with | [_, _], _ => rfl) (fun vs H Q E h => by obtain ⟨a, r, sts, n, rfl, _⟩ := h; rfl) fun cdv A outer s H vs Q E hr h => ⟨_,
    (pss_cons (ps_expr (pe_mth (m_check_class T) (hr.mono (by decide)) (passes_call (takes_of rfl rfl rfl rfl) (fun _ _ _ _ z => z)) (pv 0) (pa_cons (pv 1) pa_nil)))
    (pss_cons (ps_expr (pe_mth0 (m_check_simple T) (hr.mono (by decide)) (passes_call (takes_of rfl rfl rfl rfl) (fun _ _ _ _ z => z)) (pv 0)))
    (pss_cons (ps_expr (pe_mth0 (m_check_proper T) (hr.mono (by decide)) (passes_call (takes_of rfl rfl rfl rfl) (fun _ _ _ _ z => z)) (pv 0)))
    (pss_cons (ps_if (pt_cmpR op_eq (pe_ix ix_tup (pe_fld (pv 0) rfl) (pv 1) (fun _ _ => rfl)) pe_int (nomark _))
        (pss_one (ps_ret (pe_dfn (d_fraction_answer T) (hr.mono (by decide)) pass0 (pa_cons (pe_tup (pa_cons pe_int (pa_cons pe_int pa_nil))) pa_nil))))
        pss_nil)
    (pss_cons (ps_set (i := 2) sc_mva_throughput.nd rfl (Or.inl rfl) (pe_dfn (d_means_table T) hr pass0 (pa_cons (pe_fld (pv 0) rfl) (pa_cons (pe_fld (pv 0) rfl) pa_nil))))
    (pss_cons (ps_set (i := 3) sc_mva_throughput.nd rfl (Or.inl rfl) (pe_dfn (d_stays_at T) (hr.mono (by decide)) pass0 (pa_cons (pe_fld (pv 0) rfl) (pa_cons (pe_fld (pv 0) rfl) (pa_cons (pv 1) (pa_cons (pv 2) pa_nil))))))
    (pss_one (ps_ret (pe_dfn (d_fraction_answer T) (hr.mono (by decide)) pass0 (pa_cons (pe_dfn (d_rate_of T) (hr.mono (by decide)) pass0 (pa_cons (pe_ix ix_tup (pe_fld (pv 0) rfl) (pv 1) (fun _ _ => rfl)) (pa_cons (pv 3) pa_nil))) pa_nil)))))))))), ?_⟩
  obtain ⟨a, r, sts, n, rfl, hN, h⟩ := h
  obtain ⟨dx, l, p, ha, hl, hp⟩ := hN.net
  rw [CQ.res_mvaThroughput] at h
  refine ⟨_, rfl, a, dx, _, rfl, ha, rfl, _, rfl, a, r, sts, n, rfl, hN.net, fun hb => h.er 1 rfl (CQ.onC_bad hb), fun hr2 => ?_⟩
  have hr2 := Decidable.not_not.mp hr2
  rw [CQ.onC_ok hr2] at h
  refine ⟨_, rfl, a, dx, _, rfl, ha, rfl, a, sts, n, rfl, hN.net, hN.fit.srv, fun hb => h.er 5 rfl (if_pos hb), fun hs => ?_⟩
  have hs2 : Lrx5.isSimple ⟨sts, n⟩ = true := by rw [sim_eq (n := n)] at hs; simpa using hs
  rw [if_neg (by rw [hs2]; exact Bool.noConfusion)] at h
  refine ⟨_, rfl, a, dx, _, rfl, ha, rfl, a, sts, n, rfl, hN.net, hN.dl, fun hb => h.er 5 rfl (CQ.prp_bad hb), fun hg H1 s1 => ?_⟩
  have hv : Mv sts n := ⟨hN.fit, CQ.simple_iff.mp hs2, CQ.proper_iff.mp hg⟩
  rw [CQ.prp_ok hg, CQ.mva_fr hN.fit hv.sim hv.pro hr2] at h
  refine ⟨_, rfl, a, _, dx, _, _, rfl, s1 _ _ ha, T.cl_Network, T.n_populations, nfP, _, rfl, p, _, _, _, rfl, rfl, (hp.mono s1).sq, nv_at hr2, rfl, ?_⟩
  by_cases hc : count n r = 0
  · refine ⟨true, eqT (by omega), iteT ⟨by decide, fun t1 ht1 => ?_⟩⟩
    rw [count_zero hc] at h
    have s2 := same_new (o := .tup [.int 0, .int 1]) ht1
    exact ⟨t1, 0, rfl, upd_same, fun t3 H3 s3 f9 ht3 => h.frac rfl t3 _ ((s1.trans s2).trans s3) ((s1.trans s2).free f9) ht3⟩
  · refine ⟨false, eqF (by omega), iteF ?_⟩
    refine ⟨_, rfl, a, _, dx, _, _, rfl, s1 _ _ ha, T.cl_Network, T.n_stations, nfS, _, rfl, a, _, dx, _, _, rfl, s1 _ _ ha, T.cl_Network, T.n_populations, nfP, l, p, sts, n, rfl, hl.mono s1, hp.mono s1, hv, fun t2 H2 s2 ht2 => ?_⟩
    have s12 := s1.trans s2
    refine ⟨_, rfl, a, _, dx, _, _, rfl, s12 _ _ ha, T.cl_Network, T.n_stations, nfS, _, rfl, a, _, dx, _, _, rfl, s12 _ _ ha, T.cl_Network, T.n_populations, nfP, _, rfl, _, rfl, l, p, t2, r, sts, n, _, rfl, hl.mono s12, hp.mono s12, hv, hr2, hc, ht2, CQ.mem_below.mpr (CQ.leL_without n r), fun st H3 s3 hst => ?_⟩
    have s13 := s12.trans s3
    have hv2 := hv.sub (CQ.leL_without n r)
    have hsS : ∀ q ∈ sts.map (stay sts r (without n r)), Sm 1412 q := fun q hq => by
      obtain ⟨s, ms, rfl⟩ := List.mem_map.mp hq
      exact CQ.stay_sm hv2.fit ms (hv.sim s ms) hv2.pro r
    obtain ⟨er, pr⟩ := CQ.rate_eq hv.fit.good hv.sim rfl hv.pro hr2 hc
    have hk12 := count_lt hv.fit.fl r (CQ.leL_refl n)
    refine ⟨_, rfl, a, _, dx, _, _, rfl, s13 _ _ ha, T.cl_Network, T.n_populations, nfP, _, rfl, p, _, _, _, rfl, rfl, (hp.mono s13).sq, nv_at hr2, _, rfl, st, count n r, 7066, 1412, _, rfl, hk12, hst, take_sm (n := 5) hsS (by rw [List.length_map]; exact hN.fit.n5), hsS, by decide, pr, fun rt H6 s6 hrt => ?_⟩
    rw [er] at hrt
    exact ⟨rt, _, rfl, hrt, fun t3 H7 s7 f9 ht3 => h.frac rfl t3 _ ((s13.trans s6).trans s7) ((s13.trans s6).free f9) ht3⟩
def sp_arrival_sees (K : Kf) : Sp := fun vs H Q E => ∃ (a : Addr) (i r : Nat) (sts : List Station) (n : List Nat), vs = [.ref a, .int i, .int r] ∧ Net K H a sts n ∧ Ans K (Res sts n (.arrivalSees i r)) H Q E
theorem sc_arrival_sees : FnScope ["network", "station", "customer_class", "others"] ["network", "station", "customer_class"] (defScope (top 78)) := ⟨rfl, rfl, rfl, by decide +kernel, rfl, by decide +kernel, by decide +kernel⟩
theorem d_arrival_sees (T : Facts K mg) : Dfn P w K mg base (L2.CX P w) 8 "arrival_sees" ["network", "station", "customer_class"] (sp_arrival_sees K) := by
  refine dfnX (T.d 53 rfl) sc_arrival_sees (fun _ _ _ _ _ _ us hl => match us, hl with | [_, _, _], _ => rfl) (fun vs H Q E h => by obtain ⟨a, i, r, sts, n, rfl, _⟩ := h; rfl) fun cdv A outer s H vs Q E hr h => ⟨_,
    (pss_cons (ps_expr (pe_mth (m_check_station T) (hr.mono (by decide)) (passes_call (takes_of rfl rfl rfl rfl) (fun _ _ _ _ z => z)) (pv 0) (pa_cons (pv 1) pa_nil)))
    (pss_cons (ps_expr (pe_mth (m_check_class T) (hr.mono (by decide)) (passes_call (takes_of rfl rfl rfl rfl) (fun _ _ _ _ z => z)) (pv 0) (pa_cons (pv 2) pa_nil)))
    (pss_cons (ps_expr (pe_mth (m_check_customers T) (hr.mono (by decide)) (passes_call (takes_of rfl rfl rfl rfl) (fun _ _ _ _ z => z)) (pv 0) (pa_cons (pv 2) pa_nil)))
    (pss_cons (ps_expr (pe_mth0 (m_check_proper T) (hr.mono (by decide)) (passes_call (takes_of rfl rfl rfl rfl) (fun _ _ _ _ z => z)) (pv 0)))
    (pss_cons (ps_set (i := 3) sc_arrival_sees.nd rfl (Or.inl rfl) (pe_dfn (d_one_less T) (hr.mono (by decide)) pass0 (pa_cons (pe_fld (pv 0) rfl) (pa_cons (pv 2) pa_nil))))
    (pss_one (ps_ret (pe_dfn (d_fraction_answer T) (hr.mono (by decide)) pass0 (pa_cons (pe_dfn (d_station_mean T) hr pass0 (pa_cons (pe_fld (pv 0) rfl) (pa_cons (pv 3) (pa_cons (pv 1) pa_nil)))) pa_nil))))))))), ?_⟩
  obtain ⟨a, i, r, sts, n, rfl, hN, h⟩ := h
  obtain ⟨dx, l, p, ha, hl, hp⟩ := hN.net
  rw [CQ.res_arrivalSees] at h
  refine ⟨_, rfl, a, dx, _, rfl, ha, rfl, _, rfl, a, i, sts, n, rfl, hN.net, fun hb => h.er 1 rfl (CQ.onS_bad hb), fun hi => ?_⟩
  have hi := Decidable.not_not.mp hi
  rw [CQ.onS_ok hi] at h
  refine ⟨_, rfl, a, dx, _, rfl, ha, rfl, _, rfl, a, r, sts, n, rfl, hN.net, fun hb => h.er 1 rfl (CQ.onC_bad hb), fun hr2 => ?_⟩
  have hr2 := Decidable.not_not.mp hr2
  rw [CQ.onC_ok hr2] at h
  refine ⟨_, rfl, a, dx, _, rfl, ha, rfl, _, rfl, a, r, sts, n, rfl, hN.net, hr2, fun hb => h.er 2 rfl (if_pos hb), fun hc => ?_⟩
  rw [if_neg hc] at h
  refine ⟨_, rfl, a, dx, _, rfl, ha, rfl, a, sts, n, rfl, hN.net, hN.dl, fun hb => h.er 5 rfl (CQ.prp_bad hb), fun hg H1 s1 => ?_⟩
  rw [CQ.prp_ok hg, CQ.arrival_fr hN.fit hi] at h
  have hpw := CQ.nrm_pos' (hN.fit.sub (CQ.leL_without n r)).good ((CQ.proper_iff.mp hg).le (CQ.leL_without n r))
  refine ⟨_, rfl, a, _, dx, _, _, rfl, s1 _ _ ha, T.cl_Network, T.n_populations, nfP, _, rfl, p, n, r, rfl, hp.mono s1, hr2, hc, fun t1 H2 s2 ht1 => ?_⟩
  have s12 := s1.trans s2
  refine ⟨_, rfl, a, _, dx, _, _, rfl, s12 _ _ ha, T.cl_Network, T.n_stations, nfS, _, rfl, _, rfl, l, t1, i, sts, without n r, rfl, hl.mono s12, hi, ht1, hN.fit.sub (CQ.leL_without n r), hpw, fun t2 H3 s3 ht2 => ?_⟩
  exact ⟨t2, _, rfl, ht2, fun t3 H4 s4 f9 ht3 => h.frac rfl t3 _ ((s12.trans s3).trans s4) ((s12.trans s3).free f9) ht3⟩
def sp_curve (K : Kf) : Sp := fun vs H Q E => ∃ (a : Addr) (r m : Nat) (sts : List Station) (n : List Nat), vs = [.ref a, .int r, .int m] ∧ Net K H a sts n ∧ Ans K (Res sts n (.curve r m)) H Q E
theorem sc_curve : FnScope ["network", "customer_class", "most", "populations"] ["network", "customer_class", "most"] (defScope (top 79)) := ⟨rfl, rfl, rfl, by decide +kernel, rfl, by decide +kernel, by decide +kernel⟩
theorem d_curve (T : Facts K mg) : Dfn P w K mg base (L2.CX P w) 7 "curve" ["network", "customer_class", "most"] (sp_curve K) := by
  refine dfnX (T.d 54 rfl) sc_curve (fun _ _ _ _ _ _ us hl => match us, hl with | [_, _, _], _ => rfl) (fun vs H Q E h => by obtain ⟨a, r, m, sts, n, rfl, _⟩ := h; rfl) fun cdv A outer s H vs Q E hr h => ⟨_,
    (pss_cons (ps_expr (pe_mth (m_check_class T) (hr.mono (by decide)) (passes_call (takes_of rfl rfl rfl rfl) (fun _ _ _ _ z => z)) (pv 0) (pa_cons (pv 1) pa_nil)))
    (pss_cons (ps_expr (pe_dfn (d_check_population T) (hr.mono (by decide)) (passes_call (takes_of rfl rfl rfl rfl) (fun _ _ _ _ z => z)) (pa_cons (pv 2) pa_nil)))
    (pss_cons (ps_set (i := 3) sc_curve.nd rfl (Or.inl rfl) (pe_dfn (d_with_customers T) (hr.mono (by decide)) pass0 (pa_cons (pe_fld (pv 0) rfl) (pa_cons (pv 1) (pa_cons (pv 2) pa_nil)))))
    (pss_cons (ps_expr (pe_dfn (d_check_fits T) (hr.mono (by decide)) (passes_call (takes_of rfl rfl rfl rfl) (fun _ _ _ _ z => z)) (pa_cons (pv 3) pa_nil)))
    (pss_cons (ps_expr (pe_dfn (d_require_proper T) (hr.mono (by decide)) (passes_call (takes_of rfl rfl rfl rfl) (fun _ _ _ _ z => z)) (pa_cons (pe_fld (pv 0) rfl) (pa_cons (pe_dfn (d_with_customers T) (hr.mono (by decide)) pass0 (pa_cons (pv 3) (pa_cons (pv 1) (pa_cons (pe_callB (call_max2 rfl) (by rfl) T.f_max boot_max (pa_cons pe_int (pa_cons (pv 2) pa_nil))) pa_nil)))) pa_nil))))
    (pss_one (ps_ret (pe_dfn (d_fractions_answer T) (hr.mono (by decide)) pass0 (pa_cons (pe_dfn (d_throughput_curve T) hr pass0 (pa_cons (pe_fld (pv 0) rfl) (pa_cons (pv 3) (pa_cons (pv 1) pa_nil)))) pa_nil))))))))), ?_⟩
  obtain ⟨a, r, m, sts, n, rfl, hN, h⟩ := h
  obtain ⟨dx, l, p, ha, hl, hp⟩ := hN.net
  rw [CQ.res_curve] at h
  refine ⟨_, rfl, a, dx, _, rfl, ha, rfl, _, rfl, a, r, sts, n, rfl, hN.net, fun hb => h.er 1 rfl (CQ.onC_bad hb), fun hr2 => ?_⟩
  have hr2 := Decidable.not_not.mp hr2
  rw [CQ.onC_ok hr2] at h
  refine ⟨_, rfl, m, rfl, fun hb => h.er 3 rfl (if_pos hb), fun h12 => ?_⟩
  rw [if_neg h12] at h
  refine ⟨_, rfl, a, _, dx, _, _, rfl, ha, T.cl_Network, T.n_populations, nfP, _, rfl, _, rfl, p, n, r, m, rfl, hp, hr2, fun t1 H1 s1 ht1 => ?_⟩
  refine ⟨_, rfl, t1, n.set r m, rfl, ht1, set_le hN.fit.fl.le (by omega), by rw [List.length_set]; exact hN.fit.fl.len, fun hb => (h.er 4 rfl (if_pos hb)).mono s1, fun h40 => ?_⟩
  rw [if_neg h40] at h
  refine ⟨_, rfl, a, _, dx, _, _, rfl, s1 _ _ ha, T.cl_Network, T.n_stations, nfS, ?_⟩
  refine ⟨_, rfl, _, rfl, _, rfl, _, _, rfl, ?_⟩
  have em : (if (1 : Int) < (m : Int) then (m : Int) else 1) = ((max 1 m : Nat) : Int) := by split <;> omega
  refine ⟨t1, n.set r m, r, max 1 m, ?_, ht1, by rw [List.length_set]; exact hr2, fun t2 H2 s2 ht2 => ?_⟩
  · show [V.ref t1, V.int (r : Int), V.int (if (1 : Int) < (m : Int) then (m : Int) else 1)] = _
    rw [em]
  rw [CQ.set_set] at ht2
  have s12 := s1.trans s2
  refine ⟨l, t2, sts, n.set r (max 1 m), rfl, hl.mono s12, ht2, fun s hs => by rw [List.length_set]; exact hN.dl s hs, fun hb => (h.er 5 rfl (if_pos hb)).mono s12, fun hg H3 s3 => ?_⟩
  have s13 := s12.trans s3
  rw [if_neg (show ¬ Bad sts (n.set r (max 1 m)) by unfold Bad; rw [hg]; exact Bool.noConfusion)] at h
  have hf := CQ.fit_set (r := r) (k := m) hN.fit (by omega) (by omega)
  have ec : count (n.set r m) r = m := CQ.count_set_same hr2
  refine ⟨_, rfl, a, _, dx, _, _, rfl, s13 _ _ ha, T.cl_Network, T.n_stations, nfS, _, rfl, _, rfl, l, t1, sts, n.set r m, r, rfl, hl.mono s13, TN.mono (s2.trans s3) ht1, by rw [List.length_set]; exact hr2, hf, fun k hk hk0 => ?_, fun t3 H4 s4 ht3 => ?_⟩
  · rw [ec] at hk
    rw [CQ.set_set]
    have hp1 := (CQ.proper_iff.mp hg).le (CQ.leL_sets (n := n) (r := r) (j := k) (k := max 1 m) (by omega))
    exact CQ.nrm_pos (sts := sts) (n.set r k) hN.fit.srv hp1
  · rw [ec] at ht3
    have eq1 : ((List.range (m + 1)).map fun k => thr sts ((n.set r m).set r k) r) = (List.range (m + 1)).map fun k => thr sts (n.set r k) r := List.map_congr_left fun k _ => by rw [CQ.set_set]
    rw [eq1] at ht3
    have eq2 : ((List.range (m + 1)).map fun j => Lrx5.throughput ⟨sts, n.set r j⟩ r) = ((List.range (m + 1)).map fun k => thr sts (n.set r k) r).map CQ.fr := by
      rw [List.map_map]
      exact List.map_congr_left fun k _ => CQ.throughputs_fr hN.fit r k
    exact ⟨t3, _, rfl, ht3, by rw [List.length_map, List.length_range]; omega, fun t4 H5 s5 f9 ht4 => h.fracs (by rw [eq2]) t4 _ ((s13.trans s4).trans s5) ((s13.trans s4).free f9) ht4⟩
end
end Cq
end
section
set_option Elab.async false
set_option linter.all false
set_option maxRecDepth 100000
set_option maxHeartbeats 4000000
set_option exponentiation.threshold 100000
namespace Cq
open PySem PySem.Spec PyProof.Rows L2 CqR
open Lrx5 (Station Network below minus factorial count without demand error fractionResult fractionsResult isProper)
open CQ (FitL FitS Fit vec leL sta Sm thr nrm stay qd mv Proper simple rs tot Res Bad mean pr goalP)
section
variable {P : Program} {w : World} {K : Kf} {mg : Str → Option Value} {base : Heap}
def sp_fewest_customers (K : Kf) : Sp := fun vs H Q E => ∃ (a : Addr) (r c d : Nat) (sts : List Station) (n : List Nat), vs = [.ref a, .int r, .int c, .int d] ∧ Net K H a sts n ∧ Ans K (Res sts n (.fewestCustomers r c d)) H Q E
theorem sc_fewest_customers : FnScope ["network", "customer_class", "num", "den", "most", "populations", "customers", "rate"] ["network", "customer_class", "num", "den"] (defScope (top 80)) := ⟨rfl, rfl, rfl, by decide +kernel, rfl, by decide +kernel, by decide +kernel⟩
theorem d_fewest_customers (T : Facts K mg) : Dfn P w K mg base (L2.CX P w) 7 "fewest_customers" ["network", "customer_class", "num", "den"] (sp_fewest_customers K) := by
  refine dfnX (T.d 55 rfl) sc_fewest_customers (fun _ _ _ _ _ _ us hl => match us, hl with | [_, _, _, _], _ => rfl) (fun vs H Q E h => by obtain ⟨a, r, c, d, sts, n, rfl, _⟩ := h; rfl) fun cdv A outer s H vs Q E hr h => ⟨_,
    (pss_cons (ps_expr (pe_mth (m_check_class T) (hr.mono (by decide)) (passes_call (takes_of rfl rfl rfl rfl) (fun _ _ _ _ z => z)) (pv 0) (pa_cons (pv 1) pa_nil)))
    (pss_cons (ps_expr (pe_dfn (d_check_goal T) (hr.mono (by decide)) (passes_call (takes_of rfl rfl rfl rfl) (fun _ _ _ _ z => z)) (pa_cons (pv 2) (pa_cons (pv 3) pa_nil))))
    (pss_cons (ps_expr (pe_dfn (d_require_proper T) (hr.mono (by decide)) (passes_call (takes_of rfl rfl rfl rfl) (fun _ _ _ _ z => z)) (pa_cons (pe_fld (pv 0) rfl) (pa_cons (pe_dfn (d_with_customers T) (hr.mono (by decide)) pass0 (pa_cons (pe_fld (pv 0) rfl) (pa_cons (pv 1) (pa_cons pe_int pa_nil)))) pa_nil))))
    (pss_cons (ps_set (i := 4) sc_fewest_customers.nd rfl (Or.inl rfl) (pe_dfn (d_most_fitting T) (hr.mono (by decide)) pass0 (pa_cons (pe_fld (pv 0) rfl) (pa_cons (pv 1) pa_nil))))
    (pss_cons (ps_set (i := 5) sc_fewest_customers.nd rfl (Or.inl rfl) (pe_dfn (d_with_customers T) (hr.mono (by decide)) pass0 (pa_cons (pe_fld (pv 0) rfl) (pa_cons (pv 1) (pa_cons (pv 4) pa_nil)))))
    (pss_cons (ps_for (passes_of rfl) rfl (pi_enum (by rfl) T.f_enumerate (pa_cons (pe_dfn (d_throughput_curve T) hr pass0 (pa_cons (pe_fld (pv 0) rfl) (pa_cons (pv 5) (pa_cons (pv 1) pa_nil)))) pa_nil)) (pg_tup rfl (pgs_cons (pg_name (i := 6) sc_fewest_customers.nd rfl (Or.inl rfl)) (pgs_cons (pg_name (i := 7) sc_fewest_customers.nd rfl (Or.inl rfl)) pgs_nil)))
        (pss_one (ps_if (pt_not (pt_val (pe_dfn (d_is_less T) (hr.mono (by decide)) pass0 (pa_cons (pv 7) (pa_cons (pe_tup (pa_cons (pv 2) (pa_cons (pv 3) pa_nil))) pa_nil)))))
            (pss_one (ps_ret (pe_lst (pa_cons (pv 6) pa_nil))))
            pss_nil)))
    (pss_one (ps_err (T.e 5 rfl).1 (ini_NoResult T) (hr.mono (by decide)) rfl (takes_of rfl rfl rfl rfl))))))))), ?_⟩
  obtain ⟨a, r, c, d, sts, n, rfl, hN, h⟩ := h
  obtain ⟨dx, l, p, ha, hl, hp⟩ := hN.net
  rw [CQ.res_few] at h
  refine ⟨_, rfl, a, dx, _, rfl, ha, rfl, _, rfl, a, r, sts, n, rfl, hN.net, fun hb => h.er 1 rfl (CQ.onC_bad hb), fun hr2 => ?_⟩
  have hr2 := Decidable.not_not.mp hr2
  rw [CQ.onC_ok hr2] at h
  refine ⟨_, rfl, _, rfl, c, d, rfl, fun hb => h.er 3 rfl (if_pos hb), fun hcd => ?_⟩
  rw [if_neg hcd] at h
  refine ⟨_, rfl, a, _, dx, _, _, rfl, ha, T.cl_Network, T.n_stations, nfS, ?_⟩
  refine ⟨_, rfl, a, _, dx, _, _, rfl, ha, T.cl_Network, T.n_populations, nfP, _, rfl, p, n, r, 1, rfl, hp, hr2, fun t1 H1 s1 ht1 => ?_⟩
  refine ⟨l, t1, sts, n.set r 1, rfl, hl.mono s1, ht1, fun s hs => by rw [List.length_set]; exact hN.dl s hs, fun hb => (h.er 5 rfl (if_pos hb)).mono s1, fun hg H2 s2 => ?_⟩
  rw [if_neg (show ¬ Bad sts (n.set r 1) by unfold Bad; rw [hg]; exact Bool.noConfusion)] at h
  have s12 := s1.trans s2
  refine ⟨_, rfl, a, _, dx, _, _, rfl, s12 _ _ ha, T.cl_Network, T.n_populations, nfP, _, rfl, p, n, r, rfl, hp.mono s12, hr2, hN.fit.fl.le, hN.fit.fl.len, fun most H3 s3 h12 hv hw => ?_⟩
  have s13 := s12.trans s3
  have hd0 : 0 < d := by omega
  rw [CQ.few_fr (c := c) (d := d) hN.fit h12 hv hw] at h
  have hfit : ∀ k, k ≤ most → Fit sts (n.set r k) := fun k hk => by
    by_cases m0 : most = 0
    · exact hN.fit.sub (CQ.leL_set (by omega))
    · exact (CQ.fit_set (r := r) hN.fit h12 (hv m0)).sub (CQ.leL_sets hk)
  have hpro : ∀ k, Proper sts (n.set r k) := fun k => CQ.proper_set hr2 (CQ.proper_iff.mp hg)
  have hpos : ∀ k, 0 < nrm sts (n.set r k) := fun k => CQ.nrm_pos sts _ hN.fit.srv (hpro k)
  refine ⟨_, rfl, a, _, dx, _, _, rfl, s13 _ _ ha, T.cl_Network, T.n_populations, nfP, _, rfl, _, rfl, p, n, r, most, rfl, hp.mono s13, hr2, fun t4 H4 s4 ht4 => ?_⟩
  have s14 := s13.trans s4
  have ec : count (n.set r most) r = most := CQ.count_set_same hr2
  refine ⟨_, rfl, a, _, dx, _, _, rfl, s14 _ _ ha, T.cl_Network, T.n_stations, nfS, _, rfl, _, rfl, l, t4, sts, n.set r most, r, rfl, hl.mono s14, ht4, by rw [List.length_set]; exact hr2, hfit most (Nat.le_refl _), fun k _ _ => by rw [CQ.set_set]; exact hpos k, fun t5 H5 s5 ht5 => ?_⟩
  have s15 := s14.trans s5
  rw [ec] at ht5
  have eq1 : ((List.range (most + 1)).map fun k => thr sts ((n.set r most).set r k) r) = (List.range (most + 1)).map fun k => thr sts (n.set r k) r := List.map_congr_left fun k _ => by rw [CQ.set_set]
  rw [eq1] at ht5
  obtain ⟨cs, hc1, hc2⟩ := ht5
  have el : (rv cs).length = most + 1 := by rw [rv_len hc2, List.length_map, List.length_range]
  refine ⟨t5, _, rfl, SqL.of hc1, for_it walk_enum (fun i σ H6 => Same H5 H6 ∧ (∀ j, j < i → goalP sts n r c d j = false) ∧ ∃ v6 v7, σ = [some (.ref a), some (.int r), some (.int c), some (.int d), some (.int most), some (.ref t4), v6, v7])
    ⟨Same.refl _, (fun j hj => absurd hj (Nat.not_lt_zero j)), none, none, rfl⟩ (fun i σ H6 _ h => SqL.of (h.1 _ _ hc1)) ?_ ?_⟩
  · rintro i x σ H6 H7 hi ⟨s6, hj, v6, v7, rfl⟩ ⟨t, x1, x2, rfl, ht1, rfl, h1, h2⟩
    obtain rfl := Option.some.inj h1
    obtain ⟨b, hb, rfl⟩ := rv_get h2
    obtain ⟨q, hq, hbq⟩ := hc2.get hb
    rw [el] at hi
    obtain rfl : q = thr sts (n.set r i) r := by
      rw [List.getElem?_map, List.getElem?_range hi] at hq
      exact (Option.some.inj hq).symm
    have s7 : Same H5 (upd H6 t (.tup [.int (i : Nat), .ref b])) := sNew s6 ht1
    refine ⟨t, _, rfl, SqT.of upd_same, rfl, _, _, rfl, _, _, rfl, rfl, ?_⟩
    refine ⟨_, rfl, _, rfl, _, rfl, (show 2 ≤ sizeLine by decide), fun g hg1 => ?_⟩
    have s8 := sNew s7 (o := .tup [.int c, .int d]) hg1
    refine ⟨b, g, thr sts (n.set r i) r, c, d, 1106, 21, rfl, TR.mono s8 hbq, upd_same, CQ.thr_sm (hfit i (by omega)) (fun _ => hpos i), by omega, by omega, by decide, _, rfl, ?_⟩
    have eg : goalP sts n r c d i = !decide ((thr sts (n.set r i) r).num * (d : Int) < (c : Int) * ((thr sts (n.set r i) r).den : Int)) := by
      unfold goalP
      congr 1
      exact decide_eq_decide.mpr (CQ.lt_mk hd0)
    cases ek : decide ((thr sts (n.set r i) r).num * (d : Int) < (c : Int) * ((thr sts (n.set r i) r).den : Int)) with
    | true =>
      refine iteF ⟨s8, fun j hj2 => ?_, some (.int (i : Nat)), some (.ref b), rfl⟩
      by_cases e : j = i
      · rw [e, eg, ek]; rfl
      · exact hj j (by omega)
    | false =>
      refine iteT ⟨_, rfl, (show 1 ≤ sizeLine by decide), fun t9 ht9 => ?_⟩
      rw [CQ.find_range (most + 1) hi (by rw [eg, ek]; rfl) hj] at h
      exact h.int rfl t9 _ (s15.trans (sNew s8 ht9)) ((s15.trans s8).free ht9) upd_same
  · rintro σ H6 ⟨s6, hj, v6, v7, rfl⟩
    rw [el] at hj
    rw [CQ.find_none hj] at h
    exact (h.er 5 rfl rfl).mono (s15.trans s6)
theorem res_gain2 (sts : List Station) (n : List Nat) (i r d : Nat) : Res sts n (.gain i r d) = CQ.onS sts i (CQ.onC n r (if 1000 < d then error (-22) else CQ.prp sts n (if Bad (sts.set i (wdS (sta sts i) r d)) n then error (-33) else
    fractionsResult ((Lrx5.classes ⟨sts, n⟩).map fun k => Lrx1.sub (Lrx5.throughput ⟨sts.set i (wdS (sta sts i) r d), n⟩ k) (Lrx5.throughput ⟨sts, n⟩ k))))) := CQ.res_gain sts n i r d
def sp_gain (K : Kf) : Sp := fun vs H Q E => ∃ (a : Addr) (i r d : Nat) (sts : List Station) (n : List Nat), vs = [.ref a, .int i, .int r, .int d] ∧ Net K H a sts n ∧ Ans K (Res sts n (.gain i r d)) H Q E
theorem sc_gain : FnScope ["network", "station", "customer_class", "demand", "changed", "present", "possible", "after", "before"] ["network", "station", "customer_class", "demand"] (defScope (top 81)) := ⟨rfl, rfl, rfl, by decide +kernel, rfl, by decide +kernel, by decide +kernel⟩
theorem d_gain (T : Facts K mg) : Dfn P w K mg base (L2.CX P w) 7 "gain" ["network", "station", "customer_class", "demand"] (sp_gain K) := by
  refine dfnX (T.d 56 rfl) sc_gain (fun _ _ _ _ _ _ us hl => match us, hl with | [_, _, _, _], _ => rfl) (fun vs H Q E h => by obtain ⟨a, i, r, d, sts, n, rfl, _⟩ := h; rfl) fun cdv A outer s H vs Q E hr h => ⟨_,
    (pss_cons (ps_expr (pe_mth (m_check_station T) (hr.mono (by decide)) (passes_call (takes_of rfl rfl rfl rfl) (fun _ _ _ _ z => z)) (pv 0) (pa_cons (pv 1) pa_nil)))
    (pss_cons (ps_expr (pe_mth (m_check_class T) (hr.mono (by decide)) (passes_call (takes_of rfl rfl rfl rfl) (fun _ _ _ _ z => z)) (pv 0) (pa_cons (pv 2) pa_nil)))
    (pss_cons (ps_expr (pe_dfn (d_check_demand T) (hr.mono (by decide)) (passes_call (takes_of rfl rfl rfl rfl) (fun _ _ _ _ z => z)) (pa_cons (pv 3) pa_nil)))
    (pss_cons (ps_expr (pe_mth0 (m_check_proper T) (hr.mono (by decide)) (passes_call (takes_of rfl rfl rfl rfl) (fun _ _ _ _ z => z)) (pv 0)))
    (pss_cons (ps_set (i := 4) sc_gain.nd rfl (Or.inl rfl) (pe_dfn (d_with_demand T) (hr.mono (by decide)) pass0 (pa_cons (pe_fld (pv 0) rfl) (pa_cons (pv 1) (pa_cons (pv 2) (pa_cons (pv 3) pa_nil))))))
    (pss_cons (ps_expr (pe_dfn (d_require_proper T) (hr.mono (by decide)) (passes_call (takes_of rfl rfl rfl rfl) (fun _ _ _ _ z => z)) (pa_cons (pv 4) (pa_cons (pe_fld (pv 0) rfl) pa_nil))))
    (pss_cons (ps_set (i := 5) sc_gain.nd rfl (Or.inl rfl) (pe_dfn (d_all_throughputs T) hr pass0 (pa_cons (pe_fld (pv 0) rfl) (pa_cons (pe_fld (pv 0) rfl) pa_nil))))
    (pss_cons (ps_set (i := 6) sc_gain.nd rfl (Or.inl rfl) (pe_dfn (d_all_throughputs T) hr pass0 (pa_cons (pv 4) (pa_cons (pe_fld (pv 0) rfl) pa_nil))))
    (pss_one (ps_ret (pe_dfn (d_fractions_answer T) (hr.mono (by decide)) pass0 (pa_cons (by exact (pe_lc rfl sc_gain.nd (pi_zip (by rfl) T.f_zip (pa_cons (pv 6) (pa_cons (pv 5) pa_nil))) (blkOk_by (own := [("after", 7), ("before", 8)]) (N := ["network", "station", "customer_class", "demand", "changed", "present", "possible", "after", "before"]) (sc := defScope (top 81)) (by decide +kernel)) (fun _ _ _ _ _ => by exact (pg_tupB (n := 2) rfl (pgs_cons (pg_name (i := 7) sc_gain.nd rfl (Or.inl rfl) (Or.inr rfl)) (pgs_cons (pg_name (i := 8) sc_gain.nd rfl (Or.inl rfl) (Or.inr rfl)) pgs_nil)) rfl rfl)) (fun _ _ _ _ _ => by exact pts_nil) (fun _ _ _ _ _ => by exact (pe_dfn (d_minus T) (hr.mono (by decide)) pass0 (pa_cons (pv 7) (pa_cons (pv 8) pa_nil)))))) pa_nil)))))))))))), ?_⟩
  obtain ⟨a, i, r, d, sts, n, rfl, hN, h⟩ := h
  obtain ⟨dx, l, p, ha, hl, hp⟩ := hN.net
  rw [res_gain2] at h
  refine ⟨_, rfl, a, dx, _, rfl, ha, rfl, _, rfl, a, i, sts, n, rfl, hN.net, fun hb => h.er 1 rfl (CQ.onS_bad hb), fun hi => ?_⟩
  have hi := Decidable.not_not.mp hi
  rw [CQ.onS_ok hi] at h
  refine ⟨_, rfl, a, dx, _, rfl, ha, rfl, _, rfl, a, r, sts, n, rfl, hN.net, fun hb => h.er 1 rfl (CQ.onC_bad hb), fun hr2 => ?_⟩
  have hr2 := Decidable.not_not.mp hr2
  rw [CQ.onC_ok hr2] at h
  refine ⟨_, rfl, d, rfl, fun hb => h.er 3 rfl (if_pos hb), fun hd => ?_⟩
  rw [if_neg hd] at h
  refine ⟨_, rfl, a, dx, _, rfl, ha, rfl, a, sts, n, rfl, hN.net, hN.dl, fun hb => h.er 5 rfl (CQ.prp_bad hb), fun hg H1 s1 => ?_⟩
  rw [CQ.prp_ok hg] at h
  have hS := hN.fit.st _ (CQ.sta_mem hi)
  have hf2 : Fit (sts.set i (wdS (sta sts i) r d)) n := CQ.fit_wd hN.fit hi (by omega)
  refine ⟨_, rfl, a, _, dx, _, _, rfl, s1 _ _ ha, T.cl_Network, T.n_stations, nfS, _, rfl, _, rfl, _, rfl, l, i, r, d, sts, rfl, hl.mono s1, hi, Nat.le_trans hN.fit.n5 (by decide), by rw [hS.dl]; exact hr2, by rw [hS.dl]; exact Nat.le_trans hN.fit.fl.len (by decide), fun t2 H2 s2 ht2 => ?_⟩
  have s12 := s1.trans s2
  refine ⟨_, rfl, _, rfl, a, _, dx, _, _, rfl, s12 _ _ ha, T.cl_Network, T.n_populations, nfP, t2, p, _, n, rfl, ht2, hp.mono s12, fun s hs => (hf2.st s hs).dl, fun hb => (h.er 5 rfl (if_pos hb)).mono s12, fun hg2 H3 s3 => ?_⟩
  have s13 := s12.trans s3
  have e2 := CQ.gain_fr hN.fit hf2
  rw [if_neg (show ¬ Bad (sts.set i (wdS (sta sts i) r d)) n by unfold Bad; rw [hg2]; exact Bool.noConfusion)] at h
  refine ⟨_, rfl, a, _, dx, _, _, rfl, s13 _ _ ha, T.cl_Network, T.n_stations, nfS, _, rfl, a, _, dx, _, _, rfl, s13 _ _ ha, T.cl_Network, T.n_populations, nfP, l, p, sts, n, rfl, hl.mono s13, hp.mono s13, hN.fit, hN.pos hg, fun t4 H4 s4 ht4 => ?_⟩
  have s14 := s13.trans s4
  have hpos2 := CQ.nrm_pos' hf2.good (CQ.proper_iff.mp hg2)
  refine ⟨_, rfl, _, rfl, a, _, dx, _, _, rfl, s14 _ _ ha, T.cl_Network, T.n_populations, nfP, t2, p, _, n, rfl, LS.mono (s3.trans s4) ht2, hp.mono s14, hf2, hpos2, fun t5 H5 s5 ht5 => ?_⟩
  obtain ⟨as, hA1, hA2⟩ := ht5
  obtain ⟨bs, hB1, hB2⟩ := LR.mono s5 ht4
  have ea : (rv as).length = n.length := by rw [rv_len hA2, List.length_map, List.length_range]
  have eb : (rv bs).length = n.length := by rw [rv_len hB2, List.length_map, List.length_range]
  have hn3 := hN.fit.fl.len
  refine ⟨_, rfl, _, rfl, t5, t4, rv as, rv bs, rfl, SqL.of hA1, SqL.of hB1, fun D hD => ?_⟩
  refine lc_it (walk_zip (n := n.length) (by rw [ea, eb, Nat.min_self])) (fun j H6 => Same H5 H6 ∧ ∃ cs, H6 D = some (.lst (rv cs)) ∧ AllR TR H6 cs (((List.range n.length).map fun k => thr (sts.set i (wdS (sta sts i) r d)) n k - thr sts n k).take j)) ⟨same_new hD, [], upd_same, True.intro⟩ (fun j H6 _ h => ⟨SqL.of (h.1 _ _ hA1), SqL.of (h.1 _ _ hB1)⟩) ?_ ?_
  · rintro j x H6 H7 hj ⟨s6, cs, hD6, hC6⟩ ⟨t, x1, x2, rfl, ht, rfl, h1, h2⟩
    obtain ⟨u, hu, rfl⟩ := rv_get h1
    obtain ⟨q1, hq1, hu1⟩ := hA2.get hu
    obtain ⟨v, hv, rfl⟩ := rv_get h2
    obtain ⟨q2, hq2, hv1⟩ := hB2.get hv
    rw [List.getElem?_map, List.getElem?_range hj] at hq1 hq2
    obtain rfl := (Option.some.inj hq1).symm
    obtain rfl := (Option.some.inj hq2).symm
    have s7' : Same H6 (upd H6 t (.tup [.ref u, .ref v])) := same_new ht
    have s7 := s6.trans s7'
    refine ⟨t, _, rfl, SqT.of upd_same, rfl, _, _, rfl, _, _, rfl, rfl, rfl, ?_⟩
    refine yes ?_
    refine ⟨_, rfl, _, rfl, u, v, _, _, 1106, 1106, rfl, TR.mono s7 hu1, TR.mono s7 hv1, CQ.thr_sm hf2 (fun _ => hpos2), CQ.thr_sm hN.fit (fun _ => hN.pos hg), by decide, True.intro, fun t8 H8 s8 ht8 => ?_⟩
    have s68 := s7'.trans s8
    have hD8 := s68 _ _ hD6
    have hC8 := hC6.mono (fun a q z => TR.mono s68 z)
    refine ⟨rv cs, hD8, rv_sz hC8 (n := 5) (by have z := List.length_take_le' j ((List.range n.length).map fun k => thr (sts.set i (wdS (sta sts i) r d)) n k - thr sts n k); rw [List.length_map, List.length_range] at z; omega) (by decide), sPut (s6.trans s68) hD, ?_⟩
    rw [map_get (a := j) (by rw [List.getElem?_range hj])]
    exact accR hD8 hC8 ht8
  · rintro H6 ⟨s6, cs, hD6, hC6⟩
    rw [List.take_of_length_le (by rw [List.length_map, List.length_range]; exact Nat.le_refl _)] at hC6
    exact ⟨D, _, rfl, ⟨cs, hD6, hC6⟩, by rw [List.length_map, List.length_range]; omega, fun t9 H9 s9 f9 ht9 => h.fracs (congrArg fractionsResult e2) t9 _ (((s14.trans s5).trans s6).trans s9) (((s14.trans s5).trans s6).free f9) ht9⟩
def sp_get_demand (K : Kf) : Sp := fun vs H Q E => ∃ (a : Addr) (i r : Nat) (sts : List Station) (n : List Nat), vs = [.ref a, .int i, .int r] ∧ Net K H a sts n ∧ Ans K (Res sts n (.getDemand i r)) H Q E
theorem sc_get_demand : FnScope ["network", "station", "customer_class"] ["network", "station", "customer_class"] (defScope (top 113)) := ⟨rfl, rfl, rfl, by decide +kernel, rfl, by decide +kernel, by decide +kernel⟩
theorem d_get_demand (T : Facts K mg) : Dfn P w K mg base (L2.CX P w) 5 "get_demand" ["network", "station", "customer_class"] (sp_get_demand K) := by
  refine dfnX (T.d 84 rfl) sc_get_demand (fun _ _ _ _ _ _ us hl => match us, hl with | [_, _, _], _ => rfl) (fun vs H Q E h => by obtain ⟨a, i, r, sts, n, rfl, _⟩ := h; rfl) fun cdv A outer s H vs Q E hr h => ⟨_,
    (pss_cons (ps_expr (pe_mth (m_check_station T) hr (passes_call (takes_of rfl rfl rfl rfl) (fun _ _ _ _ z => z)) (pv 0) (pa_cons (pv 1) pa_nil)))
    (pss_cons (ps_expr (pe_mth (m_check_class T) hr (passes_call (takes_of rfl rfl rfl rfl) (fun _ _ _ _ z => z)) (pv 0) (pa_cons (pv 2) pa_nil)))
    (pss_one (ps_ret (pe_lst (pa_cons (pe_ix ix_list (pe_fld (pe_ix ix_list (pe_fld (pv 0) rfl) (pv 1) (fun _ _ => rfl)) rfl) (pv 2) (fun _ _ => rfl)) pa_nil)))))), ?_⟩
  obtain ⟨a, i, r, sts, n, rfl, hN, h⟩ := h
  obtain ⟨dx, l, p, ha, hl, hp⟩ := hN.net
  rw [CQ.res_getDemand] at h
  refine ⟨_, rfl, a, dx, _, rfl, ha, rfl, _, rfl, a, i, sts, n, rfl, hN.net, fun hb => h.er 1 rfl (CQ.onS_bad hb), fun hi => ?_⟩
  have hi := Decidable.not_not.mp hi
  rw [CQ.onS_ok hi] at h
  refine ⟨_, rfl, a, dx, _, rfl, ha, rfl, _, rfl, a, r, sts, n, rfl, hN.net, fun hb => h.er 1 rfl (CQ.onC_bad hb), fun hr2 => ?_⟩
  have hr2 := Decidable.not_not.mp hr2
  rw [CQ.onC_ok hr2] at h
  obtain ⟨as, hl1, hA⟩ := hl
  obtain ⟨b, hb1, hb2, dd, ⟨dx2, hs1⟩, hs2⟩ := rv_at hA hi
  have hS := hN.fit.st _ (CQ.sta_mem hi)
  exact ⟨_, rfl, a, _, dx, _, _, rfl, ha, T.cl_Network, T.n_stations, nfS, _, rfl, l, _, _, _, rfl, rfl, SqL.of hl1, hb2, b, _, dx2, _, _, rfl, hs1, T.cl_Station, T.n_demands, rfl, _, rfl, dd, _, _, _, rfl, rfl, SqL.of hs2, nv_atd (by rw [hS.dl]; exact hr2), (show 1 ≤ sizeLine by decide), fun t ht => h.int rfl t _ (same_new ht) ht upd_same⟩
def sp_get_population (K : Kf) : Sp := fun vs H Q E => ∃ (a : Addr) (r : Nat) (sts : List Station) (n : List Nat), vs = [.ref a, .int r] ∧ Net K H a sts n ∧ Ans K (Res sts n (.getPopulation r)) H Q E
theorem sc_get_population : FnScope ["network", "customer_class"] ["network", "customer_class"] (defScope (top 114)) := ⟨rfl, rfl, rfl, by decide +kernel, rfl, by decide +kernel, by decide +kernel⟩
theorem d_get_population (T : Facts K mg) : Dfn P w K mg base (L2.CX P w) 5 "get_population" ["network", "customer_class"] (sp_get_population K) := by
  refine dfnX (T.d 85 rfl) sc_get_population (fun _ _ _ _ _ _ us hl => match us, hl with | [_, _], _ => rfl) (fun vs H Q E h => by obtain ⟨a, r, sts, n, rfl, _⟩ := h; rfl) fun cdv A outer s H vs Q E hr h => ⟨_,
    (pss_cons (ps_expr (pe_mth (m_check_class T) hr (passes_call (takes_of rfl rfl rfl rfl) (fun _ _ _ _ z => z)) (pv 0) (pa_cons (pv 1) pa_nil)))
    (pss_one (ps_ret (pe_lst (pa_cons (pe_ix ix_tup (pe_fld (pv 0) rfl) (pv 1) (fun _ _ => rfl)) pa_nil))))), ?_⟩
  obtain ⟨a, r, sts, n, rfl, hN, h⟩ := h
  obtain ⟨dx, l, p, ha, hl, hp⟩ := hN.net
  rw [CQ.res_getPopulation] at h
  refine ⟨_, rfl, a, dx, _, rfl, ha, rfl, _, rfl, a, r, sts, n, rfl, hN.net, fun hb => h.er 1 rfl (CQ.onC_bad hb), fun hr2 => ?_⟩
  have hr2 := Decidable.not_not.mp hr2
  rw [CQ.onC_ok hr2] at h
  exact ⟨_, rfl, a, _, dx, _, _, rfl, ha, T.cl_Network, T.n_populations, nfP, _, rfl, p, _, _, _, rfl, rfl, hp.sq, nv_at hr2, (show 1 ≤ sizeLine by decide), fun t ht => h.int rfl t _ (same_new ht) ht upd_same⟩
def sp_summary (K : Kf) : Sp := fun vs H Q E => ∃ (a : Addr) (sts : List Station) (n : List Nat), vs = [.ref a] ∧ Net K H a sts n ∧ Ans K (Res sts n .summary) H Q E
theorem sc_summary : FnScope ["network", "stations", "populations", "proper", "simple"] ["network"] (defScope (top 115)) := ⟨rfl, rfl, rfl, by decide +kernel, rfl, by decide +kernel, by decide +kernel⟩
theorem d_summary (T : Facts K mg) : Dfn P w K mg base CX0 3 "summary" ["network"] (sp_summary K) := by
  refine dfn0 (T.d 86 rfl) sc_summary (fun _ _ _ _ _ _ us hl => match us, hl with | [_], _ => rfl) (fun vs H Q E h => by obtain ⟨a, sts, n, rfl, _⟩ := h; rfl) fun cdv A outer s H vs Q E hr h => ⟨_,
    (pss_cons (ps_set (i := 1) sc_summary.nd rfl (Or.inl rfl) (pe_fld (pv 0) rfl))
    (pss_cons (ps_set (i := 2) sc_summary.nd rfl (Or.inl rfl) (pe_fld (pv 0) rfl))
    (pss_cons (ps_set (i := 3) sc_summary.nd rfl (Or.inl rfl) (pe_ifExp (pt_val (pe_dfn (d_is_proper T) hr pass0 (pa_cons (pv 1) (pa_cons (pv 2) pa_nil)))) pe_int pe_int))
    (pss_cons (ps_set (i := 4) sc_summary.nd rfl (Or.inl rfl) (pe_ifExp (pt_val (pe_dfn (d_is_simple T) (hr.mono (by decide)) pass0 (pa_cons (pv 1) pa_nil))) pe_int pe_int))
    (pss_one (ps_ret (pe_lst (pa_cons (pe_callB call_len_seq (by rfl) T.f_len PySem.boot_len (pa_cons (pv 1) pa_nil)) (pa_cons (pe_callB call_len_seq (by rfl) T.f_len PySem.boot_len (pa_cons (pv 2) pa_nil)) (pa_cons (pe_callB (cr_sumT rfl) (by rfl) T.f_sum boot_sum (pa_cons (pv 2) pa_nil)) (pa_cons (pv 3) (pa_cons (pv 4) pa_nil)))))))))))), ?_⟩
  obtain ⟨a, sts, n, rfl, hN, h⟩ := h
  obtain ⟨dx, l, p, ha, hl, hp⟩ := hN.net
  rw [CQ.res_summary] at h
  obtain ⟨as, hl1, hA⟩ := id hl
  have hfin := h.2 (show (0 : Int) ≤ (sts.length : Int) from Int.natCast_nonneg _)
  refine ⟨_, rfl, a, _, dx, _, _, rfl, ha, T.cl_Network, T.n_stations, nfS, _, rfl, a, _, dx, _, _, rfl, ha, T.cl_Network, T.n_populations, nfP, ?_⟩
  refine ⟨_, rfl, _, rfl, l, p, sts, n, rfl, hl, hp, hN.dl, fun H1 s1 => ⟨_, rfl, ?_⟩⟩
  have last : ∀ u v : Int, u = (if isProper ⟨sts, n⟩ then 1 else 0) → v = (if Lrx5.isSimple ⟨sts, n⟩ then 1 else 0) → (5 : Nat) ≤ sizeLine ∧ ∀ t, H1 t = none → Q (.ref t) (upd H1 t (.lst [V.int (rv as).length, V.int (nv n).length, V.int ((n.map fun (k : Nat) => (k : Int)).sum), V.int u, V.int v])) := by
    rintro u v rfl rfl
    refine ⟨by decide, fun t ht => hfin t _ (s1.trans (same_new ht)) (s1.free ht) ?_⟩
    rw [rv_len hA, nv_len, sum_nv]
    exact upd_same
  cases e1 : isProper ⟨sts, n⟩ with
  | true =>
    refine iteT ⟨_, rfl, l, sts, rfl, hl.mono s1, hN.fit.srv, _, rfl, ?_⟩
    cases e2 : sts.all fun s => s.isDelay || s.servers == 1 with
    | true => exact iteT ⟨_, rfl, l, _, rfl, .inl (SqL.of (s1 _ _ hl1)), _, rfl, p, _, rfl, .inr (hp.mono s1).sq, _, rfl, p, _, rfl, by rw [← nv_int]; exact (hp.mono s1).sq, _, rfl, _, rfl, last 1 1 (by rw [e1]; rfl) (by rw [← sim_eq, e2]; rfl)⟩
    | false => exact iteF ⟨_, rfl, l, _, rfl, .inl (SqL.of (s1 _ _ hl1)), _, rfl, p, _, rfl, .inr (hp.mono s1).sq, _, rfl, p, _, rfl, by rw [← nv_int]; exact (hp.mono s1).sq, _, rfl, _, rfl, last 1 0 (by rw [e1]; rfl) (by rw [← sim_eq, e2]; rfl)⟩
  | false =>
    refine iteF ⟨_, rfl, l, sts, rfl, hl.mono s1, hN.fit.srv, _, rfl, ?_⟩
    cases e2 : sts.all fun s => s.isDelay || s.servers == 1 with
    | true => exact iteT ⟨_, rfl, l, _, rfl, .inl (SqL.of (s1 _ _ hl1)), _, rfl, p, _, rfl, .inr (hp.mono s1).sq, _, rfl, p, _, rfl, by rw [← nv_int]; exact (hp.mono s1).sq, _, rfl, _, rfl, last 0 1 (by rw [e1]; rfl) (by rw [← sim_eq, e2]; rfl)⟩
    | false => exact iteF ⟨_, rfl, l, _, rfl, .inl (SqL.of (s1 _ _ hl1)), _, rfl, p, _, rfl, .inr (hp.mono s1).sq, _, rfl, p, _, rfl, by rw [← nv_int]; exact (hp.mono s1).sq, _, rfl, _, rfl, last 0 0 (by rw [e1]; rfl) (by rw [← sim_eq, e2]; rfl)⟩
end
end Cq
end
section
set_option Elab.async false
set_option linter.all false
set_option maxRecDepth 100000
set_option maxHeartbeats 4000000
set_option exponentiation.threshold 100000
namespace Cq
open PySem PySem.Spec PyProof.Rows L2 CqR
open Lrx5 (Station Network below minus factorial count without demand error fractionResult fractionsResult isProper)
open CQ (FitL FitS Fit vec leL sta Sm thr nrm stay qd mv Proper simple rs tot Res Bad mean pr queues bestOf util)
theorem Sm_div {x y : Nat} {p q : Rat} (hp : Sm x p) (hq : Sm y q) (h : 0 < q) : Sm (x + y) (p / q) := by
  obtain ⟨e1, e2, e3⟩ := div_mk p q h
  rw [← e1]
  refine CQ.mkRat_sm ?_ (CQ.mul_nat hp.2 hq.1) (Nat.ne_of_gt (Nat.mul_pos (Nat.pos_of_ne_zero p.den_nz) e3))
  rw [Int.natAbs_mul]
  exact CQ.mul_nat hp.1 hq.2
theorem util_sm {sts : List Station} {n : List Nat} {s : Station} (h : Fit sts n) (hs : s ∈ sts) (p : 0 < nrm sts n) : Sm 3362 (util sts n s) := by
  have hS := h.st s hs
  unfold util
  refine Sm_div (x := 3352) (y := 10) ?_ (CQ.Sm_nat (by have := hS.s20; omega) (by decide)) (CQ.cast_pos hS.sv)
  have hu : ∀ q ∈ List.zipWith (fun q (d : Nat) => q * (d : Rat)) (CQ.rates sts n) s.demands, Sm 1116 q := fun q hq => by
    obtain ⟨i, hi⟩ := List.mem_iff_getElem?.mp hq
    rw [List.getElem?_zipWith] at hi
    cases e1 : (CQ.rates sts n)[i]? with
    | none => rw [e1] at hi; cases hi
    | some p2 =>
      cases e2 : s.demands[i]? with
      | none => rw [e1, e2] at hi; cases hi
      | some k =>
        rw [e1, e2] at hi
        rw [← Option.some.inj hi]
        have := hS.dm k (List.mem_of_getElem? e2)
        exact CQ.Sm_mul (rates_sm h p p2 (List.mem_of_getElem? e1)) (CQ.Sm_nat (x := 10) (show k < 2 ^ 10 by omega) (by decide))
  have hl : (List.zipWith (fun q (d : Nat) => q * (d : Rat)) (CQ.rates sts n) s.demands).length ≤ 3 := by
    rw [List.length_zipWith, rates_len]
    have := h.fl.len
    omega
  have z := take_sm (n := 3) hu hl 3
  rw [List.take_of_length_le hl] at z
  exact z
theorem qtake {sts : List Station} {i : Nat} : (List.range (i + 1)).filter (fun j => !(sta sts j).isDelay) = (List.range i).filter (fun j => !(sta sts j).isDelay) ++ if (sta sts i).isDelay = true then [] else [i] := by
  rw [List.range_succ, List.filter_append]
  congr 1
  cases h : (sta sts i).isDelay with
  | true => rw [if_pos rfl, List.filter_cons_of_neg (p := fun j => !(sta sts j).isDelay) (show ¬ (!(sta sts i).isDelay) = true by rw [h]; exact Bool.noConfusion)]; rfl
  | false => rw [if_neg Bool.false_ne_true, List.filter_cons_of_pos (p := fun j => !(sta sts j).isDelay) (show (!(sta sts i).isDelay) = true by rw [h]; rfl)]; rfl
theorem dBf {s : Station} (h : s.isDelay = false) : dB s = 0 := by unfold dB; rw [h]; rfl
theorem dBt {s : Station} (h : s.isDelay = true) : dB s ≠ 0 := by unfold dB; rw [h]; decide
theorem best_take {u : Nat → Rat} {l : List Nat} {i k b : Nat} (h : l[i]? = some k) : bestOf u (l.take (i + 1)) b = if u (bestOf u (l.take i) b) < u k then k else bestOf u (l.take i) b := by
  rw [take_one h]
  unfold bestOf
  rw [List.foldl_append]
  rfl
section
variable {P : Program} {w : World} {K : Kf} {mg : Str → Option Value} {base : Heap}
def sp_bottleneck (K : Kf) : Sp := fun vs H Q E => ∃ (a : Addr) (sts : List Station) (n : List Nat), vs = [.ref a] ∧ Net K H a sts n ∧ Ans K (Res sts n .bottleneck) H Q E
theorem sc_bottleneck : FnScope ["network", "queues", "rates", "shares", "fullest", "place", "share", "number", "station"] ["network"] (defScope (top 100)) := ⟨rfl, rfl, rfl, by decide +kernel, rfl, by decide +kernel, by decide +kernel⟩
theorem d_bottleneck (T : Facts K mg) : Dfn P w K mg base (L2.CX P w) 7 "bottleneck" ["network"] (sp_bottleneck K) := by
  refine dfnX (T.d 73 rfl) sc_bottleneck (fun _ _ _ _ _ _ us hl => match us, hl with | [_], _ => rfl) (fun vs H Q E h => by obtain ⟨a, sts, n, rfl, _⟩ := h; rfl) fun cdv A outer s H vs Q E hr h => ⟨_,
    (pss_cons (ps_setLc (i := 1) rfl sc_bottleneck.nd rfl rfl (sw_true rfl rfl rfl (by decide +kernel)) (pi_enum (by rfl) T.f_enumerate (pa_cons (pe_fld (pv 0) rfl) pa_nil)) (blkOk_by (own := [("number", 7), ("station", 8)]) (N := ["network", "queues", "rates", "shares", "fullest", "place", "share", "number", "station"]) (sc := defScope (top 100)) (by decide +kernel)) (fun _ _ _ _ _ => by exact (pg_tupB (n := 2) rfl (pgs_cons (pg_name (i := 7) sc_bottleneck.nd rfl (Or.inl rfl) (Or.inr rfl)) (pgs_cons (pg_name (i := 8) sc_bottleneck.nd rfl (Or.inl rfl) (Or.inr rfl)) pgs_nil)) rfl rfl)) (fun _ _ _ _ _ => by exact (pts_one (pt_cmpR op_eq (pe_fldB (pv 8) rfl) pe_int (nomark _)))) (fun _ _ _ _ _ => by exact (pv 7)))
    (pss_cons (ps_if (pt_cmpR op_eq (pe_callB call_len_seq (by rfl) T.f_len PySem.boot_len (pa_cons (pv 1) pa_nil)) pe_int (nomark _))
        (pss_one (ps_err (T.e 5 rfl).1 (ini_NoResult T) (hr.mono (by decide)) rfl (takes_of rfl rfl rfl rfl)))
        pss_nil)
    (pss_cons (ps_expr (pe_mth0 (m_check_proper T) (hr.mono (by decide)) (passes_call (takes_of rfl rfl rfl rfl) (fun _ _ _ _ z => z)) (pv 0)))
    (pss_cons (ps_set (i := 2) sc_bottleneck.nd rfl (Or.inr rfl) (pe_dfn (d_all_throughputs T) hr pass0 (pa_cons (pe_fld (pv 0) rfl) (pa_cons (pe_fld (pv 0) rfl) pa_nil))))
    (pss_cons (ps_setLc (i := 3) rfl sc_bottleneck.nd rfl rfl (sw_true rfl rfl rfl (by decide +kernel)) (pi_list (pv 1)) (blkOk_by (own := [("number", 7)]) (N := ["network", "queues", "rates", "shares", "fullest", "place", "share", "number", "station"]) (sc := defScope (top 100)) (by decide +kernel)) (fun _ _ _ _ _ => by exact (pg_name (i := 7) sc_bottleneck.nd rfl (Or.inl rfl) (Or.inr rfl))) (fun _ _ _ _ _ => by exact pts_nil) (fun _ _ _ _ _ => by exact (pe_dfn (d_utilization_of T) (hr.mono (by decide)) pass0 (pa_cons (pe_ix ix_listB (pe_fldB (pv 0) rfl) (pv 7) (fun _ _ => rfl)) (pa_cons (pv 2) pa_nil)))))
    (pss_cons (ps_set (i := 4) sc_bottleneck.nd rfl (Or.inl rfl) pe_int)
    (pss_cons (ps_for (passes_of rfl) rfl (pi_enum (by rfl) T.f_enumerate (pa_cons (pv 3) pa_nil)) (pg_tup rfl (pgs_cons (pg_name (i := 5) sc_bottleneck.nd rfl (Or.inl rfl)) (pgs_cons (pg_name (i := 6) sc_bottleneck.nd rfl (Or.inl rfl)) pgs_nil)))
        (pss_one (ps_if (pt_val (pe_dfn (d_is_less T) (hr.mono (by decide)) pass0 (pa_cons (pe_ix ix_list (pv 3) (pv 4) (fun _ _ => rfl)) (pa_cons (pv 6) pa_nil))))
            (pss_one (ps_set (i := 4) sc_bottleneck.nd rfl (Or.inl rfl) (pv 5)))
            pss_nil)))
    (pss_one (ps_ret (pe_lst (pa_cons (pe_ix ix_list (pv 1) (pv 4) (fun _ _ => rfl)) (pa_cons (pe_ix ix_tup (pe_ix ix_list (pv 3) (pv 4) (fun _ _ => rfl)) pe_int (fun _ _ => rfl)) (pa_cons (pe_ix ix_tup (pe_ix ix_list (pv 3) (pv 4) (fun _ _ => rfl)) pe_int (fun _ _ => rfl)) pa_nil))))))))))))), ?_⟩
  obtain ⟨a, sts, n, rfl, hN, h⟩ := h
  obtain ⟨dx, l, p, ha, hl, hp⟩ := hN.net
  obtain ⟨as, hl1, hA⟩ := id hl
  have el : (rv as).length = sts.length := rv_len hA
  have n5 := hN.fit.n5
  rw [CQ.res_bottleneck hN.fit] at h
  refine ⟨_, rfl, a, _, dx, _, _, rfl, ha, T.cl_Network, T.n_stations, nfS, l, _, rfl, SqL.of hl1, fun D hD => ?_⟩
  refine lc_it walk_enum (fun i H1 => Same H H1 ∧ H1 D = some (.lst (nv ((List.range i).filter fun j => !(sta sts j).isDelay)))) ⟨same_new hD, upd_same⟩ (fun i H1 _ h => SqL.of (h.1 _ _ hl1)) ?_ ?_
  · rintro i x H1 H2 hi ⟨s1, hD1⟩ ⟨t, x1, x2, rfl, ht1, rfl, h1, h2⟩
    rw [el] at hi
    obtain rfl := Option.some.inj h1
    obtain ⟨b, s, rfl, hb, hs, d, ⟨dx2, g1⟩, g2⟩ := LS.get hA h2
    obtain rfl : s = sta sts i := by rw [CQ.sta_get hi] at hs; exact (Option.some.inj hs).symm
    have s2 : Same H (upd H1 t (.tup [.int (i : Nat), .ref b])) := sNew s1 ht1
    have hD2 : upd H1 t (.tup [.int (i : Nat), .ref b]) D = some (.lst (nv ((List.range i).filter fun j => !(sta sts j).isDelay))) := by rw [upd_ne (ne_of_none hD1 ht1)]; exact hD1
    refine ⟨t, _, rfl, SqT.of upd_same, rfl, _, _, rfl, _, _, rfl, rfl, rfl, ?_⟩
    refine ⟨_, rfl, b, _, dx2, _, _, rfl, s2 _ _ g1, T.cl_Station, T.n_is_delay, rfl, rfl, ?_⟩
    cases hd : (sta sts i).isDelay with
    | true =>
      refine ⟨false, eqF (dBt hd), iteF ⟨s2, ?_⟩⟩
      rw [qtake, if_pos hd, List.append_nil]
      exact hD2
    | false =>
      refine ⟨true, eqT (dBf hd), iteT ⟨_, rfl, _, hD2, by rw [nv_len]; exact sizeK (by have := List.length_filter_le (fun j => !(sta sts j).isDelay) (List.range i); rw [List.length_range] at this; omega), sPut s2 hD, ?_⟩⟩
      rw [upd_same, qtake, if_neg (by rw [hd]; exact Bool.false_ne_true), nv_append]
      rfl
  · rintro H1 ⟨s1, hD1⟩
    rw [el] at hD1
    have hQ : H1 D = some (.lst (nv (queues sts))) := hD1
    refine ⟨_, rfl, D, _, rfl, .inl (SqL.of hQ), rfl, ?_⟩
    rw [nv_len]
    by_cases h0 : queues sts = []
    · exact ⟨true, eqT (by rw [h0]; rfl), iteT ((h.er 5 rfl (if_pos h0)).mono s1)⟩
    rw [if_neg h0] at h
    have hlen0 := List.length_pos_iff.mpr h0
    refine ⟨false, eqF (by omega), iteF ?_⟩
    refine ⟨_, rfl, a, dx, _, rfl, s1 _ _ ha, rfl, a, sts, n, rfl, hN.net.mono s1, hN.dl, fun hb => (h.er 5 rfl (CQ.prp_bad hb)).mono s1, fun hg H2 s2' => ?_⟩
    rw [CQ.prp_ok hg] at h
    have s2 := s1.trans s2'
    have hpos := hN.pos hg
    refine ⟨_, rfl, a, _, dx, _, _, rfl, s2 _ _ ha, T.cl_Network, T.n_stations, nfS, _, rfl, a, _, dx, _, _, rfl, s2 _ _ ha, T.cl_Network, T.n_populations, nfP, l, p, sts, n, rfl, hl.mono s2, hp.mono s2, hN.fit, hpos, fun t2 H3 s3' ht2 => ?_⟩
    have s3 := s2.trans s3'
    have hQ3 := s3' _ _ (s2' _ _ hQ)
    refine ⟨_, rfl, D, rfl, ⟨_, SqL.of hQ3⟩, fun D2 hD2 => ?_⟩
    refine lc_it walk_list (fun i H4 => Same H3 H4 ∧ ∃ cs, H4 D2 = some (.lst (rv cs)) ∧ AllR TR H4 cs (((queues sts).map fun j => util sts n (sta sts j)).take i)) ⟨same_new hD2, [], upd_same, True.intro⟩ (fun i H4 _ h => SqL.of (h.1 _ _ hQ3)) ?_ ?_
    · rintro i x H4 H5 hi ⟨s4, cs, hD4, hC4⟩ ⟨rfl, hx⟩
      obtain ⟨k, hk, rfl⟩ := nvE hx
      obtain ⟨hk1, hk2⟩ := CQ.mem_queues.mp (List.mem_of_getElem? hk)
      have s34 := s3.trans s4
      obtain ⟨b, hb1, hb2, hst⟩ := rv_at (hA.mono fun a s z => St1.mono s34 z) hk1
      have hS := hN.fit.st _ (CQ.sta_mem hk1)
      refine ⟨rfl, ?_⟩
      refine yes ?_
      refine ⟨_, rfl, a, _, dx, _, _, rfl, s34 _ _ ha, T.cl_Network, T.n_stations, nfS, _, rfl, l, _, _, _, rfl, rfl, SqL.of (s34 _ _ hl1), hb2, _, rfl, b, t2, sta sts k, n.length, CQ.rates sts n, rfl, hst, hS, hN.fit.fl.len, LR.mono s4 ht2, rates_len sts n, rates_sm hN.fit hpos, fun t6 H6 s6 ht6 => ?_⟩
      have hD6 := s6 _ _ hD4
      have hC6 := hC4.mono (fun a q z => TR.mono s6 z)
      refine ⟨rv cs, hD6, rv_sz hC6 (n := 1000) (by have z := List.length_take_le' i ((queues sts).map fun j => util sts n (sta sts j)); have := List.length_filter_le (fun j => !(sta sts j).isDelay) (List.range sts.length); rw [List.length_range] at this; rw [List.length_map] at z; unfold queues at z ⊢; omega) (by decide), sPut (s4.trans s6) hD2, ?_⟩
      rw [map_get hk]
      exact accR hD6 hC6 ht6
    · rintro H4 ⟨s4, cs, hD4, hC4⟩
      rw [List.take_of_length_le (by rw [List.length_map, nv_len]; exact Nat.le_refl _)] at hC4
      have ec : (rv cs).length = (queues sts).length := by rw [rv_len hC4, List.length_map]
      have ul : (queues sts).length ≤ sts.length := by
        have := List.length_filter_le (fun j => !(sta sts j).isDelay) (List.range sts.length)
        rw [List.length_range] at this
        exact this
      have inQ : ∀ i, bestOf (fun i => util sts n (sta sts i)) ((queues sts).take i) ((queues sts).headD 0) ∈ queues sts := fun i => by
        have hh : (queues sts).headD 0 ∈ queues sts := by
          cases e : queues sts with
          | nil => exact absurd e h0
          | cons a l => exact List.mem_cons_self ..
        rcases CQ.best_mem (fun i => util sts n (sta sts i)) ((queues sts).take i) ((queues sts).headD 0) with z | z
        · rw [z]; exact hh
        · exact List.mem_of_mem_take z
      have smQ : ∀ k ∈ queues sts, Sm 3362 (util sts n (sta sts k)) := fun k hk => util_sm hN.fit (CQ.sta_mem (CQ.mem_queues.mp hk).1) hpos
      have shareAt : ∀ {H7 : Hp} {f k : Nat}, Same H4 H7 → (queues sts)[f]? = some k → ∃ b, atI (rv cs) (f : Int) = some (V.ref b) ∧ TR H7 b (util sts n (sta sts k)) := fun {H7 f k} s hf => by
        have e : ((queues sts).map fun j => util sts n (sta sts j))[f]? = some (util sts n (sta sts k)) := by
          rw [List.getElem?_map, hf]
          rfl
        obtain ⟨b, hb1, hb2⟩ := hC4.lt e
        exact ⟨b, atI_nat (by rw [rv, List.getElem?_map, hb1]; rfl), TR.mono s hb2⟩
      refine ⟨_, rfl, D2, _, rfl, SqL.of hD4, for_it walk_enum (fun i σ H5 => Same H4 H5 ∧ ∃ (f : Nat) (v5 v6 : Option V), σ = [some (.ref a), some (.ref D), some (.ref t2), some (.ref D2), some (.int (f : Nat)), v5, v6, none, none] ∧ (queues sts)[f]? = some (bestOf (fun i => util sts n (sta sts i)) ((queues sts).take i) ((queues sts).headD 0)))
        ⟨Same.refl _, 0, none, none, rfl, ?_⟩ (fun i σ H5 _ h => SqL.of (h.1 _ _ hD4)) ?_ ?_⟩
      · cases e : queues sts with
        | nil => exact absurd e h0
        | cons a l => rfl
      · rintro i x σ H5 H6 hi ⟨s5, f, v5, v6, rfl, hf⟩ ⟨t, x1, x2, rfl, ht1, rfl, h1, h2⟩
        rw [ec] at hi
        obtain rfl := Option.some.inj h1
        obtain ⟨k, hk⟩ : ∃ k, (queues sts)[i]? = some k := getE hi
        obtain ⟨b, hb, rfl⟩ := rv_get h2
        obtain ⟨q, hq, hbq⟩ := hC4.get hb
        obtain rfl : q = util sts n (sta sts k) := by
          rw [List.getElem?_map, hk] at hq
          exact (Option.some.inj hq).symm
        have s6 : Same H4 (upd H5 t (.tup [.int (i : Nat), .ref b])) := sNew s5 ht1
        obtain ⟨c, hc1, hc2⟩ := shareAt s6 hf
        have hbq6 := TR.mono s6 hbq
        have b1 := smQ _ (inQ i)
        have b2 := smQ k (List.mem_of_getElem? hk)
        refine ⟨t, _, rfl, SqT.of upd_same, rfl, _, _, rfl, _, _, rfl, rfl, ?_⟩
        refine ⟨_, rfl, _, rfl, D2, _, _, _, rfl, rfl, SqL.of (s6 _ _ hD4), hc1, _, rfl, c, b, _, (util sts n (sta sts k)).num, (util sts n (sta sts k)).den, 3362, 3362, rfl, hc2, hbq6, b1, b2.1, b2.2, by decide, _, rfl, ?_⟩
        have el2 : decide ((util sts n (sta sts (bestOf (fun i => util sts n (sta sts i)) ((queues sts).take i) ((queues sts).headD 0)))).num * ((util sts n (sta sts k)).den : Int) < (util sts n (sta sts k)).num * ((util sts n (sta sts (bestOf (fun i => util sts n (sta sts i)) ((queues sts).take i) ((queues sts).headD 0)))).den : Int)) = decide (util sts n (sta sts (bestOf (fun i => util sts n (sta sts i)) ((queues sts).take i) ((queues sts).headD 0))) < util sts n (sta sts k)) :=
          decide_eq_decide.mpr (Rat.lt_iff _ _).symm
        have bt := best_take (u := fun i => util sts n (sta sts i)) (b := (queues sts).headD 0) hk
        by_cases hlt : util sts n (sta sts (bestOf (fun i => util sts n (sta sts i)) ((queues sts).take i) ((queues sts).headD 0))) < util sts n (sta sts k)
        · rw [el2, decide_eq_true hlt]
          refine iteT ⟨_, rfl, s6, i, some (.int (i : Nat)), some (.ref b), rfl, ?_⟩
          rw [bt, if_pos hlt]
          exact hk
        · rw [el2, decide_eq_false hlt]
          refine iteF ⟨s6, f, some (.int (i : Nat)), some (.ref b), rfl, ?_⟩
          rw [bt, if_neg hlt]
          exact hf
      · rintro σ H5 ⟨s5, f, v5, v6, rfl, hf⟩
        rw [ec, List.take_length] at hf
        have hbest : (queues sts)[f]? = some (CQ.best sts n) := hf
        obtain ⟨c, hc1, hc2⟩ := shareAt s5 hbest
        have hQ5 := s5 _ _ (s4 _ _ hQ3)
        have aq : atI (nv (queues sts)) (f : Int) = some (V.int (CQ.best sts n : Nat)) := atI_nat (by rw [nv_get, hbest]; rfl)
        have hfin := h.2 (show (0 : Int) ≤ ((CQ.best sts n : Nat) : Int) from Int.natCast_nonneg _)
        refine ⟨_, rfl, _, rfl, D, _, _, _, rfl, rfl, SqL.of hQ5, aq, _, rfl, _, rfl, D2, _, _, _, rfl, rfl, SqL.of (s5 _ _ hD4), hc1, c, _, _, _, rfl, rfl, hc2.sq, at0, _, rfl, _, rfl, D2, _, _, _, rfl, rfl, SqL.of (s5 _ _ hD4), hc1, c, _, _, _, rfl, rfl, hc2.sq, at1, (show 3 ≤ sizeLine by decide), fun t9 ht9 => ?_⟩
        exact hfin t9 _ (((s3.trans s4).trans s5).trans (same_new ht9)) (((s3.trans s4).trans s5).free ht9) upd_same
end
end Cq
end
section
set_option Elab.async false
set_option linter.all false
set_option maxRecDepth 100000
set_option maxHeartbeats 4000000
set_option exponentiation.threshold 100000
namespace Cq
open PySem PySem.Spec PyProof.Rows L2 CqR
open Lrx5 (Station Network below minus factorial count without demand error fractionResult fractionsResult isProper step)
open CQ (FitL FitS Fit vec leL sta Sm thr nrm stay qd mv Proper simple rs tot Res Bad mean pr)
/-! ### the network, to be written -/
def AllS (K : Kf) (H : Hp) : List (Addr × Addr) → List Station → Prop
  | [], [] => True
  | x :: xs, s :: ss => StD K H x.1 x.2 s ∧ AllS K H xs ss
  | _, _ => False
theorem AllS.toR {K : Kf} {H : Hp} : ∀ {ads : List (Addr × Addr)} {sts : List Station}, AllS K H ads sts → AllR (St1 K) H (ads.map Prod.fst) sts
  | [], [], _ => True.intro
  | x :: xs, s :: ss, h => ⟨⟨x.2, h.1⟩, AllS.toR h.2⟩
theorem AllS.len {K : Kf} {H : Hp} : ∀ {ads : List (Addr × Addr)} {sts : List Station}, AllS K H ads sts → ads.length = sts.length
  | [], [], _ => rfl
  | _ :: _, _ :: _, h => by simp [AllS.len h.2]
theorem AllS.get {K : Kf} {H : Hp} : ∀ {ads : List (Addr × Addr)} {sts : List Station} {i : Nat} {s : Station}, AllS K H ads sts → sts[i]? = some s → ∃ x, ads[i]? = some x ∧ StD K H x.1 x.2 s
  | [], [], i, s, _, e => by simp at e
  | x :: xs, t :: ss, 0, s, h, e => by
    obtain rfl : t = s := by simpa using e
    exact ⟨x, rfl, h.1⟩
  | _ :: xs, _ :: ss, i + 1, s, h, e => by
    obtain ⟨x, h1, h2⟩ := AllS.get (i := i) h.2 (by simpa using e)
    exact ⟨x, by simpa using h1, h2⟩
theorem AllS.imp {K : Kf} {H H' : Hp} : ∀ {ads : List (Addr × Addr)} {sts : List Station}, AllS K H ads sts → (∀ x ∈ ads, ∀ s, StD K H x.1 x.2 s → StD K H' x.1 x.2 s) → AllS K H' ads sts
  | [], [], _, _ => True.intro
  | x :: xs, s :: ss, h, k => ⟨k x (List.mem_cons_self ..) s h.1, AllS.imp h.2 fun y hy => k y (List.mem_cons_of_mem _ hy)⟩
theorem AllS.set {K : Kf} {H H' : Hp} : ∀ {ads : List (Addr × Addr)} {sts : List Station} {i : Nat} {x : Addr × Addr} {s' : Station}, AllS K H ads sts → ads[i]? = some x → StD K H' x.1 x.2 s' →
    (∀ (j : Nat) (y : Addr × Addr) (s : Station), j ≠ i → ads[j]? = some y → StD K H y.1 y.2 s → StD K H' y.1 y.2 s) → AllS K H' ads (sts.set i s')
  | [], [], i, x, s', _, e, _, _ => by simp at e
  | y :: ads, s :: sts, 0, x, s', h, e, hx, ho => by
    have : y = x := by simpa using e
    subst this
    refine ⟨hx, h.2.imp fun z hz t ht => ?_⟩
    obtain ⟨j, hj⟩ := List.mem_iff_getElem?.mp hz
    exact ho (j + 1) z t (Nat.succ_ne_zero j) (by simpa using hj) ht
  | y :: ads, s :: sts, i + 1, x, s', h, e, hx, ho => ⟨ho 0 y s (Nat.succ_ne_zero i).symm rfl h.1, AllS.set (i := i) h.2 (by simpa using e) hx fun j z t hj hz ht => ho (j + 1) z t (by omega) (by simpa using hz) ht⟩
theorem AllS.snoc {K : Kf} {H : Hp} {x : Addr × Addr} {s : Station} (hx : StD K H x.1 x.2 s) : ∀ {ads : List (Addr × Addr)} {sts : List Station}, AllS K H ads sts → AllS K H (ads ++ [x]) (sts ++ [s])
  | [], [], _ => ⟨hx, True.intro⟩
  | _ :: _, _ :: _, h => ⟨h.1, AllS.snoc hx h.2⟩
/-- the objects that calls may write -/
def Ft (a l : Addr) (ads : List (Addr × Addr)) : List Addr := a :: l :: (ads.map Prod.fst ++ ads.map Prod.snd)
structure NetW (K : Kf) (H : Hp) (a : Addr) (sts : List Station) (n : List Nat) (dx l p : Addr) (ads : List (Addr × Addr)) : Prop where
  ins : H a = some (.ins (cN K) dx (ntF l p))
  lst : H l = some (.lst (rv (ads.map Prod.fst)))
  sts : AllS K H ads sts
  pop : TN H p n
  d1 : (ads.map Prod.fst).Nodup
  d2 : (ads.map Prod.snd).Nodup
/-- the network in the state -/
def NetS (K : Kf) (H : Hp) (a : Addr) (st : Lrx5.State) (F : List Addr) : Prop := match st with
  | none => ∃ dx l p, NetW K H a [] [] dx l p [] ∧ F = Ft a l []
  | some net => ∃ dx l p ads, NetW K H a net.stations net.population dx l p ads ∧ F = Ft a l ads ∧ Fit net.stations net.population ∧ net.stations ≠ [] ∧ 0 < net.population.length
theorem NetW.mono {K : Kf} {H H' : Hp} (s : Same H H') {a : Addr} {sts : List Station} {n : List Nat} {dx l p : Addr} {ads : List (Addr × Addr)} (h : NetW K H a sts n dx l p ads) : NetW K H' a sts n dx l p ads :=
  ⟨s _ _ h.ins, s _ _ h.lst, h.sts.imp fun x _ t ht => ht.mono s, TN.mono s h.pop, h.d1, h.d2⟩
theorem NetS.mono {K : Kf} {H H' : Hp} (s : Same H H') {a : Addr} {st : Lrx5.State} {F : List Addr} (h : NetS K H a st F) : NetS K H' a st F := by
  cases st with
  | none =>
    obtain ⟨dx, l, p, h1, h2⟩ := h
    exact ⟨dx, l, p, h1.mono s, h2⟩
  | some net =>
    obtain ⟨dx, l, p, ads, h1, h2⟩ := h
    exact ⟨dx, l, p, ads, h1.mono s, h2⟩
theorem NetW.net {K : Kf} {H : Hp} {a : Addr} {sts : List Station} {n : List Nat} {dx l p : Addr} {ads : List (Addr × Addr)} (h : NetW K H a sts n dx l p ads) : NetR K H a sts n := ⟨dx, l, p, h.ins, ⟨_, h.lst, h.sts.toR⟩, h.pop⟩
theorem NetS.net {K : Kf} {H : Hp} {a : Addr} {sts : List Station} {n : List Nat} {F : List Addr} (h : NetS K H a (some ⟨sts, n⟩) F) : Net K H a sts n := by
  obtain ⟨dx, l, p, ads, h1, h2, h3, h4, h5⟩ := h
  exact ⟨h1.net, h3, h5⟩
/-- what else there is stays -/
def Fr (F : List Addr) (H H' : Hp) : Prop := ∀ b u, b ∉ F → H b = some u → H' b = some u
def OpS (K : Kf) (st : Lrx5.State) (c : Lrx5.Call) (H : Hp) (F : List Addr) (a : Addr) (Q : VK) (E : XK) : Prop :=
  (∀ (j : Nat) (x : Str) (cc : Int) (i : Nat), errs[j]? = some (x, cc, i) → (step st c).2 = error cc → Er K x cc H E) ∧
  (0 ≤ (step st c).2.num → ∀ t H' F', NetS K H' a (step st c).1 F' → Fr F H H' → (∀ b, b ∈ F' → b ∈ F ∨ H b = none) → H t = none → AL H' t ((step st c).2.num :: (step st c).2.nums) → Q (.ref t) H')
theorem OpS.ans {K : Kf} {sts : List Station} {n : List Nat} {c : Lrx5.Call} {H : Hp} {F : List Addr} {a : Addr} {Q : VK} {E : XK} (h : OpS K (some ⟨sts, n⟩) c H F a Q E) (hN : NetS K H a (some ⟨sts, n⟩) F) (he : (step (some ⟨sts, n⟩) c).1 = some ⟨sts, n⟩) : Ans K (Res sts n c) H Q E :=
  ⟨h.1, fun hn t H' s ft ha => h.2 hn t H' F (by rw [he]; exact hN.mono s) (fun b u _ e => s b u e) (fun b hb => .inl hb) ft ha⟩
theorem OpS.er {K : Kf} {st : Lrx5.State} {c : Lrx5.Call} {H : Hp} {F : List Addr} {a : Addr} {Q : VK} {E : XK} (h : OpS K st c H F a Q E) (j : Nat) {x : Str} {cc : Int} {i : Nat} (hj : errs[j]? = some (x, cc, i)) (e : (step st c).2 = error cc) : Er K x cc H E := h.1 j x cc i hj e
theorem OpS.ok {K : Kf} {st st' : Lrx5.State} {c : Lrx5.Call} {H : Hp} {F : List Addr} {a : Addr} {Q : VK} {E : XK} (h : OpS K st c H F a Q E) {v : Int} (hv : 0 ≤ v) (e : step st c = (st', ⟨v, []⟩)) :
    ∀ t H' F', NetS K H' a st' F' → Fr F H H' → (∀ b, b ∈ F' → b ∈ F ∨ H b = none) → H t = none → AL H' t [v] → Q (.ref t) H' := by
  have z := h.2
  rw [e] at z
  exact z hv
theorem StD.ne {K : Kf} {H H' : Hp} {a d : Addr} {s : Station} (h : StD K H a d s) (k : ∀ b u, (b = a ∨ b = d) → H b = some u → H' b = some u) : StD K H' a d s := by
  obtain ⟨⟨dx, h1⟩, h2⟩ := h
  exact ⟨⟨dx, k _ _ (.inl rfl) h1⟩, k _ _ (.inr rfl) h2⟩
theorem nodup_ne {l : List Addr} (h : l.Nodup) {i j : Nat} {x y : Addr} (hi : l[i]? = some x) (hj : l[j]? = some y) (ne : j ≠ i) : y ≠ x := fun z => by
  subst z
  have hi' := (List.getElem?_eq_some_iff.mp hi).1
  exact ne ((List.getElem?_inj (i := i) (j := j) (l := l) hi' h).mp (by rw [hi, hj])).symm
theorem map_fst {ads : List (Addr × Addr)} {i : Nat} {x : Addr × Addr} (h : ads[i]? = some x) : (ads.map Prod.fst)[i]? = some x.1 := by rw [List.getElem?_map, h]; rfl
theorem map_snd {ads : List (Addr × Addr)} {i : Nat} {x : Addr × Addr} (h : ads[i]? = some x) : (ads.map Prod.snd)[i]? = some x.2 := by rw [List.getElem?_map, h]; rfl
theorem mem_ft1 {a l : Addr} {ads : List (Addr × Addr)} {i : Nat} {x : Addr × Addr} (h : ads[i]? = some x) : x.1 ∈ Ft a l ads := List.mem_cons_of_mem _ (List.mem_cons_of_mem _ (List.mem_append_left _ (List.mem_of_getElem? (map_fst h))))
theorem mem_ft2 {a l : Addr} {ads : List (Addr × Addr)} {i : Nat} {x : Addr × Addr} (h : ads[i]? = some x) : x.2 ∈ Ft a l ads := List.mem_cons_of_mem _ (List.mem_cons_of_mem _ (List.mem_append_right _ (List.mem_of_getElem? (map_snd h))))
section
variable {P : Program} {w : World} {K : Kf} {mg : Str → Option Value} {base : Heap}
theorem ite_iff {α : Type} {p q : Prop} [Decidable p] [Decidable q] (h : p ↔ q) (x y : α) : (if p then x else y) = if q then x else y := by
  by_cases hp : p
  · rw [if_pos hp, if_pos (h.mp hp)]
  · rw [if_neg hp, if_neg fun z => hp (h.mpr z)]
theorem step_setStation (sts : List Station) (n : List Nat) (i k c : Nat) : step (some ⟨sts, n⟩) (.setStation i k c) = if ¬ i < sts.length then (some ⟨sts, n⟩, error (-2)) else if 1 < k ∨ c = 0 ∨ 20 < c ∨ (k = 1 ∧ c ≠ 1) then (some ⟨sts, n⟩, error (-22)) else
    (some ⟨sts.set i { sta sts i with isDelay := k == 1, servers := c }, n⟩, ⟨0, []⟩) := ite_iff CQ.isS _ _
def sp_set_station (K : Kf) : Sp := fun vs H Q E => ∃ (a : Addr) (i k c : Nat) (net : Network) (F : List Addr), vs = [.ref a, .int i, .int k, .int c] ∧ NetS K H a (some net) F ∧ OpS K (some net) (.setStation i k c) H F a Q E
theorem sc_set_station : FnScope ["network", "station", "is_delay", "servers", "changed"] ["network", "station", "is_delay", "servers"] (defScope (top 110)) := ⟨rfl, rfl, rfl, by decide +kernel, rfl, by decide +kernel, by decide +kernel⟩
theorem d_set_station (T : Facts K mg) : Dfn P w K mg base (L2.CX P w) 6 "set_station" ["network", "station", "is_delay", "servers"] (sp_set_station K) := by
  refine dfnX (T.d 81 rfl) sc_set_station (fun _ _ _ _ _ _ us hl => match us, hl with | [_, _, _, _], _ => rfl) (fun vs H Q E h => by obtain ⟨a, i, k, c, net, F, rfl, _⟩ := h; rfl) fun cdv A outer s H vs Q E hr h => ⟨_,
    (pss_cons (ps_expr (pe_mth (m_check_station T) (hr.mono (by decide)) (passes_call (takes_of rfl rfl rfl rfl) (fun _ _ _ _ z => z)) (pv 0) (pa_cons (pv 1) pa_nil)))
    (pss_cons (ps_expr (pe_dfn (d_check_service T) hr (passes_call (takes_of rfl rfl rfl rfl) (fun _ _ _ _ z => z)) (pa_cons (pv 2) (pa_cons (pv 3) pa_nil))))
    (pss_cons (ps_set (i := 4) sc_set_station.nd rfl (Or.inl rfl) (pe_ix ix_list (pe_fld (pv 0) rfl) (pv 1) (fun _ _ => rfl)))
    (pss_cons (ps_fld (pv 4) (pv 2) rfl)
    (pss_cons (ps_fld (pv 4) (pv 3) rfl)
    (pss_one (ps_ret (pe_lst (pa_cons pe_int pa_nil))))))))), ?_⟩
  obtain ⟨a, i, k, c, ⟨sts, n⟩, F, rfl, hN, h⟩ := h
  obtain ⟨dx, l, p, ads, hW, rfl, hf, hne, hcl⟩ := id hN
  have hNn := hN.net
  have es := step_setStation sts n i k c
  refine ⟨_, rfl, a, dx, _, rfl, hW.ins, rfl, _, rfl, a, i, sts, n, rfl, hNn.net, fun hb => h.er 1 rfl (by rw [es, if_pos hb]), fun hi => ?_⟩
  rw [if_neg hi] at es
  have hi := Decidable.not_not.mp hi
  refine ⟨_, rfl, _, rfl, k, c, rfl, fun hb => h.er 3 rfl (by rw [es, if_pos hb]), fun hk => ?_⟩
  rw [if_neg hk] at es
  obtain ⟨x, hx, ⟨dx2, hs1⟩, hs2⟩ := hW.sts.get (CQ.sta_get hi)
  have h1 := map_fst hx
  refine ⟨_, rfl, a, _, dx, _, _, rfl, hW.ins, T.cl_Network, T.n_stations, nfS, _, rfl, l, _, _, _, rfl, rfl, SqL.of hW.lst, atI_nat (by rw [rv, List.getElem?_map, h1]; rfl), ?_⟩
  refine ⟨_, rfl, _, rfl, x.1, _, dx2, _, rfl, hs1, T.cl_Station, T.n_is_delay, (show 3 < 1000 by decide), ?_⟩
  refine ⟨_, rfl, _, rfl, x.1, _, dx2, _, rfl, upd_same, T.cl_Station, T.n_servers, (show 3 < 1000 by decide), (show 1 ≤ sizeLine by decide), fun t ht => ?_⟩
  have nxt : x.1 ≠ t := ne_of_none upd_same ht
  have ft : H t = none := by
    rw [upd_ne nxt.symm, upd_ne nxt.symm] at ht
    exact ht
  -- what stays
  have keep : ∀ b u, b ≠ x.1 → H b = some u → upd (upd (upd H x.1 (.ins (cS K) dx2 (putF "is_delay" (.int (k : Nat)) (stF (dB (sta sts i)) (sta sts i).servers x.2)))) x.1 (.ins (cS K) dx2 (putF "servers" (.int (c : Nat)) (putF "is_delay" (.int (k : Nat)) (stF (dB (sta sts i)) (sta sts i).servers x.2))))) t (.lst [.int 0]) b = some u := fun b u nb e => by
    rw [upd_ne (ne_of_none e ft), upd_ne nb, upd_ne nb]
    exact e
  have nx2 : x.2 ≠ x.1 := ne_of hs2 hs1 fun z => nomatch z
  refine h.ok (Int.le_refl 0) es t _ (Ft a l ads) ⟨dx, l, p, ads, ⟨?_, ?_, ?_, ?_, hW.d1, hW.d2⟩, rfl, ?_, ?_, hcl⟩ (fun b u hb e => keep b u (fun z => hb (by rw [z]; exact mem_ft1 hx)) e) (fun b hb => .inl hb) ft ?_
  · refine keep _ _ (fun z => ?_) hW.ins
    have e := hW.ins
    rw [z, hs1] at e
    injection e with e
    injection e with _ _ e
    have := congrArg List.length e
    cases this
  · exact keep _ _ (ne_of hW.lst hs1 fun z => nomatch z) hW.lst
  · refine hW.sts.set hx ⟨⟨dx2, ?_⟩, keep _ _ nx2 hs2⟩ fun j y s hj hy hs => hs.ne fun b u hb e => keep b u ?_ e
    · rw [upd_ne nxt, upd_same]
      have e1 : dB { sta sts i with isDelay := k == 1, servers := c } = (k : Int) := by
        unfold dB
        by_cases hk1 : k = 1
        · subst hk1; rfl
        · have : k = 0 := by omega
          subst this; rfl
      rw [e1]
      rfl
    · rcases hb with rfl | rfl
      · exact nodup_ne hW.d1 (map_fst hx) (map_fst hy) hj
      · obtain ⟨_, g2⟩ := hs
        exact ne_of g2 hs1 fun z => nomatch z
  · exact keep _ _ (ne_of hW.pop hs1 fun z => nomatch z) hW.pop
  · refine ⟨by rw [List.length_set]; exact hf.n5, fun s hs => ?_, hf.fl⟩
    rcases List.mem_or_eq_of_mem_set hs with z | z
    · exact hf.st s z
    · subst z
      have hS := hf.st _ (CQ.sta_mem hi)
      exact ⟨hS.dl, hS.dm, (by show 0 < c; omega), (by show c ≤ 20; omega)⟩
  · intro z
    have := congrArg List.length z
    rw [List.length_set] at this
    exact hne (List.length_eq_zero_iff.mp this)
  · exact upd_same
end
end Cq
end
section
set_option Elab.async false
set_option linter.all false
set_option maxRecDepth 100000
set_option maxHeartbeats 4000000
set_option exponentiation.threshold 100000
namespace Cq
open PySem PySem.Spec PyProof.Rows L2 CqR
open Lrx5 (Station Network below minus factorial count without demand error fractionResult fractionsResult isProper step)
open CQ (FitL FitS Fit vec leL sta Sm thr nrm stay qd mv Proper simple rs tot Res Bad mean pr)
section
variable {P : Program} {w : World} {K : Kf} {mg : Str → Option Value} {base : Heap}
theorem or_iff (p q : Prop) [Decidable p] [Decidable q] {α : Type} (x y : α) : (if p ∨ q then x else y) = if p then x else if q then x else y := by
  by_cases hp : p
  · rw [if_pos (.inl hp), if_pos hp]
  · by_cases hq : q
    · rw [if_pos (.inr hq), if_neg hp, if_pos hq]
    · rw [if_neg fun z => z.elim hp hq, if_neg hp, if_neg hq]
theorem step_setDemand (sts : List Station) (n : List Nat) (i r d : Nat) : step (some ⟨sts, n⟩) (.setDemand i r d) = if ¬ i < sts.length then (some ⟨sts, n⟩, error (-2)) else if ¬ r < n.length then (some ⟨sts, n⟩, error (-2)) else if 1000 < d then (some ⟨sts, n⟩, error (-22)) else
    (some ⟨sts.set i (wdS (sta sts i) r d), n⟩, ⟨((demand (sta sts i) r : Nat) : Int), []⟩) :=
  (or_iff _ _ _ _).trans ((ite_iff CQ.isS _ _).trans (by congr 1; exact ite_iff CQ.isC _ _))
def sp_set_demand (K : Kf) : Sp := fun vs H Q E => ∃ (a : Addr) (i r d : Nat) (net : Network) (F : List Addr), vs = [.ref a, .int i, .int r, .int d] ∧ NetS K H a (some net) F ∧ OpS K (some net) (.setDemand i r d) H F a Q E
theorem sc_set_demand : FnScope ["network", "station", "customer_class", "demand", "demands", "old_demand"] ["network", "station", "customer_class", "demand"] (defScope (top 111)) := ⟨rfl, rfl, rfl, by decide +kernel, rfl, by decide +kernel, by decide +kernel⟩
theorem d_set_demand (T : Facts K mg) : Dfn P w K mg base (L2.CX P w) 6 "set_demand" ["network", "station", "customer_class", "demand"] (sp_set_demand K) := by
  refine dfnX (T.d 82 rfl) sc_set_demand (fun _ _ _ _ _ _ us hl => match us, hl with | [_, _, _, _], _ => rfl) (fun vs H Q E h => by obtain ⟨a, i, r, d, net, F, rfl, _⟩ := h; rfl) fun cdv A outer s H vs Q E hr h => ⟨_,
    (pss_cons (ps_expr (pe_mth (m_check_station T) (hr.mono (by decide)) (passes_call (takes_of rfl rfl rfl rfl) (fun _ _ _ _ z => z)) (pv 0) (pa_cons (pv 1) pa_nil)))
    (pss_cons (ps_expr (pe_mth (m_check_class T) (hr.mono (by decide)) (passes_call (takes_of rfl rfl rfl rfl) (fun _ _ _ _ z => z)) (pv 0) (pa_cons (pv 2) pa_nil)))
    (pss_cons (ps_expr (pe_dfn (d_check_demand T) hr (passes_call (takes_of rfl rfl rfl rfl) (fun _ _ _ _ z => z)) (pa_cons (pv 3) pa_nil)))
    (pss_cons (ps_set (i := 4) sc_set_demand.nd rfl (Or.inl rfl) (pe_fld (pe_ix ix_list (pe_fld (pv 0) rfl) (pv 1) (fun _ _ => rfl)) rfl))
    (pss_cons (ps_set (i := 5) sc_set_demand.nd rfl (Or.inl rfl) (pe_ix ix_list (pv 4) (pv 2) (fun _ _ => rfl)))
    (pss_cons (ps_asg (pv 3) (pg_sub (pv 4) (pv 2) set_list))
    (pss_one (ps_ret (pe_lst (pa_cons (pv 5) pa_nil)))))))))), ?_⟩
  obtain ⟨a, i, r, d, ⟨sts, n⟩, F, rfl, hN, h⟩ := h
  obtain ⟨dx, l, p, ads, hW, rfl, hf, hne, hcl⟩ := id hN
  have hNn := hN.net
  have es := step_setDemand sts n i r d
  refine ⟨_, rfl, a, dx, _, rfl, hW.ins, rfl, _, rfl, a, i, sts, n, rfl, hNn.net, fun hb => h.er 1 rfl (by rw [es, if_pos hb]), fun hi => ?_⟩
  rw [if_neg hi] at es
  have hi := Decidable.not_not.mp hi
  refine ⟨_, rfl, a, dx, _, rfl, hW.ins, rfl, _, rfl, a, r, sts, n, rfl, hNn.net, fun hb => h.er 1 rfl (by rw [es, if_pos hb]), fun hr2 => ?_⟩
  rw [if_neg hr2] at es
  have hr2 := Decidable.not_not.mp hr2
  refine ⟨_, rfl, d, rfl, fun hb => h.er 3 rfl (by rw [es, if_pos hb]), fun hk => ?_⟩
  rw [if_neg hk] at es
  obtain ⟨x, hx, ⟨dx2, hs1⟩, hs2⟩ := hW.sts.get (CQ.sta_get hi)
  have h1 := map_fst hx
  have hS := hf.st _ (CQ.sta_mem hi)
  have hr3 : r < (sta sts i).demands.length := by rw [hS.dl]; exact hr2
  refine ⟨_, rfl, a, _, dx, _, _, rfl, hW.ins, T.cl_Network, T.n_stations, nfS, _, rfl, l, _, _, _, rfl, rfl, SqL.of hW.lst, atI_nat (by rw [rv, List.getElem?_map, h1]; rfl), x.1, _, dx2, _, _, rfl, hs1, T.cl_Station, T.n_demands, rfl, ?_⟩
  refine ⟨_, rfl, _, rfl, x.2, _, _, _, rfl, rfl, SqL.of hs2, nv_atd hr3, ?_⟩
  refine ⟨_, rfl, _, rfl, _, rfl, x.2, nv (sta sts i).demands, (r : Int), r, rfl, rfl, hs2, by rw [nv_len]; exact ixN_nat hr3, ?_⟩
  refine ⟨_, rfl, (show 1 ≤ sizeLine by decide), fun t ht => ?_⟩
  have nxt : x.2 ≠ t := ne_of_none upd_same ht
  have ft : H t = none := by
    rw [upd_ne nxt.symm] at ht
    exact ht
  have keep : ∀ b u, b ≠ x.2 → H b = some u → upd (upd H x.2 (.lst ((nv (sta sts i).demands).set r (.int (d : Nat))))) t (.lst [.int (demand (sta sts i) r : Nat)]) b = some u := fun b u nb e => by
    rw [upd_ne (ne_of_none e ft), upd_ne nb]
    exact e
  have nx1 : x.1 ≠ x.2 := ne_of hs1 hs2 fun z => nomatch z
  refine h.ok (Int.natCast_nonneg _) es t _ (Ft a l ads) ⟨dx, l, p, ads, ⟨?_, ?_, ?_, ?_, hW.d1, hW.d2⟩, rfl, ?_, ?_, hcl⟩ (fun b u hb e => keep b u (fun z => hb (by rw [z]; exact mem_ft2 hx)) e) (fun b hb => .inl hb) ft ?_
  · exact keep _ _ (ne_of hW.ins hs2 fun z => nomatch z) hW.ins
  · refine keep _ _ (fun z => ?_) hW.lst
    have e := hW.lst
    rw [z, hs2] at e
    injection e with e
    injection e with e
    have hlen := congrArg List.length e
    rw [nv_len, rv, List.length_map, List.length_map, hW.sts.len] at hlen
    cases e1 : (sta sts i).demands with
    | nil => rw [e1] at hr3; exact absurd hr3 (Nat.not_lt_zero _)
    | cons k ks =>
      rw [e1] at e
      cases e2 : ads.map Prod.fst with
      | nil => rw [e2] at e; cases e
      | cons y ys => rw [e2] at e; cases e
  · refine hW.sts.set hx ⟨⟨dx2, keep _ _ nx1 hs1⟩, ?_⟩ fun j y s hj hy hs => hs.ne fun b u hb e => keep b u ?_ e
    · rw [upd_ne nxt, upd_same, nv_set]
      rfl
    · rcases hb with rfl | rfl
      · obtain ⟨⟨_, g1⟩, _⟩ := hs
        exact ne_of g1 hs2 fun z => nomatch z
      · exact nodup_ne hW.d2 (map_snd hx) (map_snd hy) hj
  · exact keep _ _ (ne_of hW.pop hs2 fun z => nomatch z) hW.pop
  · exact CQ.fit_wd hf hi (by omega)
  · intro z
    have := congrArg List.length z
    rw [List.length_set] at this
    exact hne (List.length_eq_zero_iff.mp this)
  · exact upd_same
theorem step_setPopulation (sts : List Station) (n : List Nat) (r k : Nat) : step (some ⟨sts, n⟩) (.setPopulation r k) = if ¬ r < n.length then (some ⟨sts, n⟩, error (-2)) else if 12 < k then (some ⟨sts, n⟩, error (-22)) else if 40 < vec (n.set r k) then (some ⟨sts, n⟩, error (-28)) else
    (some ⟨sts, n.set r k⟩, ⟨((count n r : Nat) : Int), []⟩) := by
  rw [← CQ.vectors_eq]
  exact ite_iff CQ.isC _ _
def sp_set_population (K : Kf) : Sp := fun vs H Q E => ∃ (a : Addr) (r k : Nat) (net : Network) (F : List Addr), vs = [.ref a, .int r, .int k] ∧ NetS K H a (some net) F ∧ OpS K (some net) (.setPopulation r k) H F a Q E
theorem sc_set_population : FnScope ["network", "customer_class", "population", "old_population", "populations"] ["network", "customer_class", "population"] (defScope (top 112)) := ⟨rfl, rfl, rfl, by decide +kernel, rfl, by decide +kernel, by decide +kernel⟩
theorem d_set_population (T : Facts K mg) : Dfn P w K mg base (L2.CX P w) 6 "set_population" ["network", "customer_class", "population"] (sp_set_population K) := by
  refine dfnX (T.d 83 rfl) sc_set_population (fun _ _ _ _ _ _ us hl => match us, hl with | [_, _, _], _ => rfl) (fun vs H Q E h => by obtain ⟨a, r, k, net, F, rfl, _⟩ := h; rfl) fun cdv A outer s H vs Q E hr h => ⟨_,
    (pss_cons (ps_expr (pe_mth (m_check_class T) (hr.mono (by decide)) (passes_call (takes_of rfl rfl rfl rfl) (fun _ _ _ _ z => z)) (pv 0) (pa_cons (pv 1) pa_nil)))
    (pss_cons (ps_expr (pe_dfn (d_check_population T) hr (passes_call (takes_of rfl rfl rfl rfl) (fun _ _ _ _ z => z)) (pa_cons (pv 2) pa_nil)))
    (pss_cons (ps_set (i := 3) sc_set_population.nd rfl (Or.inl rfl) (pe_ix ix_tup (pe_fld (pv 0) rfl) (pv 1) (fun _ _ => rfl)))
    (pss_cons (ps_set (i := 4) sc_set_population.nd rfl (Or.inl rfl) (pe_dfn (d_with_customers T) (hr.mono (by decide)) pass0 (pa_cons (pe_fld (pv 0) rfl) (pa_cons (pv 1) (pa_cons (pv 2) pa_nil)))))
    (pss_cons (ps_expr (pe_dfn (d_check_fits T) (hr.mono (by decide)) (passes_call (takes_of rfl rfl rfl rfl) (fun _ _ _ _ z => z)) (pa_cons (pv 4) pa_nil)))
    (pss_cons (ps_fld (pv 0) (pv 4) rfl)
    (pss_one (ps_ret (pe_lst (pa_cons (pv 3) pa_nil)))))))))), ?_⟩
  obtain ⟨a, r, k, ⟨sts, n⟩, F, rfl, hN, h⟩ := h
  obtain ⟨dx, l, p, ads, hW, rfl, hf, hne, hcl⟩ := id hN
  have hNn := hN.net
  have es := step_setPopulation sts n r k
  refine ⟨_, rfl, a, dx, _, rfl, hW.ins, rfl, _, rfl, a, r, sts, n, rfl, hNn.net, fun hb => h.er 1 rfl (by rw [es, if_pos hb]), fun hr2 => ?_⟩
  rw [if_neg hr2] at es
  have hr2 := Decidable.not_not.mp hr2
  refine ⟨_, rfl, k, rfl, fun hb => h.er 3 rfl (by rw [es, if_pos hb]), fun hk => ?_⟩
  rw [if_neg hk] at es
  refine ⟨_, rfl, a, _, dx, _, _, rfl, hW.ins, T.cl_Network, T.n_populations, nfP, _, rfl, p, _, _, _, rfl, rfl, hW.pop.sq, nv_at hr2, ?_⟩
  refine ⟨_, rfl, a, _, dx, _, _, rfl, hW.ins, T.cl_Network, T.n_populations, nfP, _, rfl, _, rfl, p, n, r, k, rfl, hW.pop, hr2, fun p2 H1 s1 hp2 => ?_⟩
  refine ⟨_, rfl, p2, n.set r k, rfl, hp2, set_le hf.fl.le (by omega), by rw [List.length_set]; exact hf.fl.len, fun hb => (h.er 4 rfl (by rw [es, if_pos hb])).mono s1, fun hv => ?_⟩
  rw [if_neg hv] at es
  have ha1 := s1 _ _ hW.ins
  refine ⟨_, rfl, _, rfl, a, _, dx, _, rfl, ha1, T.cl_Network, T.n_populations, (show 2 < 1000 by decide), ?_⟩
  refine ⟨_, rfl, (show 1 ≤ sizeLine by decide), fun t ht => ?_⟩
  have nat : a ≠ t := ne_of_none upd_same ht
  have ft1 : H1 t = none := by
    rw [upd_ne nat.symm] at ht
    exact ht
  have ft : H t = none := s1.free ft1
  have keep1 : ∀ b u, b ≠ a → H1 b = some u → upd (upd H1 a (.ins (cN K) dx (putF "populations" (.ref p2) (ntF l p)))) t (.lst [.int (count n r : Nat)]) b = some u := fun b u nb e => by
    rw [upd_ne (ne_of_none e ft1), upd_ne nb]
    exact e
  have keep : ∀ b u, b ≠ a → H b = some u → upd (upd H1 a (.ins (cN K) dx (putF "populations" (.ref p2) (ntF l p)))) t (.lst [.int (count n r : Nat)]) b = some u := fun b u nb e => keep1 b u nb (s1 _ _ e)
  have aft : a ∈ Ft a l ads := List.mem_cons_self ..
  refine h.ok (Int.natCast_nonneg _) es t _ (Ft a l ads) ⟨dx, l, p2, ads, ⟨?_, ?_, ?_, ?_, hW.d1, hW.d2⟩, rfl, ?_, hne, by rw [List.length_set]; exact hcl⟩ (fun b u hb e => keep b u (fun z => hb (by rw [z]; exact aft)) e) (fun b hb => .inl hb) ft ?_
  · rw [upd_ne nat, upd_same]
    rfl
  · exact keep _ _ (ne_of hW.lst hW.ins fun z => nomatch z) hW.lst
  · refine hW.sts.imp fun y hy s hs => hs.ne fun b u hb e => keep b u ?_ e
    obtain ⟨⟨dy, g1⟩, g2⟩ := hs
    rcases hb with rfl | rfl
    · intro z
      rw [z, hW.ins] at g1
      injection g1 with g1
      injection g1 with _ _ g1
      have := congrArg List.length g1
      cases this
    · exact ne_of g2 hW.ins fun z => nomatch z
  · exact keep1 _ _ (ne_of hp2 ha1 fun z => nomatch z) hp2
  · exact CQ.fit_set hf (by omega) (by omega)
  · exact upd_same
end
end Cq
end
section
set_option Elab.async false
set_option linter.all false
set_option maxRecDepth 100000
set_option maxHeartbeats 4000000
set_option exponentiation.threshold 100000
namespace Cq
open PySem PySem.Spec PyProof.Rows L2 CqR
open Lrx5 (Station Network below minus factorial count without demand error fractionResult fractionsResult isProper step)
open CQ (FitL FitS Fit vec leL sta Sm thr nrm stay qd mv Proper simple rs tot Res Bad mean pr)
theorem NetS.ins {K : Kf} {H : Hp} {a : Addr} {st : Lrx5.State} {F : List Addr} (h : NetS K H a st F) : ∃ dx l p, H a = some (.ins (cN K) dx (ntF l p)) ∧ a ∈ F := by
  cases st with
  | none =>
    obtain ⟨dx, l, p, h1, rfl⟩ := h
    exact ⟨dx, l, p, h1.ins, List.mem_cons_self ..⟩
  | some net =>
    obtain ⟨dx, l, p, ads, h1, rfl, _⟩ := h
    exact ⟨dx, l, p, h1.ins, List.mem_cons_self ..⟩
theorem vec_zeros : ∀ C : Nat, vec (List.replicate C 0) = 1
  | 0 => rfl
  | C + 1 => by
    rw [List.replicate_succ, vec, vec_zeros C]
def newS (C : Nat) : Station := ⟨false, 1, List.replicate C 0⟩
theorem nodup_snoc {l : List Addr} {x : Addr} (h : l.Nodup) (k : x ∉ l) : (l ++ [x]).Nodup := by
  unfold List.Nodup
  rw [List.pairwise_append]
  refine ⟨h, by simp, fun a ha b hb z => ?_⟩
  have := List.mem_singleton.mp hb
  rw [z, this] at ha
  exact k ha
section
variable {P : Program} {w : World} {K : Kf} {mg : Str → Option Value} {base : Heap}
theorem step_create (st : Lrx5.State) (S C : Nat) : step st (.create S C) = if S = 0 ∨ 5 < S ∨ C = 0 ∨ 3 < C then (st, error (-22)) else (some ⟨List.replicate S (newS C), List.replicate C 0⟩, ⟨0, []⟩) := rfl
def sp_create (K : Kf) : Sp := fun vs H Q E => ∃ (a : Addr) (S C : Nat) (st : Lrx5.State) (F : List Addr), vs = [.ref a, .int S, .int C] ∧ NetS K H a st F ∧ OpS K st (.create S C) H F a Q E
theorem sc_create : FnScope ["network", "station_count", "class_count", "number"] ["network", "station_count", "class_count"] (defScope (top 109)) := ⟨rfl, rfl, rfl, by decide +kernel, rfl, by decide +kernel, by decide +kernel⟩
theorem d_create (T : Facts K mg) : Dfn P w K mg base (L2.CX P w) 6 "create" ["network", "station_count", "class_count"] (sp_create K) := by
  refine dfnX (T.d 80 rfl) sc_create (fun _ _ _ _ _ _ us hl => match us, hl with | [_, _, _], _ => rfl) (fun vs H Q E h => by obtain ⟨a, S, C, st, F, rfl, _⟩ := h; rfl) fun cdv A outer s H vs Q E hr h => ⟨_,
    (pss_cons (ps_expr (pe_dfn (d_check_sizes T) hr (passes_call (takes_of rfl rfl rfl rfl) (fun _ _ _ _ z => z)) (pa_cons (pv 1) (pa_cons (pv 2) pa_nil))))
    (pss_cons (ps_fld (pv 0) (by exact (pe_lc rfl sc_create.nd (pi_range1 rfl T.f_range (pa_cons (pv 1) pa_nil)) (blkOk_by (own := [("number", 3)]) (N := ["network", "station_count", "class_count", "number"]) (sc := defScope (top 109)) (by decide +kernel)) (fun _ _ _ _ _ => by exact (pg_name (i := 3) sc_create.nd rfl (Or.inl rfl) (Or.inr rfl))) (fun _ _ _ _ _ => by exact pts_nil) (fun _ _ _ _ _ => by exact (pe_mk T.mk_Station (ini_Station T) T.g_Station (hr.mono (by decide)) (pa_cons (pv 2) pa_nil))))) rfl)
    (pss_cons (ps_fld (pv 0) (pe_callTy call_tuple_of (by rfl) T.f_tuple boot_tuple (pa_cons (pe_op op_rep (pe_lst (pa_cons pe_int pa_nil)) (pv 2)) pa_nil)) rfl)
    (pss_one (ps_ret (pe_lst (pa_cons pe_int pa_nil))))))), ?_⟩
  obtain ⟨a, S, C, st, F, rfl, hN, h⟩ := h
  obtain ⟨dx, l, p, ha, haF⟩ := hN.ins
  have es := step_create st S C
  refine ⟨_, rfl, _, rfl, S, C, rfl, fun hb => h.er 3 rfl (by rw [es, if_pos hb]), fun hg => ?_⟩
  rw [if_neg hg] at es
  refine ⟨_, rfl, _, rfl, by omega, by omega, fun D hD => ?_⟩
  have naD : a ≠ D := ne_of_none ha hD
  refine lc_it (walk_range (lo := 0) (n := S)) (fun i H1 => Same H H1 ∧ ∃ ads, H1 D = some (.lst (rv (ads.map Prod.fst))) ∧ AllS K H1 ads (List.replicate i (newS C)) ∧ (ads.map Prod.fst).Nodup ∧ (ads.map Prod.snd).Nodup ∧ ∀ y ∈ ads, H y.1 = none ∧ H y.2 = none)
    ⟨same_new hD, [], upd_same, True.intro, List.nodup_nil, List.nodup_nil, fun y hy => by cases hy⟩ (fun _ _ _ _ => trivial) ?_ ?_
  · rintro i x0 H1 H2 hi ⟨s1, ads, hD1, hA, d1, d2, hfr⟩ ⟨rfl, rfl⟩
    refine ⟨rfl, ?_⟩
    refine yes ?_
    refine ⟨_, rfl, fun x dx2 hx hdx ne => ?_⟩
    have s2 : Sb x H2 (upd (upd H2 dx2 (.own x)) x (.ins (cS K) dx2 [])) := ((Sb.refl x H2).trans (same_new hdx)).put
    refine ⟨x, dx2, C, rfl, upd_same, by omega, fun d H3 s3 hd hx3 hd3 => ⟨rfl, ?_⟩⟩
    have sB : Sb x H2 H3 := fun b u nb e => s3 b u nb (s2 b u nb e)
    have sS : Same H2 H3 := sB.same hx
    have fd : H2 d = none := by
      refine Decidable.byContradiction fun z => ?_
      cases e : H2 d with
      | none => exact z e
      | some u =>
        have nx : d ≠ x := ne_of_none e hx
        rw [s2 d u nx e] at hd
        cases hd
    have hD3 := sS _ _ hD1
    have st3 : StD K H3 x d (newS C) := ⟨⟨dx2, hx3⟩, hd3⟩
    have hA3 := hA.imp (H' := H3) fun y _ s z => z.mono sS
    have nDx : D ≠ x := ne_of_none hD1 hx
    have nDd : D ≠ d := ne_of_none hD1 fd
    have up : ∀ {a d s}, StD K H3 a d s → a ≠ D → d ≠ D → StD K (upd H3 D (.lst (rv (ads.map Prod.fst) ++ [V.ref x]))) a d s := fun hs n1 n2 => hs.ne fun b u hb e => by
      rw [upd_ne (by rcases hb with rfl | rfl; exact n1; exact n2)]
      exact e
    have inA : ∀ y ∈ ads, ∃ u v, H2 y.1 = some u ∧ H2 y.2 = some v := fun y hy => by
      obtain ⟨j, hj⟩ := List.mem_iff_getElem?.mp hy
      have hjl := (List.getElem?_eq_some_iff.mp hj).1
      rw [hA.len, List.length_replicate] at hjl
      obtain ⟨z, hz, ⟨dz, g1⟩, g2⟩ := hA.get (i := j) (s := newS C) (by rw [List.getElem?_replicate, if_pos hjl])
      obtain rfl : z = y := by rw [hj] at hz; exact (Option.some.inj hz).symm
      exact ⟨_, _, g1, g2⟩
    have nAD : ∀ y ∈ ads, y.1 ≠ D ∧ y.2 ≠ D := fun y hy => by
      obtain ⟨h1, h2⟩ := hfr y hy
      obtain ⟨j, hj⟩ := List.mem_iff_getElem?.mp hy
      have hjl := (List.getElem?_eq_some_iff.mp hj).1
      rw [hA.len, List.length_replicate] at hjl
      obtain ⟨z, hz, ⟨dz, g1⟩, g2⟩ := hA.get (i := j) (s := newS C) (by rw [List.getElem?_replicate, if_pos hjl])
      obtain rfl : z = y := by rw [hj] at hz; exact (Option.some.inj hz).symm
      refine ⟨ne_of g1 hD1 (fun z => nomatch z), fun e => ?_⟩
      rw [e, hD1] at g2
      injection g2 with g2
      injection g2 with g2
      have hl : (List.replicate C 0).length = 0 ∨ ads.map Prod.fst = [] := by
        cases e1 : ads.map Prod.fst with
        | nil => exact .inr rfl
        | cons b bs =>
          rw [e1] at g2
          cases e2 : (newS C).demands with
          | nil => rw [e2] at g2; cases g2
          | cons k ks => rw [e2] at g2; cases g2
      rcases hl with hl | hl
      · rw [List.length_replicate] at hl
        omega
      · have := List.map_eq_nil_iff.mp hl
        rw [this] at hy
        cases hy
    refine ⟨rv (ads.map Prod.fst), hD3, ?_, sPut (s1.trans sS) hD, ads ++ [(x, d)], ?_, ?_, ?_, ?_, ?_⟩
    · rw [rv, List.length_map, List.length_map, hA.len, List.length_replicate]
      exact sizeK (by omega)
    · rw [upd_same, rv_snoc, List.map_append]
      rfl
    · rw [List.replicate_succ']
      exact AllS.snoc (x := (x, d)) (up st3 nDx.symm nDd.symm) (hA3.imp fun y hy s z => up z (nAD y hy).1 (nAD y hy).2)
    · rw [List.map_append]
      refine nodup_snoc d1 fun z => ?_
      obtain ⟨y, hy, e⟩ := List.mem_map.mp z
      obtain ⟨u, _, g, _⟩ := inA y hy
      rw [e] at g
      exact absurd (g.symm.trans hx) (fun z => nomatch z)
    · rw [List.map_append]
      refine nodup_snoc d2 fun z => ?_
      obtain ⟨y, hy, e⟩ := List.mem_map.mp z
      obtain ⟨_, v, _, g⟩ := inA y hy
      rw [e] at g
      exact absurd (g.symm.trans fd) (fun z => nomatch z)
    · intro y hy
      rcases List.mem_append.mp hy with hy | hy
      · exact hfr y hy
      · rw [List.mem_singleton.mp hy]
        exact ⟨s1.free hx, s1.free fd⟩
  · rintro H1 ⟨s1, ads, hD1, hA, d1, d2, hfr⟩
    have ha1 := s1 _ _ ha
    refine ⟨_, rfl, a, _, dx, _, rfl, ha1, T.cl_Network, T.n_stations, (show 2 < 1000 by decide), ?_⟩
    refine ⟨by decide, fun l1 h1 => ⟨_, rfl, l1, _, _, rfl, rfl, upd_same, by omega, by omega, ?_, fun l2 h2 => ?_⟩⟩
    · show 1 * (C : Int).toNat ≤ sizeLine
      exact Nat.le_trans (show _ ≤ 1000 by omega) (by decide)
    refine ⟨l2, _, rfl, .inl ⟨SqL.of upd_same, fun p2 h3 => ?_⟩⟩
    have na1 : a ≠ l1 := ne_of_none upd_same h1
    have na2 : a ≠ l2 := ne_of_none (show upd (upd H1 a _) l1 _ a = some _ by rw [upd_ne na1]; exact upd_same) h2
    have na3 : a ≠ p2 := ne_of_none (show upd (upd (upd H1 a _) l1 _) l2 _ a = some _ by rw [upd_ne na2, upd_ne na1]; exact upd_same) h3
    refine ⟨_, rfl, a, _, dx, putF "stations" (.ref D) (ntF l p), rfl, by rw [upd_ne na3, upd_ne na2, upd_ne na1]; exact upd_same, T.cl_Network, T.n_populations, (show 2 < 1000 by decide), ?_⟩
    refine ⟨by decide, fun t ht => ?_⟩
    have nat : a ≠ t := ne_of_none upd_same ht
    have f3 : upd (upd (upd H1 a (.ins (cN K) dx (putF "stations" (.ref D) (ntF l p)))) l1 (.lst [.int 0])) l2 (.lst (List.replicate (C : Int).toNat [V.int 0]).flatten) t = none := by
      have z := ht
      rw [upd_ne nat.symm] at z
      by_cases e : t = p2
      · rw [e]; exact h3
      · rw [upd_ne e] at z; exact z
    have npt : p2 ≠ t := fun z => by
      rw [← z, upd_ne na3.symm, upd_same] at ht
      cases ht
    have f2 : upd (upd H1 a (.ins (cN K) dx (putF "stations" (.ref D) (ntF l p)))) l1 (.lst [.int 0]) t = none := by
      by_cases e : t = l2
      · rw [e]; exact h2
      · rw [upd_ne e] at f3; exact f3
    have f1 : upd H1 a (.ins (cN K) dx (putF "stations" (.ref D) (ntF l p))) t = none := by
      by_cases e : t = l1
      · rw [e]; exact h1
      · rw [upd_ne e] at f2; exact f2
    have f0 : H1 t = none := by
      rw [upd_ne nat.symm] at f1
      exact f1
    have keep : ∀ b u, b ≠ a → H1 b = some u → upd (upd (upd (upd (upd (upd H1 a (.ins (cN K) dx (putF "stations" (.ref D) (ntF l p)))) l1 (.lst [.int 0])) l2 (.lst (List.replicate (C : Int).toNat [V.int 0]).flatten)) p2 (.tup (List.replicate (C : Int).toNat [V.int 0]).flatten)) a (.ins (cN K) dx (putF "populations" (.ref p2) (putF "stations" (.ref D) (ntF l p))))) t (.lst [.int 0]) b = some u := fun b u nb e => by
      have z0 : upd H1 a (.ins (cN K) dx (putF "stations" (.ref D) (ntF l p))) b = some u := by rw [upd_ne nb]; exact e
      have z1 := same_new (o := .lst [.int 0]) h1 _ _ z0
      have z2 := same_new (o := .lst (List.replicate (C : Int).toNat [V.int 0]).flatten) h2 _ _ z1
      have z3 := same_new (o := .tup (List.replicate (C : Int).toNat [V.int 0]).flatten) h3 _ _ z2
      rw [upd_ne (ne_of_none e f0), upd_ne nb]
      exact z3
    have ey : ∀ y ∈ ads, y.1 ≠ a ∧ y.2 ≠ a := fun y hy => by
      obtain ⟨g1, g2⟩ := hfr y hy
      exact ⟨(ne_of_none ha g1).symm, (ne_of_none ha g2).symm⟩
    refine h.ok (Int.le_refl 0) es t _ (Ft a D ads) ⟨dx, D, p2, ads, ⟨?_, keep _ _ naD.symm hD1, ?_, ?_, d1, d2⟩, rfl, ?_, ?_, ?_⟩ (fun b u hb e => keep b u (fun z => hb (by rw [z]; exact haF)) (s1 _ _ e)) (fun b hb => ?_) (s1.free f0) ?_
    · rw [upd_ne nat, upd_same]
      rfl
    · refine hA.imp fun y hy s hs => hs.ne fun b u hb e => keep b u ?_ e
      rcases hb with rfl | rfl
      · exact (ey y hy).1
      · exact (ey y hy).2
    · show upd _ _ _ _ = _
      rw [upd_ne npt, upd_ne na3.symm, upd_same, Int.toNat_natCast, rep0]
    · refine ⟨by show (List.replicate S (newS C)).length ≤ 5; rw [List.length_replicate]; omega, fun s hs => ?_, ?_, fun k hk => ?_, ?_⟩
      · rw [List.eq_of_mem_replicate hs]
        refine ⟨by show (List.replicate C 0).length = (List.replicate C 0).length; rfl, fun d hd => ?_, (by decide : 0 < 1), (by decide : 1 ≤ 20)⟩
        rw [List.eq_of_mem_replicate hd]
        exact Nat.zero_le _
      · show (List.replicate C 0).length ≤ 3
        rw [List.length_replicate]
        omega
      · rw [List.eq_of_mem_replicate hk]
        exact Nat.zero_le _
      · show vec (List.replicate C 0) ≤ 40
        rw [vec_zeros]
        decide
    · intro z
      have := congrArg List.length z
      rw [show (List.replicate S (newS C)).length = S from List.length_replicate ..] at this
      have h0 : S = 0 := this
      omega
    · show 0 < (List.replicate C 0).length
      rw [List.length_replicate]
      omega
    · rcases List.mem_cons.mp hb with rfl | hb
      · exact .inl haF
      · rcases List.mem_cons.mp hb with rfl | hb
        · exact .inr hD
        · rcases List.mem_append.mp hb with hb | hb
          · obtain ⟨y, hy, rfl⟩ := List.mem_map.mp hb
            exact .inr (hfr y hy).1
          · obtain ⟨y, hy, rfl⟩ := List.mem_map.mp hb
            exact .inr (hfr y hy).2
    · exact upd_same
end
end Cq
end
section
set_option Elab.async false
set_option linter.all false
set_option maxRecDepth 100000
set_option maxHeartbeats 4000000
set_option exponentiation.threshold 100000
namespace Cq
open PySem PySem.Spec PyProof.Rows L2 CqR
open Lrx5 (Station Network step)
/-! ### calls as lists of numbers -/
def opn : Lrx5.Call → Nat
  | .create _ _ => 0 | .setStation _ _ _ => 1 | .setDemand _ _ _ => 2 | .setPopulation _ _ => 3 | .getDemand _ _ => 4 | .getPopulation _ => 5 | .norm => 6 | .throughput _ => 7 | .cycle _ => 8 | .meanNumber _ _ => 9 | .stationNumber _ => 10
  | .residence _ _ => 11 | .busy _ _ => 12 | .utilization _ => 13 | .marginal _ _ => 14 | .numberProbability _ _ => 15 | .idle _ => 16 | .stateProbability _ => 17 | .meanValues => 18 | .mvaThroughput _ => 19 | .arrivalSees _ _ => 20
  | .curve _ _ => 21 | .fewestCustomers _ _ _ => 22 | .gain _ _ _ => 23 | .bottleneck => 24 | .summary => 25
def argn : Lrx5.Call → List Nat
  | .create a b => [a, b] | .setStation a b c => [a, b, c] | .setDemand a b c => [a, b, c] | .setPopulation a b => [a, b] | .getDemand a b => [a, b] | .getPopulation a => [a] | .norm => [] | .throughput a => [a] | .cycle a => [a] | .meanNumber a b => [a, b] | .stationNumber a => [a]
  | .residence a b => [a, b] | .busy a b => [a, b] | .utilization a => [a] | .marginal a m => a :: m.length :: m | .numberProbability a b => [a, b] | .idle a => [a] | .stateProbability m => m.length :: m | .meanValues => [] | .mvaThroughput a => [a] | .arrivalSees a b => [a, b]
  | .curve a b => [a, b] | .fewestCustomers a b c => [a, b, c] | .gain a b c => [a, b, c] | .bottleneck => [] | .summary => []
def enc (c : Lrx5.Call) : List Nat := opn c :: argn c
theorem Ans.mono {K : Kf} {r : Lrx5.Result} {H H1 : Hp} {Q : VK} {E : XK} (h : Ans K r H Q E) (s : Same H H1) : Ans K r H1 Q E :=
  ⟨fun j x c i hj e => (h.1 j x c i hj e).mono s, fun hn t H' s' f a => h.2 hn t H' (s.trans s') (s.free f) a⟩
section
variable {P : Program} {w : World} {K : Kf} {mg : Str → Option Value} {base : Heap}
def sp_settings_answer (K : Kf) : Sp := fun vs H Q E => ∃ (a b : Addr) (c : Lrx5.Call) (net : Network) (F : List Addr), vs = [.ref a, .ref b] ∧ H b = some (.lst (nv (enc c))) ∧ NetS K H a (some net) F ∧ 1 ≤ opn c ∧ opn c ≤ 5 ∧ OpS K (some net) c H F a Q E
theorem sc_settings_answer : FnScope ["network", "call", "number"] ["network", "call"] (defScope (top 123)) := ⟨rfl, rfl, rfl, by decide +kernel, rfl, by decide +kernel, by decide +kernel⟩
theorem d_settings_answer (T : Facts K mg) : Dfn P w K mg base (L2.CX P w) 7 "settings_answer" ["network", "call"] (sp_settings_answer K) := by
  refine dfnX (T.d 91 rfl) sc_settings_answer (fun _ _ _ _ _ _ us hl => match us, hl with | [_, _], _ => rfl) (fun vs H Q E h => by obtain ⟨a, b, c, net, F, rfl, _⟩ := h; rfl) fun cdv A outer s H vs Q E hr h => ⟨_,
    (pss_cons (ps_set (i := 2) sc_settings_answer.nd rfl (Or.inl rfl) (pe_ix ix_list (pv 1) pe_int (fun _ _ => rfl)))
    (pss_cons (ps_if (pt_cmpR op_eq (pv 2) pe_int (nomark _))
        (pss_one (ps_ret (pe_dfn (d_set_station T) hr (passes_call (takes_of rfl rfl rfl rfl) (fun _ _ _ _ z => z)) (pa_cons (pv 0) (pa_cons (pe_ix ix_list (pv 1) pe_int (fun _ _ => rfl)) (pa_cons (pe_ix ix_list (pv 1) pe_int (fun _ _ => rfl)) (pa_cons (pe_ix ix_list (pv 1) pe_int (fun _ _ => rfl)) pa_nil)))))))
        pss_nil)
    (pss_cons (ps_if (pt_cmpR op_eq (pv 2) pe_int (nomark _))
        (pss_one (ps_ret (pe_dfn (d_set_demand T) hr (passes_call (takes_of rfl rfl rfl rfl) (fun _ _ _ _ z => z)) (pa_cons (pv 0) (pa_cons (pe_ix ix_list (pv 1) pe_int (fun _ _ => rfl)) (pa_cons (pe_ix ix_list (pv 1) pe_int (fun _ _ => rfl)) (pa_cons (pe_ix ix_list (pv 1) pe_int (fun _ _ => rfl)) pa_nil)))))))
        pss_nil)
    (pss_cons (ps_if (pt_cmpR op_eq (pv 2) pe_int (nomark _))
        (pss_one (ps_ret (pe_dfn (d_set_population T) hr (passes_call (takes_of rfl rfl rfl rfl) (fun _ _ _ _ z => z)) (pa_cons (pv 0) (pa_cons (pe_ix ix_list (pv 1) pe_int (fun _ _ => rfl)) (pa_cons (pe_ix ix_list (pv 1) pe_int (fun _ _ => rfl)) pa_nil))))))
        pss_nil)
    (pss_cons (ps_if (pt_cmpR op_eq (pv 2) pe_int (nomark _))
        (pss_one (ps_ret (pe_dfn (d_get_demand T) (hr.mono (by decide)) (passes_call (takes_of rfl rfl rfl rfl) (fun _ _ _ _ z => z)) (pa_cons (pv 0) (pa_cons (pe_ix ix_list (pv 1) pe_int (fun _ _ => rfl)) (pa_cons (pe_ix ix_list (pv 1) pe_int (fun _ _ => rfl)) pa_nil))))))
        pss_nil)
    (pss_one (ps_ret (pe_dfn (d_get_population T) (hr.mono (by decide)) (passes_call (takes_of rfl rfl rfl rfl) (fun _ _ _ _ z => z)) (pa_cons (pv 0) (pa_cons (pe_ix ix_list (pv 1) pe_int (fun _ _ => rfl)) pa_nil)))))))))), ?_⟩
  obtain ⟨a, b, c, ⟨sts, n⟩, F, rfl, hb, hN, hlo, hhi, h⟩ := h
  cases c
  case setStation i k e =>
    refine ⟨_, rfl, b, _, _, _, rfl, rfl, SqL.of hb, rfl, ?_⟩
    refine ⟨_, rfl, rfl, true, eqT rfl, iteT ?_⟩
    exact ⟨_, rfl, _, rfl, b, _, _, _, rfl, rfl, SqL.of hb, rfl, _, rfl, b, _, _, _, rfl, rfl, SqL.of hb, rfl, _, rfl, b, _, _, _, rfl, rfl, SqL.of hb, rfl, a, i, k, e, ⟨sts, n⟩, F, rfl, hN, h⟩
  case setDemand i r d =>
    refine ⟨_, rfl, b, _, _, _, rfl, rfl, SqL.of hb, rfl, ?_⟩
    refine ⟨_, rfl, rfl, false, eqF (show ((2 : Nat) : Int) ≠ 1 by decide), iteF ?_⟩
    refine ⟨_, rfl, rfl, true, eqT rfl, iteT ?_⟩
    exact ⟨_, rfl, _, rfl, b, _, _, _, rfl, rfl, SqL.of hb, rfl, _, rfl, b, _, _, _, rfl, rfl, SqL.of hb, rfl, _, rfl, b, _, _, _, rfl, rfl, SqL.of hb, rfl, a, i, r, d, ⟨sts, n⟩, F, rfl, hN, h⟩
  case setPopulation r k =>
    refine ⟨_, rfl, b, _, _, _, rfl, rfl, SqL.of hb, rfl, ?_⟩
    refine ⟨_, rfl, rfl, false, eqF (show ((3 : Nat) : Int) ≠ 1 by decide), iteF ?_⟩
    refine ⟨_, rfl, rfl, false, eqF (show ((3 : Nat) : Int) ≠ 2 by decide), iteF ?_⟩
    refine ⟨_, rfl, rfl, true, eqT rfl, iteT ?_⟩
    exact ⟨_, rfl, _, rfl, b, _, _, _, rfl, rfl, SqL.of hb, rfl, _, rfl, b, _, _, _, rfl, rfl, SqL.of hb, rfl, a, r, k, ⟨sts, n⟩, F, rfl, hN, h⟩
  case getDemand i r =>
    refine ⟨_, rfl, b, _, _, _, rfl, rfl, SqL.of hb, rfl, ?_⟩
    refine ⟨_, rfl, rfl, false, eqF (show ((4 : Nat) : Int) ≠ 1 by decide), iteF ?_⟩
    refine ⟨_, rfl, rfl, false, eqF (show ((4 : Nat) : Int) ≠ 2 by decide), iteF ?_⟩
    refine ⟨_, rfl, rfl, false, eqF (show ((4 : Nat) : Int) ≠ 3 by decide), iteF ?_⟩
    refine ⟨_, rfl, rfl, true, eqT rfl, iteT ?_⟩
    exact ⟨_, rfl, _, rfl, b, _, _, _, rfl, rfl, SqL.of hb, rfl, _, rfl, b, _, _, _, rfl, rfl, SqL.of hb, rfl, a, i, r, sts, n, rfl, hN.net, h.ans hN rfl⟩
  case getPopulation r =>
    refine ⟨_, rfl, b, _, _, _, rfl, rfl, SqL.of hb, rfl, ?_⟩
    refine ⟨_, rfl, rfl, false, eqF (show ((5 : Nat) : Int) ≠ 1 by decide), iteF ?_⟩
    refine ⟨_, rfl, rfl, false, eqF (show ((5 : Nat) : Int) ≠ 2 by decide), iteF ?_⟩
    refine ⟨_, rfl, rfl, false, eqF (show ((5 : Nat) : Int) ≠ 3 by decide), iteF ?_⟩
    refine ⟨_, rfl, rfl, false, eqF (show ((5 : Nat) : Int) ≠ 4 by decide), iteF ?_⟩
    exact ⟨_, rfl, _, rfl, b, _, _, _, rfl, rfl, SqL.of hb, rfl, a, r, sts, n, rfl, hN.net, h.ans hN rfl⟩
  all_goals (exfalso; revert hlo hhi; simp [opn])
def sp_measures_answer (K : Kf) : Sp := fun vs H Q E => ∃ (a b : Addr) (c : Lrx5.Call) (net : Network) (F : List Addr), vs = [.ref a, .ref b] ∧ H b = some (.lst (nv (enc c))) ∧ NetS K H a (some net) F ∧ 6 ≤ opn c ∧ opn c ≤ 13 ∧ OpS K (some net) c H F a Q E
theorem sc_measures_answer : FnScope ["network", "call", "number"] ["network", "call"] (defScope (top 124)) := ⟨rfl, rfl, rfl, by decide +kernel, rfl, by decide +kernel, by decide +kernel⟩
theorem d_measures_answer (T : Facts K mg) : Dfn P w K mg base (L2.CX P w) 9 "measures_answer" ["network", "call"] (sp_measures_answer K) := by
  refine dfnX (T.d 92 rfl) sc_measures_answer (fun _ _ _ _ _ _ us hl => match us, hl with | [_, _], _ => rfl) (fun vs H Q E h => by obtain ⟨a, b, c, net, F, rfl, _⟩ := h; rfl) fun cdv A outer s H vs Q E hr h => ⟨_,
    (pss_cons (ps_set (i := 2) sc_measures_answer.nd rfl (Or.inl rfl) (pe_ix ix_list (pv 1) pe_int (fun _ _ => rfl)))
    (pss_cons (ps_if (pt_cmpR op_eq (pv 2) pe_int (nomark _))
        (pss_one (ps_ret (pe_dfn (d_norm T) (hr.mono (by decide)) (passes_call (takes_of rfl rfl rfl rfl) (fun _ _ _ _ z => z)) (pa_cons (pv 0) pa_nil))))
        pss_nil)
    (pss_cons (ps_if (pt_cmpR op_eq (pv 2) pe_int (nomark _))
        (pss_one (ps_ret (pe_dfn (d_throughput T) (hr.mono (by decide)) (passes_call (takes_of rfl rfl rfl rfl) (fun _ _ _ _ z => z)) (pa_cons (pv 0) (pa_cons (pe_ix ix_list (pv 1) pe_int (fun _ _ => rfl)) pa_nil)))))
        pss_nil)
    (pss_cons (ps_if (pt_cmpR op_eq (pv 2) pe_int (nomark _))
        (pss_one (ps_ret (pe_dfn (d_cycle T) (hr.mono (by decide)) (passes_call (takes_of rfl rfl rfl rfl) (fun _ _ _ _ z => z)) (pa_cons (pv 0) (pa_cons (pe_ix ix_list (pv 1) pe_int (fun _ _ => rfl)) pa_nil)))))
        pss_nil)
    (pss_cons (ps_if (pt_cmpR op_eq (pv 2) pe_int (nomark _))
        (pss_one (ps_ret (pe_dfn (d_mean_number T) hr (passes_call (takes_of rfl rfl rfl rfl) (fun _ _ _ _ z => z)) (pa_cons (pv 0) (pa_cons (pe_ix ix_list (pv 1) pe_int (fun _ _ => rfl)) (pa_cons (pe_ix ix_list (pv 1) pe_int (fun _ _ => rfl)) pa_nil))))))
        pss_nil)
    (pss_cons (ps_if (pt_cmpR op_eq (pv 2) pe_int (nomark _))
        (pss_one (ps_ret (pe_dfn (d_station_number T) hr (passes_call (takes_of rfl rfl rfl rfl) (fun _ _ _ _ z => z)) (pa_cons (pv 0) (pa_cons (pe_ix ix_list (pv 1) pe_int (fun _ _ => rfl)) pa_nil)))))
        pss_nil)
    (pss_cons (ps_if (pt_cmpR op_eq (pv 2) pe_int (nomark _))
        (pss_one (ps_ret (pe_dfn (d_residence T) hr (passes_call (takes_of rfl rfl rfl rfl) (fun _ _ _ _ z => z)) (pa_cons (pv 0) (pa_cons (pe_ix ix_list (pv 1) pe_int (fun _ _ => rfl)) (pa_cons (pe_ix ix_list (pv 1) pe_int (fun _ _ => rfl)) pa_nil))))))
        pss_nil)
    (pss_cons (ps_if (pt_cmpR op_eq (pv 2) pe_int (nomark _))
        (pss_one (ps_ret (pe_dfn (d_busy T) (hr.mono (by decide)) (passes_call (takes_of rfl rfl rfl rfl) (fun _ _ _ _ z => z)) (pa_cons (pv 0) (pa_cons (pe_ix ix_list (pv 1) pe_int (fun _ _ => rfl)) (pa_cons (pe_ix ix_list (pv 1) pe_int (fun _ _ => rfl)) pa_nil))))))
        pss_nil)
    (pss_one (ps_ret (pe_dfn (d_utilization T) (hr.mono (by decide)) (passes_call (takes_of rfl rfl rfl rfl) (fun _ _ _ _ z => z)) (pa_cons (pv 0) (pa_cons (pe_ix ix_list (pv 1) pe_int (fun _ _ => rfl)) pa_nil))))))))))))), ?_⟩
  obtain ⟨a, b, c, ⟨sts, n⟩, F, rfl, hb, hN, hlo, hhi, h⟩ := h
  cases c
  case norm =>
    refine ⟨_, rfl, b, _, _, _, rfl, rfl, SqL.of hb, rfl, ?_⟩
    refine ⟨_, rfl, rfl, true, eqT rfl, iteT ?_⟩
    exact ⟨_, rfl, a, sts, n, rfl, hN.net, h.ans hN rfl⟩
  case throughput r =>
    refine ⟨_, rfl, b, _, _, _, rfl, rfl, SqL.of hb, rfl, ?_⟩
    refine ⟨_, rfl, rfl, false, eqF (show ((7 : Nat) : Int) ≠ 6 by decide), iteF ?_⟩
    refine ⟨_, rfl, rfl, true, eqT rfl, iteT ?_⟩
    exact ⟨_, rfl, _, rfl, b, _, _, _, rfl, rfl, SqL.of hb, rfl, a, r, sts, n, rfl, hN.net, h.ans hN rfl⟩
  case cycle r =>
    refine ⟨_, rfl, b, _, _, _, rfl, rfl, SqL.of hb, rfl, ?_⟩
    refine ⟨_, rfl, rfl, false, eqF (show ((8 : Nat) : Int) ≠ 6 by decide), iteF ?_⟩
    refine ⟨_, rfl, rfl, false, eqF (show ((8 : Nat) : Int) ≠ 7 by decide), iteF ?_⟩
    refine ⟨_, rfl, rfl, true, eqT rfl, iteT ?_⟩
    exact ⟨_, rfl, _, rfl, b, _, _, _, rfl, rfl, SqL.of hb, rfl, a, r, sts, n, rfl, hN.net, h.ans hN rfl⟩
  case meanNumber i r =>
    refine ⟨_, rfl, b, _, _, _, rfl, rfl, SqL.of hb, rfl, ?_⟩
    refine ⟨_, rfl, rfl, false, eqF (show ((9 : Nat) : Int) ≠ 6 by decide), iteF ?_⟩
    refine ⟨_, rfl, rfl, false, eqF (show ((9 : Nat) : Int) ≠ 7 by decide), iteF ?_⟩
    refine ⟨_, rfl, rfl, false, eqF (show ((9 : Nat) : Int) ≠ 8 by decide), iteF ?_⟩
    refine ⟨_, rfl, rfl, true, eqT rfl, iteT ?_⟩
    exact ⟨_, rfl, _, rfl, b, _, _, _, rfl, rfl, SqL.of hb, rfl, _, rfl, b, _, _, _, rfl, rfl, SqL.of hb, rfl, a, i, r, sts, n, rfl, hN.net, h.ans hN rfl⟩
  case stationNumber i =>
    refine ⟨_, rfl, b, _, _, _, rfl, rfl, SqL.of hb, rfl, ?_⟩
    refine ⟨_, rfl, rfl, false, eqF (show ((10 : Nat) : Int) ≠ 6 by decide), iteF ?_⟩
    refine ⟨_, rfl, rfl, false, eqF (show ((10 : Nat) : Int) ≠ 7 by decide), iteF ?_⟩
    refine ⟨_, rfl, rfl, false, eqF (show ((10 : Nat) : Int) ≠ 8 by decide), iteF ?_⟩
    refine ⟨_, rfl, rfl, false, eqF (show ((10 : Nat) : Int) ≠ 9 by decide), iteF ?_⟩
    refine ⟨_, rfl, rfl, true, eqT rfl, iteT ?_⟩
    exact ⟨_, rfl, _, rfl, b, _, _, _, rfl, rfl, SqL.of hb, rfl, a, i, sts, n, rfl, hN.net, h.ans hN rfl⟩
  case residence i r =>
    refine ⟨_, rfl, b, _, _, _, rfl, rfl, SqL.of hb, rfl, ?_⟩
    refine ⟨_, rfl, rfl, false, eqF (show ((11 : Nat) : Int) ≠ 6 by decide), iteF ?_⟩
    refine ⟨_, rfl, rfl, false, eqF (show ((11 : Nat) : Int) ≠ 7 by decide), iteF ?_⟩
    refine ⟨_, rfl, rfl, false, eqF (show ((11 : Nat) : Int) ≠ 8 by decide), iteF ?_⟩
    refine ⟨_, rfl, rfl, false, eqF (show ((11 : Nat) : Int) ≠ 9 by decide), iteF ?_⟩
    refine ⟨_, rfl, rfl, false, eqF (show ((11 : Nat) : Int) ≠ 10 by decide), iteF ?_⟩
    refine ⟨_, rfl, rfl, true, eqT rfl, iteT ?_⟩
    exact ⟨_, rfl, _, rfl, b, _, _, _, rfl, rfl, SqL.of hb, rfl, _, rfl, b, _, _, _, rfl, rfl, SqL.of hb, rfl, a, i, r, sts, n, rfl, hN.net, h.ans hN rfl⟩
  case busy i r =>
    refine ⟨_, rfl, b, _, _, _, rfl, rfl, SqL.of hb, rfl, ?_⟩
    refine ⟨_, rfl, rfl, false, eqF (show ((12 : Nat) : Int) ≠ 6 by decide), iteF ?_⟩
    refine ⟨_, rfl, rfl, false, eqF (show ((12 : Nat) : Int) ≠ 7 by decide), iteF ?_⟩
    refine ⟨_, rfl, rfl, false, eqF (show ((12 : Nat) : Int) ≠ 8 by decide), iteF ?_⟩
    refine ⟨_, rfl, rfl, false, eqF (show ((12 : Nat) : Int) ≠ 9 by decide), iteF ?_⟩
    refine ⟨_, rfl, rfl, false, eqF (show ((12 : Nat) : Int) ≠ 10 by decide), iteF ?_⟩
    refine ⟨_, rfl, rfl, false, eqF (show ((12 : Nat) : Int) ≠ 11 by decide), iteF ?_⟩
    refine ⟨_, rfl, rfl, true, eqT rfl, iteT ?_⟩
    exact ⟨_, rfl, _, rfl, b, _, _, _, rfl, rfl, SqL.of hb, rfl, _, rfl, b, _, _, _, rfl, rfl, SqL.of hb, rfl, a, i, r, sts, n, rfl, hN.net, h.ans hN rfl⟩
  case utilization i =>
    refine ⟨_, rfl, b, _, _, _, rfl, rfl, SqL.of hb, rfl, ?_⟩
    refine ⟨_, rfl, rfl, false, eqF (show ((13 : Nat) : Int) ≠ 6 by decide), iteF ?_⟩
    refine ⟨_, rfl, rfl, false, eqF (show ((13 : Nat) : Int) ≠ 7 by decide), iteF ?_⟩
    refine ⟨_, rfl, rfl, false, eqF (show ((13 : Nat) : Int) ≠ 8 by decide), iteF ?_⟩
    refine ⟨_, rfl, rfl, false, eqF (show ((13 : Nat) : Int) ≠ 9 by decide), iteF ?_⟩
    refine ⟨_, rfl, rfl, false, eqF (show ((13 : Nat) : Int) ≠ 10 by decide), iteF ?_⟩
    refine ⟨_, rfl, rfl, false, eqF (show ((13 : Nat) : Int) ≠ 11 by decide), iteF ?_⟩
    refine ⟨_, rfl, rfl, false, eqF (show ((13 : Nat) : Int) ≠ 12 by decide), iteF ?_⟩
    exact ⟨_, rfl, _, rfl, b, _, _, _, rfl, rfl, SqL.of hb, rfl, a, i, sts, n, rfl, hN.net, h.ans hN rfl⟩
  all_goals (exfalso; revert hlo hhi; simp [opn])
def sp_probabilities_answer (K : Kf) : Sp := fun vs H Q E => ∃ (a b : Addr) (c : Lrx5.Call) (net : Network) (F : List Addr), vs = [.ref a, .ref b] ∧ H b = some (.lst (nv (enc c))) ∧ NetS K H a (some net) F ∧ 14 ≤ opn c ∧ opn c ≤ 17 ∧ OpS K (some net) c H F a Q E
theorem sc_probabilities_answer : FnScope ["network", "call", "number"] ["network", "call"] (defScope (top 125)) := ⟨rfl, rfl, rfl, by decide +kernel, rfl, by decide +kernel, by decide +kernel⟩
theorem d_probabilities_answer (T : Facts K mg) : Dfn P w K mg base (L2.CX P w) 10 "probabilities_answer" ["network", "call"] (sp_probabilities_answer K) := by
  refine dfnX (T.d 93 rfl) sc_probabilities_answer (fun _ _ _ _ _ _ us hl => match us, hl with | [_, _], _ => rfl) (fun vs H Q E h => by obtain ⟨a, b, c, net, F, rfl, _⟩ := h; rfl) fun cdv A outer s H vs Q E hr h => ⟨_,
    (pss_cons (ps_set (i := 2) sc_probabilities_answer.nd rfl (Or.inl rfl) (pe_ix ix_list (pv 1) pe_int (fun _ _ => rfl)))
    (pss_cons (ps_if (pt_cmpR op_eq (pv 2) pe_int (nomark _))
        (pss_one (ps_ret (pe_dfn (d_marginal T) (hr.mono (by decide)) (passes_call (takes_of rfl rfl rfl rfl) (fun _ _ _ _ z => z)) (pa_cons (pv 0) (pa_cons (pe_ix ix_list (pv 1) pe_int (fun _ _ => rfl)) (pa_cons (pe_slice sl_list (pv 1) (po_some pe_int) po_none) pa_nil))))))
        pss_nil)
    (pss_cons (ps_if (pt_cmpR op_eq (pv 2) pe_int (nomark _))
        (pss_one (ps_ret (pe_dfn (d_number_probability T) (hr.mono (by decide)) (passes_call (takes_of rfl rfl rfl rfl) (fun _ _ _ _ z => z)) (pa_cons (pv 0) (pa_cons (pe_ix ix_list (pv 1) pe_int (fun _ _ => rfl)) (pa_cons (pe_ix ix_list (pv 1) pe_int (fun _ _ => rfl)) pa_nil))))))
        pss_nil)
    (pss_cons (ps_if (pt_cmpR op_eq (pv 2) pe_int (nomark _))
        (pss_one (ps_ret (pe_dfn (d_idle T) hr (passes_call (takes_of rfl rfl rfl rfl) (fun _ _ _ _ z => z)) (pa_cons (pv 0) (pa_cons (pe_ix ix_list (pv 1) pe_int (fun _ _ => rfl)) pa_nil)))))
        pss_nil)
    (pss_one (ps_ret (pe_dfn (d_state_probability T) (hr.mono (by decide)) (passes_call (takes_of rfl rfl rfl rfl) (fun _ _ _ _ z => z)) (pa_cons (pv 0) (pa_cons (pe_slice sl_list (pv 1) (po_some pe_int) po_none) pa_nil))))))))), ?_⟩
  obtain ⟨a, b, c, ⟨sts, n⟩, F, rfl, hb, hN, hlo, hhi, h⟩ := h
  cases c
  case marginal i m =>
    refine ⟨_, rfl, b, _, _, _, rfl, rfl, SqL.of hb, atI_nat (j := 0) rfl, ?_⟩
    refine ⟨_, rfl, rfl, true, eqT rfl, iteT ?_⟩
    refine ⟨_, rfl, _, rfl, b, _, _, _, rfl, rfl, SqL.of hb, atI_nat (j := 1) rfl, _, rfl, _, rfl, b, _, rfl, SqL.of hb, fun p1 h1 => ?_⟩
    have s1 := same_new (o := .lst (cutV (nv (enc (.marginal i m))) (some 3) none)) h1
    have e : cutV (nv (enc (.marginal i m))) (some 3) none = nv m := by
      rw [show (3 : Int) = ((3 : Nat) : Int) from rfl, cut_from (by rw [nv_len]; show 3 ≤ m.length + 3; omega)]
      rfl
    have hN1 := hN.mono s1
    refine ⟨a, p1, i, m, sts, n, rfl, by rw [upd_same, e], hN1.net, ?_⟩
    exact (h.ans hN rfl).mono s1
  case numberProbability i k =>
    refine ⟨_, rfl, b, _, _, _, rfl, rfl, SqL.of hb, rfl, ?_⟩
    refine ⟨_, rfl, rfl, false, eqF (show ((15 : Nat) : Int) ≠ 14 by decide), iteF ?_⟩
    refine ⟨_, rfl, rfl, true, eqT rfl, iteT ?_⟩
    exact ⟨_, rfl, _, rfl, b, _, _, _, rfl, rfl, SqL.of hb, rfl, _, rfl, b, _, _, _, rfl, rfl, SqL.of hb, rfl, a, i, k, sts, n, rfl, hN.net, h.ans hN rfl⟩
  case idle i =>
    refine ⟨_, rfl, b, _, _, _, rfl, rfl, SqL.of hb, rfl, ?_⟩
    refine ⟨_, rfl, rfl, false, eqF (show ((16 : Nat) : Int) ≠ 14 by decide), iteF ?_⟩
    refine ⟨_, rfl, rfl, false, eqF (show ((16 : Nat) : Int) ≠ 15 by decide), iteF ?_⟩
    refine ⟨_, rfl, rfl, true, eqT rfl, iteT ?_⟩
    exact ⟨_, rfl, _, rfl, b, _, _, _, rfl, rfl, SqL.of hb, rfl, a, i, sts, n, rfl, hN.net, h.ans hN rfl⟩
  case stateProbability m =>
    refine ⟨_, rfl, b, _, _, _, rfl, rfl, SqL.of hb, atI_nat (j := 0) rfl, ?_⟩
    refine ⟨_, rfl, rfl, false, eqF (show ((17 : Nat) : Int) ≠ 14 by decide), iteF ?_⟩
    refine ⟨_, rfl, rfl, false, eqF (show ((17 : Nat) : Int) ≠ 15 by decide), iteF ?_⟩
    refine ⟨_, rfl, rfl, false, eqF (show ((17 : Nat) : Int) ≠ 16 by decide), iteF ?_⟩
    refine ⟨_, rfl, _, rfl, _, rfl, b, _, rfl, SqL.of hb, fun p1 h1 => ?_⟩
    have s1 := same_new (o := .lst (cutV (nv (enc (.stateProbability m))) (some 2) none)) h1
    have e : cutV (nv (enc (.stateProbability m))) (some 2) none = nv m := by
      rw [show (2 : Int) = ((2 : Nat) : Int) from rfl, cut_from (by rw [nv_len]; show 2 ≤ m.length + 2; omega)]
      rfl
    have hN1 := hN.mono s1
    refine ⟨a, p1, m, sts, n, rfl, by rw [upd_same, e], hN1.net, ?_⟩
    exact (h.ans hN rfl).mono s1
  all_goals (exfalso; revert hlo hhi; simp [opn])
def sp_analysis_answer (K : Kf) : Sp := fun vs H Q E => ∃ (a b : Addr) (c : Lrx5.Call) (net : Network) (F : List Addr), vs = [.ref a, .ref b] ∧ H b = some (.lst (nv (enc c))) ∧ NetS K H a (some net) F ∧ 18 ≤ opn c ∧ opn c ≤ 19 ∧ OpS K (some net) c H F a Q E
theorem sc_analysis_answer : FnScope ["network", "call"] ["network", "call"] (defScope (top 126)) := ⟨rfl, rfl, rfl, by decide +kernel, rfl, by decide +kernel, by decide +kernel⟩
theorem d_analysis_answer (T : Facts K mg) : Dfn P w K mg base (L2.CX P w) 9 "analysis_answer" ["network", "call"] (sp_analysis_answer K) := by
  refine dfnX (T.d 94 rfl) sc_analysis_answer (fun _ _ _ _ _ _ us hl => match us, hl with | [_, _], _ => rfl) (fun vs H Q E h => by obtain ⟨a, b, c, net, F, rfl, _⟩ := h; rfl) fun cdv A outer s H vs Q E hr h => ⟨_,
    (pss_cons (ps_if (pt_cmpR op_eq (pe_ix ix_list (pv 1) pe_int (fun _ _ => rfl)) pe_int (nomark _))
        (pss_one (ps_ret (pe_dfn (d_mean_values T) hr (passes_call (takes_of rfl rfl rfl rfl) (fun _ _ _ _ z => z)) (pa_cons (pv 0) pa_nil))))
        pss_nil)
    (pss_one (ps_ret (pe_dfn (d_mva_throughput T) hr (passes_call (takes_of rfl rfl rfl rfl) (fun _ _ _ _ z => z)) (pa_cons (pv 0) (pa_cons (pe_ix ix_list (pv 1) pe_int (fun _ _ => rfl)) pa_nil)))))), ?_⟩
  obtain ⟨a, b, c, ⟨sts, n⟩, F, rfl, hb, hN, hlo, hhi, h⟩ := h
  cases c
  case meanValues =>
    refine ⟨_, rfl, b, _, _, _, rfl, rfl, SqL.of hb, rfl, rfl, true, eqT rfl, iteT ?_⟩
    exact ⟨_, rfl, a, sts, n, rfl, hN.net, h.ans hN rfl⟩
  case mvaThroughput r =>
    refine ⟨_, rfl, b, _, _, _, rfl, rfl, SqL.of hb, rfl, rfl, false, eqF (show ((19 : Nat) : Int) ≠ 18 by decide), iteF ?_⟩
    exact ⟨_, rfl, _, rfl, b, _, _, _, rfl, rfl, SqL.of hb, rfl, a, r, sts, n, rfl, hN.net, h.ans hN rfl⟩
  all_goals (exfalso; revert hlo hhi; simp [opn])
def sp_changes_answer (K : Kf) : Sp := fun vs H Q E => ∃ (a b : Addr) (c : Lrx5.Call) (net : Network) (F : List Addr), vs = [.ref a, .ref b] ∧ H b = some (.lst (nv (enc c))) ∧ NetS K H a (some net) F ∧ 20 ≤ opn c ∧ opn c ≤ 23 ∧ OpS K (some net) c H F a Q E
theorem sc_changes_answer : FnScope ["network", "call", "number"] ["network", "call"] (defScope (top 127)) := ⟨rfl, rfl, rfl, by decide +kernel, rfl, by decide +kernel, by decide +kernel⟩
theorem d_changes_answer (T : Facts K mg) : Dfn P w K mg base (L2.CX P w) 9 "changes_answer" ["network", "call"] (sp_changes_answer K) := by
  refine dfnX (T.d 95 rfl) sc_changes_answer (fun _ _ _ _ _ _ us hl => match us, hl with | [_, _], _ => rfl) (fun vs H Q E h => by obtain ⟨a, b, c, net, F, rfl, _⟩ := h; rfl) fun cdv A outer s H vs Q E hr h => ⟨_,
    (pss_cons (ps_set (i := 2) sc_changes_answer.nd rfl (Or.inl rfl) (pe_ix ix_list (pv 1) pe_int (fun _ _ => rfl)))
    (pss_cons (ps_if (pt_cmpR op_eq (pv 2) pe_int (nomark _))
        (pss_one (ps_ret (pe_dfn (d_arrival_sees T) hr (passes_call (takes_of rfl rfl rfl rfl) (fun _ _ _ _ z => z)) (pa_cons (pv 0) (pa_cons (pe_ix ix_list (pv 1) pe_int (fun _ _ => rfl)) (pa_cons (pe_ix ix_list (pv 1) pe_int (fun _ _ => rfl)) pa_nil))))))
        pss_nil)
    (pss_cons (ps_if (pt_cmpR op_eq (pv 2) pe_int (nomark _))
        (pss_one (ps_ret (pe_dfn (d_curve T) (hr.mono (by decide)) (passes_call (takes_of rfl rfl rfl rfl) (fun _ _ _ _ z => z)) (pa_cons (pv 0) (pa_cons (pe_ix ix_list (pv 1) pe_int (fun _ _ => rfl)) (pa_cons (pe_ix ix_list (pv 1) pe_int (fun _ _ => rfl)) pa_nil))))))
        pss_nil)
    (pss_cons (ps_if (pt_cmpR op_eq (pv 2) pe_int (nomark _))
        (pss_one (ps_ret (pe_dfn (d_fewest_customers T) (hr.mono (by decide)) (passes_call (takes_of rfl rfl rfl rfl) (fun _ _ _ _ z => z)) (pa_cons (pv 0) (pa_cons (pe_ix ix_list (pv 1) pe_int (fun _ _ => rfl)) (pa_cons (pe_ix ix_list (pv 1) pe_int (fun _ _ => rfl)) (pa_cons (pe_ix ix_list (pv 1) pe_int (fun _ _ => rfl)) pa_nil)))))))
        pss_nil)
    (pss_one (ps_ret (pe_dfn (d_gain T) (hr.mono (by decide)) (passes_call (takes_of rfl rfl rfl rfl) (fun _ _ _ _ z => z)) (pa_cons (pv 0) (pa_cons (pe_ix ix_list (pv 1) pe_int (fun _ _ => rfl)) (pa_cons (pe_ix ix_list (pv 1) pe_int (fun _ _ => rfl)) (pa_cons (pe_ix ix_list (pv 1) pe_int (fun _ _ => rfl)) pa_nil))))))))))), ?_⟩
  obtain ⟨a, b, c, ⟨sts, n⟩, F, rfl, hb, hN, hlo, hhi, h⟩ := h
  cases c
  case arrivalSees i r =>
    refine ⟨_, rfl, b, _, _, _, rfl, rfl, SqL.of hb, rfl, ?_⟩
    refine ⟨_, rfl, rfl, true, eqT rfl, iteT ?_⟩
    exact ⟨_, rfl, _, rfl, b, _, _, _, rfl, rfl, SqL.of hb, rfl, _, rfl, b, _, _, _, rfl, rfl, SqL.of hb, rfl, a, i, r, sts, n, rfl, hN.net, h.ans hN rfl⟩
  case curve r m =>
    refine ⟨_, rfl, b, _, _, _, rfl, rfl, SqL.of hb, rfl, ?_⟩
    refine ⟨_, rfl, rfl, false, eqF (show ((21 : Nat) : Int) ≠ 20 by decide), iteF ?_⟩
    refine ⟨_, rfl, rfl, true, eqT rfl, iteT ?_⟩
    exact ⟨_, rfl, _, rfl, b, _, _, _, rfl, rfl, SqL.of hb, rfl, _, rfl, b, _, _, _, rfl, rfl, SqL.of hb, rfl, a, r, m, sts, n, rfl, hN.net, h.ans hN rfl⟩
  case fewestCustomers r e d =>
    refine ⟨_, rfl, b, _, _, _, rfl, rfl, SqL.of hb, rfl, ?_⟩
    refine ⟨_, rfl, rfl, false, eqF (show ((22 : Nat) : Int) ≠ 20 by decide), iteF ?_⟩
    refine ⟨_, rfl, rfl, false, eqF (show ((22 : Nat) : Int) ≠ 21 by decide), iteF ?_⟩
    refine ⟨_, rfl, rfl, true, eqT rfl, iteT ?_⟩
    exact ⟨_, rfl, _, rfl, b, _, _, _, rfl, rfl, SqL.of hb, rfl, _, rfl, b, _, _, _, rfl, rfl, SqL.of hb, rfl, _, rfl, b, _, _, _, rfl, rfl, SqL.of hb, rfl, a, r, e, d, sts, n, rfl, hN.net, h.ans hN rfl⟩
  case gain i r d =>
    refine ⟨_, rfl, b, _, _, _, rfl, rfl, SqL.of hb, rfl, ?_⟩
    refine ⟨_, rfl, rfl, false, eqF (show ((23 : Nat) : Int) ≠ 20 by decide), iteF ?_⟩
    refine ⟨_, rfl, rfl, false, eqF (show ((23 : Nat) : Int) ≠ 21 by decide), iteF ?_⟩
    refine ⟨_, rfl, rfl, false, eqF (show ((23 : Nat) : Int) ≠ 22 by decide), iteF ?_⟩
    exact ⟨_, rfl, _, rfl, b, _, _, _, rfl, rfl, SqL.of hb, rfl, _, rfl, b, _, _, _, rfl, rfl, SqL.of hb, rfl, _, rfl, b, _, _, _, rfl, rfl, SqL.of hb, rfl, a, i, r, d, sts, n, rfl, hN.net, h.ans hN rfl⟩
  all_goals (exfalso; revert hlo hhi; simp [opn])
end
end Cq
end
section
set_option Elab.async false
set_option linter.all false
set_option maxRecDepth 100000
set_option maxHeartbeats 4000000
set_option exponentiation.threshold 100000
namespace Cq
open PySem PySem.Spec PyProof.Rows L2 CqR
open Lrx5 (Station Network step error)
theorem opn_le (c : Lrx5.Call) : opn c ≤ 25 := by cases c <;> simp [opn]
theorem step_none {c : Lrx5.Call} (h : opn c ≠ 0) : step none c = (none, error (-11)) := by
  cases c <;> first | rfl | exact absurd rfl h
theorem errs_neg {j : Nat} {x : Str} {cc : Int} {i : Nat} (h : errs[j]? = some (x, cc, i)) : cc < 0 := by
  have m : (x, cc, i) ∈ errs := List.mem_of_getElem? h
  have k : ∀ y ∈ errs, y.2.1 < 0 := by
    intro y hy
    have e : errs = [eb "NoInstance" (-11) 10, eb "NoSuchStationOrClass" (-2) 11, eb "NoCustomers" (-6) 12, eb "OutOfRange" (-22) 13, eb "PopulationsTooLarge" (-28) 14, eb "NoResult" (-33) 15] := rfl
    rw [e] at hy
    simp only [List.mem_cons, List.mem_nil_iff, or_false] at hy
    rcases hy with rfl | rfl | rfl | rfl | rfl | rfl <;> decide
  exact k _ m
theorem num_neg {α : Type} {a : α} {st : Lrx5.State} {v cc : Int} {l : List Int} (hv : 0 ≤ v) (h : cc < 0) (e : (st, (⟨v, l⟩ : Lrx5.Result)).2 = error cc) : False := by
  have := congrArg Lrx5.Result.num e
  have z : v = cc := this
  omega
theorem step_err {st : Lrx5.State} {c : Lrx5.Call} {cc : Int} (e : (step st c).2 = error cc) (h : cc < 0) : (step st c).1 = st := by
  have bad : ∀ {st' : Lrx5.State} {v : Int}, 0 ≤ v → (st', (⟨v, []⟩ : Lrx5.Result)).2 = error cc → False := fun {st' v} hv e => by
    have z : v = cc := congrArg Lrx5.Result.num e
    omega
  by_cases h0 : opn c = 0
  · cases c with
    | create S C =>
      rw [step_create] at e ⊢
      split at e
      · rename_i hb
        rw [if_pos hb]
      · exact (bad (Int.le_refl 0) e).elim
    | _ => simp [opn] at h0
  · cases st with
    | none => rw [step_none h0]
    | some net =>
      obtain ⟨sts, n⟩ := net
      cases c with
      | create S C => exact absurd rfl h0
      | setStation i k d =>
        rw [step_setStation] at e ⊢
        split at e
        · rename_i hb
          rw [if_pos hb]
        · rename_i hb
          rw [if_neg hb]
          split at e
          · rename_i hb2
            rw [if_pos hb2]
          · exact (bad (Int.le_refl 0) e).elim
      | setDemand i r d =>
        rw [step_setDemand] at e ⊢
        split at e
        · rename_i hb
          rw [if_pos hb]
        · rename_i hb
          rw [if_neg hb]
          split at e
          · rename_i hb2
            rw [if_pos hb2]
          · rename_i hb2
            rw [if_neg hb2]
            split at e
            · rename_i hb3
              rw [if_pos hb3]
            · exact (bad (Int.natCast_nonneg _) e).elim
      | setPopulation r k =>
        rw [step_setPopulation] at e ⊢
        split at e
        · rename_i hb
          rw [if_pos hb]
        · rename_i hb
          rw [if_neg hb]
          split at e
          · rename_i hb2
            rw [if_pos hb2]
          · rename_i hb2
            rw [if_neg hb2]
            split at e
            · rename_i hb3
              rw [if_pos hb3]
            · exact (bad (Int.natCast_nonneg _) e).elim
      | _ => rfl
section
variable {P : Program} {w : World} {K : Kf} {mg : Str → Option Value} {base : Heap}
def sp_answer_to (K : Kf) : Sp := fun vs H Q E => ∃ (a b : Addr) (c : Lrx5.Call) (st : Lrx5.State) (F : List Addr), vs = [.ref a, .ref b] ∧ H b = some (.lst (nv (enc c))) ∧ NetS K H a st F ∧ OpS K st c H F a Q E
theorem sc_answer_to : FnScope ["network", "call", "number"] ["network", "call"] (defScope (top 122)) := ⟨rfl, rfl, rfl, by decide +kernel, rfl, by decide +kernel, by decide +kernel⟩
theorem d_answer_to (T : Facts K mg) : Dfn P w K mg base (L2.CX P w) 11 "answer_to" ["network", "call"] (sp_answer_to K) := by
  refine dfnX (T.d 90 rfl) sc_answer_to (fun _ _ _ _ _ _ us hl => match us, hl with | [_, _], _ => rfl) (fun vs H Q E h => by obtain ⟨a, b, c, st, F, rfl, _⟩ := h; rfl) fun cdv A outer s H vs Q E hr h => ⟨_,
    (pss_cons (ps_set (i := 2) sc_answer_to.nd rfl (Or.inl rfl) (pe_ix ix_list (pv 1) pe_int (fun _ _ => rfl)))
    (pss_cons (ps_if (pt_cmpR op_eq (pv 2) pe_int (nomark _))
        (pss_one (ps_ret (pe_dfn (d_create T) (hr.mono (by decide)) (passes_call (takes_of rfl rfl rfl rfl) (fun _ _ _ _ z => z)) (pa_cons (pv 0) (pa_cons (pe_ix ix_list (pv 1) pe_int (fun _ _ => rfl)) (pa_cons (pe_ix ix_list (pv 1) pe_int (fun _ _ => rfl)) pa_nil))))))
        pss_nil)
    (pss_cons (ps_expr (pe_mth0 (m_check_exists T) (hr.mono (by decide)) (passes_call (takes_of rfl rfl rfl rfl) (fun _ _ _ _ z => z)) (pv 0)))
    (pss_cons (ps_if (pt_cmpR op_le (pv 2) pe_int (nomark _))
        (pss_one (ps_ret (pe_dfn (d_settings_answer T) (hr.mono (by decide)) (passes_call (takes_of rfl rfl rfl rfl) (fun _ _ _ _ z => z)) (pa_cons (pv 0) (pa_cons (pv 1) pa_nil)))))
        pss_nil)
    (pss_cons (ps_if (pt_cmpR op_le (pv 2) pe_int (nomark _))
        (pss_one (ps_ret (pe_dfn (d_measures_answer T) (hr.mono (by decide)) (passes_call (takes_of rfl rfl rfl rfl) (fun _ _ _ _ z => z)) (pa_cons (pv 0) (pa_cons (pv 1) pa_nil)))))
        pss_nil)
    (pss_cons (ps_if (pt_cmpR op_le (pv 2) pe_int (nomark _))
        (pss_one (ps_ret (pe_dfn (d_probabilities_answer T) hr (passes_call (takes_of rfl rfl rfl rfl) (fun _ _ _ _ z => z)) (pa_cons (pv 0) (pa_cons (pv 1) pa_nil)))))
        pss_nil)
    (pss_cons (ps_if (pt_cmpR op_le (pv 2) pe_int (nomark _))
        (pss_one (ps_ret (pe_dfn (d_analysis_answer T) (hr.mono (by decide)) (passes_call (takes_of rfl rfl rfl rfl) (fun _ _ _ _ z => z)) (pa_cons (pv 0) (pa_cons (pv 1) pa_nil)))))
        pss_nil)
    (pss_cons (ps_if (pt_cmpR op_le (pv 2) pe_int (nomark _))
        (pss_one (ps_ret (pe_dfn (d_changes_answer T) (hr.mono (by decide)) (passes_call (takes_of rfl rfl rfl rfl) (fun _ _ _ _ z => z)) (pa_cons (pv 0) (pa_cons (pv 1) pa_nil)))))
        pss_nil)
    (pss_cons (ps_if (pt_cmpR op_eq (pv 2) pe_int (nomark _))
        (pss_one (ps_ret (pe_dfn (d_bottleneck T) (hr.mono (by decide)) (passes_call (takes_of rfl rfl rfl rfl) (fun _ _ _ _ z => z)) (pa_cons (pv 0) pa_nil))))
        pss_nil)
    (pss_one (ps_ret (pe_dfn (d_summary T) (hr.mono (by decide)) pass0 (pa_cons (pv 0) pa_nil))))))))))))), ?_⟩
  obtain ⟨a, b, c, st, F, rfl, hb, hN, h⟩ := h
  refine ⟨_, rfl, b, _, _, _, rfl, rfl, SqL.of hb, atI_nat (j := 0) rfl, ?_⟩
  refine ⟨_, rfl, rfl, ?_⟩
  by_cases h0 : opn c = 0
  · cases c with
    | create S C => exact ⟨true, eqT rfl, iteT ⟨_, rfl, _, rfl, b, _, _, _, rfl, rfl, SqL.of hb, rfl, _, rfl, b, _, _, _, rfl, rfl, SqL.of hb, rfl, a, S, C, st, F, rfl, hN, h⟩⟩
    | _ => simp [opn] at h0
  refine ⟨false, eqF (by omega), iteF ?_⟩
  cases st with
  | none =>
    obtain ⟨dx, l, p, hW, rfl⟩ := hN
    exact ⟨_, rfl, a, dx, _, rfl, hW.ins, rfl, a, [], [], rfl, hW.net, fun _ => h.er 0 rfl (by rw [step_none h0]), fun hg => absurd rfl hg⟩
  | some net =>
    obtain ⟨sts, n⟩ := net
    have hNn := hN.net
    obtain ⟨dx, l, p, ads, hW, hF, hf, hne, hcl⟩ := id hN
    refine ⟨_, rfl, a, dx, _, rfl, hW.ins, rfl, a, sts, n, rfl, hW.net, fun hb => absurd hb hne, fun _ => ?_⟩
    have h25 := opn_le c
    refine ⟨_, rfl, _, _, rfl, rfl, ?_⟩
    by_cases h5 : opn c ≤ 5
    · exact ⟨true, blT (by omega), iteT ⟨_, rfl, _, rfl, a, b, c, ⟨sts, n⟩, F, rfl, hb, hN, by omega, h5, h⟩⟩
    refine ⟨false, blF (by omega), iteF ⟨_, rfl, _, _, rfl, rfl, ?_⟩⟩
    by_cases h13 : opn c ≤ 13
    · exact ⟨true, blT (by omega), iteT ⟨_, rfl, _, rfl, a, b, c, ⟨sts, n⟩, F, rfl, hb, hN, by omega, h13, h⟩⟩
    refine ⟨false, blF (by omega), iteF ⟨_, rfl, _, _, rfl, rfl, ?_⟩⟩
    by_cases h17 : opn c ≤ 17
    · exact ⟨true, blT (by omega), iteT ⟨_, rfl, _, rfl, a, b, c, ⟨sts, n⟩, F, rfl, hb, hN, by omega, h17, h⟩⟩
    refine ⟨false, blF (by omega), iteF ⟨_, rfl, _, _, rfl, rfl, ?_⟩⟩
    by_cases h19 : opn c ≤ 19
    · exact ⟨true, blT (by omega), iteT ⟨_, rfl, _, rfl, a, b, c, ⟨sts, n⟩, F, rfl, hb, hN, by omega, h19, h⟩⟩
    refine ⟨false, blF (by omega), iteF ⟨_, rfl, _, _, rfl, rfl, ?_⟩⟩
    by_cases h23 : opn c ≤ 23
    · exact ⟨true, blT (by omega), iteT ⟨_, rfl, _, rfl, a, b, c, ⟨sts, n⟩, F, rfl, hb, hN, by omega, h23, h⟩⟩
    refine ⟨false, blF (by omega), iteF ⟨_, rfl, rfl, ?_⟩⟩
    by_cases h24 : opn c = 24
    · refine ⟨true, eqT (by omega), iteT ⟨_, rfl, a, sts, n, rfl, hNn, ?_⟩⟩
      cases c with
      | bottleneck => exact h.ans hN rfl
      | _ => simp [opn] at h24
    · refine ⟨false, eqF (by omega), iteF ⟨_, rfl, a, sts, n, rfl, hNn, ?_⟩⟩
      cases c with
      | summary =>
        refine ⟨fun j x cc i hj e => ?_, (h.ans hN rfl).2⟩
        rw [CQ.res_summary] at e
        have := congrArg Lrx5.Result.nums e
        cases this
      | _ => simp [opn] at h5 h13 h17 h19 h23 h24
/-- the caught error's field, whatever its class -/
def tXfA (K : Kf) (a : Addr) (cls : Value) (d : Option Addr) (f : Str) (te : TE) : TE := fun σ H Q => ∃ C, XfC K C ∧ PySem.W.findIn K (.ref C) f = some none ∧ tXf a cls d C f te σ H Q
theorem pe_xfA {X : Cx} {a : Addr} {oe : Obj} {cls : Value} {d : Option Addr} {pn : List (Addr × Obj)} {e : Expr} {te : TE} {pos : Pos} {n : Str} (hz : Zc cls d oe) (hf : ∃ vs, oe.data = .fields vs) (he : PE (X.suite a ((a, oe) :: pn)) e te)
    (hb : attributeBase e n X.env (eval e X.env) = eval e X.env := by rfl) : PE (X.suite a ((a, oe) :: pn)) (.Attribute e n pos) (tXfA X.K a cls d n te) := by
  refine ⟨fun pins s σ H Q I h => ?_⟩
  obtain ⟨C, T, hno, h⟩ := h
  exact (pe_xf T hno hz hf he hb).run pins s σ H Q I h
def sp_answer_or_code (K : Kf) : Sp := fun vs H Q _ => ∃ (a b : Addr) (c : Lrx5.Call) (st : Lrx5.State) (F : List Addr), vs = [.ref a, .ref b] ∧ H b = some (.lst (nv (enc c))) ∧ NetS K H a st F ∧
  ∀ t H' F', NetS K H' a (step st c).1 F' → Fr F H H' → (∀ b, b ∈ F' → b ∈ F ∨ H b = none) → H t = none → AL H' t ((step st c).2.num :: (step st c).2.nums) → Q (.ref t) H'
theorem sc_answer_or_code : FnScope ["network", "call", "refusal"] ["network", "call"] (defScope (top 121)) := ⟨rfl, rfl, rfl, by decide +kernel, rfl, by decide +kernel, by decide +kernel⟩
theorem d_answer_or_code (T : Facts K mg) : Dfn P w K mg base CX0 12 "answer_or_code" ["network", "call"] (sp_answer_or_code K) := by
  obtain ⟨f, fd, G, hm, hk, hbd⟩ := (d_answer_to (P := P) (w := w) (base := base) T).ex
  refine dfn0 (T.d 89 rfl) sc_answer_or_code (fun _ _ _ _ _ _ us hl => match us, hl with | [_, _], _ => rfl) (fun vs H Q E h => by obtain ⟨a, b, c, st, F, rfl, _⟩ := h; rfl) fun cdv A outer s H vs Q E hr h => ⟨_,
    (pss_one (ps_try_as (i := 2) (tb := fun W => tRet (tCallS (sp_answer_to K) (WE W) (tCons (tVar 0) (tCons (tVar 1) tNil)))) (ts := fun a cls d => tRet (tLst (tCons (tXfA K a cls d "code" (tVar 2)) tNil))) (Wout := fun _ _ _ _ => False) rfl rfl sc_answer_or_code.nd rfl rfl ⟨rfl, by decide, Or.inl T.r_ex.gl⟩ takes0
      (fun W pn xe tk _ => pss_one (ps_ret (by exact (pe_callS G hr rfl hm hk hbd (fun σ => passAt tk σ) (by exact (pa_cons (pv 0) (pa_cons (pv 1) pa_nil)))))))
      (fun a oe cls d pn hz hf => pss_one (ps_ret (by exact (pe_lst (pa_cons (by exact (pe_xfA hz hf (pv 2))) pa_nil))))))), ?_⟩
  obtain ⟨a, b, c, st, F, rfl, hb, hN, q⟩ := h
  refine ⟨_, rfl, _, rfl, a, b, c, st, F, rfl, hb, hN, fun j x cc i hj e d H1 s1 hd => ?_, fun hn t H' F' => q t H' F'⟩
  have hne := errs_neg hj
  refine ⟨true, (T.e j hj).1.exm, fun _ ae hae => ?_, fun z => Bool.noConfusion z⟩
  refine ⟨He.ga K x, (T.e j hj).1.xf, (T.e j hj).1.no, _, rfl, rfl, rfl, d, _, _, rfl, hd, rfl, (show 1 ≤ sizeLine by decide), fun t ht => ?_⟩
  have est := step_err e hne
  have s2 := s1.trans (same_new (o := .lst [.int cc]) ht)
  refine q t _ F (by rw [est]; exact hN.mono s2) (fun b u _ e => s2 b u e) (fun b hb => .inl hb) (s1.free ht) ?_
  rw [e]
  exact upd_same
end
end Cq
end
section
set_option Elab.async false
set_option linter.all false
set_option maxRecDepth 100000
set_option maxHeartbeats 4000000
namespace Cq
/-! ### requests -/
def ci (l : List Nat) : List Int := l.map fun (n : Nat) => (n : Int)
theorem ci_append (a b : List Nat) : ci (a ++ b) = ci a ++ ci b := List.map_append ..
theorem whole_id (c : List (List Int)) : PyLrx5.whole c = c := by
  unfold PyLrx5.whole
  split <;> rfl
def rowsF (xs : List (List Int)) : List Int := xs.flatMap fun x => (x.length : Int) :: x
def flatR : List (List Int) → List Int
  | [] => []
  | h :: rows => h ++ rowsF rows
theorem row_split {l x s : List Int} (h : PyFlat.row l = some (x, s)) : l = (x.length : Int) :: (x ++ s) := by
  cases l with
  | nil => cases h
  | cons n r =>
    unfold PyFlat.row at h
    simp only [] at h
    split at h
    · rename_i z
      have e := Option.some.inj h
      have e1 : r.take n.toNat = x := congrArg Prod.fst e
      have e2 : r.drop n.toNat = s := congrArg Prod.snd e
      rw [← e1, ← e2, List.take_append_drop, List.length_take, Nat.min_eq_left z.2]
      congr 1
      omega
    · cases h
theorem rows_split : ∀ (k : Nat) {r : List Int} {xs : List (List Int)} {t : List Int}, PyFlat.rows k r = some (xs, t) → r = rowsF xs ++ t
  | 0, r, xs, t, h => by
    have e := Option.some.inj h
    have e1 : [] = xs := congrArg Prod.fst e
    have e2 : r = t := congrArg Prod.snd e
    rw [← e1, ← e2]
    rfl
  | k + 1, r, xs, t, h => by
    unfold PyFlat.rows at h
    cases e1 : PyFlat.row r with
    | none => rw [e1] at h; cases h
    | some p =>
      obtain ⟨x, s⟩ := p
      rw [e1] at h
      simp only [] at h
      cases e2 : PyFlat.rows k s with
      | none => rw [e2] at h; cases h
      | some q =>
        obtain ⟨ys, t'⟩ := q
        rw [e2] at h
        have e := Option.some.inj h
        have z1 : x :: ys = xs := congrArg Prod.fst e
        have z2 : t' = t := congrArg Prod.snd e
        rw [row_split e1, rows_split k e2, ← z1, ← z2]
        show _ = ((x.length : Int) :: x) ++ rowsF ys ++ t'
        simp
theorem call_split {shape : Int → Option (Nat × Nat)} {l : List Int} {c : List (List Int)} {t : List Int} (h : PyFlat.call shape l = some (c, t)) : l = flatR c ++ t := by
  cases l with
  | nil => cases h
  | cons p r =>
    unfold PyFlat.call at h
    simp only [] at h
    cases e1 : shape p with
    | none => rw [e1] at h; cases h
    | some q =>
      obtain ⟨n, k⟩ := q
      rw [e1] at h
      simp only [] at h
      split at h
      · cases h
      · cases e2 : PyFlat.rows k (r.drop n) with
        | none => rw [e2] at h; cases h
        | some q =>
          obtain ⟨xs, t'⟩ := q
          rw [e2] at h
          have e := Option.some.inj h
          have z1 : (p :: r.take n) :: xs = c := congrArg Prod.fst e
          have z2 : t' = t := congrArg Prod.snd e
          rw [← z1, ← z2]
          show p :: r = p :: (r.take n) ++ rowsF xs ++ t'
          rw [List.append_assoc, ← rows_split k e2]
          simp
theorem calls_split {shape : Int → Option (Nat × Nat)} : ∀ (f : Nat) {l : List Int} {cs : List (List (List Int))}, PyFlat.calls shape f l = some cs → l = cs.flatMap flatR
  | 0, [], cs, h => by
    rw [← Option.some.inj h]
    rfl
  | f + 1, [], cs, h => by
    rw [← Option.some.inj h]
    rfl
  | 0, _ :: _, cs, h => by cases h
  | f + 1, p :: r, cs, h => by
    unfold PyFlat.calls at h
    cases e1 : PyFlat.call shape (p :: r) with
    | none => rw [e1] at h; cases h
    | some q =>
      obtain ⟨c, t⟩ := q
      rw [e1] at h
      simp only [] at h
      cases e2 : PyFlat.calls shape f t with
      | none => rw [e2] at h; cases h
      | some ds =>
        rw [e2] at h
        rw [← Option.some.inj h, List.flatMap_cons, ← calls_split f e2]
        exact call_split e1
theorem nat_of {z : Int} (h : Lrx5Neutral.natural z = true) : ((z.toNat : Nat) : Int) = z := by
  unfold Lrx5Neutral.natural at h
  rw [Bool.and_eq_true] at h
  have := of_decide_eq_true h.1
  omega
theorem nats_of {l : List Int} (h : Lrx5Neutral.list l = true) : ci (l.map Int.toNat) = l := by
  unfold Lrx5Neutral.list at h
  rw [Bool.and_eq_true] at h
  unfold ci
  rw [List.map_map]
  conv => rhs; rw [← List.map_id l]
  exact List.map_congr_left fun z hz => nat_of (List.all_eq_true.mp h.1 z hz)
theorem dec {c : List (List Int)} (h : Lrx5Neutral.asked1 c = true) : ∃ x, Lrx5Neutral.callOf c = some x ∧ flatR c = ci (enc x) := by
  unfold Lrx5Neutral.asked1 at h
  split at h
  all_goals try simp only [Bool.and_eq_true] at h
  case h_15 i l =>
    refine ⟨_, rfl, ?_⟩
    show [14, i] ++ (((l.length : Nat) : Int) :: l ++ []) = 14 :: ((i.toNat : Nat) : Int) :: (((l.map Int.toNat).length : Nat) : Int) :: ci (l.map Int.toNat)
    rw [nats_of h.2, nat_of h.1, List.length_map]
    simp
  case h_18 l =>
    refine ⟨_, rfl, ?_⟩
    show [17] ++ (((l.length : Nat) : Int) :: l ++ []) = 17 :: (((l.map Int.toNat).length : Nat) : Int) :: ci (l.map Int.toNat)
    rw [nats_of h, List.length_map]
    simp
  all_goals first
    | exact Bool.noConfusion h
    | (refine ⟨_, rfl, ?_⟩; simp only [flatR, rowsF, enc, opn, argn, ci, List.map, nat_of, h]; simp [nat_of, h])
end Cq
end
section
set_option Elab.async false
set_option linter.all false
set_option maxRecDepth 100000
set_option maxHeartbeats 4000000
set_option exponentiation.threshold 100000
namespace Cq
open PySem PySem.Spec PyProof.Rows L2 CqR
open Lrx5 (Station Network step error)
def plays : Lrx5.State → List Lrx5.Call → List (List Int)
  | _, [] => []
  | st, c :: cs => ((step st c).2.num :: (step st c).2.nums) :: plays (step st c).1 cs
theorem played_eq : ∀ (raw : List (List (List Int))) (st : Lrx5.State), (raw.all Lrx5Neutral.asked1) = true → ∃ cs : List Lrx5.Call, raw.flatMap flatR = ci (cs.flatMap enc) ∧ PyFlat.played Lrx5Neutral.step st raw = plays st cs
  | [], st, _ => ⟨[], rfl, rfl⟩
  | c :: raw, st, h => by
    rw [List.all_cons, Bool.and_eq_true] at h
    obtain ⟨x, h1, h2⟩ := dec h.1
    obtain ⟨cs, h3, h4⟩ := played_eq raw (step st x).1 h.2
    refine ⟨x :: cs, ?_, ?_⟩
    · rw [List.flatMap_cons, List.flatMap_cons, ci_append, h2, h3]
    · have e : Lrx5Neutral.step st c = ((step st x).1, (step st x).2.num :: (step st x).2.nums) := by
        unfold Lrx5Neutral.step
        rw [h1]
      unfold PyFlat.played plays
      rw [e]
      simp only []
      rw [h4]
def tl (l : List (List Int)) : List Int := PyFlat.told l
theorem tl_cons (a : List Int) (l : List (List Int)) : tl (a :: l) = ((a.length : Int) :: a) ++ tl l := rfl
theorem vi_inj : ∀ {a b : List Int}, a.map V.int = b.map V.int → a = b
  | [], [], _ => rfl
  | [], _ :: _, h => by cases h
  | _ :: _, [], h => by cases h
  | x :: a, y :: b, h => by
    have h1 := (List.cons.inj h).1
    injection h1 with h1
    rw [h1, vi_inj (List.cons.inj h).2]
theorem SqL.mono2 {K : Kf} {H H' : Hp} (s : Same H H') {a : Addr} {xs : List V} (h : SqL K H a xs) : SqL K H' a xs := by
  rcases h with (h | ⟨o, h⟩) | h
  · exact .inl (.inl (s _ _ h))
  · exact .inl (.inr ⟨o, s _ _ h⟩)
  · exact .inr h
theorem NetW.put {K : Kf} {H : Hp} {a : Addr} {sts : List Station} {n : List Nat} {dx l p td : Addr} {ads : List (Addr × Addr)} {xs : List V} {o : HO} (h : NetW K H a sts n dx l p ads) (ht : td ∉ Ft a l ads) (hl : H td = some (.lst xs)) : NetW K (upd H td o) a sts n dx l p ads := by
  have k : ∀ b u, b ∈ Ft a l ads → H b = some u → upd H td o b = some u := fun b u hb e => by
    rw [upd_ne (fun z => ht (by rw [← z]; exact hb))]
    exact e
  refine ⟨k _ _ (List.mem_cons_self ..) h.ins, k _ _ (List.mem_cons_of_mem _ (List.mem_cons_self ..)) h.lst, h.sts.imp fun x hx s hs => hs.ne fun b u hb e => k b u ?_ e, ?_, h.d1, h.d2⟩
  · refine List.mem_cons_of_mem _ (List.mem_cons_of_mem _ ?_)
    rcases hb with rfl | rfl
    · exact List.mem_append_left _ (List.mem_map.mpr ⟨x, hx, rfl⟩)
    · exact List.mem_append_right _ (List.mem_map.mpr ⟨x, hx, rfl⟩)
  · show upd _ _ _ _ = _
    rw [upd_ne (ne_of h.pop hl fun z => nomatch z)]
    exact h.pop
theorem NetS.put {K : Kf} {H : Hp} {a : Addr} {st : Lrx5.State} {F : List Addr} {td : Addr} {xs : List V} {o : HO} (h : NetS K H a st F) (ht : td ∉ F) (hl : H td = some (.lst xs)) : NetS K (upd H td o) a st F := by
  cases st with
  | none =>
    obtain ⟨dx, l, p, h1, rfl⟩ := h
    exact ⟨dx, l, p, h1.put ht hl, rfl⟩
  | some net =>
    obtain ⟨dx, l, p, ads, h1, rfl, h2⟩ := h
    exact ⟨dx, l, p, ads, h1.put ht hl, rfl, h2⟩
/-! ### the length of a call -/
theorem inV_num (k : Nat) : inV (.int (k : Int)) [V.int 14, V.int 17] = decide (k = 14 ∨ k = 17) := by
  show (((14 : Int) == (k : Int)) || (((17 : Int) == (k : Int)) || false)) = _
  rw [Bool.eq_iff_iff]
  simp
  omega
theorem at_pre (pre l : List Nat) (i : Nat) : (pre ++ l)[pre.length + i]? = l[i]? := by
  rw [List.getElem?_append_right (Nat.le_add_right ..), Nat.add_sub_cancel_left]
theorem nv_pre {pre l : List Nat} {i k : Nat} (h : l[i]? = some k) : atI (nv (pre ++ l)) ((pre.length : Int) + (i : Int)) = some (V.int (k : Int)) := by
  rw [show (pre.length : Int) + (i : Int) = ((pre.length + i : Nat) : Int) by omega]
  exact atI_nat (by rw [nv_get, at_pre, h]; rfl)
theorem len_plain {c : Lrx5.Call} (h : ¬ (opn c = 14 ∨ opn c = 17)) : argCounts[opn c]? = some (argn c).length := by
  cases c <;> first | rfl | exact absurd (.inl rfl) h | exact absurd (.inr rfl) h
section
variable {P : Program} {w : World} {K : Kf} {mg : Str → Option Value} {base : Heap}
def sp_call_length (K : Kf) : Sp := fun vs H Q _ => ∃ (b : Addr) (pre post : List Nat) (c : Lrx5.Call), vs = [.ref b, .int (pre.length : Nat)] ∧ SqL K H b (nv (pre ++ (enc c ++ post))) ∧ Q (.int ((enc c).length : Nat)) H
theorem sc_call_length : FnScope ["calls", "start", "number", "length"] ["calls", "start"] (defScope (top 120)) := ⟨rfl, rfl, rfl, by decide +kernel, rfl, by decide +kernel, by decide +kernel⟩
theorem d_call_length (T : Facts K mg) : Dfn P w K mg base CX0 1 "call_length" ["calls", "start"] (sp_call_length K) := by
  refine dfn0 (T.d 88 rfl) sc_call_length (fun _ _ _ _ _ _ us hl => match us, hl with | [_, _], _ => rfl) (fun vs H Q E h => by obtain ⟨b, pre, post, c, rfl, _⟩ := h; rfl) fun cdv A outer s H vs Q E hr h => ⟨_,
    (pss_cons (ps_set (i := 2) sc_call_length.nd rfl (Or.inl rfl) (pe_ix ix_list (pv 0) (pv 1) (fun _ _ => rfl)))
    (pss_cons (ps_set (i := 3) sc_call_length.nd rfl (Or.inl rfl) (pe_op op_add pe_int (pe_ix ix_tup (pe_globR rfl T.g_ARGUMENT_COUNTS) (pv 2) (fun _ _ => rfl))))
    (pss_cons (ps_if (pt_cmpR op_in_seq (pv 2) (pe_globR rfl T.g_CALLS_WITH_ROW) rfl)
        (pss_one (ps_set (i := 3) sc_call_length.nd rfl (Or.inl rfl) (pe_op op_add (pe_op op_add (pv 3) pe_int) (pe_ix ix_list (pv 0) (pe_op op_add (pv 1) (pv 3)) (fun _ _ => rfl)))))
        pss_nil)
    (pss_one (ps_ret (pv 3)))))), ?_⟩
  obtain ⟨b, pre, post, c, rfl, hb, q⟩ := h
  have a0 : atI (nv (pre ++ (enc c ++ post))) (pre.length : Int) = some (V.int (opn c : Nat)) := by
    have z := nv_pre (pre := pre) (l := enc c ++ post) (i := 0) (k := opn c) rfl
    rw [show (pre.length : Int) + ((0 : Nat) : Int) = (pre.length : Int) by omega] at z
    exact z
  refine ⟨_, rfl, _, rfl, b, _, _, _, rfl, rfl, hb, a0, ?_⟩
  have cnt : ∀ k, argCounts[opn c]? = some k → atI (argCounts.map fun (n : Nat) => V.int (n : Int)) (opn c : Int) = some (V.int (k : Nat)) := fun k hk => atI_nat (by rw [List.getElem?_map, hk]; rfl)
  by_cases hrow : opn c = 14 ∨ opn c = 17
  · cases c with
    | marginal i m =>
      refine ⟨_, rfl, _, _, _, _, rfl, rfl, T.s_ARGUMENT_COUNTS H, cnt 1 rfl, _, _, rfl, rfl, ?_⟩
      refine ⟨_, rfl, _, _, rfl, .inr (T.s_CALLS_WITH_ROW H), rfl, rfl, true, rfl, iteT ?_⟩
      have a2 := nv_pre (pre := pre) (l := enc (.marginal i m) ++ post) (i := 2) (k := m.length) rfl
      refine ⟨_, rfl, _, _, rfl, rfl, _, rfl, _, rfl, _, rfl, _, _, rfl, rfl, b, _, _, _, rfl, rfl, hb, a2, _, _, rfl, rfl, _, rfl, ?_⟩
      have e : (1 : Int) + ((1 : Nat) : Int) + 1 + ((m.length : Nat) : Int) = (((enc (.marginal i m)).length : Nat) : Int) := by
        show _ = ((m.length + 1 + 1 + 1 : Nat) : Int)
        omega
      rw [← e] at q
      exact q
    | stateProbability m =>
      refine ⟨_, rfl, _, _, _, _, rfl, rfl, T.s_ARGUMENT_COUNTS H, cnt 0 rfl, _, _, rfl, rfl, ?_⟩
      refine ⟨_, rfl, _, _, rfl, .inr (T.s_CALLS_WITH_ROW H), rfl, rfl, true, rfl, iteT ?_⟩
      have a2 := nv_pre (pre := pre) (l := enc (.stateProbability m) ++ post) (i := 1) (k := m.length) rfl
      refine ⟨_, rfl, _, _, rfl, rfl, _, rfl, _, rfl, _, rfl, _, _, rfl, rfl, b, _, _, _, rfl, rfl, hb, a2, _, _, rfl, rfl, _, rfl, ?_⟩
      have e : (1 : Int) + ((0 : Nat) : Int) + 1 + ((m.length : Nat) : Int) = (((enc (.stateProbability m)).length : Nat) : Int) := by
        show _ = ((m.length + 1 + 1 : Nat) : Int)
        omega
      rw [← e] at q
      exact q
    | _ => simp [opn] at hrow
  · refine ⟨_, rfl, _, _, _, _, rfl, rfl, T.s_ARGUMENT_COUNTS H, cnt _ (len_plain hrow), _, _, rfl, rfl, ?_⟩
    refine ⟨_, rfl, _, _, rfl, .inr (T.s_CALLS_WITH_ROW H), rfl, rfl, false, ?_, iteF ⟨_, rfl, ?_⟩⟩
    · show V.bl (inV (.int (opn c : Int)) [V.int 14, V.int 17]) = _
      rw [inV_num, decide_eq_false hrow]
    have e : (1 : Int) + (((argn c).length : Nat) : Int) = (((enc c).length : Nat) : Int) := by
      show _ = (((argn c).length + 1 : Nat) : Int)
      omega
    rw [← e] at q
    exact q
end
end Cq
end
section
set_option Elab.async false
set_option linter.all false
set_option maxRecDepth 100000
set_option maxHeartbeats 4000000
set_option exponentiation.threshold 100000
namespace Cq
open PySem PySem.Spec PyProof.Rows L2 CqR
open Lrx5 (Station Network step error)
theorem dfnB {P : Program} {w : World} {K : Kf} {mg : Str → Option Value} {x : Str} {i : Nat} {N ps : List Str} {k : Nat} {sp : Sp} (T : At K mg x i) (S : FnScope N ps (defScope (top i)))
    (hb : ∀ (kV doc pm : Value) (an : Option Addr) (cdv ct : Value) (us : List Value), us.length = ps.length → bindArgs (PySem.W.fnOf x x (defArgs (top i)) (defBody (top i)) (defScope (top i)) .none kV doc pm an cdv ct) ⟨us, []⟩ = pure (ps.zip us))
    (len : ∀ vs H Q E, sp vs H Q E → vs.length = ps.length)
    (body : ∀ (base : Heap) (cdv : Value) (A : Around) (outer : List Env) (s : Shared) (H : Hp) (vs : List V) (Q : VK) (E : XK), Room k (A.deeper (envOfC x (defScope (top i)) s.heap.objs.size (He.ga K x) cdv)) → sp vs H Q E →
      ∃ t, PSs (cxOf CX0 P w K mg base N x (defScope (top i)) (He.ga K x) cdv A outer s H E).nox (defBody (top i)) t ∧ t { nx := fun _ H' => Q .non H', rt := Q } (start N vs) H) :
    ∃ fd, (∀ (s : Shared) (us : List Value), us.length = ps.length → BindsTo s fd ⟨us, []⟩ (ps.zip us)) ∧ ∀ base, FnOk P w K mg base CX0 (k + 1) (He.ga K x) fd ps sp := by
  obtain ⟨fd, F⟩ := T.fn
  refine ⟨fd, F.bindsA hb, fun base => F.ok S len fun cdv A outer s H vs Q E hr h => ?_⟩
  obtain ⟨t, h1, h2⟩ := body base cdv A outer s H vs Q E hr h
  exact ⟨t, h1.nox, h2⟩
section
variable {P : Program} {w : World} {K : Kf} {mg : Str → Option Value} {base : Heap}
def sp_answers (K : Kf) : Sp := fun vs H Q _ => ∃ (b : Addr) (cs : List Lrx5.Call), vs = [.ref b] ∧ SqL K H b (nv (cs.flatMap enc)) ∧ (tl (plays none cs)).length ≤ 10000000 ∧ ∀ p H', H' p = some (.lst ((tl (plays none cs)).map V.int)) → Q (.ref p) H'
theorem sc_answers : FnScope ["calls", "network", "told", "start", "end", "answer"] ["calls"] (defScope (top 119)) := ⟨rfl, rfl, rfl, by decide +kernel, rfl, by decide +kernel, by decide +kernel⟩
theorem b_answers (T : Facts K mg) : ∃ fd, (∀ (s : Shared) (us : List Value), us.length = (["calls"] : List Str).length → BindsTo s fd ⟨us, []⟩ ((["calls"] : List Str).zip us)) ∧ ∀ base, FnOk P w K mg base CX0 13 (He.ga K "answers") fd ["calls"] (sp_answers K) := by
  refine dfnB (T.d 87 rfl) sc_answers (fun _ _ _ _ _ _ us hl => match us, hl with | [_], _ => rfl) (fun vs H Q E h => by obtain ⟨b, cs, rfl, _⟩ := h; rfl) fun base cdv A outer s H vs Q E hr h => ⟨_,
    (pss_cons (ps_set (i := 1) sc_answers.nd rfl (Or.inl rfl) (pe_mk0 T.mk_Network (ini_Network T) T.g_Network (hr.mono (by decide))))
    (pss_cons (ps_set (i := 2) sc_answers.nd rfl (Or.inl rfl) (pe_lst pa_nil))
    (pss_cons (ps_set (i := 3) sc_answers.nd rfl (Or.inl rfl) pe_int)
    (pss_cons (ps_while PassesOwn.never (pt_cmpR op_lt (pv 3) (pe_callB call_len_seq (by rfl) T.f_len PySem.boot_len (pa_cons (pv 0) pa_nil)) (nomark _))
        (pss_cons (ps_set (i := 4) sc_answers.nd rfl (Or.inl rfl) (pe_op op_add (pv 3) (pe_dfn (d_call_length T) (hr.mono (by decide)) pass0 (pa_cons (pv 0) (pa_cons (pv 3) pa_nil)))))
        (pss_cons (ps_set (i := 5) sc_answers.nd rfl (Or.inl rfl) (pe_dfn (d_answer_or_code T) hr pass0 (pa_cons (pv 1) (pa_cons (pe_slice sl_list (pv 0) (po_some (pv 3)) (po_some (pv 4))) pa_nil))))
        (pss_cons (ps_expr (pe_bm PySem.F.plainAttrs_list PySem.F.slot_list_append PySem.F.type_list_append mt_append (pv 2) (pa_cons (pe_callB call_len_seq (by rfl) T.f_len PySem.boot_len (pa_cons (pv 5) pa_nil)) pa_nil)))
        (pss_cons (ps_expr (pe_bm PySem.F.plainAttrs_list PySem.F.slot_list_extend PySem.F.type_list_extend mt_extend (pv 2) (pa_cons (pv 5) pa_nil)))
        (pss_one (ps_set (i := 3) sc_answers.nd rfl (Or.inl rfl) (pv 4))))))))
    (pss_one (ps_ret (pv 2))))))), ?_⟩
  obtain ⟨b, cs, rfl, hb, hsz, q⟩ := h
  intro x dx hx hdx ne
  have s0 : Same H (upd (upd H dx (.own x)) x (.ins (cN K) dx [])) := sPut (same_new hdx) hx
  refine ⟨x, dx, rfl, upd_same, fun l p H1 sb hl0 hp0 hx1 hl1 hp1 => ⟨rfl, ?_⟩⟩
  have s1 : Same H H1 := fun a u e => sb a u (ne_of_none e hx) (s0 a u e)
  refine ⟨by decide, fun td htd => ?_⟩
  have s2 : Same H (upd H1 td (.lst [])) := sNew s1 htd
  have fx : H x = none := hx
  have fl : H l = none := s0.free hl0
  have ftd : H td = none := s1.free htd
  have xtd : x ≠ td := ne_of_none hx1 htd
  have ltd : l ≠ td := ne_of_none hl1 htd
  have ptd : p ≠ td := ne_of_none hp1 htd
  refine ⟨fun m σ H2 => ∃ (cs' : List Lrx5.Call) (st : Lrx5.State) (F : List Addr) (T : List Int) (pre : List Nat) (v4 v5 : Option V), σ = [some (.ref b), some (.ref x), some (.ref td), some (.int (pre.length : Nat)), v4, v5] ∧ m = cs'.length ∧ cs.flatMap enc = pre ++ cs'.flatMap enc ∧ T ++ tl (plays st cs') = tl (plays none cs) ∧
    Same H H2 ∧ NetS K H2 x st F ∧ (∀ y ∈ F, H y = none) ∧ td ∉ F ∧ H2 td = some (.lst (T.map V.int)), ⟨_, cs, none, Ft x l [], [], [], none, none, rfl, rfl, rfl, rfl, s2, ⟨dx, l, p, ⟨?_, ?_, True.intro, ?_, List.nodup_nil, List.nodup_nil⟩, rfl⟩, ?_, ?_, upd_same⟩, ?_⟩
  · rw [upd_ne xtd]
    exact hx1
  · rw [upd_ne ltd]
    exact hl1
  · show upd _ _ _ _ = _
    rw [upd_ne ptd]
    exact hp1
  · intro y hy
    rcases List.mem_cons.mp hy with rfl | hy
    · exact fx
    · rcases List.mem_cons.mp hy with rfl | hy
      · exact fl
      · cases hy
  · intro hy
    rcases List.mem_cons.mp hy with e | hy
    · exact xtd e.symm
    · rcases List.mem_cons.mp hy with e | hy
      · exact ltd e.symm
      · cases hy
  rintro m σ H2 ⟨cs', st, F, T, pre, v4, v5, rfl, rfl, hall, hres, s2, hN, hF, htF, hT⟩
  have hb2 := SqL.mono2 s2 hb
  refine ⟨_, rfl, _, rfl, b, _, rfl, .inl hb2, _, _, rfl, rfl, ?_⟩
  rw [nv_len, hall, List.length_append]
  cases cs' with
  | nil =>
    refine ⟨false, blF (by show ¬ ((pre.length : Nat) : Int) < ((pre.length + 0 : Nat) : Int); omega), iteF ⟨_, rfl, q td _ ?_⟩⟩
    rw [← hres]
    show H2 td = some (.lst ((T ++ []).map V.int))
    rw [List.append_nil]
    exact hT
  | cons c cs' =>
    rw [List.flatMap_cons] at hall ⊢
    have hpos : 0 < (enc c).length := Nat.succ_pos _
    refine ⟨true, blT (by rw [List.length_append]; omega), iteT ⟨_, fun σ' H' h => h, ?_⟩⟩
    rw [hall] at hb2
    refine ⟨_, rfl, _, rfl, _, rfl, b, pre, cs'.flatMap enc, c, rfl, hb2, _, _, rfl, rfl, ?_⟩
    refine ⟨_, rfl, _, rfl, _, rfl, _, rfl, _, rfl, _, rfl, b, _, rfl, hb2, fun sl hsl => ?_⟩
    have ecut : cutV (nv (pre ++ (enc c ++ cs'.flatMap enc))) (some ((pre.length : Nat) : Int)) (some (((pre.length : Nat) : Int) + (((enc c).length : Nat) : Int))) = nv (enc c) := by
      rw [cut_nv (by rw [List.length_append, List.length_append]; omega), List.drop_left, List.take_left]
    have s3' : Same H2 (upd H2 sl (.lst (cutV (nv (pre ++ (enc c ++ cs'.flatMap enc))) (some ((pre.length : Nat) : Int)) (some (((pre.length : Nat) : Int) + (((enc c).length : Nat) : Int)))))) := same_new hsl
    have s3 := s2.trans s3'
    have hT3 := s3' _ _ hT
    refine ⟨x, sl, c, st, F, rfl, by rw [upd_same, ecut], hN.mono s3', fun t H4 F' hN4 hFr hsub ht hal => ?_⟩
    have s4 : Same H H4 := fun y u e => hFr y u (fun z => by rw [hF y z] at e; cases e) (s3 y u e)
    have hT4 := hFr td _ htF hT3
    have ttd : t ≠ td := (ne_of_none hT3 ht).symm
    have htF' : td ∉ F' := fun z => by
      rcases hsub td z with z | z
      · exact htF z
      · rw [hT3] at z
        cases z
    have hF' : ∀ y ∈ F', H y = none := fun y hy => by
      rcases hsub y hy with z | z
      · exact hF y z
      · exact s3.free z
    -- what is told
    have hR : (T ++ ((((step st c).2.num :: (step st c).2.nums).length : Int) :: ((step st c).2.num :: (step st c).2.nums))) ++ tl (plays (step st c).1 cs') = tl (plays none cs) := by
      rw [← hres]
      show _ = T ++ tl (((step st c).2.num :: (step st c).2.nums) :: plays (step st c).1 cs')
      rw [tl_cons, List.append_assoc]
    have hlen : (T ++ ((((step st c).2.num :: (step st c).2.nums).length : Int) :: ((step st c).2.num :: (step st c).2.nums))).length ≤ 10000000 := by
      have z := hsz
      rw [← hR, List.length_append] at z
      omega
    rw [List.length_append, List.length_cons] at hlen
    refine ⟨_, rfl, .inl ⟨rfl, _, SqL.of hT4⟩, _, rfl, t, _, rfl, .inl (SqL.of hal), td, _, _, rfl, rfl, hT4, ?_, ?_⟩
    · rw [List.length_map, sizeLine_eq]
      omega
    rw [List.length_map]
    have hN5 := hN4.put (o := .lst (T.map V.int ++ [.int ((((step st c).2.num :: (step st c).2.nums).length : Nat) : Int)])) htF' hT4
    have s5 : Same H (upd H4 td (.lst (T.map V.int ++ [.int ((((step st c).2.num :: (step st c).2.nums).length : Nat) : Int)]))) := sPut s4 ftd
    refine ⟨_, rfl, .inl ⟨rfl, _, SqL.of upd_same⟩, _, rfl, td, t, _, _, rfl, rfl, upd_same, by rw [upd_ne ttd]; exact hal, ?_, ?_⟩
    · rw [List.length_append, List.length_map, List.length_map, sizeLine_eq]
      simp only [List.length_cons, List.length_nil] at hlen ⊢
      omega
    refine ⟨_, rfl, cs'.length, Nat.lt_succ_self _, cs', (step st c).1, F', T ++ ((((step st c).2.num :: (step st c).2.nums).length : Int) :: ((step st c).2.num :: (step st c).2.nums)), pre ++ enc c, some (.int (((pre.length : Nat) : Int) + (((enc c).length : Nat) : Int))), some (.ref t), ?_, rfl, by rw [List.append_assoc], hR, sPut s5 ftd, hN5.put htF' upd_same, hF', htF', ?_⟩
    · rw [List.length_append, Int.natCast_add]
      rfl
    · rw [upd_same]
      simp
end
end Cq
end
section
set_option Elab.async false
set_option linter.all false
set_option maxRecDepth 100000
set_option maxHeartbeats 4000000
namespace CqH
open PySem PySem.Spec PyProof.Rows L2 He CqR
open Cq (tbl argCounts errs Facts At)
theorem fn_tbl : fnL = tbl.map (fun q => fnAt q.1 q.2) ++ fnL.drop 96 := rfl
theorem fa_tbl : faL = tbl.map (fun q => Fa.glo q.1) ++ faL.drop 96 := rfl
theorem fn_at {j : Nat} {x : Str} {i : Nat} (h : tbl[j]? = some (x, i)) : fnL[j]? = some (fnAt x i) := by
  have l := (List.getElem?_eq_some_iff.mp h).1
  rw [fn_tbl, List.getElem?_append_left (by rw [List.length_map]; exact l), List.getElem?_map, h]
  rfl
theorem fa_at {j : Nat} {x : Str} {i : Nat} (h : tbl[j]? = some (x, i)) : faL[j]? = some (Fa.glo x) := by
  have l := (List.getElem?_eq_some_iff.mp h).1
  rw [fa_tbl, List.getElem?_append_left (by rw [List.length_map]; exact l), List.getElem?_map, h]
  rfl
theorem facts {K : PySem.W.Frag} {h : Heap} {mg : Str → Option Value} (X : K.In h) (G : h.Ns mainGlobals mg) (c : wish.Says K) : Facts K mg where
  d := fun j {x i} hj => ⟨c.d.def_ j (fn_at hj), glo_ok X G (c.d.fact j (fa_at hj))⟩
  f_len := free_ok X G (c.d.fact 122 (f := .free "len") rfl)
  f_range := free_ok X G (c.d.fact 123 (f := .free "range") rfl)
  f_enumerate := free_ok X G (c.d.fact 124 (f := .free "enumerate") rfl)
  f_zip := free_ok X G (c.d.fact 125 (f := .free "zip") rfl)
  f_sum := free_ok X G (c.d.fact 126 (f := .free "sum") rfl)
  f_min := free_ok X G (c.d.fact 127 (f := .free "min") rfl)
  f_max := free_ok X G (c.d.fact 128 (f := .free "max") rfl)
  f_list := free_ok X G (c.d.fact 129 (f := .free "list") rfl)
  f_tuple := free_ok X G (c.d.fact 130 (f := .free "tuple") rfl)
  f_Exception := free_ok X G (c.d.fact 131 (f := .free "Exception") rfl)
  g_MOST_STATIONS := int_ok X G (c.d.fact 114 (f := .int "MOST_STATIONS" 5) rfl)
  g_MOST_CLASSES := int_ok X G (c.d.fact 115 (f := .int "MOST_CLASSES" 3) rfl)
  g_MOST_SERVERS := int_ok X G (c.d.fact 116 (f := .int "MOST_SERVERS" 20) rfl)
  g_MOST_DEMAND := int_ok X G (c.d.fact 117 (f := .int "MOST_DEMAND" 1000) rfl)
  g_MOST_POPULATION := int_ok X G (c.d.fact 118 (f := .int "MOST_POPULATION" 12) rfl)
  g_MOST_CUSTOMERS := int_ok X G (c.d.fact 119 (f := .int "MOST_CUSTOMERS" 100) rfl)
  g_MOST_TERM := int_ok X G (c.d.fact 120 (f := .int "MOST_TERM" 1000000) rfl)
  g_MOST_PRODUCT := int_ok X G (c.d.fact 121 (f := .int "MOST_PRODUCT" 40) rfl)
  g_ARGUMENT_COUNTS := glo_ok X G (c.d.fact 132 (f := .glo "ARGUMENT_COUNTS") rfl)
  g_CALLS_WITH_ROW := glo_ok X G (c.d.fact 133 (f := .glo "CALLS_WITH_ROW") rfl)
  s_ARGUMENT_COUNTS := fun H => c.tup (q := ("ARGUMENT_COUNTS", [.int 2, .int 3, .int 3, .int 2, .int 2, .int 1, .int 0, .int 1, .int 1, .int 2, .int 1, .int 2, .int 2, .int 1, .int 1, .int 2, .int 1, .int 0, .int 0, .int 1, .int 2, .int 2, .int 3, .int 3, .int 0, .int 0])) (List.mem_cons_self ..) H
  s_CALLS_WITH_ROW := fun H => c.tup (q := ("CALLS_WITH_ROW", [.int 14, .int 17])) (List.mem_cons_of_mem _ (List.mem_cons_self ..)) H
  g_Station := glo_ok X G (c.d.fact 96 (f := .glo "Station") rfl)
  cl_Station := cls_ok (c.d.fact 98 (f := .cls "Station") rfl)
  mk_Station := mkr_ok (c.d.fact 100 (f := .mkr "Station") rfl)
  g_Network := glo_ok X G (c.d.fact 97 (f := .glo "Network") rfl)
  cl_Network := cls_ok (c.d.fact 99 (f := .cls "Network") rfl)
  mk_Network := mkr_ok (c.d.fact 101 (f := .mkr "Network") rfl)
  n_is_delay := noat_ok (c.d.fact 102 (f := .noat "Station" "is_delay") rfl)
  n_servers := noat_ok (c.d.fact 103 (f := .noat "Station" "servers") rfl)
  n_demands := noat_ok (c.d.fact 104 (f := .noat "Station" "demands") rfl)
  n_stations := noat_ok (c.d.fact 105 (f := .noat "Network" "stations") rfl)
  n_populations := noat_ok (c.d.fact 106 (f := .noat "Network" "populations") rfl)
  i_Station := c.d.def_ 103 (d := mtAt "Station" "__init__" "Station.__init__" 37 0) rfl
  i_Network := c.d.def_ 104 (d := mtAt "Network" "__init__" "Network.__init__" 38 0) rfl
  m_exists := ⟨c.d.def_ 105 (d := mtAt "Network" "check_exists" "Network.check_exists" 38 1) rfl, meth_ok (c.d.fact 107 (f := .meth "Network" "check_exists") rfl)⟩
  m_station := ⟨c.d.def_ 106 (d := mtAt "Network" "check_station" "Network.check_station" 38 2) rfl, meth_ok (c.d.fact 108 (f := .meth "Network" "check_station") rfl)⟩
  m_class := ⟨c.d.def_ 107 (d := mtAt "Network" "check_class" "Network.check_class" 38 3) rfl, meth_ok (c.d.fact 109 (f := .meth "Network" "check_class") rfl)⟩
  m_customers := ⟨c.d.def_ 108 (d := mtAt "Network" "check_customers" "Network.check_customers" 38 4) rfl, meth_ok (c.d.fact 110 (f := .meth "Network" "check_customers") rfl)⟩
  m_queue := ⟨c.d.def_ 109 (d := mtAt "Network" "check_queue" "Network.check_queue" 38 5) rfl, meth_ok (c.d.fact 111 (f := .meth "Network" "check_queue") rfl)⟩
  m_proper := ⟨c.d.def_ 110 (d := mtAt "Network" "check_proper" "Network.check_proper" 38 6) rfl, meth_ok (c.d.fact 112 (f := .meth "Network" "check_proper") rfl)⟩
  m_simple := ⟨c.d.def_ 111 (d := mtAt "Network" "check_simple" "Network.check_simple" 38 7) rfl, meth_ok (c.d.fact 113 (f := .meth "Network" "check_simple") rfl)⟩
  e := fun j {x cc i} hj => by
    have exc : ∀ {y : Str}, y ∈ exL → ExFacts K mg y := fun hy => exF_ok X G (c.exc hy)
    match j, hj with
    | 0, hj =>
      obtain ⟨rfl, rfl, rfl⟩ : ("NoInstance" : Str) = x ∧ (-11 : Int) = cc ∧ (10 : Nat) = i := by
        have e := Option.some.inj hj
        exact ⟨congrArg (fun q : Str × Int × Nat => q.1) e, congrArg (fun q : Str × Int × Nat => q.2.1) e, congrArg (fun q : Str × Int × Nat => q.2.2) e⟩
      exact ⟨exc (List.mem_cons_of_mem _ (List.mem_cons_self ..)), c.d.def_ 97 (d := mtAt "NoInstance" "__init__" "NoInstance.__init__" 10 0) rfl⟩
    | 1, hj =>
      obtain ⟨rfl, rfl, rfl⟩ : ("NoSuchStationOrClass" : Str) = x ∧ (-2 : Int) = cc ∧ (11 : Nat) = i := by
        have e := Option.some.inj hj
        exact ⟨congrArg (fun q : Str × Int × Nat => q.1) e, congrArg (fun q : Str × Int × Nat => q.2.1) e, congrArg (fun q : Str × Int × Nat => q.2.2) e⟩
      exact ⟨exc (List.mem_cons_of_mem _ (List.mem_cons_of_mem _ (List.mem_cons_self ..))), c.d.def_ 98 (d := mtAt "NoSuchStationOrClass" "__init__" "NoSuchStationOrClass.__init__" 11 0) rfl⟩
    | 2, hj =>
      obtain ⟨rfl, rfl, rfl⟩ : ("NoCustomers" : Str) = x ∧ (-6 : Int) = cc ∧ (12 : Nat) = i := by
        have e := Option.some.inj hj
        exact ⟨congrArg (fun q : Str × Int × Nat => q.1) e, congrArg (fun q : Str × Int × Nat => q.2.1) e, congrArg (fun q : Str × Int × Nat => q.2.2) e⟩
      exact ⟨exc (List.mem_cons_of_mem _ (List.mem_cons_of_mem _ (List.mem_cons_of_mem _ (List.mem_cons_self ..)))), c.d.def_ 99 (d := mtAt "NoCustomers" "__init__" "NoCustomers.__init__" 12 0) rfl⟩
    | 3, hj =>
      obtain ⟨rfl, rfl, rfl⟩ : ("OutOfRange" : Str) = x ∧ (-22 : Int) = cc ∧ (13 : Nat) = i := by
        have e := Option.some.inj hj
        exact ⟨congrArg (fun q : Str × Int × Nat => q.1) e, congrArg (fun q : Str × Int × Nat => q.2.1) e, congrArg (fun q : Str × Int × Nat => q.2.2) e⟩
      exact ⟨exc (List.mem_cons_of_mem _ (List.mem_cons_of_mem _ (List.mem_cons_of_mem _ (List.mem_cons_of_mem _ (List.mem_cons_self ..))))), c.d.def_ 100 (d := mtAt "OutOfRange" "__init__" "OutOfRange.__init__" 13 0) rfl⟩
    | 4, hj =>
      obtain ⟨rfl, rfl, rfl⟩ : ("PopulationsTooLarge" : Str) = x ∧ (-28 : Int) = cc ∧ (14 : Nat) = i := by
        have e := Option.some.inj hj
        exact ⟨congrArg (fun q : Str × Int × Nat => q.1) e, congrArg (fun q : Str × Int × Nat => q.2.1) e, congrArg (fun q : Str × Int × Nat => q.2.2) e⟩
      exact ⟨exc (List.mem_cons_of_mem _ (List.mem_cons_of_mem _ (List.mem_cons_of_mem _ (List.mem_cons_of_mem _ (List.mem_cons_of_mem _ (List.mem_cons_self ..)))))), c.d.def_ 101 (d := mtAt "PopulationsTooLarge" "__init__" "PopulationsTooLarge.__init__" 14 0) rfl⟩
    | 5, hj =>
      obtain ⟨rfl, rfl, rfl⟩ : ("NoResult" : Str) = x ∧ (-33 : Int) = cc ∧ (15 : Nat) = i := by
        have e := Option.some.inj hj
        exact ⟨congrArg (fun q : Str × Int × Nat => q.1) e, congrArg (fun q : Str × Int × Nat => q.2.1) e, congrArg (fun q : Str × Int × Nat => q.2.2) e⟩
      exact ⟨exc (List.mem_cons_of_mem _ (List.mem_cons_of_mem _ (List.mem_cons_of_mem _ (List.mem_cons_of_mem _ (List.mem_cons_of_mem _ (List.mem_cons_of_mem _ (List.mem_cons_self ..))))))), c.d.def_ 102 (d := mtAt "NoResult" "__init__" "NoResult.__init__" 15 0) rfl⟩
    | j + 6, hj => exact absurd hj (fun z => nomatch z)
  r_ex := exF_ok X G (c.exc (List.mem_cons_self ..))
  r_cl := c.ref
  r_in := c.d.def_ 96 (d := mtAt "Refusal" "__init__" "Refusal.__init__" 9 0) rfl
end CqH
end
section
set_option Elab.async false
set_option linter.all false
set_option maxRecDepth 100000
set_option maxHeartbeats 4000000
namespace CqH
open PySem PySem.W PySem.Spec PyProof.Rows L2
/-- the request as the program's promise has it -/
theorem req {l : List Int} (h : PyLrx5.answers_asked l = true) : ∃ cs : List Lrx5.Call, l = Cq.ci (cs.flatMap Cq.enc) ∧ PyLrx5.answers l = Cq.tl (Cq.plays none cs) ∧ (PyLrx5.answers l).length ≤ 10000000 := by
  unfold PyLrx5.answers_asked at h
  cases e : PyFlat.calls PyLrx5.shape l.length l with
  | none => rw [e] at h; cases h
  | some raw =>
    rw [e] at h
    simp only [Bool.and_eq_true] at h
    obtain ⟨⟨⟨⟨_, _⟩, _⟩, h4⟩, h5⟩ := h
    have wid : raw.map PyLrx5.whole = raw := by
      conv => rhs; rw [← List.map_id raw]
      exact List.map_congr_left fun c _ => Cq.whole_id c
    rw [wid] at h4
    unfold Lrx5Neutral.asked at h4
    simp only [Bool.and_eq_true] at h4
    obtain ⟨cs, h6, h7⟩ := Cq.played_eq raw none h4.2.2
    refine ⟨cs, (Cq.calls_split _ e).trans h6, ?_, of_decide_eq_true h5⟩
    unfold PyLrx5.answers PyLrx5.calls
    rw [e]
    show PyFlat.told (PyFlat.played Lrx5Neutral.step Lrx5Neutral.start (raw.map PyLrx5.whole)) = _
    rw [wid]
    exact congrArg PyFlat.told h7
abbrev dA : DefRec := HeadRun.topDef R.prog 119
theorem walk : WalkOS qv loose (XL qv []) hk.says R dA [] fun f vs => PySem.call f vs := by
  intro w s₀ s₁ mg mb G Y
  obtain ⟨K, KX, c⟩ := Y
  refine L2.walk_spec (r := R) (q := qv) (loose := loose) (XP := XL qv []) (YP := fun _ h => K.In h ∧ wish.Says K) (d := dA) (K := fun _ => K) (CX := fun _ => L2.CX0) (k := 13) (ps := ["calls"]) (sp := fun _ => Cq.sp_answers K) (by decide +kernel) rfl rfl ⟨rfl, by decide, by decide⟩ (fun _ _ y => y.1) ?F ?S (fun _ _ _ _ _ z => z) w s₀ s₁ mg mb G ⟨KX, c⟩
  case F =>
    intro w mg fa h Y KX G hmg0
    have T := facts KX G Y.2
    obtain ⟨fd, hb, hF⟩ := Cq.b_answers (P := R.prog) (w := w) T
    have hmg : mg ("answers" : PySem.Str) = some (.ref fa) := by
      have e : dA.name = ("answers" : PySem.Str) := by kernel_rfl
      rw [← e]
      exact hmg0
    have g := (T.d 87 (x := "answers") (i := 119) rfl).gl
    obtain rfl : fa = He.ga K "answers" := by
      rw [hmg] at g
      injection g with g
      injection g
    exact ⟨fd, hb, fun base hB hN => hF base⟩
  case S =>
    intro w H xs a hO hwi hask hx
    cases hx with
    | cons h1 h2 =>
      cases h2
      cases h1 with
      | lst hs ha =>
        have e := L2.ints_dw a.1 _ ha
        subst e
        obtain ⟨cs, e1, e2, e3⟩ := req (l := a.1) hask
        refine ⟨_, cs, rfl, ?_, by rw [← e2]; exact e3, fun p H' hp => ?_⟩
        · rw [Cq.nv_int]
          have z : (cs.flatMap Cq.enc).map (fun (n : Nat) => (n : Int)) = a.1 := e1.symm
          rw [z]
          exact hs
        · rw [← e2] at hp
          exact .lst (L2.SqL.of hp) (L2.dw_ints _)
end CqH
end
set_option Elab.async false
set_option linter.all false
open PySem PySem.W PySem.Calls PyProof.Rows
set_option maxRecDepth 100000 in
set_option maxHeartbeats 8000000 in
theorem PySem.Challenge.cw_closedqueues_s01_answers_holds : PySem.Challenge.rw_closedqueues_s01_answers.Holds := by
  w_on
  refine HeadRun.head_spec (r := PySem.Challenge.rw_closedqueues_s01_answers) (q := CqH.qv) (H := CqH.hk) (ob := CqH.ob) (M := 6000) (loose := CqH.loose) (d := CqH.dA) (kwd := []) CqH.ob_eq
    (by kernel_rfl) (fun s => by kernel_rfl) CqH.run (by kernel_rfl) (by kernel_rfl) (by kernel_rfl) os_shapes (by first | assumption | decide +kernel) (by decide +kernel) ⟨rfl, rfl, rfl, rfl, rfl, by decide +kernel⟩ ?hw CqH.walk
  case hw => exact ⟨[.list [.int 0, .int 1, .int 1]], by decide +kernel, by decide +kernel⟩
#print axioms PySem.Challenge.cw_closedqueues_s01_answers_holds
