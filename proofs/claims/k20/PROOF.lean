import PyProof.Rows.All
import Wide.All
import OpenK.AllK
import Wide.FinOn
import HandS.ForMost
import HandS.Walk
import HandS.TupAny
import HandS.Strs
import KE.GoesEnum
import HandS.Zip0
import HandS.Style
import KE.KRevSl
import HandS.TupMul
import HandS.Conv
import HandS.Codes
import HandS.IsInst
import HandS.Lambda
import HandS.EndTab
import KE.KMinKey
import HandS.SortKw
import PyProof.TupleOfStr
import KE.KStateDown
import Lean
import HandS.Head0
import HandS.Head1
import HandS.Head2
import HandS.HeadEnd
import HandS.HeadHook1
import HandS.HeadHook2
import HandS.HeadHook3
import HandS.HeadHook4
import HandS.HeadWalk
import HandS.Defaults
import HandS.GenList
import HandS.AnyAll
import PyProof.TupleOfGen
import HandS.ExcValue
import HandS.Rev
import HandS.Zip
import HandS.SortRule
import HandS.Dict
import KE.KDictDisplayH
import HandS.Deep
import HandS.DictEq
import HandS.DictComp
import HandS.More
import HandS.RevRange
import HandS.List
import HandS.SetKeys
import HandS.TupLen
import PySem.Challenge.RW_layersteps_k20_whole_six_layers_by_searc
set_option Elab.async false
set_option linter.all false
set_option maxRecDepth 100000
/-! enumerate over a tuple, as a rule of the hand layer -/
namespace LS
open PySem L2 PySem.Spec PyProof.Rows
set_option maxHeartbeats 1200000 in
theorem meets_enumT (l : Addr) (items : Array Value) :
    Meets (Builtin.«enumerate.__new__» ⟨[.type "enumerate", .ref l], []⟩) (fun _ R s => s.heap.IsTuple l items ∧
      R (.ok (.ret (.ref (s.heap.push { cls := .type "tuple_iterator", data := .fields #[.ref l, .int 0 0] }).objs.size)))
        { s with heap := (s.heap.push { cls := .type "tuple_iterator", data := .fields #[.ref l, .int 0 0] }).push { cls := .type "enumerate", data := .fields #[.none, .bool false, .ref s.heap.objs.size, rawInt 0, .none, .none] } }) :=
  .of_wp fun prog w A R s hh => by
    obtain ⟨hp, gg, dd, tk, os⟩ := s
    obtain ⟨ht, hr⟩ := hh
    have sub1 := sub_enumerate
    have tt : Heap.IsTuple (Shared.heap ⟨hp, gg, dd, tk, os⟩) l items := ht
    wp_walk using wpAny_pyIter_tuple tt
    refine wpAny_stack_any fun fr => wpAny_pure ?_
    split
    · rename_i cc _ _ _ _ _
      cases (cc == Value.type "enumerate") <;> (wp_walk using wpAny_pyIter_tuple tt; exact ⟨_, rfl, hr⟩)
    · wp_walk using wpAny_pyIter_tuple tt
      exact ⟨_, rfl, hr⟩
section
variable {A : Around} {s : Shared} {prog : Program} {w : World} {E : Value → Shared → Prop}
theorem call_enumT {l : Addr} {items : Array Value} {Q : Value → Shared → Prop} (ht : s.heap.IsTuple l items)
    (hq : ∀ g, IsEnum g (s.heap.objs.size + 1) s.heap.objs.size 0 .none → g.IsTupleIter s.heap.objs.size l 0 → g.objs.size = s.heap.objs.size + 2 →
      (∀ b o, s.heap.get? b = some o → g.get? b = some o) → Q (.ref (s.heap.objs.size + 1)) { s with heap := g }) : wpAny (model prog w) A (call (.type "enumerate") [.ref l]) Q E s := by
  refine callType_new F.called_enumerate (by decide) (F.typeCall_enumerate_1 _) (F.newCall_enumerate_1 _)
    (fun ob => F.args_object_init_2 ob _) F.entry_enumerate_new (meets_enumT l items) ⟨ht, ?_⟩
  have z1 : (s.heap.push { cls := .type "tuple_iterator", data := .fields #[.ref l, .int 0 0] }).objs.size = s.heap.objs.size + 1 := Heap.size_push ..
  show _ ∧ _
  rw [z1]
  have en : IsEnum ((s.heap.push { cls := .type "tuple_iterator", data := .fields #[.ref l, .int 0 0] }).push { cls := .type "enumerate", data := .fields #[.none, .bool false, .ref s.heap.objs.size, rawInt 0, .none, .none] }) (s.heap.objs.size + 1) s.heap.objs.size 0 .none := by
    have q0 := Heap.get?_push_size (s.heap.push { cls := .type "tuple_iterator", data := .fields #[.ref l, .int 0 0] }) (o := { cls := .type "enumerate", data := .fields #[.none, .bool false, .ref s.heap.objs.size, rawInt 0, .none, .none] }) rfl
    rw [z1] at q0
    exact q0
  exact ⟨⟨_, en, rfl⟩, hq _ en ⟨_, Heap.get?_push_of_some _ (Heap.get?_push_size _ rfl), rfl, rfl⟩ (by rw [Heap.size_push, z1])
    fun b o x => Heap.get?_push_of_some _ (Heap.get?_push_of_some _ x)⟩
theorem next_enumT_end {e it l : Addr} {i : Nat} {c : Int} {items : Array Value} {old : Value} {Q : Option Value → Shared → Prop} (hh : A.in1.handled = none) (g1 : IsEnum s.heap e it c old)
    (g2 : s.heap.IsTupleIter it l i) (ht : s.heap.IsTuple l items) (hx : items[i]? = none) (hq : ∀ g, Heap.ExtBut it s.heap g → Q none { s with heap := g }) : wpAny (model prog w) A (pyNext (.ref e)) Q E s := by
  have ty : s.TypeIs (.ref e) "enumerate" := ⟨_, g1, rfl⟩
  unfold pyNext
  refine wpAny_bind (wpAny_attempt (wpAny_callSpecial?_slot (name := Str.ofString "__next__") ty F.slot_enumerate_next (wpAny_call_entry F.slot_enumerate_next ty F.entry_enumerate_next ?_ (F.args_enumerate_next_1 _))))
  show wpAny (model prog w) _ (field (.ref e) 2 >>= _) _ _ s
  refine wpAny_bind (wpAny_field g1 rfl (x := .ref it) rfl (wpAny_bind (RZ.nextOf_tuple_end hh g2 ht hx fun g x k q => ?_)))
  obtain ⟨o, q1, q2⟩ := q
  exact wpAny_bind (wpAny_isInstance (T := "StopIteration") (b := true) ⟨o, q1, q2⟩ isSubtype_stop (wpAny_pure (hq _ k)))
end
/-- enumerate(tuple): the tuple at a, each item in a new pair -/
def ItE (K : PySem.W.Frag) (a : Addr) : It :=
  ⟨fun i H => ∃ (xs : List V) (x : V), SqT K H a xs ∧ xs[i]? = some x,
   fun i H v H' => ∃ T x, v = .ref T ∧ H T = none ∧ H' = upd H T (.tup [.int (i : Nat), x]) ∧ ∀ xs, SqT K H a xs → xs[i]? = some x,
   fun i H => ∃ xs : List V, SqT K H a xs ∧ xs.length ≤ i⟩
theorem turn_enumT {P : Program} {w : World} {K : PySem.W.Frag} {elts : List Expr} {kk : Nat} {tpos : Pos} (a e it : Addr) (nai : a ≠ it) (nea : e ≠ a) :
    Turn P w K (.Tuple elts kk tpos) (ItE K a) [e, it] e (fun i h => (∃ old, IsEnum h e it ((i : Nat) : Int) old) ∧ h.IsTupleIter it a i ∧ e ≠ it) where
  mem := List.mem_cons_self
  obj := fun i h st b hb => by
    obtain ⟨⟨old, g1⟩, ⟨o, g2, gc, gd⟩, _⟩ := st
    rcases (show b = e ∨ b = it by simpa using hb) with z | z
    · subst z
      exact ⟨_, g1, fun v q => nomatch q⟩
    · subst z
      exact ⟨o, g2, fun v q => by rw [gd] at q; cases q⟩
  keep := fun i h h' st k => by
    obtain ⟨⟨old, g1⟩, g2, g3⟩ := st
    exact ⟨⟨old, k e (by simp) _ g1⟩, g2.at fun o q => k it (by simp) o q, g3⟩
  item := by
    intro X x1 x2 x3 hc i pins s σ H E I hf st hg
    subst x1 x2 x3
    obtain ⟨⟨old, g1⟩, g2, g3⟩ := st
    obtain ⟨xs, x, hq, hx⟩ := hg
    obtain ⟨its, rv, p, zl⟩ := I.tuple hq
    obtain ⟨u, hu, vu⟩ := rv.get hx
    have le : e < s.heap.objs.size := Heap.lt_size g1
    have li : it < s.heap.objs.size := by
      obtain ⟨_, q, _⟩ := g2
      exact Heap.lt_size q
    have hi : i < its.toArray.size := by
      rw [List.size_toArray]
      exact (List.getElem?_eq_some_iff.mp hu).1
    have hA : X.A.in1.handled = none := I.ok.hd hc
    have ms : e ∉ [it, a] := by
      intro m
      rcases (show e = it ∨ e = a by simpa using m) with z | z
      · exact g3 z
      · exact nea z
    refine wpAny_pyNext_enum_itemC (c := ((i : Nat) : Int)) (Draws.tuple hA it a nai its.toArray) g1 ⟨g2, p⟩ hi g3 ms fun u' h' tk hu' ho st' hT hsz hk => ?_
    have eu : u' = u := by
      have e1 : its[i]? = some u' := by simpa using hu'
      exact Option.some.inj (e1.symm.trans hu)
    subst eu
    refine ⟨_, rfl, wpAny_letOwnedTupleGo_enum (s := { s with heap := h', toks := tk + 1 }) ho fun h2 he2 sb => ?_⟩
    have hT2 : h2.get? s.heap.objs.size = some { cls := .type "tuple", data := .seq #[.int ((i : Nat) : Int) tk, u'] } := (sb.2 _ (Nat.ne_of_gt le)).trans hT
    have ok : ObjOk X.prog X.w (upd H s.heap.objs.size (.tup [.int (i : Nat), x])) h2 s.heap.objs.size (.tup [.int (i : Nat), x]) :=
      ⟨by show 2 ≤ sizeLine; decide, [.int ((i : Nat) : Int) tk, u'], .cons ⟨_, rfl⟩ (.cons vu .nil), ⟨_, hT2, rfl, _, rfl⟩⟩
    have J : Inv X pins σ (upd H s.heap.objs.size (.tup [.int (i : Nat), x])) { s with heap := h2, toks := tk + 1 } :=
      I.turnedNew (ch := [e, it]) (fun b ob hb q => (sb.2 b (fun z => hb (by simp [z]))).trans (hk b ob (fun z => hb (by simp [z])) (fun z => hb (by simp [z])) q)) hf (Nat.le_refl _) ok
    refine ⟨.ref s.heap.objs.size, _, J, rfl, ⟨_, x, rfl, I.hok.fresh (Nat.le_refl _), rfl, fun ys hy => by rw [I.tuple_inj hy hq]; exact hx⟩, ⟨⟨u', ?_⟩, st'.1.at fun o q => (sb.2 it (Ne.symm g3)).trans q, g3⟩, fun b hb => ?_⟩
    · rw [show ((i + 1 : Nat) : Int) = (i : Int) + 1 by omega]
      exact he2
    · have lb : b < s.heap.objs.size := by
        rcases (show b = e ∨ b = it by simpa using hb) with z | z
        · rw [z]
          exact le
        · rw [z]
          exact li
      rw [upd_ne (Nat.ne_of_lt lb)]
      exact (hf b hb).1
  done := by
    intro X x1 x2 x3 hc i pins s σ H E I hf st hg
    subst x1 x2 x3
    obtain ⟨⟨old, g1⟩, g2, g3⟩ := st
    obtain ⟨xs, hq, hx⟩ := hg
    obtain ⟨its, rv, p, zl⟩ := I.tuple hq
    obtain ⟨k0, k1, k2, k3, k4, k5⟩ := hf it (by simp)
    have hl := rv.length
    exact next_enumT_end (I.ok.hd hc) g1 g2 p (by simp; omega) fun g eb => ⟨rfl, I.turned (t' := s.toks) (fun b o hb q => eb b o hb q) k0 k1 k3 k4 k5⟩
  self := fun A' i s' Q' E' st h => by
    obtain ⟨⟨_, g1⟩, _⟩ := st
    exact wpAny_pyIter_enum g1 h
def iEnumT (K : PySem.W.Frag) (ta : TA) : TI := fun σ H R => ta σ H fun vs H1 => ∃ a xs, vs = [.ref a] ∧ SqT K H1 a xs ∧ R (ItE K a) H1
theorem pi_enumT {X : Cx} {e : Expr} {ta : TA} {p pos tpos : Pos} {elts : List Expr} {kk : Nat} (hg : Gl X "enumerate") (hm : X.mg "enumerate" = none) (ha : PA X [e] ta) (hs : starEach [e] X.env = [(false, eval e X.env)] := by rfl) :
    PI X (.Tuple elts kk tpos) (.Call (.Name "enumerate" p) [e] [] pos) (iEnumT X.K ta) := by
  refine ⟨fun pins s σ H R I h => Call_ (ld_blt I hg hm boot_enumerate (callWith_type1 (thn (ha.run pos pins s σ H _ I h) fun us s1 ⟨vs, H1, I1, r1, a, xs, ex, hq, q⟩ => ?_) hs rfl))⟩
  subst ex
  cases r1 with
  | cons r rr =>
    cases rr
    cases r
    obtain ⟨its, rv, p', hz⟩ := I1.tuple hq
    have la : a < s1.heap.objs.size := by
      obtain ⟨o, ho, _⟩ := p'
      exact Heap.lt_size ho
    refine call_enumT p' fun g en it sz k => wpAny_pyIter_enum en ?_
    have I2 : Inv X pins σ H1 { s1 with heap := g } := I1.kept (t' := s1.toks) k
    refine ⟨s1.heap.objs.size + 1, [s1.heap.objs.size + 1, s1.heap.objs.size], _, _, H1, rfl, I2, turn_enumT a (s1.heap.objs.size + 1) s1.heap.objs.size (Nat.ne_of_lt la) (Nat.ne_of_gt (Nat.lt_succ_of_lt la)), ⟨⟨.none, en⟩, it, Nat.succ_ne_self _⟩, fun b hb => ?_, q⟩
    have lb : s1.heap.objs.size ≤ b := by
      rcases (show b = s1.heap.objs.size + 1 ∨ b = s1.heap.objs.size by simpa using hb) with z | z <;> rw [z]
      · exact Nat.le_succ _
      · exact Nat.le_refl _
    exact I1.fpOk lb (I1.hok.fresh lb)
theorem walk_enumT {K : PySem.W.Frag} {a : Addr} {xs : List V} : Walk (ItE K a) xs.length (fun H => SqT K H a xs) (YPair (fun i => some (.int (i : Nat))) (fun i => xs[i]?)) :=
  ⟨fun i _ hi q => ⟨xs, xs[i], q, by simp [hi]⟩, fun _ q => ⟨xs, q, Nat.le_refl _⟩, fun i H v H' _ q y => by
    obtain ⟨T, x, e1, e2, e3, e4⟩ := y
    exact ⟨T, _, x, e1, e2, e3, rfl, e4 xs q⟩⟩
end LS
/-! t[::-1] of a tuple, as a rule of the hand layer -/
namespace LS
open PySem PySem.Spec PyProof.Rows L2 HT
section
variable {A : Around} {s : Shared} {prog : Program} {w : World} {E : Value → Shared → Prop}
theorem adj_rev (n : Nat) : Builtin.Slice.sliceAdjust none none (-1) (n : Int) = ((n : Int) - 1, -1) := by
  rfl
theorem places_rev (n : Nat) : Builtin.Slice.slicePlaces ((n : Int) - 1) (-1) (-1) = n := by
  delta Builtin.Slice.slicePlaces
  simp only [show ¬ ((-1 : Int) > 0) by decide, if_false, show (- -1 : Int) = 1 by decide, Int.ediv_one]
  split <;> omega
theorem applied_rev {sl : Addr} {vs : Value} {n : Nat} {Q : Int × Int × Nat → Shared → Prop} (hs : s.heap.IsSliceOf sl .none .none vs) (ps : IsPart vs (some (-1)))
    (h : Q ((n : Int) - 1, -1, n) s) : wpAny (model prog w) A (Builtin.Slice.sliceApplied (.ref sl) (pure (n : Int))) Q E s := by
  obtain ⟨ob, h1, h2, h3⟩ := id hs
  unfold Builtin.Slice.sliceApplied; unfold Builtin.Slice.sliceFields
  refine wpAny_bind (wpAny_bind (wpAny_field h1 h3 (x := .none) rfl (wpAny_bind (wpAny_field h1 h3 (x := .none) rfl (wpAny_bind (wpAny_field h1 h3 (x := vs) rfl (wpAny_pure ?_)))))))
  refine wpAny_bind (slicePart_ ps ?_)
  show wpAny _ _ (if ((-1 : Int) == 0) = true then _ else _) _ _ s
  rw [if_neg (by decide)]
  refine wpAny_bind (slicePart_none (wpAny_bind (slicePart_none (wpAny_bind (wpAny_pure ?_)))))
  show wpAny _ _ (match Builtin.Slice.sliceAdjust none none (-1) (n : Int) with | (a, b) => pure (a, (-1 : Int), Builtin.Slice.slicePlaces a b (-1))) _ _ s
  rw [adj_rev n]
  show wpAny _ _ (pure ((n : Int) - 1, (-1 : Int), Builtin.Slice.slicePlaces ((n : Int) - 1) (-1) (-1))) _ _ s
  rw [places_rev]
  exact wpAny_pure h
theorem fm_congr {α β : Type} {f g : α → Option β} : ∀ {l : List α}, (∀ x, x ∈ l → f x = g x) → l.filterMap f = l.filterMap g
  | [], _ => rfl
  | a :: l, h => by
    have ih := fm_congr (l := l) fun x hx => h x (List.mem_cons_of_mem _ hx)
    rw [List.filterMap_cons, List.filterMap_cons, h a List.mem_cons_self, ih]
theorem pick_rev (xs : Array Value) : ((List.range xs.size).filterMap fun (m : Nat) => xs[((xs.size : Int) - 1 + (m : Int) * (-1)).toNat]?).toArray = xs.toList.reverse.toArray := by
  have e : (List.range xs.size).filterMap (fun (m : Nat) => xs[((xs.size : Int) - 1 + (m : Int) * (-1)).toNat]?) = ((List.range xs.size).map fun k => xs.size - 1 - k).filterMap (xs[·]?) := by
    rw [List.filterMap_map]
    refine fm_congr fun m hm => ?_
    have := List.mem_range.mp hm
    show xs[((xs.size : Int) - 1 + (m : Int) * (-1)).toNat]? = xs[xs.size - 1 - m]?
    rw [show ((xs.size : Int) - 1 + (m : Int) * (-1)).toNat = xs.size - 1 - m by omega]
  rw [e, PySem.W.krv_range, List.filterMap_reverse, PySem.W.krv_all]
theorem getItem_tuple_rev {t sl : Addr} {items : Array Value} {vs : Value} {Q : Value → Shared → Prop} (ht : IsTup s.heap t items) (hs : s.heap.IsSliceOf sl .none .none vs) (ps : IsPart vs (some (-1)))
    (h : Q (.ref s.heap.objs.size) { s with heap := s.heap.push { cls := .type "tuple", data := .seq items.toList.reverse.toArray } }) (hsz : items.size ≤ sizeLine) : wpAny (model prog w) A (getItem (.ref t) (.ref sl)) Q E s := by
  have fits : sizeOk (.seq items.toList.reverse.toArray) := by
    show items.toList.reverse.toArray.size ≤ sizeLine
    rw [List.size_toArray, List.length_reverse, Array.length_toList]
    exact hsz
  obtain ⟨ob, h1, h2, h3⟩ := id hs
  have ty : s.TypeIs (.ref sl) "slice" := ⟨ob, h1, h2⟩
  unfold getItem
  (try with_reducible refine wpAny_holding ?_); (first | refine wpAny_bind (wpAny_pure ?_) | skip); refine wpAny_bind (wpAny_sequenceKey ht.typeIs (by decide) ?_)
  refine wpAny_bind (wpAny_callSpecial?_slot (name := Str.ofString "__getitem__") ht.typeIs PyProof.Rows.slot_tuple_getitem (wpAny_call_entry PyProof.Rows.slot_tuple_getitem ht.typeIs entry_tuple_getitem ?_ (args_tuple_getitem _ _)))
  show wpAny (model prog w) _ (Builtin.Tuple.tupleItemsOf (.ref t) >>= _) _ _ s
  refine wpAny_bind (tupleItemsOf_ ht (wpAny_bind (wpAny_typeOf ty ?_)))
  rw [if_pos (by decide)]
  refine wpAny_bind (applied_rev hs ps ?_)
  have no : ¬ (((items.size : Int) - 1 == 0 && (-1 : Int) == 1 && items.size == items.size) = true) := by
    intro q
    simp only [Bool.and_eq_true] at q
    exact absurd (eq_of_beq q.1.2) (by decide)
  show wpAny _ _ (if ((items.size : Int) - 1 == 0 && (-1 : Int) == 1 && items.size == items.size) = true then _ else _) _ _ s
  rw [if_neg no, pick_rev]
  first
    | exact wpAny_bind (m := Builtin.Tuple.tupleExact _) (wpAny_newObj_type (wpAny_pure ⟨_, rfl, wpAny_pure h⟩) fits)
    | exact wpAny_bind (m := Builtin.Tuple.tupleExact _) (wpAny_newObj_type (wpAny_bind (wpAny_pure (wpAny_pure ⟨_, rfl, wpAny_pure h⟩))) fits)
    | exact wpAny_bind (wpAny_bind (m := Builtin.Tuple.tupleExact _) (wpAny_newObj_type (wpAny_pure (wpAny_pure ⟨_, rfl, wpAny_pure h⟩)) fits))
    | exact wpAny_bind (wpAny_bind (m := Builtin.Tuple.tupleExact _) (wpAny_newObj_type (wpAny_pure ⟨_, rfl, wpAny_pure h⟩) fits))
end
section
variable {X : Cx}
def tRevT (K : PySem.W.Frag) (te : TE) : TE := fun σ H Q => te σ H fun x H1 => ∃ a xs, x = .ref a ∧ SqT K H1 a xs ∧ ∀ p, H1 p = none → Q (.ref p) (upd H1 p (.tup xs.reverse))
theorem pe_revT {e : Expr} {te : TE} {k : Nat} {p1 p2 p3 pos : Pos} (he : PE X e te) : PE X (.Subscript e (.Slice none none (some (.UnaryOp .USub (.Constant (.int 1) k p1) p2)) p3) pos) (tRevT X.K te) := by
  refine ⟨fun pins s σ H Q I h => Subscript_ (thn (he.run pins s σ H _ I h) fun v s1 ⟨x, H1, I1, r1, a, xs, ex, hx, q⟩ => ?_)⟩
  subst ex
  cases r1
  have st : PO X (some (.UnaryOp .USub (.Constant (.int 1) k p1) p2)) (tPart (tUn (rU fun i => .int (-i)) (tC (.int 1)))) := po_some (pe_un un_neg pe_int)
  refine wpAny_Slice (thn (po_none.run pins s1 σ H1 (fun o H2 => o = none ∧ H2 = H1) I1 ⟨rfl, rfl⟩) fun vl s2 ⟨l, H2, I2, pl, el, eq2⟩ => ?_)
  subst el eq2
  cases pl
  refine thn (po_none.run pins s2 σ H2 (fun o H3 => o = none ∧ H3 = H2) I2 ⟨rfl, rfl⟩) fun vu s3 ⟨u, H3, I3, pu, eu, eq3⟩ => ?_
  subst eu eq3
  cases pu
  refine thn (st.run pins s3 σ H3 (fun o H4 => o = some (-1) ∧ H4 = H3) I3 ⟨1, rfl, -1, rfl, rfl, rfl⟩) fun vs s4 ⟨o, H4, I4, ps, eo, e4⟩ => ?_
  subst eo e4
  have I5 : Inv X pins σ H4 { s4 with heap := s4.heap.push { cls := .type "slice", data := .fields #[.none, .none, vs] } } := I4.kept (t' := s4.toks) fun b ob z => Heap.get?_push_of_some _ z
  obtain ⟨its, r, ht, hz⟩ := I5.tuple hx
  have hlen := r.length
  show wpAny (model X.prog X.w) X.A (subscriptTail e (.Slice none none (some (.UnaryOp .USub (.Constant (.int 1) k p1) p2)) p3) (.ref a) (.ref s4.heap.objs.size)) (EP X pins σ Q) X.xe { s4 with heap := s4.heap.push { cls := .type "slice", data := .fields #[.none, .none, vs] } }
  refine tail_any (ops := [.ref a, .ref s4.heap.objs.size]) ht.typeIs (PyProof.Rows.slot_tuple_getitem.lookup) ?_ (by with_unfolding_all rfl)
  refine getItem_tuple_rev ht (Heap.IsSliceOf.new _ .none .none vs) ps ?_ (by rw [List.size_toArray]; omega)
  refine ⟨.ref _, _, I5.laid (t' := s4.toks) (o := .tup xs.reverse) (fun b ob z => Heap.get?_push_of_some _ z) (Nat.le_refl _) ?_, rfl, q _ (I5.hok.fresh (Nat.le_refl _))⟩
  exact ⟨by rw [List.length_reverse]; exact hz, _, r.reverse, IsTup.new _ _⟩
end
end LS
/-! the rules of new objects, told by «all that was tracked is as it was» -/
namespace LS
open PySem L2 PySem.Spec PyProof.Rows
theorem same_new {H : Hp} {p : Addr} {o : HO} (h : H p = none) : Same H (upd H p o) := fun b x e => by
  rw [upd_ne (ne_of_none e h)]
  exact e
theorem sameT {K : PySem.W.Frag} {H H' : Hp} {a : Addr} {xs : List V} (e : Same H H') (h : SqT K H a xs) : SqT K H' a xs := by
  rcases h with (g | ⟨ob, g⟩) | g
  · exact .inl (.inl (e _ _ g))
  · exact .inl (.inr ⟨ob, e _ _ g⟩)
  · exact .inr g
/-- at a a tuple of xs that has no dict of its own (so that its methods are read) -/
def Tn (H : Hp) (a : Addr) (xs : List V) : Prop := ∃ ob : Obj, H a = some (.frz ob (.tup xs)) ∧ ob.dict = none
theorem Tn.sq {K : PySem.W.Frag} {H : Hp} {a : Addr} {xs : List V} (h : Tn H a xs) : SqT K H a xs := by
  obtain ⟨ob, h, _⟩ := h
  exact .inl (.inr ⟨ob, h⟩)
theorem Tn.same {H H' : Hp} {a : Addr} {xs : List V} (h : Tn H a xs) (e : Same H H') : Tn H' a xs := by
  obtain ⟨ob, h, d⟩ := h
  exact ⟨ob, e _ _ h, d⟩
theorem Tn.ne {H : Hp} {a b : Addr} {xs : List V} (h : Tn H a xs) (n : H b = none) : a ≠ b := by
  obtain ⟨ob, h, d⟩ := h
  exact ne_of_none h n
abbrev tupOb (its : List Value) : Obj := { cls := .type "tuple", data := .seq its.toArray }
theorem Tn.new {H : Hp} {a : Addr} {xs : List V} {its : List Value} : Tn (upd H a (.frz (tupOb its) (.tup xs))) a xs := ⟨tupOb its, upd_same, rfl⟩
theorem ok_tup {P : Program} {w : World} {H : Hp} {h : Heap} {a : Addr} {xs : List V} {its : List Value} (e : h.get? a = some (tupOb its)) (z : xs.length ≤ sizeLine) (r : Vals xs its) : ObjOk P w H h a (.frz (tupOb its) (.tup xs)) :=
  ⟨e, z, its, r, ⟨_, e, rfl, _, rfl⟩⟩
section
variable {X : Cx} {es : List Expr} {e : Expr} {t : TA} {te : TE} {pos : Pos}
/-- whatever is told of a value may be told less of -/
def tMono (t : TE) : TE := fun σ H Q => ∃ R : V → Hp → Prop, t σ H R ∧ ∀ v H', R v H' → Q v H'
theorem pe_mono (h : PE X e te) : PE X e (tMono te) := ⟨fun pins s σ H Q I hq => by
  obtain ⟨R, h1, h2⟩ := hq
  exact thn (h.run pins s σ H R I h1) fun u s1 ⟨x, H1, I1, r, q⟩ => ⟨x, H1, I1, r, h2 x H1 q⟩⟩
def tTupS (t : TA) : TE := fun σ H Q => t σ H fun xs H1 => xs.length ≤ sizeLine ∧ ∀ p H2, Same H1 H2 → H1 p = none → Tn H2 p xs → Q (.ref p) H2
def tLstS (t : TA) : TE := fun σ H Q => t σ H fun xs H1 => xs.length ≤ sizeLine ∧ ∀ p H2, Same H1 H2 → H1 p = none → H2 p = some (.lst xs) → Q (.ref p) H2
theorem pe_tupS {x1} (h : PA X es t) : PE X (.Tuple es x1 pos) (tTupS t) := by
  refine ⟨fun pins s σ H Q I hq => wpAny_Tuple_spliced (thn (h.run pos pins s σ H _ I hq) fun us s1 ⟨xs, H1, I1, r, z, q⟩ => ⟨by rw [← r.length]; exact z, ?_⟩)⟩
  have nf : H1 s1.heap.objs.size = none := I1.hok.fresh (Nat.le_refl _)
  exact ⟨.ref s1.heap.objs.size, upd H1 s1.heap.objs.size (.frz (tupOb us) (.tup xs)), I1.laid (t' := s1.toks) (fun b u e => Heap.get?_push_of_some _ e) (Nat.le_refl _) (ok_tup (Heap.get?_push_size _ rfl) z r), rfl, q _ _ (same_new nf) nf Tn.new⟩
theorem pe_lstS (h : PA X es t) : PE X (.List es pos) (tLstS t) := by
  refine ⟨fun pins s σ H Q I hq => wpAny_List_spliced (thn (h.run pos pins s σ H _ I hq) fun us s1 ⟨xs, H1, I1, r, z, q⟩ => ⟨by rw [← r.length]; exact z, ?_⟩)⟩
  have nf : H1 s1.heap.objs.size = none := I1.hok.fresh (Nat.le_refl _)
  exact ⟨.ref s1.heap.objs.size, upd H1 s1.heap.objs.size (.lst xs), I1.laid (t' := s1.toks) (fun b u e => Heap.get?_push_of_some _ e) (Nat.le_refl _) ⟨z, us, 0, r, Heap.get?_push_size _ rfl⟩, rfl, q _ _ (same_new nf) nf upd_same⟩
end
section
variable {X : Cx}
/-- t + u of tuples -/
def rCatS : R2 := fun x y H Q => ∃ a b xs ys, x = .ref a ∧ y = .ref b ∧ Tn H a xs ∧ Tn H b ys ∧ xs.length + ys.length ≤ sizeLine ∧ ∀ p H', Same H H' → Tn H' p (xs ++ ys) → Q (.ref p) H'
theorem op_catS : OpR X (binaryOp .Add) rCatS := by
  intro pi s σ H x y v u Q I rx ry h
  obtain ⟨a, b, xs, ys, rfl, rfl, ha, hb, hz, q⟩ := h
  cases rx
  cases ry
  obtain ⟨its, r1, p1, _⟩ := I.tuple ha.sq
  obtain ⟨its2, r2, p2, _⟩ := I.tuple hb.sq
  by_cases e : xs = []
  · subst e
    cases r1
    exact cat_tup0 p1 p2 ⟨.ref b, H, I, rfl, q b H (Same.refl H) hb⟩
  · refine HT.cat_tup p1 p2 (fun z => e (r1.nil_iff.mp z)) (fun z => ⟨.ref a, H, I, rfl, q a H (Same.refl H) ?_⟩) (fun z => ?_) (by rw [← r1.length, ← r2.length]; exact hz)
    · rw [r2.nil_iff.mp z, List.append_nil]
      exact ha
    · have nf : H s.heap.objs.size = none := I.hok.fresh (Nat.le_refl _)
      exact ⟨.ref s.heap.objs.size, _, I.laid (t' := s.toks) (o := .frz (tupOb (its ++ its2)) (.tup (xs ++ ys))) (fun b ob q => Heap.get?_push_of_some _ q) (Nat.le_refl _) (ok_tup (Heap.get?_push_size _ rfl) (by rw [List.length_append]; exact hz) (r1.append r2)), rfl, q _ _ (same_new nf) Tn.new⟩
/-- a + b of lists -/
def rCatLS : R2 := fun x y H Q => ∃ l b xs zs, x = .ref l ∧ y = .ref b ∧ H l = some (.lst xs) ∧ H b = some (.lst zs) ∧ xs.length + zs.length ≤ sizeLine ∧ ∀ p H', Same H H' → H p = none → H' p = some (.lst (xs ++ zs)) → Q (.ref p) H'
theorem op_catLS : OpR X (binaryOp .Add) rCatLS := by
  intro pi s σ H x y v u Q I rx ry h
  obtain ⟨a, b, xs, ys, rfl, rfl, ha, hb, hz, q⟩ := h
  exact op_cat pi s σ H _ _ v u Q I rx ry ⟨a, b, xs, ys, rfl, rfl, ha, hb, hz, fun p np => q p _ (same_new np) np upd_same⟩
/-- a list times an int -/
def rRepS : R2 := fun x y H Q => ∃ l k xs, x = .ref l ∧ y = .int k ∧ H l = some (.lst xs) ∧ -(2 ^ 63) ≤ k ∧ k < 2 ^ 63 ∧ xs.length * k.toNat ≤ sizeLine ∧ ∀ p H', Same H H' → H p = none → H' p = some (.lst (List.replicate k.toNat xs).flatten) → Q (.ref p) H'
theorem op_repS : OpR X (binaryOp .Mult) rRepS := by
  intro pi s σ H x y v u Q I rx ry h
  obtain ⟨a, k, xs, rfl, rfl, ha, h1, h2, hz, q⟩ := h
  exact op_rep pi s σ H _ _ v u Q I rx ry ⟨a, k, xs, rfl, rfl, ha, h1, h2, hz, fun p np => q p _ (same_new np) np upd_same⟩
/-- t[lo:hi] of a tuple -/
def rSlTS : V → Option Int → Option Int → Hp → VK → Prop := fun x lo hi H Q => ∃ a xs, x = .ref a ∧ Tn H a xs ∧ ∀ p H', Same H H' → Tn H' p (cutV xs lo hi) → Q (.ref p) H'
theorem sl_tupS : SlR X rSlTS := by
  intro pi s σ H x v vl vu lo hi sl Q I rx hs pl pu ⟨a, xs, ea, hx, q⟩
  subst ea
  cases rx
  obtain ⟨its, r, ht, hz⟩ := I.tuple hx.sq
  have hlen : its.toArray.size = xs.length := by
    rw [List.size_toArray]
    exact r.length.symm
  refine ⟨"tuple", _, slot_tuple_getitem.lookup, ht.typeIs, ?_⟩
  by_cases hw : (HT.sIx xs.length 0 lo = 0 ∧ HT.sIx xs.length xs.length hi = xs.length)
  · refine getItem_tuple_whole ht hs pl pu (by rw [hlen]; exact hw) ⟨.ref a, H, I, rfl, q a H (Same.refl H) ?_⟩
    have e2 : cutV xs lo hi = xs := by
      unfold cutV
      rw [hw.1, hw.2]
      simp
    rw [e2]
    exact hx
  · refine HT.getItem_tuple_cut ht hs pl pu (by rw [hlen]; exact hw) ?_ (by rw [hlen]; exact hz)
    rw [hlen]
    have nf : H s.heap.objs.size = none := I.hok.fresh (Nat.le_refl _)
    exact ⟨.ref s.heap.objs.size, _, I.laid (t' := s.toks) (o := .frz (tupOb _) (.tup (cutV xs lo hi))) (fun b ob q => Heap.get?_push_of_some _ q) (Nat.le_refl _) (ok_tup (Heap.get?_push_size _ rfl) (Nat.le_trans (cutV_length xs lo hi) hz) ((r.drop (HT.sIx xs.length 0 lo)).take (HT.sIx xs.length xs.length hi - HT.sIx xs.length 0 lo))), rfl, q _ _ (same_new nf) Tn.new⟩
/-- xs[lo:hi] of a list -/
def rSlLS (K : PySem.W.Frag) : V → Option Int → Option Int → Hp → VK → Prop := fun x lo hi H Q => ∃ a xs, x = .ref a ∧ SqL K H a xs ∧ ∀ p H', Same H H' → H p = none → H' p = some (.lst (cutV xs lo hi)) → Q (.ref p) H'
theorem sl_listS : SlR X (rSlLS X.K) := by
  intro pi s σ H x v vl vu lo hi sl Q I rx hs pl pu ⟨a, xs, ea, hx, q⟩
  subst ea
  exact sl_list pi s σ H _ v vl vu lo hi sl Q I rx hs pl pu ⟨a, xs, rfl, hx, fun p np => q p _ (same_new np) np upd_same⟩
/-- tuple(x) of a list or a tuple -/
def rTupOf (K : PySem.W.Frag) : List V → Hp → VK → Prop := fun vs H Q => ∃ p ys, vs = [.ref p] ∧ (SqL K H p ys ∨ Tn H p ys) ∧ ∀ l H', Same H H' → Tn H' l ys → Q (.ref l) H'
theorem call_tupleS : CallR X (.type "tuple") (rTupOf X.K) := by
  intro pi s σ H xs us Q I r ⟨p, ys, e0, hq, q⟩
  subst e0
  obtain ⟨u, e1, rx⟩ := vals1 r
  subst e1
  cases rx
  rcases hq with hq | hq
  · obtain ⟨its, r', pl, zl⟩ := I.list hq
    refine call_tuple_list pl.isList (fun h' kp => ?_) (by have := r'.length; simp only [List.size_toArray] <;> omega)
    have I1 : Inv X pi σ H { s with heap := h' } := I.kept (t' := s.toks) kp
    have nf : H h'.objs.size = none := I1.hok.fresh (Nat.le_refl _)
    exact ⟨.ref h'.objs.size, _, I1.laid (t' := s.toks) (o := .frz (tupOb its) (.tup ys)) (fun b o e => Heap.get?_push_of_some _ e) (Nat.le_refl _) (ok_tup (Heap.get?_push_size _ rfl) zl r'), rfl, q _ _ (same_new nf) Tn.new⟩
  · obtain ⟨its, r', pl, hz⟩ := I.tuple hq.sq
    exact call_tuple_same pl ⟨.ref p, H, I, rfl, q p H (Same.refl H) hq⟩
/-- t.index(x): the first place of a text -/
def rTIx (K : PySem.W.Frag) : V → List V → Hp → VK → Prop := fun x vs H Q => ∃ p, ∃ ys : List Str, ∃ z j, x = .ref p ∧ vs = [.str z] ∧ SqT K H p (ys.map V.str) ∧ ys[j]? = some z ∧ (∀ m, m < j → ys[m]? ≠ some z) ∧ Q (.int (j : Nat)) H
def tTIx (K : PySem.W.Frag) (to : TE) (t : TA) : TE := fun σ H Q => to σ H fun x H1 => (∃ a xs, x = V.ref a ∧ Tn H1 a xs) ∧ t σ H1 fun vs H2 => rTIx K x vs H2 Q
theorem pe_tindex {o e : Expr} {es : List Expr} {to : TE} {t : TA} {apos cpos : Pos} (ho : PE X o to) (ha : PA X (e :: es) t)
    (hbase : attributeBase o "index" X.env (eval o X.env) = eval o X.env := by rfl)
    (hfew : ((backTo cpos (starEach (e :: es) X.env)).all (fun x => !x.1) && (backToKw cpos (keywordEach [] X.env)).all (fun x => x.1.isSome) && decide ((e :: es).length + ([] : List Keyword).length + (if ([] : List Keyword).isEmpty then 0 else 1) < 30)) = true := by rfl)
    (hline : (apos.endLine == cpos.line) = true := by rfl) (hs : starEach (e :: es) X.env = (false, eval e X.env) :: starEach es X.env := by rfl) (hplain : (backTo cpos (starEach es X.env)).any (·.1) = false := by rfl) : PE X (.Call (.Attribute o "index" apos) (e :: es) [] cpos) (tTIx X.K to t) := by
  refine ⟨fun pi s σ H Q I h => wpAny_Call_method_late hbase hfew hline rfl (thn (ho.run pi s σ H _ I h) fun v s1 ⟨x, H1, I1, r1, ty, q1⟩ => ?_)⟩
  obtain ⟨a, xs, rfl, ob, hka, hd⟩ := ty
  cases r1
  obtain ⟨g1, _, its, _, p1⟩ := I1.hok a _ hka
  have ty1 : s1.TypeIs (.ref a) "tuple" := p1.typeIs
  refine ⟨"tuple", "tuple.index", F.plainAttrs_tuple, F.slot_tuple_index, F.type_tuple_index, ty1, (fun b z => by cases z; exact ⟨ob, g1, hd⟩), ?_⟩
  have hA := ha.run cpos pi s1 σ H1 _ I1 q1
  rw [hs] at hA ⊢
  refine Calls.callWith_builtin (by show (false || (backTo cpos (starEach es X.env)).any (·.1)) = false; rw [hplain]; rfl) (Calls.evalArgs_plain ?_)
  exact thn hA fun us s2 ⟨vs, H2, I2, r2, q2⟩ => mt_tup_index pi s2 σ H2 (.ref a) vs (.ref a) us Q I2 rfl r2 q2
def rLstOf (K : PySem.W.Frag) : List V → Hp → VK → Prop := fun vs H Q => ∃ p ys, vs = [.ref p] ∧ (SqL K H p ys ∨ SqT K H p ys) ∧ ∀ l H', Same H H' → H l = none → H' l = some (.lst ys) → Q (.ref l) H'
theorem call_listS : CallR X (.type "list") (rLstOf X.K) := by
  intro pi s σ H xs us Q I r ⟨p, ys, e0, hq, q⟩
  subst e0
  exact call_list_of pi s σ H _ us Q I r ⟨p, ys, rfl, hq, fun l nl => q l _ (same_new nl) nl upd_same⟩
/-! ### == over data -/
def strD (ss : List Str) : List PyData := ss.map PyData.str
def intD (ns : List Int) : List PyData := ns.map PyData.int
theorem dpAll_str {K : PySem.W.Frag} {H : Hp} : ∀ ss : List Str, DpAll K H (ss.map V.str) (strD ss)
  | [] => .nil
  | s :: ss => .cons (.str s) (dpAll_str ss)
theorem dpAll_int {K : PySem.W.Frag} {H : Hp} : ∀ ns : List Int, DpAll K H (ns.map V.int) (intD ns)
  | [] => .nil
  | n :: ns => .cons (.int n) (dpAll_int ns)
theorem eqvAll_str : ∀ ss ts : List Str, PyData.eqvAll (strD ss) (strD ts) = decide (ss = ts)
  | [], [] => rfl
  | [], _ :: _ => rfl
  | _ :: _, [] => rfl
  | s :: ss, t :: ts => by
    show (s == t && PyData.eqvAll (strD ss) (strD ts)) = _
    rw [eqvAll_str ss ts]
    by_cases h : s = t
    · subst h
      simp
    · simp [h]
theorem eqvAll_int : ∀ ss ts : List Int, PyData.eqvAll (intD ss) (intD ts) = decide (ss = ts)
  | [], [] => rfl
  | [], _ :: _ => rfl
  | _ :: _, [] => rfl
  | s :: ss, t :: ts => by
    show (s == t && PyData.eqvAll (intD ss) (intD ts)) = _
    rw [eqvAll_int ss ts]
    by_cases h : s = t
    · subst h
      simp
    · simp [h]
theorem lay_str : ∀ {ss : List Str}, (∀ z, z ∈ ss → PyData.strOk z = true) → PyData.canLayAll0 (strD ss) = true
  | [], _ => rfl
  | s :: ss, h => by
    show (PyData.strOk s && PyData.canLayAll0 (strD ss)) = true
    rw [h s List.mem_cons_self, lay_str fun z hz => h z (List.mem_cons_of_mem _ hz)]
    rfl
theorem lay_int : ∀ (ns : List Int), PyData.canLayAll0 (intD ns) = true
  | [] => rfl
  | n :: ns => by
    show (true && PyData.canLayAll0 (intD ns)) = true
    rw [lay_int ns]
    rfl
theorem depth_str : ∀ ss : List Str, PyData.depthAll (strD ss) ≤ 1
  | [] => by decide
  | s :: ss => by
    have := depth_str ss
    simp only [strD, List.map_cons, PyData.depthAll, PyData.depth] at this ⊢
    omega
theorem depth_int : ∀ ss : List Int, PyData.depthAll (intD ss) ≤ 1
  | [] => by decide
  | s :: ss => by
    have := depth_int ss
    simp only [intD, List.map_cons, PyData.depthAll, PyData.depth] at this ⊢
    omega
theorem shaped_tstr {ss : List Str} (h : ∀ z, z ∈ ss → PyData.strOk z = true) : SeqAt.shaped (.tuple (strD ss)) = true := by
  unfold SeqAt.shaped
  have := depth_str ss
  rw [show PyData.canLay0 (.tuple (strD ss)) = true from lay_str h, decide_eq_true (by simp only [PyData.depth]; omega)]
  rfl
theorem shaped_lstr {ss : List Str} (h : ∀ z, z ∈ ss → PyData.strOk z = true) : SeqAt.shaped (.list (strD ss)) = true := by
  unfold SeqAt.shaped
  have := depth_str ss
  rw [show PyData.canLay0 (.list (strD ss)) = true from lay_str h, decide_eq_true (by simp only [PyData.depth]; omega)]
  rfl
theorem shaped_lint (ns : List Int) : SeqAt.shaped (.list (intD ns)) = true := by
  unfold SeqAt.shaped
  have := depth_int ns
  rw [show PyData.canLay0 (.list (intD ns)) = true from lay_int ns, decide_eq_true (by simp only [PyData.depth]; omega)]
  rfl
/-- == of tuples of texts; of lists of ints; of lists of texts -/
def rEqTs (K : PySem.W.Frag) (neg : Bool) : R2 := fun x y H Q => ∃ (a b : Addr) (ss ts : List Str), x = .ref a ∧ y = .ref b ∧ SqT K H a (ss.map V.str) ∧ SqT K H b (ts.map V.str) ∧ (∀ z, z ∈ ss → PyData.strOk z = true) ∧ (∀ z, z ∈ ts → PyData.strOk z = true) ∧ Q (.bl (if neg then !decide (ss = ts) else decide (ss = ts))) H
def rEqLi (K : PySem.W.Frag) (neg : Bool) : R2 := fun x y H Q => ∃ (a b : Addr) (ss ts : List Int), x = .ref a ∧ y = .ref b ∧ SqL K H a (ss.map V.int) ∧ SqL K H b (ts.map V.int) ∧ Q (.bl (if neg then !decide (ss = ts) else decide (ss = ts))) H
def rEqLs (K : PySem.W.Frag) (neg : Bool) : R2 := fun x y H Q => ∃ (a b : Addr) (ss ts : List Str), x = .ref a ∧ y = .ref b ∧ SqL K H a (ss.map V.str) ∧ SqL K H b (ts.map V.str) ∧ (∀ z, z ∈ ss → PyData.strOk z = true) ∧ (∀ z, z ∈ ts → PyData.strOk z = true) ∧ Q (.bl (if neg then !decide (ss = ts) else decide (ss = ts))) H
theorem op_eqTs (hu : X.A.units + 64 < cLine) : OpR X (compareOp .Eq) (rEqTs X.K false) := by
  intro pi s σ H x y v u Q I rx ry h
  obtain ⟨a, b, ss, ts, rfl, rfl, ha, hb, h1, h2, q⟩ := h
  refine op_eqD hu pi s σ H _ _ v u Q I rx ry ⟨.tuple (strD ss), .tuple (strD ts), .tup ha (dpAll_str ss), .tup hb (dpAll_str ts), shaped_tstr h1, shaped_tstr h2, ?_⟩
  show Q (.bl (PyData.eqvAll (strD ss) (strD ts))) H
  rw [eqvAll_str]
  exact q
theorem op_neTs (hu : X.A.units + 64 < cLine) : OpR X (compareOp .NotEq) (rEqTs X.K true) := by
  intro pi s σ H x y v u Q I rx ry h
  obtain ⟨a, b, ss, ts, rfl, rfl, ha, hb, h1, h2, q⟩ := h
  refine op_neD hu pi s σ H _ _ v u Q I rx ry ⟨.tuple (strD ss), .tuple (strD ts), .tup ha (dpAll_str ss), .tup hb (dpAll_str ts), shaped_tstr h1, shaped_tstr h2, ?_⟩
  show Q (.bl (!PyData.eqvAll (strD ss) (strD ts))) H
  rw [eqvAll_str]
  exact q
theorem op_neLi (hu : X.A.units + 64 < cLine) : OpR X (compareOp .NotEq) (rEqLi X.K true) := by
  intro pi s σ H x y v u Q I rx ry h
  obtain ⟨a, b, ss, ts, rfl, rfl, ha, hb, q⟩ := h
  refine op_neD hu pi s σ H _ _ v u Q I rx ry ⟨.list (intD ss), .list (intD ts), .lst ha (dpAll_int ss), .lst hb (dpAll_int ts), shaped_lint ss, shaped_lint ts, ?_⟩
  show Q (.bl (!PyData.eqvAll (intD ss) (intD ts))) H
  rw [eqvAll_int]
  exact q
theorem op_eqLi (hu : X.A.units + 64 < cLine) : OpR X (compareOp .Eq) (rEqLi X.K false) := by
  intro pi s σ H x y v u Q I rx ry h
  obtain ⟨a, b, ss, ts, rfl, rfl, ha, hb, q⟩ := h
  refine op_eqD hu pi s σ H _ _ v u Q I rx ry ⟨.list (intD ss), .list (intD ts), .lst ha (dpAll_int ss), .lst hb (dpAll_int ts), shaped_lint ss, shaped_lint ts, ?_⟩
  show Q (.bl (PyData.eqvAll (intD ss) (intD ts))) H
  rw [eqvAll_int]
  exact q
theorem op_neLs (hu : X.A.units + 64 < cLine) : OpR X (compareOp .NotEq) (rEqLs X.K true) := by
  intro pi s σ H x y v u Q I rx ry h
  obtain ⟨a, b, ss, ts, rfl, rfl, ha, hb, h1, h2, q⟩ := h
  refine op_neD hu pi s σ H _ _ v u Q I rx ry ⟨.list (strD ss), .list (strD ts), .lst ha (dpAll_str ss), .lst hb (dpAll_str ts), shaped_lstr h1, shaped_lstr h2, ?_⟩
  show Q (.bl (!PyData.eqvAll (strD ss) (strD ts))) H
  rw [eqvAll_str]
  exact q
end
/-! ### cuts -/
theorem cut_to (xs : List V) (n : Nat) : cutV xs none (some (n : Int)) = xs.take n := by
  unfold cutV
  rw [HT.sIx_none, HT.sIx_nat]
  rw [List.drop_zero, Nat.sub_zero]
  by_cases h : n ≤ xs.length
  · rw [Nat.min_eq_left h]
  · rw [Nat.min_eq_right (by omega), List.take_of_length_le (Nat.le_refl xs.length), List.take_of_length_le (by omega)]
theorem cut_from (xs : List V) (n : Nat) : cutV xs (some (n : Int)) none = xs.drop n := by
  unfold cutV
  rw [HT.sIx_none, HT.sIx_nat]
  by_cases h : n ≤ xs.length
  · rw [Nat.min_eq_left h, List.take_of_length_le (by rw [List.length_drop]; omega)]
  · rw [Nat.min_eq_right (by omega), List.drop_eq_nil_of_le (Nat.le_refl _), List.drop_eq_nil_of_le (by omega), List.take_nil]
theorem cut_mid (xs : List V) (m n : Nat) (h : m ≤ xs.length) : cutV xs (some (m : Int)) (some (n : Int)) = (xs.drop m).take (n - m) := by
  unfold cutV
  rw [HT.sIx_nat, HT.sIx_nat, Nat.min_eq_left h]
  by_cases h2 : n ≤ xs.length
  · rw [Nat.min_eq_left h2]
  · rw [Nat.min_eq_right (by omega), List.take_of_length_le (by rw [List.length_drop]; omega), List.take_of_length_le (by rw [List.length_drop]; omega)]
end LS
/-! the mathematics of orders and commands: no program in it -/
namespace LS
open PySem
/-! ### one command -/
theorem take_drop_perm {α : Type} : ∀ (l : List α) (i : Nat) (h : i < l.length), List.Perm (l[i] :: (l.take i ++ l.drop (i + 1))) l
  | a :: l, 0, _ => List.Perm.refl _
  | a :: l, i + 1, h => by
    have h' : i < l.length := Nat.lt_of_succ_lt_succ h
    have ih := take_drop_perm l i h'
    show List.Perm (l[i] :: a :: (l.take i ++ l.drop (i + 1))) (a :: l)
    exact (List.Perm.swap a l[i] _).trans (ih.cons a)
def newIx (w : Str) (a last : Nat) : Nat := if w = "front" then 0 else if w = "back" then last else if w = "up" then a - 1 else min (a + 1) last
def idx (o : List Str) (l : Str) : Nat := o.findIdx fun x => decide (x = l)
theorem idx_lt {o : List Str} {l : Str} (h : l ∈ o) : idx o l < o.length := List.findIdx_lt_length_of_exists ⟨l, h, by simp⟩
theorem idx_at {o : List Str} {l : Str} (h : l ∈ o) : o[idx o l]? = some l := by
  have h1 := idx_lt h
  rw [List.getElem?_eq_getElem h1]
  have h2 : decide (o[idx o l] = l) = true := List.findIdx_getElem (w := h1)
  rw [of_decide_eq_true h2]
theorem idx_first {o : List Str} {l : Str} (m : Nat) (h : m < idx o l) : o[m]? ≠ some l := by
  intro e
  obtain ⟨h1, h2⟩ := List.getElem?_eq_some_iff.mp e
  have := List.not_of_lt_findIdx h
  rw [h2] at this
  simp at this
theorem idx_cons_self (x : Str) (xs : List Str) : idx (x :: xs) x = 0 := by
  unfold idx
  rw [List.findIdx_cons, decide_eq_true rfl]
  rfl
theorem idx_cons_ne {x y : Str} (h : x ≠ y) (xs : List Str) : idx (x :: xs) y = idx xs y + 1 := by
  unfold idx
  rw [List.findIdx_cons, decide_eq_false h]
  rfl
theorem idx_append_right {y : Str} : ∀ {xs : List Str} (ys : List Str), y ∉ xs → idx (xs ++ ys) y = xs.length + idx ys y
  | [], ys, _ => by simp
  | x :: xs, ys, h => by
    have h1 : x ≠ y := fun e => h (by rw [e]; exact List.mem_cons_self)
    have h2 : y ∉ xs := fun e => h (List.mem_cons_of_mem _ e)
    rw [List.cons_append, idx_cons_ne h1, idx_append_right ys h2, List.length_cons]
    omega
def outOf (o : List Str) (l : Str) : List Str := o.take (idx o l) ++ o.drop (idx o l + 1)
def putAt (r : List Str) (l : Str) (t : Nat) : List Str := r.take t ++ [l] ++ r.drop t
def moved (o : List Str) (c : Str × Str) : List Str := putAt (outOf o c.2) c.2 (newIx c.1 (idx o c.2) (outOf o c.2).length)
theorem out_perm {o : List Str} {l : Str} (h : l ∈ o) : (l :: outOf o l).Perm o := by
  have h1 := idx_lt h
  have h2 : o[idx o l] = l := by
    have := idx_at h
    rw [List.getElem?_eq_getElem h1] at this
    exact Option.some.inj this
  have := take_drop_perm o (idx o l) h1
  rw [h2] at this
  exact this
theorem put_perm (r : List Str) (l : Str) (t : Nat) : (putAt r l t).Perm (l :: r) := by
  unfold putAt
  rw [List.append_assoc]
  refine (List.perm_middle (l₁ := r.take t) (l₂ := r.drop t) (a := l)).trans ?_
  rw [List.take_append_drop]
theorem moved_perm {o : List Str} {c : Str × Str} (h : c.2 ∈ o) : (moved o c).Perm o := (put_perm _ _ _).trans (out_perm h)
theorem out_len {o : List Str} {l : Str} (h : l ∈ o) : (outOf o l).length + 1 = o.length := (out_perm h).length_eq
theorem filter_self {α : Type} {p : α → Bool} {l : List α} (h : ∀ x, x ∈ l → p x = true) : l.filter p = l := List.filter_eq_self.mpr h
theorem filter_out : ∀ {os : List Str} {ly : Str}, os.Nodup → ly ∈ os → os.filter (fun x => !decide (x = ly)) = outOf os ly
  | x :: xs, ly, hn, hm => by
    have hn' := List.nodup_cons.mp (id hn)
    by_cases e : x = ly
    · subst e
      unfold outOf
      rw [idx_cons_self, List.filter_cons, decide_eq_true rfl]
      show xs.filter _ = xs
      exact filter_self fun a ha => by
        have : a ≠ x := fun z => hn'.1 (by rw [← z]; exact ha)
        simp [this]
    · have hm' : ly ∈ xs := by
        rcases List.mem_cons.mp hm with z | z
        · exact absurd z.symm e
        · exact z
      have ih := filter_out hn'.2 hm'
      have e2 : outOf (x :: xs) ly = x :: outOf xs ly := by
        unfold outOf
        rw [idx_cons_ne e]
        rfl
      rw [e2, List.filter_cons, if_pos (by simp [e]), ih]
theorem put_filter {r : List Str} {l : Str} (h : l ∉ r) (t : Nat) : (putAt r l t).filter (fun x => !decide (x = l)) = r := by
  unfold putAt
  have k : ∀ {ys : List Str}, (∀ y, y ∈ ys → y ∈ r) → ys.filter (fun x => !decide (x = l)) = ys := fun {ys} hy => filter_self fun a ha => by
    have : a ≠ l := fun z => h (by rw [← z]; exact hy a ha)
    simp [this]
  rw [List.filter_append, List.filter_append, k (fun y hy => List.mem_of_mem_take hy), k (fun y hy => List.mem_of_mem_drop hy)]
  simp
/-! ### who stands before whom -/
theorem lt_iff : ∀ {o : List Str} {x y : Str}, o.Nodup → x ∈ o → y ∈ o → x ≠ y → (idx o x < idx o y ↔ List.Sublist [x, y] o)
  | z :: zs, x, y, hn, hx, hy, hne => by
    have hn' := List.nodup_cons.mp (id hn)
    by_cases e1 : z = x
    · subst e1
      have hy' : y ∈ zs := by
        rcases List.mem_cons.mp hy with q | q
        · exact absurd q.symm hne
        · exact q
      rw [idx_cons_self, idx_cons_ne hne]
      refine ⟨fun _ => ?_, fun _ => by omega⟩
      exact List.Sublist.cons_cons z (List.singleton_sublist.mpr hy')
    · by_cases e2 : z = y
      · subst e2
        rw [idx_cons_self, idx_cons_ne e1]
        refine ⟨fun h => absurd h (by omega), fun h => ?_⟩
        rcases List.sublist_cons_iff.mp h with q | ⟨r, q1, q2⟩
        · exact absurd (q.subset (by simp)) hn'.1
        · have : x = z := (List.cons.inj q1).1
          exact absurd this.symm e1
      · have hx' : x ∈ zs := by
          rcases List.mem_cons.mp hx with q | q
          · exact absurd q.symm e1
          · exact q
        have hy' : y ∈ zs := by
          rcases List.mem_cons.mp hy with q | q
          · exact absurd q.symm e2
          · exact q
        rw [idx_cons_ne e1, idx_cons_ne e2]
        have ih := lt_iff hn'.2 hx' hy' hne
        refine ⟨fun h => (ih.mp (by omega)).cons z, fun h => ?_⟩
        rcases List.sublist_cons_iff.mp h with q | ⟨r, q1, q2⟩
        · have := ih.mpr q
          omega
        · have : x = z := (List.cons.inj q1).1
          exact absurd this.symm e1
/-- x stands before y -/
def bef (o : List Str) (x y : Str) : Bool := decide (idx o x < idx o y)
/-- the two orders without z are one: they agree on all others -/
theorem bef_agree {o o' : List Str} {x y z : Str} (hn : o.Nodup) (hp : o'.Perm o) (hx : x ∈ o) (hy : y ∈ o) (hne : x ≠ y) (hxz : x ≠ z) (hyz : y ≠ z) (h : o.filter (fun a => !decide (a = z)) = o'.filter (fun a => !decide (a = z))) : bef o x y = bef o' x y := by
  have hn' : o'.Nodup := hp.nodup_iff.mpr hn
  have hs : [x, y].filter (fun a => !decide (a = z)) = [x, y] := by simp [hxz, hyz]
  have k : ∀ {o1 o2 : List Str}, o1.filter (fun a => !decide (a = z)) = o2.filter (fun a => !decide (a = z)) → List.Sublist [x, y] o1 → List.Sublist [x, y] o2 := fun {o1 o2} e h1 => by
    have h2 := h1.filter (fun a => !decide (a = z))
    rw [hs, e] at h2
    exact h2.trans List.filter_sublist
  have i1 := lt_iff hn hx hy hne
  have i2 := lt_iff hn' (hp.mem_iff.mpr hx) (hp.mem_iff.mpr hy) hne
  unfold bef
  by_cases c : idx o x < idx o y
  · rw [decide_eq_true c, decide_eq_true (i2.mpr (k h (i1.mp c)))]
  · have c' : ¬ idx o' x < idx o' y := fun q => c (i1.mpr (k h.symm (i2.mp q)))
    rw [decide_eq_false c, decide_eq_false c']
/-- a command of l changes nothing among the others -/
theorem bef_moved {o : List Str} {c : Str × Str} {x y : Str} (hn : o.Nodup) (hc : c.2 ∈ o) (hx : x ∈ o) (hy : y ∈ o) (hne : x ≠ y) (hxz : x ≠ c.2) (hyz : y ≠ c.2) : bef o x y = bef (moved o c) x y := by
  refine bef_agree hn (moved_perm hc) hx hy hne hxz hyz ?_
  rw [filter_out hn hc]
  have : c.2 ∉ outOf o c.2 := by
    have h1 := (out_perm hc).nodup_iff.mpr hn
    exact (List.nodup_cons.mp h1).1
  exact (put_filter this _).symm
end LS
/-! what the laws' helpers and the commands promise: no row in it -/
namespace LS
open PySem L2 PySem.Spec PyProof.Rows
section
variable {K : PySem.W.Frag}
def primes : List Int := [2147483647, 2147483629, 2147483587, 2147483579, 2147483563, 2147483549, 2147483543, 2147483497]
theorem prime_at (z : Int) : ∃ q : Int, atI (primes.map V.int) (z % 8) = some (.int q) ∧ 0 < q ∧ q < 2147483648 := by
  have h0 := Int.emod_nonneg z (show (8 : Int) ≠ 0 by decide)
  have h1 := Int.emod_lt_of_pos z (show (0 : Int) < 8 by decide)
  obtain ⟨j, ej⟩ : ∃ j : Nat, z % 8 = (j : Int) := ⟨(z % 8).toNat, by omega⟩
  have hj : j < primes.length := by
    show j < 8
    omega
  refine ⟨primes[j], at_of ej ?_, ?_⟩
  · rw [List.getElem?_map, List.getElem?_eq_getElem hj]
    rfl
  · have all : ∀ q ∈ primes, 0 < q ∧ q < 2147483648 := by decide
    exact all _ (List.getElem_mem hj)
abbrev StrsOk (ss : List Str) : Prop := ∀ z, z ∈ ss → PyData.strOk z = true
def tenNames : List Str := ["a", "b", "c", "dd", "e", "fig", "zz", "h", "back", "up"]
def fourWords : List Str := ["front", "back", "up", "down"]
theorem ten_ok : StrsOk tenNames := by
  intro z hz
  have all : ∀ z ∈ tenNames, PyData.strOk z = true := by decide +kernel
  exact all z hz
theorem ten_nd : tenNames.Nodup := by decide +kernel
/-- a list at a place that is told by % -/
theorem at_mod {xs : List V} {z : Int} {n : Nat} (hn : xs.length = n) (h0 : 0 < n) : ∃ j : Nat, z % (n : Int) = (j : Int) ∧ ∃ h : j < xs.length, atI xs (z % (n : Int)) = some xs[j] := by
  have m0 := Int.emod_nonneg z (show (n : Int) ≠ 0 by omega)
  have m1 := Int.emod_lt_of_pos z (show 0 < (n : Int) by omega)
  obtain ⟨j, ej⟩ : ∃ j : Nat, z % (n : Int) = (j : Int) := ⟨_, (Int.toNat_of_nonneg m0).symm⟩
  have hj : j < xs.length := by omega
  exact ⟨j, ej, hj, at_of ej (List.getElem?_eq_getElem hj)⟩
theorem rot_perm {α : Type} (l : List α) (i : Nat) : (l.drop i ++ l.take i).Perm l := by
  refine List.perm_append_comm.trans ?_
  rw [List.take_append_drop]
/-- the commands cs stand at the addresses as -/
def Cmds (H : Hp) : List Addr → List (Str × Str) → Prop
  | [], [] => True
  | a :: as, c :: cs => Tn H a [.str c.1, .str c.2] ∧ Cmds H as cs
  | _, _ => False
theorem Cmds.same {H H' : Hp} (e : Same H H') : ∀ {as : List Addr} {cs : List (Str × Str)}, Cmds H as cs → Cmds H' as cs
  | [], [], _ => trivial
  | _ :: _, _ :: _, h => ⟨h.1.same e, Cmds.same e h.2⟩
theorem Cmds.len {H : Hp} : ∀ {as : List Addr} {cs : List (Str × Str)}, Cmds H as cs → as.length = cs.length
  | [], [], _ => rfl
  | _ :: as, _ :: cs, h => by
    show as.length + 1 = cs.length + 1
    rw [Cmds.len h.2]
theorem Cmds.snoc {H : Hp} {a : Addr} {c : Str × Str} (hc : Tn H a [.str c.1, .str c.2]) : ∀ {as : List Addr} {cs : List (Str × Str)}, Cmds H as cs → Cmds H (as ++ [a]) (cs ++ [c])
  | [], [], _ => ⟨hc, trivial⟩
  | _ :: _, _ :: _, h => ⟨h.1, Cmds.snoc hc h.2⟩
theorem Cmds.get {H : Hp} : ∀ {as : List Addr} {cs : List (Str × Str)}, Cmds H as cs → ∀ {i : Nat} {c : Str × Str}, cs[i]? = some c → ∃ a, as[i]? = some a ∧ Tn H a [.str c.1, .str c.2]
  | [], [], _, i, c, h => by simp at h
  | a :: as, c :: cs, h, 0, x, e => by
    have e1 : c = x := Option.some.inj e
    subst e1
    exact ⟨a, rfl, h.1⟩
  | a :: as, c :: cs, h, i + 1, x, e => Cmds.get h.2 (i := i) e
/-- a write to a list leaves the tuples as they were -/
theorem tn_keep {H H' : Hp} {D : Addr} {zs : List V} (hD : H D = some (.lst zs)) (k : ∀ b x, b ≠ D → H b = some x → H' b = some x) {a : Addr} {xs : List V} (h : Tn H a xs) : Tn H' a xs := by
  obtain ⟨ob, e1, e2⟩ := h
  exact ⟨ob, k _ _ (ne_of e1 hD (by intro z; cases z)) e1, e2⟩
theorem Cmds.keep {H H' : Hp} {D : Addr} {zs : List V} (hD : H D = some (.lst zs)) (k : ∀ b x, b ≠ D → H b = some x → H' b = some x) : ∀ {as : List Addr} {cs : List (Str × Str)}, Cmds H as cs → Cmds H' as cs
  | [], [], _ => trivial
  | _ :: _, _ :: _, h => ⟨tn_keep hD k h.1, Cmds.keep hD k h.2⟩
/-- at p the script cs -/
def Scr (K : PySem.W.Frag) (H : Hp) (p : Addr) (cs : List (Str × Str)) : Prop := ∃ as : List Addr, SqT K H p (as.map V.ref) ∧ Cmds H as cs
theorem Scr.same {H H' : Hp} {p : Addr} {cs : List (Str × Str)} (h : Scr K H p cs) (e : Same H H') : Scr K H' p cs := by
  obtain ⟨as, h1, h2⟩ := h
  exact ⟨as, sameT e h1, h2.same e⟩
abbrev GoodCs (os : List Str) (cs : List (Str × Str)) : Prop := ∀ c, c ∈ cs → c.1 ∈ fourWords ∧ c.2 ∈ os
/-- the order after the first i commands -/
def runTo (o : List Str) (cs : List (Str × Str)) (i : Nat) : List Str := (cs.take i).foldl moved o
theorem run_succ {o : List Str} {cs : List (Str × Str)} {i : Nat} {c : Str × Str} (h : cs[i]? = some c) : runTo o cs (i + 1) = moved (runTo o cs i) c := by
  unfold runTo
  rw [List.take_add_one, List.foldl_append, h]
  rfl
theorem run_perm {o : List Str} {cs : List (Str × Str)} (h : ∀ c, c ∈ cs → c.2 ∈ o) : ∀ i, (runTo o cs i).Perm o
  | 0 => List.Perm.refl _
  | i + 1 => by
    by_cases hi : i < cs.length
    · have e : cs[i]? = some cs[i] := List.getElem?_eq_getElem hi
      rw [run_succ e]
      have ih := run_perm h i
      exact (moved_perm (ih.mem_iff.mpr (h _ (List.getElem_mem hi)))).trans ih
    · have e : runTo o cs (i + 1) = runTo o cs i := by
        unfold runTo
        rw [List.take_of_length_le (by omega), List.take_of_length_le (by omega)]
      rw [e]
      exact run_perm h i
/-- the places of the first i commands that change nothing -/
def idl (o : List Str) (cs : List (Str × Str)) : Nat → List Int
  | 0 => []
  | i + 1 => idl o cs i ++ if runTo o cs (i + 1) = runTo o cs i then [(i : Int)] else []
theorem idl_len (o : List Str) (cs : List (Str × Str)) : ∀ i, (idl o cs i).length ≤ i
  | 0 => Nat.le_refl _
  | i + 1 => by
    have := idl_len o cs i
    unfold idl
    rw [List.length_append]
    split
    · show (idl o cs i).length + 1 ≤ i + 1
      omega
    · show (idl o cs i).length + 0 ≤ i + 1
      omega
theorem idl_yes {o : List Str} {cs : List (Str × Str)} {i : Nat} (h : runTo o cs (i + 1) = runTo o cs i) : idl o cs (i + 1) = idl o cs i ++ [(i : Int)] := by
  show idl o cs i ++ (if runTo o cs (i + 1) = runTo o cs i then [(i : Int)] else []) = _
  rw [if_pos h]
theorem idl_no {o : List Str} {cs : List (Str × Str)} {i : Nat} (h : ¬ runTo o cs (i + 1) = runTo o cs i) : idl o cs (i + 1) = idl o cs i := by
  show idl o cs i ++ (if runTo o cs (i + 1) = runTo o cs i then [(i : Int)] else []) = _
  rw [if_neg h, List.append_nil]
theorem at_last {os : List Str} (h : os ≠ []) : ∃ l, l ∈ os ∧ atI (os.map V.str) (-1) = some (.str l) := by
  refine ⟨os.getLast h, List.getLast_mem h, ?_⟩
  have e : os.map V.str = os.dropLast.map V.str ++ [.str (os.getLast h)] := by
    rw [← List.map_singleton, ← List.map_append, List.dropLast_concat_getLast]
  rw [e]
  exact atI_last _ _
theorem at_first {os : List Str} (h : os ≠ []) : ∃ l, l ∈ os ∧ atI (os.map V.str) 0 = some (.str l) := by
  have hp : 0 < os.length := List.length_pos_iff.mpr h
  refine ⟨os[0], List.getElem_mem hp, atI_nat (j := 0) ?_⟩
  rw [List.getElem?_map, List.getElem?_eq_getElem hp]
  rfl
/-- a def of the top, where it stands and how it is called -/
structure At (K : PySem.W.Frag) (mg : Str → Option Value) (x : Str) (st : Stmt) (ps : List Str) (f : Addr) (fd : FuncData) : Prop where
  F : Fun K x x st f fd
  b : Binds K fd ps []
  g : mg x = some (.ref f)
def spCell (K : PySem.W.Frag) : Sp := fun vs H Q _ => ∃ (a : Addr) (ns : List Int) (j : Nat), vs = [.ref a, .int (j : Int)] ∧ SqL K H a (ns.map V.int) ∧ ∀ c, Q (.int c) H
/-- a list of count ints from 0 to base - 1, new -/
def spDigits (K : PySem.W.Frag) : Sp := fun vs H Q _ => ∃ (a : Addr) (ns : List Int) (j n : Nat) (b : Int), vs = [.ref a, .int (j : Int), .int (n : Int), .int b] ∧ SqL K H a (ns.map V.int) ∧ j ≤ 1000 ∧ n ≤ 1000 ∧ 0 < b ∧ b < 1073741824 ∧
  ∀ (ds : List Int) p H', Same H H' → H p = none → H' p = some (.lst (ds.map V.int)) → ds.length = n → (∀ d, d ∈ ds → 0 ≤ d ∧ d < b) → Q (.ref p) H'
/-- some order of the names -/
def spMixed (K : PySem.W.Frag) : Sp := fun vs H Q _ => ∃ (d n : Addr) (ds : List Int) (ss : List Str), vs = [.ref d, .ref n] ∧ SqL K H d (ds.map V.int) ∧ (SqL K H n (ss.map V.str) ∨ SqT K H n (ss.map V.str)) ∧ StrsOk ss ∧ ss.length ≤ ds.length ∧ ss.length ≤ 100 ∧
  ∀ (os : List Str) p H', Same H H' → Tn H' p (os.map V.str) → os.Perm ss → Q (.ref p) H'
/-- n of the names, none twice -/
def spNames (K : PySem.W.Frag) : Sp := fun vs H Q _ => ∃ (d : Addr) (n : Nat) (ds : List Int), vs = [.ref d, .int (n : Int)] ∧ SqL K H d (ds.map V.int) ∧ 11 ≤ ds.length ∧ ds.length ≤ 1000 ∧ n ≤ 10 ∧
  ∀ (os : List Str) p H', Same H H' → Tn H' p (os.map V.str) → os.Nodup → os.length = n → (∀ z, z ∈ os → z ∈ tenNames) → Q (.ref p) H'
/-- a command of the order, new -/
def spCommand (K : PySem.W.Frag) : Sp := fun vs H Q _ => ∃ (d o : Addr) (ds : List Int) (os : List Str), vs = [.ref d, .ref o] ∧ SqL K H d (ds.map V.int) ∧ SqT K H o (os.map V.str) ∧ 2 ≤ ds.length ∧ os ≠ [] ∧
  ∀ (wd ly : Str) p H', Same H H' → H p = none → Tn H' p [.str wd, .str ly] → wd ∈ fourWords → ly ∈ os → Q (.ref p) H'
def spScript (K : PySem.W.Frag) : Sp := fun vs H Q _ => ∃ (d o : Addr) (n : Nat) (ds : List Int) (os : List Str), vs = [.ref d, .ref o, .int (n : Int)] ∧ SqL K H d (ds.map V.int) ∧ SqT K H o (os.map V.str) ∧ 1 + 2 * n ≤ ds.length ∧ n ≤ 100 ∧ os ≠ [] ∧
  ∀ (cs : List (Str × Str)) p H', Same H H' → Scr K H' p cs → cs.length ≤ n → GoodCs os cs → Q (.ref p) H'
def spNewIx : Sp := fun vs H Q _ => ∃ (wd : Str) (a l : Nat), vs = [.str wd, .int (a : Int), .int (l : Int)] ∧ Q (.int (newIx wd a l : Int)) H
def spAfter (K : PySem.W.Frag) : Sp := fun vs H Q _ => ∃ (o c : Addr) (os : List Str) (wd ly : Str), vs = [.ref o, .ref c] ∧ Tn H o (os.map V.str) ∧ SqT K H c [.str wd, .str ly] ∧ ly ∈ os ∧ os.length ≤ 1000 ∧
  ∀ p H', Same H H' → Tn H' p ((moved os (wd, ly)).map V.str) → Q (.ref p) H'
def spApply (K : PySem.W.Frag) : Sp := fun vs H Q _ => ∃ (o p : Addr) (os : List Str) (cs : List (Str × Str)), vs = [.ref o, .ref p] ∧ Tn H o (os.map V.str) ∧ Scr K H p cs ∧ (∀ c, c ∈ cs → c.2 ∈ os) ∧ os.length ≤ 1000 ∧
  ∀ r H', Same H H' → Tn H' r ((runTo os cs cs.length).map V.str) → Q (.ref r) H'
def spIdle (K : PySem.W.Frag) : Sp := fun vs H Q _ => ∃ (o p : Addr) (os : List Str) (cs : List (Str × Str)), vs = [.ref o, .ref p] ∧ Tn H o (os.map V.str) ∧ Scr K H p cs ∧ (∀ c, c ∈ cs → c.2 ∈ os) ∧ os.length ≤ 1000 ∧ cs.length ≤ 900 ∧ StrsOk os ∧
  ∀ r H', Same H H' → H r = none → H' r = some (.lst ((idl os cs cs.length).map V.int)) → Q (.ref r) H'
def spMoved (K : PySem.W.Frag) : Sp := fun vs H Q _ => ∃ (o c : Addr) (os : List Str) (wd ly : Str), vs = [.ref o, .ref c] ∧ Tn H o (os.map V.str) ∧ SqT K H c [.str wd, .str ly] ∧ ly ∈ os ∧ os.Nodup ∧ os.length ≤ 900 ∧
  ∀ p H', Same H H' → Tn H' p ((moved os (wd, ly)).map V.str) → Q (.ref p) H'
def spLaw (K : PySem.W.Frag) : Sp := fun vs H Q _ => ∃ (a : Addr) (ns : List Int), vs = [.ref a] ∧ SqL K H a (ns.map V.int) ∧ ns.length ≤ 63 ∧ ∀ H', Q (.bl true) H'
theorem filter_outV : ∀ {os : List Str} {ly : Str}, os.Nodup → ly ∈ os → os.filter (fun x => !decide (V.str x = V.str ly)) = outOf os ly
  | x :: xs, ly, hn, hm => by
    have hn' := List.nodup_cons.mp (id hn)
    by_cases e : x = ly
    · subst e
      have e1 : idx (x :: xs) x = 0 := by
        unfold idx
        rw [List.findIdx_cons, decide_eq_true rfl]
        rfl
      unfold outOf
      rw [e1, List.filter_cons]
      simp
      intro a ha z
      rw [z] at ha
      exact hn'.1 ha
    · have e1 : idx (x :: xs) ly = idx xs ly + 1 := by
        unfold idx
        rw [List.findIdx_cons, decide_eq_false e]
        rfl
      have hm' : ly ∈ xs := by
        rcases List.mem_cons.mp hm with z | z
        · exact absurd z.symm e
        · exact z
      have ih := filter_outV hn'.2 hm'
      have e2 : outOf (x :: xs) ly = x :: outOf xs ly := by
        unfold outOf
        rw [e1]
        rfl
      rw [e2, List.filter_cons, if_pos (by simp [e]), ih]
end
end LS
/-! costs of stretches, and what one command changes of them -/
namespace LS
open PySem
/-- the pairs of the list that stand the other way round in o -/
def inv (o : List Str) : List Str → Nat
  | [] => 0
  | x :: xs => xs.countP (fun y => bef o y x) + inv o xs
def cost (o t : List Str) (a b : Nat) : Nat := t.length - (b - a) + inv o ((t.drop a).take (b - a))
theorem inv_congr {o o' : List Str} : ∀ {s : List Str}, s.Nodup → (∀ x y, x ∈ s → y ∈ s → x ≠ y → bef o x y = bef o' x y) → inv o s = inv o' s
  | [], _, _ => rfl
  | x :: xs, hn, h => by
    have hn' := List.nodup_cons.mp (id hn)
    unfold inv
    rw [inv_congr hn'.2 fun a b ha hb => h a b (List.mem_cons_of_mem _ ha) (List.mem_cons_of_mem _ hb)]
    congr 1
    refine List.countP_congr fun y hy => ?_
    rw [h y x (List.mem_cons_of_mem _ hy) List.mem_cons_self (fun z => hn'.1 (by rw [← z]; exact hy))]
theorem inv_append_le (o : List Str) (s2 : List Str) : ∀ s1 : List Str, inv o s1 + inv o s2 ≤ inv o (s1 ++ s2)
  | [] => by simp [inv]
  | x :: xs => by
    have ih := inv_append_le o s2 xs
    show xs.countP _ + inv o xs + inv o s2 ≤ (xs ++ s2).countP _ + inv o (xs ++ s2)
    rw [List.countP_append]
    omega
/-- l stands before all: every layer ahead of it in the list makes a pair -/
theorem inv_first {o : List Str} {l : Str} (s2 : List Str) : ∀ s1 : List Str, (∀ x, x ∈ s1 → bef o l x = true) → s1.length + inv o s2 ≤ inv o (s1 ++ l :: s2)
  | [], _ => by
    show 0 + inv o s2 ≤ s2.countP _ + inv o s2
    omega
  | x :: xs, h => by
    have ih := inv_first (o := o) (l := l) s2 xs fun y hy => h y (List.mem_cons_of_mem _ hy)
    have h1 : 0 < (xs ++ l :: s2).countP (fun y => bef o y x) := List.countP_pos_iff.mpr ⟨l, by simp, h x List.mem_cons_self⟩
    show xs.length + 1 + inv o s2 ≤ (xs ++ l :: s2).countP _ + inv o (xs ++ l :: s2)
    omega
/-- l stands behind all -/
theorem inv_last {o : List Str} {l : Str} (s1 s2 : List Str) (h : ∀ x, x ∈ s2 → bef o x l = true) : inv o s1 + s2.length ≤ inv o (s1 ++ l :: s2) := by
  have h1 := inv_append_le o (l :: s2) s1
  have h2 : s2.countP (fun y => bef o y l) = s2.length := List.countP_eq_length.mpr h
  have h3 : inv o (l :: s2) = s2.countP (fun y => bef o y l) + inv o s2 := rfl
  omega
theorem countP_one {α : Type} [DecidableEq α] {p q : α → Bool} {m : α} : ∀ {l : List α}, l.Nodup → (∀ x, x ∈ l → x ≠ m → p x = q x) → l.countP p ≤ l.countP q + 1
  | [], _, _ => by simp
  | x :: xs, hn, h => by
    have hn' := List.nodup_cons.mp (id hn)
    by_cases e : x = m
    · subst e
      have : xs.countP p = xs.countP q := List.countP_congr fun y hy => by
        rw [h y (List.mem_cons_of_mem _ hy) (fun z => hn'.1 (by rw [← z]; exact hy))]
      rw [List.countP_cons, List.countP_cons, this]
      split <;> split <;> omega
    · have ih := countP_one (m := m) hn'.2 fun y hy => h y (List.mem_cons_of_mem _ hy)
      rw [List.countP_cons, List.countP_cons, h x List.mem_cons_self e]
      omega
/-- two orders that tell only the pair of l and m apart -/
theorem inv_one {o o' : List Str} {l m : Str} : ∀ {s : List Str}, s.Nodup → (∀ x y, x ∈ s → y ∈ s → x ≠ y → ¬ (x = l ∧ y = m) → ¬ (x = m ∧ y = l) → bef o x y = bef o' x y) → inv o s ≤ inv o' s + 1
  | [], _, _ => by simp [inv]
  | x :: xs, hn, h => by
    have hn' := List.nodup_cons.mp (id hn)
    have hne : ∀ y, y ∈ xs → y ≠ x := fun y hy z => hn'.1 (by rw [← z]; exact hy)
    by_cases e : x = l ∨ x = m
    · have same : inv o xs = inv o' xs := inv_congr hn'.2 fun a b ha hb hab => h a b (List.mem_cons_of_mem _ ha) (List.mem_cons_of_mem _ hb) hab
        (fun z => by
          rcases e with e | e
          · exact hne a ha (by rw [z.1, e])
          · exact hne b hb (by rw [z.2, e]))
        (fun z => by
          rcases e with e | e
          · exact hne b hb (by rw [z.2, e])
          · exact hne a ha (by rw [z.1, e]))
      have c1 : xs.countP (fun y => bef o y x) ≤ xs.countP (fun y => bef o' y x) + 1 := by
        rcases e with e | e
        · exact countP_one (m := m) hn'.2 fun y hy hym => h y x (List.mem_cons_of_mem _ hy) List.mem_cons_self (hne y hy) (fun z => hne y hy (by rw [z.1, e])) (fun z => hym z.1)
        · exact countP_one (m := l) hn'.2 fun y hy hym => h y x (List.mem_cons_of_mem _ hy) List.mem_cons_self (hne y hy) (fun z => hym z.1) (fun z => hne y hy (by rw [z.1, e]))
      unfold inv
      omega
    · have ih := inv_one (o := o) (o' := o') (l := l) (m := m) hn'.2 fun a b ha hb => h a b (List.mem_cons_of_mem _ ha) (List.mem_cons_of_mem _ hb)
      have c1 : xs.countP (fun y => bef o y x) = xs.countP (fun y => bef o' y x) := List.countP_congr fun y hy => by
        rw [h y x (List.mem_cons_of_mem _ hy) List.mem_cons_self (hne y hy) (fun z => e (.inr z.2)) (fun z => e (.inl z.2))]
      unfold inv
      omega
/-! ### where a command puts its layer -/
theorem moved_front {o : List Str} {l : Str} : moved o ("front", l) = l :: outOf o l := by
  show putAt (outOf o l) l (newIx "front" _ _) = _
  rw [show newIx "front" (idx o l) (outOf o l).length = 0 from rfl]
  unfold putAt
  simp
theorem moved_back {o : List Str} {l : Str} : moved o ("back", l) = outOf o l ++ [l] := by
  show putAt (outOf o l) l (newIx "back" _ _) = _
  have : newIx "back" (idx o l) (outOf o l).length = (outOf o l).length := by
    unfold newIx
    rw [if_neg (by decide +kernel), if_pos rfl]
  rw [this]
  unfold putAt
  simp
theorem mem_out {o : List Str} {l x : Str} (hl : l ∈ o) : x ∈ o → x ≠ l → x ∈ outOf o l := fun hx hne => by
  rcases List.mem_cons.mp ((out_perm hl).mem_iff.mpr hx) with z | z
  · exact absurd z hne
  · exact z
theorem not_out {o : List Str} {l : Str} (hn : o.Nodup) (hl : l ∈ o) : l ∉ outOf o l := (List.nodup_cons.mp ((out_perm hl).nodup_iff.mpr hn)).1
theorem split_at {o : List Str} {l : Str} (hl : l ∈ o) : ∃ A C, o = A ++ l :: C ∧ A.length = idx o l ∧ outOf o l = A ++ C := by
  have h := idx_lt hl
  have e : o[idx o l] = l := by
    have := idx_at hl
    rw [List.getElem?_eq_getElem h] at this
    exact Option.some.inj this
  refine ⟨o.take (idx o l), o.drop (idx o l + 1), ?_, by rw [List.length_take]; omega, rfl⟩
  have : o.drop (idx o l) = o[idx o l] :: o.drop (idx o l + 1) := List.drop_eq_getElem_cons h
  rw [e] at this
  rw [← this, List.take_append_drop]
/-- one step up -/
theorem moved_up {o : List Str} {l : Str} (hl : l ∈ o) : moved o ("up", l) = o ∨ ∃ A m C, o = A ++ m :: l :: C ∧ moved o ("up", l) = A ++ l :: m :: C := by
  obtain ⟨A, C, e1, e2, e3⟩ := split_at hl
  have e4 : moved o ("up", l) = putAt (A ++ C) l (A.length - 1) := by
    show putAt (outOf o l) l (newIx "up" (idx o l) _) = _
    have : newIx "up" A.length (A ++ C).length = A.length - 1 := by
      unfold newIx
      rw [if_neg (by decide +kernel), if_neg (by decide +kernel), if_pos rfl]
    rw [e3, ← e2, this]
  rcases List.eq_nil_or_concat A with z | ⟨A', m, z⟩
  · subst z
    left
    rw [e4, e1]
    unfold putAt
    simp
  · subst z
    right
    refine ⟨A', m, C, by rw [e1]; simp, ?_⟩
    rw [e4]
    unfold putAt
    have : (A'.concat m).length - 1 = A'.length := by simp
    rw [this]
    simp
/-- one step down: every other word -/
theorem moved_down {o : List Str} {w l : Str} (hl : l ∈ o) (h1 : w ≠ "front") (h2 : w ≠ "back") (h3 : w ≠ "up") : moved o (w, l) = o ∨ ∃ A m C, o = A ++ l :: m :: C ∧ moved o (w, l) = A ++ m :: l :: C := by
  obtain ⟨A, C, e1, e2, e3⟩ := split_at hl
  have e4 : moved o (w, l) = putAt (A ++ C) l (min (A.length + 1) (A ++ C).length) := by
    show putAt (outOf o l) l (newIx w (idx o l) _) = _
    rw [e3, ← e2]
    congr 1
    unfold newIx
    rw [if_neg h1, if_neg h2, if_neg h3]
  cases C with
  | nil =>
    left
    rw [e4, e1]
    unfold putAt
    have : min (A.length + 1) (A ++ ([] : List Str)).length = A.length := by simp
    rw [this]
    simp
  | cons m C =>
    right
    refine ⟨A, m, C, e1, ?_⟩
    rw [e4]
    unfold putAt
    have : min (A.length + 1) (A ++ m :: C).length = A.length + 1 := by
      rw [List.length_append, List.length_cons]
      omega
    rw [this]
    have t1 : (A ++ m :: C).take (A.length + 1) = A ++ [m] := by
      rw [List.take_append, List.take_of_length_le (by omega)]
      simp
    have t2 : (A ++ m :: C).drop (A.length + 1) = C := by
      rw [List.drop_append]
      simp
    rw [t1, t2]
    simp
/-! ### one command changes the least cost by at most one -/
theorem bef_irr (o : List Str) (x : Str) : bef o x x = false := decide_eq_false (Nat.lt_irrefl _)
theorem bef_front {o : List Str} {l x : Str} (h : x ≠ l) : bef (l :: o) l x = true := by
  unfold bef
  rw [idx_cons_self, idx_cons_ne (fun z => h z.symm)]
  exact decide_eq_true (show _ < _ by omega)
theorem bef_back {r : List Str} {l x : Str} (hl : l ∉ r) (hx : x ∈ r) : bef (r ++ [l]) x l = true := by
  unfold bef
  rw [idx_append_right [l] hl, idx_cons_self]
  refine decide_eq_true ?_
  have : idx (r ++ [l]) x = idx r x := by
    unfold idx
    rw [List.findIdx_append, if_pos]
    exact idx_lt hx
  rw [this]
  have := idx_lt hx
  omega
theorem seg_split {t : List Str} {a b : Nat} {s1 s2 : List Str} {l : Str} (hab : a < b) (hb : b ≤ t.length) (e : (t.drop a).take (b - a) = s1 ++ l :: s2) :
    s1.length + 1 + s2.length = b - a ∧ (t.drop (a + s1.length + 1)).take (b - (a + s1.length + 1)) = s2 ∧ (t.drop a).take (a + s1.length - a) = s1 := by
  have hl : s1.length + (s2.length + 1) = b - a := by
    have := congrArg List.length e
    rw [List.length_take, List.length_drop, List.length_append, List.length_cons] at this
    omega
  refine ⟨by omega, ?_, ?_⟩
  · have h1 : ((t.drop a).take (b - a)).drop (s1.length + 1) = s2 := by
      rw [e, List.drop_append, List.drop_eq_nil_of_le (by omega)]
      simp
    rw [List.drop_take, List.drop_drop] at h1
    rw [show a + s1.length + 1 = a + (s1.length + 1) by omega, show b - (a + (s1.length + 1)) = b - a - (s1.length + 1) by omega]
    exact h1
  · have h1 : ((t.drop a).take (b - a)).take s1.length = s1 := by
      rw [e, List.take_append, List.take_of_length_le (Nat.le_refl _)]
      simp
    rw [List.take_take, Nat.min_eq_left (by omega)] at h1
    rw [show a + s1.length - a = s1.length by omega]
    exact h1
theorem cost_one {o t : List Str} {a : Nat} (h : a < t.length) : cost o t a (a + 1) = t.length - 1 := by
  unfold cost
  rw [show a + 1 - a = 1 by omega]
  have : ∃ x, (t.drop a).take 1 = [x] := ⟨t[a], by rw [List.drop_eq_getElem_cons h]; rfl⟩
  obtain ⟨x, e⟩ := this
  rw [e]
  rfl
theorem seg_mem {t : List Str} {a b : Nat} {x : Str} (h : x ∈ (t.drop a).take (b - a)) : x ∈ t := List.mem_of_mem_drop (List.mem_of_mem_take h)
theorem seg_nd {t : List Str} (hn : t.Nodup) (a b : Nat) : ((t.drop a).take (b - a)).Nodup := (hn.sublist (List.drop_sublist _ _)).sublist (List.take_sublist _ _)
theorem step_cost {o t : List Str} {c : Str × Str} (hn : o.Nodup) (hp : t.Perm o) (hc : c.2 ∈ o) {a b : Nat} (hab : a < b) (hb : b ≤ t.length) :
    ∃ a' b', a' < b' ∧ b' ≤ t.length ∧ cost o t a' b' ≤ cost (moved o c) t a b + 1 := by
  have htn : t.Nodup := hp.nodup_iff.mpr hn
  have hmo : ∀ {x : Str}, x ∈ (t.drop a).take (b - a) → x ∈ o := fun h => hp.mem_iff.mp (seg_mem h)
  by_cases hin : c.2 ∈ (t.drop a).take (b - a)
  · obtain ⟨s1, s2, es⟩ := List.append_of_mem hin
    obtain ⟨hlen, es2, es1⟩ := seg_split hab hb es
    have snd := seg_nd htn a b
    rw [es] at snd
    have nd2 := List.nodup_append.mp snd
    have hl2 : c.2 ∉ s2 := (List.nodup_cons.mp nd2.2.1).1
    have hl1 : c.2 ∉ s1 := fun z => nd2.2.2 _ z _ List.mem_cons_self rfl
    have ho1 : ∀ x, x ∈ s1 → x ∈ o := fun x hx => hmo (by rw [es]; exact List.mem_append_left _ hx)
    have ho2 : ∀ x, x ∈ s2 → x ∈ o := fun x hx => hmo (by rw [es]; exact List.mem_append_right _ (List.mem_cons_of_mem _ hx))
    have same2 : inv o s2 = inv (moved o c) s2 := inv_congr (List.nodup_cons.mp nd2.2.1).2 fun x y hx hy hxy => bef_moved hn hc (ho2 x hx) (ho2 y hy) hxy (fun z => hl2 (by rw [← z]; exact hx)) (fun z => hl2 (by rw [← z]; exact hy))
    have same1 : inv o s1 = inv (moved o c) s1 := inv_congr nd2.1 fun x y hx hy hxy => bef_moved hn hc (ho1 x hx) (ho1 y hy) hxy (fun z => hl1 (by rw [← z]; exact hx)) (fun z => hl1 (by rw [← z]; exact hy))
    have ec : cost (moved o c) t a b = t.length - (b - a) + inv (moved o c) (s1 ++ c.2 :: s2) := by
      unfold cost
      rw [es]
    obtain ⟨w, l⟩ := c
    by_cases wf : w = "front"
    · subst wf
      have key := inv_first (o := moved o ("front", l)) (l := l) s2 s1 fun x hx => by
        rw [moved_front]
        exact bef_front fun z => hl1 (by rw [← z]; exact hx)
      by_cases em : a + s1.length + 1 < b
      · refine ⟨a + s1.length + 1, b, em, hb, ?_⟩
        have e1 : cost o t (a + s1.length + 1) b = t.length - (b - (a + s1.length + 1)) + inv o s2 := by
          unfold cost
          rw [es2]
        rw [e1, ec, same2]
        have key' : s1.length + inv (moved o ("front", l)) s2 ≤ inv (moved o ("front", l)) (s1 ++ l :: s2) := key
        show t.length - (b - (a + s1.length + 1)) + inv (moved o ("front", l)) s2 ≤ t.length - (b - a) + inv (moved o ("front", l)) (s1 ++ l :: s2) + 1
        omega
      · refine ⟨a, a + 1, by omega, by omega, ?_⟩
        rw [cost_one (by omega), ec]
        have key' : s1.length + inv (moved o ("front", l)) s2 ≤ inv (moved o ("front", l)) (s1 ++ l :: s2) := key
        show t.length - 1 ≤ t.length - (b - a) + inv (moved o ("front", l)) (s1 ++ l :: s2) + 1
        omega
    · by_cases wb : w = "back"
      · subst wb
        have key := inv_last (o := moved o ("back", l)) (l := l) s1 s2 fun x hx => by
          rw [moved_back]
          exact bef_back (not_out hn hc) (mem_out hc (ho2 x hx) fun z => hl2 (by rw [← z]; exact hx))
        have key' : inv (moved o ("back", l)) s1 + s2.length ≤ inv (moved o ("back", l)) (s1 ++ l :: s2) := key
        by_cases em : 0 < s1.length
        · refine ⟨a, a + s1.length, by omega, by omega, ?_⟩
          have e1 : cost o t a (a + s1.length) = t.length - (a + s1.length - a) + inv o s1 := by
            unfold cost
            rw [es1]
          rw [e1, ec, same1]
          show t.length - (a + s1.length - a) + inv (moved o ("back", l)) s1 ≤ t.length - (b - a) + inv (moved o ("back", l)) (s1 ++ l :: s2) + 1
          omega
        · refine ⟨a, a + 1, by omega, by omega, ?_⟩
          rw [cost_one (by omega), ec]
          show t.length - 1 ≤ t.length - (b - a) + inv (moved o ("back", l)) (s1 ++ l :: s2) + 1
          omega
      · have two : ∃ m, ∀ x y, x ∈ (t.drop a).take (b - a) → y ∈ (t.drop a).take (b - a) → x ≠ y → ¬ (x = l ∧ y = m) → ¬ (x = m ∧ y = l) → bef o x y = bef (moved o (w, l)) x y := by
          have gen : ∀ (m : Str) (A C : List Str), (o = A ++ m :: l :: C ∧ moved o (w, l) = A ++ l :: m :: C) ∨ (o = A ++ l :: m :: C ∧ moved o (w, l) = A ++ m :: l :: C) →
              ∀ x y, x ∈ (t.drop a).take (b - a) → y ∈ (t.drop a).take (b - a) → x ≠ y → ¬ (x = l ∧ y = m) → ¬ (x = m ∧ y = l) → bef o x y = bef (moved o (w, l)) x y := by
            intro m A C ho x y hx hy hxy n1 n2
            by_cases hl : x ≠ l ∧ y ≠ l
            · exact bef_moved hn hc (hmo hx) (hmo hy) hxy hl.1 hl.2
            · have hm : x ≠ m ∧ y ≠ m := by
                by_cases xl : x = l
                · refine ⟨fun z => ?_, fun z => n1 ⟨xl, z⟩⟩
                  rcases ho with ⟨e, _⟩ | ⟨e, _⟩
                  · rw [e] at hn
                    have := (List.nodup_append.mp hn).2.1
                    exact (List.nodup_cons.mp this).1 (by rw [← z, xl]; exact List.mem_cons_self)
                  · rw [e] at hn
                    have := (List.nodup_append.mp hn).2.1
                    exact (List.nodup_cons.mp this).1 (by rw [← xl, z]; exact List.mem_cons_self)
                · have yl : y = l := by
                    by_cases yl : y = l
                    · exact yl
                    · exact absurd ⟨xl, yl⟩ hl
                  refine ⟨fun z => n2 ⟨z, yl⟩, fun z => ?_⟩
                  rcases ho with ⟨e, _⟩ | ⟨e, _⟩
                  · rw [e] at hn
                    have := (List.nodup_append.mp hn).2.1
                    exact (List.nodup_cons.mp this).1 (by rw [← z, yl]; exact List.mem_cons_self)
                  · rw [e] at hn
                    have := (List.nodup_append.mp hn).2.1
                    exact (List.nodup_cons.mp this).1 (by rw [← yl, z]; exact List.mem_cons_self)
              refine bef_agree hn (moved_perm hc) (hmo hx) (hmo hy) hxy hm.1 hm.2 ?_
              rcases ho with ⟨e1, e2⟩ | ⟨e1, e2⟩
              · rw [e2, e1]
                simp [List.filter_cons]
              · rw [e2, e1]
                simp [List.filter_cons]
          have same : moved o (w, l) = o → ∃ m, ∀ x y, x ∈ (t.drop a).take (b - a) → y ∈ (t.drop a).take (b - a) → x ≠ y → ¬ (x = l ∧ y = m) → ¬ (x = m ∧ y = l) → bef o x y = bef (moved o (w, l)) x y := fun e => ⟨l, fun x y _ _ _ _ _ => by rw [e]⟩
          by_cases wu : w = "up"
          · subst wu
            rcases moved_up hc with e | ⟨A, m, C, e1, e2⟩
            · exact same e
            · exact ⟨m, gen m A C (.inl ⟨e1, e2⟩)⟩
          · rcases moved_down hc wf wb wu with e | ⟨A, m, C, e1, e2⟩
            · exact same e
            · exact ⟨m, gen m A C (.inr ⟨e1, e2⟩)⟩
        obtain ⟨m, hm⟩ := two
        refine ⟨a, b, hab, hb, ?_⟩
        have := inv_one (o := o) (o' := moved o (w, l)) (l := l) (m := m) (seg_nd htn a b) hm
        unfold cost
        omega
  · refine ⟨a, b, hab, hb, ?_⟩
    have : inv o ((t.drop a).take (b - a)) = inv (moved o c) ((t.drop a).take (b - a)) := inv_congr (seg_nd htn a b) fun x y hx hy hxy => bef_moved hn hc (hmo hx) (hmo hy) hxy (fun z => hin (by rw [← z]; exact hx)) (fun z => hin (by rw [← z]; exact hy))
    unfold cost
    omega
end LS
/-! the least cost of a stretch is the least number of commands -/
namespace LS
open PySem
def IsDist (o t : List Str) (d : Nat) : Prop := (∃ a b, a < b ∧ b ≤ t.length ∧ cost o t a b = d) ∧ ∀ a b, a < b → b ≤ t.length → d ≤ cost o t a b
theorem least_of {p : Nat → Prop} : ∀ n, p n → ∃ d, p d ∧ ∀ e, p e → d ≤ e := by
  intro n0
  induction n0 using Nat.strongRecOn with
  | _ n ih =>
    intro h
    by_cases c : ∃ m, m < n ∧ p m
    · obtain ⟨m, hm, pm⟩ := c
      exact ih m hm pm
    · exact ⟨n, h, fun e pe => Nat.le_of_not_lt fun z => c ⟨e, z, pe⟩⟩
theorem dist_ex (o : List Str) {t : List Str} (h : 0 < t.length) : ∃ d, IsDist o t d := by
  obtain ⟨d, h1, h2⟩ := least_of (p := fun d => ∃ a b, a < b ∧ b ≤ t.length ∧ cost o t a b = d) (cost o t 0 1) ⟨0, 1, by omega, h, rfl⟩
  exact ⟨d, h1, fun a b ha hb => h2 _ ⟨a, b, ha, hb, rfl⟩⟩
theorem dist_uniq {o t : List Str} {d e : Nat} (h1 : IsDist o t d) (h2 : IsDist o t e) : d = e := by
  obtain ⟨⟨a, b, p, q, r⟩, l1⟩ := h1
  obtain ⟨⟨a', b', p', q', r'⟩, l2⟩ := h2
  have := l1 a' b' p' q'
  have := l2 a b p q
  omega
theorem inv_sub {o : List Str} (hn : o.Nodup) : ∀ {s : List Str}, s.Sublist o → inv o s = 0
  | [], _ => rfl
  | x :: xs, h => by
    have ih := inv_sub hn ((List.sublist_cons_self x xs).trans h)
    have c : xs.countP (fun y => bef o y x) = 0 := List.countP_eq_zero.mpr fun y hy z => by
      have snd := hn.sublist h
      have hxy : x ≠ y := fun e => (List.nodup_cons.mp snd).1 (by rw [e]; exact hy)
      have h2 : List.Sublist [x, y] o := (List.Sublist.cons_cons x (List.singleton_sublist.mpr hy)).trans h
      have h3 := (lt_iff hn (h.subset List.mem_cons_self) (h.subset (List.mem_cons_of_mem _ hy)) hxy).mpr h2
      have h4 := of_decide_eq_true z
      omega
    show xs.countP _ + inv o xs = 0
    omega
theorem dist_self {o : List Str} (hn : o.Nodup) (h : 0 < o.length) : IsDist o o 0 := by
  refine ⟨⟨0, o.length, h, Nat.le_refl _, ?_⟩, fun _ _ _ _ => Nat.zero_le _⟩
  unfold cost
  rw [List.drop_zero, Nat.sub_zero, List.take_of_length_le (Nat.le_refl o.length), inv_sub hn (List.Sublist.refl o)]
  omega
theorem dist_step {o t : List Str} {c : Str × Str} {d e : Nat} (hn : o.Nodup) (hp : t.Perm o) (hc : c.2 ∈ o) (h1 : IsDist o t d) (h2 : IsDist (moved o c) t e) : d ≤ e + 1 := by
  obtain ⟨⟨a, b, p, q, r⟩, _⟩ := h2
  obtain ⟨a', b', p', q', r'⟩ := step_cost hn hp hc p q
  have := h1.2 a' b' p' q'
  omega
/-- no script leads there with fewer commands -/
theorem dist_least : ∀ {cs : List (Str × Str)} {o t : List Str} {d : Nat}, o.Nodup → 0 < o.length → (∀ c, c ∈ cs → c.2 ∈ o) → cs.foldl moved o = t → IsDist o t d → d ≤ cs.length
  | [], o, t, d, hn, h0, _, e, h => by
    have e' : o = t := e
    subst e'
    rw [dist_uniq h (dist_self hn h0)]
    exact Nat.le_refl _
  | c :: cs, o, t, d, hn, h0, hg, e, h => by
    have hc := hg c List.mem_cons_self
    have pm := moved_perm hc
    have hn' : (moved o c).Nodup := pm.nodup_iff.mpr hn
    have hl : (moved o c).length = o.length := pm.length_eq
    have hg' : ∀ c', c' ∈ cs → c'.2 ∈ moved o c := fun c' h' => pm.mem_iff.mpr (hg c' (List.mem_cons_of_mem _ h'))
    have run : ∀ {cs : List (Str × Str)} {o : List Str}, (∀ c, c ∈ cs → c.2 ∈ o) → (cs.foldl moved o).Perm o := by
      intro cs
      induction cs with
      | nil => intro o _; exact List.Perm.refl _
      | cons c cs ih =>
        intro o hg
        have p1 := moved_perm (hg c List.mem_cons_self)
        exact (ih fun c' h' => p1.mem_iff.mpr (hg c' (List.mem_cons_of_mem _ h'))).trans p1
    have pt : t.Perm (moved o c) := by
      rw [← e]
      exact run hg'
    obtain ⟨d', hd'⟩ := dist_ex (moved o c) (t := t) (by rw [pt.length_eq]; omega)
    have ih := dist_least hn' (by omega) hg' e hd'
    have := dist_step hn (pt.trans pm) hc h hd'
    rw [List.length_cons]
    omega
/-! ### the script of a stretch -/
def fronts (xs : List Str) : List (Str × Str) := xs.map fun x => ("front", x)
def backs (xs : List Str) : List (Str × Str) := xs.map fun x => ("back", x)
theorem run_fronts : ∀ {xs o : List Str}, o.Nodup → xs.Nodup → (∀ x, x ∈ xs → x ∈ o) → (fronts xs).foldl moved o = xs.reverse ++ o.filter (fun y => !decide (y ∈ xs))
  | [], o, _, _, _ => by
    show o = [] ++ o.filter _
    rw [List.nil_append, filter_self fun y _ => by simp]
  | x :: xs, o, hn, hx, hs => by
    have hx' := List.nodup_cons.mp (id hx)
    have hxo := hs x List.mem_cons_self
    have e1 : moved o ("front", x) = x :: o.filter (fun y => !decide (y = x)) := by
      rw [moved_front, filter_out hn hxo]
    have hn1 : (moved o ("front", x)).Nodup := (moved_perm (c := ("front", x)) hxo).nodup_iff.mpr hn
    show (fronts xs).foldl moved (moved o ("front", x)) = _
    rw [run_fronts hn1 hx'.2 fun y hy => (moved_perm (c := ("front", x)) hxo).mem_iff.mpr (hs y (List.mem_cons_of_mem _ hy)), e1, List.filter_cons, if_pos (by simp [hx'.1]), List.reverse_cons, List.append_assoc]
    congr 1
    show x :: _ = x :: _
    congr 1
    rw [List.filter_filter]
    refine List.filter_congr fun y _ => ?_
    by_cases z : y = x <;> by_cases z2 : y ∈ xs <;> simp [z, z2]
theorem run_backs : ∀ {xs o : List Str}, o.Nodup → xs.Nodup → (∀ x, x ∈ xs → x ∈ o) → (backs xs).foldl moved o = o.filter (fun y => !decide (y ∈ xs)) ++ xs
  | [], o, _, _, _ => by
    show o = o.filter _ ++ []
    rw [List.append_nil, filter_self fun y _ => by simp]
  | x :: xs, o, hn, hx, hs => by
    have hx' := List.nodup_cons.mp (id hx)
    have hxo := hs x List.mem_cons_self
    have e1 : moved o ("back", x) = o.filter (fun y => !decide (y = x)) ++ [x] := by
      rw [moved_back, filter_out hn hxo]
    have hn1 : (moved o ("back", x)).Nodup := (moved_perm (c := ("back", x)) hxo).nodup_iff.mpr hn
    show (backs xs).foldl moved (moved o ("back", x)) = _
    rw [run_backs hn1 hx'.2 fun y hy => (moved_perm (c := ("back", x)) hxo).mem_iff.mpr (hs y (List.mem_cons_of_mem _ hy)), e1, List.filter_append, List.append_assoc]
    congr 1
    · rw [List.filter_filter]
      refine List.filter_congr fun y _ => ?_
      by_cases z : y = x <;> by_cases z2 : y ∈ xs <;> simp [z, z2]
    · rw [List.filter_cons, if_pos (by simp [hx'.1])]
      rfl
theorem idx_mid {A C : List Str} {l : Str} (h : l ∉ A) : idx (A ++ l :: C) l = A.length := by
  rw [idx_append_right _ h, idx_cons_self]
  omega
theorem out_mid {A C : List Str} {l : Str} (h : l ∉ A) : outOf (A ++ l :: C) l = A ++ C := by
  unfold outOf
  rw [idx_mid h, List.take_append, List.drop_append]
  simp
theorem up_one {A C : List Str} {m l : Str} (hA : l ∉ A) (hm : m ≠ l) : moved (A ++ m :: l :: C) ("up", l) = A ++ l :: m :: C := by
  have hA' : l ∉ A ++ [m] := by
    intro z
    rcases List.mem_append.mp z with q | q
    · exact hA q
    · exact hm (List.mem_singleton.mp q).symm
  have e : A ++ m :: l :: C = (A ++ [m]) ++ l :: C := by simp
  show putAt (outOf (A ++ m :: l :: C) l) l (newIx "up" (idx (A ++ m :: l :: C) l) _) = _
  rw [e, out_mid hA', idx_mid hA']
  have n1 : ∀ k, newIx "up" (A ++ [m]).length k = A.length := fun k => by
    unfold newIx
    rw [if_neg (by decide +kernel), if_neg (by decide +kernel), if_pos rfl]
    simp
  rw [n1]
  unfold putAt
  simp
theorem up_many {P : List Str} {x : Str} : ∀ (k : Nat) (B Z : List Str), B.length = k → x ∉ P → x ∉ B → (List.replicate k (("up", x) : Str × Str)).foldl moved (P ++ B ++ x :: Z) = P ++ x :: (B ++ Z)
  | 0, B, Z, hb, hP, hB => by
    have : B = [] := List.eq_nil_of_length_eq_zero hb
    subst this
    simp
  | k + 1, B, Z, hb, hP, hB => by
    rcases List.eq_nil_or_concat B with z | ⟨B', m, z⟩
    · rw [z] at hb
      cases hb
    · subst z
      have hB' : x ∉ B' := fun q => hB (by simp [q])
      have hm : m ≠ x := fun q => hB (by simp [q])
      have hl : B'.length = k := by
        simp at hb
        exact hb
      have e1 : P ++ B'.concat m ++ x :: Z = (P ++ B') ++ m :: x :: Z := by simp
      have hPB : x ∉ P ++ B' := fun q => (List.mem_append.mp q).elim hP hB'
      show (List.replicate k (("up", x) : Str × Str)).foldl moved (moved (P ++ B'.concat m ++ x :: Z) ("up", x)) = _
      rw [e1, up_one hPB hm, up_many k B' (m :: Z) hl hP hB']
      simp
def ups (o : List Str) : List Str → List (Str × Str)
  | [] => []
  | x :: xs => List.replicate (xs.countP (fun y => bef o y x)) (("up", x) : Str × Str) ++ ups o xs
theorem ups_len (o : List Str) : ∀ s : List Str, (ups o s).length = inv o s
  | [] => rfl
  | x :: xs => by
    show (List.replicate _ _ ++ ups o xs).length = _ + inv o xs
    rw [List.length_append, List.length_replicate, ups_len o xs]
theorem run_ups {o S : List Str} (hn : o.Nodup) : ∀ {s P R : List Str}, (P ++ R ++ S).Nodup → R.Sublist o → s.Perm R → (ups o s).foldl moved (P ++ R ++ S) = P ++ s ++ S
  | [], P, R, _, _, hp => by
    have : R = [] := List.Perm.eq_nil hp.symm
    subst this
    rfl
  | x :: xs, P, R, hnd, hs, hp => by
    have hxR : x ∈ R := hp.mem_iff.mp List.mem_cons_self
    obtain ⟨B, C, e⟩ := List.append_of_mem hxR
    subst e
    have ndR : (B ++ x :: C).Nodup := hn.sublist hs
    have nd2 := List.nodup_append.mp ndR
    have hxB : x ∉ B := fun z => nd2.2.2 _ z _ List.mem_cons_self rfl
    have hxC : x ∉ C := (List.nodup_cons.mp nd2.2.1).1
    have hxP : x ∉ P := fun z => by
      have := (List.nodup_append.mp (List.nodup_append.mp hnd).1).2.2
      exact this _ z _ hxR rfl
    have px : xs.Perm (B ++ C) := by
      have p2 : (x :: xs).Perm (x :: (B ++ C)) := hp.trans List.perm_middle
      exact p2.cons_inv
    have cB : B.countP (fun y => bef o y x) = B.length := List.countP_eq_length.mpr fun y hy => by
      have hyx : y ≠ x := fun z => hxB (by rw [← z]; exact hy)
      have h2 : List.Sublist [y, x] o := by
        refine List.Sublist.trans ?_ hs
        have e2 : B ++ x :: C = B ++ ([x] ++ C) := rfl
        rw [show ([y, x] : List Str) = [y] ++ ([x] ++ []) from rfl, e2]
        exact List.Sublist.append (List.singleton_sublist.mpr hy) (List.Sublist.append (List.Sublist.refl _) (List.nil_sublist _))
      exact decide_eq_true ((lt_iff hn (hs.subset (by simp [hy])) (hs.subset (by simp)) hyx).mpr h2)
    have cC : C.countP (fun y => bef o y x) = 0 := List.countP_eq_zero.mpr fun y hy z => by
      have hyx : x ≠ y := fun z => hxC (by rw [z]; exact hy)
      have h2 : List.Sublist [x, y] o := by
        refine List.Sublist.trans ?_ hs
        exact (List.Sublist.cons_cons x (List.singleton_sublist.mpr hy)).trans (List.sublist_append_right B (x :: C))
      have h3 := (lt_iff hn (hs.subset (by simp)) (hs.subset (by simp [hy])) hyx).mpr h2
      have h4 := of_decide_eq_true z
      omega
    have cnt : xs.countP (fun y => bef o y x) = B.length := by
      rw [px.countP_eq, List.countP_append, cB, cC]
      omega
    show (List.replicate _ _ ++ ups o xs).foldl moved _ = _
    rw [List.foldl_append, cnt]
    have e1 : P ++ (B ++ x :: C) ++ S = P ++ B ++ x :: (C ++ S) := by simp
    rw [e1, up_many B.length B (C ++ S) rfl hxP hxB]
    have e2 : P ++ x :: (B ++ (C ++ S)) = (P ++ [x]) ++ (B ++ C) ++ S := by simp
    have ndx : ((P ++ [x]) ++ (B ++ C) ++ S).Nodup := by
      have pm : ((P ++ [x]) ++ (B ++ C) ++ S).Perm (P ++ (B ++ x :: C) ++ S) := by
        refine List.Perm.append_right S ?_
        rw [List.append_assoc]
        exact List.Perm.append_left P (List.perm_middle (l₁ := B) (l₂ := C) (a := x)).symm
      exact pm.nodup_iff.mpr hnd
    have sub : (B ++ C).Sublist o := ((List.Sublist.refl B).append (List.sublist_cons_self x C)).trans hs
    rw [e2, run_ups hn ndx sub px]
    simp
def scriptOf (o t : List Str) (a b : Nat) : List (Str × Str) := fronts (t.take a).reverse ++ backs (t.drop b) ++ ups o ((t.drop a).take (b - a))
theorem script_len {o t : List Str} {a b : Nat} (hab : a ≤ b) (hb : b ≤ t.length) : (scriptOf o t a b).length = cost o t a b := by
  unfold scriptOf cost fronts backs
  rw [List.length_append, List.length_append, List.length_map, List.length_map, List.length_reverse, List.length_take, List.length_drop, ups_len]
  omega
theorem cut3 {t : List Str} {a b : Nat} (hab : a ≤ b) : t = t.take a ++ ((t.drop a).take (b - a)) ++ t.drop b := by
  have h1 : t.take a ++ (t.drop a).take (b - a) = t.take b := by
    rw [← List.take_append_drop a (t.take b), List.take_take, Nat.min_eq_left hab, List.drop_take]
  rw [h1, List.take_append_drop]
theorem script_runs {o t : List Str} {a b : Nat} (hn : o.Nodup) (hp : t.Perm o) (hab : a ≤ b) : (scriptOf o t a b).foldl moved o = t := by
  have htn : t.Nodup := hp.nodup_iff.mpr hn
  have e3 := cut3 (t := t) hab
  have nd3 := htn
  rw [e3] at nd3
  have n1 := List.nodup_append.mp nd3
  have n2 := List.nodup_append.mp n1.1
  unfold scriptOf
  rw [List.foldl_append, List.foldl_append]
  have f1 := run_fronts (xs := (t.take a).reverse) hn ((List.reverse_perm (t.take a)).nodup_iff.mpr n2.1) fun x hx => hp.mem_iff.mp (List.mem_of_mem_take (List.mem_reverse.mp hx))
  rw [List.reverse_reverse] at f1
  rw [f1]
  have pm1 : (t.take a ++ o.filter (fun y => !decide (y ∈ (t.take a).reverse))).Perm o := by
    rw [← f1]
    have run : ∀ {cs : List (Str × Str)} {o : List Str}, (∀ c, c ∈ cs → c.2 ∈ o) → (cs.foldl moved o).Perm o := by
      intro cs
      induction cs with
      | nil => intro o _; exact List.Perm.refl _
      | cons c cs ih =>
        intro o hg
        have p1 := moved_perm (hg c List.mem_cons_self)
        exact (ih fun c' h' => p1.mem_iff.mpr (hg c' (List.mem_cons_of_mem _ h'))).trans p1
    refine run fun c hc => ?_
    obtain ⟨x, hx, ex⟩ := List.mem_map.mp hc
    rw [← ex]
    exact hp.mem_iff.mp (List.mem_of_mem_take (List.mem_reverse.mp hx))
  have f2 := run_backs (xs := t.drop b) (pm1.nodup_iff.mpr hn) n1.2.1 fun x hx => pm1.mem_iff.mpr (hp.mem_iff.mp (List.mem_of_mem_drop hx))
  rw [f2, List.filter_append]
  have k1 : (t.take a).filter (fun y => !decide (y ∈ t.drop b)) = t.take a := filter_self fun y hy => by
    have : y ∉ t.drop b := fun z => n1.2.2 _ (List.mem_append_left _ hy) _ z rfl
    simp [this]
  rw [k1]
  have hsub : ((o.filter (fun y => !decide (y ∈ (t.take a).reverse))).filter (fun y => !decide (y ∈ t.drop b))).Sublist o := List.filter_sublist.trans List.filter_sublist
  have hperm : ((t.drop a).take (b - a)).Perm ((o.filter (fun y => !decide (y ∈ (t.take a).reverse))).filter (fun y => !decide (y ∈ t.drop b))) := by
    refine (List.perm_ext_iff_of_nodup n2.2.1 (hn.sublist hsub)).mpr fun x => ?_
    simp only [List.mem_filter, List.mem_reverse, Bool.not_eq_true', decide_eq_false_iff_not]
    constructor
    · intro hx
      exact ⟨⟨hp.mem_iff.mp (seg_mem hx), fun z => n2.2.2 _ z _ hx rfl⟩, fun z => n1.2.2 _ (List.mem_append_right _ hx) _ z rfl⟩
    · rintro ⟨⟨h1, h2⟩, h3⟩
      have : x ∈ t := hp.mem_iff.mpr h1
      rw [e3] at this
      rcases List.mem_append.mp this with z | z
      · rcases List.mem_append.mp z with z | z
        · exact absurd z h2
        · exact z
      · exact absurd z h3
  have nd4 : (t.take a ++ (o.filter (fun y => !decide (y ∈ (t.take a).reverse))).filter (fun y => !decide (y ∈ t.drop b)) ++ t.drop b).Nodup := by
    have pm : (t.take a ++ (o.filter (fun y => !decide (y ∈ (t.take a).reverse))).filter (fun y => !decide (y ∈ t.drop b)) ++ t.drop b).Perm (t.take a ++ (t.drop a).take (b - a) ++ t.drop b) := List.Perm.append_right _ (List.Perm.append_left _ hperm.symm)
    rw [pm.nodup_iff, ← e3]
    exact htn
  rw [run_ups hn nd4 hsub hperm, ← e3]
end LS
set_option maxHeartbeats 1500000
/-! a lambda of one parameter: made, and called from within a built-in -/
namespace LS
open PySem L2 PySem.Spec PyProof.Rows LamX
structure LamS1 (sc scope : Scope) (p : Str) : Prop where
  kind : scope.kind = .function
  sync : scope.isCoroutine = false
  once : scope.isGenerator = false
  nocell : ∀ y, y ∈ scope.names → y.2 ≠ .cell
  own : ∀ y, y ∈ scope.names → y.2 = .local → y.1 = p
  par : scope.names.lookup p = some .local
  free : ∀ y, y ∈ scope.names → y.2 = .free → sc.names.lookup y.1 = some .cell ∨ sc.names.lookup y.1 = some .free
def lamS1B (sc scope : Scope) (p : Str) : Bool :=
  decide (scope.kind = .function) && !scope.isCoroutine && !scope.isGenerator && decide (scope.names.lookup p = some .local) &&
    scope.names.all fun y => !decide (y.2 = .cell) && (!decide (y.2 = .local) || decide (y.1 = p)) && (!decide (y.2 = .free) || decide (sc.names.lookup y.1 = some .cell) || decide (sc.names.lookup y.1 = some .free))
theorem lamS1_by {sc scope : Scope} {p : Str} (h : lamS1B sc scope p = true) : LamS1 sc scope p := by
  unfold lamS1B at h
  simp only [List.all_eq_true, Bool.and_eq_true, Bool.or_eq_true, decide_eq_true_eq, Bool.not_eq_true', decide_eq_false_iff_not] at h
  obtain ⟨⟨⟨⟨h1, h2⟩, h3⟩, h4⟩, h5⟩ := h
  refine ⟨h1, h2, h3, fun y hy => (h5 y hy).1.1, fun y hy e => ?_, h4, fun y hy e => ?_⟩
  · rcases (h5 y hy).1.2 with z | z
    · exact absurd e z
    · exact z
  · rcases (h5 y hy).2 with (z | z) | z
    · exact absurd e z
    · exact .inl z
    · exact .inr z
section
variable {X : Cx} {σ : L2.St} {H : Hp} {pins : List (Addr × Obj)} {s : Shared}
theorem LamS1.has {scope : Scope} {p : Str} (L : LamS1 X.env.scope scope p) (ok : X.Ok) : ∀ y, y ∈ scope.names → y.2 = .free → ∃ c, X.env.cells.lookup y.1 = some c := fun y hy e =>
  ok.has _ ((L.free y hy e).elim .inl .inr)
/-- the frame of the lambda's body: its parameter in the slot j -/
theorem lam_start1 {A : Around} {E : XK} {scope : Scope} {f c' : Addr} {p : Str} {j : Nat} {x : V} {u : Value} {g : Heap} {tk : Nat} (I : Inv X pins σ H s) (L : LamS1 X.env.scope scope p) (hN : X.N.Nodup) (hj : X.N[j]? = some p) (rx : RelV x u)
    (e0 : Env0 X.prog X.w X.K X.mg X.base A X.stack s H) (hd : A.handled = none) (hns : g.Ns s.heap.objs.size fun y => ([(p, u)] : List (Str × Value)).reverse.lookup y) (kp : ∀ b o, s.heap.get? b = some o → g.get? b = some o) :
    Inv (lamCx X A X.stack s H E scope f c') [] (σ.set j (some x)) H { s with heap := g, toks := tk } := by
  have hfree := L.has I.ok
  have cm : ∀ {y : Str} {c : Addr}, (cloFrom X.env.cells scope.names []).lookup y = some c → X.env.cells.lookup y = some c := by
    intro y c eL
    cases cloFrom_mem (PySem.mem_of_lookup eL) with
    | inl hm => cases hm
    | inr hm =>
      obtain ⟨h1, h2⟩ := hm
      obtain ⟨c1, hc⟩ := hfree (y, .free) h1 rfl
      replace hc : X.env.cells.lookup y = some c1 := hc
      have e2 : c = c1 := by
        rw [h2, hc] <;> rfl
      rw [e2]
      exact hc
  have look : ∀ {y}, scope.names.lookup y = some .free → ∃ c, (cloFrom X.env.cells scope.names []).lookup y = some c := fun {y} hl =>
    mem_lookup (cloFrom_has (cells := X.env.cells) (acc := []) (show (y, NameKind.free) ∈ scope.names from PySem.mem_of_lookup hl))
  have cellK : ∀ {c : Addr} {v : Option Value}, s.heap.IsCell c v → g.IsCell c v := fun {c v} ⟨o, ho, hdt⟩ => ⟨_, kp _ _ ho, hdt⟩
  have noA : ∀ b : Addr, b ∉ (lamCx X A X.stack s H E scope f c').ex := fun b z => absurd (show b ∈ ([] : List Addr) from z) (by simp)
  have np : ∀ {y : Str}, scope.names.lookup y = some .free → y ≠ p := fun {y} h z => by
    rw [z, L.par] at h
    cases h
  refine ⟨⟨e0.mod, L.kind, rfl, rfl, Nat.le_refl _, fun y z c q1 q2 => I.ok.inj y z c (cm q1) (cm q2), fun y hy => ?_, (fun y c z _ => Bool.noConfusion (show false = true from z)), fun _ => hd, Around.frames_deeper e0.frames, .inr ⟨rfl, rfl⟩, fun b z => absurd z (noA b), e0.bs, e0.bsz, fun b _ _ => noA b, fun b z => absurd z (noA b), e0.funs, e0.frf⟩,
    rfl, e0.bare, Un.kept kp, ⟨_, hns, fun i y v q1 q2 q3 => ?_⟩, fun y c e => ?_, e0.hok.fresh (Nat.le_refl _), fun y c e => I.freeC y c (cm e), fun q hq => absurd (show q ∈ ([] : List (Addr × Obj)) ++ [] from hq) (by simp), e0.hok.kept kp, by rw [List.length_set]; exact I.len⟩
  · have hy' : scope.names.lookup y = some .cell ∨ scope.names.lookup y = some .free := hy
    rcases hy' with k | k
    · exact absurd rfl (L.nocell _ (PySem.mem_of_lookup k))
    · exact look k
  · have q1' : X.N[i]? = some y := q1
    have q3' : Vis scope y := q3
    rcases q3' with k | k | k
    · have ey : y = p := L.own _ (PySem.mem_of_lookup k) rfl
      subst ey
      have ei : i = j := nodup_ix hN q1' hj
      subst ei
      have hl : i < σ.length := by
        rw [I.len]
        exact (List.getElem?_eq_some_iff.mp q1').1
      rw [List.getElem?_set_self hl] at q2
      have ev : x = v := Option.some.inj (Option.some.inj q2)
      subst ev
      exact ⟨u, rx, .inl ⟨k, by simp⟩⟩
    · exact absurd rfl (L.nocell _ (PySem.mem_of_lookup k))
    · have hij : i ≠ j := fun z => by
        rw [z, hj] at q1'
        exact np k (Option.some.inj q1').symm
      rw [List.getElem?_set_ne (Ne.symm hij)] at q2
      obtain ⟨m, hn, hl⟩ := I.loc
      have hvis : Vis X.env.scope y := (L.free _ (PySem.mem_of_lookup k) rfl).imp id id |> .inr
      obtain ⟨w', r, q⟩ := hl i y v q1' q2 hvis
      obtain ⟨c2, h2⟩ := look k
      have c1 := cm h2
      refine ⟨w', r, Or.inr ⟨Or.inr k, c2, h2, ?_⟩⟩
      rcases q with ⟨k', _⟩ | ⟨_, cz, e', z⟩
      · replace k' : X.env.scope.names.lookup y = some .local := k'
        rcases L.free _ (PySem.mem_of_lookup k) rfl with k2 | k2
        · rw [show X.env.scope.names.lookup y = _ from k2] at k'
          cases k'
        · rw [show X.env.scope.names.lookup y = _ from k2] at k'
          cases k'
      · rw [c1] at e'
        cases e'
        exact cellK z
  · exact (I.cell y c (cm e)).imp fun _ z => cellK z
theorem cx_none {P : Program} {w : World} {outer : List Env} {u : Value} {s' : Shared} : ¬ L2.CX P w outer H s E0 u s' := fun h => by
  exact (match h with | ⟨_, _, _, _, _, _, _, _, _, _, _, _, z⟩ => z)
/-- the lambda called with one value, by a built-in that X has called -/
theorem lam_call1 {A1 : Around} {k j : Nat} {params : Arguments} {body : Expr} {scope : Scope} {f c' : Addr} {pm ctv u : Value} {p : Str} {x : V} {tb : TE} {Q : VK} (I : Inv X pins σ H s) (L : LamS1 X.env.scope scope p) (hN : X.N.Nodup) (hj : X.N[j]? = some p) (rx : RelV x u) (hr : Room (k + 1) A1)
    (e0 : Env0 X.prog X.w X.K X.mg X.base A1 X.stack s H) (of1 : s.heap.get? f = some (PySem.W.kla_obj "<lambda>" (X.env.qual ++ "<lambda>") params body scope (cloFrom X.env.cells scope.names []) pm c' ctv)) (hc : H c' = some (CodeO c' (X.env.qual ++ "<lambda>")))
    (hbind : bindArgs (PySem.W.kla_fn "<lambda>" (X.env.qual ++ "<lambda>") params body scope (cloFrom X.env.cells scope.names []) pm (.ref c') ctv) ⟨[u], []⟩ = pure [(p, u)])
    (hbody : Room k (A1.deeper (lamEnv X scope s.heap.objs.size f c')) → PE (lamCx X A1 X.stack s H E0 scope f c') body tb) (ht : tb (σ.set j (some x)) H Q) :
    wpAny (model X.prog X.w) A1 (call (.ref f) [u]) (EP X pins σ Q) (fun _ _ => False) s := by
  obtain ⟨⟨oc, vs, t, hoc, hdc, hvc⟩, _, _⟩ := I.hok c' _ hc
  have rc : codeAny (model X.prog X.w) A1 (.call (.ref f) ⟨[u], []⟩) (CR (L2.CX X.prog X.w) X.stack X.prog X.w H s Q E0) s := by
    have cf : ∃ (c : Addr) (oc : Obj) (vs : Array Value) (t : Tok), Value.ref c' = .ref c ∧ s.heap.get? c = some oc ∧ oc.data = .fields vs ∧ vs[1]? = some (.str (X.env.qual ++ "<lambda>") t) := ⟨c', oc, vs, t, rfl, hoc, hdc, hvc⟩
    refine PySem.W.kla_callFunE hr.depth of1 rfl L.sync L.once rfl cf ?_
    rw [hbind]
    refine wpAny_pure (wpAny_newFunctionEnv L.nocell (fun y hy => by rw [List.mem_singleton.mp hy]; exact L.par) (fun g hns hsb => ⟨I.nolimit.fresh _ hsb, ?_⟩) L.kind)
    have kp : ∀ b o, s.heap.get? b = some o → g.get? b = some o := fun b o e => hsb.extBut b o (Nat.ne_of_lt (Heap.lt_size e)) (Heap.get?_push_of_some _ e)
    have J := lam_start1 (A := A1) (E := E0) (f := f) (c' := c') (tk := s.toks + ([(p, u)] : List (Str × Value)).length) I L hN hj rx e0 hr.hd hns kp
    refine PySem.W.kla_codeExpr (wpAny_mono ((hbody (hr.deeper _)).run [] _ _ H Q J ht) (fun v s' hq => ?_) fun e s' hq => hq)
    obtain ⟨v1, H1, J1, rv, qq⟩ := hq
    exact ⟨v1, H1, J1.os, J1.bare, J1.base, J1.hok, rv, qq⟩
  refine wpAny_call (codeAny_mono rc ?_)
  intro r s' hq
  cases r with
  | error e => exact cx_none hq
  | ok fl =>
    cases fl with
    | ret u => exact I.after hq
    | next => exact False.elim hq
    | brk => exact False.elim hq
    | cont => exact False.elim hq
end
end LS
set_option maxHeartbeats 4500000
/-! min(list, key=..): the built-in's loop over what the key is worth -/
namespace LS
open PySem L2 PySem.Spec PyProof.Rows LamX
section
variable {X : Cx} {pins : List (Addr × Obj)} {σ : L2.St}
/-- what the key does with the i-th item -/
def KeyTurn (X : Cx) (σ : L2.St) (J : Hp → Prop) (xs : List V) (kf : Nat → Int) (q : Addr) (obq : Obj) : Prop :=
  ∀ (i : Nat) (x : V) (u : Value) (H : Hp) (s : Shared) (pi : List (Addr × Obj)), xs[i]? = some x → RelV x u → J H → s.heap.get? q = some obq → Inv X pi σ H s →
    wpAny (model X.prog X.w) X.A.in1 (call (.ref q) [u]) (EP X pi σ fun v H' => v = .int (kf i) ∧ J H') (fun _ _ => False) s
theorem fp_of {H H' : Hp} {b : Addr} (f : FpOk X pins H b) (n : H' b = none) : FpOk X pins H' b := ⟨n, f.2⟩
theorem iter_ne {h : Heap} {l I : Addr} {items : Array Value} {i : Nat} (hl : h.IsList l items) (hi : h.IsListIter I l i) : l ≠ I := fun e => by
  obtain ⟨o, e1, c1, _⟩ := hl
  obtain ⟨o2, e2, c2, _⟩ := hi
  rw [e, e2] at e1
  cases e1
  rw [c1] at c2
  exact absurd (Value.type.inj c2) (by decide)
theorem min_loop {kw : List (Str × Value)} {J : Hp → Prop} {xs : List V} {kf : Nat → Int} {l q I S : Addr} {obq : Obj} {R : Result → Shared → Prop} (hh : X.A.in1.handled = none) (hJ : ∀ H, J H → SqL X.K H l xs) (turn : KeyTurn X σ J xs kf q obq) (hq : (q, obq) ∈ pins) (hSI : S ≠ I)
    (hR : ∀ (i : Nat) (x : V) (u : Value) (H : Hp) (s : Shared), xs[i]? = some x → RelV x u → (∀ j, j < xs.length → kf i ≤ kf j ∧ (j < i → kf i < kf j)) → J H → Inv X pins σ H s → R (.ok (.ret u)) s) :
    ∀ (r j i : Nat) (H : Hp) (s : Shared) (xb : V) (vb : Value) (tb : Tok) (c : Nat), xs.length - (j + 1) = r → j + 1 ≤ xs.length → Inv X pins σ H s → J H → FpOk X pins H I → FpOk X pins H S → s.heap.get? S = some (seqObj "list" #[vb, .int (kf i) tb] c) → s.heap.IsListIter I l (j + 1) →
      xs[i]? = some xb → RelV xb vb → i ≤ j → (∀ m, m ≤ j → kf i ≤ kf m ∧ (m < i → kf i < kf m)) → codeAny (model X.prog X.w) X.A (.builtin "min.loop" ⟨[.ref I, .ref q, .ref S], kw⟩) R s := by
  have nm : (toString "min" ++ toString ".loop" : String) = "min.loop" := by decide
  intro r
  induction r with
  | zero =>
    intro j i H s xb vb tb c hr hj iv jH fI fS gS hit hxb rb hij best
    obtain ⟨its, rv, p, hz⟩ := iv.list (hJ H jH)
    have ll := rv.length
    have W := Walks.list (prog := X.prog) (w := X.w) (A := X.A.in1) hh I l (iter_ne p.isList hit) its.toArray
    have hsz : its.toArray.size = j + 1 := by
      rw [List.size_toArray]
      omega
    refine codeAny_builtin PySem.F.entry_min_loop ?_; rw [Around.under_plainId PySem.F.plain_min_loop]
    show wpAny (model X.prog X.w) _ (seqItems? (.ref S) >>= _) _ _ s
    refine wpAny_bind (wpAny_seqItems gS rfl ?_); show wpAny (model X.prog X.w) _ (tryCatch (pyNext (.ref I)) _ >>= _) _ _ s
    refine wpAny_bind (wpAny_tryCatch (W.done _ _ _ ⟨by rw [hsz]; exact hit, p.isList⟩ fun g tk kp => ?_))
    obtain ⟨f0, f1, f2, f3, f4, f5⟩ := fI
    have iv1 : Inv X pins σ H { s with heap := g, toks := tk } := iv.turned (fun b o hb e => kp b o (by simpa using hb) e) f0 f1 f3 f4 f5
    have gS1 := kp S _ (by simpa using hSI) gS
    have sb := Heap.SameBut.update g S (Obj.mapSeq fun _ => (#[] : Array Value))
    obtain ⟨k0, k1, k2, k3, k4, k5⟩ := fS
    show wpAny (model X.prog X.w) _ (updateSeq S (fun _ => #[]) >>= _) _ _ _
    refine wpAny_bind (wpAny_updateSeq gS1 rfl (wpAny_bind (wpAny_letGo (wpAny_pure ?_))))
    exact hR i xb vb H _ hxb rb (fun m hm => best m (by omega)) jH (iv1.turned (t' := tk) (fun b o hb e => (sb.2 b hb).trans e) k0 k1 k3 k4 k5)
  | succ r ih =>
    intro j i H s xb vb tb c hr hj iv jH fI fS gS hit hxb rb hij best
    have hlt : j + 1 < xs.length := by omega
    obtain ⟨its, rv, p, hz⟩ := iv.list (hJ H jH)
    have ll := rv.length
    have W := Walks.list (prog := X.prog) (w := X.w) (A := X.A.in1) hh I l (iter_ne p.isList hit) its.toArray
    refine codeAny_builtin PySem.F.entry_min_loop ?_; rw [Around.under_plainId PySem.F.plain_min_loop]
    show wpAny (model X.prog X.w) _ (seqItems? (.ref S) >>= _) _ _ s
    refine wpAny_bind (wpAny_seqItems gS rfl ?_); show wpAny (model X.prog X.w) _ (tryCatch (pyNext (.ref I)) _ >>= _) _ _ s
    refine wpAny_bind (wpAny_tryCatch (W.item (j + 1) _ _ _ (by rw [List.size_toArray]; omega) ⟨hit, p.isList⟩ fun v g tk hP st kp => ?_))
    have hx1 : xs[j + 1]? = some xs[j + 1] := List.getElem?_eq_getElem hlt
    obtain ⟨u, hu, ru⟩ := rv.get hx1
    have ev : v = u := by
      have e1 : its[j + 1]? = some v := by simpa using hP
      exact Option.some.inj (e1.symm.trans hu)
    subst ev
    obtain ⟨f0, f1, f2, f3, f4, f5⟩ := id fI
    have iv1 : Inv X pins σ H { s with heap := g, toks := tk } := iv.turned (fun b o hb e => kp b o (by simpa using hb) e) f0 f1 f3 f4 f5
    have gS1 := kp S _ (by simpa using hSI) gS
    obtain ⟨oI, goI, cI, dI⟩ := id st.1
    have iv2 : Inv X (pins ++ [(S, seqObj "list" #[vb, .int (kf i) tb] c), (I, oI)]) σ H { s with heap := g, toks := tk } := iv1.pins_of fun z hz => by
      rcases List.mem_append.mp hz with z1 | z1
      · exact iv1.pin z (List.mem_append_right _ z1)
      · simp only [List.mem_cons, List.not_mem_nil, or_false] at z1
        rcases z1 with rfl | rfl
        · exact ⟨gS1, fS.1, fS.2.1, fS.2.2.1, fun v => by intro q; cases q⟩
        · exact ⟨goI, fI.1, fI.2.1, fI.2.2.1, fun v => by intro q; rw [dI] at q; cases q⟩
    have gq := (iv1.pin (q, obq) (List.mem_append_right _ hq)).1
    show wpAny (model X.prog X.w) _ (tryCatch (holding [v] (call (.ref q) [v])) _ >>= _) _ _ _
    refine wpAny_bind (wpAny_tryCatch (wpAny_holding (wpAny_mono (turn (j + 1) _ v H _ _ hx1 ru jH gq iv2) (fun w1 s2 he => ?_) fun _ _ hF => hF.elim)))
    obtain ⟨kv, H2, iv3, rk, ek, jH2⟩ := he
    subst ek
    obtain ⟨t2, et2⟩ := (show ∃ t, w1 = Value.int (kf (j + 1)) t from rk)
    subst et2
    have pS := iv3.pin (S, seqObj "list" #[vb, .int (kf i) tb] c) (List.mem_append_right _ (List.mem_append_right _ (by simp)))
    have pI := iv3.pin (I, oI) (List.mem_append_right _ (List.mem_append_right _ (by simp)))
    have iv4 : Inv X pins σ H2 s2 := iv3.unpinned
    have hit2 : s2.heap.IsListIter I l (j + 1 + 1) := ⟨oI, pI.1, cI, dI⟩
    show wpAny (model X.prog X.w) _ (tryCatch (holding [v, .int (kf (j + 1)) t2] (richCompare .Lt (.int (kf (j + 1)) t2) (.int (kf i) tb) >>= _)) _ >>= _) _ _ _
    refine wpAny_bind (wpAny_tryCatch (wpAny_holding (wpAny_bind (CmpOf.ints_lt (prog := X.prog) (w := X.w) (A := X.A.in1) (P := fun i v => ∃ t, v = .int (kf i) t) kf (fun i v h => h) (j + 1) i _ _ _ _ _ ⟨t2, rfl⟩ ⟨tb, rfl⟩ ?_))))
    refine wpAny_bind (wpAny_holding (wpAny_truthy_bool (wpAny_bind (wpAny_letGo (wpAny_pure ?_)))))
    by_cases less : kf (j + 1) < kf i
    · have sb := Heap.SameBut.update s2.heap S (Obj.mapSeq fun _ => #[v, .int (kf (j + 1)) t2])
      obtain ⟨c2, gS2⟩ : ∃ c2, (s2.heap.update S (Obj.mapSeq fun _ => #[v, .int (kf (j + 1)) t2])).get? S = some (seqObj "list" #[v, .int (kf (j + 1)) t2] c2) := ⟨_, get?_update_seq pS.1 fun _ => #[v, .int (kf (j + 1)) t2]⟩
      simp only [less, decide_true, if_true]
      refine wpAny_bind (wpAny_updateSeq pS.1 rfl (wpAny_bind (wpAny_letGo ?_)))
      rw [nm]
      have fS2 := fp_of (H' := H2) fS pS.2.1
      have fI2 := fp_of (H' := H2) fI pI.2.1
      obtain ⟨k0, k1, k2, k3, k4, k5⟩ := id fS2
      have iv5 : Inv X pins σ H2 { s2 with heap := s2.heap.update S (Obj.mapSeq fun _ => #[v, .int (kf (j + 1)) t2]) } := iv4.turned (t' := s2.toks) (fun b o hb e => (sb.2 b hb).trans e) k0 k1 k3 k4 k5
      refine wpAny_pure ⟨plainId_quiet PySem.F.plain_min_loop _, ih (j + 1) (j + 1) H2 _ _ v t2 c2 (by omega) hlt iv5 jH2 fI2 fS2 gS2 ⟨oI, (sb.2 I hSI.symm).trans pI.1, cI, dI⟩ hx1 ru (Nat.le_refl _) fun m hm => ?_⟩
      by_cases e : m = j + 1
      · subst e
        exact ⟨Int.le_refl _, fun z => absurd z (Nat.lt_irrefl _)⟩
      · have b1 := (best m (by omega)).1
        exact And.intro (by omega) (fun _ => by omega)
    · simp only [less, decide_false, Bool.false_eq_true, if_false]
      refine wpAny_bind (wpAny_letGo ?_); rw [nm]
      refine wpAny_pure ⟨plainId_quiet PySem.F.plain_min_loop _, ih (j + 1) i H2 s2 xb vb tb c (by omega) hlt iv4 jH2 (fp_of fI pI.2.1) (fp_of fS pS.2.1) pS.1 hit2 hxb rb (by omega) fun m hm => ?_⟩
      by_cases e : m = j + 1
      · subst e
        exact ⟨by omega, fun z => absurd z (by omega)⟩
      · exact best m (by omega)
/-- min(list, key=q), with or without a default -/
theorem min_keyG {ks : List (Str × Value)} {ho : Option Value} (hargs : ∀ l : Addr, argsOk "min" ⟨[.ref l], ks⟩) {J : Hp → Prop} {xs : List V} {kf : Nat → Int} {l q : Addr} {obq : Obj} {H : Hp} {s : Shared} {Q : Value → Shared → Prop} {E : Value → Shared → Prop} (hh : X.A.in1.handled = none) (hJ : ∀ H, J H → SqL X.K H l xs) (turn : KeyTurn X σ J xs kf q obq) (hq : (q, obq) ∈ pins) (hne : xs ≠ []) (iv : Inv X pins σ H s) (jH : J H) (hbp : Builtin.Builtins.bindParams "min" ["key", "default"] 0 ⟨[], ks⟩ = pure [some (.ref q), ho])
    (hQ : ∀ (i : Nat) (x : V) (u : Value) (H : Hp) (s : Shared), xs[i]? = some x → RelV x u → (∀ j, j < xs.length → kf i ≤ kf j ∧ (j < i → kf i < kf j)) → J H → Inv X pins σ H s → Q u s) :
    wpAny (model X.prog X.w) X.A (call (.builtin "min") [.ref l] ks) Q E s := by
  have nm : (toString "min" ++ toString ".loop" : String) = "min.loop" := by decide
  have hpos : 0 < xs.length := List.length_pos_iff.mpr hne
  obtain ⟨its, rv, p, hz⟩ := iv.list (hJ H jH)
  have ll := rv.length
  refine kmk_tree PySem.F.kind_min PySem.F.plain_min PySem.F.entry_min (hargs _) ?_; show wpAny (model X.prog X.w) _ (Builtin.Builtins.bindParams "min" ["key", "default"] 0 ⟨[], ks⟩ >>= _) _ _ s
  refine wpAny_bind (wpAny_of_eq hbp ?_)
  refine wpAny_bind (wpAny_pure (wpAny_bind (wpAny_pyIter_list p.isList (wpAny_bind (wpAny_newList ?_ (Nat.zero_le _))))))
  rw [nm]
  generalize hg : (s.heap.push { cls := .type "list_iterator", data := .fields #[.ref l, .int 0 0] }) = g1
  have z1 : g1.objs.size = s.heap.objs.size + 1 := by
    rw [← hg]
    exact Heap.size_push ..
  have k1 : ∀ b o, s.heap.get? b = some o → (g1.push (seqObj "list" #[] 0)).get? b = some o := fun b o e => by
    subst hg
    exact Heap.get?_push_of_some _ ((Heap.get?_push_of_some _ e))
  have gI : (g1.push (seqObj "list" #[] 0)).get? s.heap.objs.size = some { cls := .type "list_iterator", data := .fields #[.ref l, .int 0 0] } := by
    rw [← hg]
    exact Heap.get?_push_of_some _ (Heap.get?_push_size _ rfl)
  have gS : (g1.push (seqObj "list" #[] 0)).get? g1.objs.size = some (seqObj "list" #[] 0) := Heap.get?_push_size _ rfl
  have iv0 : Inv X pins σ H { s with heap := g1.push (seqObj "list" #[] 0) } := iv.kept (t' := s.toks) k1
  have fI : FpOk X pins H s.heap.objs.size := iv.fpOk (Nat.le_refl _) (iv.hok.fresh (Nat.le_refl _))
  have le1 : s.heap.objs.size ≤ g1.objs.size := by
    rw [z1]
    exact Nat.le_succ _
  have fS : FpOk X pins H g1.objs.size := iv.fpOk le1 (iv.hok.fresh le1)
  have hSI : g1.objs.size ≠ s.heap.objs.size := by
    rw [z1]
    exact Nat.succ_ne_self _
  refine wpAny_pure (And.intro (plainId_quiet PySem.F.plain_min_loop _) ?_)
  have p0 : (g1.push (seqObj "list" #[] 0)).IsList l its.toArray := p.isList.at fun o e => k1 l o e
  have it0 : (g1.push (seqObj "list" #[] 0)).IsListIter s.heap.objs.size l 0 := ⟨_, gI, rfl, rfl⟩
  have W := Walks.list (prog := X.prog) (w := X.w) (A := X.A.in1) hh s.heap.objs.size l (iter_ne p0 it0) its.toArray
  refine codeAny_builtin PySem.F.entry_min_loop ?_; rw [Around.under_plainId PySem.F.plain_min_loop]
  show wpAny (model X.prog X.w) _ (seqItems? (.ref g1.objs.size) >>= _) _ _ _
  refine wpAny_bind (wpAny_seqItems gS rfl ?_); show wpAny (model X.prog X.w) _ (tryCatch (pyNext (.ref s.heap.objs.size)) _ >>= _) _ _ _
  refine wpAny_bind (wpAny_tryCatch (W.item 0 _ _ _ (by rw [List.size_toArray]; omega) ⟨it0, p0⟩ fun v g tk hP st kp => ?_))
  have hx0 : xs[0]? = some xs[0] := List.getElem?_eq_getElem hpos
  obtain ⟨u, hu, ru⟩ := rv.get hx0
  have ev : v = u := by
    have e1 : its[0]? = some v := by simpa using hP
    exact Option.some.inj (e1.symm.trans hu)
  subst ev
  obtain ⟨f0, f1, f2, f3, f4, f5⟩ := id fI
  have iv1 : Inv X pins σ H { s with heap := g, toks := tk } := iv0.turned (t' := tk) (fun b o hb e => kp b o (by simpa using hb) e) f0 f1 f3 f4 f5
  have gS1 := kp g1.objs.size _ (by simpa using hSI) gS
  obtain ⟨oI, goI, cI, dI⟩ := id st.1
  have iv2 : Inv X (pins ++ [(g1.objs.size, seqObj "list" #[] 0), (s.heap.objs.size, oI)]) σ H { s with heap := g, toks := tk } := iv1.pins_of fun z hz => by
    rcases List.mem_append.mp hz with q1 | q1
    · exact iv1.pin z (List.mem_append_right _ q1)
    · simp only [List.mem_cons, List.not_mem_nil, or_false] at q1
      rcases q1 with rfl | rfl
      · exact ⟨gS1, fS.1, fS.2.1, fS.2.2.1, fun v => by intro q; cases q⟩
      · exact ⟨goI, fI.1, fI.2.1, fI.2.2.1, fun v => by intro q; rw [dI] at q; cases q⟩
  have gq := (iv1.pin (q, obq) (List.mem_append_right _ hq)).1
  show wpAny (model X.prog X.w) _ (tryCatch (holding [v] (call (.ref q) [v])) _ >>= _) _ _ _
  refine wpAny_bind (wpAny_tryCatch (wpAny_holding (wpAny_mono (turn 0 _ v H _ _ hx0 ru jH gq iv2) (fun w1 s2 he => ?_) fun _ _ hF => hF.elim)))
  obtain ⟨kv, H2, iv3, rk, ek, jH2⟩ := he
  subst ek
  obtain ⟨t2, et2⟩ := (show ∃ t, w1 = Value.int (kf 0) t from rk)
  subst et2
  have pS := iv3.pin (g1.objs.size, seqObj "list" #[] 0) (List.mem_append_right _ (List.mem_append_right _ (by simp)))
  have pI := iv3.pin (s.heap.objs.size, oI) (List.mem_append_right _ (List.mem_append_right _ (by simp)))
  have iv4 : Inv X pins σ H2 s2 := iv3.unpinned
  have sb := Heap.SameBut.update s2.heap g1.objs.size (Obj.mapSeq fun _ => #[v, .int (kf 0) t2])
  obtain ⟨c2, gS2⟩ : ∃ c2, (s2.heap.update g1.objs.size (Obj.mapSeq fun _ => #[v, .int (kf 0) t2])).get? g1.objs.size = some (seqObj "list" #[v, .int (kf 0) t2] c2) := ⟨_, get?_update_seq pS.1 fun _ => #[v, .int (kf 0) t2]⟩
  show wpAny (model X.prog X.w) _ (updateSeq g1.objs.size (fun _ => #[v, .int (kf 0) t2]) >>= _) _ _ _
  refine wpAny_bind (wpAny_updateSeq pS.1 rfl ?_)
  rw [nm]
  have fS2 := fp_of (H' := H2) fS pS.2.1
  have fI2 := fp_of (H' := H2) fI pI.2.1
  obtain ⟨k0, k1, k2, k3, k4, k5⟩ := id fS2
  have iv5 : Inv X pins σ H2 { s2 with heap := s2.heap.update g1.objs.size (Obj.mapSeq fun _ => #[v, .int (kf 0) t2]) } := iv4.turned (t' := s2.toks) (fun b o hb e => (sb.2 b hb).trans e) k0 k1 k3 k4 k5
  refine wpAny_pure ⟨plainId_quiet PySem.F.plain_min_loop _, min_loop hh hJ turn hq hSI (R := fun r s' => match r with | .ok (.ret v) => Q v s' | .ok _ => False | .error e => E e s') hQ _ 0 0 H2 _ _ v t2 c2 rfl hpos iv5 jH2 fI2 fS2 gS2 ⟨oI, (sb.2 _ hSI.symm).trans pI.1, cI, dI⟩ hx0 ru (Nat.le_refl _) fun m hm => ?_⟩
  have e : m = 0 := by omega
  subst e
  exact ⟨Int.le_refl _, fun z => absurd z (Nat.lt_irrefl _)⟩
theorem args_kd (a v d : Value) : argsOk "min" ⟨[a], [(Str.ofString "key", v), (Str.ofString "default", d)]⟩ := by unfold argsOk; kernel_rfl
end
end LS
set_option maxHeartbeats 4500000
/-! min(e, key=lambda x: body) as a rule of the hand layer -/
namespace LS
open PySem L2 PySem.Spec PyProof.Rows LamX
section
variable {X : Cx}
def tMinK (K : PySem.W.Frag) (qual : Str) (T : List (Addr × Str)) (j : Nat) (ta : TA) (tb : TE) : TE := fun σ H Q => ta σ H fun vs H1 => ∃ (l : Addr) (xs : List V), vs = [.ref l] ∧ xs ≠ [] ∧ Tabs T H1 ∧ ∀ H2 c', ExtN H1 H2 → Tabs T H2 → H2 c' = some (CodeO c' (qual ++ "<lambda>")) →
  ∃ (J : Hp → Prop) (kf : Nat → Int), J H2 ∧ (∀ H3, J H3 → SqL K H3 l xs ∧ H3 c' = some (CodeO c' (qual ++ "<lambda>"))) ∧ (∀ i x H3, xs[i]? = some x → J H3 → tb (σ.set j (some x)) H3 fun v H4 => v = .int (kf i) ∧ J H4) ∧
    ∀ i x H3, xs[i]? = some x → (∀ m, m < xs.length → kf i ≤ kf m ∧ (m < i → kf i < kf m)) → J H3 → Q x H3
theorem pe_minK {T : List (Addr × Str)} {c P : Addr} {k j : Nat} {params : Arguments} {e body : Expr} {scope : Scope} {par : Str} {ta : TA} {tb : TE} {pn lpos kpos pos : Pos} (hg : Gl X "min") (hm : X.mg "min" = none) (TB : TabB X.base X.mg c P) (hcode : X.env.code = .ref c) (hmT : (P, X.env.qual ++ "<lambda>") ∈ T) (hu : ∀ p ∈ T, p.1 = P → p.2 = X.env.qual ++ "<lambda>")
    (hr : Room (k + 2) X.A) (hc : X.calm = true) (hN : X.N.Nodup) (hj : X.N[j]? = some par) (L : LamS1 X.env.scope scope par) (hdef : defaultsOf params X.env = ([], []))
    (hbind : ∀ (q : Str) (cl : List (Str × Addr)) (pm cv ctv u : Value), bindArgs (PySem.W.kla_fn "<lambda>" q params body scope cl pm cv ctv) ⟨[u], []⟩ = pure [(par, u)])
    (ha : PA X [e] ta) (hbody : ∀ (A : Around) (s : Shared) (H : Hp) (f c' : Addr), Room k (A.deeper (lamEnv X scope s.heap.objs.size f c')) → PE (lamCx X A X.stack s H E0 scope f c') body tb)
    (he : backTo pos (starEach [e] X.env) = (false, eval e X.env) :: backTo pos (starEach [] X.env) := by rfl) (hpl : (backTo pos (starEach [e] X.env)).any (·.1) = false := by rfl) (hst : X.stack = X.env :: X.outer := by rfl) (hfm : X.env.frame = some X.env.locals := by rfl) :
    PE X (.Call (.Name "min" pn) [e] [⟨some (Str.ofString "key"), .Lambda params body scope lpos, kpos⟩] pos) (tMinK X.K X.env.qual T j ta tb) := by
  refine ⟨fun pi s σ H Q I h => wpAny_Call_Name_kw (ld_blt I hg hm boot_min ?_ (by decide) (by decide))⟩
  refine callWith_kw (thn (ha.run pos pi s σ H _ I h) fun us s1 ⟨vs, H1, I1, r1, l, xs, ev, hne, hT, rest⟩ => ?_) he hpl (by rfl) (by rfl)
  subst ev
  have eu : us = [.ref l] := by
    cases r1 with
    | cons a b =>
      cases b
      cases a
      rfl
  subst eu
  show wpAny (model X.prog X.w) X.A (evalAll [do let v ← eval (.Lambda params body scope lpos) X.env; standAt pos; pure v]) _ _ s1
  refine wpAny_evalAll_cons (wpAny_bind (lam_make2 I1 TB hcode hmT hu hT hdef (L.has I1.ok) fun f c' pm ctv H2 s2 I2 eN T2 hf hfn hfr hco => ?_))
  refine wpAny_bind (wpAny_standAt (wpAny_pure (wpAny_evalAll_nil ?_)))
  obtain ⟨J, kf, j2, hJ, step, fin⟩ := rest H2 c' eN T2 hco
  have nl : f ≠ X.env.locals ∧ f ∉ X.fs := by
    have e1 : frs X.stack = X.env.locals :: frs X.outer := by
      rw [hst]
      show List.filterMap (fun x => x.frame) (X.env :: X.outer) = _
      rw [List.filterMap_cons, hfm]
      rfl
    rw [e1] at hfr
    exact ⟨fun z => hfr (by rw [z]; exact List.mem_cons_self), fun z => hfr (List.mem_cons_of_mem _ z)⟩
  have I3 : Inv X (pi ++ [(f, PySem.W.kla_obj "<lambda>" (X.env.qual ++ "<lambda>") params body scope (cloFrom X.env.cells scope.names []) pm c' ctv)]) σ H2 s2 := I2.pins_of fun z hz => by
    rcases List.mem_append.mp hz with q1 | q1
    · exact I2.pin z (List.mem_append_right _ q1)
    · rw [show z = _ from List.mem_singleton.mp q1]
      exact ⟨hf, hfn, nl.1, nl.2, fun v => by intro q; cases q⟩
  show wpAny (model X.prog X.w) X.A (call (.builtin "min") [.ref l] [(Str.ofString "key", .ref f)]) _ _ s2
  have hh : X.A.in1.handled = none := I2.ok.hd hc
  refine min_keyG (ho := none) (fun _ => kmk_min_key _ _) (J := J) (xs := xs) (kf := kf) hh (fun H hH => (hJ H hH).1) (fun i x u H' s' pi' hx ru hJ' gq iv => ?_) (List.mem_append_right _ (List.mem_singleton.mpr rfl)) hne I3 j2 rfl fun i x u H' s' hx ru best hJ' iv => ⟨x, H', iv.unpinned, ru, fin i x H' hx best hJ'⟩
  exact lam_call1 (k := k) iv L hN hj ru hr.in1 iv.env0.in1 gq (hJ H' hJ').2 (hbind _ _ _ _ _ _) (hbody X.A.in1 s' H' f c') (step i x H' hx hJ')
def tMinKD (K : PySem.W.Frag) (qual : Str) (T : List (Addr × Str)) (j : Nat) (ta : TA) (tb td : TE) : TE := fun σ H Q => ta σ H fun vs H1 => ∃ (l : Addr) (xs : List V), vs = [.ref l] ∧ xs ≠ [] ∧ Tabs T H1 ∧ ∀ H2 c', ExtN H1 H2 → Tabs T H2 → H2 c' = some (CodeO c' (qual ++ "<lambda>")) → td σ H2 fun _ H2 =>
  ∃ (J : Hp → Prop) (kf : Nat → Int), J H2 ∧ (∀ H3, J H3 → SqL K H3 l xs ∧ H3 c' = some (CodeO c' (qual ++ "<lambda>"))) ∧ (∀ i x H3, xs[i]? = some x → J H3 → tb (σ.set j (some x)) H3 fun v H4 => v = .int (kf i) ∧ J H4) ∧
    ∀ i x H3, xs[i]? = some x → (∀ m, m < xs.length → kf i ≤ kf m ∧ (m < i → kf i < kf m)) → J H3 → Q x H3
theorem pe_minKD {T : List (Addr × Str)} {c P : Addr} {k j : Nat} {params : Arguments} {e body ed : Expr} {scope : Scope} {par : Str} {ta : TA} {tb td : TE} {pn lpos kpos dpos pos : Pos} (hg : Gl X "min") (hm : X.mg "min" = none) (TB : TabB X.base X.mg c P) (hcode : X.env.code = .ref c) (hmT : (P, X.env.qual ++ "<lambda>") ∈ T) (hu : ∀ p ∈ T, p.1 = P → p.2 = X.env.qual ++ "<lambda>")
    (hr : Room (k + 2) X.A) (hc : X.calm = true) (hN : X.N.Nodup) (hj : X.N[j]? = some par) (L : LamS1 X.env.scope scope par) (hdef : defaultsOf params X.env = ([], []))
    (hbind : ∀ (q : Str) (cl : List (Str × Addr)) (pm cv ctv u : Value), bindArgs (PySem.W.kla_fn "<lambda>" q params body scope cl pm cv ctv) ⟨[u], []⟩ = pure [(par, u)])
    (ha : PA X [e] ta) (hd : PE X ed td) (hbody : ∀ (A : Around) (s : Shared) (H : Hp) (f c' : Addr), Room k (A.deeper (lamEnv X scope s.heap.objs.size f c')) → PE (lamCx X A X.stack s H E0 scope f c') body tb)
    (he : backTo pos (starEach [e] X.env) = (false, eval e X.env) :: backTo pos (starEach [] X.env) := by rfl) (hpl : (backTo pos (starEach [e] X.env)).any (·.1) = false := by rfl) (hst : X.stack = X.env :: X.outer := by rfl) (hfm : X.env.frame = some X.env.locals := by rfl) :
    PE X (.Call (.Name "min" pn) [e] [⟨some (Str.ofString "key"), .Lambda params body scope lpos, kpos⟩, ⟨some (Str.ofString "default"), ed, dpos⟩] pos) (tMinKD X.K X.env.qual T j ta tb td) := by
  refine ⟨fun pi s σ H Q I h => wpAny_Call_Name_kw (ld_blt I hg hm boot_min ?_ (by decide) (by decide))⟩
  refine callWith_kw (thn (ha.run pos pi s σ H _ I h) fun us s1 ⟨vs, H1, I1, r1, l, xs, ev, hne, hT, rest⟩ => ?_) he hpl (by rfl) (by rfl)
  subst ev
  have eu : us = [.ref l] := by
    cases r1 with
    | cons a b =>
      cases b
      cases a
      rfl
  subst eu
  show wpAny (model X.prog X.w) X.A (evalAll [do let v ← eval (.Lambda params body scope lpos) X.env; standAt pos; pure v, do let v ← eval ed X.env; standAt pos; pure v]) _ _ s1
  refine wpAny_evalAll_cons (wpAny_bind (lam_make2 I1 TB hcode hmT hu hT hdef (L.has I1.ok) fun f c' pm ctv H2 s2 I2 eN T2 hf hfn hfr hco => ?_))
  refine wpAny_bind (wpAny_standAt (wpAny_pure ?_)); show wpAny (model X.prog X.w) X.A _ _ _ s2
  have nl : f ≠ X.env.locals ∧ f ∉ X.fs := by
    have e1 : frs X.stack = X.env.locals :: frs X.outer := by
      rw [hst]
      show List.filterMap (fun x => x.frame) (X.env :: X.outer) = _
      rw [List.filterMap_cons, hfm]
      rfl
    rw [e1] at hfr
    exact ⟨fun z => hfr (by rw [z]; exact List.mem_cons_self), fun z => hfr (List.mem_cons_of_mem _ z)⟩
  have I3 : Inv X (pi ++ [(f, PySem.W.kla_obj "<lambda>" (X.env.qual ++ "<lambda>") params body scope (cloFrom X.env.cells scope.names []) pm c' ctv)]) σ H2 s2 := I2.pins_of fun z hz => by
    rcases List.mem_append.mp hz with q1 | q1
    · exact I2.pin z (List.mem_append_right _ q1)
    · rw [show z = _ from List.mem_singleton.mp q1]
      exact ⟨hf, hfn, nl.1, nl.2, fun v => by intro q; cases q⟩
  refine wpAny_evalAll_cons (wpAny_bind (thn (hd.run _ s2 σ H2 _ I3 (rest H2 c' eN T2 hco)) fun ud s5 ⟨vd, H5, I5, rd, J, kf, j2, hJ, step, fin⟩ => ?_))
  refine wpAny_bind (wpAny_standAt (wpAny_pure (wpAny_evalAll_nil ?_)))
  show wpAny (model X.prog X.w) X.A (call (.builtin "min") [.ref l] [(Str.ofString "key", .ref f), (Str.ofString "default", ud)]) _ _ s5
  have hh : X.A.in1.handled = none := I5.ok.hd hc
  refine min_keyG (ho := some ud) (fun _ => args_kd _ _ _) (J := J) (xs := xs) (kf := kf) hh (fun H hH => (hJ H hH).1) (fun i x u H' s' pi' hx ru hJ' gq iv => ?_) (List.mem_append_right _ (List.mem_singleton.mpr rfl)) hne I5 j2 rfl fun i x u H' s' hx ru best hJ' iv => ⟨x, H', iv.unpinned, ru, fin i x H' hx best hJ'⟩
  exact lam_call1 (k := k) iv L hN hj ru hr.in1 iv.env0.in1 gq (hJ H' hJ').2 (hbind _ _ _ _ _ _) (hbody X.A.in1 s' H' f c') (step i x H' hx hJ')
end
end LS
/-! comprehensions of two clauses; heaps where only the tables of code objects change; lists of stretches and of pairs -/
namespace LS
open PySem L2 PySem.Spec PyProof.Rows LamX
/-! ### all but the tables stays -/
theorem Tn.ext {H H' : Hp} {a : Addr} {xs : List V} (h : Tn H a xs) (e : ExtN H H') : Tn H' a xs := by
  obtain ⟨ob, h, d⟩ := h
  exact ⟨ob, e _ _ h (fun ps z => by cases z), d⟩
theorem lst_ext {H H' : Hp} {a : Addr} {xs : List V} (h : H a = some (.lst xs)) (e : ExtN H H') : H' a = some (.lst xs) := e _ _ h (fun ps z => by cases z)
theorem sqL_ext {K : PySem.W.Frag} {H H' : Hp} {a : Addr} {xs : List V} (e : ExtN H H') (h : SqL K H a xs) : SqL K H' a xs := by
  rcases h with (g | ⟨ob, g⟩) | g
  · exact .inl (.inl (e _ _ g (fun ps z => by cases z)))
  · exact .inl (.inr ⟨ob, e _ _ g (fun ps z => by cases z)⟩)
  · exact .inr g
theorem ext_of {H H' : Hp} (e : Same H H') : ExtN H H' := ExtN.of e
theorem tabs_same {T : List (Addr × Str)} {H H' : Hp} (t : Tabs T H) (e : Same H H') : Tabs T H' := t.ext e
/-! ### a def whose code object is known -/
structure FunC (K : PySem.W.Frag) (x qual : Str) (st : Stmt) (f : Addr) (fd : FuncData) (c : Addr) : Prop where
  ex : ∃ (oc : Value) (od : Option Addr) (kV doc pm : Value) (an : Option Addr) (ct : Value) (osl : Array (Option Value)),
    fd = PySem.W.fnOf x qual (defArgs st) (defBody st) (defScope st) .none kV doc pm an (.ref c) ct ∧ K.lookup f = some ⟨oc, od, .func fd, osl⟩ ∧ PySem.W.codeIn K (.ref c) qual = true
  keep : PySem.W.keepIn K (.ref f) = true
section
variable {K : PySem.W.Frag} {mg : Str → Option Value} {P : Program} {w : World} {base : Heap} {x qual : Str} {st : Stmt} {f c : Addr} {fd : FuncData}
theorem FunC.fun_ (F : FunC K x qual st f fd c) : Fun K x qual st f fd := by
  obtain ⟨oc, od, kV, doc, pm, an, ct, osl, e1, e2, e3⟩ := F.ex
  exact ⟨⟨oc, od, kV, doc, pm, an, .ref c, ct, osl, e1, e2, e3⟩, F.keep⟩
theorem FunC.ok {N ps : List Str} {k : Nat} {sp : Sp} (F : FunC K x qual st f fd c) (S : FnScope N ps (defScope st)) (len : ∀ vs H Q E, sp vs H Q E → vs.length = ps.length)
    (hb : ∀ (A : Around) (outer : List Env) (s : Shared) (H : Hp) (vs : List V) (Q : VK) (E : XK), Room k (A.deeper (envOfC qual (defScope st) s.heap.objs.size f (.ref c))) → sp vs H Q E →
      ∃ t, PSs (cxOf CX0 P w K mg base N qual (defScope st) f (.ref c) A outer s H E).nox (defBody st) t ∧ t { nx := fun _ H' => Q .non H', rt := Q } (start N vs) H) : FnOk P w K mg base CX0 (k + 1) f fd ps sp := by
  obtain ⟨oc, od, kV, doc, pm, an, ct, osl, rfl, lk, hcd⟩ := F.ex
  exact fn_of lk hcd S len fun A outer s H vs Q E hr hsp => (hb A outer s H vs Q E hr hsp).imp fun t q => ⟨q.1.nox, q.2⟩
end
/-! ### rules with the written part named -/
section
variable {X : Cx} {K : PySem.W.Frag}
theorem pe_tindexK {o e : Expr} {es : List Expr} {to : TE} {t : TA} {apos cpos : Pos} (hK : X.K = K) (ho : PE X o to) (ha : PA X (e :: es) t)
    (hbase : attributeBase o "index" X.env (eval o X.env) = eval o X.env := by rfl)
    (hfew : ((backTo cpos (starEach (e :: es) X.env)).all (fun x => !x.1) && (backToKw cpos (keywordEach [] X.env)).all (fun x => x.1.isSome) && decide ((e :: es).length + ([] : List Keyword).length + (if ([] : List Keyword).isEmpty then 0 else 1) < 30)) = true := by rfl)
    (hline : (apos.endLine == cpos.line) = true := by rfl) (hs : starEach (e :: es) X.env = (false, eval e X.env) :: starEach es X.env := by rfl) (hplain : (backTo cpos (starEach es X.env)).any (·.1) = false := by rfl) : PE X (.Call (.Attribute o "index" apos) (e :: es) [] cpos) (tTIx K to t) := by
  subst hK
  exact pe_tindex ho ha hbase hfew hline hs hplain
theorem pi_tupK {tg l : Expr} {tl : TE} (hK : X.K = K) (h : PE X l tl) : PI X tg l (iTup K tl) := by
  subst hK
  exact pi_tup h
theorem pi_enumK {e : Expr} {ta : TA} {p pos tpos : Pos} {elts : List Expr} {kk : Nat} (hK : X.K = K) (hg : Gl X "enumerate") (hm : X.mg "enumerate" = none) (ha : PA X [e] ta) (hs : starEach [e] X.env = [(false, eval e X.env)] := by rfl) :
    PI X (.Tuple elts kk tpos) (.Call (.Name "enumerate" p) [e] [] pos) (iEnumT K ta) := by
  subst hK
  exact pi_enumT hg hm ha hs
end
/-! ### the second clause of a comprehension, and the first -/
theorem yes_then {σ : L2.St} {H : Hp} {A B : Hp → Prop} (h : A H) : tYes σ H fun b H3 => if b = true then A H3 else B H3 := by
  unfold tYes
  dsimp only
  rw [if_pos rfl]
  exact h
theorem in_it {J : It} {n : Nat} {G : Hp → Prop} {Y : Nat → Hp → V → Hp → Prop} (wk : Walk J n G Y) {g : TG} {tt : TT} {te : TE} {vs : List Nat} {σ : L2.St} {H0 : Hp} {D : Addr} {Nx : Hp → Prop} (Pv : Nat → Hp → Prop) (h0 : Pv 0 H0) (hG : ∀ i H, i ≤ n → Pv i H → G H)
    (hs : ∀ i x H H', i < n → Pv i H → Y i H x H' → g x (wipe σ vs) H' fun σ3 H5 => wipe σ3 vs = wipe σ vs ∧ tt σ3 H5 fun b H6 => if b = true then te σ3 H6 fun y H7 => ∃ acc, H7 D = some (.lst acc) ∧ acc.length < sizeLine ∧ Pv (i + 1) (upd H7 D (.lst (acc ++ [y]))) else Pv (i + 1) H6) (hd : ∀ H, Pv n H → Nx H) :
    ∃ W1 : Nat → Nat → Hp → Prop, (∃ m, W1 0 m H0) ∧ ∀ j k H, W1 j k H → (J.stop j H ∧ Nx H) ∨ (J.go j H ∧ ∃ Nx1 : Hp → Prop, (∀ H', Nx1 H' → ∃ k', k' < k ∧ W1 (j + 1) k' H') ∧ ∀ x H', J.yld j H x H' → g x (wipe σ vs) H' fun σ3 H5 => wipe σ3 vs = wipe σ vs ∧ tt σ3 H5 fun b H6 =>
      if b = true then te σ3 H6 fun y H7 => ∃ acc, H7 D = some (.lst acc) ∧ acc.length < sizeLine ∧ Nx1 (upd H7 D (.lst (acc ++ [y]))) else Nx1 H6) := by
  refine ⟨fun i m H => m = n - i ∧ i ≤ n ∧ Pv i H, ⟨n, rfl, Nat.zero_le _, h0⟩, ?_⟩
  rintro i m H ⟨rfl, hi, p⟩
  have q := hG i H hi p
  by_cases hlt : i < n
  · exact .inr ⟨wk.goes i H hlt q, Pv (i + 1), fun H' p' => ⟨n - (i + 1), by omega, rfl, hlt, p'⟩, fun x H' y => hs i x H H' hlt p (wk.yields i H x H' hlt q y)⟩
  · have e : i = n := by omega
    subst e
    exact .inl ⟨wk.stops H q, hd H p⟩
theorem out_it {J : It} {n : Nat} {G : Hp → Prop} {Y : Nat → Hp → V → Hp → Prop} (wk : Walk J n G Y) {Tn' : Nat → V → Hp → Hp → (Hp → Prop) → Prop} {H1 : Hp} {D : Addr} {Qd : Hp → Prop} (Pv : Nat → Hp → Prop) (h0 : Pv 0 (upd H1 D (.lst []))) (hG : ∀ i H, i ≤ n → Pv i H → G H)
    (hs : ∀ i x H H', i < n → Pv i H → Y i H x H' → Tn' i x H H' (Pv (i + 1))) (hd : ∀ H, Pv n H → Qd H) :
    ∃ W : Nat → Nat → Hp → Prop, (∃ m, W 0 m (upd H1 D (.lst []))) ∧ ∀ i m H, W i m H → (J.stop i H ∧ Qd H) ∨ (J.go i H ∧ ∃ Nx : Hp → Prop, (∀ H', Nx H' → ∃ m', m' < m ∧ W (i + 1) m' H') ∧ ∀ x H', J.yld i H x H' → Tn' i x H H' Nx) := by
  refine ⟨fun i m H => m = n - i ∧ i ≤ n ∧ Pv i H, ⟨n, rfl, Nat.zero_le _, h0⟩, ?_⟩
  rintro i m H ⟨rfl, hi, p⟩
  have q := hG i H hi p
  by_cases hlt : i < n
  · exact .inr ⟨wk.goes i H hlt q, Pv (i + 1), fun H' p' => ⟨n - (i + 1), by omega, rfl, hlt, p'⟩, fun x H' y => hs i x H H' hlt p (wk.yields i H x H' hlt q y)⟩
  · have e : i = n := by omega
    subst e
    exact .inl ⟨wk.stops H q, hd H p⟩
/-! ### pairs -/
def wp1 (o : List Str) (x : Str) (r : List Str) : List (Str × Str) := (r.filter fun y => bef o y x).map fun y => (x, y)
def wpairs (o : List Str) : List Str → List (Str × Str)
  | [] => []
  | x :: xs => wp1 o x xs ++ wpairs o xs
theorem wpairs_len (o : List Str) : ∀ s : List Str, (wpairs o s).length = inv o s
  | [] => rfl
  | x :: xs => by
    show (wp1 o x xs ++ wpairs o xs).length = xs.countP _ + inv o xs
    rw [List.length_append, wpairs_len o xs]
    unfold wp1
    rw [List.length_map, List.countP_eq_length_filter]
theorem inv_le (o : List Str) : ∀ s : List Str, inv o s ≤ s.length * s.length
  | [] => Nat.zero_le _
  | x :: xs => by
    have ih := inv_le o xs
    have h1 : xs.countP (fun y => bef o y x) ≤ xs.length := List.countP_le_length
    show xs.countP _ + inv o xs ≤ (xs.length + 1) * (xs.length + 1)
    have : (xs.length + 1) * (xs.length + 1) = xs.length * xs.length + xs.length + xs.length + 1 := by
      rw [Nat.add_mul, Nat.mul_add]
      omega
    omega
/-! ### stretches -/
def Prs (H : Hp) : List Addr → List (Nat × Nat) → Prop
  | [], [] => True
  | a :: as, c :: cs => Tn H a [.int (c.1 : Int), .int (c.2 : Int)] ∧ Prs H as cs
  | _, _ => False
theorem Prs.ext {H H' : Hp} (e : ExtN H H') : ∀ {as : List Addr} {cs : List (Nat × Nat)}, Prs H as cs → Prs H' as cs
  | [], [], _ => trivial
  | _ :: _, _ :: _, h => ⟨h.1.ext e, Prs.ext e h.2⟩
theorem Prs.len {H : Hp} : ∀ {as : List Addr} {cs : List (Nat × Nat)}, Prs H as cs → as.length = cs.length
  | [], [], _ => rfl
  | _ :: as, _ :: cs, h => by
    show as.length + 1 = cs.length + 1
    rw [Prs.len h.2]
theorem Prs.snoc {H : Hp} {a : Addr} {c : Nat × Nat} (hc : Tn H a [.int (c.1 : Int), .int (c.2 : Int)]) : ∀ {as : List Addr} {cs : List (Nat × Nat)}, Prs H as cs → Prs H (as ++ [a]) (cs ++ [c])
  | [], [], _ => ⟨hc, trivial⟩
  | _ :: _, _ :: _, h => ⟨h.1, Prs.snoc hc h.2⟩
theorem Prs.get {H : Hp} : ∀ {as : List Addr} {cs : List (Nat × Nat)}, Prs H as cs → ∀ {i : Nat} {c : Nat × Nat}, cs[i]? = some c → ∃ a, as[i]? = some a ∧ Tn H a [.int (c.1 : Int), .int (c.2 : Int)]
  | [], [], _, i, c, h => by simp at h
  | a :: as, c :: cs, h, 0, x, e => by
    have e1 : c = x := Option.some.inj e
    subst e1
    exact ⟨a, rfl, h.1⟩
  | a :: as, c :: cs, h, i + 1, x, e => Prs.get h.2 (i := i) e
theorem Prs.keep {H H' : Hp} {D : Addr} {zs : List V} (hD : H D = some (.lst zs)) (k : ∀ b x, b ≠ D → H b = some x → H' b = some x) : ∀ {as : List Addr} {cs : List (Nat × Nat)}, Prs H as cs → Prs H' as cs
  | [], [], _ => trivial
  | _ :: _, _ :: _, h => ⟨tn_keep hD k h.1, Prs.keep hD k h.2⟩
def strow (n a : Nat) : List (Nat × Nat) := (List.range (n - a)).map fun d => (a, a + 1 + d)
def stfrom (n : Nat) : Nat → List (Nat × Nat)
  | 0 => []
  | k + 1 => strow n (n - (k + 1)) ++ stfrom n k
theorem mem_strow {n a : Nat} {p : Nat × Nat} : p ∈ strow n a ↔ p.1 = a ∧ p.1 < p.2 ∧ p.2 ≤ n := by
  unfold strow
  rw [List.mem_map]
  constructor
  · rintro ⟨d, hd, rfl⟩
    have := List.mem_range.mp hd
    refine ⟨rfl, ?_, ?_⟩ <;> dsimp only <;> omega
  · rintro ⟨h1, h2, h3⟩
    refine ⟨p.2 - a - 1, List.mem_range.mpr (by omega), ?_⟩
    refine Prod.ext h1.symm ?_
    show a + 1 + (p.2 - a - 1) = p.2
    omega
theorem mem_stfrom {n : Nat} {p : Nat × Nat} : ∀ k, k ≤ n → (p ∈ stfrom n k ↔ n - k ≤ p.1 ∧ p.1 < p.2 ∧ p.2 ≤ n)
  | 0, _ => by
    constructor
    · intro h
      cases h
    · rintro ⟨h1, h2, h3⟩
      omega
  | k + 1, hk => by
    show p ∈ strow n (n - (k + 1)) ++ stfrom n k ↔ _
    rw [List.mem_append, mem_strow, mem_stfrom k (by omega)]
    constructor
    · rintro (⟨h1, h2, h3⟩ | ⟨h1, h2, h3⟩)
      · exact ⟨by omega, h2, h3⟩
      · exact ⟨by omega, h2, h3⟩
    · rintro ⟨h1, h2, h3⟩
      by_cases e : p.1 = n - (k + 1)
      · exact .inl ⟨e, h2, h3⟩
      · exact .inr ⟨by omega, h2, h3⟩
theorem len_strow (n a : Nat) : (strow n a).length = n - a := by
  exact (List.length_map _).trans List.length_range
theorem len_stfrom (n : Nat) : ∀ k, k ≤ n → (stfrom n k).length ≤ k * n
  | 0, _ => Nat.zero_le _
  | k + 1, h => by
    show (strow n (n - (k + 1)) ++ stfrom n k).length ≤ (k + 1) * n
    rw [List.length_append, len_strow, Nat.add_mul]
    have := len_stfrom n k (by omega)
    omega
end LS
/-! what the functions of distances promise -/
namespace LS
open PySem L2 PySem.Spec PyProof.Rows LamX
def lamQ : Str := ("best_stretch" : Str) ++ ".<locals>." ++ "<lambda>"
/-- the pairs that stand the other way round, in a new list -/
def spWrong : Sp := fun vs H Q _ => ∃ (o t : Addr) (os ts : List Str), vs = [.ref o, .ref t] ∧ Tn H o (os.map V.str) ∧ Tn H t (ts.map V.str) ∧ (∀ x, x ∈ ts → x ∈ os) ∧ ts.length ≤ 100 ∧
  ∀ p as H', Same H H' → H p = none → H' p = some (.lst (as.map V.ref)) → Cmds H' as (wpairs os ts) → Q (.ref p) H'
def spCost : Sp := fun vs H Q _ => ∃ (o t : Addr) (os ts : List Str) (a b : Nat), vs = [.ref o, .ref t, .int (a : Int), .int (b : Int)] ∧ Tn H o (os.map V.str) ∧ Tn H t (ts.map V.str) ∧ (∀ x, x ∈ ts → x ∈ os) ∧ ts.length ≤ 100 ∧ a < b ∧ b ≤ ts.length ∧
  ∀ H', Same H H' → Q (.int (cost os ts a b : Int)) H'
def spAll : Sp := fun vs H Q _ => ∃ n : Nat, vs = [.int (n : Int)] ∧ n ≤ 100 ∧ ∀ p as H', Same H H' → H' p = some (.lst (as.map V.ref)) → Prs H' as (stfrom n n) → Q (.ref p) H'
def spBest (T : List (Addr × Str)) : Sp := fun vs H Q _ => ∃ (o t : Addr) (os ts : List Str), vs = [.ref o, .ref t] ∧ Tn H o (os.map V.str) ∧ Tn H t (ts.map V.str) ∧ (∀ x, x ∈ ts → x ∈ os) ∧ 0 < ts.length ∧ ts.length ≤ 100 ∧ Tabs T H ∧
  ∀ (p : Addr) (a b : Nat) H', ExtN H H' → Tabs T H' → Tn H' p [.int (a : Int), .int (b : Int)] → a < b → b ≤ ts.length → IsDist os ts (cost os ts a b) → Q (.ref p) H'
def spDistance (T : List (Addr × Str)) : Sp := fun vs H Q _ => ∃ (o t : Addr) (os ts : List Str), vs = [.ref o, .ref t] ∧ Tn H o (os.map V.str) ∧ Tn H t (ts.map V.str) ∧ (∀ x, x ∈ ts → x ∈ os) ∧ 0 < ts.length ∧ ts.length ≤ 100 ∧ Tabs T H ∧
  ∀ (d : Nat) H', ExtN H H' → Tabs T H' → IsDist os ts d → Q (.int (d : Int)) H'
end LS
/-! more rules: tuple of a text, a tuple turned round, comparisons in a chain of three -/
namespace LS
open PySem L2 PySem.Spec PyProof.Rows LamX
def signs (z : Str) : List Str := z.cps.toList.map fun c => ⟨#[c]⟩
section
variable {X : Cx}
theorem vals_signs {z : Str} {acc : Array Value} (h : ItemsOf (SignAt z) acc z.cps.size) : Vals ((signs z).map V.str) acc.toList := by
  obtain ⟨h1, h2⟩ := h
  have gen : ∀ (cs : List Nat) (us : List Value), us.length = cs.length → (∀ (j : Nat) (v : Value), us[j]? = some v → ∃ c t, cs[j]? = some c ∧ v = .str ⟨#[c]⟩ t) → Vals ((cs.map fun c => (⟨#[c]⟩ : Str)).map V.str) us := by
    intro cs
    induction cs with
    | nil =>
      intro us hl _
      exact (List.eq_nil_of_length_eq_zero hl) ▸ .nil
    | cons c cs ih =>
      intro us hl hv
      cases us with
      | nil => cases hl
      | cons u us =>
        obtain ⟨c', t, e1, e2⟩ := hv 0 u rfl
        have e3 : c = c' := Option.some.inj e1
        subst e3 e2
        exact .cons ⟨t, rfl⟩ (ih us (Nat.succ.inj hl) fun j v hj => hv (j + 1) v hj)
  refine gen z.cps.toList acc.toList ?_ fun j v hj => ?_
  · rw [Array.length_toList, Array.length_toList]
    exact h1
  · have hj' : acc[j]? = some v := by simpa using hj
    obtain ⟨c, t, e1, e2⟩ := h2 j v hj'
    exact ⟨c, t, by simpa using e1, e2⟩
/-- tuple(text) -/
def rTupStr : List V → Hp → VK → Prop := fun vs H Q => ∃ z : Str, vs = [.str z] ∧ z.cps.size ≤ sizeLine ∧ ∀ p H', Same H H' → Tn H' p ((signs z).map V.str) → Q (.ref p) H'
theorem call_tupleStr (hc : X.calm = true) : CallR X (.type "tuple") rTupStr := by
  intro pi s σ H xs us Q I r ⟨z, e0, hz, q⟩
  subst e0
  obtain ⟨u, e1, rx⟩ := vals1 r
  subst e1
  obtain ⟨t, et⟩ := (show ∃ t, u = Value.str z t from rx)
  subst et
  refine call_tuple_str (I.ok.hd hc) z t (fun h' tk acc kp it => ?_) hz
  have I1 : Inv X pi σ H { s with heap := h', toks := tk } := I.kept kp
  have nf : H h'.objs.size = none := I1.hok.fresh (Nat.le_refl _)
  have rv := vals_signs it
  have ea : ({ cls := .type "tuple", data := .seq acc } : Obj) = tupOb acc.toList := by
    show _ = ({ cls := .type "tuple", data := .seq acc.toList.toArray } : Obj)
    rw [Array.toArray_toList]
  rw [ea]
  refine ⟨.ref h'.objs.size, _, I1.laid (t' := tk) (o := .frz (tupOb acc.toList) (.tup ((signs z).map V.str))) (fun b o e => Heap.get?_push_of_some _ e) (Nat.le_refl _) (ok_tup (Heap.get?_push_size _ rfl) ?_ rv), rfl, q _ _ (same_new nf) Tn.new⟩
  rw [rv.length, Array.length_toList, it.1]
  exact hz
/-- t[::-1] -/
def tRevN (te : TE) : TE := fun σ H Q => te σ H fun x H1 => ∃ a xs, x = .ref a ∧ Tn H1 a xs ∧ ∀ p H', Same H1 H' → Tn H' p xs.reverse → Q (.ref p) H'
theorem pe_revN {e : Expr} {te : TE} {k : Nat} {p1 p2 p3 pos : Pos} (he : PE X e te) : PE X (.Subscript e (.Slice none none (some (.UnaryOp .USub (.Constant (.int 1) k p1) p2)) p3) pos) (tRevN te) := by
  refine ⟨fun pi s σ H Q I h => Subscript_ (thn (he.run pi s σ H _ I h) fun v s1 ⟨x, H1, I1, r1, a, xs, ex, hx, q⟩ => ?_)⟩
  subst ex
  cases r1
  have st : PO X (some (.UnaryOp .USub (.Constant (.int 1) k p1) p2)) (tPart (tUn (rU fun i => .int (-i)) (tC (.int 1)))) := po_some (pe_un un_neg pe_int)
  refine wpAny_Slice (thn (po_none.run pi s1 σ H1 (fun o H2 => o = none ∧ H2 = H1) I1 ⟨rfl, rfl⟩) fun vl s2 ⟨l, H2, I2, pl, el, eq2⟩ => ?_)
  subst el eq2
  cases pl
  refine thn (po_none.run pi s2 σ H2 (fun o H3 => o = none ∧ H3 = H2) I2 ⟨rfl, rfl⟩) fun vu s3 ⟨u, H3, I3, pu, eu, eq3⟩ => ?_
  subst eu eq3
  cases pu
  refine thn (st.run pi s3 σ H3 (fun o H4 => o = some (-1) ∧ H4 = H3) I3 ⟨1, rfl, -1, rfl, rfl, rfl⟩) fun vs s4 ⟨o, H4, I4, ps, eo, eq4⟩ => ?_
  subst eo eq4
  have I5 : Inv X pi σ H4 { s4 with heap := s4.heap.push { cls := .type "slice", data := .fields #[.none, .none, vs] } } := I4.kept (t' := s4.toks) fun b ob z => Heap.get?_push_of_some _ z
  obtain ⟨its, r, ht, hz⟩ := I5.tuple hx.sq
  have hlen := r.length
  show wpAny (model X.prog X.w) X.A (subscriptTail e (.Slice none none (some (.UnaryOp .USub (.Constant (.int 1) k p1) p2)) p3) (.ref a) (.ref s4.heap.objs.size)) (EP X pi σ Q) X.xe { s4 with heap := s4.heap.push { cls := .type "slice", data := .fields #[.none, .none, vs] } }
  refine tail_any (ops := [.ref a, .ref s4.heap.objs.size]) ht.typeIs (slot_tuple_getitem.lookup) ?_ (by with_unfolding_all rfl)
  refine getItem_tuple_rev ht (Heap.IsSliceOf.new _ .none .none vs) ps ?_ (by rw [List.size_toArray]; omega)
  have nf := I5.hok.fresh (Nat.le_refl _)
  exact ⟨.ref _, _, I5.laid (t' := s4.toks) (o := .frz (tupOb its.reverse) (.tup xs.reverse)) (fun b ob z => Heap.get?_push_of_some _ z) (Nat.le_refl _) (ok_tup (Heap.get?_push_size _ rfl) (by rw [List.length_reverse]; exact hz) r.reverse), rfl, q _ _ (same_new nf) Tn.new⟩
/-- a op b op' c op'' d -/
def tChain3 (r r' r'' : R2) (ta tb tc td : TE) : TT := fun σ H Q => ta σ H fun x H1 => tb σ H1 fun y H2 => r x y H2 fun z H3 => ∃ k, z = .bl k ∧
  (if k = true then tc σ H3 fun y' H4 => r' y y' H4 fun z' H5 => ∃ k', z' = .bl k' ∧ (if k' = true then td σ H5 fun y'' H6 => r'' y' y'' H6 fun z'' H7 => ∃ k'', z'' = .bl k'' ∧ Q k'' H7 else Q false H5) else Q false H3)
theorem pt_chain3 {a b c d : Expr} {ta tb tc td : TE} {pos : Pos} {op op' op'' : CmpOp} {r r' r'' : R2} (ho : OpR X (compareOp op) r) (ho' : OpR X (compareOp op') r') (ho'' : OpR X (compareOp op'') r'') (ha : PE X a ta) (hb : PE X b tb) (hc : PE X c tc) (hd : PE X d td)
    (hm : lastMarks [op, op', op''] [b, c, d] = false := by with_unfolding_all rfl) : PT X (.Compare a [op, op', op''] [b, c, d] pos) (tChain3 r r' r'' ta tb tc td) := by
  refine ⟨fun pi s σ H Q I h => isTrue_chain (thn (ha.run pi s σ H _ I h) fun v s1 ⟨x, H1, I1, r1, q1⟩ => test_link (thn (hb.run pi s1 σ H1 _ I1 q1) fun u s2 ⟨y, H2, I2, r2, q2⟩ => thn (ho pi s2 σ H2 x y v u _ I2 r1 r2 q2) fun w1 s3 ⟨z, H3, I3, r3, k, e, q3⟩ => ?_)) hm⟩
  subst e
  cases r3
  refine wpAny_truthy_bool ?_
  cases k with
  | false => exact ite_ff ⟨H3, I3, q3⟩
  | true =>
    refine ite_tt (test_link (thn (hc.run pi s3 σ H3 _ I3 q3) fun u' s4 ⟨y', H4, I4, r4, q4⟩ => thn (ho' pi s4 σ H4 y y' u u' _ I4 r2 r4 q4) fun w2 s5 ⟨z', H5, I5, r5, k', e', q5⟩ => ?_))
    subst e'
    cases r5
    refine wpAny_truthy_bool ?_
    cases k' with
    | false => exact ite_ff ⟨H5, I5, q5⟩
    | true =>
      refine ite_tt (test_last (thn (hd.run pi s5 σ H5 _ I5 q5) fun u'' s6 ⟨y'', H6, I6, r6, q6⟩ => thn (ho'' pi s6 σ H6 y' y'' u' u'' _ I6 r4 r6 q6) fun w3 s7 ⟨z'', H7, I7, r7, k'', e'', q7⟩ => ?_))
      subst e''
      cases r7
      exact wpAny_truthy_bool ⟨H7, I7, q7⟩
/-- == of tuples of ints -/
theorem shaped_tint (ns : List Int) : SeqAt.shaped (.tuple (intD ns)) = true := by
  unfold SeqAt.shaped
  have := depth_int ns
  rw [show PyData.canLay0 (.tuple (intD ns)) = true from lay_int ns, decide_eq_true (by simp only [PyData.depth]; omega)]
  rfl
def rEqTi (K : PySem.W.Frag) : R2 := fun x y H Q => ∃ (a b : Addr) (ss ts : List Int), x = .ref a ∧ y = .ref b ∧ SqT K H a (ss.map V.int) ∧ SqT K H b (ts.map V.int) ∧ Q (.bl (decide (ss = ts))) H
theorem op_eqTi (hu : X.A.units + 64 < cLine) : OpR X (compareOp .Eq) (rEqTi X.K) := by
  intro pi s σ H x y v u Q I rx ry h
  obtain ⟨a, b, ss, ts, rfl, rfl, ha, hb, q⟩ := h
  refine op_eqD hu pi s σ H _ _ v u Q I rx ry ⟨.tuple (intD ss), .tuple (intD ts), .tup ha (dpAll_int ss), .tup hb (dpAll_int ts), shaped_tint ss, shaped_tint ts, ?_⟩
  show Q (.bl (PyData.eqvAll (intD ss) (intD ts))) H
  rw [eqvAll_int]
  exact q
end
end LS
namespace LS
open PySem L2 PySem.Spec PyProof.Rows LamX
/-! ### the laws' own helpers -/
/-- an order near to the order, or any -/
def spNear (K : PySem.W.Frag) : Sp := fun vs H Q _ => ∃ (d o : Addr) (ds : List Int) (os : List Str), vs = [.ref d, .ref o] ∧ SqL K H d (ds.map V.int) ∧ Tn H o (os.map V.str) ∧ 11 ≤ ds.length ∧ ds.length ≤ 1000 ∧ os.Nodup ∧ os ≠ [] ∧ os.length ≤ 10 ∧ StrsOk os ∧
  ∀ (ts : List Str) p H', Same H H' → Tn H' p (ts.map V.str) → ts.Perm os → Q (.ref p) H'
def spLCost : Sp := fun vs H Q _ => ∃ (o t : Addr) (os ts : List Str) (a b : Nat), vs = [.ref o, .ref t, .int (a : Int), .int (b : Int)] ∧ Tn H o (os.map V.str) ∧ Tn H t (ts.map V.str) ∧ (∀ x, x ∈ ts → x ∈ os) ∧ os.length = ts.length ∧ ts.length ≤ 100 ∧ a < b ∧ b ≤ ts.length ∧
  ∀ H', Same H H' → Q (.int (cost os ts a b : Int)) H'
def spLeast : Sp := fun vs H Q _ => ∃ (o t : Addr) (os ts : List Str), vs = [.ref o, .ref t] ∧ Tn H o (os.map V.str) ∧ Tn H t (ts.map V.str) ∧ (∀ x, x ∈ ts → x ∈ os) ∧ os.length = ts.length ∧ 0 < ts.length ∧ ts.length ≤ 30 ∧
  ∀ (d : Nat) H', Same H H' → IsDist os ts d → Q (.int (d : Int)) H'
/-- the law of a program with tables of code objects -/
def spLawT (K : PySem.W.Frag) (T : List (Addr × Str)) : Sp := fun vs H Q _ => ∃ (a : Addr) (ns : List Int), vs = [.ref a] ∧ SqL K H a (ns.map V.int) ∧ ns.length ≤ 63 ∧ Tabs T H ∧ ∀ H', Q (.bl true) H'
end LS
/-! the end of a law by the facts of a Hook: defs and the tables of their code objects -/
namespace LS
open PySem L2 PySem.Spec PyProof.Rows LamX
def mkD (x : Str) (st : Stmt) : He.DefD := ⟨(x, none), x, x, defArgs st, defBody st, defScope st, [], []⟩
section
variable {K : PySem.W.Frag} {mg : Str → Option Value} {h : Heap} {x : Str} {st : Stmt} {f : Addr} {fd : FuncData}
theorem fun_of (F : FunD K x x (defArgs st) (defBody st) (defScope st) [] [] f fd) : Fun K x x st f fd := by
  obtain ⟨oc, od, dV, kV, doc, pm, an, cdv, ct, osl, e1, lk, hcd, hD, _⟩ := F.ex
  rcases hD with ⟨_, eV⟩ | ⟨e, _⟩
  · subst eV
    exact ⟨⟨oc, od, kV, doc, pm, an, cdv, ct, osl, e1, lk, hcd⟩, F.kp⟩
  · exact absurd rfl e
theorem funC_of (F : FunD K x x (defArgs st) (defBody st) (defScope st) [] [] (He.fAd K (x, none)) fd) : FunC K x x st (He.fAd K (x, none)) fd (He.cT K (x, none)).1 := by
  obtain ⟨oc, od, dV, kV, doc, pm, an, cdv, ct, osl, e1, lk, hcd, hD, _⟩ := F.ex
  rcases hD with ⟨_, eV⟩ | ⟨e, _⟩
  · subst eV
    obtain ⟨c, rfl⟩ := He.codeIn_ref hcd
    have ec : (He.cT K (x, none)).1 = c := He.codeOf_eq lk (by rw [e1])
    rw [ec]
    exact ⟨⟨oc, od, kV, doc, pm, an, ct, osl, e1, lk, hcd⟩, F.kp⟩
  · exact absurd rfl e
theorem at_of {ps : List Str} (X : K.In h) (G : h.Ns mainGlobals mg) (F : FunD K x x (defArgs st) (defBody st) (defScope st) [] [] (He.fAd K (x, none)) fd) (c : (He.Fa.glo x).ok K = true)
    (hb : ∀ (kV doc pm : Value) (an : Option Addr) (cdv ct : Value) (us : List Value), us.length = ps.length → bindArgs (PySem.W.fnOf x x (defArgs st) (defBody st) (defScope st) .none kV doc pm an cdv ct) ⟨us, []⟩ = pure (ps.zip us)) : At K mg x st ps (He.fAd K (x, none)) fd :=
  ⟨fun_of F, FunD.bindsN F hb, He.glo_ok X G c⟩
end
/-- what the end asks of the law's promise, by the Hook's words -/
theorem lawAt_of {l : PySem.W.OpenLaw} {w : World} {K : PySem.W.Frag} {mg : Str → Option Value} {h : Heap} {k : Nat} {f : Addr} {fd : FuncData} {fa : List He.Fa} {fn : List He.DefD} {tf : List (He.Defn × Str)} {ex : PySem.W.Frag → Bool} (X : K.In h) (c : He.SaysX fa fn [] (tf.map (·.1)) ex w h K)
    (hb : ∀ (s : Shared) (u : Value), BindsTo s fd ⟨[u], []⟩ [("script", u)])
    (hF : ∀ base : Heap, (∀ d q, (d, q) ∈ tf → TabB base mg (He.cT K d).1 (He.cT K d).2) → FnOk l.prog w K mg base CX0 k f fd ["script"] (spLawT K (tf.map fun p => ((He.cT K p.1).2, p.2)))) : LawAtS l w K CX0 k 63 "script" mg f h := by
  have un : ∀ p, p ∈ tf.map (fun p => He.cT K p.1) → ∃ d ∈ tf.map (·.1), p = He.cT K d := fun p hp => by
    obtain ⟨d, hd, e⟩ := List.mem_map.mp hp
    exact ⟨d.1, List.mem_map.mpr ⟨d, hd, rfl⟩, e.symm⟩
  refine ⟨fd, tf.map (fun p => He.cT K p.1), spLawT K (tf.map fun p => ((He.cT K p.1).2, p.2)), fun p hp => ?_, fun p hp => ?_, fun p hp => ?_, hb, fun H a ns hl _ hT hS => ⟨a, ns, rfl, hS, hl, fun p hp => ?_, fun _ => rfl⟩, fun base _ _ hTB => hF base fun d q hd => ?_⟩
  · obtain ⟨d, hd, rfl⟩ := un p hp
    exact c.empty d hd
  · obtain ⟨d, hd, rfl⟩ := un p hp
    exact c.out d hd
  · obtain ⟨d, hd, rfl⟩ := un p hp
    exact PySem.W.codeHd_of_K X (c.hd d hd)
  · obtain ⟨d, hd, rfl⟩ := List.mem_map.mp hp
    exact TabS.nil (hT _ (List.mem_map.mpr ⟨d, hd, rfl⟩))
  · exact hTB _ (List.mem_map.mpr ⟨(d, q), hd, rfl⟩)
end LS
set_option maxHeartbeats 1500000
/-! all, any of a generator expression over anything that is walked: the element by the rules of expressions, within the generator's own frame -/
namespace LS
open PySem L2 PySem.Spec PyProof.Rows LamX GenW
structure GenS1 (sc scope : Scope) : Prop where
  kind : scope.kind = .function
  sync : scope.isCoroutine = false
  nocell : ∀ y, y ∈ scope.names → y.2 ≠ .cell
  zero : scope.names.lookup (".0" : Str) = some NameKind.local
  free : ∀ y, y ∈ scope.names → y.2 = .free → sc.names.lookup y.1 = some .cell ∨ sc.names.lookup y.1 = some .free
def genS1B (sc scope : Scope) : Bool :=
  decide (scope.kind = .function) && !scope.isCoroutine && decide (scope.names.lookup (".0" : Str) = some NameKind.local) &&
    scope.names.all fun y => !decide (y.2 = .cell) && (!decide (y.2 = .free) || decide (sc.names.lookup y.1 = some .cell) || decide (sc.names.lookup y.1 = some .free))
theorem genS1_by {sc scope : Scope} (h : genS1B sc scope = true) : GenS1 sc scope := by
  unfold genS1B at h
  simp only [List.all_eq_true, Bool.and_eq_true, Bool.or_eq_true, decide_eq_true_eq, Bool.not_eq_true', decide_eq_false_iff_not] at h
  obtain ⟨⟨⟨h1, h2⟩, h4⟩, h5⟩ := h
  refine ⟨h1, h2, fun y hy => (h5 y hy).1, h4, fun y hy e => ?_⟩
  rcases (h5 y hy).2 with (z | z) | z
  · exact absurd e z
  · exact .inl z
  · exact .inr z
/-- the slots of the names that the generator expression binds -/
def ownSlots (N : List Str) (scope : Scope) (vs : List Nat) : Bool := (List.range N.length).all fun i => match N[i]? with
  | some y => !decide (scope.names.lookup y = some .local) || vs.contains i
  | none => true
theorem ownSlots_of {N : List Str} {scope : Scope} {vs : List Nat} (h : ownSlots N scope vs = true) {i : Nat} {y : Str} (hi : N[i]? = some y) (hy : scope.names.lookup y = some .local) : i ∈ vs := by
  unfold ownSlots at h
  have h1 := List.all_eq_true.mp h i (List.mem_range.mpr (List.getElem?_eq_some_iff.mp hi).1)
  rw [hi] at h1
  simp only [hy, decide_true, Bool.not_true, Bool.false_or, List.contains_iff_mem] at h1
  exact h1
theorem slots_by (N : List Str) {scope : Scope} {vs : List Nat} (h : ownSlots N scope vs = true) : ownSlots N scope vs = true := h
section
variable {X : Cx} {σ : L2.St} {H : Hp} {pins : List (Addr × Obj)} {s : Shared}
theorem GenS1.has {scope : Scope} (L : GenS1 X.env.scope scope) (ok : X.Ok) : ∀ y, y ∈ scope.names → y.2 = .free → ∃ c, X.env.cells.lookup y.1 = some c := fun y hy e =>
  ok.has _ ((L.free y hy e).elim .inl .inr)
abbrev gEnv (X : Cx) (scope : Scope) (C : Addr) (code : Value) : Env := genEnv scope (cloFrom X.env.cells scope.names []) C code builtinsNs X.env
/-- the context within the generator's frame -/
def genCx (X : Cx) (A : Around) (s : Shared) (H : Hp) (scope : Scope) (C : Addr) (code : Value) (fp : List Addr) (pn : List (Addr × Obj)) : Cx where
  prog := X.prog
  w := X.w
  K := X.K
  mg := X.mg
  base := X.base
  A := A.deeper (gEnv X scope C code)
  N := X.N
  s_0 := s
  H_0 := H
  env := gEnv X scope C code
  outer := X.stack
  stack := gEnv X scope C code :: X.stack
  ex := fp
  fn := fun _ => false
  calm := true
  pn := pn
  xe := fun _ _ => False
/-- the frame as the generator is made -/
theorem gen_start {A : Around} {scope : Scope} {code it : Value} {fp : List Addr} {a : Addr} {go : Obj} {g : Heap} {gs : Array GenState} {tk : Nat} {vs : List Nat} (I : Inv X pins σ H s) (L : GenS1 X.env.scope scope) (hv : ownSlots X.N scope vs = true)
    (hfr : A.frames = some X.stack) (hd : A.handled = none) (hf : ∀ b ∈ fp, FpOk X pins H b ∧ b < s.heap.objs.size) (hns : g.Ns s.heap.objs.size fun y => if y = (".0" : Str) then some it else none)
    (kp : ∀ b o, s.heap.get? b = some o → g.get? b = some o) (ha : s.heap.objs.size < a) (hgo : g.get? a = some go) (hgd : ∀ v, go.data ≠ .cell v) (hb : AllBare gs) :
    Inv (genCx X A s H scope s.heap.objs.size code fp [(a, go)]) [] (wipe σ vs) H { s with heap := g, gens := gs, toks := tk } := by
  have hfree := L.has I.ok
  have cm : ∀ {y : Str} {c : Addr}, (cloFrom X.env.cells scope.names []).lookup y = some c → X.env.cells.lookup y = some c := by
    intro y c eL
    cases cloFrom_mem (PySem.mem_of_lookup eL) with
    | inl hm => cases hm
    | inr hm =>
      obtain ⟨h1, h2⟩ := hm
      obtain ⟨c1, hc⟩ := hfree (y, .free) h1 rfl
      replace hc : X.env.cells.lookup y = some c1 := hc
      have e2 : c = c1 := by
        rw [h2, hc] <;> rfl
      rw [e2]
      exact hc
  have look : ∀ {y}, scope.names.lookup y = some .free → ∃ c, (cloFrom X.env.cells scope.names []).lookup y = some c := fun {y} hl =>
    mem_lookup (cloFrom_has (cells := X.env.cells) (acc := []) (show (y, NameKind.free) ∈ scope.names from PySem.mem_of_lookup hl))
  have cellK : ∀ {c : Addr} {v : Option Value}, s.heap.IsCell c v → g.IsCell c v := fun {c v} ⟨o, ho, hdt⟩ => ⟨_, kp _ _ ho, hdt⟩
  refine ⟨⟨I.ok.mod, L.kind, I.ok.glob, rfl, Nat.le_refl _, fun y z c q1 q2 => I.ok.inj y z c (cm q1) (cm q2), fun y hy => ?_, (fun y c z _ => Bool.noConfusion (show false = true from z)), fun _ => hd, Around.frames_deeper hfr, .inr ⟨rfl, rfl⟩, fun b z => ⟨Nat.ne_of_lt (hf b z).2, fun y c e => (hf b z).1.2.2.2.2.1 y c (cm e)⟩, fun b o e => I.bs b o e, Nat.le_trans I.ok.bsz I.sz, fun b o e z => ?_, fun b z q => ?_, I.stack, I.stkFree⟩,
    rfl, hb, Un.kept kp, ⟨_, hns, fun i y v q1 q2 q3 => ?_⟩, fun y c e => ?_, I.hok.fresh (Nat.le_refl _), fun y c e => I.freeC y c (cm e), fun q hq => ?_, I.hok.kept kp, by rw [wipe_length]; exact I.len⟩
  · have hy' : scope.names.lookup y = some .cell ∨ scope.names.lookup y = some .free := hy
    rcases hy' with k | k
    · exact absurd rfl (L.nocell _ (PySem.mem_of_lookup k))
    · exact look k
  · rcases (hf b z).1.2.2.2.1 with y | y
    · exact I.ok.noex b o e y
    · exact absurd (Nat.lt_of_lt_of_le (Heap.lt_size (I.ok.bs b o e).1) y) (Nat.lt_irrefl _)
  · rcases List.mem_cons.mp (I.stkSub b q) with y | y
    · exact (hf b z).1.2.1 y
    · exact (hf b z).1.2.2.1 y
  · have q1' : X.N[i]? = some y := q1
    have q3' : Vis scope y := q3
    obtain ⟨q2a, q2b⟩ := wipe_some q2
    rcases q3' with k | k | k
    · exact absurd (ownSlots_of hv q1' k) q2b
    · exact absurd rfl (L.nocell _ (PySem.mem_of_lookup k))
    · obtain ⟨m, hn, hl⟩ := I.loc
      have hvis : Vis X.env.scope y := (L.free _ (PySem.mem_of_lookup k) rfl).imp id id |> .inr
      obtain ⟨w', r, q⟩ := hl i y v q1' q2a hvis
      obtain ⟨c2, h2⟩ := look k
      have c1 := cm h2
      refine ⟨w', r, Or.inr ⟨Or.inr k, c2, h2, ?_⟩⟩
      rcases q with ⟨k', _⟩ | ⟨_, cz, e', z⟩
      · replace k' : X.env.scope.names.lookup y = some .local := k'
        rcases L.free _ (PySem.mem_of_lookup k) rfl with k2 | k2
        · rw [show X.env.scope.names.lookup y = _ from k2] at k'
          cases k'
        · rw [show X.env.scope.names.lookup y = _ from k2] at k'
          cases k'
      · rw [c1] at e'
        cases e'
        exact cellK z
  · exact (I.cell y c (cm e)).imp fun _ z => cellK z
  · have eq : q = (a, go) := by simpa [genCx] using hq
    rw [eq]
    refine ⟨hgo, I.hok.fresh (Nat.le_of_lt ha), Nat.ne_of_gt ha, fun z => ?_, hgd⟩
    rcases List.mem_cons.mp (I.stkSub _ z) with y | y
    · exact Nat.ne_of_gt (Nat.lt_trans I.lt ha) y
    · exact I.nofs (Nat.le_of_lt ha) y
end
/-- the same heap -/
def Like (s s' : Shared) : Prop := s'.heap = s.heap ∧ s'.os = s.os ∧ AllBare s'.gens
theorem inv_like {Y : Cx} {pins : List (Addr × Obj)} {σ : L2.St} {H : Hp} {s s' : Shared} (I : Inv Y pins σ H s) (h : Like s s') : Inv Y pins σ H s' := by
  obtain ⟨h1, h2, h3⟩ := h
  refine ⟨I.ok, h2.trans I.os, h3, by rw [h1]; exact I.base, by rw [h1]; exact I.loc, by rw [h1]; exact I.cell, I.free, I.freeC, by rw [h1]; exact I.pin, by rw [h1]; exact I.hok, I.len⟩
/-- a value is handed out: the walk goes on, or the answer is known -/
def AllY (Y : Cx) (fin : Bool) (Q : VK) : Protocol := fun n s₀ v s kap => ∃ (b : Bool) (σ : L2.St) (H : Hp), v = .bool b ∧ Inv Y [] σ H s ∧ (if b = fin then ∀ s'', Like s s'' → kap (.send .none) s'' else Q (.bl b) H)
def AllP (Y : Cx) (fin : Bool) (Q : VK) : Nat → Shared → Shared → Prop := fun _ _ s => ∃ (σ : L2.St) (H : Hp), Inv Y [] σ H s ∧ Q (.bl fin) H
def AllR (Y : Cx) (fin : Bool) (Q : VK) : GenEnd := fun n s₀ r s => r = .ok .next ∧ AllP Y fin Q n s₀ s
/-- the element's value: goes on, or ends -/
def tbGen (fin : Bool) (te : TE) : TS := fun D σ H => te σ H fun v H3 => ∃ b, v = .bl b ∧ if b = fin then D.nx σ H3 else D.rt (.bl b) H3
def gD (fin : Bool) (Q : VK) : Ends := { nx := fun _ H => Q (.bl fin) H, rt := Q }
/-- what the walk wants -/
def GTurn (J : It) (g : TG) (te : TE) (fin : Bool) (Q : VK) (W : Nat → Nat → L2.St → Hp → Prop) : Prop := ∀ i m σ H, W i m σ H →
  (J.stop i H ∧ (gD fin Q).nx σ H) ∨ (J.go i H ∧ ∃ N : L2.St → Hp → Prop, (∀ σ' H', N σ' H' → ∃ m', m' < m ∧ W (i + 1) m' σ' H') ∧ ∀ x H', J.yld i H x H' → g x σ H' fun σ2 H2 => tbGen fin te { gD fin Q with nx := N, ct := N, bk := (gD fin Q).nx } σ2 H2)
section
variable {Y : Cx} {B : Around} {tg elt iter : Expr} {scope : Scope} {pos : Pos} {it : Addr} {fp : List Addr} {tn : Nat → Heap → Prop} {J : It} {g : TG} {te : TE} {W : Nat → Nat → L2.St → Hp → Prop} {fin : Bool} {Q : VK}
theorem seg_all (hc : Y.calm = true) (hco : Y.env.scope.isCoroutine = false) (hov : B.over (.compLoop (.GeneratorExp elt [⟨tg, iter, [], 0⟩] scope pos) 0 (.ref it) .none Y.env) [] = Y.A) (hxe : ∀ e s, Y.xe e s → False)
    (T : Turn Y.prog Y.w Y.K tg J fp it tn) (hfp : ∀ H' : Hp, (∀ b ∈ fp, H' b = none) → ∀ b ∈ fp, FpOk Y [] H' b) (hg : PG Y tg g) (he : PE Y elt te) (turn : GTurn J g te fin Q W) :
    ∀ (n i m : Nat) (s₀ s : Shared) (σ : L2.St) (H : Hp), m < n → W i m σ H → Inv Y [] σ H s → tn i s.heap → (∀ b ∈ fp, H b = none) →
      Seg (model Y.prog Y.w) B (AllR Y fin Q) (AllY Y fin Q) n s₀ (.compLoop (.GeneratorExp elt [⟨tg, iter, [], 0⟩] scope pos) 0 (.ref it) .none Y.env)
        ((model Y.prog Y.w).den (.compLoop (.GeneratorExp elt [⟨tg, iter, [], 0⟩] scope pos) 0 (.ref it) .none Y.env)) [] s := by
  intro n
  induction n with
  | zero => exact fun i m s₀ s σ H h => absurd h (Nat.not_lt_zero _)
  | succ n ih =>
    intro i m s₀ s σ H hm hw I st fr
    show Seg _ B _ _ _ s₀ _ ((compTurn (.GeneratorExp elt [⟨tg, iter, [], 0⟩] scope pos) 0 (.ref it) .none Y.env).onRaise (leaving Y.env)) [] s
    rw [compTurn_gen, Sem.onRaise_eq_wrap]; refine seg_bind_wrap (wpAny_standAt ?_)
    refine seg_bind_wrap ?_
    rw [hov]
    rcases turn i m σ H hw with ⟨stop, qn⟩ | ⟨go, N, hN, step⟩
    · refine wpAny_mono (T.done Y rfl rfl rfl hc i [] s σ H (fun _ _ => False) I (hfp _ fr) st stop) (fun r s4 ⟨hr, I4⟩ => ?_) fun _ _ z => z.elim
      subst hr
      exact seg_end (.ok .next) ⟨rfl, σ, H, I4, qn⟩
    · refine wpAny_mono (T.item Y rfl rfl rfl hc i [] s σ H (fun _ _ => False) I (hfp _ fr) st go) (fun r s4 ⟨u, hr, h4⟩ => ?_) fun _ _ z => z.elim
      subst hr
      refine seg_bind_wrap ?_
      rw [hov]
      refine wpAny_mono h4 (fun _ s5 ⟨x, H5, I5, r5, y5, st5, fr5⟩ => ?_) fun _ _ z => z.elim
      have I5' := I5.pinned (hfp _ fr5) (T.obj _ _ st5)
      refine seg_bind_wrap ?_
      rw [hov]
      refine wpAny_mono (hg.run _ s5 σ H5 x u _ I5' r5 (step x H5 y5)) (fun _ s6 ⟨σ6, H6, I6, q6⟩ => ?_) fun e s z => (hxe e s z).elim
      simp only [List.forIn_nil]
      refine seg_bind_wrap (wpAny_pure ?_)
      simp only [if_true]
      have hy : ∀ v, yieldOut Y.env v = yieldValue v := fun v => by simp only [yieldOut, hco, Bool.false_eq_true, if_false]
      simp only [hy]
      rw [Sem.bind_eq_wrap', Sem.bind_eq_wrap', Sem.wrap_wrap, Sem.wrap_wrap]; refine seg_wrap ?_
      rw [hov]
      refine wpAny_mono (he.run _ s6 σ6 H6 _ I6 q6) (fun y s7 h7 => ?_) fun e s z => (hxe e s z).elim
      obtain ⟨v, H7, I7, rv, b, ev, q7⟩ := h7
      subst ev
      obtain rfl : y = Value.bool b := rv
      have J7 : Inv Y [] σ6 H7 s7 := I7.unpinned
      refine seg_at (seg_yield rfl rfl rfl ⟨b, σ6, H7, rfl, J7, ?_⟩)
      by_cases hb : b = fin
      · rw [if_pos hb] at q7 ⊢
        intro s'' hl
        obtain ⟨m', hm', w7⟩ := hN σ6 H7 q7
        refine seg_again rfl (ih (i + 1) m' s'' s'' σ6 H7 (by omega) w7 (inv_like J7 hl) (by rw [hl.1]; exact T.keep _ _ _ st5 fun b hb o e => (I7.pin (b, o) (List.mem_append_right _ (List.mem_append_right _ (mem_pinsAt hb e)))).1) fun b hb => ?_)
        obtain ⟨o, e, d⟩ := T.obj _ _ st5 b hb; exact (I7.pin (b, o) (List.mem_append_right _ (List.mem_append_right _ (mem_pinsAt hb e)))).2.1
      · rw [if_neg hb] at q7 ⊢
        exact q7
theorem seg_allStart (hc : Y.calm = true) (hco : Y.env.scope.isCoroutine = false) (hov : B.over (.compLoop (.GeneratorExp elt [⟨tg, iter, [], 0⟩] scope pos) 0 (.ref it) .none Y.env) [] = Y.A) (hxe : ∀ e s, Y.xe e s → False)
    (T : Turn Y.prog Y.w Y.K tg J fp it tn) (hfp : ∀ H' : Hp, (∀ b ∈ fp, H' b = none) → ∀ b ∈ fp, FpOk Y [] H' b) (hg : PG Y tg g) (he : PE Y elt te) (turn : GTurn J g te fin Q W)
    {m : Nat} {s₀ s : Shared} {σ : L2.St} {H : Hp} (hw : W 0 m σ H) (I : Inv Y [] σ H s) (st : tn 0 s.heap) (fr : ∀ b ∈ fp, H b = none) :
      Seg (model Y.prog Y.w) B (AllR Y fin Q) (AllY Y fin Q) (m + 1) s₀ (.compStart (.GeneratorExp elt [⟨tg, iter, [], 0⟩] scope pos) 0 (.ref it) .none Y.env)
        ((model Y.prog Y.w).den (.compStart (.GeneratorExp elt [⟨tg, iter, [], 0⟩] scope pos) 0 (.ref it) .none Y.env)) [] s := by
  have loop := fun s₀ => seg_all (iter := iter) (scope := scope) (pos := pos) hc hco hov hxe T hfp hg he turn (m + 1) 0 m s₀ s σ H (Nat.lt_succ_self _) hw I st fr
  show Seg _ B _ _ _ s₀ _ ((compStart (.GeneratorExp elt [⟨tg, iter, [], 0⟩] scope pos) 0 (.ref it) .none Y.env).onRaise (leaving Y.env)) [] s
  unfold compStart
  rw [Sem.onRaise_eq_wrap]
  show Seg _ B _ _ _ s₀ _ ((ask >>= _).wrap _ _ _ _) [] s
  refine seg_bind_wrap (wpAny_askSetting ?_); split
  · exact seg_again rfl (loop s₀)
  · first
      | exact seg_bind_wrap (wpAny_rule (seg_bind_wrap (wpAny_standAt (seg_bind_wrap (T.self _ 0 s _ _ st (seg_again rfl (loop s₀)))))))
      | (refine seg_bind_wrap (wpAny_rule ?_); show Seg _ B _ _ _ s₀ _ ((standAt iter.pos >>= _).wrap _ _ _ _) [] s; exact seg_bind_wrap (wpAny_standAt (seg_bind_wrap (T.self _ 0 s _ _ st (seg_again rfl (loop s₀))))))
/-- what is known behind the walk -/
def AllF (Y : Cx) (Q : VK) (b : Bool) (s : Shared) : Prop := ∃ H, s.os = Y.s_0.os ∧ AllBare s.gens ∧ Un Y.fs Y.ex Y.H_0 H Y.s_0.heap s.heap ∧ HOk Y.prog Y.w H s.heap ∧ Q (.bl b) H
theorem allF_of {σ : L2.St} {H : Hp} {pins : List (Addr × Obj)} {s s' : Shared} {b : Bool} (I : Inv Y pins σ H s) (ho : s'.os = s.os) (hb : AllBare s'.gens) (hk : ∀ b o, s.heap.get? b = some o → s'.heap.get? b = some o) (q : Q (.bl b) H) : AllF Y Q b s' :=
  ⟨H, ho.trans I.os, hb, I.base.trans (Un.kept hk), I.hok.kept hk, q⟩
theorem all_loop {A : Around} {R : Result → Shared → Prop} {a : Addr} {gn : Nat} {go : Obj} {nm qn : Value} (hh : A.handled = none) (hd : A.depth < recursionLimit) (hpn : (a, go) ∈ Y.pn) (hc : go.cls = .type "generator") (hdt : go.data = .fields #[.int gn 0, nm, qn]) (hsl : go.slots = #[])
    (hR : ∀ b s', AllF Y Q b s' → R (.ok (.ret (.bool b))) s') :
    ∀ (n : Nat) (s : Shared), s.heap.get? a = some go → s.heap.NoLimit → AllBare s.gens →
      (∃ gs, s.gens[gn]? = some gs ∧ gs.Goes (model Y.prog Y.w) A.in1.in1 (AllR Y true Q) (AllY Y true Q) n (.send .none) (s.setGen gn .running)) →
      codeAny (model Y.prog Y.w) A (.builtin "all.loop" ⟨[.ref a], []⟩) R s := by
  intro n
  induction n with
  | zero =>
    intro s ha hl hb ⟨gs, hgs, hgo⟩
    refine codeAny_builtin F.entry_all_loop ?_; rw [Around.under_plainId F.plain_all_loop _]
    show wpAny _ A.in1 (pyNext (.ref a) >>= _) _ _ s; refine wpAny_bind (wpAny_pyNext_genexpQ (A := A.in1) (P := AllP Y true Q) hh hl hd ⟨go, nm, qn, ha, hc, hdt, hsl⟩ hgs hgo (fun v s₁ gs' hbare hv => ?_) (fun s₁ hp h' hk => ?_))
    · obtain ⟨b, σ, H, rfl, I, q⟩ := hv
      refine wpAny_bind (wpAny_holding (wpAny_truthy_bool ?_)); refine wpAny_bind (wpAny_letGo ?_)
      cases b with
      | true =>
        rw [if_pos rfl] at q
        exact (q s₁ ⟨rfl, rfl, I.bare⟩).elim
      | false =>
        simp only [Bool.false_eq_true, if_false] at q ⊢
        exact wpAny_bind (wpAny_rule (wpAny_pure (hR false _ (allF_of I rfl (allBare_setGen I.bare hbare) (fun _ _ e => e) q))))
    · obtain ⟨σ, H, I, q⟩ := hp
      exact wpAny_bind (wpAny_rule (wpAny_pure (hR true _ (allF_of I rfl (allBare_setGen I.bare rfl) hk q))))
  | succ n ih =>
    intro s ha hl hb ⟨gs, hgs, hgo⟩
    have hgl : gn < s.gens.size := (Array.getElem?_eq_some_iff.mp hgs).1
    refine codeAny_builtin F.entry_all_loop ?_; rw [Around.under_plainId F.plain_all_loop _]
    show wpAny _ A.in1 (pyNext (.ref a) >>= _) _ _ s; refine wpAny_bind (wpAny_gsz (n := gn + 1) hgl (wpAny_pyNext_genexpQ (A := A.in1) (P := AllP Y true Q) hh hl hd ⟨go, nm, qn, ha, hc, hdt, hsl⟩ hgs hgo (fun v s₁ gs' hbare hv => ?_) (fun s₁ hp h' hk => ?_)))
    · intro hsz
      obtain ⟨b, σ, H, rfl, I, q⟩ := hv
      have hsz1 : gn < s₁.gens.size := by
        have e : (s₁.setGen gn gs').gens.size = s₁.gens.size := setGen_size _ _ _
        have hsz' : gn + 1 ≤ (s₁.setGen gn gs').gens.size := hsz
        omega
      refine wpAny_bind (wpAny_holding (wpAny_truthy_bool ?_)); refine wpAny_bind (wpAny_letGo ?_)
      cases b with
      | true =>
        rw [if_pos rfl] at q
        simp only [if_true]
        refine wpAny_pure ⟨plainId_quiet F.plain_all_loop _, ih _ ?_ ?_ (allBare_setGen I.bare hbare) ⟨gs', setGen_at hsz1, ?_⟩⟩
        · exact (I.pin (a, go) (List.mem_append_left _ hpn)).1
        · exact I.nolimit
        · exact q _ ⟨rfl, rfl, allBare_setGen (s := s₁.setGen gn gs') (allBare_setGen I.bare hbare) rfl⟩
      | false =>
        simp only [Bool.false_eq_true, if_false] at q ⊢
        exact wpAny_bind (wpAny_rule (wpAny_pure (hR false _ (allF_of I rfl (allBare_setGen I.bare hbare) (fun _ _ e => e) q))))
    · intro hsz
      obtain ⟨σ, H, I, q⟩ := hp
      exact wpAny_bind (wpAny_rule (wpAny_pure (hR true _ (allF_of I rfl (allBare_setGen I.bare rfl) hk q))))
theorem any_loop {A : Around} {R : Result → Shared → Prop} {a : Addr} {gn : Nat} {go : Obj} {nm qn : Value} (hh : A.handled = none) (hd : A.depth < recursionLimit) (hpn : (a, go) ∈ Y.pn) (hc : go.cls = .type "generator") (hdt : go.data = .fields #[.int gn 0, nm, qn]) (hsl : go.slots = #[])
    (hR : ∀ b s', AllF Y Q b s' → R (.ok (.ret (.bool b))) s') :
    ∀ (n : Nat) (s : Shared), s.heap.get? a = some go → s.heap.NoLimit → AllBare s.gens →
      (∃ gs, s.gens[gn]? = some gs ∧ gs.Goes (model Y.prog Y.w) A.in1.in1 (AllR Y false Q) (AllY Y false Q) n (.send .none) (s.setGen gn .running)) →
      codeAny (model Y.prog Y.w) A (.builtin "any.loop" ⟨[.ref a], []⟩) R s := by
  intro n
  induction n with
  | zero =>
    intro s ha hl hb ⟨gs, hgs, hgo⟩
    refine codeAny_builtin F.entry_any_loop ?_; rw [Around.under_plainId F.plain_any_loop _]
    show wpAny _ A.in1 (pyNext (.ref a) >>= _) _ _ s; refine wpAny_bind (wpAny_pyNext_genexpQ (A := A.in1) (P := AllP Y false Q) hh hl hd ⟨go, nm, qn, ha, hc, hdt, hsl⟩ hgs hgo (fun v s₁ gs' hbare hv => ?_) (fun s₁ hp h' hk => ?_))
    · obtain ⟨b, σ, H, rfl, I, q⟩ := hv
      refine wpAny_bind (wpAny_holding (wpAny_truthy_bool ?_)); refine wpAny_bind (wpAny_letGo ?_)
      cases b with
      | false =>
        rw [if_pos rfl] at q
        exact (q s₁ ⟨rfl, rfl, I.bare⟩).elim
      | true =>
        simp only [Bool.true_eq_false, if_false, if_true] at q ⊢
        exact wpAny_bind (wpAny_rule (wpAny_pure (hR true _ (allF_of I rfl (allBare_setGen I.bare hbare) (fun _ _ e => e) q))))
    · obtain ⟨σ, H, I, q⟩ := hp
      exact wpAny_bind (wpAny_rule (wpAny_pure (hR false _ (allF_of I rfl (allBare_setGen I.bare rfl) hk q))))
  | succ n ih =>
    intro s ha hl hb ⟨gs, hgs, hgo⟩
    have hgl : gn < s.gens.size := (Array.getElem?_eq_some_iff.mp hgs).1
    refine codeAny_builtin F.entry_any_loop ?_; rw [Around.under_plainId F.plain_any_loop _]
    show wpAny _ A.in1 (pyNext (.ref a) >>= _) _ _ s; refine wpAny_bind (wpAny_gsz (n := gn + 1) hgl (wpAny_pyNext_genexpQ (A := A.in1) (P := AllP Y false Q) hh hl hd ⟨go, nm, qn, ha, hc, hdt, hsl⟩ hgs hgo (fun v s₁ gs' hbare hv => ?_) (fun s₁ hp h' hk => ?_)))
    · intro hsz
      obtain ⟨b, σ, H, rfl, I, q⟩ := hv
      have hsz1 : gn < s₁.gens.size := by
        have e : (s₁.setGen gn gs').gens.size = s₁.gens.size := setGen_size _ _ _
        have hsz' : gn + 1 ≤ (s₁.setGen gn gs').gens.size := hsz
        omega
      refine wpAny_bind (wpAny_holding (wpAny_truthy_bool ?_)); refine wpAny_bind (wpAny_letGo ?_)
      cases b with
      | false =>
        rw [if_pos rfl] at q
        simp only [Bool.false_eq_true, if_false]; refine wpAny_pure ⟨plainId_quiet F.plain_any_loop _, ih _ ?_ ?_ (allBare_setGen I.bare hbare) ⟨gs', setGen_at hsz1, ?_⟩⟩
        · exact (I.pin (a, go) (List.mem_append_left _ hpn)).1
        · exact I.nolimit
        · exact q _ ⟨rfl, rfl, allBare_setGen (s := s₁.setGen gn gs') (allBare_setGen I.bare hbare) rfl⟩
      | true =>
        simp only [Bool.true_eq_false, if_false, if_true] at q ⊢
        exact wpAny_bind (wpAny_rule (wpAny_pure (hR true _ (allF_of I rfl (allBare_setGen I.bare hbare) (fun _ _ e => e) q))))
    · intro hsz
      obtain ⟨σ, H, I, q⟩ := hp
      exact wpAny_bind (wpAny_rule (wpAny_pure (hR false _ (allF_of I rfl (allBare_setGen I.bare rfl) hk q))))
end
section
variable {X : Cx} {σ : L2.St} {H : Hp} {pins : List (Addr × Obj)} {s : Shared}
theorem over_comp {A : Around} {elt : Expr} {cs : List Comprehension} {scope : Scope} {pos : Pos} {it acc : Value} {env : Env} : A.over (.compLoop (.GeneratorExp elt cs scope pos) 0 it acc env) [] = A.deeper env := by
  cases A
  first | rfl | simp [Around.deeper, Around.over, frameCount, marksOver, envsOf, unitsOf, guardsOf, pushGuards, pushEnvs, Code.env?, Code.envs, Code.guards, Code.isFrame, Code.isGuard, Code.frames, Code.weight, Code.isCaller, Code.isCreation, Code.cUnits]
/-- the table at P with one more code object -/
def grown (H : Hp) (P c : Addr) (q : Str) (ps : Array Value) (pos : Pos) : Hp := upd (upd H P (.tbl (ps ++ #[rawInt pos.line, rawInt pos.col, .ref c]))) c (CodeO c q)
theorem tabs_grow {T : List (Addr × Str)} {H : Hp} {P c : Addr} {q : Str} {ps : Array Value} {pos : Pos} (hT : Tabs T H) (hu : ∀ p ∈ T, p.1 = P → p.2 = q) (hP : H P = some (.tbl ps)) (nC : H c = none) :
    ExtN H (grown H P c q ps pos) ∧ Tabs T (grown H P c q ps pos) := by
  have nPc : P ≠ c := fun z => by rw [← z, hP] at nC; cases nC
  have up : ExtN H (grown H P c q ps pos) := by
    intro b o e n
    have n1 : b ≠ c := by rintro rfl; rw [nC] at e; cases e
    have n2 : b ≠ P := by rintro rfl; rw [hP] at e; cases e; exact n _ rfl
    show upd _ _ _ b = _
    rw [upd_ne n1, upd_ne n2, e]
  refine ⟨up, ?_⟩
  rintro ⟨p1, p2⟩ hp
  rcases hT _ hp with ⟨ps1, t1, t2, t3⟩
  by_cases e : p1 = P
  · have e2 : p2 = q := hu _ hp e
    subst e e2
    have e3 : ps1 = ps := by
      have z := t1.symm.trans hP
      cases z; rfl
    subst e3
    have el : (ps1 ++ #[rawInt pos.line, rawInt pos.col, .ref c]).toList = ps1.toList ++ [rawInt pos.line, rawInt pos.col, .ref c] := by rw [Array.toList_append]
    refine ⟨ps1 ++ #[rawInt pos.line, rawInt pos.col, .ref c], ?_, ?_, ?_⟩
    · show upd _ _ _ p1 = _
      rw [upd_ne nPc, upd_same]
    · rw [el]; exact PySem.TriplesOk_snoc _ _ _ _ t2
    · intro p' cv hcv
      rw [el] at hcv
      cases among_app _ t2 hcv with
      | inl z => exact (t3 p' cv z).imp fun c0 y => ⟨y.1, up _ _ y.2 codeO_ne⟩
      | inr z => exact ⟨c, z, upd_same⟩
  · have n1 : p1 ≠ c := fun z => by rw [← z, show H p1 = _ from t1] at nC; cases nC
    refine ⟨ps1, ?_, t2, fun p' cv hcv => (t3 p' cv hcv).imp fun c0 y => ⟨y.1, up _ _ y.2 codeO_ne⟩⟩
    show upd _ _ _ p1 = _
    rw [upd_ne n1, upd_ne e]; exact t1
/-- all, any of (elt for tg in iter); behind it the def's table may have grown -/
def tGenB (fin : Bool) (T : List (Addr × Str)) (vs : List Nat) (wi : TI) (g : TG) (te : TE) : TE := fun σ H Q => wi σ H fun J H1 => Tabs T H1 ∧ ∀ H2, ExtN H1 H2 → Tabs T H2 → ∃ W : Nat → Nat → L2.St → Hp → Prop, (∃ m, W 0 m (wipe σ vs) H2) ∧ GTurn J g te fin Q W
/-- the generator is made; who walks it is told all -/
theorem gen_made {T : List (Addr × Str)} {c P : Addr} {elt tg iter : Expr} {gpos : Pos} {scope : Scope} {wi : TI} {g : TG} {te : TE} {k : Nat} {fin : Bool} {Q : VK} {Q' : Value → Shared → Prop} {vs : List Nat} (hr : Room (k + 3) X.A) (TB : TabB X.base X.mg c P) (hcode : X.env.code = .ref c)
    (hm : (P, X.env.qual ++ "<genexpr>") ∈ T) (hu : ∀ p ∈ T, p.1 = P → p.2 = X.env.qual ++ "<genexpr>") (L : GenS1 X.env.scope scope) (hv : ownSlots X.N scope vs = true) (hi : PI X tg iter wi)
    (hb : ∀ (B : Around) (s : Shared) (H : Hp) (C : Addr) (code : Value) (fp : List Addr) (pn : List (Addr × Obj)), Room k (B.deeper (gEnv X scope C code)) → PG (genCx X B s H scope C code fp pn) tg g ∧ PE (genCx X B s H scope C code fp pn) elt te)
    (hs : ∀ v, genFold iter X.env v = pure v) (I : Inv X pins σ H s) (h : tGenB fin T vs wi g te σ H Q)
    (hQ : ∀ (Y : Cx) (a : Addr) (gn : Nat) (go : Obj) (nm qn : Value) (s5 : Shared) (n : Nat), Y.prog = X.prog → Y.w = X.w → (a, go) ∈ Y.pn → go.cls = .type "generator" → go.data = .fields #[.int gn 0, nm, qn] → go.slots = #[] → s5.heap.get? a = some go → s5.heap.NoLimit → AllBare s5.gens →
      (∃ gs, s5.gens[gn]? = some gs ∧ gs.Goes (model Y.prog Y.w) X.A.in1.in1 (AllR Y fin Q) (AllY Y fin Q) n (.send .none) (s5.setGen gn .running)) → (∀ b s', AllF Y Q b s' → EP X pins σ Q (.bool b) s') → Q' (.ref a) s5) :
    wpAny (model X.prog X.w) X.A (eval (.GeneratorExp elt [⟨tg, iter, [], 0⟩] scope gpos) X.env) Q' X.xe s := by
  refine wpAny_GeneratorExp_make L.sync (closure_ok (L.has I.ok)) L.nocell L.zero L.kind hr.depth ?_ hs
  refine thn (hi.run pins s σ H _ I h) fun xv s1 h1 => thn h1 fun itv s2 h2 => ?_
  obtain ⟨it, fp, tn, J, H2, rfl, I2, TT, st2, f2, hT, hcont⟩ := h2
  refine ⟨I2.nolimit, ?_⟩
  obtain ⟨ps, hP, ht, ha⟩ := hT _ hm; have hP2 : s2.heap.get? P = some { cls := .none, data := .fields ps } := I2.hok P _ hP
  have cd : PySem.W.CodeHd s2.heap c P := TB.code.keeps I2.bk
  have lt2 : ∀ b ∈ fp, b < s2.heap.objs.size := fun b hb => by
    obtain ⟨o, e, _⟩ := TT.obj 0 _ st2 b hb
    exact Heap.lt_size e
  have nP : ∀ b ∈ fp, b ≠ P := fun b hb z => by
    have q := (f2 b hb).1
    rw [z, hP] at q
    cases q
  have cont : ∀ (code : Value) (H3 : Hp) (s3 : Shared), Inv X pins σ H3 s3 → ExtN H2 H3 → Tabs T H3 → (∀ b ∈ fp, H3 b = none) → s2.heap.objs.size ≤ s3.heap.objs.size → (∀ b o, b ≠ P → s2.heap.get? b = some o → s3.heap.get? b = some o) →
      wpAny (model X.prog X.w) X.A (builtinsFor X.env.globals X.env.builtins) (fun bi s₄ => ∀ h', h'.Ns s₄.heap.objs.size (fun y => if y = (".0" : Str) then some (.ref it) else none) → Heap.SameBut s₄.heap.objs.size (s₄.heap.push { cls := .type "frame", data := .dict #[] }) h' →
          Q' (.ref h'.objs.size) { s₄ with
            gens := s₄.gens.push (.fresh (.compStart (.GeneratorExp elt [⟨tg, iter, [], 0⟩] scope gpos) 0 (.ref it) .none (genEnv scope (cloFrom X.env.cells scope.names []) s₄.heap.objs.size code bi X.env))),
            toks := s₄.toks + 1 + 1 + 1,
            heap := h'.push { cls := .type "generator", data := .fields #[.int s₄.gens.size 0, .str "<genexpr>" (s₄.toks + 1), .str (X.env.qual ++ "<genexpr>") (s₄.toks + 1 + 1)] } }) X.xe s3 := by
    intro code H3 s3 I3 hE hT3 f3 hsz kp3
    obtain ⟨bm, ob, e1, e2, e3, e4, e5, e6, e7, e8⟩ := TB.bm; refine wpAny_builtinsFor (m := X.mg) (by rw [I3.ok.glob]; exact I3.mod.glob.keeps I3.bk) e1 e2 (I3.bk _ _ e5) e6 e7 e8 ?_
    intro h' hns hsb
    have hsz' : h'.objs.size = s3.heap.objs.size + 1 := by rw [hsb.1, Heap.size_push]
    have kp' : ∀ b o, s3.heap.get? b = some o → h'.get? b = some o := fun b o e => hsb.extBut b o (Nat.ne_of_lt (Heap.lt_size e)) (Heap.get?_push_of_some _ e)
    obtain ⟨W, ⟨m, hw⟩, turn⟩ := hcont H3 hE hT3
    have fpk : ∀ b ∈ fp, FpOk X pins H3 b ∧ b < s3.heap.objs.size := fun b hb => ⟨⟨f3 b hb, (f2 b hb).2⟩, Nat.lt_of_lt_of_le (lt2 b hb) hsz⟩
    have J5 := gen_start (A := X.A.in1.in1) (code := code) (it := .ref it) (fp := fp) (a := h'.objs.size) (go := { cls := .type "generator", data := .fields #[.int s3.gens.size 0, .str "<genexpr>" (s3.toks + 1), .str (X.env.qual ++ "<genexpr>") (s3.toks + 1 + 1)] })
      (g := h'.push { cls := .type "generator", data := .fields #[.int s3.gens.size 0, .str "<genexpr>" (s3.toks + 1), .str (X.env.qual ++ "<genexpr>") (s3.toks + 1 + 1)] })
      (gs := s3.gens.push (.fresh (.compStart (.GeneratorExp elt [⟨tg, iter, [], 0⟩] scope gpos) 0 (.ref it) .none (genEnv scope (cloFrom X.env.cells scope.names []) s3.heap.objs.size code builtinsNs X.env)))) (tk := s3.toks + 1 + 1 + 1) (vs := vs)
      I3 L hv I3.ok.frames hr.hd fpk (hns.push _) (fun b o e => Heap.get?_push_of_some _ (kp' b o e)) (by rw [hsz']; exact Nat.lt_succ_self _) (Heap.get?_push_size _ rfl) (fun v z => by cases z) (AllBare.push I3.bare rfl)
    obtain ⟨hg, he⟩ := hb X.A.in1.in1 s3 H3 s3.heap.objs.size code fp [(h'.objs.size, { cls := .type "generator", data := .fields #[.int s3.gens.size 0, .str "<genexpr>" (s3.toks + 1), .str (X.env.qual ++ "<genexpr>") (s3.toks + 1 + 1)] })] (Room.deeper (Room.in1 (Room.in1 hr)) _)
    refine hQ (genCx X X.A.in1.in1 s3 H3 scope s3.heap.objs.size code fp [(h'.objs.size, { cls := .type "generator", data := .fields #[.int s3.gens.size 0, .str "<genexpr>" (s3.toks + 1), .str (X.env.qual ++ "<genexpr>") (s3.toks + 1 + 1)] })]) h'.objs.size s3.gens.size _ _ _ _ (m + 1) rfl rfl (List.mem_singleton.mpr rfl) rfl rfl rfl (Heap.get?_push_size _ rfl) J5.nolimit J5.bare ⟨_, Array.getElem?_push_size .., rfl, ?_⟩ fun b s' hF => ?_
    · refine seg_allStart (Y := genCx X X.A.in1.in1 s3 H3 scope s3.heap.objs.size code fp _) rfl L.sync over_comp (fun e s z => z) TT (fun H' hn b hb => ?_) hg he turn hw (inv_like J5 ⟨rfl, rfl, allBare_setGen J5.bare rfl⟩) ?_ f3
      · obtain ⟨⟨x0, x1, x2, x3, x4, x5⟩, x6⟩ := fpk b hb
        have cm : ∀ {y : Str} {c : Addr}, (cloFrom X.env.cells scope.names []).lookup y = some c → ∃ z, X.env.cells.lookup z = some c := by
          intro y c eL
          cases cloFrom_mem (PySem.mem_of_lookup eL) with
          | inl hm => cases hm
          | inr hm =>
            obtain ⟨h1, h2⟩ := hm
            obtain ⟨c1, hc⟩ := L.has I.ok (y, .free) h1 rfl
            replace hc : X.env.cells.lookup y = some c1 := hc
            refine ⟨y, ?_⟩
            rw [h2, hc] <;> rfl
        refine ⟨hn b hb, Nat.ne_of_lt x6, fun z => ?_, .inl hb, fun y c e => ?_, fun p hp => ?_⟩
        · rcases List.mem_cons.mp (I3.stkSub b z) with y | y
          · exact x1 y
          · exact x2 y
        · obtain ⟨z, hz⟩ := cm e
          exact x4 z c hz
        · have ep : p.1 = h'.objs.size := by
            cases List.mem_append.mp hp with
            | inl q => rw [List.mem_singleton.mp q]
            | inr q => cases q
          rw [ep, hsz']
          exact Nat.ne_of_gt (Nat.lt_succ_of_lt x6)
      · refine TT.keep 0 _ _ st2 fun b hb o e => ?_
        exact Heap.get?_push_of_some _ (kp' b o (kp3 b o (nP b hb) e))
    · obtain ⟨H', ho, hba, hun, hok, hq⟩ := hF
      exact ⟨.bl b, H', I3.call' (ch := fp) ho hun hok hba (fun b hb => (fpk b hb).1.2.2.2 |> fun z => ⟨z.1, (fpk b hb).1.2.1, z.2.1, z.2.2⟩), rfl, hq⟩
  match hf : codeAmong gpos ps.toList with
  | some cv => exact wpAny_genexprCode_hit hcode (cd.code hP2 ht) hf (cont cv H2 s2 I2 (ExtN.refl H2) hT (fun b hb => (f2 b hb).1) (Nat.le_refl _) fun b o _ e => e)
  | none =>
    refine wpAny_genexprCodeX hcode (cd.code hP2 ht) (cd.tab hP2) hf fun c' h' tk hx hge hlt hco' hrec htab' _ => ?_
    obtain ⟨c2, oc, ws, t, e2, hoc, hd, hws⟩ := hrec; cases e2
    have nC : H2 c' = none := I2.hok.fresh hge
    have I3 : Inv X pins σ (grown H2 P c' (X.env.qual ++ "<genexpr>") ps gpos) { s2 with heap := h', toks := tk } := inv_table I2 hP (fun b o hb e => hx b o hb e) htab'.2 hge ⟨oc, ws, t, hoc, hd, hws⟩
    have G := tabs_grow (pos := gpos) hT hu hP nC
    refine cont _ _ _ I3 G.1 G.2 (fun b hb => ?_) (Nat.le_trans hge (Nat.le_of_lt hlt)) fun b o hb e => hx b o hb e
    show upd _ _ _ b = none
    have n1 : b ≠ c' := fun z => Nat.lt_irrefl _ (Nat.lt_of_lt_of_le (by rw [← z]; exact lt2 b hb) hge)
    rw [upd_ne n1, upd_ne (nP b hb), (f2 b hb).1]
theorem pe_allG {T : List (Addr × Str)} {c P : Addr} {elt tg iter : Expr} {p pos gpos : Pos} {scope : Scope} {wi : TI} {g : TG} {te : TE} {k : Nat} {vs : List Nat} (hr : Room (k + 3) X.A) (hgl : Gl X "all") (hmg : X.mg "all" = none) (TB : TabB X.base X.mg c P) (hcode : X.env.code = .ref c)
    (hm : (P, X.env.qual ++ "<genexpr>") ∈ T) (hu : ∀ p ∈ T, p.1 = P → p.2 = X.env.qual ++ "<genexpr>") (L : GenS1 X.env.scope scope) (hv : ownSlots X.N scope vs = true) (hi : PI X tg iter wi)
    (hb : ∀ (B : Around) (s : Shared) (H : Hp) (C : Addr) (code : Value) (fp : List Addr) (pn : List (Addr × Obj)), Room k (B.deeper (gEnv X scope C code)) → PG (genCx X B s H scope C code fp pn) tg g ∧ PE (genCx X B s H scope C code fp pn) elt te)
    (hs : ∀ v, genFold iter X.env v = pure v := by intro _; rfl)
    (he : starEach [.GeneratorExp elt [⟨tg, iter, [], 0⟩] scope gpos] X.env = (false, eval (.GeneratorExp elt [⟨tg, iter, [], 0⟩] scope gpos) X.env) :: starEach [] X.env := by rfl) :
    PE X (.Call (.Name "all" p) [.GeneratorExp elt [⟨tg, iter, [], 0⟩] scope gpos] [] pos) (tGenB true T vs wi g te) := by
  refine ⟨fun pins s σ H Q I h => ?_⟩; refine wpAny_Call_Name_kw (ld_blt I hgl hmg (show bootBuiltins "all" = some (.builtin "all") by decide +kernel) ?_)
  refine PyProof.Rows.callWith_builtin1 ?_ he (by rfl); rw [he]
  show wpAny _ _ (spliced ((false, eval (.GeneratorExp elt [⟨tg, iter, [], 0⟩] scope gpos) X.env) :: backTo pos (starEach [] X.env))) _ _ s
  refine Calls.spliced_cons (gen_made hr TB hcode hm hu L hv hi hb hs I h fun Y a gn go nm qn s5 n e1 e2 hpn hc hd hsl ha hl hba hgo hF => ?_)
  refine Calls.spliced_nil ?_
  refine call_function_tree F.kind_all F.plain_all F.entry_all (F.args_all1 _) ?_; unfold Builtin.«all»
  refine wpAny_bind (m := oneArg "all" _) (wpAny_pure ?_); refine wpAny_bind (wpAny_pyIter_gen ⟨go, nm, qn, ha, hc, hd, hsl⟩ ?_)
  refine wpAny_pure ⟨plainId_quiet F.plain_all_loop _, ?_⟩
  rw [← e1, ← e2]
  refine all_loop (Y := Y) (Q := Q) hr.hd hr.depth hpn hc hd hsl (fun b s' q => ?_) n s5 ha hl hba hgo
  exact hF b s' q
theorem pe_anyG {T : List (Addr × Str)} {c P : Addr} {elt tg iter : Expr} {p pos gpos : Pos} {scope : Scope} {wi : TI} {g : TG} {te : TE} {k : Nat} {vs : List Nat} (hr : Room (k + 3) X.A) (hgl : Gl X "any") (hmg : X.mg "any" = none) (TB : TabB X.base X.mg c P) (hcode : X.env.code = .ref c)
    (hm : (P, X.env.qual ++ "<genexpr>") ∈ T) (hu : ∀ p ∈ T, p.1 = P → p.2 = X.env.qual ++ "<genexpr>") (L : GenS1 X.env.scope scope) (hv : ownSlots X.N scope vs = true) (hi : PI X tg iter wi)
    (hb : ∀ (B : Around) (s : Shared) (H : Hp) (C : Addr) (code : Value) (fp : List Addr) (pn : List (Addr × Obj)), Room k (B.deeper (gEnv X scope C code)) → PG (genCx X B s H scope C code fp pn) tg g ∧ PE (genCx X B s H scope C code fp pn) elt te)
    (hs : ∀ v, genFold iter X.env v = pure v := by intro _; rfl)
    (he : starEach [.GeneratorExp elt [⟨tg, iter, [], 0⟩] scope gpos] X.env = (false, eval (.GeneratorExp elt [⟨tg, iter, [], 0⟩] scope gpos) X.env) :: starEach [] X.env := by rfl) :
    PE X (.Call (.Name "any" p) [.GeneratorExp elt [⟨tg, iter, [], 0⟩] scope gpos] [] pos) (tGenB false T vs wi g te) := by
  refine ⟨fun pins s σ H Q I h => ?_⟩; refine wpAny_Call_Name_kw (ld_blt I hgl hmg boot_any ?_)
  refine PyProof.Rows.callWith_builtin1 ?_ he (by rfl); rw [he]
  show wpAny _ _ (spliced ((false, eval (.GeneratorExp elt [⟨tg, iter, [], 0⟩] scope gpos) X.env) :: backTo pos (starEach [] X.env))) _ _ s
  refine Calls.spliced_cons (gen_made hr TB hcode hm hu L hv hi hb hs I h fun Y a gn go nm qn s5 n e1 e2 hpn hc hd hsl ha hl hba hgo hF => ?_)
  refine Calls.spliced_nil ?_
  refine call_function_tree F.kind_any F.plain_any F.entry_any (F.args_any1 _) ?_; unfold Builtin.«any»
  refine wpAny_bind (m := oneArg "any" _) (wpAny_pure ?_); refine wpAny_bind (wpAny_pyIter_gen ⟨go, nm, qn, ha, hc, hd, hsl⟩ ?_)
  refine wpAny_pure ⟨plainId_quiet F.plain_any_loop _, ?_⟩
  rw [← e1, ← e2]
  refine any_loop (Y := Y) (Q := Q) hr.hd hr.depth hpn hc hd hsl (fun b s' q => ?_) n s5 ha hl hba hgo
  exact hF b s' q
end
end LS
set_option maxHeartbeats 2100000
/-! a generator def of the form «first statements; while test: yield list; statement», walked by [len(x) for x in g(..)] -/
namespace LS
open PySem L2 PySem.Spec PyProof.Rows LamX GenW
/-- while the generator sleeps: its consumer puts z behind the list at S and writes its own names at C -/
structure Woke (S C : Addr) (z : V) (s s' : Shared) : Prop where
  os : s'.os = s.os
  bare : AllBare s'.gens
  keep : ∀ b o, b ≠ S → b ≠ C → s.heap.get? b = some o → s'.heap.get? b = some o
  ns : ∃ m, s'.heap.Ns C m
  own : ∀ acc c, s.heap.get? S = some (lstObj acc c) → ∃ v c', RelV z v ∧ s'.heap.get? S = some (lstObj (acc.push v) c')
structure Far (Y : Cx) (b : Addr) : Prop where
  young : Y.s_0.heap.objs.size ≤ b
  loc : b ≠ Y.env.locals
  cell : ∀ x c, Y.env.cells.lookup x = some c → c ≠ b
  pn : ∀ p ∈ Y.pn, p.1 ≠ b
/-- ys stands in the consumer's list -/
def GN (Y : Cx) (S C : Addr) (ys : List V) (σ : L2.St) (H : Hp) (s : Shared) : Prop :=
  ∃ (acc : Array Value) (c : Nat) (oC : Obj), Vals ys acc.toList ∧ (∃ m, s.heap.Ns C m) ∧ Inv Y [(S, lstObj acc c), (C, oC)] σ H s
theorem out2 {b S C : Addr} (h : b ∈ [S, C]) : b = S ∨ b = C := (List.mem_cons.mp h).imp id List.mem_singleton.mp
theorem ns_obj {h : Heap} {C : Addr} {m : Str → Option Value} (n : h.Ns C m) : ∃ o, h.get? C = some o ∧ ∀ v, o.data ≠ .cell v := by
  obtain ⟨o, es, ep, ho, hr⟩ := n
  refine ⟨o, ho, fun v z => ?_⟩
  have := hr.1
  rw [z] at this
  cases this
section
variable {Y : Cx} {S C : Addr} {ys : List V} {σ : L2.St} {H : Hp} {s s' : Shared}
theorem GN.at (h : GN Y S C ys σ H s) : H S = none ∧ H C = none ∧ (∃ m, s.heap.Ns C m) ∧ ∃ (acc : Array Value) (c : Nat), Vals ys acc.toList ∧ s.heap.get? S = some (lstObj acc c) := by
  obtain ⟨acc, c, oC, r, n, I⟩ := h
  obtain ⟨h1, h2, _⟩ := I.pin (S, lstObj acc c) (List.mem_append_right _ List.mem_cons_self)
  obtain ⟨_, h3, _⟩ := I.pin (C, oC) (List.mem_append_right _ (List.mem_cons_of_mem _ List.mem_cons_self))
  exact ⟨h2, h3, n, acc, c, r, h1⟩
theorem GN.woke {z : V} (hS : Far Y S) (hC : Far Y C) (ne : S ≠ C) (h : GN Y S C ys σ H s) (k : Woke S C z s s') : GN Y S C (ys ++ [z]) σ H s' := by
  obtain ⟨hS0, hC0, _, _⟩ := h.at
  obtain ⟨acc, c, oC, r, n, I⟩ := h
  obtain ⟨eS, _, _, nSf, _⟩ := I.pin (S, lstObj acc c) (List.mem_append_right _ List.mem_cons_self)
  obtain ⟨eC, _, _, nCf, _⟩ := I.pin (C, oC) (List.mem_append_right _ (List.mem_cons_of_mem _ List.mem_cons_self))
  have I0 : Inv Y [] σ H s := I.pins_of fun p hp => I.pin p (List.mem_append_left _ (by simpa using hp))
  obtain ⟨v, c', rv, eS'⟩ := k.own acc c eS
  obtain ⟨m', nsC⟩ := k.ns
  obtain ⟨oC', eC', dC'⟩ := ns_obj nsC
  have nt : ∀ b u, H b = some u → b ≠ S ∧ b ≠ C := fun b u q => ⟨ne_of_none q hS0, ne_of_none q hC0⟩
  have out : ∀ b, b ∉ [S, C] → b ≠ S ∧ b ≠ C := fun b hb => ⟨fun e => hb (by rw [e]; exact List.mem_cons_self), fun e => hb (by rw [e]; exact List.mem_cons_of_mem _ List.mem_cons_self)⟩
  obtain ⟨hh, g, d, t, o⟩ := s'
  have ho : o = s.os := k.os
  subst ho
  have J : Inv Y [] σ H { s with heap := hh, gens := g, drawn := d, toks := t } := by
    refine I0.step (g' := g) (t' := t) (d' := d) (ch := [S, C]) (fun b hb => ?_) (fun b ob _ _ hc q _ => k.keep b ob (out b hc).1 (out b hc).2 q) (fun b ob _ _ hc q _ => ⟨ob.slots, k.keep b ob (out b hc).1 (out b hc).2 q⟩) (fun _ _ _ _ w => w) (fun b ob hc q => ⟨ob, k.keep b ob (out b hc).1 (out b hc).2 q⟩)
      (fun _ _ q => q) (fun _ _ _ q => q) (fun b ps q => ⟨#[], by rw [q]; simp⟩) (fun m hm => ?_) (fun b u q => ?_) k.bare
    · have F : Far Y b := by
        rcases out2 hb with rfl | rfl
        · exact hS
        · exact hC
      exact ⟨.inr F.young, F.loc, F.cell, fun p hp => F.pn p (by simpa using hp)⟩
    · obtain ⟨ob, es, ep, hob, hr⟩ := hm
      exact ⟨ob, es, ep, k.keep _ ob (Ne.symm hS.loc) (Ne.symm hC.loc) hob, hr⟩
    · refine (I0.hok b u q).stay (fun e w he y => ?_) (fun _ y => y) fun _ _ y => y
      rcases he with y1 | y1
      · rw [y1] at y ⊢; exact k.keep b w (nt b u q).1 (nt b u q).2 y
      · exact k.keep e w (nt e _ y1).1 (nt e _ y1).2 y
  refine ⟨acc.push v, c', oC', ?_, ⟨m', nsC⟩, J.pins_of fun p hp => ?_⟩
  · rw [Array.toList_push]; exact Vals.append r (.cons rv .nil)
  · match p, hp with
    | _, .head _ => exact ⟨eS', hS0, hS.loc, nSf, fun v q => by cases q⟩
    | _, .tail _ (.head _) => exact ⟨eC', hC0, hC.loc, nCf, dC'⟩
end
/-! ### the body's run -/
def YN (Y : Cx) (S C : Addr) : Protocol := fun n s₀ v s kap => ∃ (ys : List V) (a : Addr) (zs : List V) (σ : L2.St) (H : Hp), v = .ref a ∧ H a = some (.lst zs) ∧ GN Y S C ys σ H s ∧ ys.length < 1000 ∧ ∀ s', Woke S C (.int (zs.length : Nat)) s s' → kap (.send .none) s'
def EN (Y : Cx) (S C : Addr) (Q : List V → Hp → Prop) : Nat → Shared → Shared → Prop := fun _ _ s => ∃ (ys : List V) (σ : L2.St) (H : Hp), GN Y S C ys σ H s ∧ Q ys H
def RN (Y : Cx) (S C : Addr) (Q : List V → Hp → Prop) : GenEnd := fun n s₀ r s => ((r = .ok (.ret .none) ∨ r = .ok .next) ∧ EN Y S C Q n s₀ s) ∨ ∃ e, r = .error e ∧ False
abbrev noRt : VK := fun _ _ => False
/-- the while, its turns -/
def tGW (c : TT) (te : TE) (post : TS) (Q : List V → Hp → Prop) (σ : L2.St) (H : Hp) : Prop := ∃ W : Nat → List V → L2.St → Hp → Prop, (∃ m, m < 1000 ∧ W m [] σ H) ∧ ∀ m ys σ H, W m ys σ H →
  c σ H fun b H1 => if b = true then ys.length < 1000 ∧ te σ H1 fun x H2 => ∃ (a : Addr) (zs : List V), x = .ref a ∧ H2 a = some (.lst zs) ∧ post { nx := fun σ3 H3 => ∃ m', m' < m ∧ W m' (ys ++ [.int (zs.length : Nat)]) σ3 H3, rt := noRt } σ H2 else Q ys H1
section
variable {Y : Cx} {S C : Addr} {B : Around} {Q : List V → Hp → Prop} {test e : Expr} {st3 : Stmt} {wpos yp epos : Pos} {tc : TT} {te : TE} {tp : TS}
theorem seg_body (hxe : ∀ e s, Y.xe e s → False) (hS : Far Y S) (hC : Far Y C) (ne : S ≠ C) (hco : Y.env.scope.isCoroutine = false) (hi : interactive Y.env = false)
    (hc : PT Y test tc) (he : PE Y e te) (hp : PS Y st3 tp) {c0 : Code} {fs0 : List Frame} (ov0 : B.over c0 fs0 = Y.A) (sp0 : splitAtGen fs0 = none) (gu0 : fs0.any Frame.guarded = false) {K : Flow → Sem PySem.Fin} {J : Value → Sem PySem.Fin}
    (hK : ∀ (n : Nat) (s₀ s : Shared) (ys : List V) (σ : L2.St) (H : Hp), GN Y S C ys σ H s → Q ys H → Seg (model Y.prog Y.w) B (RN Y S C Q) (YN Y S C) n s₀ c0 (K .next) fs0 s)
    {n : Nat} {s₀ s : Shared} {σ : L2.St} {H : Hp} (hn : 1000 ≤ n) (G : GN Y S C [] σ H s) (h : tGW tc te tp Q σ H) :
    Seg (model Y.prog Y.w) B (RN Y S C Q) (YN Y S C) n s₀ c0 ((exec (.While test [.Expr (.Yield (some e) yp) epos, st3] [] wpos) Y.env).wrap K J id id) fs0 s := by
  obtain ⟨W, ⟨m0, hm0, w0⟩, turn⟩ := h
  refine seg_While fun p => ?_
  have ovl : ∀ (k : Result → Sem PySem.Fin), B.over (.whileLoop test [.Expr (.Yield (some e) yp) epos, st3] [] Y.env) (.ret k none (id false) (id []) c0 p [] :: fs0) = Y.A := fun k => (over_loop rfl rfl).trans ov0
  have spl : ∀ (k : Result → Sem PySem.Fin), splitAtGen (.ret k none (id false) (id []) c0 p [] :: fs0) = none := fun k => by
    show (splitAtGen fs0).map _ = none
    rw [sp0]; rfl
  have gul : ∀ (k : Result → Sem PySem.Fin), (Frame.ret k none (id false) (id []) c0 p [] :: fs0).any Frame.guarded = false := fun k => by
    show (false || fs0.any Frame.guarded) = false
    rw [gu0]; rfl
  have loop : ∀ (m n : Nat) (ys : List V) (s₀ s : Shared) (σ : L2.St) (H : Hp), m < n → W m ys σ H → GN Y S C ys σ H s →
      Seg (model Y.prog Y.w) B (RN Y S C Q) (YN Y S C) n s₀ (.whileLoop test [.Expr (.Yield (some e) yp) epos, st3] [] Y.env) ((model Y.prog Y.w).den (.whileLoop test [.Expr (.Yield (some e) yp) epos, st3] [] Y.env))
        (.ret (fun r => ((match r with | .ok f => (.pure f : Sem Flow) | .error e => .raise e).onRaise (cameBack Y.env)).wrap K J id id) none (id false) (id []) c0 p [] :: fs0) s := by
    refine fun m => Nat.strongRecOn m fun m ih => ?_
    · intro n ys s₀ s σ H hmn w G
      obtain ⟨n, rfl⟩ := Nat.exists_eq_succ_of_ne_zero (show n ≠ 0 by omega)
      refine seg_whileLoop ?_
      rw [ovl]
      obtain ⟨acc, cc, oC, r, ns, I⟩ := G
      refine wpAny_mono (hc.run _ s σ H _ I (turn m ys σ H w)) (fun b s' hb => ?_) fun x s' hx => (hxe x s' hx).elim
      obtain ⟨H2, I2, q2⟩ := hb
      have nsP : ∀ {s1 : Shared} {σ1 : L2.St} {H1 : Hp}, Inv Y [(S, lstObj acc cc), (C, oC)] σ1 H1 s1 → ∃ m, s1.heap.Ns C m := fun {s1 σ1 H1} I1 => by
        obtain ⟨m9, ob, es, ep, hob, hr⟩ := ns
        have e1 := (I.pin (C, oC) (List.mem_append_right _ (List.mem_cons_of_mem _ List.mem_cons_self))).1
        have e2 := (I1.pin (C, oC) (List.mem_append_right _ (List.mem_cons_of_mem _ List.mem_cons_self))).1
        exact ⟨m9, ob, es, ep, by rw [e2, ← e1]; exact hob, hr⟩
      cases b with
      | false =>
        rw [if_neg Bool.false_ne_true] at q2 ⊢
        refine seg_execs_nil ?_
        exact seg_leaf (.ok .next) (hK _ _ _ ys σ H2 ⟨acc, cc, oC, r, nsP I2, I2⟩ q2)
      | true =>
        rw [if_pos rfl] at q2 ⊢
        obtain ⟨yl, q2⟩ := q2
        refine seg_execs_cons (seg_Expr_Yield (spl _) rfl (gul _) ?_ hco hi)
        rw [ovl]
        refine wpAny_mono (he.run _ s' σ H2 _ I2 q2) (fun v s3 hv => ?_) fun x s' hx => (hxe x s' hx).elim
        obtain ⟨x, H3, I3, rv, a, zs, ex, ha, q3⟩ := hv
        subst ex
        intro kap hk
        have G3 : GN Y S C ys σ H3 s3 := ⟨acc, cc, oC, r, nsP I3, I3⟩
        refine ⟨ys, a, zs, σ, H3, rv, ha, G3, yl, fun s4 k4 => hk .none s4 ?_⟩
        obtain ⟨acc4, cc4, oC4, r4, ns4, I4⟩ := G3.woke hS hC ne k4
        show Seg _ _ _ _ _ _ _ ((execs [st3] Y.env).wrap _ _ _ _) _ _
        refine seg_execs_cons (seg_wrap ?_)
        rw [ovl]
        refine wpAny_mono (hp.run _ s4 σ H3 _ I4 q3) (fun fl s5 hs => ?_) fun x s' hx => (hxe x s' hx).elim
        cases fl with
        | next =>
          obtain ⟨σ5, H5, I5, m5, hm5, w5⟩ := hs
          have ns5 : ∃ m, s5.heap.Ns C m := by
            obtain ⟨m9, ob, es, ep, hob, hr⟩ := ns4
            have e1 := (I4.pin (C, oC4) (List.mem_append_right _ (List.mem_cons_of_mem _ List.mem_cons_self))).1
            have e2 := (I5.pin (C, oC4) (List.mem_append_right _ (List.mem_cons_of_mem _ List.mem_cons_self))).1
            exact ⟨m9, ob, es, ep, by rw [e2, ← e1]; exact hob, hr⟩
          exact seg_execs_nil (seg_again rfl (ih m5 hm5 n _ _ _ σ5 H5 (by omega) w5 ⟨acc4, cc4, oC4, r4, ns5, I5⟩))
        | brk => obtain ⟨_, _, _, z⟩ := hs; exact z.elim
        | cont => obtain ⟨_, _, _, z⟩ := hs; exact z.elim
        | ret u => obtain ⟨_, _, _, _, _, z⟩ := hs; exact z.elim
  exact loop m0 n [] s₀ s σ H (by omega) w0 G
end
/-! ### the generator is made -/
abbrev gnX (P : Program) (w : World) (K : PySem.W.Frag) (mg : Str → Option Value) (base : Heap) (N : List Str) (qual : Str) (scope : Scope) (f : Addr) (cdv : Value) (A : Around) (outer : List Env) (s : Shared) (H : Hp) (pn : List (Addr × Obj)) : Cx :=
  (gcxOf P w K mg base N qual scope f cdv A outer s H (fun _ _ _ => False) pn).nox
structure GBody (Y : Cx) (st1 st2 st3 : Stmt) (test e : Expr) (t1 t2 t3 : TS) (tc : TT) (te : TE) : Prop where
  s1 : PS Y st1 t1
  s2 : PS Y st2 t2
  s3 : PS Y st3 t3
  c : PT Y test tc
  y : PE Y e te
def tGN (t1 t2 t3 : TS) (tc : TT) (te : TE) (Q : List V → Hp → Prop) (σ : L2.St) (H : Hp) : Prop := t1 { nx := fun σ1 H1 => t2 { nx := fun σ2 H2 => tGW tc te t3 Q σ2 H2, rt := noRt } σ1 H1, rt := noRt } σ H
structure IsGo (go : Obj) (g : Nat) : Prop where
  cls : go.cls = .type "generator"
  dat : ∃ nm qn, go.data = .fields #[.int g 0, nm, qn]
  slt : go.slots = #[]
section
variable {P : Program} {w : World} {K : PySem.W.Frag} {mg : Str → Option Value} {base : Heap} {N ps : List Str} {name qual : Str} {scope : Scope} {f : Addr} {cdv : Value} {k : Nat}
def MadeN (P : Program) (w : World) (K : PySem.W.Frag) (mg : Str → Option Value) (base : Heap) (N : List Str) (qual : Str) (scope : Scope) (f : Addr) (cdv : Value) (k : Nat) (outer : List Env) (H : Hp) (s : Shared) (Q : List V → Hp → Prop) (u : Value) (s' : Shared) : Prop :=
  ∃ (a : Addr) (g : Nat) (c : Code) (go : Obj), u = .ref a ∧ s.heap.objs.size ≤ a ∧ a < s'.heap.objs.size ∧ IsGo go g ∧ s'.heap.get? a = some go ∧ s'.gens[g]? = some (.fresh c) ∧ s'.os = s.os ∧ AllBare s'.gens ∧ s'.heap.NoLimit ∧ (∀ b o, s.heap.get? b = some o → s'.heap.get? b = some o) ∧
    ∀ (A : Around) (S C : Addr) (s2 : Shared), Room k A → A.frames = some outer → s'.heap.objs.size ≤ S → s'.heap.objs.size ≤ C → S ≠ C → (∀ b o, s'.heap.get? b = some o → s2.heap.get? b = some o) → (∃ c, s2.heap.get? S = some (lstObj #[] c)) → (∃ m, s2.heap.Ns C m) → s2.os = s.os → AllBare s2.gens →
      Far (gnX P w K mg base N qual scope f cdv A outer s H [(a, go)]) S ∧ Far (gnX P w K mg base N qual scope f cdv A outer s H [(a, go)]) C ∧ Seg (model P w) A (RN (gnX P w K mg base N qual scope f cdv A outer s H [(a, go)]) S C Q) (YN (gnX P w K mg base N qual scope f cdv A outer s H [(a, go)]) S C) 1000 s2 c ((model P w).den c) [] s2
theorem gn_made {params : Arguments} {dV kV doc pm ct oc : Value} {an od : Option Addr} {osl : Array (Option Value)} {st1 st2 st3 : Stmt} {test e : Expr} {yp epos wpos : Pos} {A : Around} {outer : List Env} {s : Shared} {H : Hp} {args : Args} {us : List Value} {vs : List V} {Q : List V → Hp → Prop}
    (lk : K.lookup f = some ⟨oc, od, .func (PySem.W.fnOf name qual params [st1, st2, .While test [.Expr (.Yield (some e) yp) epos, st3] [] wpos] scope dV kV doc pm an cdv ct), osl⟩) (hcd : PySem.W.codeIn K cdv qual = true) (G : GScope N ps scope) (hi : ∀ L c, interactive (envOfC qual scope L f c) = false)
    (hr : Room (k + 1) A) (e0 : Env0 P w K mg base A outer s H) (hb : BindsTo s (PySem.W.fnOf name qual params [st1, st2, .While test [.Expr (.Yield (some e) yp) epos, st3] [] wpos] scope dV kV doc pm an cdv ct) args (ps.zip us)) (r : Vals vs us) (hl : vs.length = ps.length)
    (hbody : ∀ (Aw : Around) (pn : List (Addr × Obj)), Room k (Aw.deeper (envOfC qual scope s.heap.objs.size f cdv)) → ∃ t1 t2 t3 tc te, GBody (gnX P w K mg base N qual scope f cdv Aw outer s H pn) st1 st2 st3 test e t1 t2 t3 tc te ∧ tGN t1 t2 t3 tc te Q (start N vs) H) :
    codeAny (model P w) A (.call (.ref f) args) (fun rr s' => match rr with | .ok (.ret u) => MadeN P w K mg base N qual scope f cdv (k + 1) outer H s Q u s' | _ => False) s := by
  have inK : K.In s.heap := e0.mod.kin.keeps fun b ob z => (e0.bs b ob z).1
  refine codeAny_call_generator hr.depth (inK _ _ lk) rfl G.co G.gen rfl (PySem.W.codeRec_of inK hcd) (hb _ _ _ _ ?_)
  refine wpAny_newFunctionEnv_cells G.kind (fun y hy => (G.par y.1 (List.of_mem_zip (show (y.1, y.2) ∈ ps.zip us from hy)).1).imp id fun z => ⟨z, PySem.W.cellsFrom_some _ _ _ (.inl z)⟩) fun env henv s1 x => ?_
  subst henv
  have kp1 := x.toInCall.keep
  have noL : s1.heap.NoLimit := (e0.mod.nolimit.keeps fun b ob z => (e0.bs b ob z).1).keeps kp1
  refine ⟨noL, ?_⟩
  have lt1 := x.toInCall.ns.lt
  have same1 : s1.os = s.os ∧ s1.gens = s.gens := by
    obtain ⟨_, _, e, _⟩ := x.done
    rw [e]
    exact ⟨rfl, rfl⟩
  generalize hgo : ({ cls := .type "generator", data := .fields #[.int s1.gens.size 0, .str name s1.toks, .str qual (s1.toks + 1)] } : Obj) = go
  have isg : IsGo go s1.gens.size := by
    rw [← hgo]
    exact ⟨rfl, ⟨_, _, rfl⟩, rfl⟩
  have gd : ∀ v, go.data ≠ .cell v := fun v z => by
    rw [← hgo] at z
    cases z
  have main : MadeN P w K mg base N qual scope f cdv (k + 1) outer H s Q (.ref s1.heap.objs.size) { s1 with gens := s1.gens.push (.fresh (.func [st1, st2, .While test [.Expr (.Yield (some e) yp) epos, st3] [] wpos] (envOfC qual scope s.heap.objs.size f cdv))), toks := s1.toks + 1 + 1, heap := s1.heap.push go } := by
    have gp : (s1.heap.push go).get? s1.heap.objs.size = some go := Heap.get?_push_size _ (by rw [← hgo]; rfl)
    refine ⟨s1.heap.objs.size, s1.gens.size, _, go, rfl, Nat.le_of_lt lt1, by rw [Heap.size_push]; exact Nat.lt_succ_self _, isg, gp, Array.getElem?_push_size .., same1.1, AllBare.push (by rw [same1.2]; exact e0.bare) rfl, noL.keeps fun b ob z => Heap.get?_push_of_some _ z, fun b ob z => Heap.get?_push_of_some _ (kp1 b ob z), ?_⟩
    intro Aw S C s2 hrw hfr hS hC ne hk2 ⟨cS, eS⟩ nsC hos hba
    obtain ⟨t1, t2, t3, tc, te, GB, hq⟩ := hbody Aw [(s1.heap.objs.size, go)] (hrw.deeper _)
    have I1 : Inv (gcxOf P w K mg base N qual scope f cdv Aw outer s H (fun _ _ _ => False) []) [] (start N vs) H s1 := inv_startG G hrw.hd { e0 with frames := hfr } hl r x
    have up : ∀ b ob, s1.heap.get? b = some ob → s2.heap.get? b = some ob := fun b ob z => hk2 b ob (Heap.get?_push_of_some _ z)
    have I2 : Inv (gcxOf P w K mg base N qual scope f cdv Aw outer s H (fun _ _ _ => False) []) [] (start N vs) H s2 :=
      Inv.call' (ch := []) I1 (hos.trans same1.1.symm) (Un.kept up) (I1.hok.kept up) hba fun b z => nomatch z
    -- what lies behind the call's own objects
    have new1 : ∀ {b : Addr}, s1.heap.objs.size ≤ b → FpOk (gcxOf P w K mg base N qual scope f cdv Aw outer s H (fun _ _ _ => False) []) [] H b := fun hb => I1.fpOk hb (I1.hok.fresh hb)
    have far : ∀ {b : Addr}, (s1.heap.push go).objs.size ≤ b → Far (gnX P w K mg base N qual scope f cdv Aw outer s H [(s1.heap.objs.size, go)]) b ∧ H b = none ∧ b ∉ frs outer := fun {b} hb => by
      rw [Heap.size_push] at hb
      obtain ⟨n1, n2, n3, n4, n5, _⟩ := new1 (Nat.le_of_lt hb)
      exact ⟨⟨n4.resolve_left (fun z => nomatch z), n2, n5, fun p hp => by rw [List.mem_singleton.mp hp]; exact Nat.ne_of_lt hb⟩, n1, n3⟩
    obtain ⟨farS, noS, frS⟩ := far hS
    obtain ⟨farC, noC, frC⟩ := far hC
    refine ⟨farS, farC, ?_⟩
    obtain ⟨mC, nsC'⟩ := nsC
    obtain ⟨oC, eC, dC⟩ := ns_obj nsC'
    have hG : GN (gnX P w K mg base N qual scope f cdv Aw outer s H [(s1.heap.objs.size, go)]) S C [] (start N vs) H s2 := by
      refine ⟨#[], cS, oC, .nil, ⟨mC, nsC'⟩, (Inv.pinnedG I2 fun p hp => ?_).wish _⟩
      match p, hp with
      | _, .head _ =>
        obtain ⟨n1, n2, n3, _⟩ := new1 (Nat.le_refl _)
        exact ⟨hk2 _ _ gp, n1, n2, n3, gd⟩
      | _, .tail _ (.head _) => exact ⟨eS, noS, farS.loc, frS, fun v q => by cases q⟩
      | _, .tail _ (.tail _ (.head _)) => exact ⟨eC, noC, farC.loc, frC, dC⟩
    have hxe : ∀ e s, (gnX P w K mg base N qual scope f cdv Aw outer s2 H [(s1.heap.objs.size, go)]).xe e s → False := fun _ _ z => z
    refine seg_func (seg_execs_cons (seg_wrap ?_))
    rw [over_func]
    obtain ⟨acc, cc, oC1, ra, _, J0⟩ := id hG
    have nsOf : ∀ {s9 : Shared} {σ9 : L2.St} {H9 : Hp}, Inv (gnX P w K mg base N qual scope f cdv Aw outer s H [(s1.heap.objs.size, go)]) [(S, lstObj acc cc), (C, oC1)] σ9 H9 s9 → ∃ m, s9.heap.Ns C m := fun {s9 σ9 H9} J9 => by
      obtain ⟨ob, es, ep, hob, hrr⟩ := nsC'
      have z1 := (J0.pin (C, oC1) (List.mem_append_right _ (List.mem_cons_of_mem _ List.mem_cons_self))).1
      have z2 := (J9.pin (C, oC1) (List.mem_append_right _ (List.mem_cons_of_mem _ List.mem_cons_self))).1
      exact ⟨mC, ob, es, ep, by rw [z2, ← z1]; exact hob, hrr⟩
    refine wpAny_mono (GB.s1.run _ s2 (start N vs) H _ J0 hq) (fun fl s3 hs => ?_) fun _ _ z => z.elim
    cases fl with
    | next =>
      obtain ⟨σ3, H3, J3, q3⟩ := hs
      refine seg_execs_cons (seg_wrap ?_)
      rw [over_func]
      refine wpAny_mono (GB.s2.run _ s3 σ3 H3 _ J3 q3) (fun fl s4 hs => ?_) fun _ _ z => z.elim
      cases fl with
      | next =>
        obtain ⟨σ4, H4, J4, q4⟩ := hs
        refine seg_execs_cons ?_
        refine seg_body (Y := gnX P w K mg base N qual scope f cdv Aw outer s H [(s1.heap.objs.size, go)]) (fun _ _ z => z) farS farC ne G.co (hi _ _) GB.c GB.y GB.s3 over_func rfl rfl (fun n s₀ s9 ys σ9 H9 G9 q9 => ?_) (Nat.le_refl _) ⟨acc, cc, oC1, ra, nsOf J4, J4⟩ q4
        exact seg_execs_nil (seg_end (.ok (.ret .none)) (.inl ⟨.inl rfl, ys, σ9, H9, G9, q9⟩))
      | brk => obtain ⟨_, _, _, z⟩ := hs; exact z.elim
      | cont => obtain ⟨_, _, _, z⟩ := hs; exact z.elim
      | ret u => obtain ⟨_, _, _, _, _, z⟩ := hs; exact z.elim
    | brk => obtain ⟨_, _, _, z⟩ := hs; exact z.elim
    | cont => obtain ⟨_, _, _, z⟩ := hs; exact z.elim
    | ret u => obtain ⟨_, _, _, _, _, z⟩ := hs; exact z.elim
  exact main
end
end LS
set_option maxHeartbeats 2100000
/-! tuple(elt for tg in iter if ..): the generator expression is drained into a list, the list becomes a tuple -/
namespace LS
open PySem L2 PySem.Spec PyProof.Rows LamX GenW
/-- while the generator sleeps: v is put behind the list at S -/
structure Fed (S : Addr) (v : Value) (s s' : Shared) : Prop where
  os : s'.os = s.os
  bare : AllBare s'.gens
  keep : ∀ x y, x ≠ S → s.heap.get? x = some y → s'.heap.get? x = some y
  own : ∀ zs n, s.heap.get? S = some (lstObj zs n) → ∃ n', s'.heap.get? S = some (lstObj (zs.push v) n')
/-- ys stands in the list at S -/
def GT (Y : Cx) (S : Addr) (ys : List V) (σ : L2.St) (H : Hp) (s : Shared) : Prop := ∃ (acc : Array Value) (c : Nat), Vals ys acc.toList ∧ Inv Y [(S, lstObj acc c)] σ H s
section
variable {Y : Cx} {S : Addr} {ys : List V} {σ : L2.St} {H : Hp} {s s' : Shared}
theorem GT.at (h : GT Y S ys σ H s) : H S = none ∧ ∃ (acc : Array Value) (c : Nat), Vals ys acc.toList ∧ s.heap.get? S = some (lstObj acc c) := by
  obtain ⟨acc, c, r, I⟩ := h
  obtain ⟨e1, e2, _⟩ := I.pin (S, lstObj acc c) (List.mem_append_right _ List.mem_cons_self)
  exact ⟨e2, acc, c, r, e1⟩
theorem GT.fed {x : V} {v : Value} (hS : Far Y S) (rv : RelV x v) (h : GT Y S ys σ H s) (k : Fed S v s s') : GT Y S (ys ++ [x]) σ H s' := by
  obtain ⟨acc, c, r, I⟩ := h
  obtain ⟨eS, hS0, _, nSf, _⟩ := I.pin (S, lstObj acc c) (List.mem_append_right _ List.mem_cons_self)
  have I0 : Inv Y [] σ H s := I.pins_of fun p hp => I.pin p (List.mem_append_left _ (by simpa using hp))
  obtain ⟨c', eS'⟩ := k.own acc c eS
  have nt : ∀ b u, H b = some u → b ≠ S := fun b u q => ne_of_none q hS0
  have out : ∀ b, b ∉ [S] → b ≠ S := fun b hb e => hb (by rw [e]; exact List.mem_cons_self)
  obtain ⟨hh, g, d, t, o⟩ := s'
  have ho : o = s.os := k.os
  subst ho
  have J : Inv Y [] σ H { s with heap := hh, gens := g, drawn := d, toks := t } := by
    refine I0.step (g' := g) (t' := t) (d' := d) (ch := [S]) (fun b hb => ?_) (fun b ob _ _ hc q _ => k.keep b ob (out b hc) q) (fun b ob _ _ hc q _ => ⟨ob.slots, k.keep b ob (out b hc) q⟩) (fun _ _ _ _ w => w) (fun b ob hc q => ⟨ob, k.keep b ob (out b hc) q⟩)
      (fun _ _ q => q) (fun _ _ _ q => q) (fun b ps q => ⟨#[], by rw [q]; simp⟩) (fun m hm => ?_) (fun b u q => ?_) k.bare
    · have eb : b = S := List.mem_singleton.mp hb
      rw [eb]
      exact ⟨.inr hS.young, hS.loc, hS.cell, fun p hp => hS.pn p (by simpa using hp)⟩
    · obtain ⟨ob, es, ep, hob, hr⟩ := hm
      exact ⟨ob, es, ep, k.keep _ ob (Ne.symm hS.loc) hob, hr⟩
    · refine (I0.hok b u q).stay (fun e w he y => ?_) (fun _ y => y) fun _ _ y => y
      rcases he with y1 | y1
      · rw [y1] at y ⊢; exact k.keep b w (nt b u q) y
      · exact k.keep e w (nt e _ y1) y
  refine ⟨acc.push v, c', by rw [Array.toList_push]; exact Vals.append r (.cons rv .nil), J.pins_of fun p hp => ?_⟩
  · match p, hp with
    | _, .head _ => exact ⟨eS', hS0, hS.loc, nSf, fun v q => by cases q⟩
end
def TupY (Y : Cx) (S : Addr) : Protocol := fun n s₀ v s kap => ∃ (ys : List V) (x : V) (σ : L2.St) (H : Hp), RelV x v ∧ GT Y S ys σ H s ∧ ys.length < sizeLine ∧ ∀ s', Fed S v s s' → kap (.send .none) s'
def TupP (Y : Cx) (S : Addr) (Q : List V → Hp → Prop) : Nat → Shared → Shared → Prop := fun _ _ s => ∃ (ys : List V) (σ : L2.St) (H : Hp), GT Y S ys σ H s ∧ ys.length ≤ sizeLine ∧ Q ys H
def TupR (Y : Cx) (S : Addr) (Q : List V → Hp → Prop) : GenEnd := fun n s₀ r s => r = .ok .next ∧ TupP Y S Q n s₀ s
/-- what the walk wants -/
def TTurn (J : It) (g : TG) (tt : TT) (te : TE) (Q : List V → Hp → Prop) (W : Nat → Nat → List V → L2.St → Hp → Prop) : Prop := ∀ i m ys σ H, W i m ys σ H →
  (J.stop i H ∧ ys.length ≤ sizeLine ∧ Q ys H) ∨ (J.go i H ∧ ys.length < sizeLine ∧ ∀ x H', J.yld i H x H' → g x σ H' fun σ2 H2 => tt σ2 H2 fun b H3 => if b = true then te σ2 H3 fun v H4 => ∃ m', m' < m ∧ W (i + 1) m' (ys ++ [v]) σ2 H4 else ∃ m', m' < m ∧ W (i + 1) m' ys σ2 H3)
section
variable {Y : Cx} {B : Around} {tg elt iter : Expr} {ifs : List Expr} {scope : Scope} {pos : Pos} {it S : Addr} {fp : List Addr} {tn : Nat → Heap → Prop} {J : It} {g : TG} {tt : TT} {te : TE} {W : Nat → Nat → List V → L2.St → Hp → Prop} {Q : List V → Hp → Prop}
theorem seg_tup (hc : Y.calm = true) (hco : Y.env.scope.isCoroutine = false) (hov : B.over (.compLoop (.GeneratorExp elt [⟨tg, iter, ifs, 0⟩] scope pos) 0 (.ref it) .none Y.env) [] = Y.A) (hxe : ∀ e s, Y.xe e s → False)
    (T : Turn Y.prog Y.w Y.K tg J fp it tn) (hfp : ∀ H' : Hp, (∀ b ∈ fp, H' b = none) → ∀ b ∈ fp, FpOk Y [] H' b) (hS : Far Y S) (hSf : ∀ b ∈ fp, S ≠ b) (hg : PG Y tg g) (ht : PTs Y ifs tt) (he : PE Y elt te) (turn : TTurn J g tt te Q W) :
    ∀ (m n i : Nat) (ys : List V) (s₀ s : Shared) (σ : L2.St) (H : Hp), m < n → W i m ys σ H → GT Y S ys σ H s → tn i s.heap → (∀ b ∈ fp, H b = none) →
      Seg (model Y.prog Y.w) B (TupR Y S Q) (TupY Y S) n s₀ (.compLoop (.GeneratorExp elt [⟨tg, iter, ifs, 0⟩] scope pos) 0 (.ref it) .none Y.env)
        ((model Y.prog Y.w).den (.compLoop (.GeneratorExp elt [⟨tg, iter, ifs, 0⟩] scope pos) 0 (.ref it) .none Y.env)) [] s := by
  have fpS : ∀ {o : Obj} {H' : Hp}, (∀ b ∈ fp, H' b = none) → ∀ b ∈ fp, FpOk Y [(S, o)] H' b := fun {o H'} hn b hb => by
    obtain ⟨x0, x1, x2, x3, x4, x5⟩ := hfp H' hn b hb
    refine ⟨x0, x1, x2, x3, x4, fun p hp => ?_⟩
    refine (List.mem_append.mp hp).elim (fun z => x5 p (List.mem_append_left _ z)) fun z => ?_
    have ep : p = (S, o) := List.mem_singleton.mp z
    rw [ep]
    exact hSf b hb
  refine fun m => Nat.strongRecOn m fun m ih => ?_
  · intro n i ys s₀ s σ H hm hw ⟨acc, cA, rA, I⟩ st fr
    obtain ⟨n, rfl⟩ := Nat.exists_eq_succ_of_ne_zero (show n ≠ 0 by omega)
    show Seg _ B _ _ _ s₀ _ ((compTurn (.GeneratorExp elt [⟨tg, iter, ifs, 0⟩] scope pos) 0 (.ref it) .none Y.env).onRaise (leaving Y.env)) [] s
    rw [compTurn_gen, Sem.onRaise_eq_wrap]; refine seg_bind_wrap (wpAny_standAt ?_)
    refine seg_bind_wrap ?_
    rw [hov]
    rcases turn i m ys σ H hw with ⟨stop, yl, qn⟩ | ⟨go, yl, step⟩
    · refine wpAny_mono (T.done Y rfl rfl rfl hc i _ s σ H (fun _ _ => False) I (fpS fr) st stop) (fun r s4 ⟨hr, I4⟩ => ?_) fun _ _ z => z.elim
      subst hr
      exact seg_end (.ok .next) ⟨rfl, ys, σ, H, ⟨acc, cA, rA, I4⟩, yl, qn⟩
    · refine wpAny_mono (T.item Y rfl rfl rfl hc i _ s σ H (fun _ _ => False) I (fpS fr) st go) (fun r s4 ⟨u, hr, h4⟩ => ?_) fun _ _ z => z.elim
      subst hr
      refine seg_bind_wrap ?_
      rw [hov]
      refine wpAny_mono h4 (fun _ s5 ⟨x, H5, I5, r5, y5, st5, fr5⟩ => ?_) fun _ _ z => z.elim
      have I5' := I5.pinned (fpS fr5) (T.obj _ _ st5)
      refine seg_bind_wrap ?_
      rw [hov]
      refine wpAny_mono (hg.run _ s5 σ H5 x u _ I5' r5 (step x H5 y5)) (fun _ s6 ⟨σ6, H6, I6, q6⟩ => ?_) fun e s z => (hxe e s z).elim
      refine seg_bind_wrap ?_
      rw [hov]
      refine wpAny_mono (ht.run _ s6 σ6 H6 _ I6 q6) (fun b s7 ⟨H7, I7, q7⟩ => ?_) fun e s z => (hxe e s z).elim
      cases b with
      | true =>
        simp only [if_true] at q7 ⊢
        have hy : ∀ v, yieldOut Y.env v = yieldValue v := fun v => by simp only [yieldOut, hco, Bool.false_eq_true, if_false]
        simp only [hy]
        rw [Sem.bind_eq_wrap', Sem.bind_eq_wrap', Sem.wrap_wrap, Sem.wrap_wrap]; refine seg_wrap ?_
        rw [hov]
        refine wpAny_mono (he.run _ s7 σ6 H7 _ I7 q7) (fun y s8 h8 => ?_) fun e s z => (hxe e s z).elim
        obtain ⟨v, H8, I8, rv, m', hm', w8⟩ := h8
        have G8 : GT Y S ys σ6 H8 s8 := ⟨acc, cA, rA, I8.unpinned⟩
        refine seg_at (seg_yield rfl rfl rfl ⟨ys, v, σ6, H8, rv, G8, yl, fun s'' hl => ?_⟩)
        refine seg_again rfl (ih m' hm' n (i + 1) (ys ++ [v]) s'' s'' σ6 H8 (by omega) w8 (G8.fed hS rv hl) (T.keep _ _ _ st5 fun b hb o e => hl.keep b o (Ne.symm (hSf b hb)) (I8.pin (b, o) (List.mem_append_right _ (List.mem_append_right _ (mem_pinsAt hb e)))).1) fun b hb => ?_)
        obtain ⟨o, e, d⟩ := T.obj _ _ st5 b hb; exact (I8.pin (b, o) (List.mem_append_right _ (List.mem_append_right _ (mem_pinsAt hb e)))).2.1
      | false =>
        simp only [Bool.false_eq_true, if_false] at q7 ⊢
        obtain ⟨m', hm', w7⟩ := q7
        refine seg_again rfl (ih m' hm' (n + 1) (i + 1) ys _ s7 σ6 H7 (by omega) w7 ⟨acc, cA, rA, I7.unpinned⟩ (T.keep _ _ _ st5 fun b hb o e => (I7.pin (b, o) (List.mem_append_right _ (List.mem_append_right _ (mem_pinsAt hb e)))).1) fun b hb => ?_)
        obtain ⟨o, e, d⟩ := T.obj _ _ st5 b hb; exact (I7.pin (b, o) (List.mem_append_right _ (List.mem_append_right _ (mem_pinsAt hb e)))).2.1
end
end LS
set_option maxHeartbeats 2100000
/-! the consumer's side: tuple(..) of a generator -/
namespace LS
open PySem L2 PySem.Spec PyProof.Rows LamX GenW
section
variable {P : Program} {w : World} {A : Around} {s : Shared} {E : Value → Shared → Prop}
/-- what the draining loop is asked for: the generator's items behind the list at S, and S handed back -/
def Drains (P : Program) (w : World) (A : Around) (s : Shared) (a : Addr) (Q : Array Value → Shared → Prop) : Prop :=
  ∀ (S : Addr) (s2 : Shared), s.heap.objs.size ≤ S → (∀ b o, s.heap.get? b = some o → s2.heap.get? b = some o) → (∃ c, s2.heap.get? S = some (lstObj #[] c)) → s2.os = s.os → s2.gens = s.gens →
    codeAny (model P w) A (.builtin "list.extend.loop" ⟨[.ref S, .ref a, .ref S], []⟩) (fun r s' => r = .ok (.ret (.ref S)) ∧ ∃ acc c, s'.heap.get? S = some (lstObj acc c) ∧ Q acc s') s2
theorem collectG {a : Addr} {g : Nat} {Q : Array Value → Shared → Prop} {QQ : List Value → Shared → Prop} (hg : s.heap.IsGen a g) (hd : Drains P w A s a Q) (hQ : ∀ acc s', Q acc s' → QQ acc.toList s') : wpAny (model P w) A (collect (.ref a)) QQ E s := by
  have ne : s.heap.objs.size ≠ a := let ⟨_, _, _, e, _⟩ := hg; Nat.ne_of_gt (Heap.lt_size e)
  have up : ∀ {h : Heap} (f : Obj → Obj), (∀ b o, s.heap.get? b = some o → h.get? b = some o) → ∀ b o, s.heap.get? b = some o → (h.update s.heap.objs.size f).get? b = some o := fun {h} f q b o e =>
    (Heap.get?_update_other h f (Nat.ne_of_gt (Heap.lt_size e))).trans (q b o e)
  have k1 : ∀ b o, s.heap.get? b = some o → (s.heap.push (lstObj #[] 0)).get? b = some o := fun b o e => Heap.get?_push_of_some _ e
  have g1 := hg.keeps k1
  have ty : ({ s with heap := s.heap.push (lstObj #[] 0) } : Shared).TypeIs (.ref a) "generator" := Heap.IsGen.typeIs (s := { s with heap := s.heap.push (lstObj #[] 0) }) g1
  have same : Builtin.List.listSameRef (.ref s.heap.objs.size) (.ref a) = false := by simp [Builtin.List.listSameRef, ne]
  unfold collect; refine wpAny_bind (wpAny_runValue ?_)
  refine codeAny_builtin F.entry_proto_collect ?_; rw [Around.under_plainId F.plain_proto_collect _]
  refine wpAny_bind (wpAny_newObj_type (wpAny_pure ⟨plainId_quiet F.plain_list_iadd _, ?_⟩))
  refine codeAny_builtin F.entry_list_iadd ?_; rw [Around.under_plainId F.plain_list_iadd _]
  show wpAny (model P w) A.in1 (Builtin.List.listExtendWith (.ref s.heap.objs.size) (.ref a) (.ref s.heap.objs.size)) _ _ { s with heap := s.heap.push (lstObj #[] 0) }
  unfold Builtin.List.listExtendWith Builtin.List.listLengthHint
  have nl := F.gen_no_len
  have nh := F.gen_no_hint
  wp_walk using wpAny_pyIter_gen (s := { s with heap := s.heap.push (lstObj #[] 0) }) g1
  have at0 : (s.heap.push (lstObj #[] 0)).get? s.heap.objs.size = some (lstObj #[] 0) := Heap.get?_push_size _ rfl
  refine ⟨plainId_quiet F.plain_extend_loop _, codeAny_mono (hd s.heap.objs.size _ (Nat.le_refl _) (up _ (up _ k1)) ⟨_, Heap.get?_update_self _ (Heap.get?_update_self _ at0 rfl) rfl⟩ rfl rfl) fun r s' hq => ?_⟩
  obtain ⟨rfl, acc, c, e, q⟩ := hq
  exact wpAny_bind (wpAny_load e (wpAny_pure (hQ acc s' q)))
/-- tuple(..) of a generator -/
theorem call_tupG {a : Addr} {g : Nat} {Q : Value → Shared → Prop} (hg : s.heap.IsGen a g) (hd : Drains P w A.in1.in1 s a fun acc s' => acc.size ≤ sizeLine ∧ Q (.ref s'.heap.objs.size) { s' with heap := s'.heap.push (tupOb acc.toList) }) : wpAny (model P w) A (call (.type "tuple") [.ref a]) Q E s := by
  refine callType_codes (Q₁ := fun obj s₁ => s₁.TypeIs obj "tuple" ∧ Q obj s₁) F.called_tuple (F.typeCall_tuple_1 _) F.entry_object_init ?made fun obj s₁ h₁ => ⟨h₁.1, F.args_object_init_2 obj _, object_init_meets F.called_tuple.init.lookup F.called_tuple.made (by decide) P w A.in1 _ s₁ ⟨h₁.1, rfl, h₁.2⟩⟩
  refine codeAny_of_tree (wpAny_bind (wpAny_of_eq (F.newCall_tuple_1 _) (wpAny_pure ⟨plainId_quiet F.plain_tuple_new _, ?_⟩)))
  refine codeAny_builtin F.entry_tuple_new ?_; rw [Around.under_plainId F.plain_tuple_new _]
  have c1 := sub_tuple_self; have c2 := init_tuple_lookup; have c3 := madeHere_tuple
  have ty := hg.typeIs
  wp_walk using wpAny_typeOf ty, collectG hg hd
  rintro acc s' ⟨sz, q⟩
  refine wpAny_bind (wpAny_pure (wpAny_bind (wpAny_newObj_type (wpAny_pure ?_) ?_)))
  · exact ⟨⟨_, Heap.get?_push_size _ rfl, rfl⟩, q⟩
  · show acc.toList.toArray.size ≤ sizeLine; rw [Array.toArray_toList]; exact sz
end
end LS
set_option maxHeartbeats 2100000
/-! tuple(elt for tg in iter if ..): the whole -/
namespace LS
open PySem L2 PySem.Spec PyProof.Rows LamX GenW
section
variable {Y : Cx} {B : Around} {tg elt iter : Expr} {ifs : List Expr} {scope : Scope} {pos : Pos} {it S : Addr} {fp : List Addr} {tn : Nat → Heap → Prop} {J : It} {g : TG} {tt : TT} {te : TE} {W : Nat → Nat → List V → L2.St → Hp → Prop} {Q : List V → Hp → Prop}
theorem seg_tupStart (hc : Y.calm = true) (hco : Y.env.scope.isCoroutine = false) (hov : B.over (.compLoop (.GeneratorExp elt [⟨tg, iter, ifs, 0⟩] scope pos) 0 (.ref it) .none Y.env) [] = Y.A) (hxe : ∀ e s, Y.xe e s → False)
    (T : Turn Y.prog Y.w Y.K tg J fp it tn) (hfp : ∀ H' : Hp, (∀ b ∈ fp, H' b = none) → ∀ b ∈ fp, FpOk Y [] H' b) (hS : Far Y S) (hSf : ∀ b ∈ fp, S ≠ b) (hg : PG Y tg g) (ht : PTs Y ifs tt) (he : PE Y elt te) (turn : TTurn J g tt te Q W)
    {m : Nat} {s₀ s : Shared} {σ : L2.St} {H : Hp} (hw : W 0 m [] σ H) (I : GT Y S [] σ H s) (st : tn 0 s.heap) (fr : ∀ b ∈ fp, H b = none) :
      Seg (model Y.prog Y.w) B (TupR Y S Q) (TupY Y S) (m + 1) s₀ (.compStart (.GeneratorExp elt [⟨tg, iter, ifs, 0⟩] scope pos) 0 (.ref it) .none Y.env)
        ((model Y.prog Y.w).den (.compStart (.GeneratorExp elt [⟨tg, iter, ifs, 0⟩] scope pos) 0 (.ref it) .none Y.env)) [] s := by
  have loop := fun s₀ => seg_tup (iter := iter) (scope := scope) (pos := pos) hc hco hov hxe T hfp hS hSf hg ht he turn m (m + 1) 0 [] s₀ s σ H (Nat.lt_succ_self _) hw I st fr
  show Seg _ B _ _ _ s₀ _ ((compStart (.GeneratorExp elt [⟨tg, iter, ifs, 0⟩] scope pos) 0 (.ref it) .none Y.env).onRaise (leaving Y.env)) [] s
  unfold compStart
  rw [Sem.onRaise_eq_wrap]
  show Seg _ B _ _ _ s₀ _ ((ask >>= _).wrap _ _ _ _) [] s
  refine seg_bind_wrap (wpAny_askSetting ?_); split
  · exact seg_again rfl (loop s₀)
  · first
      | exact seg_bind_wrap (wpAny_rule (seg_bind_wrap (wpAny_standAt (seg_bind_wrap (T.self _ 0 s _ _ st (seg_again rfl (loop s₀)))))))
      | (refine seg_bind_wrap (wpAny_rule ?_); show Seg _ B _ _ _ s₀ _ ((standAt iter.pos >>= _).wrap _ _ _ _) [] s; exact seg_bind_wrap (wpAny_standAt (seg_bind_wrap (T.self _ 0 s _ _ st (seg_again rfl (loop s₀))))))
theorem tup_drain {A : Around} {R : Result → Shared → Prop} {a : Addr} {gn : Nat} {go : Obj} {nm qn : Value} {res : Value} (hh : A.handled = none) (hd : A.depth < recursionLimit) (hpn : (a, go) ∈ Y.pn) (hc : go.cls = .type "generator") (hdt : go.data = .fields #[.int gn 0, nm, qn]) (hsl : go.slots = #[]) (hSa : a ≠ S) (fS : Far Y S)
    (hend : ∀ s' ys σ' H', GT Y S ys σ' H' s' → ys.length ≤ sizeLine → Q ys H' → ∀ h', (∀ b o, s'.heap.get? b = some o → h'.get? b = some o) → ∀ gs, AllBare gs → R (.ok (.ret res)) { s' with heap := h', gens := gs }) :
    ∀ (n : Nat) (s : Shared), s.heap.get? a = some go → s.heap.NoLimit →
      (∃ gs, s.gens[gn]? = some gs ∧ gs.Goes (model Y.prog Y.w) A.in1.in1 (TupR Y S Q) (TupY Y S) n (.send .none) (s.setGen gn .running)) →
      codeAny (model Y.prog Y.w) A (.builtin "list.extend.loop" ⟨[.ref S, .ref a, res], []⟩) R s := by
  intro n
  induction n with
  | zero =>
    intro s ha hl ⟨gs, hgs, hgo⟩
    refine codeAny_builtin F.entry_extend_loop ?_; rw [Around.under_plainId F.plain_extend_loop _]
    show wpAny _ A.in1 (pyNext (.ref a) >>= _) _ _ s; refine wpAny_bind (wpAny_pyNext_genexpQ (A := A.in1) (P := TupP Y S Q) hh hl hd ⟨go, nm, qn, ha, hc, hdt, hsl⟩ hgs hgo (fun v s₁ gs' hbare hv => ?_) (fun s₁ hp h' hk => ?_))
    · obtain ⟨ys, x, σ, H, rv, G, yl, q⟩ := hv
      obtain ⟨hS0, acc, c, rA, eS⟩ := G.at
      obtain ⟨_, _, _, I⟩ := id G
      refine (q { s₁ with heap := s₁.heap.update S (Obj.mapSeq (·.push v)) } ⟨rfl, I.bare, fun b o hb e => (Heap.get?_update_other _ _ (Ne.symm hb)).trans e, fun acc' c' e => ?_⟩).elim
      exact ⟨_, Heap.get?_update_self (Obj.mapSeq (·.push v)) e rfl⟩
    · obtain ⟨ys, σ, H, G, yl, q⟩ := hp
      obtain ⟨_, _, _, I⟩ := id G
      exact wpAny_pure (hend s₁ ys σ H G yl q h' hk _ (allBare_setGen I.bare rfl))
  | succ n ih =>
    intro s ha hl ⟨gs, hgs, hgo⟩
    have hgl : gn < s.gens.size := (Array.getElem?_eq_some_iff.mp hgs).1
    refine codeAny_builtin F.entry_extend_loop ?_; rw [Around.under_plainId F.plain_extend_loop _]
    show wpAny _ A.in1 (pyNext (.ref a) >>= _) _ _ s; refine wpAny_bind (wpAny_gsz (n := gn + 1) hgl (wpAny_pyNext_genexpQ (A := A.in1) (P := TupP Y S Q) hh hl hd ⟨go, nm, qn, ha, hc, hdt, hsl⟩ hgs hgo (fun v s₁ gs' hbare hv => ?_) (fun s₁ hp h' hk => ?_)))
    · intro hsz
      obtain ⟨ys, x, σ, H, rv, G, yl, q⟩ := hv
      obtain ⟨hS0, acc, c, rA, eS⟩ := G.at
      obtain ⟨_, _, _, I⟩ := id G
      have accl : acc.size = ys.length := by
        have q1 := rA.length
        rw [Array.length_toList] at q1
        exact q1.symm
      have hsz1 : gn < s₁.gens.size := by
        have e : (s₁.setGen gn gs').gens.size = s₁.gens.size := setGen_size _ _ _
        have hsz' : gn + 1 ≤ (s₁.setGen gn gs').gens.size := hsz
        omega
      have keep3 : ∀ x y, x ≠ S → s₁.heap.get? x = some y → (s₁.heap.update S (Obj.mapSeq (·.push v))).get? x = some y := fun x y n e => (Heap.get?_update_other _ _ (Ne.symm n)).trans e
      show wpAny (model Y.prog Y.w) A.in1 (updateSeq S (·.push v) >>= _) _ _ _
      refine wpAny_bind ?_
      refine wpAny_updateSeq eS rfl (wpAny_pure ⟨plainId_quiet F.plain_extend_loop _, ?_⟩) (by rw [accl]; exact Nat.le_of_lt yl) (by show (acc.push v).size ≤ sizeLine + 1; rw [Array.size_push, accl]; omega)
      have oldS : ∀ {q1 : Addr} {m : Str → Option Value}, Y.base.Ns q1 m → q1 ≠ S := fun {q1 m} hq => by
        have z1 : q1 < Y.base.objs.size := hq.lt
        exact Nat.ne_of_lt (Nat.lt_of_lt_of_le (Nat.lt_of_lt_of_le z1 I.ok.bsz) fS.young)
      refine ih { s₁.setGen gn gs' with heap := s₁.heap.update S (Obj.mapSeq (·.push v)) } (keep3 a go hSa (I.pin (a, go) (List.mem_append_left _ hpn)).1) ?_ ⟨gs', setGen_at hsz1, ?_⟩
      · obtain ⟨mc, l1, l2⟩ := I.mod.nolimit
        exact ⟨mc, (l1.keeps I.bk).at' fun o q1 => keep3 _ o (oldS l1) q1, l2⟩
      · exact q _ ⟨rfl, allBare_setGen (s := s₁.setGen gn gs') (allBare_setGen I.bare hbare) rfl, fun b o hb e => keep3 b o hb e, fun acc' c' e => ⟨_, Heap.get?_update_self (Obj.mapSeq (·.push v)) e rfl⟩⟩
    · intro hsz
      obtain ⟨ys, σ, H, G, yl, q⟩ := hp
      obtain ⟨_, _, _, I⟩ := id G
      exact wpAny_pure (hend s₁ ys σ H G yl q h' hk _ (allBare_setGen I.bare rfl))
end
section
variable {X : Cx} {σ : L2.St} {H : Hp} {pins : List (Addr × Obj)} {s : Shared}
def tTupG (T : List (Addr × Str)) (vs : List Nat) (wi : TI) (g : TG) (tt : TT) (te : TE) : TE := fun σ H Q => wi σ H fun J H1 => Tabs T H1 ∧ ∀ H2, ExtN H1 H2 → Tabs T H2 → ∃ W : Nat → Nat → List V → L2.St → Hp → Prop, (∃ m, W 0 m [] (wipe σ vs) H2) ∧ TTurn J g tt te (fun ys H3 => ∀ p H4, Same H3 H4 → H3 p = none → Tn H4 p ys → Q (.ref p) H4) W
theorem pe_tupG {T : List (Addr × Str)} {c P : Addr} {elt tg iter : Expr} {ifs : List Expr} {p pos gpos : Pos} {scope : Scope} {wi : TI} {g : TG} {tt : TT} {te : TE} {k : Nat} {vs : List Nat} (hr : Room (k + 5) X.A) (hgl : Gl X "tuple") (hmg : X.mg "tuple" = none) (TB : TabB X.base X.mg c P) (hcode : X.env.code = .ref c)
    (hm : (P, X.env.qual ++ "<genexpr>") ∈ T) (hu : ∀ p ∈ T, p.1 = P → p.2 = X.env.qual ++ "<genexpr>") (L : GenS1 X.env.scope scope) (hv : ownSlots X.N scope vs = true) (hi : PI X tg iter wi)
    (hb : ∀ (B : Around) (s : Shared) (H : Hp) (C : Addr) (code : Value) (fp : List Addr) (pn : List (Addr × Obj)), Room k (B.deeper (gEnv X scope C code)) → PG (genCx X B s H scope C code fp pn) tg g ∧ PTs (genCx X B s H scope C code fp pn) ifs tt ∧ PE (genCx X B s H scope C code fp pn) elt te)
    (hs : ∀ v, genFold iter X.env v = pure v := by intro _; rfl)
    (he : starEach [.GeneratorExp elt [⟨tg, iter, ifs, 0⟩] scope gpos] X.env = [(false, eval (.GeneratorExp elt [⟨tg, iter, ifs, 0⟩] scope gpos) X.env)] := by rfl) :
    PE X (.Call (.Name "tuple" p) [.GeneratorExp elt [⟨tg, iter, ifs, 0⟩] scope gpos] [] pos) (tTupG T vs wi g tt te) := by
  constructor; intro pins s σ H Q I h
  refine Call_ (ld_blt I hgl hmg boot_tuple (callWith_type1 (PyProof.Rows.args_cons ?_ he) he rfl))
  refine wpAny_GeneratorExp_make L.sync (closure_ok (L.has I.ok)) L.nocell L.zero L.kind hr.depth ?_ hs
  refine thn (hi.run pins s σ H _ I h) fun xv s1 h1 => thn h1 fun itv s2 h2 => ?_
  obtain ⟨it, fp, tn, J, H2, rfl, I2, TT, st2, f2, hT, hcont⟩ := h2
  refine ⟨I2.nolimit, ?_⟩
  obtain ⟨ps, hP, ht, ha⟩ := hT _ hm; have hP2 : s2.heap.get? P = some { cls := .none, data := .fields ps } := I2.hok P _ hP
  have cd : PySem.W.CodeHd s2.heap c P := TB.code.keeps I2.bk
  have lt2 : ∀ b ∈ fp, b < s2.heap.objs.size := fun b hb => by
    obtain ⟨o, e, _⟩ := TT.obj 0 _ st2 b hb
    exact Heap.lt_size e
  have nP : ∀ b ∈ fp, b ≠ P := fun b hb z => by
    have q := (f2 b hb).1
    rw [z, hP] at q
    cases q
  have cont : ∀ (code : Value) (H3 : Hp) (s3 : Shared), Inv X pins σ H3 s3 → ExtN H2 H3 → Tabs T H3 → (∀ b ∈ fp, H3 b = none) → s2.heap.objs.size ≤ s3.heap.objs.size → (∀ b o, b ≠ P → s2.heap.get? b = some o → s3.heap.get? b = some o) →
      wpAny (model X.prog X.w) X.A (builtinsFor X.env.globals X.env.builtins) (fun bi s₄ => ∀ h', h'.Ns s₄.heap.objs.size (fun y => if y = (".0" : Str) then some (.ref it) else none) → Heap.SameBut s₄.heap.objs.size (s₄.heap.push { cls := .type "frame", data := .dict #[] }) h' →
          wpAny (model X.prog X.w) X.A (call (.type "tuple") [.ref h'.objs.size]) (EP X pins σ Q) X.xe { s₄ with
            gens := s₄.gens.push (.fresh (.compStart (.GeneratorExp elt [⟨tg, iter, ifs, 0⟩] scope gpos) 0 (.ref it) .none (genEnv scope (cloFrom X.env.cells scope.names []) s₄.heap.objs.size code bi X.env))),
            toks := s₄.toks + 1 + 1 + 1,
            heap := h'.push { cls := .type "generator", data := .fields #[.int s₄.gens.size 0, .str "<genexpr>" (s₄.toks + 1), .str (X.env.qual ++ "<genexpr>") (s₄.toks + 1 + 1)] } }) X.xe s3 := by
    intro code H3 s3 I3 hE hT3 f3 hsz kp3
    obtain ⟨bm, ob, e1, e2, e3, e4, e5, e6, e7, e8⟩ := TB.bm; refine wpAny_builtinsFor (m := X.mg) (by rw [I3.ok.glob]; exact I3.mod.glob.keeps I3.bk) e1 e2 (I3.bk _ _ e5) e6 e7 e8 ?_
    intro h' hns hsb
    have hsz' : h'.objs.size = s3.heap.objs.size + 1 := by rw [hsb.1, Heap.size_push]
    have kp' : ∀ b o, s3.heap.get? b = some o → h'.get? b = some o := fun b o e => hsb.extBut b o (Nat.ne_of_lt (Heap.lt_size e)) (Heap.get?_push_of_some _ e)
    obtain ⟨W, ⟨m, hw⟩, turn⟩ := hcont H3 hE hT3
    have fpk : ∀ b ∈ fp, FpOk X pins H3 b ∧ b < s3.heap.objs.size := fun b hb => ⟨⟨f3 b hb, (f2 b hb).2⟩, Nat.lt_of_lt_of_le (lt2 b hb) hsz⟩
    generalize hgo : ({ cls := .type "generator", data := .fields #[.int s3.gens.size 0, .str "<genexpr>" (s3.toks + 1), .str (X.env.qual ++ "<genexpr>") (s3.toks + 1 + 1)] } : Obj) = go
    have god : ∀ v, go.data ≠ .cell v := fun v z => by rw [← hgo] at z; cases z
    have gocl : go.cls = .type "generator" := by rw [← hgo]
    have gods : go.data = .fields #[.int s3.gens.size 0, .str "<genexpr>" (s3.toks + 1), .str (X.env.qual ++ "<genexpr>") (s3.toks + 1 + 1)] := by rw [← hgo]
    have gosl : go.slots = #[] := by rw [← hgo]
    have eA : (h'.push go).get? h'.objs.size = some go := Heap.get?_push_size _ (by rw [← hgo]; rfl)
    obtain ⟨hg, htt, he'⟩ := hb X.A.in1.in1.in1.in1 s3 H3 s3.heap.objs.size code fp [(h'.objs.size, go)] (Room.deeper (Room.in1 (Room.in1 (Room.in1 (Room.in1 hr)))) _)
    have J5 : ∀ (gg : Heap) (gs : Array GenState) (tk : Nat), gg.Ns s3.heap.objs.size (fun y => if y = (".0" : Str) then some (.ref it) else none) → (∀ b o, s3.heap.get? b = some o → gg.get? b = some o) → gg.get? h'.objs.size = some go → AllBare gs → Inv (genCx X X.A.in1.in1.in1.in1 s3 H3 scope s3.heap.objs.size code fp [(h'.objs.size, go)]) [] (wipe σ vs) H3 { s3 with heap := gg, gens := gs, toks := tk } := fun gg gs tk n1 n2 n3 n4 =>
      gen_start (A := X.A.in1.in1.in1.in1) (code := code) (it := .ref it) (fp := fp) (a := h'.objs.size) (go := go) (vs := vs) I3 L hv I3.ok.frames hr.hd fpk n1 n2 (by rw [hsz']; exact Nat.lt_succ_self _) n3 god n4
    generalize hY : genCx X X.A.in1.in1.in1.in1 s3 H3 scope s3.heap.objs.size code fp [(h'.objs.size, go)] = Y at hg htt he' J5
    have ypr : Y.prog = X.prog := by rw [← hY]; rfl
    have yw : Y.w = X.w := by rw [← hY]; rfl
    refine call_tupG (g := s3.gens.size) ⟨go, _, _, eA, gocl, gods, gosl⟩ fun S s6 hS1 hk6 hS6 ho6 hg6 => ?_
    have szS : h'.objs.size < S := Nat.lt_of_lt_of_le (by rw [Heap.size_push]; exact Nat.lt_succ_self _) hS1
    have k36 : ∀ b o, s3.heap.get? b = some o → s6.heap.get? b = some o := fun b o e => hk6 b o (Heap.get?_push_of_some _ (kp' b o e))
    have bare6 : AllBare s6.gens := by rw [hg6]; exact AllBare.push I3.bare rfl
    have cm : ∀ {y : Str} {c : Addr}, (cloFrom X.env.cells scope.names []).lookup y = some c → ∃ z, X.env.cells.lookup z = some c := by
      intro y c eL
      cases cloFrom_mem (PySem.mem_of_lookup eL) with
      | inl hm => cases hm
      | inr hm =>
        obtain ⟨h1, h2⟩ := hm
        obtain ⟨c1, hc⟩ := L.has I.ok (y, .free) h1 rfl
        replace hc : X.env.cells.lookup y = some c1 := hc
        refine ⟨y, ?_⟩
        rw [h2, hc] <;> rfl
    have l3S : s3.heap.objs.size < S := Nat.lt_trans (by rw [hsz']; exact Nat.lt_succ_self _) szS
    have far : Far Y S := by
      rw [← hY]
      refine ⟨Nat.le_of_lt l3S, Nat.ne_of_gt l3S, fun x c e => ?_, fun q hq => ?_⟩
      · obtain ⟨z, hz⟩ := cm (show (cloFrom X.env.cells scope.names []).lookup x = some c from e)
        obtain ⟨_, ic⟩ := I3.cell z c hz
        exact Nat.ne_of_lt (Nat.lt_trans ic.lt l3S)
      · rw [show q = (h'.objs.size, go) from by simpa [genCx] using hq]
        exact Nat.ne_of_lt szS
    have nH : H3 S = none := I3.hok.fresh (Nat.le_of_lt l3S)
    obtain ⟨cS, eS6⟩ := hS6
    have J6 : Inv Y [] (wipe σ vs) H3 (s6.setGen s3.gens.size .running) := by
      obtain ⟨hh6, gg6, dd6, tt6, oo6⟩ := s6
      have e6 : oo6 = s3.os := ho6
      have J := J5 hh6 (Shared.setGen ⟨hh6, gg6, dd6, tt6, oo6⟩ s3.gens.size .running).gens tt6 ((hns.push _).keeps hk6) k36 (hk6 _ _ eA) (allBare_setGen bare6 rfl)
      refine ⟨J.ok, ?_, J.bare, J.base, J.loc, J.cell, J.free, J.freeC, J.pin, J.hok, J.len⟩
      rw [← J.os]
      exact e6
    have G6 : GT Y S [] (wipe σ vs) H3 (s6.setGen s3.gens.size .running) := by
      refine ⟨#[], cS, .nil, J6.pins_of fun q hq => ?_⟩
      match q, hq with
      | _, .head _ =>
        refine ⟨eS6, nH, far.loc, fun z => ?_, fun v z => by cases z⟩
        rw [← hY] at z
        rcases List.mem_cons.mp (I3.stkSub _ z) with y | y
        · exact Nat.ne_of_gt (Nat.lt_trans I3.lt l3S) y
        · exact I3.nofs (Nat.le_of_lt l3S) y
    rw [← ypr, ← yw]
    refine tup_drain (Y := Y) (A := X.A.in1.in1) (S := S) (Q := fun ys H3 => ∀ p H4, Same H3 H4 → H3 p = none → Tn H4 p ys → Q (.ref p) H4) (a := h'.objs.size) (go := go) hr.hd (Room.in1 (Room.in1 hr)).depth (by rw [← hY]; exact List.mem_singleton.mpr rfl) gocl gods gosl (Nat.ne_of_lt szS) far (fun s' ys σ' H' G' yl q' h'' hk'' gs'' hb'' => ?_) (m + 1) s6 (hk6 _ _ eA) ((I3.nolimit).keeps k36) ⟨.fresh _, by rw [hg6]; exact Array.getElem?_push_size .., rfl, ?_⟩
    · obtain ⟨hS0, acc, cc, rA, eS⟩ := G'.at
      obtain ⟨_, _, _, I'⟩ := id G'
      refine ⟨rfl, acc, cc, hk'' _ _ eS, by show acc.size ≤ sizeLine; rw [← Array.length_toList, ← rA.length]; exact yl, ?_⟩
      have os' : s'.os = s3.os := by
        have := I'.os
        rw [← hY] at this
        exact this
      have un : Un (frs X.stack) fp H3 H' s3.heap s'.heap := by
        have := I'.base
        rw [← hY] at this
        exact this
      have hok' : HOk X.prog X.w H' s'.heap := by
        have := I'.hok
        rw [ypr, yw] at this
        exact this
      have J1 : Inv X pins σ H' { s' with heap := h'', gens := gs'' } := I3.call' (s' := { s' with heap := h'', gens := gs'' }) (ch := fp) os' (un.trans (Un.kept hk'')) (hok'.kept hk'') hb'' (fun b hb => (fpk b hb).1.2.2.2 |> fun z => ⟨z.1, (fpk b hb).1.2.1, z.2.1, z.2.2⟩)
      have nf := J1.hok.fresh (Nat.le_refl _)
      exact ⟨.ref _, upd H' h''.objs.size (.frz (tupOb acc.toList) (.tup ys)), J1.laid (t' := s'.toks) (fun b u e => Heap.get?_push_of_some _ e) (Nat.le_refl _) (ok_tup (Heap.get?_push_size _ rfl) yl rA), rfl, q' _ _ (same_new nf) nf Tn.new⟩
    · subst hY
      refine seg_tupStart (Y := genCx X X.A.in1.in1.in1.in1 s3 H3 scope s3.heap.objs.size code fp _) rfl L.sync over_comp (fun e s z => z) TT (fun H' hn b hb => ?_) far (fun b hb => Nat.ne_of_gt (Nat.lt_trans (fpk b hb).2 l3S)) hg htt he' turn hw G6 ?_ f3
      · obtain ⟨⟨x0, x1, x2, x3, x4, x5⟩, x6⟩ := fpk b hb
        refine ⟨hn b hb, Nat.ne_of_lt x6, fun z => ?_, .inl hb, fun y c e => ?_, fun p hp => ?_⟩
        · rcases List.mem_cons.mp (I3.stkSub b z) with y | y
          · exact x1 y
          · exact x2 y
        · obtain ⟨z, hz⟩ := cm e
          exact x4 z c hz
        · have ep : p.1 = h'.objs.size := by
            cases List.mem_append.mp hp with
            | inl q => rw [List.mem_singleton.mp q]
            | inr q => cases q
          rw [ep, hsz']
          exact Nat.ne_of_gt (Nat.lt_succ_of_lt x6)
      · refine TT.keep 0 _ _ st2 fun b hb o e => ?_
        exact k36 b o (kp3 b o (nP b hb) e)
  match hf : codeAmong gpos ps.toList with
  | some cv => exact wpAny_genexprCode_hit hcode (cd.code hP2 ht) hf (wpAny_mono (cont cv H2 s2 I2 (ExtN.refl H2) hT (fun b hb => (f2 b hb).1) (Nat.le_refl _) fun b o _ e => e) (fun bi s₄ hq h' n1 n2 => PyProof.Rows.args_nil (hq h' n1 n2)) fun _ _ z => z)
  | none =>
    refine wpAny_genexprCodeX hcode (cd.code hP2 ht) (cd.tab hP2) hf fun c' h' tk hx hge hlt hco' hrec htab' _ => ?_
    obtain ⟨c2, oc, ws, t, e2, hoc, hd, hws⟩ := hrec; cases e2
    have nC : H2 c' = none := I2.hok.fresh hge
    have I3 : Inv X pins σ (grown H2 P c' (X.env.qual ++ "<genexpr>") ps gpos) { s2 with heap := h', toks := tk } := inv_table I2 hP (fun b o hb e => hx b o hb e) htab'.2 hge ⟨oc, ws, t, hoc, hd, hws⟩
    have G := tabs_grow (pos := gpos) hT hu hP nC
    refine wpAny_mono (cont _ _ _ I3 G.1 G.2 (fun b hb => ?_) (Nat.le_trans hge (Nat.le_of_lt hlt)) fun b o hb e => hx b o hb e) (fun bi s₄ hq h' n1 n2 => PyProof.Rows.args_nil (hq h' n1 n2)) fun _ _ z => z
    show upd _ _ _ b = none
    have n1 : b ≠ c' := fun z => Nat.lt_irrefl _ (Nat.lt_of_lt_of_le (by rw [← z]; exact lt2 b hb) hge)
    rw [upd_ne n1, upd_ne (nP b hb), (f2 b hb).1]
end
end LS
set_option maxHeartbeats 2100000
/-! sorted(tuple of texts); all rows of some layers, in the order of texts -/
namespace LS
open PySem L2 PySem.Spec PyProof.Rows
section
variable {X : Cx}
def rSortT (K : PySem.W.Frag) : List V → Hp → VK → Prop := fun vs H Q => ∃ (a : Addr) (xs : List Str), vs = [V.ref a] ∧ SqT K H a (xs.map V.str) ∧ xs.length < 64 ∧
  ∀ (ys : List Str) (p : Addr) (H' : Hp), ys.Perm xs → sortedS ys = true → H p = none → Same H H' → H' p = some (.lst (ys.map V.str)) → Q (.ref p) H'
theorem cr_sortT : CallR X (.builtin "sorted") (rSortT X.K) := by
  intro pins s σ H vs us Q I r h; obtain ⟨a, xs, rfl, hs, h64, q⟩ := h
  obtain ⟨its, rv, ht, hz⟩ := I.tuple hs
  rw [Vals.ref1 r]
  have hS := rv.strs
  have hl0 := rv.length
  rw [List.length_map] at hl0
  have hl : its.length < 64 := by omega
  obtain ⟨o, ho, hc, n, hd⟩ := ht; refine Calls.call_function_entry kind_sorted plain_sorted entry_sorted (args_sorted1 _) ?_
  unfold Builtin.«sorted»
  refine wpAny_bind (m := checkCount "sorted" 1 1 _) (wpAny_pure (wpAny_bind (wpAny_collect_seq a (.inr rfl) ho hc hd (fun h' hk => ?_) (by rw [List.size_toArray, sizeLine_eq]; omega))))
  have I1 : Inv X pins σ H { s with heap := h' } := I.kept (t' := s.toks) hk; refine wpAny_bind (wpAny_newList ?_ (by rw [List.toList_toArray, sizeLine_eq]; omega))
  have hoL : (h'.push (seqObj "list" its.toArray 0)).get? h'.objs.size = some (seqObj "list" its.toArray 0) := Heap.get?_push_size _ rfl
  refine wpAny_bind (wpAny_holding (wpAny_call_entry slot_list_sort ⟨_, hoL, rfl⟩ entry_list_sort (list_sort_treeK (n := 0) strKind_oneLt hoL hS.keysOf (fun v₁ v₂ rest e => keyKind_strs (by rw [← e]; exact hS)) hl fun st' hp hs => ⟨_, rfl, wpAny_pure ⟨_, rfl, ?_⟩⟩) (args_list_sort _)))
  obtain ⟨ys, h1, h2, h3⟩ := sorted_out_str hS hp hs
  obtain ⟨ep, he⟩ := sortedHeap_at (out := (arrOf st').map (·.2)) hoL
  have nf : H h'.objs.size = none := I1.hok.fresh (Nat.le_refl _)
  have hyl : (ys.map V.str).length ≤ sizeLine := by rw [List.length_map, h2.length_eq]; exact small64 h64
  refine ⟨.ref _, upd H h'.objs.size (.lst (ys.map V.str)), I1.laid (t' := s.toks) (fun b u e => ?_) (Nat.le_refl _) ⟨hyl, _, ep, vals_of_strs h1, he⟩, rfl, q ys _ _ h2 h3 nf (same_new nf) upd_same⟩
  rw [sortedHeap_old (Nat.ne_of_lt (Heap.lt_size e)) (by rw [size_push']; exact Nat.lt_succ_of_lt (Heap.lt_size e))]; exact Heap.get?_push_of_some _ e
end
/-! ### the one sorted row -/
theorem cps_inj {x y : Str} (h : x.cps.toList = y.cps.toList) : x = y := by
  cases x
  cases y
  congr
  exact Array.toList_inj.mp h
def leS (x y : Str) : Bool := !ltCps y.cps.toList x.cps.toList
theorem leS_iff {x y : Str} : leS x y = true ↔ x.cps.toList ≤ y.cps.toList := by
  unfold leS
  rw [ltCps_eq, Bool.not_eq_true', decide_eq_false_iff_not]
  exact List.not_lt
theorem leS_trans (x y z : Str) (h1 : leS x y = true) (h2 : leS y z = true) : leS x z = true := leS_iff.mpr (List.le_trans (leS_iff.mp h1) (leS_iff.mp h2))
theorem leS_total (x y : Str) : (leS x y || leS y x) = true := by
  rw [Bool.or_eq_true, leS_iff, leS_iff]
  exact List.le_total _ _
theorem leS_anti {x y : Str} (h1 : leS x y = true) (h2 : leS y x = true) : x = y := cps_inj (List.le_antisymm (leS_iff.mp h1) (leS_iff.mp h2))
def srt (xs : List Str) : List Str := xs.mergeSort leS
theorem srt_perm (xs : List Str) : (srt xs).Perm xs := List.mergeSort_perm xs leS
theorem srt_pw (xs : List Str) : (srt xs).Pairwise fun a b => leS a b = true := List.pairwise_mergeSort leS_trans leS_total xs
theorem rising_pw : ∀ (l : List Str) (p : Str), risingS p l = true → (p :: l).Pairwise fun a b => leS a b = true
  | [], p, _ => List.pairwise_singleton _ _
  | x :: r, p, h => by
    have h' : (!ltCps x.cps.toList p.cps.toList && risingS x r) = true := h
    rw [Bool.and_eq_true] at h'
    have ih := rising_pw r x h'.2
    refine List.pairwise_cons.mpr ⟨fun y hy => ?_, ih⟩; rcases List.mem_cons.mp hy with e | e
    · rw [e]
      exact h'.1
    · exact leS_trans p x y h'.1 (List.rel_of_pairwise_cons ih e)
theorem sorted_pw : ∀ {l : List Str}, sortedS l = true → l.Pairwise fun a b => leS a b = true
  | [], _ => List.Pairwise.nil
  | x :: r, h => rising_pw r x h
theorem eq_srt {xs ys : List Str} (p : ys.Perm xs) (h : sortedS ys = true) : ys = srt xs :=
  List.Perm.eq_of_pairwise (fun a b _ _ h1 h2 => leS_anti h1 h2) (sorted_pw h) (srt_pw xs) (p.trans (srt_perm xs).symm)
theorem srt_congr {xs ys : List Str} (p : xs.Perm ys) : srt xs = srt ys :=
  List.Perm.eq_of_pairwise (fun a b _ _ h1 h2 => leS_anti h1 h2) (srt_pw xs) (srt_pw ys) ((srt_perm xs).trans (p.trans (srt_perm ys).symm))
theorem srt_len (xs : List Str) : (srt xs).length = xs.length := (srt_perm xs).length_eq
theorem srt_mem {xs : List Str} {x : Str} : x ∈ srt xs ↔ x ∈ xs := (srt_perm xs).mem_iff
theorem srt_nd {xs : List Str} : (srt xs).Nodup ↔ xs.Nodup := (srt_perm xs).nodup_iff
/-! ### all rows of k of the layers -/
def one1 (ys o : List Str) : List (List Str) := (ys.filter fun y => !decide (y ∈ o)).map fun y => o ++ [y]
def lev (ys : List Str) : Nat → List (List Str)
  | 0 => [[]]
  | k + 1 => (lev ys k).flatMap (one1 ys)
/-- all orders of the layers, ascending -/
def ords (xs : List Str) : List (List Str) := lev (srt xs) xs.length
theorem mem_one {ys o z : List Str} : z ∈ one1 ys o ↔ ∃ y, y ∈ ys ∧ y ∉ o ∧ z = o ++ [y] := by
  unfold one1
  rw [List.mem_map]
  constructor
  · rintro ⟨y, hy, rfl⟩
    rw [List.mem_filter] at hy
    exact ⟨y, hy.1, by simpa using hy.2, rfl⟩
  · rintro ⟨y, h1, h2, rfl⟩
    exact ⟨y, List.mem_filter.mpr ⟨h1, by simpa using h2⟩, rfl⟩
theorem mem_lev {ys : List Str} : ∀ {k : Nat} {o : List Str}, o ∈ lev ys k ↔ o.length = k ∧ o.Nodup ∧ ∀ x ∈ o, x ∈ ys
  | 0, o => by
    show o ∈ [[]] ↔ _
    rw [List.mem_singleton]
    constructor
    · rintro rfl
      exact ⟨rfl, List.nodup_nil, fun x h => by cases h⟩
    · rintro ⟨h, _⟩
      exact List.eq_nil_of_length_eq_zero h
  | k + 1, o => by
    show o ∈ (lev ys k).flatMap (one1 ys) ↔ _
    rw [List.mem_flatMap]
    constructor
    · rintro ⟨a, ha, hz⟩
      obtain ⟨y, h1, h2, rfl⟩ := mem_one.mp hz
      obtain ⟨e1, e2, e3⟩ := mem_lev.mp ha
      refine ⟨by rw [List.length_append, e1]; rfl, ?_, fun x hx => ?_⟩
      · refine List.nodup_append.mpr ⟨e2, (by simp), fun a ha b hb e => ?_⟩
        rw [List.mem_singleton.mp hb] at e
        exact h2 (e ▸ ha)
      · rcases List.mem_append.mp hx with q | q
        · exact e3 _ q
        · rw [List.mem_singleton.mp q]
          exact h1
    · rintro ⟨e1, e2, e3⟩
      have ne : o ≠ [] := fun z => by
        rw [z] at e1
        cases e1
      have eo : o.dropLast ++ [o.getLast ne] = o := List.dropLast_concat_getLast ne
      rw [← eo] at e2
      have e2' := List.nodup_append.mp e2
      refine ⟨o.dropLast, mem_lev.mpr ⟨by rw [List.length_dropLast, e1]; rfl, e2'.1, fun x hx => e3 x ((List.dropLast_sublist o).subset hx)⟩, mem_one.mpr ⟨o.getLast ne, e3 _ (List.getLast_mem ne), fun z => e2'.2.2 _ z _ (List.mem_singleton.mpr rfl) rfl, eo.symm⟩⟩
theorem perm_of_nd {a b : List Str} (h1 : a.Nodup) (h2 : ∀ x ∈ a, x ∈ b) (h3 : a.length = b.length) (h4 : b.Nodup) : a.Perm b := by
  refine (List.perm_ext_iff_of_nodup h1 h4).mpr fun x => ⟨h2 x, fun hx => ?_⟩
  refine Classical.byContradiction fun hn => ?_; have : (x :: a).length ≤ b.length := List.Nodup.length_le_of_subset (List.nodup_cons.mpr ⟨hn, h1⟩) fun y hy => by
    rcases List.mem_cons.mp hy with z | z
    · rw [z]
      exact hx
    · exact h2 y z
  rw [List.length_cons] at this
  omega
theorem mem_ords {xs o : List Str} (nd : xs.Nodup) : o ∈ ords xs ↔ o.Perm xs := by
  unfold ords
  rw [mem_lev]
  constructor
  · rintro ⟨e1, e2, e3⟩
    exact perm_of_nd e2 (fun x hx => srt_mem.mp (e3 x hx)) e1 nd
  · intro p
    exact ⟨p.length_eq, p.nodup_iff.mpr nd, fun x hx => srt_mem.mpr (p.mem_iff.mp hx)⟩
theorem ords_congr {xs ys : List Str} (p : xs.Perm ys) : ords xs = ords ys := by
  unfold ords
  rw [srt_congr p, p.length_eq]
theorem one_len (ys o : List Str) : (one1 ys o).length ≤ ys.length := by
  unfold one1
  rw [List.length_map]
  exact List.length_filter_le _ _
theorem flat_len {α β : Type} {f : α → List β} {n : Nat} (h : ∀ a, (f a).length ≤ n) : ∀ l : List α, (l.flatMap f).length ≤ l.length * n
  | [] => by simp
  | a :: l => by
    rw [List.flatMap_cons, List.length_append, List.length_cons, Nat.succ_mul]
    have := h a
    have := flat_len h l
    omega
theorem lev_len (ys : List Str) : ∀ k, (lev ys k).length ≤ ys.length ^ k
  | 0 => Nat.le_refl _
  | k + 1 => by
    refine Nat.le_trans (flat_len (one_len ys) _) ?_
    rw [Nat.pow_succ]
    exact Nat.mul_le_mul_right _ (lev_len ys k)
end LS
set_option maxHeartbeats 2100000
/-! tuples of texts in a row; the promises of what walks over all orders -/
namespace LS
open PySem L2 PySem.Spec PyProof.Rows
def Tups (H : Hp) : List Addr → List (List Str) → Prop
  | [], [] => True
  | a :: as, c :: cs => Tn H a (c.map V.str) ∧ Tups H as cs
  | _, _ => False
theorem Tups.same {H H' : Hp} (e : Same H H') : ∀ {as : List Addr} {cs : List (List Str)}, Tups H as cs → Tups H' as cs
  | [], [], _ => trivial
  | _ :: _, _ :: _, h => ⟨h.1.same e, Tups.same e h.2⟩
theorem Tups.len {H : Hp} : ∀ {as : List Addr} {cs : List (List Str)}, Tups H as cs → as.length = cs.length
  | [], [], _ => rfl
  | _ :: as, _ :: cs, h => by
    show as.length + 1 = cs.length + 1
    rw [Tups.len h.2]
theorem Tups.snoc {H : Hp} {a : Addr} {c : List Str} (hc : Tn H a (c.map V.str)) : ∀ {as : List Addr} {cs : List (List Str)}, Tups H as cs → Tups H (as ++ [a]) (cs ++ [c])
  | [], [], _ => ⟨hc, trivial⟩
  | _ :: _, _ :: _, h => ⟨h.1, Tups.snoc hc h.2⟩
theorem Tups.app {H : Hp} {bs : List Addr} {ds : List (List Str)} (hd : Tups H bs ds) : ∀ {as : List Addr} {cs : List (List Str)}, Tups H as cs → Tups H (as ++ bs) (cs ++ ds)
  | [], [], _ => hd
  | _ :: _, _ :: _, h => ⟨h.1, Tups.app hd h.2⟩
theorem Tups.get {H : Hp} : ∀ {as : List Addr} {cs : List (List Str)}, Tups H as cs → ∀ {i : Nat} {c : List Str}, cs[i]? = some c → ∃ a, as[i]? = some a ∧ Tn H a (c.map V.str)
  | [], [], _, i, c, h => by simp at h
  | a :: as, c :: cs, h, 0, x, e => by
    have e1 : c = x := Option.some.inj e
    subst e1
    exact ⟨a, rfl, h.1⟩
  | a :: as, c :: cs, h, i + 1, x, e => Tups.get h.2 (i := i) e
theorem Tups.keep {H H' : Hp} {D : Addr} {zs : List V} (hD : H D = some (.lst zs)) (k : ∀ b x, b ≠ D → H b = some x → H' b = some x) : ∀ {as : List Addr} {cs : List (List Str)}, Tups H as cs → Tups H' as cs
  | [], [], _ => trivial
  | _ :: _, _ :: _, h => ⟨tn_keep hD k h.1, Tups.keep hD k h.2⟩
theorem inV_strs (y : Str) (o : List Str) : inV (.str y) (o.map V.str) = decide (y ∈ o) := by
  rw [Bool.eq_iff_iff, decide_eq_true_iff]
  unfold inV
  rw [List.any_map, List.any_eq_true]
  constructor
  · rintro ⟨x, hx, e⟩
    have e1 : (x == y) = true := e
    rw [← eq_of_beq e1]
    exact hx
  · intro h
    exact ⟨y, h, (beq_self_eq_true y : (y == y) = true)⟩
/-- a written list: what stood elsewhere stands -/
theorem upd_keep {H : Hp} {D : Addr} {u : HO} : ∀ b x, b ≠ D → H b = some x → (upd H D u) b = some x := fun b x nb e => by
  rw [upd_ne nb]
  exact e
theorem same_upd {H H' : Hp} {D : Addr} {u : HO} (s : Same H H') (n : H D = none) : Same H (upd H' D u) := fun b x e => by
  rw [upd_ne (ne_of_none e n)]
  exact s _ _ e
section
variable {X : Cx}
theorem pi_listK {K : PySem.W.Frag} {tg e : Expr} {te : TE} (hK : X.K = K) (h : PE X e te) : PI X tg e (iList K te) := by
  subst hK
  exact pi_list h
theorem op_inK {K : PySem.W.Frag} (hK : X.K = K) : OpR X (compareOp .In) (rIn K false) := by
  subst hK
  exact op_in_seq
theorem op_notInK {K : PySem.W.Frag} (hK : X.K = K) : OpR X (compareOp .NotIn) (rIn K true) := by
  subst hK
  exact op_notIn_seq
end
theorem none_of {H H' : Hp} {a : Addr} (s : Same H H') (n : H' a = none) : H a = none := by
  cases e : H a with
  | none => rfl
  | some u =>
    rw [s _ _ e] at n
    cases n
theorem one_take {ys o : List Str} {m : Nat} {y : Str} (h : ys[m]? = some y) : one1 (ys.take (m + 1)) o = one1 (ys.take m) o ++ (if y ∈ o then [] else [o ++ [y]]) := by
  unfold one1
  rw [List.take_add_one, h, List.filter_append, List.map_append]
  congr 1
  by_cases c : y ∈ o
  · rw [if_pos c]
    simp [c]
  · rw [if_neg c]
    simp [c]
theorem one_mono {ys o : List Str} (m : Nat) : (one1 (ys.take m) o).length ≤ (one1 ys o).length := by
  unfold one1
  rw [List.length_map, List.length_map]
  exact ((List.take_sublist m ys).filter _).length_le
def spOrds : Sp := fun vs H Q _ => ∃ (l : Addr) (xs : List Str), vs = [.ref l] ∧ Tn H l (xs.map V.str) ∧ xs.length ≤ 6 ∧
  ∀ (D : Addr) (as : List Addr) (H' : Hp), Same H H' → H D = none → H' D = some (.lst (as.map V.ref)) → Tups H' as (ords xs) → Q (.ref D) H'
theorem flatStrs (o : List Str) : (o.map V.str).all flatV = true := by
  rw [List.all_eq_true]
  intro x hx
  obtain ⟨y, _, rfl⟩ := List.mem_map.mp hx
  rfl
theorem pow6 {ys : List Str} {k n : Nat} (h : ys.length ≤ 6) (hk : k ≤ 6) (hn : n ≤ (lev ys k).length) : n < sizeLine := by
  have h1 := lev_len ys k
  have h2 : ys.length ^ k ≤ 6 ^ k := Nat.pow_le_pow_left h k
  have h3 : 6 ^ k ≤ 6 ^ 6 := Nat.pow_le_pow_right (by decide) hk
  have h4 : 6 ^ 6 < sizeLine := by decide
  omega
/-! ### rows of tuples of texts as data -/
def trow (o : List Str) : PyData := .tuple (strD o)
def rowsD (L : List (List Str)) : List PyData := L.map trow
theorem eqv_row (o z : List Str) : PyData.eqv (trow o) (trow z) = decide (o = z) := eqvAll_str o z
theorem eqvAll_rows : ∀ L M : List (List Str), PyData.eqvAll (rowsD L) (rowsD M) = decide (L = M)
  | [], [] => rfl
  | [], _ :: _ => rfl
  | _ :: _, [] => rfl
  | o :: L, z :: M => by
    show (PyData.eqv (trow o) (trow z) && PyData.eqvAll (rowsD L) (rowsD M)) = _
    rw [eqvAll_rows L M, eqv_row]
    by_cases h : o = z
    · subst h
      simp
    · simp [h]
theorem lay_rows : ∀ {L : List (List Str)}, (∀ o, o ∈ L → StrsOk o) → PyData.canLayAll0 (rowsD L) = true
  | [], _ => rfl
  | o :: L, h => by
    show (PyData.canLayAll0 (strD o) && PyData.canLayAll0 (rowsD L)) = true
    rw [lay_str (h o List.mem_cons_self), lay_rows fun z hz => h z (List.mem_cons_of_mem _ hz)]
    rfl
theorem depth_rows : ∀ L : List (List Str), PyData.depthAll (rowsD L) ≤ 2
  | [] => by decide
  | o :: L => by
    have h1 := depth_rows L
    have h2 := depth_str o
    simp only [rowsD, trow, List.map_cons, PyData.depthAll, PyData.depth] at h1 ⊢
    omega
theorem shaped_rows {L : List (List Str)} (h : ∀ o, o ∈ L → StrsOk o) : SeqAt.shaped (.list (rowsD L)) = true := by
  unfold SeqAt.shaped
  have := depth_rows L
  rw [show PyData.canLay0 (.list (rowsD L)) = true from lay_rows h, decide_eq_true (by simp only [PyData.depth]; omega)]
  rfl
theorem shaped_trow {o : List Str} (h : StrsOk o) : SeqAt.shaped (trow o) = true := shaped_tstr h
theorem dp_row {K : PySem.W.Frag} {H : Hp} {a : Addr} {o : List Str} (h : Tn H a (o.map V.str)) : Dp K H (.ref a) (trow o) := .tup h.sq (dpAll_str o)
theorem dp_rows {K : PySem.W.Frag} {H : Hp} : ∀ {as : List Addr} {L : List (List Str)}, Tups H as L → DpAll K H (as.map V.ref) (rowsD L)
  | [], [], _ => .nil
  | _ :: _, _ :: _, h => .cons (dp_row h.1) (dp_rows h.2)
theorem Cmds.join {H : Hp} {bs : List Addr} {ds : List (Str × Str)} (hd : Cmds H bs ds) : ∀ {as : List Addr} {cs : List (Str × Str)}, Cmds H as cs → Cmds H (as ++ bs) (cs ++ ds)
  | [], [], _ => hd
  | _ :: _, _ :: _, h => ⟨h.1, Cmds.join hd h.2⟩
def cmdRow (c : Str × Str) : List Str := [c.1, c.2]
theorem cmdRow_inj {c d : Str × Str} (h : cmdRow c = cmdRow d) : c = d := by
  obtain ⟨a, b⟩ := c
  obtain ⟨x, y⟩ := d
  simp only [cmdRow, List.cons.injEq, and_true] at h
  rw [h.1, h.2]
theorem Cmds.tups {H : Hp} : ∀ {as : List Addr} {cs : List (Str × Str)}, Cmds H as cs → Tups H as (cs.map cmdRow)
  | [], [], _ => trivial
  | _ :: _, _ :: _, h => ⟨h.1, Cmds.tups h.2⟩
/-! ### is True, is False -/
section
variable {X : Cx}
theorem op_isB : OpR X (compareOp .Is) (fun x y H Q => ∃ m n, x = .bl m ∧ y = .bl n ∧ Q (.bl (decide (m = n))) H) := by
  intro pi s σ H x y v u Q I rx ry h
  obtain ⟨m, n, rfl, rfl, q⟩ := h; cases (show v = Value.bool m from rx)
  cases (show u = Value.bool n from ry)
  by_cases e : m = n
  · subst e; exact wpAny_is_self rfl ⟨.bl true, H, I, rfl, by simpa using q⟩
  · exact (wpAny_is_other rfl (fun z => e (Value.bool.inj z)) ⟨.bl false, H, I, rfl, by simpa [e] using q⟩)
theorem op_isNotB : OpR X (compareOp .IsNot) (fun x y H Q => ∃ m n, x = .bl m ∧ y = .bl n ∧ Q (.bl (!decide (m = n))) H) := by
  intro pi s σ H x y v u Q I rx ry h
  obtain ⟨m, n, rfl, rfl, q⟩ := h; cases (show v = Value.bool m from rx)
  cases (show u = Value.bool n from ry)
  by_cases e : m = n
  · subst e; exact wpAny_isNot_self rfl ⟨.bl false, H, I, rfl, by simpa using q⟩
  · exact (wpAny_isNot_other rfl (fun z => e (Value.bool.inj z)) ⟨.bl true, H, I, rfl, by simpa [e] using q⟩)
end
/-! ### what the defs promise -/
def runA (o : List Str) (cs : List (Str × Str)) : List Str := cs.foldl moved o
theorem runTo_all (o : List Str) (cs : List (Str × Str)) : runTo o cs cs.length = runA o cs := by
  unfold runTo
  rw [List.take_of_length_le (Nat.le_refl _)]
  rfl
theorem runA_perm {o : List Str} {cs : List (Str × Str)} (h : ∀ c, c ∈ cs → c.2 ∈ o) : (runA o cs).Perm o := by
  rw [← runTo_all]
  exact run_perm h _
def spAfterT (K : PySem.W.Frag) : Sp := fun vs H Q _ => ∃ (o p : Addr) (os : List Str) (cs : List (Str × Str)), vs = [.ref o, .ref p] ∧ Tn H o (os.map V.str) ∧ Scr K H p cs ∧ (∀ c, c ∈ cs → c.2 ∈ os) ∧ os.Nodup ∧ os.length ≤ 900 ∧
  ∀ r H', Same H H' → Tn H' r ((runA os cs).map V.str) → Q (.ref r) H'
/-- all commands, ascending -/
def kindsL : List Str := ["back", "down", "front", "up"]
def cmdsL (xs : List Str) : List (Str × Str) := kindsL.flatMap fun k => (srt xs).map fun n => (k, n)
def spCmdsL : Sp := fun vs H Q _ => ∃ (l : Addr) (xs : List Str), vs = [.ref l] ∧ Tn H l (xs.map V.str) ∧ xs.length ≤ 60 ∧
  ∀ (D : Addr) (as : List Addr) (H' : Hp), Same H H' → H D = none → H' D = some (.lst (as.map V.ref)) → Cmds H' as (cmdsL xs) → Q (.ref D) H'
def spSame : Sp := fun vs H Q _ => ∃ a b : Bool, vs = [.bl a, .bl b] ∧ Q (.bl (decide (a = b))) H
def diffs (cs ds : List (Str × Str)) (o : List Str) : Bool := !decide (runA o cs = runA o ds)
def firstDiff (xs : List Str) (cs ds : List (Str × Str)) : Option (List Str) := (ords xs).find? (diffs cs ds)
def eqAll (xs : List Str) (cs ds : List (Str × Str)) : Bool := (ords xs).all fun o => decide (runA o cs = runA o ds)
theorem find_at {α : Type} {p : α → Bool} {o : α} : ∀ {L : List α} {i : Nat}, (∀ x, x ∈ L.take i → p x = false) → L[i]? = some o → p o = true → L.find? p = some o
  | [], _, _, h, _ => by simp at h
  | x :: L, 0, _, h, hp => by
    have e : x = o := Option.some.inj h
    subst e
    exact List.find?_cons_of_pos hp
  | x :: L, i + 1, h0, h, hp => by
    have h1 : p x = false := h0 x (by simp)
    rw [List.find?_cons_of_neg (by rw [h1]; decide)]
    exact find_at (fun y hy => h0 y (by rw [List.take_succ_cons]; exact List.mem_cons_of_mem _ hy)) h hp
theorem eqAll_none {xs : List Str} {cs ds : List (Str × Str)} : (firstDiff xs cs ds = none) ↔ eqAll xs cs ds = true := by
  unfold firstDiff eqAll
  rw [List.find?_eq_none, List.all_eq_true]
  constructor
  · intro h o ho
    have := h o ho
    unfold diffs at this
    simpa using this
  · intro h o ho
    have := h o ho
    unfold diffs
    simpa using this
def spFirst (K : PySem.W.Frag) : Sp := fun vs H Q _ => ∃ (l a b : Addr) (xs : List Str) (cs ds : List (Str × Str)), vs = [.ref l, .ref a, .ref b] ∧ Tn H l (xs.map V.str) ∧ Scr K H a cs ∧ Scr K H b ds ∧ xs.Nodup ∧ xs.length ≤ 6 ∧ StrsOk xs ∧ (∀ c, c ∈ cs → c.2 ∈ xs) ∧ (∀ c, c ∈ ds → c.2 ∈ xs) ∧
  (∀ p o H', Same H H' → Tn H' p (o.map V.str) → firstDiff xs cs ds = some o → Q (.ref p) H') ∧ (∀ H', Same H H' → firstDiff xs cs ds = none → Q .non H')
def spEqual (K : PySem.W.Frag) : Sp := fun vs H Q _ => ∃ (l a b : Addr) (xs : List Str) (cs ds : List (Str × Str)), vs = [.ref l, .ref a, .ref b] ∧ Tn H l (xs.map V.str) ∧ Scr K H a cs ∧ Scr K H b ds ∧ xs.Nodup ∧ xs.length ≤ 6 ∧ StrsOk xs ∧ (∀ c, c ∈ cs → c.2 ∈ xs) ∧ (∀ c, c ∈ ds → c.2 ∈ xs) ∧
  ∀ H', Same H H' → Q (.bl (eqAll xs cs ds)) H'
def spCommute (K : PySem.W.Frag) : Sp := fun vs H Q _ => ∃ (l a b : Addr) (xs : List Str) (c d : Str × Str), vs = [.ref l, .ref a, .ref b] ∧ Tn H l (xs.map V.str) ∧ Tn H a [.str c.1, .str c.2] ∧ Tn H b [.str d.1, .str d.2] ∧ xs.Nodup ∧ xs.length ≤ 6 ∧ StrsOk xs ∧ c.2 ∈ xs ∧ d.2 ∈ xs ∧
  ∀ H', Same H H' → Q (.bl (eqAll xs [c, d] [d, c])) H'
end LS
/-! distances by way of other orders; plans -/
namespace LS
open PySem L2 PySem.Spec PyProof.Rows LamX
theorem dist_lt {o t : List Str} {d : Nat} (h0 : 0 < t.length) (h : IsDist o t d) : d < t.length := by
  have := h.2 0 (0 + 1) (by omega) (by omega)
  rw [cost_one h0] at this
  omega
theorem dist_zero {o t : List Str} (hn : o.Nodup) (hp : t.Perm o) (h : IsDist o t 0) : o = t := by
  obtain ⟨⟨a, b, hab, hb, e⟩, _⟩ := h
  have r := script_runs (a := a) (b := b) hn hp (Nat.le_of_lt hab)
  have l := script_len (o := o) (t := t) (Nat.le_of_lt hab) hb
  rw [e] at l
  rw [List.eq_nil_of_length_eq_zero l] at r
  exact r
theorem mem_ups {o : List Str} {c : Str × Str} : ∀ {s : List Str}, c ∈ ups o s → c.1 = "up" ∧ c.2 ∈ s
  | [], h => by cases h
  | x :: xs, h => by
    rcases List.mem_append.mp (show c ∈ List.replicate _ _ ++ ups o xs from h) with z | z
    · rw [List.eq_of_mem_replicate z]
      exact ⟨rfl, List.mem_cons_self⟩
    · exact ⟨(mem_ups z).1, List.mem_cons_of_mem _ (mem_ups z).2⟩
theorem script_good {o t : List Str} {a b : Nat} (hp : ∀ x, x ∈ t → x ∈ o) : GoodCs o (scriptOf o t a b) := by
  intro c hc
  have k1 : ("up" : Str) ∈ fourWords := by decide +kernel
  have k2 : ("front" : Str) ∈ fourWords := by decide +kernel
  have k3 : ("back" : Str) ∈ fourWords := by decide +kernel
  rcases List.mem_append.mp hc with z | z
  · rcases List.mem_append.mp z with z | z
    · obtain ⟨x, hx, rfl⟩ := List.mem_map.mp z
      exact ⟨k2, hp x (List.mem_of_mem_take (List.mem_reverse.mp hx))⟩
    · obtain ⟨x, hx, rfl⟩ := List.mem_map.mp z
      exact ⟨k3, hp x (List.mem_of_mem_drop hx)⟩
  · obtain ⟨h1, h2⟩ := mem_ups z
    rw [h1]
    exact ⟨k1, hp _ (seg_mem h2)⟩
theorem ups_pairs (o : List Str) : ∀ s : List Str, (wpairs o s).map (fun p => (("up", p.1) : Str × Str)) = ups o s
  | [] => rfl
  | x :: xs => by
    show (wp1 o x xs ++ wpairs o xs).map _ = List.replicate _ _ ++ ups o xs
    rw [List.map_append, ups_pairs o xs]
    congr 1
    unfold wp1
    rw [List.map_map, List.countP_eq_length_filter]
    exact (List.map_const' : List.map (fun _ => (("up", x) : Str × Str)) _ = _)
/-- a shortest script -/
theorem dist_script {o t : List Str} {d : Nat} (hn : o.Nodup) (hp : t.Perm o) (h : IsDist o t d) : ∃ cs : List (Str × Str), cs.length = d ∧ cs.foldl moved o = t ∧ GoodCs o cs := by
  obtain ⟨⟨a, b, hab, hb, e⟩, _⟩ := h
  exact ⟨scriptOf o t a b, by rw [script_len (Nat.le_of_lt hab) hb, e], script_runs hn hp (Nat.le_of_lt hab), script_good fun x hx => hp.mem_iff.mp hx⟩
theorem dist_tri {o m t : List Str} {d1 d2 d : Nat} (hn : o.Nodup) (h0 : 0 < o.length) (hm : m.Perm o) (ht : t.Perm o) (h1 : IsDist o m d1) (h2 : IsDist m t d2) (h : IsDist o t d) : d ≤ d1 + d2 := by
  obtain ⟨c1, l1, r1, g1⟩ := dist_script hn hm h1
  obtain ⟨c2, l2, r2, g2⟩ := dist_script (hm.nodup_iff.mpr hn) (ht.trans hm.symm) h2
  have k := dist_least (cs := c1 ++ c2) hn h0 (fun c hc => (List.mem_append.mp hc).elim (fun z => (g1 c z).2) (fun z => hm.mem_iff.mp (g2 c z).2)) (by rw [List.foldl_append, r1, r2]) h
  rw [List.length_append] at k
  omega
theorem dist_back {o t : List Str} {cs : List (Str × Str)} {d : Nat} (hn : o.Nodup) (h0 : 0 < t.length) (hp : t.Perm o) (hg : ∀ c, c ∈ cs → c.2 ∈ o) (hd : IsDist o t d) : ∀ (i e : Nat), i ≤ cs.length → IsDist (runTo o cs i) t e → d ≤ i + e
  | 0, e, _, he => by
    rw [dist_uniq hd (show IsDist o t e from he)]
    omega
  | i + 1, e, hi, he => by
    have ec : cs[i]? = some cs[i] := List.getElem?_eq_getElem hi
    have pm := run_perm hg i
    obtain ⟨e', he'⟩ := dist_ex (runTo o cs i) h0
    have k := dist_back hn h0 hp hg hd i e' (by omega) he'
    rw [run_succ ec] at he
    have k2 := dist_step (pm.nodup_iff.mpr hn) (hp.trans pm.symm) (pm.mem_iff.mpr (hg _ (List.getElem_mem hi))) he' he
    omega
/-- each command of a shortest script lowers the distance by one -/
theorem dist_along {o t : List Str} {cs : List (Str × Str)} {d i e : Nat} (hn : o.Nodup) (h0 : 0 < t.length) (hp : t.Perm o) (hg : ∀ c, c ∈ cs → c.2 ∈ o) (hr : cs.foldl moved o = t) (hd : IsDist o t d) (hl : cs.length = d) (hi : i ≤ cs.length) (he : IsDist (runTo o cs i) t e) : e = d - i := by
  have k1 := dist_back hn h0 hp hg hd i e hi he
  have pm := run_perm hg i
  have e1 : (cs.drop i).foldl moved (runTo o cs i) = t := by
    unfold runTo
    rw [← List.foldl_append, List.take_append_drop, hr]
  have k2 := dist_least (pm.nodup_iff.mpr hn) (by rw [pm.length_eq, ← hp.length_eq]; exact h0) (fun c hc => pm.mem_iff.mpr (hg c (List.mem_of_mem_drop hc))) e1 he
  rw [List.length_drop] at k2
  omega
theorem idx_in {y : Str} {A B : List Str} (h : y ∈ A) : idx (A ++ B) y < A.length := by
  unfold idx
  rw [List.findIdx_append]
  have k := idx_lt h
  unfold idx at k
  rw [if_pos k]
  exact k
theorem dist_rev {o : List Str} {d : Nat} (hn : o.Nodup) (h0 : 0 < o.length) (h : IsDist o o.reverse d) : d = o.length - 1 := by
  have h0' : 0 < o.reverse.length := by rw [List.length_reverse]; exact h0
  have k1 := dist_lt h0' h
  rw [List.length_reverse] at k1
  obtain ⟨⟨a, b, hab, hb, e⟩, _⟩ := h
  have e3 := cut3 (t := o.reverse) (a := a) (b := b) (Nat.le_of_lt hab)
  have ls : ((o.reverse.drop a).take (b - a)).length = b - a := by
    rw [List.length_take, List.length_drop]; omega
  unfold cost at e
  rw [List.length_reverse] at e hb
  generalize o.reverse.take a = A at e3
  generalize o.reverse.drop b = B at e3
  generalize (o.reverse.drop a).take (b - a) = s at e3 ls e
  cases s with
  | nil =>
    have z : 0 = b - a := ls
    omega
  | cons x r =>
    have eo : o = B.reverse ++ r.reverse ++ (x :: A.reverse) := by
      have z := congrArg List.reverse e3
      rw [List.reverse_reverse] at z
      rw [z]
      simp
    have hx : x ∉ B.reverse ++ r.reverse := fun z => by
      rw [eo] at hn
      have k := List.nodup_append.mp hn
      exact k.2.2 x z x List.mem_cons_self rfl
    have cnt : r.countP (fun y => bef o y x) = r.length := List.countP_eq_length.mpr fun y hy => decide_eq_true (by
      have i1 : idx o x = (B.reverse ++ r.reverse).length := by
        rw [eo]
        exact idx_mid hx
      have i2 : idx o y < (B.reverse ++ r.reverse).length := by
        rw [eo]
        exact idx_in (List.mem_append.mpr (.inr (List.mem_reverse.mpr hy)))
      omega)
    have e' : o.length - (b - a) + (r.countP (fun y => bef o y x) + inv o r) = d := e
    rw [cnt] at e'
    have ls' : r.length + 1 = b - a := ls
    omega
/-! ### lists of commands, one after the other -/
theorem cmds_step {H H3 H8 : Hp} {D p : Addr} {as : List Addr} {L : List (Str × Str)} {c : Str × Str} (nD : H D = none) (s3 : Same H H3) (hD : H3 D = some (.lst (as.map V.ref))) (hC : Cmds H3 as L) (s8 : Same H3 H8) (h8 : Tn H8 p [.str c.1, .str c.2]) :
    Same H (upd H8 D (.lst (as.map V.ref ++ [.ref p]))) ∧ (upd H8 D (.lst (as.map V.ref ++ [.ref p]))) D = some (.lst ((as ++ [p]).map V.ref)) ∧ Cmds (upd H8 D (.lst (as.map V.ref ++ [.ref p]))) (as ++ [p]) (L ++ [c]) := by
  have hD8 := s8 _ _ hD
  have kp : ∀ b z, b ≠ D → H8 b = some z → (upd H8 D (.lst (as.map V.ref ++ [.ref p]))) b = some z := fun b z nb e => by
    rw [upd_ne nb]
    exact e
  refine ⟨fun b z e => ?_, ?_, Cmds.snoc (tn_keep hD8 kp h8) (Cmds.keep hD8 kp (hC.same s8))⟩
  · rw [upd_ne (ne_of_none e nD)]
    exact s8 _ _ (s3 _ _ e)
  · rw [upd_same, List.map_append]
    rfl
theorem take_snoc {α : Type} {L : List α} {i : Nat} {c : α} (h : L[i]? = some c) : L.take (i + 1) = L.take i ++ [c] := by
  rw [List.take_add_one, h]
  rfl
theorem pi_revK {K : PySem.W.Frag} {X : Cx} {tg e : Expr} {te : TE} {p pos : Pos} (hK : X.K = K) (hg : Gl X "reversed") (hm : X.mg "reversed" = none) (he : PE X e te) (hs : starEach [e] X.env = (false, eval e X.env) :: starEach [] X.env := by rfl) : PI X tg (.Call (.Name "reversed" p) [e] [] pos) (RT.iRevA K te) := by
  subst hK
  exact RT.pi_revA hg hm he hs
theorem walk_revT {K : PySem.W.Frag} {a : Addr} {xs : List V} : Walk (RT.ItvT K a xs.length) xs.length (fun H => SqT K H a xs) (fun i H x H' => H' = H ∧ xs[xs.length - 1 - i]? = some x) :=
  ⟨fun i _ hi q => ⟨hi, xs, xs[xs.length - 1 - i]'(by omega), q, List.getElem?_eq_getElem (by omega)⟩, fun _ _ => Nat.le_refl _, fun _ _ _ _ _ q y => ⟨y.1, y.2 xs q⟩⟩
/-- a shortest script, at p -/
def spPlan (K : PySem.W.Frag) (T : List (Addr × Str)) : Sp := fun vs H Q _ => ∃ (o t : Addr) (os ts : List Str), vs = [.ref o, .ref t] ∧ Tn H o (os.map V.str) ∧ Tn H t (ts.map V.str) ∧ ts.Perm os ∧ os.Nodup ∧ 0 < ts.length ∧ ts.length ≤ 20 ∧ Tabs T H ∧
  ∀ (p : Addr) (as : List Addr) (cs : List (Str × Str)) H', ExtN H H' → Tabs T H' → Tn H' p (as.map V.ref) → Cmds H' as cs → IsDist os ts cs.length → cs.foldl moved os = ts → GoodCs os cs → Q (.ref p) H'
theorem Cmds.ext {H H' : Hp} (e : ExtN H H') : ∀ {as : List Addr} {cs : List (Str × Str)}, Cmds H as cs → Cmds H' as cs
  | [], [], _ => trivial
  | _ :: _, _ :: _, h => ⟨h.1.ext e, Cmds.ext e h.2⟩
theorem Cmds.app {H : Hp} : ∀ {as bs : List Addr} {cs ds : List (Str × Str)}, Cmds H as cs → Cmds H bs ds → Cmds H (as ++ bs) (cs ++ ds)
  | [], _, [], _, _, h => h
  | _ :: _, _, _ :: _, _, h1, h2 => ⟨h1.1, Cmds.app h1.2 h2⟩
end LS
set_option maxHeartbeats 2100000
/-! wished first layers: the targets that are looked at -/
namespace LS
open PySem L2 PySem.Spec PyProof.Rows LamX
def genQw : Str := ("without" : Str) ++ ".<locals>." ++ "<genexpr>"
def lamQn : Str := ("nearest_with_top" : Str) ++ ".<locals>." ++ "<lambda>"
def wout (xs ys : List Str) : List Str := xs.filter fun x => !decide (x ∈ ys)
def tgt (os ts : List Str) (i : Nat) : List Str := ts ++ wout (os.drop i) ts ++ wout (os.take i) ts
def tgts (os ts : List Str) : List (List Str) := (List.range (os.length + 1)).map (tgt os ts)
theorem wout_len (xs ys : List Str) : (wout xs ys).length ≤ xs.length := List.length_filter_le _ _
theorem wout_take {xs ys : List Str} {i : Nat} {x : Str} (h : xs[i]? = some x) : wout (xs.take (i + 1)) ys = wout (xs.take i) ys ++ if x ∈ ys then [] else [x] := by
  unfold wout
  rw [List.take_add_one, h, List.filter_append, Option.toList_some, List.filter_cons, List.filter_nil]
  by_cases c : x ∈ ys
  · rw [if_pos c, decide_eq_true c, if_neg (by decide)]
  · rw [if_neg c, decide_eq_false c]
    rfl
theorem split_perm {os : List Str} (p : Str → Bool) : ((os.filter p) ++ os.filter fun x => !p x).Perm os := by
  induction os with
  | nil => exact .nil
  | cons x os ih =>
    simp only [List.filter_cons]
    cases h : p x with
    | true => exact (ih.cons x)
    | false => exact (List.perm_middle).trans (ih.cons x)
theorem wout_perm {os ts : List Str} (hn : os.Nodup) (ht : ts.Nodup) (hin : ∀ x, x ∈ ts → x ∈ os) : (ts ++ wout os ts).Perm os := by
  refine List.Perm.trans (List.Perm.append_right _ ?_) (split_perm fun x => decide (x ∈ ts))
  refine (List.perm_ext_iff_of_nodup ht (hn.filter _)).mpr fun x => ?_
  rw [List.mem_filter, decide_eq_true_eq]
  exact ⟨fun h => ⟨hin x h, h⟩, fun h => h.2⟩
theorem tgt_perm {os ts : List Str} {i : Nat} (hn : os.Nodup) (ht : ts.Nodup) (hin : ∀ x, x ∈ ts → x ∈ os) : (tgt os ts i).Perm os := by
  refine List.Perm.trans ?_ (wout_perm hn ht hin)
  unfold tgt
  rw [List.append_assoc]
  refine List.Perm.append_left ts ?_
  unfold wout
  rw [← List.filter_append]
  exact (rot_perm os i).filter _
open Classical in
/-- the distance as a number -/
noncomputable def dN (o t : List Str) : Nat := if h : ∃ d, IsDist o t d then Classical.choose h else 0
theorem dN_eq {o t : List Str} {d : Nat} (h : IsDist o t d) : dN o t = d := by
  have e : ∃ d, IsDist o t d := ⟨d, h⟩
  unfold dN
  rw [dif_pos e]
  exact dist_uniq (Classical.choose_spec e) h
def spWout (T : List (Addr × Str)) : Sp := fun vs H Q _ => ∃ (l t : Addr) (xs ys : List Str), vs = [.ref l, .ref t] ∧ Tn H l (xs.map V.str) ∧ Tn H t (ys.map V.str) ∧ xs.length ≤ 900 ∧ Tabs T H ∧
  ∀ (p : Addr) (H' : Hp), ExtN H H' → Tabs T H' → Tn H' p ((wout xs ys).map V.str) → Q (.ref p) H'
def spNear1 (T : List (Addr × Str)) : Sp := fun vs H Q _ => ∃ (o t : Addr) (os ts : List Str), vs = [.ref o, .ref t] ∧ Tn H o (os.map V.str) ∧ Tn H t (ts.map V.str) ∧ os.Nodup ∧ ts.Nodup ∧ (∀ x, x ∈ ts → x ∈ os) ∧ 0 < os.length ∧ os.length ≤ 20 ∧ Tabs T H ∧
  ∀ (p : Addr) (q : List Str) (H' : Hp), ExtN H H' → Tabs T H' → Tn H' p (q.map V.str) → q ∈ tgts os ts → (∀ q', q' ∈ tgts os ts → dN os q ≤ dN os q') → Q (.ref p) H'
def spDTop (T : List (Addr × Str)) : Sp := fun vs H Q _ => ∃ (o t : Addr) (os ts : List Str), vs = [.ref o, .ref t] ∧ Tn H o (os.map V.str) ∧ Tn H t (ts.map V.str) ∧ os.Nodup ∧ ts.Nodup ∧ (∀ x, x ∈ ts → x ∈ os) ∧ 0 < os.length ∧ os.length ≤ 20 ∧ Tabs T H ∧
  ∀ (q : List Str) (H' : Hp), ExtN H H' → Tabs T H' → q ∈ tgts os ts → (∀ q', q' ∈ tgts os ts → dN os q ≤ dN os q') → Q (.int (dN os q : Nat)) H'
def spPTop (T : List (Addr × Str)) : Sp := fun vs H Q _ => ∃ (o t : Addr) (os ts : List Str), vs = [.ref o, .ref t] ∧ Tn H o (os.map V.str) ∧ Tn H t (ts.map V.str) ∧ os.Nodup ∧ ts.Nodup ∧ (∀ x, x ∈ ts → x ∈ os) ∧ 0 < os.length ∧ os.length ≤ 20 ∧ Tabs T H ∧
  ∀ (p : Addr) (as : List Addr) (cs : List (Str × Str)) (q : List Str) (H' : Hp), ExtN H H' → Tabs T H' → q ∈ tgts os ts → (∀ q', q' ∈ tgts os ts → dN os q ≤ dN os q') → Tn H' p (as.map V.ref) → Cmds H' as cs → IsDist os q cs.length → cs.foldl moved os = q → GoodCs os cs → Q (.ref p) H'
/-- the orders that lead to a result -/
def srcs (rs : List Str) (cs : List (Str × Str)) : List (List Str) := (ords rs).filter fun o => decide (runA o cs = rs)
def spSrcs (K : PySem.W.Frag) : Sp := fun vs H Q _ => ∃ (p r : Addr) (rs : List Str) (cs : List (Str × Str)), vs = [.ref p, .ref r] ∧ Scr K H p cs ∧ Tn H r (rs.map V.str) ∧ rs.Nodup ∧ rs.length ≤ 6 ∧ StrsOk rs ∧ (∀ c, c ∈ cs → c.2 ∈ rs) ∧
  ∀ (D : Addr) (as : List Addr) (H' : Hp), Same H H' → H D = none → H' D = some (.lst (as.map V.ref)) → Tups H' as (srcs rs cs) → Q (.ref D) H'
end LS
/-! the commands of a stretch with exchanges from the back -/
namespace LS
open PySem L2 PySem.Spec PyProof.Rows LamX
theorem fold_perm {cs : List (Str × Str)} : ∀ {o : List Str}, (∀ c, c ∈ cs → c.2 ∈ o) → (cs.foldl moved o).Perm o := by
  induction cs with
  | nil => intro o _; exact List.Perm.refl _
  | cons c cs ih =>
    intro o hg
    have p1 := moved_perm (hg c List.mem_cons_self)
    exact (ih fun c' h' => p1.mem_iff.mpr (hg c' (List.mem_cons_of_mem _ h'))).trans p1
/-- the ends first: the stretch's layers stand between them, as they stood -/
theorem ends_run {o t : List Str} {a b : Nat} (hn : o.Nodup) (hp : t.Perm o) (hab : a ≤ b) : ∃ R : List Str, (fronts (t.take a).reverse ++ backs (t.drop b)).foldl moved o = t.take a ++ R ++ t.drop b ∧ R.Sublist o ∧ ((t.drop a).take (b - a)).Perm R := by
  have htn : t.Nodup := hp.nodup_iff.mpr hn
  have e3 := cut3 (t := t) hab
  have nd3 := htn
  rw [e3] at nd3
  have n1 := List.nodup_append.mp nd3
  have n2 := List.nodup_append.mp n1.1
  rw [List.foldl_append]
  have f1 := run_fronts (xs := (t.take a).reverse) hn ((List.reverse_perm (t.take a)).nodup_iff.mpr n2.1) fun x hx => hp.mem_iff.mp (List.mem_of_mem_take (List.mem_reverse.mp hx))
  rw [List.reverse_reverse] at f1
  rw [f1]
  have pm1 : (t.take a ++ o.filter (fun y => !decide (y ∈ (t.take a).reverse))).Perm o := by
    rw [← f1]
    refine fold_perm fun c hc => ?_
    obtain ⟨x, hx, ex⟩ := List.mem_map.mp hc
    rw [← ex]
    exact hp.mem_iff.mp (List.mem_of_mem_take (List.mem_reverse.mp hx))
  have f2 := run_backs (xs := t.drop b) (pm1.nodup_iff.mpr hn) n1.2.1 fun x hx => pm1.mem_iff.mpr (hp.mem_iff.mp (List.mem_of_mem_drop hx))
  rw [f2, List.filter_append]
  have k1 : (t.take a).filter (fun y => !decide (y ∈ t.drop b)) = t.take a := filter_self fun y hy => by
    have : y ∉ t.drop b := fun z => n1.2.2 _ (List.mem_append_left _ hy) _ z rfl
    simp [this]
  rw [k1]
  have hsub : ((o.filter (fun y => !decide (y ∈ (t.take a).reverse))).filter (fun y => !decide (y ∈ t.drop b))).Sublist o := List.filter_sublist.trans List.filter_sublist
  refine ⟨_, rfl, hsub, (List.perm_ext_iff_of_nodup n2.2.1 (hn.sublist hsub)).mpr fun x => ?_⟩
  simp only [List.mem_filter, List.mem_reverse, Bool.not_eq_true', decide_eq_false_iff_not]
  constructor
  · intro hx
    exact ⟨⟨hp.mem_iff.mp (seg_mem hx), fun z => n2.2.2 _ z _ hx rfl⟩, fun z => n1.2.2 _ (List.mem_append_right _ hx) _ z rfl⟩
  · rintro ⟨⟨h1, h2⟩, h3⟩
    have : x ∈ t := hp.mem_iff.mpr h1
    rw [e3] at this
    rcases List.mem_append.mp this with z | z
    · rcases List.mem_append.mp z with z | z
      · exact absurd z h2
      · exact z
    · exact absurd z h3
theorem down_one {A C : List Str} {m l : Str} (hA : l ∉ A) : moved (A ++ l :: m :: C) ("down", l) = A ++ m :: l :: C := by
  show putAt (outOf (A ++ l :: m :: C) l) l (newIx "down" (idx (A ++ l :: m :: C) l) (outOf (A ++ l :: m :: C) l).length) = _
  rw [out_mid hA, idx_mid hA]
  have n1 : newIx "down" A.length (A ++ m :: C).length = (A ++ [m]).length := by
    unfold newIx
    rw [if_neg (by decide +kernel), if_neg (by decide +kernel), if_neg (by decide +kernel), List.length_append, List.length_append, List.length_cons]
    show min (A.length + 1) (A.length + (C.length + 1)) = A.length + 1
    omega
  have e : A ++ m :: C = (A ++ [m]) ++ C := by simp
  rw [n1, e]
  unfold putAt
  rw [List.take_left, List.drop_left]
  simp
theorem inv_snoc (o : List Str) (y : Str) : ∀ s : List Str, inv o (s ++ [y]) = inv o s + s.countP (fun x => bef o y x)
  | [] => rfl
  | x :: xs => by
    show (xs ++ [y]).countP (fun z => bef o z x) + inv o (xs ++ [y]) = (xs.countP (fun z => bef o z x) + inv o xs) + (x :: xs).countP (fun z => bef o y z)
    rw [inv_snoc o y xs, List.countP_append, List.countP_cons, List.countP_cons, List.countP_nil]
    omega
theorem take_out {o R s : List Str} {y : Str} (hn : o.Nodup) (hs : R.Sublist o) (hp : R.Perm (s ++ [y])) : ∃ B Z : List Str, R = B ++ y :: Z ∧ y ∉ B ∧ (B ++ Z).Sublist o ∧ (B ++ Z).Perm s ∧ inv o (s ++ [y]) = inv o s + Z.length := by
  have hy : y ∈ R := hp.mem_iff.mpr (List.mem_append_right _ List.mem_cons_self)
  obtain ⟨B, Z, e⟩ := List.append_of_mem hy
  subst e
  have nR := hn.sublist hs
  have nA := List.nodup_append.mp nR
  have yB : y ∉ B := fun z => nA.2.2 y z y List.mem_cons_self rfl
  have yZ : y ∉ Z := (List.nodup_cons.mp nA.2.1).1
  have p1 : (B ++ Z).Perm s := (List.perm_middle.symm.trans (hp.trans (List.perm_append_comm (l₁ := s) (l₂ := [y])))).cons_inv
  have s1 : (B ++ Z).Sublist o := (List.Sublist.append (List.Sublist.refl B) (List.sublist_cons_self y Z)).trans hs
  refine ⟨B, Z, rfl, yB, s1, p1, ?_⟩
  rw [inv_snoc, ← p1.countP_eq, List.countP_append]
  have yo : y ∈ o := hs.subset hy
  have c1 : B.countP (fun x => bef o y x) = 0 := List.countP_eq_zero.mpr fun x hx z => by
    have ne : x ≠ y := fun e => yB (e ▸ hx)
    have sub : List.Sublist [x, y] o := (List.Sublist.append (List.singleton_sublist.mpr hx) (List.Sublist.cons_cons y (List.nil_sublist Z))).trans hs
    have lt := (lt_iff hn (s1.subset (List.mem_append_left _ hx)) yo ne).mpr sub
    have := of_decide_eq_true z
    omega
  have c2 : Z.countP (fun x => bef o y x) = Z.length := List.countP_eq_length.mpr fun x hx => decide_eq_true (by
    have ne : y ≠ x := fun e => yZ (e ▸ hx)
    have sub : List.Sublist [y, x] o := ((List.Sublist.cons_cons y (List.singleton_sublist.mpr hx)).trans (List.sublist_append_right B (y :: Z))).trans hs
    exact (lt_iff hn yo (s1.subset (List.mem_append_right _ hx)) ne).mpr sub)
  rw [c1, c2]
  omega
theorem drop_at {α : Type} {l : List α} {k : Nat} {y : α} (h : l[k]? = some y) : l.drop k = y :: l.drop (k + 1) := by
  obtain ⟨h1, h2⟩ := List.getElem?_eq_some_iff.mp h
  exact (List.drop_eq_getElem_cons h1).trans (by rw [h2])
/-- the order after a list of commands -/
def spAfterL : Sp := fun vs H Q _ => ∃ (o l : Addr) (os : List Str) (as : List Addr) (cs : List (Str × Str)), vs = [.ref o, .ref l] ∧ Tn H o (os.map V.str) ∧ H l = some (.lst (as.map V.ref)) ∧ Cmds H as cs ∧ (∀ c, c ∈ cs → c.2 ∈ os) ∧ os.Nodup ∧ os.length ≤ 900 ∧
  ∀ p H', Same H H' → Tn H' p ((runTo os cs cs.length).map V.str) → Q (.ref p) H'
/-- the commands of a stretch -/
def spCmdsOf : Sp := fun vs H Q _ => ∃ (o t : Addr) (os ts : List Str) (a b : Nat), vs = [.ref o, .ref t, .int (a : Int), .int (b : Int)] ∧ Tn H o (os.map V.str) ∧ Tn H t (ts.map V.str) ∧ ts.Perm os ∧ os.Nodup ∧ ts.length ≤ 20 ∧ a < b ∧ b ≤ ts.length ∧
  ∀ (p : Addr) (as : List Addr) (cs : List (Str × Str)) H', Same H H' → Tn H' p (as.map V.ref) → Cmds H' as cs → cs.length = cost os ts a b → cs.foldl moved os = ts → GoodCs os cs → Q (.ref p) H'
end LS
/-! len(set(texts)) -/
namespace LS
open PySem L2 PySem.Spec PyProof.Rows
/-- how many different ones stand among the first i -/
def dis (xs : List Str) : Nat → Nat
  | 0 => 0
  | i + 1 => if (xs.take i).any (· == xs.getD i Str.empty) then dis xs i else dis xs i + 1
theorem dis_le (xs : List Str) : ∀ i, dis xs i ≤ i
  | 0 => Nat.le_refl _
  | i + 1 => by
    have := dis_le xs i
    unfold dis
    split <;> omega
theorem any_next {xs : List Str} {i : Nat} (h : i < xs.length) (z : Str) : ((xs.take i).any (· == z) || decide (z = xs.getD i Str.empty)) = (xs.take (i + 1)).any (· == z) := by
  have e1 : xs.getD i Str.empty = xs[i] := by
    rw [List.getD_eq_getElem?_getD, List.getElem?_eq_getElem h]
    rfl
  have e2 : xs.take (i + 1) = xs.take i ++ [xs[i]] := by
    rw [List.take_add_one, List.getElem?_eq_getElem h]
    rfl
  rw [e1, e2, List.any_append]
  congr 1
  show decide (z = xs[i]) = (xs[i] == z || false)
  rw [Bool.or_false]
  by_cases e : z = xs[i]
  · rw [decide_eq_true e, e]
    exact ((beq_self_eq_true xs[i])).symm
  · rw [decide_eq_false e]
    exact (beq_eq_false_iff_ne.mpr fun z' => e z'.symm).symm
section
variable {prog : Program} {w : World} {A : Around} {I : Addr} {fp wr : List Addr} {G : Array GenState → Array GenState → Prop} {n : Nat} {P : Nat → Value → Prop} {St : Nat → Shared → Prop} {R : Result → Shared → Prop}
theorem set_turns (W : WalksS prog w A.in1 I fp wr G n P St) {S : Addr} (hSf : S ∉ fp) {xs : List Str} (hsz : xs.length = n) (hn1 : n + 1 < scanBound) (hval : ∀ i v, P i v → ∃ t, v = .str (xs.getD i Str.empty) t) :
    ∀ (k i : Nat) (s : Shared), n - i = k → i ≤ n → St i s → s.heap.SetOf (PySem.strKind prog w) S (fun z => (xs.take i).any (· == z)) (dis xs i) →
      (∀ s', Moved (S :: wr) G s s' → s'.heap.SetOf (PySem.strKind prog w) S (fun z => (xs.take n).any (· == z)) (dis xs n) → R (.ok (.ret .none)) s') → codeAny (model prog w) A (.builtin "set.update.loop" ⟨[.ref S, .ref I], []⟩) R s := by
  have notW : S ∉ wr := fun z => hSf (W.sub _ z)
  have more : ∀ b, b ∈ wr → b ∈ S :: wr := fun b z => List.mem_cons_of_mem _ z
  have kept : ∀ {m : Nat} {T : Str → Bool} {s s' : Shared}, Moved wr G s s' → s.heap.SetOf (PySem.strKind prog w) S T m → s'.heap.SetOf (PySem.strKind prog w) S T m := fun hm ⟨o, es, ep, t, ho, rest⟩ => ⟨o, es, ep, t, hm.heap S _ notW ho, rest⟩
  intro k
  induction k with
  | zero =>
    intro i s hk hi hst hS done
    have ein : i = n := by omega
    subst ein
    refine codeAny_builtin PyProof.Rows.F.entry_set_update_loop (Around.under_plainId PyProof.Rows.F.plain_set_update_loop _ ▸ ?_)
    show wpAny _ A.in1 (pyNext (.ref I) >>= _) _ _ s; refine wpAny_bind (W.done s _ _ hst fun s' hm => ?_); show wpAny _ A.in1 (ret Value.none) _ _ s'
    exact wpAny_pure (done s' (hm.mono more) (kept hm hS))
  | succ k ih =>
    intro i s hk hi hst hS done
    have lt : i < n := by omega
    refine codeAny_builtin PyProof.Rows.F.entry_set_update_loop (Around.under_plainId PyProof.Rows.F.plain_set_update_loop _ ▸ ?_)
    show wpAny _ A.in1 (pyNext (.ref I) >>= _) _ _ s; refine wpAny_bind (W.item i s _ _ lt hst fun v s1 hP hst1 hm => ?_)
    obtain ⟨tk, ev⟩ := hval i v hP
    subst ev
    show wpAny _ A.in1 (holding [Value.str (xs.getD i Str.empty) tk] (setAdd S (.str (xs.getD i Str.empty) tk)) >>= _) _ _ s1
    refine wpAny_bind (wpAny_holding ?_); unfold setAdd
    refine wpAny_holding (wpAny_bind ((PySem.strKind prog w).pyHash (k := xs.getD i Str.empty) (strKind_is _ _ _ _) ?_))
    have b1 := dis_le xs i
    have hK := kept hm hS
    refine wpAny_setAddHashed_of (knd := PySem.strKind prog w) (s := { s1 with toks := s1.toks + 1 }) (strKind_is _ _ _ _) rfl hK (by omega) fun h2 sb hS2 => ?_
    have hS3 : h2.SetOf (PySem.strKind prog w) S (fun z => (xs.take (i + 1)).any (· == z)) (dis xs (i + 1)) := SetOf_congr hS2 (fun z => any_next (by omega) z) rfl
    refine wpAny_pure ⟨plainId_quiet PyProof.Rows.F.plain_set_update_loop _, ih (i + 1) _ (by omega) lt (W.frame _ s1 _ _ hst1 (Nat.le_succ _) fun b hb o e => ?_) hS3 fun s4 hm4 hS4 => ?_⟩
    · exact (sb.2 b (fun z : b = S => hSf (z ▸ hb))).trans e
    · exact done s4 (Moved.trans W.gtrans ((hm.mono more).then_heap (Nat.le_succ _) fun b o hb e => (sb.2 b (fun z : b = S => hb (z ▸ List.mem_cons_self))).trans e) hm4) hS4
end
section
variable {prog : Program} {w : World} {s : Shared} {A : Around} {E : Value → Shared → Prop}
abbrev setOb (led : Bool) : Obj := { cls := .type "set", dict := none, data := .set #[] 0 (.fresh 0 0 led) }
set_option maxHeartbeats 3000000 in
theorem set_of_list {l : Addr} {items : Array Value} {xs : List Str} {Q : Value → Shared → Prop} (hh : A.handled = none) (hl : s.heap.IsList l items) (hi : StrsAre items.toList xs) (hb : xs.length + 1 < scanBound)
    (h : ∀ (g : Heap) (tk : Nat), g.SetOf (PySem.strKind prog w) s.heap.objs.size (fun z => (xs.take xs.length).any (· == z)) (dis xs xs.length) → (∀ b o, b < s.heap.objs.size → s.heap.get? b = some o → g.get? b = some o) → Q (.ref s.heap.objs.size) { s with heap := g, toks := tk }) :
    wpAny (model prog w) A (call (.type "set") [Value.ref l]) Q E s := by
  have hsz : xs.length = items.size := (StrsAre.len_eq hi).symm.trans Array.length_toList
  obtain ⟨_, _, hmro⟩ := PySem.F.called_set.mro
  have mad := PySem.F.called_set.made; have sbt := PySem.F.called_set.sub
  have notT := PySem.F.called_set.notType
  have canC := PySem.F.called_set.canCreate
  have okC := PySem.F.typeCall_set_1 (.ref l)
  refine wpAny_call (codeAny_of_tree (show wpAny _ _ (callAny (.type "set") _) _ _ _ from wpAny_pure ⟨Code.quiet_builtin _ (by decide +kernel), codeAny_builtin PySem.F.entry_type_call ?_⟩))
  rw [Around.under_plain (weight_type_call_type "set" [Value.ref l] []) rfl]
  repeat (any_goals (first | wp_step | assumption))
  refine codeAny_mono (code_set_new_1 (.ref l) (E := E) (Q₁ := fun v g => ∃ led : Bool, v = .ref s.heap.objs.size ∧ g = { s with heap := s.heap.push (setOb led) }) fun led => ⟨led, rfl, rfl⟩) fun r s1 hr => ?_
  match r, hr with
  | .error e, hr => exact hr
  | .ok .next, hr => exact hr.elim
  | .ok .brk, hr => exact hr.elim
  | .ok .cont, hr => exact hr.elim
  | .ok (.ret v), ⟨led, ev, es⟩ =>
    subst ev es
    have gS : (s.heap.push (setOb led)).get? s.heap.objs.size = some (setOb led) := Heap.get?_push_size _ rfl
    have tS : Shared.TypeIs { s with heap := s.heap.push (setOb led) } (.ref s.heap.objs.size) "set" := ⟨_, gS, rfl⟩
    have look := PySem.F.called_set.init.lookup
    have bnd := PySem.F.called_set.init.bind (.ref s.heap.objs.size)
    repeat (any_goals (first | wp_step | assumption))
    refine codeAny_mono (codeAny_call_builtin (R := wants (fun r g => r = .none ∧ ∃ (h2 : Heap) (tk : Nat), g = { s with heap := h2, toks := tk } ∧ h2.SetOf (PySem.strKind prog w) s.heap.objs.size (fun z => (xs.take xs.length).any (· == z)) (dis xs xs.length) ∧ ∀ b o, b < s.heap.objs.size → s.heap.get? b = some o → h2.get? b = some o) E) PySem.F.called_set.init.plain PySem.F.entry_set_init (check_set_init_1 tS ?_)) fun r2 s2 hr2 => ?_
    · obtain ⟨ol, gl, cl, nl, dl⟩ := hl
      obtain ⟨c0, d0, x0, sl0⟩ := ol
      replace cl : c0 = .type "list" := cl
      replace dl : x0 = .seq items nl := dl
      subst cl dl
      have gl1 : (s.heap.push (setOb led)).get? l = some { cls := .type "list", dict := d0, data := .seq items nl, slots := sl0 } := Heap.get?_push_of_some _ gl
      have f1 := PySem.F.sub_list_set
      have f2 := PySem.F.sub_list_frozenset
      have f3 : (Value.type "list" == Value.type "dict") = false := by decide
      have il1 : (s.heap.push (setOb led)).IsList l items := ⟨_, gl1, rfl, nl, rfl⟩
      unfold Builtin.«set.__init__» noKeywords Builtin.Frozenset.updateFrom; generalize hPI : pyIter = PI
      wp_walk
      subst hPI
      refine wpAny_pyIter_list il1 (wpAny_bind (wpAny_runValue ?_))
      have lS : l < s.heap.objs.size := Heap.lt_size gl
      have sz1 : (s.heap.push (setOb led)).objs.size = s.heap.objs.size + 1 := Heap.size_push ..
      have ne1 : l ≠ (s.heap.push (setOb led)).objs.size := by rw [sz1]; exact Nat.ne_of_lt (Nat.lt_succ_of_lt lS)
      have nfp : s.heap.objs.size ∉ [(s.heap.push (setOb led)).objs.size, l] := by
        rw [sz1]
        intro z
        rcases List.mem_cons.mp z with z0 | z
        · exact absurd z0 (Nat.ne_of_lt (Nat.lt_succ_self _))
        · exact absurd (List.mem_singleton.mp z) (Nat.ne_of_gt lS)
      refine set_turns ((Walks.list (show A.in1.in1.in1.handled = none by simp [hh]) _ l ne1 items).toS) nfp hsz (by omega) (fun i v hv => SS.strs_at hi i v (by rw [Array.getElem?_toList]; exact hv)) items.size 0 _ (Nat.sub_zero _) (Nat.zero_le _) ⟨⟨_, Heap.get?_push_size _ rfl, rfl, rfl⟩, il1.push _⟩ ?_ ?_
      · exact SetOf_congr ((PyProof.Rows.setObjOf_fresh (knd := PySem.strKind prog w) led).setOf (Heap.get?_push_of_some _ gS) (by unfold scanBound; omega)) (fun _ => rfl) rfl
      · intro s3 hm hS3
        obtain ⟨g3, gs3, dr3, tk3, os3⟩ := s3
        obtain rfl : gs3 = s.gens := hm.gens
        obtain rfl : dr3 = s.drawn := hm.drawn
        obtain rfl : os3 = s.os := hm.os
        rw [← hsz] at hS3
        refine wpAny_pure (show wpAny _ _ (ret Value.none) _ _ _ from wpAny_pure ⟨rfl, g3, tk3, rfl, hS3, fun b o hb e => ?_⟩)
        refine hm.heap b o (fun z => ?_) (Heap.get?_push_of_some _ (Heap.get?_push_of_some _ e))
        rcases List.mem_cons.mp z with z0 | z
        · exact absurd z0 (Nat.ne_of_lt hb)
        · exact absurd (List.mem_singleton.mp z) (Nat.ne_of_lt (by rw [sz1]; exact Nat.lt_succ_of_lt hb))
    · match r2, hr2 with
      | .error e, hr2 => exact hr2
      | .ok .next, hr2 => exact hr2.elim
      | .ok .brk, hr2 => exact hr2.elim
      | .ok .cont, hr2 => exact hr2.elim
      | .ok (.ret v), ⟨ev, h2, tk, es, hS, hk⟩ =>
        subst ev es
        repeat (any_goals (first | wp_step | assumption))
        exact h _ _ hS hk
end
section
variable {X : Cx}
/-- len(set(xs)), xs a list of texts -/
def tLenSetS (K : PySem.W.Frag) (ta : TE) : TE := fun σ H Q => ta σ H fun x H1 => ∃ (l : Addr) (xs : List Str), x = .ref l ∧ SqL K H1 l (xs.map V.str) ∧ xs.length ≤ 1000 ∧ Q (.int (dis xs xs.length : Nat)) H1
theorem pe_lenSetS {a : Expr} {ta : TE} {p p2 q pos : Pos} (hc : X.calm = true) (hg : Gl X "len") (hm : X.mg "len" = none) (hg2 : Gl X "set") (hm2 : X.mg "set" = none) (ha : PE X a ta)
    (na : starEach [a] X.env = (false, eval a X.env) :: starEach [] X.env := by rfl) : PE X (.Call (.Name "len" p) [.Call (.Name "set" p2) [a] [] q] [] pos) (tLenSetS X.K ta) := by
  refine ⟨fun pins s σ H Q I h => Call_ (ld_blt I hg hm boot_len (PyProof.Rows.callWith_builtin1 (PyProof.Rows.args_cons (Call_ (ld_blt I hg2 hm2 boot_set ?_)) rfl) rfl rfl))⟩
  refine PyProof.Rows.callWith_type1 (PyProof.Rows.args_cons (thn (ha.run pins s σ H _ I h) fun u s1 ⟨x, H1, I1, r1, q1⟩ => PyProof.Rows.args_nil ?_) na) na rfl
  obtain ⟨l, xs, ex, hq, hb, q1⟩ := q1
  subst ex
  cases r1
  obtain ⟨its, rr, pl, _⟩ := I1.list hq
  refine set_of_list (I1.ok.hd hc) pl.isList (by simpa using strsAre_of rr) (by unfold scanBound; omega) fun g tk hS hk => PyProof.Rows.args_nil ?_
  have b1 := dis_le xs xs.length
  obtain ⟨o, es, ep, t, ho, hex, hd, _, _, _, hf, en⟩ := hS
  have I2 : Inv X pins σ H1 { s1 with heap := g, toks := tk } := I1.kept fun b o e => hk b o (Heap.lt_size e) e
  exact call_len_set ho hex hd hf (by rw [en] <;> omega) ⟨.int (dis xs xs.length : Nat), H1, I2.tok _, ⟨_, by rw [en]⟩, q1⟩
end
end LS
/-! bounds of a distance: pairs, ascending stretches, layers that were moved to the ends -/
namespace LS
open PySem L2 PySem.Spec PyProof.Rows LamX
theorem dist_pairs {o t : List Str} {d : Nat} (h0 : 0 < t.length) (h : IsDist o t d) : d ≤ inv o t := by
  have k := h.2 0 t.length h0 (Nat.le_refl _)
  unfold cost at k
  rw [List.drop_zero, Nat.sub_zero, List.take_of_length_le (Nat.le_refl t.length)] at k
  omega
/-- each stands in o before the next -/
def Asc (o : List Str) (s : List Str) : Prop := ∀ k x y, s[k]? = some x → s[k + 1]? = some y → idx o x < idx o y
theorem Asc.tail {o s : List Str} {x : Str} (h : Asc o (x :: s)) : Asc o s := fun k y z e1 e2 => h (k + 1) y z e1 e2
theorem Asc.head {o : List Str} : ∀ {s : List Str} {x : Str}, Asc o (x :: s) → ∀ y, y ∈ s → idx o x < idx o y
  | [], x, _, y, hy => by cases hy
  | z :: s, x, h, y, hy => by
    have h1 := h 0 x z rfl rfl
    rcases List.mem_cons.mp hy with e0 | e
    · rw [e0]
      exact h1
    · exact Nat.lt_trans h1 (Asc.head h.tail y e)
theorem Asc.inv {o : List Str} : ∀ {s : List Str}, Asc o s → inv o s = 0
  | [], _ => rfl
  | x :: s, h => by
    have c : s.countP (fun y => bef o y x) = 0 := List.countP_eq_zero.mpr fun y hy z => by
      have h1 := h.head y hy
      have h2 := of_decide_eq_true z
      omega
    show s.countP _ + LS.inv o s = 0
    rw [c, Asc.inv h.tail]
/-- of t the stretch of m layers from a -/
abbrev cutOf (t : List Str) (a m : Nat) : List Str := (t.drop a).take m
theorem Asc.one {o t : List Str} {a : Nat} : Asc o (cutOf t a 1) := fun k x y e1 e2 => by
  rw [List.getElem?_take_of_lt (by
    have := (List.getElem?_eq_some_iff.mp e1).1
    rw [List.length_take] at this
    omega)] at e1
  have h2 := (List.getElem?_eq_some_iff.mp e2).1
  rw [List.length_take] at h2
  omega
theorem Asc.more {o t : List Str} {a m : Nat} {x y : Str} (h : Asc o (cutOf t a m)) (hm : 0 < m) (e1 : t[a + m - 1]? = some x) (e2 : t[a + m]? = some y) (lt : idx o x < idx o y) : Asc o (cutOf t a (m + 1)) := fun k u v f1 f2 => by
  have h2 := (List.getElem?_eq_some_iff.mp f2).1
  rw [List.length_take] at h2
  rw [List.getElem?_take_of_lt (by omega), List.getElem?_drop] at f1
  rw [List.getElem?_take_of_lt (by omega), List.getElem?_drop] at f2
  by_cases e : k + 1 = m
  · rw [show a + k = a + m - 1 by omega, e1] at f1
    rw [show a + (k + 1) = a + m by omega, e2] at f2
    rw [← Option.some.inj f1, ← Option.some.inj f2]
    exact lt
  · refine h k u v ?_ ?_
    · rw [List.getElem?_take_of_lt (by omega), List.getElem?_drop]
      exact f1
    · rw [List.getElem?_take_of_lt (by omega), List.getElem?_drop]
      exact f2
theorem dist_asc {o t : List Str} {a m d : Nat} (h : IsDist o t d) (hm : 0 < m) (hb : a + m ≤ t.length) (ha : Asc o (cutOf t a m)) : d ≤ t.length - m := by
  have k := h.2 a (a + m) (by omega) hb
  unfold cost at k
  rw [show a + m - a = m by omega] at k
  have z : inv o ((t.drop a).take m) = 0 := Asc.inv ha
  omega
/-! ### front and back alone -/
theorem ends_form {o : List Str} {cs : List (Str × Str)} (hn : o.Nodup) (hw : ∀ c, c ∈ cs → c.1 = "front" ∨ c.1 = "back") (hg : ∀ c, c ∈ cs → c.2 ∈ o) : ∀ i, i ≤ cs.length → ∃ F B : List Str, runTo o cs i = F ++ o.filter (fun y => !decide (y ∈ (cs.take i).map Prod.snd)) ++ B
  | 0, _ => by
    refine ⟨[], [], ?_⟩
    have e : o.filter (fun y => !decide (y ∈ (cs.take 0).map Prod.snd)) = o := filter_self fun y _ => by simp
    rw [e]
    simp [runTo]
  | i + 1, hi => by
    obtain ⟨F, B, e⟩ := ends_form hn hw hg i (by omega)
    have ec : cs[i]? = some cs[i] := List.getElem?_eq_getElem hi
    have pm := run_perm hg i
    have hc : cs[i].2 ∈ runTo o cs i := pm.mem_iff.mpr (hg _ (List.getElem_mem hi))
    have out : outOf (runTo o cs i) cs[i].2 = F.filter (fun x => !decide (x = cs[i].2)) ++ o.filter (fun y => !decide (y ∈ (cs.take (i + 1)).map Prod.snd)) ++ B.filter (fun x => !decide (x = cs[i].2)) := by
      rw [← filter_out (pm.nodup_iff.mpr hn) hc, e, List.filter_append, List.filter_append, List.filter_filter]
      congr 2
      refine List.filter_congr fun y _ => ?_
      rw [take_snoc ec, List.map_append]
      by_cases h1 : y = cs[i].2 <;> by_cases h2 : y ∈ (cs.take i).map Prod.snd <;> simp [h1, h2]
    rw [run_succ ec]
    rcases hw _ (List.getElem_mem hi) with w | w
    · have ep : cs[i] = (("front", cs[i].2) : Str × Str) := by
        rw [← w]
      rw [ep, moved_front]
      exact ⟨cs[i].2 :: F.filter (fun x => !decide (x = cs[i].2)), B.filter (fun x => !decide (x = cs[i].2)), by rw [out]; rfl⟩
    · have ep : cs[i] = (("back", cs[i].2) : Str × Str) := by
        rw [← w]
      rw [ep, moved_back]
      refine ⟨F.filter (fun x => !decide (x = cs[i].2)), B.filter (fun x => !decide (x = cs[i].2)) ++ [cs[i].2], ?_⟩
      show outOf (runTo o cs i) cs[i].2 ++ [cs[i].2] = _
      rw [out, List.append_assoc]
theorem dist_ends {o t : List Str} {cs : List (Str × Str)} {d : Nat} (hn : o.Nodup) (h0 : 0 < o.length) (hw : ∀ c, c ∈ cs → c.1 = "front" ∨ c.1 = "back") (hg : ∀ c, c ∈ cs → c.2 ∈ o) (ht : runTo o cs cs.length = t) (h : IsDist o t d) : d ≤ (o.filter (fun y => decide (y ∈ cs.map Prod.snd))).length := by
  obtain ⟨F, B, e⟩ := ends_form hn hw hg cs.length (Nat.le_refl _)
  rw [ht, List.take_of_length_le (Nat.le_refl cs.length)] at e
  have pm := run_perm hg cs.length
  rw [ht] at pm
  have two : (o.filter (fun y => decide (y ∈ cs.map Prod.snd))).length + (o.filter (fun y => !decide (y ∈ cs.map Prod.snd))).length = o.length := by
    have k := List.length_eq_countP_add_countP (l := o) (fun y => decide (y ∈ cs.map Prod.snd))
    rw [k, List.countP_eq_length_filter, List.countP_eq_length_filter]
    congr 2
    refine List.filter_congr fun y _ => ?_
    simp
  generalize hL : o.filter (fun y => !decide (y ∈ cs.map Prod.snd)) = L at e two
  have sub : L.Sublist o := by
    rw [← hL]
    exact List.filter_sublist
  have tl : t.length = o.length := pm.length_eq
  have k0 := dist_lt (by omega) h
  cases L with
  | nil =>
    have z : (([] : List Str)).length = 0 := rfl
    omega
  | cons x r =>
    have hlen : t.length = F.length + (x :: r).length + B.length := by
      rw [e, List.length_append, List.length_append]
    have k := h.2 F.length (F.length + (x :: r).length) (by rw [List.length_cons]; omega) (by omega)
    unfold cost at k
    rw [show F.length + (x :: r).length - F.length = (x :: r).length by omega] at k
    have seg : (t.drop F.length).take (x :: r).length = x :: r := by
      rw [e, List.append_assoc, List.drop_left, List.take_left]
    rw [seg, inv_sub hn sub] at k
    omega
theorem mem_next {xs : List Str} {i : Nat} {x y : Str} (h : xs[i]? = some x) : y ∈ xs.take (i + 1) ↔ y ∈ xs.take i ∨ y = x := by
  rw [take_snoc h, List.mem_append, List.mem_singleton]
theorem dis_filter {o xs : List Str} (hn : o.Nodup) : ∀ i, i ≤ xs.length → (o.filter (fun y => decide (y ∈ xs.take i))).length ≤ dis xs i
  | 0, _ => by
    have e : o.filter (fun y => decide (y ∈ xs.take 0)) = [] := List.filter_eq_nil_iff.mpr fun y _ => by simp
    rw [e]
    exact Nat.le_refl _
  | i + 1, hi => by
    have ih := dis_filter (xs := xs) hn i (by omega)
    have ex : xs[i]? = some xs[i] := List.getElem?_eq_getElem hi
    have eD : xs.getD i Str.empty = xs[i] := by
      rw [List.getD_eq_getElem?_getD, ex]
      rfl
    show _ ≤ (if (xs.take i).any (· == xs.getD i Str.empty) then dis xs i else dis xs i + 1)
    rw [eD]
    by_cases hm : (xs.take i).any (· == xs[i]) = true
    · rw [if_pos hm]
      have mem : xs[i] ∈ xs.take i := by
        obtain ⟨y, hy, e⟩ := List.any_eq_true.mp hm
        rw [← eq_of_beq e]
        exact hy
      have e : o.filter (fun y => decide (y ∈ xs.take (i + 1))) = o.filter (fun y => decide (y ∈ xs.take i)) := List.filter_congr fun y _ => by
        refine decide_eq_decide.mpr ((mem_next ex).trans ⟨fun z => ?_, .inl⟩)
        rcases z with z | z
        · exact z
        · exact z ▸ mem
      rw [e]
      exact ih
    · rw [if_neg hm, ← List.countP_eq_length_filter]
      rw [← List.countP_eq_length_filter] at ih
      have k := countP_one (p := fun y => decide (y ∈ xs.take (i + 1))) (q := fun y => decide (y ∈ xs.take i)) (m := xs[i]) hn fun y _ hne => decide_eq_decide.mpr ((mem_next ex).trans ⟨fun z => z.resolve_right hne, .inl⟩)
      omega
theorem dist_set {o t : List Str} {cs : List (Str × Str)} {d : Nat} (hn : o.Nodup) (h0 : 0 < o.length) (hw : ∀ c, c ∈ cs → c.1 = "front" ∨ c.1 = "back") (hg : ∀ c, c ∈ cs → c.2 ∈ o) (ht : runTo o cs cs.length = t) (h : IsDist o t d) : d ≤ dis (cs.map Prod.snd) (cs.map Prod.snd).length := by
  have k1 := dist_ends hn h0 hw hg ht h
  have k2 := dis_filter (xs := cs.map Prod.snd) hn (cs.map Prod.snd).length (Nat.le_refl _)
  rw [List.take_of_length_le (Nat.le_refl (cs.map Prod.snd).length)] at k2
  exact Nat.le_trans k1 k2
/-! ### zip of two tuples -/
theorem walk_zipT {K : PySem.W.Frag} {a b : Addr} {xs ys : List V} {n : Nat} (hn : n = min xs.length ys.length) : Walk (RZ.ItzT K a b) n (fun H => SqT K H a xs ∧ SqT K H b ys) (YPair (fun i => xs[i]?) (fun i => ys[i]?)) := by
  refine ⟨fun i _ hi q => ⟨xs, ys, xs[i]'(by omega), ys[i]'(by omega), q.1, q.2, List.getElem?_eq_getElem _, List.getElem?_eq_getElem _⟩, fun _ q => ⟨xs, ys, q.1, q.2, by omega⟩, fun i H v H' _ q y => ?_⟩
  obtain ⟨T, x, z, k1, k2, k3, k4, k5⟩ := y
  exact ⟨T, x, z, k1, k2, k3, k4 xs q.1, k5 ys q.2⟩
/-- the number of pairs that stand the other way round -/
def spPairs : Sp := fun vs H Q _ => ∃ (o t : Addr) (os ts : List Str), vs = [.ref o, .ref t] ∧ Tn H o (os.map V.str) ∧ Tn H t (ts.map V.str) ∧ (∀ x, x ∈ ts → x ∈ os) ∧ ts.length ≤ 100 ∧ ∀ H', Same H H' → Q (.int (inv os ts : Int)) H'
/-- the length of an ascending stretch -/
def spLongest : Sp := fun vs H Q _ => ∃ (o t : Addr) (os ts : List Str), vs = [.ref o, .ref t] ∧ Tn H o (os.map V.str) ∧ Tn H t (ts.map V.str) ∧ (∀ x, x ∈ ts → x ∈ os) ∧ 0 < ts.length ∧ ts.length ≤ 100 ∧
  ∀ (a m : Nat) H', Same H H' → 0 < m → a + m ≤ ts.length → Asc os (cutOf ts a m) → Q (.int (m : Int)) H'
end LS
set_option maxHeartbeats 2100000
/-! wished first layers: no order that begins with them is nearer than the targets that are looked at -/
namespace LS
open PySem L2 PySem.Spec PyProof.Rows LamX
def crossI (o A S : List Str) : Nat := (A.map fun x => S.countP fun y => bef o y x).sum
theorem inv_cross (o S : List Str) : ∀ A : List Str, inv o (A ++ S) = inv o A + crossI o A S + inv o S
  | [] => by
    show inv o S = 0 + 0 + inv o S
    omega
  | x :: A => by
    show (A ++ S).countP (fun y => bef o y x) + inv o (A ++ S) = A.countP (fun y => bef o y x) + inv o A + crossI o (x :: A) S + inv o S
    rw [List.countP_append, inv_cross o S A]
    have e : crossI o (x :: A) S = S.countP (fun y => bef o y x) + crossI o A S := rfl
    omega
theorem cross_ge {o A S : List Str} {x : Str} (hx : x ∈ A) : S.countP (fun y => bef o y x) ≤ crossI o A S := by
  induction A with
  | nil => exact nomatch hx
  | cons z A ih =>
    have e : crossI o (z :: A) S = S.countP (fun y => bef o y z) + crossI o A S := rfl
    rw [e]
    rcases List.mem_cons.mp hx with q | q
    · rw [q]
      omega
    · have := ih q
      omega
theorem cross_zero {o A S : List Str} (h : ∀ x, x ∈ A → ∀ y, y ∈ S → idx o x ≤ idx o y) : crossI o A S = 0 := by
  induction A with
  | nil => rfl
  | cons z A ih =>
    have e : crossI o (z :: A) S = S.countP (fun y => bef o y z) + crossI o A S := rfl
    rw [e, ih fun x hx => h x (List.mem_cons_of_mem _ hx), List.countP_eq_zero.mpr fun y hy c => ?_]
    have c' : idx o y < idx o z := of_decide_eq_true c
    have := h z List.mem_cons_self y hy
    omega
/-- behind all of A -/
theorem behind (o : List Str) : ∀ A : List Str, (∀ x, x ∈ A → x ∈ o) → ∃ i, i ≤ o.length ∧ (∀ x, x ∈ A → idx o x < i) ∧ (i = 0 ∨ ∃ x, x ∈ A ∧ idx o x + 1 = i)
  | [], _ => ⟨0, Nat.zero_le _, (fun x h => nomatch h), .inl rfl⟩
  | z :: A, h => by
    obtain ⟨i, h1, h2, h3⟩ := behind o A fun x hx => h x (List.mem_cons_of_mem _ hx)
    have hz := idx_lt (h z List.mem_cons_self)
    by_cases c : idx o z < i
    · refine ⟨i, h1, fun x hx => ?_, h3.imp id fun ⟨x, hx, e⟩ => ⟨x, List.mem_cons_of_mem _ hx, e⟩⟩
      rcases List.mem_cons.mp hx with q | q
      · rw [q]
        exact c
      · exact h2 x q
    · refine ⟨idx o z + 1, hz, fun x hx => ?_, .inr ⟨z, List.mem_cons_self, rfl⟩⟩
      rcases List.mem_cons.mp hx with q | q
      · rw [q]
        omega
      · have := h2 x q
        omega
theorem idx_drop {o : List Str} (hn : o.Nodup) {i : Nat} {y : Str} (h : y ∈ o.drop i) : i ≤ idx o y := by
  rcases Nat.lt_or_ge (idx o y) i with c | c
  · have hy : y ∈ o := List.mem_of_mem_drop h
    have e : o = o.take i ++ o.drop i := (List.take_append_drop i o).symm
    have h1 : y ∈ o.take i := by
      rw [List.mem_iff_getElem?]
      exact ⟨idx o y, by rw [List.getElem?_take_of_lt c]; exact idx_at hy⟩
    rw [e] at hn
    exact absurd rfl ((List.nodup_append.mp hn).2.2 y h1 y h)
  · exact c
theorem drop_idx {o : List Str} {i : Nat} {y : Str} (hy : y ∈ o) (h : i ≤ idx o y) : y ∈ o.drop i := by
  rw [List.mem_iff_getElem?]
  refine ⟨idx o y - i, ?_⟩
  rw [List.getElem?_drop, show i + (idx o y - i) = idx o y by omega]
  exact idx_at hy
theorem count_split {S : List Str} (p : Str → Bool) : S.length = (S.filter p).length + S.countP fun y => !p y := by
  induction S with
  | nil => rfl
  | cons x S ih =>
    rw [List.filter_cons, List.countP_cons, List.length_cons]
    cases h : p x with
    | true =>
      simp only [if_true, List.length_cons, Bool.not_true, Bool.false_eq_true, if_false]
      omega
    | false =>
      simp only [Bool.false_eq_true, if_false, Bool.not_false, if_true]; omega
theorem tgt_len {os ts : List Str} {i : Nat} (hn : os.Nodup) (ht : ts.Nodup) (hin : ∀ x, x ∈ ts → x ∈ os) : (tgt os ts i).length = os.length := (tgt_perm hn ht hin).length_eq
theorem top_best {os ts R : List Str} {d : Nat} (hn : os.Nodup) (hp : (ts ++ R).Perm os) (hd : IsDist os (ts ++ R) d) : ∃ i, i ≤ os.length ∧ ∀ e, IsDist os (tgt os ts i) e → e ≤ d := by
  obtain ⟨⟨a, b, hab, hb, hc⟩, _⟩ := hd
  have hqn : (ts ++ R).Nodup := hp.nodup_iff.mpr hn
  have htn : ts.Nodup := (List.nodup_append.mp hqn).1
  have hRn : R.Nodup := (List.nodup_append.mp hqn).2.1
  have apart : ∀ x, x ∈ ts → ∀ y, y ∈ R → x ≠ y := (List.nodup_append.mp hqn).2.2
  have hin : ∀ x, x ∈ ts → x ∈ os := fun x hx => hp.mem_iff.mp (List.mem_append_left _ hx)
  have hRin : ∀ x, x ∈ R → x ∈ os := fun x hx => hp.mem_iff.mp (List.mem_append_right _ hx)
  have ql : (ts ++ R).length = os.length := hp.length_eq
  have qs : ts.length + R.length = os.length := by rw [← ql, List.length_append]
  have tl : ∀ i, (tgt os ts i).length = os.length := fun i => tgt_len hn htn hin
  rcases Nat.lt_or_ge ts.length b with c | c
  · have sg : ((ts ++ R).drop a).take (b - a) = ts.drop a ++ (R.drop (a - ts.length)).take (b - a - (ts.drop a).length) := by
      rw [List.drop_append, List.take_append]
      congr 1
      exact List.take_of_length_le (show (ts.drop a).length ≤ b - a by rw [List.length_drop]; omega)
    unfold cost at hc
    rw [sg] at hc
    have hS : ∀ y, y ∈ (R.drop (a - ts.length)).take (b - a - (ts.drop a).length) → y ∈ R := fun y hy => List.mem_of_mem_drop (List.mem_of_mem_take hy)
    have hSn : ((R.drop (a - ts.length)).take (b - a - (ts.drop a).length)).Nodup := (hRn.sublist (List.drop_sublist _ _)).sublist (List.take_sublist _ _)
    have hSl : (ts.drop a).length + ((R.drop (a - ts.length)).take (b - a - (ts.drop a).length)).length = b - a := by
      rw [List.length_take, List.length_drop, List.length_drop]
      omega
    have hA : ∀ x, x ∈ ts.drop a → x ∈ ts := fun x hx => List.mem_of_mem_drop hx
    generalize (R.drop (a - ts.length)).take (b - a - (ts.drop a).length) = S at hc hS hSn hSl
    obtain ⟨i, hi, hlt, hmax⟩ := behind os (ts.drop a) fun x hx => hin x (hA x hx)
    refine ⟨i, hi, fun e he => ?_⟩
    have hW : ∀ y, y ∈ wout (os.drop i) ts → y ∈ os.drop i ∧ y ∉ ts := fun y hy => by
      obtain ⟨h1, h2⟩ := List.mem_filter.mp hy
      exact ⟨h1, by simpa using h2⟩
    have iW : inv os (wout (os.drop i) ts) = 0 := inv_sub hn (List.filter_sublist.trans (List.drop_sublist _ _))
    have cW : crossI os (ts.drop a) (wout (os.drop i) ts) = 0 := cross_zero fun x hx y hy => by
      have h1 := hlt x hx
      have h2 := idx_drop hn (hW y hy).1
      omega
    -- how many of the stretch stand behind that place
    have big : S.length ≤ (wout (os.drop i) ts).length + crossI os (ts.drop a) S := by
      rw [count_split (S := S) fun y => decide (i ≤ idx os y)]
      have f1 : (S.filter fun y => decide (i ≤ idx os y)).length ≤ (wout (os.drop i) ts).length := by
        refine List.Nodup.length_le_of_subset (hSn.filter _) fun y hy => ?_
        obtain ⟨h1, h2⟩ := List.mem_filter.mp hy
        refine List.mem_filter.mpr ⟨drop_idx (hRin y (hS y h1)) (of_decide_eq_true h2), ?_⟩
        have nin : y ∉ ts := fun z => apart y z y (hS y h1) rfl
        simpa using nin
      have f2 : (S.countP fun y => !decide (i ≤ idx os y)) ≤ crossI os (ts.drop a) S := by
        rcases hmax with z | ⟨x, hx, ex⟩
        · subst z
          rw [List.countP_eq_zero.mpr fun y _ c => by simp at c]
          exact Nat.zero_le _
        · refine Nat.le_trans (List.countP_mono_left fun y hy c => ?_) (cross_ge hx)
          have c1 : idx os y < i := by simpa using c
          have ne : idx os y ≠ idx os x := fun z => by
            have e1 := idx_at (hRin y (hS y hy))
            rw [z, idx_at (hin x (hA x hx))] at e1
            exact apart x (hA x hx) y (hS y hy) (Option.some.inj e1)
          exact decide_eq_true (show idx os y < idx os x by omega)
      omega
    clear hmax hlt
    have tdl : (ts.drop a).length = ts.length - a := List.length_drop ..
    have pos : 0 < (ts.drop a).length + (wout (os.drop i) ts).length := by
      rcases Nat.eq_zero_or_pos (ts.drop a).length with z | z
      · have e0 : ts.drop a = [] := List.eq_nil_of_length_eq_zero z
        have e1 : crossI os (ts.drop a) S = 0 := by rw [e0]; rfl
        omega
      · omega
    have wl : ts.length + (wout (os.drop i) ts).length ≤ os.length := by
      have h1 := tl i
      unfold tgt at h1
      rw [List.length_append, List.length_append] at h1
      omega
    have sg2 : ((tgt os ts i).drop (min a ts.length)).take (ts.length + (wout (os.drop i) ts).length - min a ts.length) = ts.drop a ++ wout (os.drop i) ts := by
      unfold tgt
      rw [List.append_assoc, List.drop_append_of_le_length (Nat.min_le_right _ _)]
      have e1 : ts.drop (min a ts.length) = ts.drop a := by
        rcases Nat.lt_or_ge ts.length a with z | z
        · rw [Nat.min_eq_right (by omega), List.drop_eq_nil_of_le (Nat.le_refl _), List.drop_eq_nil_of_le (by omega)]
        · rw [Nat.min_eq_left z]
      rw [e1, ← List.append_assoc]
      refine List.take_left' ?_
      rw [List.length_append, tdl]
      omega
    have le := he.2 (min a ts.length) (ts.length + (wout (os.drop i) ts).length) (by omega) (by rw [tl]; exact wl)
    unfold cost at le
    rw [sg2, inv_cross, iW, cW, tl] at le
    rw [inv_cross, ql] at hc
    omega
  · refine ⟨0, Nat.zero_le _, fun e he => ?_⟩
    have sg : ∀ Z : List Str, ((ts ++ Z).drop a).take (b - a) = (ts.drop a).take (b - a) := fun Z => by
      rw [List.drop_append_of_le_length (by omega), List.take_append_of_le_length (by rw [List.length_drop]; omega)]
    have le := he.2 a b hab (by rw [tl]; omega)
    unfold cost at le hc
    have e1 : tgt os ts 0 = ts ++ (wout (os.drop 0) ts ++ wout (os.take 0) ts) := List.append_assoc ..
    rw [tl, e1, sg] at le
    rw [ql, sg] at hc
    omega
/-- the same told of dN: the least of the targets is the least of all orders that begin so -/
theorem dN_is {o t : List Str} (h : 0 < t.length) : IsDist o t (dN o t) := by
  obtain ⟨d, hd⟩ := dist_ex o h
  rw [dN_eq hd]
  exact hd
theorem tgt_mem {os ts : List Str} {i : Nat} (h : i ≤ os.length) : tgt os ts i ∈ tgts os ts := List.mem_map.mpr ⟨i, List.mem_range.mpr (by omega), rfl⟩
theorem top_least {os ts q t : List Str} (hn : os.Nodup) (h0 : 0 < os.length) (hq : q ∈ tgts os ts) (hmin : ∀ q', q' ∈ tgts os ts → dN os q ≤ dN os q') (hp : t.Perm os) (ht : t.take ts.length = ts) : dN os q ≤ dN os t := by
  have e : t = ts ++ t.drop ts.length := by
    conv => lhs; rw [← List.take_append_drop ts.length t, ht]
  have hd : IsDist os t (dN os t) := dN_is (by rw [hp.length_eq]; exact h0)
  rw [e] at hp hd
  obtain ⟨i, hi, hb⟩ := top_best hn hp hd
  have hqn : (ts ++ t.drop ts.length).Nodup := hp.nodup_iff.mpr hn
  have htn : ts.Nodup := (List.nodup_append.mp hqn).1
  have hin : ∀ x, x ∈ ts → x ∈ os := fun x hx => hp.mem_iff.mp (List.mem_append_left _ hx)
  have := hb _ (dN_is (by rw [tgt_len hn htn hin]; exact h0))
  rw [← e] at this
  exact Nat.le_trans (hmin _ (tgt_mem hi)) this
theorem tgts_take {os ts q : List Str} (hq : q ∈ tgts os ts) : q.take ts.length = ts := by
  obtain ⟨i, _, rfl⟩ := List.mem_map.mp hq
  unfold tgt
  rw [List.append_assoc]
  exact List.take_left' rfl
theorem tgts_perm {os ts q : List Str} (hn : os.Nodup) (ht : ts.Nodup) (hin : ∀ x, x ∈ ts → x ∈ os) (hq : q ∈ tgts os ts) : q.Perm os := by
  obtain ⟨i, _, rfl⟩ := List.mem_map.mp hq
  exact tgt_perm hn ht hin
end LS
set_option maxHeartbeats 2100000
/-! a sleeping generator that nobody wakes stays as it is: whatever runs beside sleepers that cannot be woken runs beside the true ones too -/
namespace LS
open PySem PyProof.Rows
open Sem (wp)
def isSleep : GenState → Bool
  | .suspended .. => true
  | _ => false
/-- the same to look at, but there is no waking it -/
def hush : GenState → GenState
  | .suspended _ l c p fs cl => .suspended (fun _ => .unsupported "") l c p fs cl
  | x => x
theorem hush_seen (x : GenState) : (hush x).seen = x.seen := by cases x <;> rfl
theorem hush_bare (x : GenState) : (hush x).bare = x.bare := by cases x <;> rfl
theorem hush_sleep (x : GenState) : isSleep (hush x) = isSleep x := by cases x <;> rfl
def plainF (fs : List Frame) : Prop := ∀ g k l c p, Frame.gen g k l c p ∉ fs
theorem plainF_nil : plainF [] := fun _ _ _ _ _ h => nomatch h
theorem plainF_append {a b : List Frame} (ha : plainF a) (hb : plainF b) : plainF (a ++ b) := fun g k l c p h => (List.mem_append.mp h).elim (ha g k l c p) (hb g k l c p)
theorem plainF_tail {F : Frame} {fs : List Frame} (h : plainF (F :: fs)) : plainF fs := fun g k l c p z => h g k l c p (List.mem_cons_of_mem _ z)
theorem plainF_ret {k : Result → Sem PySem.Fin} {h : Option Value} {g : Bool} {l kp : List Value} {c : Code} {p : Pos} : plainF [.ret k h g l c p kp] := fun _ _ _ _ _ z => by
  have := List.mem_singleton.mp z
  cases this
theorem split_plain : ∀ {fs : List Frame}, plainF fs → splitAtGen fs = none
  | [], _ => rfl
  | .ret .. :: fs, h => by
    show Option.map _ (splitAtGen fs) = none; rw [split_plain (plainF_tail h), Option.map_none]
  | .gen g k l c p :: _, h => absurd List.mem_cons_self (h g k l c p)
def plainE : End → Prop
  | .susp _ _ _ _ _ _ fs => plainF fs
  | _ => True
structure Hushed (T : Nat → Option GenState) (s : Shared) : Prop where
  at_ : ∀ i x, T i = some x → s.gens[i]? = some (hush x)
  sl : ∀ i x, T i = some x → isSleep x = true
  pl : ∀ i k l c p fs cl, s.gens[i]? = some (.suspended k l c p fs cl) → T i = none → plainF fs
/-- the true sleepers back in their places -/
def trueG (T : Nat → Option GenState) (s : Shared) : Shared := { s with gens := s.gens.mapIdx fun i x => (T i).getD x }
section
variable {T : Nat → Option GenState} {s : Shared} {g : Nat}
theorem true_at (i : Nat) : (trueG T s).gens[i]? = (s.gens[i]?).map fun x => (T i).getD x := by
  show (s.gens.mapIdx _)[i]? = _
  rw [Array.getElem?_mapIdx]
theorem true_none {x : GenState} (h : T g = none) (e : s.gens[g]? = some x) : (trueG T s).gens[g]? = some x := by
  rw [true_at, e, h]
  rfl
theorem true_set {x : GenState} (h : T g = none) : trueG T (s.setGen g x) = (trueG T s).setGen g x := by
  have e : (trueG T (s.setGen g x)).gens = ((trueG T s).setGen g x).gens := by
    apply Array.ext_getElem?
    intro i
    rw [true_at]
    show ((s.gens.setIfInBounds g x)[i]?).map _ = ((trueG T s).gens.setIfInBounds g x)[i]?
    rw [Array.getElem?_setIfInBounds, Array.getElem?_setIfInBounds, true_at]
    have sz : (trueG T s).gens.size = s.gens.size := Array.size_mapIdx
    rw [sz]
    by_cases c : g = i
    · subst c
      rw [if_pos rfl, if_pos rfl]
      by_cases d : g < s.gens.size
      · rw [if_pos d, Option.map_some, h]
        rfl
      · rw [if_neg d]
        rfl
    · rw [if_neg c, if_neg c]
  show ({ s with gens := (trueG T (s.setGen g x)).gens } : Shared) = _
  rw [e]
  rfl
theorem Hushed.out (h : Hushed T s) {x : GenState} (e : s.gens[g]? = some x) (hx : isSleep x = false) : T g = none := by
  cases q : T g with
  | none => rfl
  | some y =>
    have := h.at_ g y q
    rw [e] at this
    have z := h.sl g y q
    rw [← hush_sleep, ← Option.some.inj this, hx] at z
    cases z
theorem Hushed.size (h : Hushed T s) : T s.gens.size = none := by
  cases q : T s.gens.size with
  | none => rfl
  | some y =>
    have := h.at_ _ y q
    rw [Array.getElem?_eq_none (Nat.le_refl _)] at this
    cases this
theorem true_push (h : Hushed T s) {x : GenState} : trueG T { s with gens := s.gens.push x } = { trueG T s with gens := (trueG T s).gens.push x } := by
  have e : (trueG T { s with gens := s.gens.push x }).gens = (trueG T s).gens.push x := by
    apply Array.ext_getElem?
    intro i
    rw [true_at]
    show ((s.gens.push x)[i]?).map _ = _
    have sz : (trueG T s).gens.size = s.gens.size := Array.size_mapIdx
    rw [Array.getElem?_push, Array.getElem?_push, true_at, sz]
    by_cases c : i = s.gens.size
    · rw [if_pos c, if_pos c, Option.map_some, c, h.size]
      rfl
    · rw [if_neg c, if_neg c]
  show ({ s with gens := (trueG T { s with gens := s.gens.push x }).gens } : Shared) = _
  rw [e]
  rfl
theorem Hushed.set (h : Hushed T s) {x : GenState} (hg : T g = none) (hx : ∀ k l c p fs cl, x = .suspended k l c p fs cl → plainF fs) : Hushed T (s.setGen g x) := by
  have at2 : ∀ i, (s.setGen g x).gens[i]? = if g = i then (if g < s.gens.size then some x else none) else s.gens[i]? := fun i => by
    exact Array.getElem?_setIfInBounds ..
  refine ⟨fun i y hi => ?_, h.sl, fun i k l c p fs cl e hi => ?_⟩
  · rw [at2, if_neg (fun z => by rw [← z, hg] at hi; cases hi)]
    exact h.at_ i y hi
  · rw [at2] at e
    by_cases z : g = i
    · rw [if_pos z] at e
      by_cases d : g < s.gens.size
      · rw [if_pos d] at e
        exact hx _ _ _ _ _ _ (Option.some.inj e)
      · rw [if_neg d] at e
        cases e
    · rw [if_neg z] at e
      exact h.pl i k l c p fs cl e hi
theorem Hushed.push (h : Hushed T s) {c : Code} : Hushed T { s with gens := s.gens.push (.fresh c) } := by
  refine ⟨fun i y hi => ?_, h.sl, fun i k l c' p fs cl e hi => ?_⟩
  · have := h.at_ i y hi
    have lt := (Array.getElem?_eq_some_iff.mp this).1
    show (s.gens.push _)[i]? = _
    rw [Array.getElem?_push, if_neg (by omega)]
    exact this
  · have e' : (s.gens.push (.fresh c))[i]? = some (.suspended k l c' p fs cl) := e
    rw [Array.getElem?_push] at e'
    by_cases z : i = s.gens.size
    · rw [if_pos z] at e'
      cases e'
    · rw [if_neg z] at e'
      exact h.pl i k l c' p fs cl e' hi
end
theorem seen_true {T : Nat → Option GenState} {s : Shared} {g : Nat} {st : GenState} (a : Hushed T s) (q : s.gens[g]? = some st) : ∃ u, (trueG T s).gens[g]? = some u ∧ u.seen = st.seen := by
  cases hT : T g with
  | none => exact ⟨st, true_none hT q, rfl⟩
  | some u =>
    have e1 := a.at_ g u hT
    rw [q] at e1
    refine ⟨u, ?_, by rw [Option.some.inj e1, hush_seen]⟩
    rw [true_at, q, hT]
    rfl
theorem Hushed.of {T : Nat → Option GenState} {s s' : Shared} (h : Hushed T s) (e : s'.gens = s.gens) : Hushed T s' := ⟨fun i x hi => by rw [e]; exact h.at_ i x hi, h.sl, fun i k l c p fs cl q hi => h.pl i k l c p fs cl (by rw [← e]; exact q) hi⟩
theorem no_run0 {M : Model} {Γ : Ctx} {p : Pos} {w : String} {s s' : Shared} {e : End} (h : Runs M Γ p (.unsupported w) [] s e s') : False := by cases h
theorem no_run {M : Model} {Γ : Ctx} {p : Pos} {w : String} {fs : List Frame} {s s' : Shared} {e : End} (h : Runs M Γ p (.unsupported w) fs s e s') : False := by
  cases h with
  | segRet h1 _ => exact no_run0 h1
  | segGen h1 _ => exact no_run0 h1
  | segSuspOut _ h1 => exact no_run0 h1
  | segSuspGen _ h1 _ _ => exact no_run0 h1
theorem end_plain {e : End} (h : plainE e) : ∀ k l c p fs cl, e.genState = .suspended k l c p fs cl → plainF fs := by
  intro k l c p fs cl q
  cases e with
  | ret r => cases q
  | susp v g l' k' c' p' fs' =>
    cases q
    exact h
section
variable {T : Nat → Option GenState} {M : Model}
theorem runs_true {Γ : Ctx} {p : Pos} {t : Sem PySem.Fin} {fs : List Frame} {s s' : Shared} {e : End} (h : Runs M Γ p t fs s e s') : Hushed T s → plainF fs → Hushed T s' ∧ plainE e ∧ Runs M Γ p t fs (trueG T s) e (trueG T s') := by
  induction h with
  | done => exact fun a _ => ⟨a, trivial, .done⟩
  | raise => exact fun a _ => ⟨a, trivial, .raise⟩
  | again q _ ih => exact fun a b => let ⟨x, y, z⟩ := ih a b; ⟨x, y, .again q z⟩
  | rule _ ih => exact fun a b => let ⟨x, y, z⟩ := ih a b; ⟨x, y, .rule z⟩
  | «at» _ ih => exact fun a b => let ⟨x, y, z⟩ := ih a b; ⟨x, y, .at z⟩
  | load q _ ih => exact fun a b => let ⟨x, y, z⟩ := ih a b; ⟨x, y, .load q z⟩
  | update q _ ih => exact fun a b => let ⟨x, y, z⟩ := ih ⟨a.at_, a.sl, a.pl⟩ b; ⟨x, y, .update q z⟩
  | loadIfAlive _ ih => exact fun a b => let ⟨x, y, z⟩ := ih a b; ⟨x, y, .loadIfAlive z⟩
  | point _ ih => exact fun a b => let ⟨x, y, z⟩ := ih a b; ⟨x, y, .point z⟩
  | alloc _ ih => exact fun a b => let ⟨x, y, z⟩ := ih ⟨a.at_, a.sl, a.pl⟩ b; ⟨x, y, .alloc z⟩
  | fresh _ ih => exact fun a b => let ⟨x, y, z⟩ := ih ⟨a.at_, a.sl, a.pl⟩ b; ⟨x, y, .fresh z⟩
  | ask _ ih => exact fun a b => let ⟨x, y, z⟩ := ih a b; ⟨x, y, .ask z⟩
  | choose q _ ih => exact fun a b => let ⟨x, y, z⟩ := ih ⟨a.at_, a.sl, a.pl⟩ b; ⟨x, y, .choose q z⟩
  | os _ ih => exact fun a b => let ⟨x, y, z⟩ := ih ⟨a.at_, a.sl, a.pl⟩ b; ⟨x, y, .os z⟩
  | handled _ ih => exact fun a b => let ⟨x, y, z⟩ := ih a b; ⟨x, y, .handled z⟩
  | genState q _ ih =>
    intro a b
    obtain ⟨x, y, z⟩ := ih a b
    obtain ⟨u, hu, eu⟩ := seen_true a q
    rw [← eu] at z
    exact ⟨x, y, .genState hu z⟩
  | stack _ ih => exact fun a b => let ⟨x, y, z⟩ := ih a b; ⟨x, y, .stack z⟩
  | thread _ ih => exact fun a b => let ⟨x, y, z⟩ := ih a b; ⟨x, y, .thread z⟩
  | @newGen Γ p k s c e s' _ ih =>
    intro a b
    obtain ⟨x, y, z⟩ := ih a.push b
    rw [true_push a] at z
    refine ⟨x, y, .newGen ?_⟩
    have sz : (trueG T s).gens.size = s.gens.size := Array.size_mapIdx
    rw [sz]
    exact z
  | call _ _ ih1 ih2 =>
    intro a b
    obtain ⟨x, _, z⟩ := ih1 a plainF_nil
    obtain ⟨x2, y2, z2⟩ := ih2 x b
    exact ⟨x2, y2, .call z z2⟩
  | callSusp _ ih =>
    intro a b
    obtain ⟨x, y, z⟩ := ih a plainF_nil
    exact ⟨x, plainF_append y plainF_ret, .callSusp z⟩
  | «yield» => exact fun a _ => ⟨a, plainF_nil, .yield⟩
  | resumeFresh q _ hq _ ih1 ih2 =>
    intro a b
    have hT := a.out q rfl
    obtain ⟨x, y, z⟩ := ih1 (a.set hT fun _ _ _ _ _ _ w => nomatch w) plainF_nil
    obtain ⟨x2, y2, z2⟩ := ih2 (x.set hT (end_plain y)) b
    rw [true_set hT] at z z2
    exact ⟨x2, y2, .resumeFresh (true_none hT q) z hq z2⟩
  | @resumeSuspended Γ p g r l k s k₀ l₀ c₀ p₀ fs cl e₁ s₁ e s' q h1 hq _ ih1 ih2 =>
    intro a b
    cases hT : T g with
    | some u =>
      have e1 := a.at_ g u hT
      rw [q] at e1
      have e2 := Option.some.inj e1
      have hk : k₀ = fun _ => .unsupported "" := by
        cases u with
        | suspended k l c p fs cl =>
          injection e2
        | fresh _ => cases e2
        | running => cases e2
        | finished => cases e2
      rw [hk] at h1
      exact (no_run h1).elim
    | none =>
      obtain ⟨x, y, z⟩ := ih1 (a.set hT fun _ _ _ _ _ _ w => nomatch w) (a.pl _ _ _ _ _ _ _ q hT)
      obtain ⟨x2, y2, z2⟩ := ih2 (x.set hT (end_plain y)) b
      rw [true_set hT] at z z2
      exact ⟨x2, y2, .resumeSuspended (true_none hT q) z hq z2⟩
  | resumeJustStarted q hv _ ih =>
    intro a b
    obtain ⟨x, y, z⟩ := ih a b
    exact ⟨x, y, .resumeJustStarted (true_none (a.out q rfl) q) hv z⟩
  | resumeThrowFresh q _ ih =>
    intro a b
    have hT := a.out q rfl
    obtain ⟨x, y, z⟩ := ih (a.set hT fun _ _ _ _ _ _ w => nomatch w) b
    rw [true_set hT] at z
    exact ⟨x, y, .resumeThrowFresh (true_none hT q) z⟩
  | resumeRunning q _ ih =>
    intro a b
    obtain ⟨x, y, z⟩ := ih a b
    exact ⟨x, y, .resumeRunning (true_none (a.out q rfl) q) z⟩
  | resumeFinished q _ ih =>
    intro a b
    obtain ⟨x, y, z⟩ := ih a b
    exact ⟨x, y, .resumeFinished (true_none (a.out q rfl) q) z⟩
  | segRet _ _ ih1 ih2 =>
    intro a b
    obtain ⟨x, _, z⟩ := ih1 a plainF_nil
    obtain ⟨x2, y2, z2⟩ := ih2 x (plainF_tail b)
    exact ⟨x2, y2, .segRet z z2⟩
  | segGen _ _ _ _ => exact fun _ b => absurd List.mem_cons_self (b _ _ _ _ _)
  | segSuspOut q _ ih =>
    intro a b
    obtain ⟨x, y, z⟩ := ih a plainF_nil
    exact ⟨x, plainF_append y b, .segSuspOut q z⟩
  | segSuspGen q _ _ _ _ _ =>
    intro _ b
    rw [split_plain b] at q
    cases q
theorem wakes_true {Γ : Ctx} {p : Pos} {g : Nat} {r : Resume} {s s' : Shared} {res : GenResult} (h : Wakes M Γ p g r s res s') (a : Hushed T s) : Hushed T s' ∧ Wakes M Γ p g r (trueG T s) res (trueG T s') := by
  unfold Wakes at h ⊢
  cases q : s.gens[g]? with
  | none =>
    rw [q] at h
    exact h.elim
  | some st =>
    rw [q] at h
    cases st with
    | fresh c =>
      have hT := a.out q rfl
      rw [true_none hT q]
      dsimp only at h ⊢
      split at h
      · obtain ⟨e₁, s₁, hr, h1, h2, rfl⟩ := h
        obtain ⟨x, y, z⟩ := runs_true hr (a.set hT fun _ _ _ _ _ _ w => nomatch w) plainF_nil
        rw [true_set hT] at z
        exact ⟨x.set hT (end_plain y), e₁, _, z, h1, h2, true_set hT⟩
      · obtain ⟨h1, rfl⟩ := h
        exact ⟨a, h1, rfl⟩
      · obtain ⟨h1, rfl⟩ := h
        exact ⟨a.set hT (fun _ _ _ _ _ _ w => nomatch w), h1, true_set hT⟩
    | suspended kx lx cx px fx clx =>
      dsimp only at h
      obtain ⟨e₁, s₁, hr, h1, h2, rfl⟩ := h
      cases hT : T g with
      | some u =>
        have e1 := a.at_ g u hT
        rw [q] at e1
        have e2 := Option.some.inj e1
        have hk : kx = fun _ => .unsupported "" := by
          cases u with
          | suspended k l c p fs cl => injection e2
          | fresh _ => cases e2
          | running => cases e2
          | finished => cases e2
        rw [hk] at hr
        exact (no_run hr).elim
      | none =>
        rw [true_none hT q]
        obtain ⟨x, y, z⟩ := runs_true hr (a.set hT fun _ _ _ _ _ _ w => nomatch w) (a.pl _ _ _ _ _ _ _ q hT)
        rw [true_set hT] at z
        exact ⟨x.set hT (end_plain y), e₁, _, z, h1, h2, true_set hT⟩
    | running =>
      rw [true_none (a.out q rfl) q]
      obtain ⟨h1, rfl⟩ := h
      exact ⟨a, h1, rfl⟩
    | finished =>
      rw [true_none (a.out q rfl) q]
      obtain ⟨h1, rfl⟩ := h
      exact ⟨a, h1, rfl⟩
theorem wp_true {α : Type} {Γ : Ctx} (t : Sem α) : ∀ (Q : α → Pos → Shared → Prop) (E : Value → Pos → Shared → Prop) (p : Pos) (s : Shared), Hushed T s → wp M Γ t Q E p s →
    wp M Γ t (fun a p' s' => ∃ s1, s' = trueG T s1 ∧ Hushed T s1 ∧ Q a p' s1) (fun e p' s' => ∃ s1, s' = trueG T s1 ∧ Hushed T s1 ∧ E e p' s1) p (trueG T s) := by
  induction t with
  | pure a => exact fun Q E p s hn h => ⟨s, rfl, hn, h⟩
  | raise e => exact fun Q E p s hn h => ⟨s, rfl, hn, h⟩
  | unsupported _ => exact fun Q E p s _ h => h
  | finish _ => exact fun Q E p s _ h => h
  | rule _ k ih => exact fun Q E p s hn h => ih () Q E p s hn h
  | «at» p' k ih => exact fun Q E p s hn h => ih () Q E p' s hn h
  | load a _ k ih => exact fun Q E p s hn ⟨o, ho, h⟩ => ⟨o, ho, ih o Q E p s hn h⟩
  | update a _ f k ih => exact fun Q E p s hn h => ⟨h.1, ih () Q E p { s with heap := s.heap.update a f } (hn.of rfl) h.2⟩
  | loadIfAlive a k ih => exact fun Q E p s hn h => ih _ Q E p s hn h
  | point _ k ih => exact fun Q E p s hn h => ih () Q E p s hn h
  | register _ _ => exact fun Q E p s _ h => h
  | alloc o k ih => exact fun Q E p s hn h => ih s.heap.objs.size Q E p { s with heap := s.heap.push o } (hn.of rfl) h
  | fresh k ih => exact fun Q E p s hn h => ih s.toks Q E p { s with toks := s.toks + 1 } (hn.of rfl) h
  | ask k ih => exact fun Q E p s hn h => ih _ Q E p s hn h
  | choose src m k ih => exact fun Q E p s hn h => ⟨h.1, ih (M.w.draws src (s.drawn.get src) % m) Q E p { s with drawn := s.drawn.bump src } (hn.of rfl) h.2⟩
  | os q _ k ih => exact fun Q E p s hn h => ih (Os.step s.os q).2 Q E p { s with os := (Os.step s.os q).1 } (hn.of rfl) h
  | call c hd _ _ k ih =>
    intro Q E p s hn h
    obtain ⟨r, s', hr, h⟩ := h
    obtain ⟨x, _, z⟩ := runs_true hr hn plainF_nil
    exact ⟨r, trueG T s', z, ih r Q E p s' x h⟩
  | handled own k ih => exact fun Q E p s hn h => ih _ Q E p s hn h
  | genState g k ih =>
    intro Q E p s hn h
    obtain ⟨st, hs, h⟩ := h
    have z := ih _ Q E p s hn h
    obtain ⟨u, hu, eu⟩ := seen_true hn hs
    rw [← eu] at z
    exact ⟨u, hu, z⟩
  | newGen c k ih =>
    intro Q E p s hn h
    have z := ih _ Q E p _ hn.push h
    rw [true_push hn] at z
    have sz : (trueG T s).gens.size = s.gens.size := Array.size_mapIdx
    show wp M Γ (k (trueG T s).gens.size) _ _ p _
    rw [sz]
    exact z
  | resume g r _ k ih =>
    intro Q E p s hn h
    obtain ⟨res, s', hw, h⟩ := h
    obtain ⟨x, z⟩ := wakes_true hw hn
    exact ⟨res, trueG T s', z, ih res Q E p s' x h⟩
  | «yield» _ _ _ _ => exact fun Q E p s _ h => h
  | stack k ih => exact fun Q E p s hn h => ih _ Q E p s hn h
  | fork _ _ => exact fun Q E p s _ h => h
  | thread k ih => exact fun Q E p s hn h => ih _ Q E p s hn h
  | await _ _ _ _ _ => exact fun Q E p s _ h => h
end
/-! ### all sleepers of a state -/
def sleepT (s : Shared) : Nat → Option GenState := fun i => (s.gens[i]?).bind fun x => if isSleep x then some x else none
def hushS (s : Shared) : Shared := { s with gens := s.gens.map hush }
theorem sleepT_some {s : Shared} {i : Nat} {x : GenState} : sleepT s i = some x ↔ s.gens[i]? = some x ∧ isSleep x = true := by
  unfold sleepT
  cases q : s.gens[i]? with
  | none => simp
  | some y =>
    show (if isSleep y = true then some y else none) = some x ↔ _
    by_cases c : isSleep y = true
    · rw [if_pos c]
      exact ⟨fun z => ⟨z, (Option.some.inj z) ▸ c⟩, fun z => z.1⟩
    · rw [if_neg c]
      exact ⟨(fun z => nomatch z), fun z => absurd ((Option.some.inj z.1) ▸ z.2) c⟩
theorem hushed_start (s : Shared) : Hushed (sleepT s) (hushS s) := by
  have at2 : ∀ i, (hushS s).gens[i]? = (s.gens[i]?).map hush := fun i => Array.getElem?_map ..
  refine ⟨fun i x hi => ?_, fun i x hi => (sleepT_some.mp hi).2, fun i k l c p fs cl e hi => ?_⟩
  · rw [at2, (sleepT_some.mp hi).1]
    rfl
  · rw [at2] at e
    obtain ⟨y, hy, e2⟩ := Option.map_eq_some_iff.mp e
    have : isSleep y = true := by rw [← hush_sleep, e2]; rfl
    rw [sleepT_some.mpr ⟨hy, this⟩] at hi
    cases hi
theorem true_start (s : Shared) : trueG (sleepT s) (hushS s) = s := by
  have e : (trueG (sleepT s) (hushS s)).gens = s.gens := by
    apply Array.ext_getElem?
    intro i
    rw [true_at]
    show ((s.gens.map hush)[i]?).map _ = _
    rw [Array.getElem?_map]
    cases q : s.gens[i]? with
    | none => rfl
    | some x =>
      show some ((sleepT s i).getD (hush x)) = some x
      by_cases c : isSleep x = true
      · rw [sleepT_some.mpr ⟨q, c⟩]
        rfl
      · cases z : sleepT s i with
        | none => cases x <;> first | rfl | exact absurd rfl c
        | some y =>
          have := sleepT_some.mp z
          rw [q] at this
          exact absurd ((Option.some.inj this.1) ▸ this.2) c
  show ({ s with gens := (trueG (sleepT s) (hushS s)).gens } : Shared) = s
  rw [e]
/-- what runs beside the hushed sleepers leaves the true ones as they are -/
theorem wpAny_beside {α : Type} {M : Model} {A : Around} {t : Sem α} {Q : α → Shared → Prop} {E : Value → Shared → Prop} {s : Shared} (hb : AllBare s.gens) (h : wpAny M A t (fun a s1 => AllBare s1.gens ∧ Q a s1) (fun e s1 => AllBare s1.gens ∧ E e s1) (hushS s)) :
    wpAny M A t (fun (a : α) (s' : Shared) => (∀ (i : Nat) (x : GenState), s.gens[i]? = some x → isSleep x = true → s'.gens[i]? = some x) ∧ AllBare s'.gens ∧ ∃ s1, Q a s1 ∧ s' = { s1 with gens := s'.gens }) (fun (e : Value) (s' : Shared) => (∀ (i : Nat) (x : GenState), s.gens[i]? = some x → isSleep x = true → s'.gens[i]? = some x) ∧ AllBare s'.gens ∧ ∃ s1, E e s1 ∧ s' = { s1 with gens := s'.gens }) s := by
  have key : ∀ s1, Hushed (sleepT s) s1 → AllBare s1.gens → (∀ i x, s.gens[i]? = some x → isSleep x = true → (trueG (sleepT s) s1).gens[i]? = some x) ∧ AllBare (trueG (sleepT s) s1).gens := fun s1 a b => by
    refine ⟨fun i x hi hx => ?_, fun y hy => ?_⟩
    · have hT := sleepT_some.mpr ⟨hi, hx⟩
      rw [true_at, a.at_ i x hT, hT]
      rfl
    · obtain ⟨i, hi⟩ := Array.mem_iff_getElem?.mp hy
      rw [true_at] at hi
      obtain ⟨z, hz, e⟩ := Option.map_eq_some_iff.mp hi
      cases hT : sleepT s i with
      | none =>
        rw [hT] at e
        rw [← show z = y from e]
        exact b z (Array.mem_iff_getElem?.mpr ⟨i, hz⟩)
      | some u =>
        rw [hT] at e
        rw [← show u = y from e]
        exact hb u (Array.mem_iff_getElem?.mpr ⟨i, (sleepT_some.mp hT).1⟩)
  intro Γ p hΓ
  have z := wp_true (T := sleepT s) t _ _ p (hushS s) (hushed_start s) (h Γ p hΓ)
  rw [true_start] at z
  refine Sem.wp_mono M Γ t (fun a p' s' hq => ?_) (fun e p' s' hq => ?_) _ _ z
  · obtain ⟨s1, rfl, a1, b1, q1⟩ := hq
    obtain ⟨k1, k2⟩ := key s1 a1 b1
    exact ⟨k1, k2, s1, q1, rfl⟩
  · obtain ⟨s1, rfl, a1, b1, q1⟩ := hq
    obtain ⟨k1, k2⟩ := key s1 a1 b1
    exact ⟨k1, k2, s1, q1, rfl⟩
end LS
set_option maxHeartbeats 2100000
/-! enumerate over a generator -/
namespace LS
open PySem L2 PySem.Spec PyProof.Rows LamX GenW
section
variable {w : World} {prog : Program} {A : Around} {s : Shared} {E : Value → Shared → Prop}
/-- x is a StopIteration -/
def IsStop (h : Heap) (x : Value) : Prop := ∃ b o, x = .ref b ∧ h.get? b = some o ∧ o.cls = .type "StopIteration"
/-- what the enumerate does with an item -/
theorem enum_item {e it : Addr} {c0 : Int} {old0 : Value} {Q : Option Value → Shared → Prop} (he : IsEnum s.heap e it c0 old0)
    (h : wpAny (model prog w) A.in1 (Builtin.SmallTypes.nextOf (.ref it)) (fun x s1 => ∃ (c : Int) (old : Value), IsEnum s1.heap e it c old ∧
      ∀ h' tk, IsEnumOut h' e it (c + 1) x s1.heap.objs.size → h'.get? s1.heap.objs.size = some { cls := .type "tuple", data := .seq #[.int c tk, x] } → h'.objs.size = s1.heap.objs.size + 1 → (∀ b o, b ≠ e → s1.heap.get? b = some o → h'.get? b = some o) → Q (some (.ref s1.heap.objs.size)) { s1 with heap := h', toks := tk + 1 })
      (fun x s1 => IsStop s1.heap x ∧ Q none s1) s) : wpAny (model prog w) A (pyNext (.ref e)) Q E s := by
  have ty : s.TypeIs (.ref e) "enumerate" := ⟨_, he, rfl⟩
  unfold pyNext
  refine wpAny_bind (wpAny_attempt (wpAny_callSpecial?_slot (name := Str.ofString "__next__") ty F.slot_enumerate_next (wpAny_call_entry F.slot_enumerate_next ty F.entry_enumerate_next ?_ (F.args_enumerate_next_1 _))))
  show wpAny _ _ (field (.ref e) 2 >>= _) _ _ _; refine wpAny_bind (wpAny_field he rfl (x := .ref it) rfl (wpAny_bind (wpAny_mono h (fun x s1 h1 => ?_) fun x s1 h1 => ?_)))
  · obtain ⟨c, old, e1, hQ⟩ := h1
    obtain ⟨hp, gg, dd, tk, os⟩ := s1
    have e1 : IsEnum hp e it c old := e1
    have le : e < hp.objs.size := Heap.lt_size e1
    show wpAny _ _ (field (.ref e) 3 >>= _) _ _ ⟨hp, gg, dd, tk, os⟩; refine wpAny_bind (wpAny_field e1 rfl (x := rawInt c) rfl ?_)
    show wpAny _ _ (field (.ref e) 4 >>= _) _ _ ⟨hp, gg, dd, tk, os⟩; refine wpAny_bind (wpAny_field e1 rfl (x := .none) rfl ?_)
    show wpAny _ _ (mkInt c >>= _) _ _ ⟨hp, gg, dd, tk, os⟩; refine wpAny_bind (wpAny_mkInt ?_)
    show wpAny _ _ (setField (.ref e) 3 (rawInt (c + 1)) >>= _) _ _ ⟨hp, gg, dd, tk + 1, os⟩
    refine wpAny_bind (wpAny_setField_rec e1 (by simp) fun h2 (e2 : IsEnum h2 e it (c + 1) old) (k2 : Heap.SameBut e hp h2) => ?_)
    show wpAny _ _ (setField (.ref e) 4 .none >>= _) _ _ ⟨h2, gg, dd, tk + 1, os⟩
    refine wpAny_bind (wpAny_setField_rec e2 (by simp) fun h3 (e3 : IsEnum h3 e it (c + 1) old) (k3 : Heap.SameBut e h2 h3) => ?_)
    show wpAny _ _ (newTuple [.int c tk, x] >>= _) _ _ ⟨h3, gg, dd, tk + 1, os⟩; refine wpAny_bind (wpAny_newTuple ?_)
    have sz3 : h3.objs.size = hp.objs.size := k3.1.trans k2.1
    have new4 : (h3.push { cls := .type "tuple", data := .seq #[.int c tk, x] }).get? hp.objs.size = some { cls := .type "tuple", data := .seq #[.int c tk, x] } := sz3 ▸ Heap.get?_push_size _ rfl
    have size4 : (h3.push { cls := .type "tuple", data := .seq #[.int c tk, x] }).objs.size = hp.objs.size + 1 := (Heap.size_push ..).trans (congrArg (· + 1) sz3)
    have keep4 : ∀ b o, b ≠ e → hp.get? b = some o → (h3.push { cls := .type "tuple", data := .seq #[.int c tk, x] }).get? b = some o := fun b o hb q => Heap.get?_push_of_some _ ((k3.2 b hb).trans ((k2.2 b hb).trans q))
    have e4 : IsEnum (h3.push { cls := .type "tuple", data := .seq #[.int c tk, x] }) e it (c + 1) old := Heap.get?_push_of_some _ e3
    rw [sz3]; change wpAny _ _ _ _ _ (⟨h3.push { cls := .type "tuple", data := .seq #[.int c tk, x] }, gg, dd, tk + 1, os⟩ : Shared)
    generalize h3.push { cls := .type "tuple", data := .seq #[.int c tk, x] } = h4 at new4 size4 keep4 e4
    show wpAny _ _ (Builtin.SmallTypes.ownedTupleIsFree (.ref e) >>= _) _ _ ⟨h4, gg, dd, tk + 1, os⟩; refine wpAny_bind ?_
    unfold Builtin.SmallTypes.ownedTupleIsFree; refine wpAny_bind (wpAny_field e4 rfl (x := .none) rfl (wpAny_pure ?_)); simp only [if_true]
    refine wpAny_bind (wpAny_rule (wpAny_bind (wpAny_field e4 rfl (x := old) rfl ?_)))
    refine wpAny_bind (wpAny_setField_rec e4 (by simp) fun h5 (e5 : IsEnum h5 e it (c + 1) x) (k5 : Heap.SameBut e h4 h5) => ?_)
    show wpAny _ _ (Builtin.SmallTypes.ownedTupleHandOut (.ref e) (.ref hp.objs.size) >>= _) _ _ ⟨h5, gg, dd, tk + 1, os⟩; refine wpAny_bind ?_
    unfold Builtin.SmallTypes.ownedTupleHandOut; refine wpAny_bind (wpAny_setField_rec e5 (by simp) fun h6 (e6 : IsEnumOut h6 e it (c + 1) x hp.objs.size) (k6 : Heap.SameBut e h5 h6) => wpAny_setField_rec e6 (by simp) fun h7 (e7 : IsEnumOut h7 e it (c + 1) x hp.objs.size) (k7 : Heap.SameBut e h6 h7) => ?_)
    have up : ∀ b o, b ≠ e → h4.get? b = some o → h7.get? b = some o := fun b o hb q => (k7.2 b hb).trans ((k6.2 b hb).trans ((k5.2 b hb).trans q))
    refine wpAny_bind (wpAny_letGo (wpAny_pure ⟨_, rfl, wpAny_pure (hQ h7 tk e7 (up _ _ (Nat.ne_of_gt le) new4) ?_ fun b o hb q => up b o hb (keep4 b o hb q))⟩))
    rw [k7.1, k6.1, k5.1, size4]
  · obtain ⟨⟨b, o, rfl, ho, hc⟩, q⟩ := h1
    exact wpAny_bind (wpAny_isInstance (T := "StopIteration") (b := true) ⟨o, ho, hc⟩ isSubtype_stop (wpAny_pure q))
end
/-- it will go on when it is woken -/
def goesOn (M : Model) (A : Around) (R : GenEnd) (Y : Protocol) (gs : GenState) : Nat → Resume → Shared → Prop
  | 0, _, _ => False
  | m + 1, r, s => gs.Goes M A R Y m r s
/-- a generator is woken: where it yields, it sleeps again -/
theorem resume_sl {M : Model} {A : Around} {R : GenEnd} {Y : Protocol} {n : Nat} {E : Value → Shared → Prop} {s : Shared} {g : Nat} {gs : GenState} {r : Resume} {l : List Value} {α : Type} {k : GenResult → Sem α} {Q : α → Shared → Prop} (hg : s.gens[g]? = some gs) (hgo : gs.Goes M A R Y n r (s.setGen g .running))
    (hR : ∀ x s₁, R n (s.setGen g .running) x s₁ → wpAny M A (k (End.ret x).result) Q E (s₁.setGen g .finished)) (hY : ∀ v s₁ gs', gs'.bare = true → isSleep gs' = true → Y (n - 1) (s.setGen g .running) v s₁ (goesOn M A R Y gs' n) → wpAny M A (k (.yielded v)) Q E (s₁.setGen g gs')) : wpAny M A (.resume g r l k) Q E s := by
  intro Γ p hΓ
  rw [Sem.wp_resume]
  have after : ∀ e₁ s₁, SegEnd R Y n (Seg.next M A R Y n) (s.setGen g .running) e₁ s₁ → e₁.quiet = true ∧ Sem.wp M Γ (k e₁.result) (fun a _ s' => Q a s') (fun e _ s' => E e s') p (s₁.setGen g e₁.genState)
    | .ret x, s₁, he => ⟨rfl, hR x s₁ he Γ p hΓ⟩
    | .susp v g₀ l₀ k₀ c₀ p₀ fs₀, s₁, he => ⟨he.1, hY v s₁ _ (End.bare_of_quiet he.1) rfl (by cases n <;> exact he.2) Γ p hΓ⟩
  match gs, hg, hgo with
  | .fresh c, hg, ⟨er, hs⟩ =>
    subst er
    obtain ⟨e₁, s₁, hr, he⟩ := seg_iff.mp hs (Γ.wake c p) p rfl (hΓ.wake c p)
    refine ⟨_, _, ?_, (after e₁ s₁ he).2⟩
    unfold Wakes; rw [hg]; exact ⟨e₁, s₁, hr, (after e₁ s₁ he).1, rfl, rfl⟩
  | .suspended k₀ l₀ c₀ p₀ fs₀ cl, hg, hs =>
    obtain ⟨e₁, s₁, hr, he⟩ := seg_iff.mp hs (Γ.wake c₀ p) p₀ rfl (hΓ.wake c₀ p)
    refine ⟨_, _, ?_, (after e₁ s₁ he).2⟩
    unfold Wakes; rw [hg]; exact ⟨e₁, s₁, hr, (after e₁ s₁ he).1, rfl, rfl⟩
section
variable {w : World} {P : Program} {A : Around} {s : Shared} {E : Value → Shared → Prop}
theorem nextOf_gen {a : Addr} {g n : Nat} {gs : GenState} {Fi : Nat → Shared → Shared → Prop} {Y : Protocol} {Q : Value → Shared → Prop} (hh : A.handled = none) (hl : s.heap.NoLimit) (hroom : A.depth < recursionLimit) (hg : s.heap.IsGen a g) (hgs : s.gens[g]? = some gs)
    (hgo : gs.Goes (model P w) A.in1 (fun n s₀ r s₁ => ((r = .ok (.ret .none) ∨ r = .ok .next) ∧ Fi n s₀ s₁) ∨ ∃ e, r = .error e ∧ False) Y n (.send .none) (s.setGen g .running))
    (hY : ∀ v s₁ gs', gs'.bare = true → isSleep gs' = true → Y (n - 1) (s.setGen g .running) v s₁ (goesOn (model P w) A.in1 (fun n s₀ r s₁ => ((r = .ok (.ret .none) ∨ r = .ok .next) ∧ Fi n s₀ s₁) ∨ ∃ e, r = .error e ∧ False) Y gs' n) → Q v (s₁.setGen g gs'))
    (hP : ∀ s₁, Fi n (s.setGen g .running) s₁ → ∀ h' x, (∀ b o, s₁.heap.get? b = some o → h'.get? b = some o) → IsStop h' x → E x { s₁.setGen g .finished with heap := h' }) : wpAny (model P w) A (Builtin.SmallTypes.nextOf (.ref a)) Q E s := by
  unfold Builtin.SmallTypes.nextOf; refine wpAny_bind (wpAny_callSpecial?_slot (name := Str.ofString "__next__") hg.typeIs slot_gen_next (wpAny_call_entry slot_gen_next hg.typeIs entry_gen_next ?_ (args_gen_next _)))
  show wpAny _ A.in1 (Builtin.Generator.genWake (.ref a) (.send .none)) _ _ s; unfold Builtin.Generator.genWake
  refine wpAny_bind (wpAny_holding (wpAny_genNumber hg ?_)); refine wpAny_bind (wpAny_genState hgs ?_)
  cases gs with
  | running => exact hgo.elim
  | finished => exact hgo.elim
  | _ =>
    refine wpAny_bind (wpAny_roomToWake hl hroom ?_); show wpAny _ A.in1 (.resume g (.send .none) [] _) _ _ s
    refine resume_sl hgs hgo (fun x s₁ hx => ?_) (fun v s₁ gs' hb hsl hv => wpAny_pure ⟨v, rfl, wpAny_pure (hY v s₁ gs' hb hsl hv)⟩)
    rcases hx with ⟨hr, hp⟩ | ⟨e, _, z⟩
    · have hres : End.result (.ret x) = .returned .none := by rcases hr with hr | hr <;> rw [hr] <;> rfl
      try rw [hres]
      show wpAny _ A.in1 (newExc (.type "StopIteration") [] >>= _) _ _ _; refine wpAny_bind ?_
      simp only [newExc, newTuple]; refine wpAny_bind (wpAny_newObj_type ?_ (by size_fits))
      refine wpAny_bind (m := firstArgMember _ _) (wpAny_of_eq (a := Value.none) (by first | rfl | (simp only [firstArgMember]; rfl)) (wpAny_newObj_type ?_ (by size_fits)))
      simp only [raiseNew]; refine wpAny_bind (wpAny_bind (wpAny_handled ?_))
      rw [show A.in1.handled = none from hh]; exact wpAny_throw (hP s₁ hp _ _ (fun b o hb => Heap.get?_push_of_some _ (Heap.get?_push_of_some _ hb)) ⟨_, _, rfl, Heap.get?_push_size _ rfl, rfl⟩)
    · exact z.elim
end
def enumObj (a : Addr) (c : Int) (old : Value) : Obj := { cls := .type "enumerate", data := .fields #[.none, .bool false, .ref a, rawInt c, .none, old] }
theorem isEnum_obj {h : Heap} {e a : Addr} {c : Int} {old : Value} (q : h.get? e = some (enumObj a c old)) : IsEnum h e a c old := q
set_option maxHeartbeats 1300000 in
theorem meets_enumG (a : Addr) (g : Nat) :
    Meets (Builtin.«enumerate.__new__» ⟨[.type "enumerate", .ref a], []⟩) (fun _ R s => s.heap.IsGen a g ∧ R (.ok (.ret (.ref s.heap.objs.size))) { s with heap := s.heap.push (enumObj a 0 .none) }) :=
  .of_wp fun prog w A R s hh => by
    obtain ⟨hp, gg, dd, tk, os⟩ := s
    obtain ⟨hg, hr⟩ := hh
    have sub1 := sub_enumerate
    have tt : Heap.IsGen (Shared.heap ⟨hp, gg, dd, tk, os⟩) a g := hg
    wp_walk using wpAny_pyIter_gen tt
    refine wpAny_stack_any fun fr => wpAny_pure ?_
    split
    · rename_i cc _ _ _ _ _
      cases (cc == Value.type "enumerate") <;> (wp_walk using wpAny_pyIter_gen tt; exact ⟨_, rfl, hr⟩)
    · wp_walk using wpAny_pyIter_gen tt
      exact ⟨_, rfl, hr⟩
theorem call_enumG {P : Program} {w : World} {A : Around} {E : Value → Shared → Prop} {s : Shared} {a : Addr} {g : Nat} {Q : Value → Shared → Prop} (hg : s.heap.IsGen a g) (hq : Q (.ref s.heap.objs.size) { s with heap := s.heap.push (enumObj a 0 .none) }) : wpAny (model P w) A (call (.type "enumerate") [.ref a]) Q E s := by
  refine callType_new F.called_enumerate (by decide) (F.typeCall_enumerate_1 _) (F.newCall_enumerate_1 _) (fun ob => F.args_object_init_2 ob _) F.entry_enumerate_new (meets_enumG a g) ⟨hg, ?_⟩
  exact ⟨⟨_, Heap.get?_push_size _ rfl, rfl⟩, hq⟩
end LS
set_option maxHeartbeats 2100000
/-! for i, x in enumerate(g(..)): a generator def and its consumer by turns; each one's facts are told anew when the other has gone to sleep -/
namespace LS
open PySem L2 PySem.Spec PyProof.Rows LamX GenW
/-- the first n objects -/
def cutH (h : Heap) (n : Nat) : Heap := { h with objs := h.objs.extract 0 n }
abbrev cutS (s : Shared) (n : Nat) : Shared := { s with heap := cutH s.heap n }
theorem cut_get {h : Heap} {n b : Nat} (hb : b < n) : (cutH h n).get? b = h.get? b := by
  unfold Heap.get? cutH
  dsimp only
  have e : (h.objs.extract 0 n)[b]? = h.objs[b]? := by
    rw [Array.getElem?_extract]
    simp only [Nat.zero_add, Nat.sub_zero]
    by_cases c : b < h.objs.size
    · rw [if_pos (by omega)]
    · rw [if_neg (by omega)]; exact (Array.getElem?_eq_none (by omega)).symm
  rw [e]
theorem cut_size {h : Heap} {n : Nat} : (cutH h n).objs.size ≤ n := by
  show (h.objs.extract 0 n).size ≤ n
  rw [Array.size_extract]
  omega
theorem cut_lt {h : Heap} {n b : Nat} {o : Obj} (e : (cutH h n).get? b = some o) : b < n := Nat.lt_of_lt_of_le (Heap.lt_size e) cut_size
theorem cut_full {h : Heap} {n : Nat} (hn : n ≤ h.objs.size) : (cutH h n).objs.size = n := by
  show (h.objs.extract 0 n).size = n
  rw [Array.size_extract]
  omega
theorem cut_up {h : Heap} {n b : Nat} {o : Obj} (e : (cutH h n).get? b = some o) : h.get? b = some o := by
  rw [← cut_get (cut_lt e)]
  exact e
/-- what a frame's object says of the names -/
def FrameOk (env : Env) (N : List Str) (L : Addr) (oF : Obj) (σ : L2.St) : Prop :=
  σ.length = N.length ∧ (∀ v, oF.data ≠ .cell v) ∧ ∃ m, (∀ h : Heap, h.get? L = some oF → h.Ns L m) ∧ ∀ (i : Nat) (x : Str) (v : V), N[i]? = some x → σ[i]? = some (some v) → Vis env.scope x → ∃ u, RelV v u ∧ env.kindOf x = some .local ∧ m x = some u
abbrev gnB (P : Program) (w : World) (K : PySem.W.Frag) (mg : Str → Option Value) (base : Heap) (N : List Str) (qual : Str) (scope : Scope) (f : Addr) (cdv : Value) (A : Around) (outer : List Env) (s1 : Shared) (s0 : Shared) (H0 : Hp) : Cx :=
  { gnX P w K mg base N qual scope f cdv A outer s1 H0 [] with s_0 := s0 }
theorem cells_nil {n : Nat} : ∀ {names : List (Str × NameKind)}, (∀ y ∈ names, y.2 ≠ .cell) → cellsFrom n names [] = []
  | [], _ => rfl
  | (x, kd) :: r, h => by
    unfold cellsFrom
    rw [if_neg (fun z => h (x, kd) List.mem_cons_self (by simpa using z))]
    exact cells_nil fun y hy => h y (List.mem_cons_of_mem _ hy)
/-- no names but local and global ones -/
structure Flat (scope : Scope) : Prop where
  kind : scope.kind = .function
  cell : ∀ z ∈ scope.names, z.2 ≠ .cell
  free : ∀ y ∈ scope.names, y.2 ≠ .free
theorem frames_lt {X : Cx} {pins : List (Addr × Obj)} {σ : L2.St} {H : Hp} {s : Shared} (I : Inv X pins σ H s) {n : Nat} (h1 : X.env.locals < n) (h2 : X.s_0.heap.objs.size ≤ n) : ∀ b ∈ frs X.stack, b < n := fun b hb => by
  rcases List.mem_cons.mp (I.stkSub b hb) with z | z
  · rw [z]; exact h1
  · obtain ⟨_, ob, hob, _⟩ := I.ok.funs.mem z
    exact Nat.lt_of_lt_of_le (Heap.lt_size hob) h2
theorem funs_cut {h base : Heap} {n : Nat} : ∀ {l : List Env}, (∀ b ∈ frs l, b < n) → h.FunFrames base l → (cutH h n).FunFrames base l
  | [], _, _ => trivial
  | env :: l, hb, ⟨h1, ⟨L, o, e1, e2, e3, e4⟩, h3⟩ => by
    have hL : L < n := hb L (List.mem_filterMap.mpr ⟨env, List.mem_cons_self, e1⟩)
    refine ⟨h1, ⟨L, o, e1, e2, by rw [cut_get hL]; exact e3, e4⟩, funs_cut (fun b q => hb b ?_) h3⟩
    obtain ⟨v, hv, e⟩ := List.mem_filterMap.mp q
    exact List.mem_filterMap.mpr ⟨v, List.mem_cons_of_mem _ hv, e⟩
section
variable {X : Cx} {pins ps : List (Addr × Obj)} {σX σY : L2.St} {H H' : Hp} {s s' s1 : Shared} {N : List Str} {qual : Str} {scope : Scope} {f : Addr} {cdv : Value} {Aw : Around} {oF : Obj}
/-- the generator goes on: its facts, from the consumer's -/
theorem wakeY (I : Inv X pins σX H s) (hA : Aw.frames = some X.stack) (hh : Aw.handled = none) (fl : Flat scope) (hXL : X.env.locals < s1.heap.objs.size) (h0L : X.s_0.heap.objs.size ≤ s1.heap.objs.size)
    (fr : FrameOk (envOfC qual scope s1.heap.objs.size f cdv) N s1.heap.objs.size oF σY) (gF : s.heap.get? s1.heap.objs.size = some oF) (nF : H s1.heap.objs.size = none)
    (gp : ∀ p ∈ ps, s.heap.get? p.1 = some p.2 ∧ H p.1 = none ∧ s1.heap.objs.size < p.1 ∧ ∀ v, p.2.data ≠ .cell v) :
    Inv (gnB X.prog X.w X.K X.mg X.base N qual scope f cdv Aw X.stack s1 (cutS s s1.heap.objs.size) H) ps σY H s := by
  have e0 := I.env0
  have Ll : s1.heap.objs.size < s.heap.objs.size := Heap.lt_size gF
  have frl := frames_lt I hXL h0L
  have cn : cellsFrom (s1.heap.objs.size + 1) scope.names [] = [] := cells_nil fl.cell
  have noc : ∀ y c, (envOfC qual scope s1.heap.objs.size f cdv).cells.lookup y ≠ some c := fun y c z => by
    have z' : (cellsFrom (s1.heap.objs.size + 1) scope.names []).lookup y = some c := z
    rw [cn] at z'
    cases z'
  obtain ⟨fl1, fl2, m, fn, fv⟩ := fr
  refine ⟨⟨e0.mod, fl.kind, rfl, rfl, cut_size, fun y z c q => absurd q (noc y c), fun y hy => ?_, fun y c _ q => absurd q (noc y c), fun _ => hh, Around.frames_deeper hA, .inr ⟨rfl, rfl⟩, fun b z => (nomatch z), fun b o q => ?_, ?_, fun b _ _ z => (nomatch z), fun b z => (nomatch z), funs_cut frl e0.funs, e0.frf⟩,
    rfl, e0.bare, Un.kept fun b u q => cut_up q, ⟨m, fn s.heap gF, fun i x v q1 q2 q3 => ?_⟩, fun y c q => absurd q (noc y c), nF, fun y c q => absurd q (noc y c), fun p hp => ?_, e0.hok, fl1⟩
  · rcases hy with z | z
    · exact absurd rfl (fl.cell _ (PySem.mem_of_lookup (show scope.names.lookup y = some .cell from z)))
    · exact absurd rfl (fl.free _ (PySem.mem_of_lookup (show scope.names.lookup y = some .free from z)))
  · have lb : b < s1.heap.objs.size := Nat.lt_of_lt_of_le (Nat.lt_of_lt_of_le (Heap.lt_size q) I.ok.bsz) h0L
    exact ⟨by show (cutH s.heap _).get? b = _; rw [cut_get lb]; exact (e0.bs b o q).1, (e0.bs b o q).2⟩
  · show X.base.objs.size ≤ (cutH s.heap _).objs.size
    rw [cut_full (Nat.le_of_lt Ll)]
    exact Nat.le_trans I.ok.bsz h0L
  · obtain ⟨u, r, k1, k2⟩ := fv i x v q1 q2 q3
    exact ⟨u, r, .inl ⟨k1, k2⟩⟩
  · obtain ⟨g1, g2, g3, g4⟩ := gp p hp
    refine ⟨g1, g2, Nat.ne_of_gt g3, fun z => ?_, g4⟩
    exact absurd (Nat.lt_trans (frl p.1 z) g3) (Nat.lt_irrefl _)
/-- the generator has gone to sleep: the consumer's facts, from the generator's -/
theorem sleepX (I : Inv X pins σX H s) (hpn : X.pn = []) (pl : ∀ p ∈ pins, p.1 < s1.heap.objs.size) (hXL : X.env.locals < s1.heap.objs.size) (h0L : X.s_0.heap.objs.size ≤ s1.heap.objs.size) (cl : ∀ x c, X.env.cells.lookup x = some c → c < s1.heap.objs.size)
    (J : Inv (gnB X.prog X.w X.K X.mg X.base N qual scope f cdv Aw X.stack s1 (cutS s s1.heap.objs.size) H) ps σY H' s') (hos : s'.os = s.os) : Inv X pins σX H' s' := by
  have un : Un (frs X.stack) [] H H' (cutH s.heap s1.heap.objs.size) s'.heap := J.base
  have low : ∀ b, b ∉ (List.range (s.heap.objs.size - s1.heap.objs.size)).map (· + s1.heap.objs.size) → b < s.heap.objs.size → b < s1.heap.objs.size := fun b hb lb => by
    by_cases c : b < s1.heap.objs.size
    · exact c
    · have nb : s1.heap.objs.size ≤ b := Nat.le_of_not_lt c
      refine absurd (List.mem_map.mpr ⟨b - s1.heap.objs.size, List.mem_range.mpr (Nat.sub_lt_sub_right nb lb), ?_⟩) hb
      exact Nat.sub_add_cancel nb
  have big : ∀ b, b ∈ (List.range (s.heap.objs.size - s1.heap.objs.size)).map (· + s1.heap.objs.size) → s1.heap.objs.size ≤ b := fun b hb => by
    obtain ⟨j, _, rfl⟩ := List.mem_map.mp hb
    exact Nat.le_add_left _ _
  obtain ⟨hh, gg, dd, tk, oo⟩ := s'
  have eo : oo = s.os := hos
  subst eo
  have cg : ∀ {b o}, b ∉ (List.range (s.heap.objs.size - s1.heap.objs.size)).map (· + s1.heap.objs.size) → s.heap.get? b = some o → (cutH s.heap s1.heap.objs.size).get? b = some o := fun {b o} hb q => by
    rw [cut_get (low b hb (Heap.lt_size q))]
    exact q
  have nst : ∀ b, b ≠ X.env.locals → b ∉ X.fs → b ∉ frs X.stack := fun b h1 h2 z => (List.mem_cons.mp (I.stkSub b z)).elim h1 h2
  obtain ⟨mL, ⟨oL, esL, epL, hL, rL⟩, _⟩ := I.loc
  have nL : X.env.locals ∉ (List.range (s.heap.objs.size - s1.heap.objs.size)).map (· + s1.heap.objs.size) := fun z => absurd (Nat.lt_of_lt_of_le hXL (big _ z)) (Nat.lt_irrefl _)
  refine I.step (g' := gg) (t' := tk) (d' := dd) (ch := (List.range (s.heap.objs.size - s1.heap.objs.size)).map (· + s1.heap.objs.size)) (fun b hb => ?_) (fun b o h1 h2 hb q n => un.keep b o (cg hb q) n (nst b h1 h2) (fun z => nomatch z)) (fun b o h1 h2 hb q n => un.any (cg hb q) n (fun z => nomatch z)) (fun b o hb q n => un.free b o (cg hb q) n (fun z => nomatch z)) (fun b o hb q => un.there b o (cg hb q) (fun z => nomatch z)) un.tups un.frzs un.tbls (fun m hm => ?_) J.hok J.bare
  · have nb := big b hb
    refine ⟨.inr (Nat.le_trans h0L nb), Nat.ne_of_gt (Nat.lt_of_lt_of_le hXL nb), fun x c q => Nat.ne_of_lt (Nat.lt_of_lt_of_le (cl x c q) nb), fun p hp => ?_⟩
    rw [hpn] at hp
    exact Nat.ne_of_lt (Nat.lt_of_lt_of_le (pl p hp) nb)
  · obtain ⟨o, es, ep, ho, hd⟩ := hm
    obtain ⟨sl, e⟩ := un.any (cg nL ho) I.free (fun z => nomatch z)
    exact ⟨_, es, ep, e, hd⟩
end
end LS
set_option maxHeartbeats 2100000
/-! the turns -/
namespace LS
open PySem L2 PySem.Spec PyProof.Rows LamX GenW
abbrev JT := Nat → Nat → L2.St → L2.St → Hp → Prop
/-- behind the body the generator's last statement -/
def aftJ (J : JT) (tp : TS) (m i : Nat) (σY : L2.St) : L2.St → Hp → Prop := fun σX H => tp { nx := fun σ' H' => ∃ m', m' < m ∧ J m' (i + 1) σ' σX H', rt := noRt } σY H
/-- the consumer's turn with the item x -/
def turnJ (J : JT) (tp : TS) (g : TG) (tb : TS) (D : Ends) (m i : Nat) (σY σX : L2.St) (x : V) (H : Hp) : Prop :=
  ∀ T, H T = none → g (.ref T) σX (upd H T (.tup [.int (i : Nat), x])) fun σ2 H2 => tb { D with nx := aftJ J tp m i σY, ct := aftJ J tp m i σY, bk := D.nx } σ2 H2
def tJ (tc : TT) (te : TE) (tp : TS) (g : TG) (tb : TS) (D : Ends) (σY σX : L2.St) (H : Hp) : Prop := ∃ J : JT, (∃ m, m < 1000 ∧ J m 0 σY σX H) ∧
  ∀ m i σY σX H, J m i σY σX H → tc σY H fun b H1 => if b = true then te σY H1 fun x H2 => turnJ J tp g tb D m i σY σX x H2 else D.nx σX H1
/-- what stands in the heap: the generator's frame, its object, the enumerate -/
structure Stand (L a e : Addr) (oF go : Obj) (i : Nat) (H : Hp) (s : Shared) : Prop where
  fr : s.heap.get? L = some oF ∧ H L = none
  ob : s.heap.get? a = some go ∧ H a = none
  en : ∃ old, s.heap.get? e = some (enumObj a (i : Nat) old) ∧ H e = none
section
variable (X : Cx) (pins : List (Addr × Obj)) (env : Env) (N : List Str) (L a e : Addr) (go : Obj) (tp : TS) (g : TG) (tb : TS) (D : Ends)
/-- an item is handed out, the generator sleeps -/
def YJ : Protocol := fun n s₀ v s kap => ∃ (J : JT) (m i : Nat) (σX σY : L2.St) (H : Hp) (x : V) (oF : Obj), RelV x v ∧ Inv X pins σX H s ∧ FrameOk env N L oF σY ∧ Stand L a e oF go i H s ∧ turnJ J tp g tb D m i σY σX x H ∧
  ∀ s', (∃ σ' H', Inv X pins σ' H' s' ∧ Stand L a e oF go (i + 1) H' s' ∧ aftJ J tp m i σY σ' H') → kap (.send .none) s'
def FJ : Nat → Shared → Shared → Prop := fun _ _ s => ∃ σX H, Inv X pins σX H s ∧ D.nx σX H
end
structure Young (X : Cx) (pins : List (Addr × Obj)) (L : Addr) : Prop where
  pn : X.pn = []
  pl : ∀ p ∈ pins, p.1 < L
  loc : X.env.locals < L
  s0 : X.s_0.heap.objs.size ≤ L
  cl : ∀ x c, X.env.cells.lookup x = some c → c < L
theorem Inv.young {X : Cx} {pins : List (Addr × Obj)} {σ : L2.St} {H : Hp} {s : Shared} (I : Inv X pins σ H s) (h : X.pn = []) : Young X pins s.heap.objs.size :=
  ⟨h, fun p hp => Heap.lt_size (I.pin p (List.mem_append_right _ hp)).1, I.lt, I.sz, fun x c e => let ⟨_, q⟩ := I.cell x c e; q.lt⟩
section
variable {X : Cx} {pins ps : List (Addr × Obj)} {σX σY : L2.St} {H H' : Hp} {s s' s1 : Shared} {N : List Str} {qual : Str} {scope : Scope} {f : Addr} {cdv : Value} {B : Around}
theorem frame_of (fl : Flat scope) {s0 : Shared} {H0 : Hp} (I : Inv (gnB X.prog X.w X.K X.mg X.base N qual scope f cdv B X.stack s1 s0 H0) ps σY H s) : ∃ oF, s.heap.get? s1.heap.objs.size = some oF ∧ FrameOk (envOfC qual scope s1.heap.objs.size f cdv) N s1.heap.objs.size oF σY := by
  obtain ⟨m, ⟨o, es, ep, ho, hd, hr⟩, lv⟩ := I.loc
  refine ⟨o, ho, I.len, fun v z => ?_, m, fun h hg => ⟨o, es, ep, hg, hd, hr⟩, fun i x v q1 q2 q3 => ?_⟩
  · rw [hd] at z
    cases z
  · obtain ⟨u, r, l⟩ := lv i x v q1 q2 q3
    rcases l with l | ⟨k, c, e, _⟩
    · exact ⟨u, r, l.1, l.2⟩
    · have e' : (cellsFrom (s1.heap.objs.size + 1) scope.names []).lookup x = some c := e
      rw [cells_nil fl.cell] at e'
      cases e'
variable {a e : Addr} {go : Obj} {J : JT} {D : Ends} {g : TG} {tb : TS} {st1 st2 st3 : Stmt} {test ye : Expr} {wpos yp epos : Pos} {t1 t2 t3 : TS} {tc : TT} {te : TE}
theorem seg_bodyJ (yg : Young X pins s1.heap.objs.size) (hLa : s1.heap.objs.size < a) (hLe : s1.heap.objs.size < e) (god : ∀ v, go.data ≠ .cell v) (fl : Flat scope) (hA : B.frames = some X.stack) (hh : B.handled = none) (hco : scope.isCoroutine = false) (hi : interactive (envOfC qual scope s1.heap.objs.size f cdv) = false)
    (hB : ∀ s0 H0, GBody (gnB X.prog X.w X.K X.mg X.base N qual scope f cdv B X.stack s1 s0 H0) st1 st2 st3 test ye t1 t2 t3 tc te) {c0 : Code} {fs0 : List Frame} (ov0 : B.over c0 fs0 = B.deeper (envOfC qual scope s1.heap.objs.size f cdv)) (sp0 : splitAtGen fs0 = none) (gu0 : fs0.any Frame.guarded = false) {K : Flow → Sem PySem.Fin} {Jr : Value → Sem PySem.Fin}
    (hK : ∀ (n : Nat) (s₀ s : Shared), FJ X pins D n s₀ s → Seg (model X.prog X.w) B (fun n s₀ r s => ((r = .ok (.ret .none) ∨ r = .ok .next) ∧ FJ X pins D n s₀ s) ∨ ∃ e, r = .error e ∧ False) (YJ X pins (envOfC qual scope s1.heap.objs.size f cdv) N s1.heap.objs.size a e go t3 g tb D) n s₀ c0 (K .next) fs0 s)
    (turn : ∀ m i σY σX H, J m i σY σX H → tc σY H fun b H1 => if b = true then te σY H1 fun x H2 => turnJ J t3 g tb D m i σY σX x H2 else D.nx σX H1)
    {n m : Nat} {s₀ s s0 : Shared} {H0 : Hp} (hn : m < n) (I0 : Inv X pins σX H0 s0) (old : Value) (IY : Inv (gnB X.prog X.w X.K X.mg X.base N qual scope f cdv B X.stack s1 (cutS s0 s1.heap.objs.size) H0) [(a, go), (e, enumObj a ((0 : Nat) : Int) old)] σY H s) (hJ : J m 0 σY σX H) :
    Seg (model X.prog X.w) B (fun n s₀ r s => ((r = .ok (.ret .none) ∨ r = .ok .next) ∧ FJ X pins D n s₀ s) ∨ ∃ e, r = .error e ∧ False) (YJ X pins (envOfC qual scope s1.heap.objs.size f cdv) N s1.heap.objs.size a e go t3 g tb D) n s₀ c0 ((exec (.While test [.Expr (.Yield (some ye) yp) epos, st3] [] wpos) (envOfC qual scope s1.heap.objs.size f cdv)).wrap K Jr id id) fs0 s := by
  refine seg_While fun p => ?_
  generalize hE : envOfC qual scope s1.heap.objs.size f cdv = env at ov0 hi
  have ovl : ∀ (k : Result → Sem PySem.Fin), B.over (.whileLoop test [.Expr (.Yield (some ye) yp) epos, st3] [] env) (.ret k none (id false) (id []) c0 p [] :: fs0) = B.deeper env := fun k => (over_loop rfl rfl).trans ov0
  have spl : ∀ (k : Result → Sem PySem.Fin), splitAtGen (.ret k none (id false) (id []) c0 p [] :: fs0) = none := fun k => by
    show Option.map _ (splitAtGen fs0) = none
    rw [sp0]; rfl
  have gul : ∀ (k : Result → Sem PySem.Fin), (Frame.ret k none (id false) (id []) c0 p [] :: fs0).any Frame.guarded = false := fun k => by
    show (false || fs0.any Frame.guarded) = false
    rw [gu0]; rfl
  have hco' : env.scope.isCoroutine = false := by rw [← hE]; exact hco
  have loop : ∀ (m n i : Nat) (s₀ s s0 : Shared) (σX σY : L2.St) (H0 H : Hp) (old : Value), m < n → Inv X pins σX H0 s0 → Inv (gnB X.prog X.w X.K X.mg X.base N qual scope f cdv B X.stack s1 (cutS s0 s1.heap.objs.size) H0) [(a, go), (e, enumObj a ((i : Nat) : Int) old)] σY H s → J m i σY σX H →
      Seg (model X.prog X.w) B (fun n s₀ r s => ((r = .ok (.ret .none) ∨ r = .ok .next) ∧ FJ X pins D n s₀ s) ∨ ∃ e, r = .error e ∧ False) (YJ X pins env N s1.heap.objs.size a e go t3 g tb D) n s₀ (.whileLoop test [.Expr (.Yield (some ye) yp) epos, st3] [] env) ((model X.prog X.w).den (.whileLoop test [.Expr (.Yield (some ye) yp) epos, st3] [] env))
        (.ret (fun r => ((match r with | .ok f => (.pure f : Sem Flow) | .error e => .raise e).onRaise (cameBack env)).wrap K Jr id id) none (id false) (id []) c0 p [] :: fs0) s := by
    refine fun m => Nat.strongRecOn m fun m ih => ?_
    · intro n i s₀ s s0 σX σY H0 H old hmn I0 IY hJ
      obtain ⟨n, rfl⟩ := Nat.exists_eq_succ_of_ne_zero (show n ≠ 0 by omega)
      have GB := hB (cutS s0 s1.heap.objs.size) H0
      have back : ∀ {σ' : L2.St} {H' : Hp} {s' : Shared}, Inv (gnB X.prog X.w X.K X.mg X.base N qual scope f cdv B X.stack s1 (cutS s0 s1.heap.objs.size) H0) [(a, go), (e, enumObj a ((i : Nat) : Int) old)] σ' H' s' → Inv X pins σX H' s' := fun I' => sleepX I0 yg.pn yg.pl yg.loc yg.s0 yg.cl I' I'.os
      subst hE
      refine seg_whileLoop ?_
      rw [ovl]
      refine wpAny_mono (GB.c.run _ s σY H _ IY (turn m i σY σX H hJ)) (fun b s' hb => ?_) fun x s' hx => hx.elim
      obtain ⟨H2, I2, q2⟩ := hb
      cases b with
      | false =>
        rw [if_neg Bool.false_ne_true] at q2 ⊢
        refine seg_execs_nil ?_
        exact seg_leaf (.ok .next) (hK _ _ _ ⟨σX, H2, back I2, q2⟩)
      | true =>
        rw [if_pos rfl] at q2 ⊢
        refine seg_execs_cons (seg_Expr_Yield (spl _) rfl (gul _) ?_ hco' hi)
        rw [ovl]
        refine wpAny_mono (GB.y.run _ s' σY H2 _ I2 q2) (fun v s3 hv => ?_) fun x s' hx => hx.elim
        obtain ⟨x, H3, I3, rv, q3⟩ := hv
        intro kap hk
        obtain ⟨oF, gF, frO⟩ := frame_of fl I3
        have pa := I3.pin (a, go) (List.mem_append_right _ List.mem_cons_self)
        have pe := I3.pin (e, enumObj a ((i : Nat) : Int) old) (List.mem_append_right _ (List.mem_cons_of_mem _ List.mem_cons_self))
        refine ⟨J, m, i, σX, σY, H3, x, oF, rv, back I3, frO, ⟨⟨gF, I3.free⟩, ⟨pa.1, pa.2.1⟩, old, pe.1, pe.2.1⟩, q3, fun s4 w4 => hk .none s4 ?_⟩
        obtain ⟨σ4, H4, I4, S4, q4⟩ := w4
        obtain ⟨old4, e4, n4⟩ := S4.en
        have IY4 := wakeY (ps := [(a, go), (e, enumObj a (((i + 1 : Nat) : Nat) : Int) old4)]) (qual := qual) (f := f) (cdv := cdv) I4 hA hh fl yg.loc yg.s0 frO S4.fr.1 S4.fr.2 (fun p hp => by
          match p, hp with
          | _, .head _ => exact ⟨S4.ob.1, S4.ob.2, hLa, god⟩
          | _, .tail _ (.head _) => exact ⟨e4, n4, hLe, fun v z => by cases z⟩)
        show Seg _ _ _ _ _ _ _ ((execs [st3] _).wrap _ _ _ _) _ _
        refine seg_execs_cons (seg_wrap ?_)
        rw [ovl]
        refine wpAny_mono ((hB (cutS s4 s1.heap.objs.size) H4).s3.run _ s4 σY H4 _ IY4 q4) (fun fl s5 hs => ?_) fun x s' hx => hx.elim
        cases fl with
        | next =>
          obtain ⟨σ5, H5, I5, m5, hm5, j5⟩ := hs
          exact seg_execs_nil (seg_again rfl (ih m5 hm5 n (i + 1) _ _ s4 σ4 σ5 H4 H5 old4 (by omega) I4 I5 j5))
        | brk => obtain ⟨_, _, _, z⟩ := hs; exact z.elim
        | cont => obtain ⟨_, _, _, z⟩ := hs; exact z.elim
        | ret u => obtain ⟨_, _, _, _, _, z⟩ := hs; exact z.elim
  subst hE
  exact loop m n 0 s₀ s s0 σX σY H0 H old hn I0 IY hJ
end
end LS
set_option maxHeartbeats 2100000
/-! the generator is made, the loop over enumerate -/
namespace LS
open PySem L2 PySem.Spec PyProof.Rows LamX GenW
abbrev RJ (X : Cx) (pins : List (Addr × Obj)) (D : Ends) : GenEnd := fun n s₀ r s => ((r = .ok (.ret .none) ∨ r = .ok .next) ∧ FJ X pins D n s₀ s) ∨ ∃ e, r = .error e ∧ False
section
variable {X : Cx} {pins : List (Addr × Obj)} {σX : L2.St} {H : Hp} {s s1 s2 : Shared} {N ps : List Str} {qual name : Str} {scope : Scope} {f : Addr} {cdv : Value} {B : Around}
variable {a e : Addr} {go oF : Obj} {D : Ends} {g : TG} {tb : TS} {st1 st2 st3 : Stmt} {test ye : Expr} {wpos yp epos : Pos} {t1 t2 t3 : TS} {tc : TT} {te : TE} {vs : List V}
theorem seg_startJ (yg : Young X pins s1.heap.objs.size) (hLa : s1.heap.objs.size < a) (hLe : s1.heap.objs.size < e) (god : ∀ v, go.data ≠ .cell v) (fl : Flat scope) (hA : B.frames = some X.stack) (hh : B.handled = none) (hco : scope.isCoroutine = false) (hi : interactive (envOfC qual scope s1.heap.objs.size f cdv) = false)
    (hB : ∀ s0 H0, GBody (gnB X.prog X.w X.K X.mg X.base N qual scope f cdv B X.stack s1 s0 H0) st1 st2 st3 test ye t1 t2 t3 tc te) (I2 : Inv X pins σX H s2) (S2 : Stand s1.heap.objs.size a e oF go 0 H s2) (frO : FrameOk (envOfC qual scope s1.heap.objs.size f cdv) N s1.heap.objs.size oF (start N vs))
    (hq : t1 { nx := fun σ1 H1 => t2 { nx := fun σ2 H2 => tJ tc te t3 g tb D σ2 σX H2, rt := noRt } σ1 H1, rt := noRt } (start N vs) H) {s₀ : Shared} :
    Seg (model X.prog X.w) B (RJ X pins D) (YJ X pins (envOfC qual scope s1.heap.objs.size f cdv) N s1.heap.objs.size a e go t3 g tb D) 1000 s₀ (.func [st1, st2, .While test [.Expr (.Yield (some ye) yp) epos, st3] [] wpos] (envOfC qual scope s1.heap.objs.size f cdv)) ((model X.prog X.w).den (.func [st1, st2, .While test [.Expr (.Yield (some ye) yp) epos, st3] [] wpos] (envOfC qual scope s1.heap.objs.size f cdv))) [] s2 := by
  obtain ⟨old, e2, n2⟩ := S2.en
  have J0 := wakeY (ps := [(a, go), (e, enumObj a ((0 : Nat) : Int) old)]) (qual := qual) (f := f) (cdv := cdv) I2 hA hh fl yg.loc yg.s0 frO S2.fr.1 S2.fr.2 (fun p hp => by
    match p, hp with
    | _, .head _ => exact ⟨S2.ob.1, S2.ob.2, hLa, god⟩
    | _, .tail _ (.head _) => exact ⟨e2, n2, hLe, fun v z => by cases z⟩)
  have GB := hB (cutS s2 s1.heap.objs.size) H
  refine seg_func (seg_execs_cons (seg_wrap ?_))
  rw [over_func]
  refine wpAny_mono (GB.s1.run _ s2 (start N vs) H _ J0 hq) (fun fw s3 hs => ?_) fun _ _ z => z.elim
  cases fw with
  | next =>
    obtain ⟨σ3, H3, J3, q3⟩ := hs
    refine seg_execs_cons (seg_wrap ?_)
    rw [over_func]
    refine wpAny_mono (GB.s2.run _ s3 σ3 H3 _ J3 q3) (fun fw s4 hs => ?_) fun _ _ z => z.elim
    cases fw with
    | next =>
      obtain ⟨σ4, H4, J4, JJ, ⟨m, hm, jm⟩, turn⟩ := hs
      refine seg_execs_cons ?_
      refine seg_bodyJ yg hLa hLe god fl hA hh hco hi hB over_func rfl rfl (fun n s₀ s9 fin => ?_) turn hm I2 old J4 jm
      exact seg_execs_nil (seg_end (.ok (.ret .none)) (.inl ⟨.inl rfl, fin⟩))
    | brk => obtain ⟨_, _, _, z⟩ := hs; exact z.elim
    | cont => obtain ⟨_, _, _, z⟩ := hs; exact z.elim
    | ret u => obtain ⟨_, _, _, _, _, z⟩ := hs; exact z.elim
  | brk => obtain ⟨_, _, _, z⟩ := hs; exact z.elim
  | cont => obtain ⟨_, _, _, z⟩ := hs; exact z.elim
  | ret u => obtain ⟨_, _, _, _, _, z⟩ := hs; exact z.elim
/-- what the call of a generator def gives -/
def MadeJ (env : Env) (N : List Str) (body : List Stmt) (s : Shared) (vs : List V) (u : Value) (s' : Shared) : Prop :=
  ∃ (a : Addr) (g : Nat) (go oF : Obj), u = .ref a ∧ s.heap.objs.size < a ∧ a < s'.heap.objs.size ∧ IsGo go g ∧ (∀ v, go.data ≠ .cell v) ∧ s'.heap.get? a = some go ∧ s'.gens[g]? = some (.fresh (.func body env)) ∧ s'.os = s.os ∧ AllBare s'.gens ∧ (∀ b o, s.heap.get? b = some o → s'.heap.get? b = some o) ∧
    s'.heap.get? s.heap.objs.size = some oF ∧ FrameOk env N s.heap.objs.size oF (start N vs)
theorem gj_made {P : Program} {w : World} {K : PySem.W.Frag} {mg : Str → Option Value} {base : Heap} {k : Nat} {params : Arguments} {dV kV doc pm ct oc : Value} {an od : Option Addr} {osl : Array (Option Value)} {body : List Stmt} {A : Around} {outer : List Env} {args : Args} {us : List Value}
    (lk : K.lookup f = some ⟨oc, od, .func (PySem.W.fnOf name qual params body scope dV kV doc pm an cdv ct), osl⟩) (hcd : PySem.W.codeIn K cdv qual = true) (G : GScope N ps scope) (fl : Flat scope) (hr : Room k A) (e0 : Env0 P w K mg base A outer s H) (hb : BindsTo s (PySem.W.fnOf name qual params body scope dV kV doc pm an cdv ct) args (ps.zip us)) (r : Vals vs us) (hl : vs.length = ps.length) :
    codeAny (model P w) A (.call (.ref f) args) (fun rr s' => match rr with | .ok (.ret u) => MadeJ (envOfC qual scope s.heap.objs.size f cdv) N body s vs u s' | _ => False) s := by
  have inK : K.In s.heap := e0.mod.kin.keeps fun b ob z => (e0.bs b ob z).1
  refine codeAny_call_generator hr.depth (inK _ _ lk) rfl G.co G.gen rfl (PySem.W.codeRec_of inK hcd) (hb _ _ _ _ ?_)
  refine wpAny_newFunctionEnv_cells G.kind (fun y hy => (G.par y.1 (List.of_mem_zip (show (y.1, y.2) ∈ ps.zip us from hy)).1).imp id fun z => ⟨z, PySem.W.cellsFrom_some _ _ _ (.inl z)⟩) fun env henv s1 x => ?_
  subst henv
  have kp1 := x.toInCall.keep
  have noL : s1.heap.NoLimit := (e0.mod.nolimit.keeps fun b ob z => (e0.bs b ob z).1).keeps kp1
  refine ⟨noL, ?_⟩
  have lt1 := x.toInCall.ns.lt
  have same1 : s1.os = s.os ∧ s1.gens = s.gens := by
    obtain ⟨_, _, e, _⟩ := x.done
    rw [e]
    exact ⟨rfl, rfl⟩
  have I1 : Inv (gcxOf P w K mg base N qual scope f cdv A outer s H (fun _ _ _ => False) []) [] (start N vs) H s1 := inv_startG G hr.hd e0 hl r x
  have frame : ∃ oF, s1.heap.get? s.heap.objs.size = some oF ∧ FrameOk (envOfC qual scope s.heap.objs.size f cdv) N s.heap.objs.size oF (start N vs) := by
    obtain ⟨m, ⟨o, es, ep, ho, hd, hrr⟩, lv⟩ := I1.loc
    refine ⟨o, ho, I1.len, fun v z => ?_, m, fun h hg => ⟨o, es, ep, hg, hd, hrr⟩, fun i x v q1 q2 q3 => ?_⟩
    · rw [hd] at z
      cases z
    · obtain ⟨u, rr, l⟩ := lv i x v q1 q2 q3
      rcases l with l | ⟨_, c, e, _⟩
      · exact ⟨u, rr, l.1, l.2⟩
      · have e' : (cellsFrom (s.heap.objs.size + 1) scope.names []).lookup x = some c := e
        rw [cells_nil fl.cell] at e'
        cases e'
  obtain ⟨oF, gF, frO⟩ := frame
  generalize hgo : ({ cls := .type "generator", data := .fields #[.int s1.gens.size 0, .str name s1.toks, .str qual (s1.toks + 1)] } : Obj) = go
  have main : MadeJ (envOfC qual scope s.heap.objs.size f cdv) N body s vs (.ref s1.heap.objs.size) { s1 with gens := s1.gens.push (.fresh (.func body (envOfC qual scope s.heap.objs.size f cdv))), toks := s1.toks + 1 + 1, heap := s1.heap.push go } := by
    refine ⟨s1.heap.objs.size, s1.gens.size, go, oF, rfl, lt1, by rw [Heap.size_push]; exact Nat.lt_succ_self _, ?_, ?_, Heap.get?_push_size _ (by rw [← hgo]; rfl), Array.getElem?_push_size .., same1.1, AllBare.push (by rw [same1.2]; exact e0.bare) rfl, fun b ob z => Heap.get?_push_of_some _ (kp1 b ob z), Heap.get?_push_of_some _ gF, frO⟩
    · rw [← hgo]
      exact ⟨rfl, ⟨_, _, rfl⟩, rfl⟩
    · intro v z
      rw [← hgo] at z
      cases z
  exact main
end
end LS
set_option maxHeartbeats 2100000
/-! [len(x) for x in g(..)], g a generator def -/
namespace LS
open PySem L2 PySem.Spec PyProof.Rows LamX GenW
theorem IsGo.gen {go : Obj} {g : Nat} (i : IsGo go g) {h : Heap} {a : Addr} (e : h.get? a = some go) : h.IsGen a g := by
  obtain ⟨nm, qn, d⟩ := i.dat
  exact ⟨go, nm, qn, e, i.cls, d, i.slt⟩
theorem sb_ns {h h' : Heap} {D C : Addr} {m : Str → Option Value} (sb : Heap.SameBut D h h') (ne : C ≠ D) (n : h.Ns C m) : h'.Ns C m := by
  obtain ⟨o, es, ep, ho, hr⟩ := n
  exact ⟨o, es, ep, (sb.2 C ne).trans ho, hr⟩
/-- the turns of the comprehension -/
theorem glen_loop {Y : Cx} {A : Around} {env : Env} {D C a : Addr} {g : Nat} {go : Obj} {Q : List V → Hp → Prop} {R : Result → Shared → Prop} {y : Str} {p1 p2 p3 p4 pos : Pos} {iter : Expr} {scope : Scope}
    (hh : A.handled = none) (hd : A.depth < recursionLimit) (isg : IsGo go g) (hpn : (a, go) ∈ Y.pn) (eL : env.locals = C) (hk : env.scope.kind = .function) (hy : env.kindOf y = some .local) (hl : env.kindOf "len" = some .globalImplicit) (eg : env.globals = mainGlobals) (eb : env.builtins = builtinsNs) (hm : Y.mg "len" = none) (hdy : (y == ("__debug__" : Str)) = false)
    (ne : D ≠ C) (na : a ≠ D) (nc : a ≠ C) (fD : Far Y D) (fC : Far Y C)
    (hend : ∀ s' ys σ' H', GN Y D C ys σ' H' s' → Q ys H' → ∀ h', (∀ b o, s'.heap.get? b = some o → h'.get? b = some o) → ∀ gs, AllBare gs → R (.ok .next) { s' with heap := h', gens := gs }) :
    ∀ (n : Nat) (s : Shared), s.heap.get? a = some go → s.heap.NoLimit → (∃ gs, s.gens[g]? = some gs ∧ gs.Goes (model Y.prog Y.w) A.in1 (RN Y D C Q) (YN Y D C) n (.send .none) (s.setGen g .running)) →
      codeAny (model Y.prog Y.w) A (.compLoop (.ListComp (.Call (.Name "len" p1) [.Name y p2] [] p3) [⟨.Name y p4, iter, [], 0⟩] scope pos) 0 (.ref a) (.ref D) env) R s := by
  intro n0 s0 h0 l0 g0
  refine compLoop_any (fun n s => s.heap.get? a = some go ∧ s.heap.NoLimit ∧ ∃ gs, s.gens[g]? = some gs ∧ gs.Goes (model Y.prog Y.w) A.in1 (RN Y D C Q) (YN Y D C) n (.send .none) (s.setGen g .running)) ?_ n0 ⟨h0, l0, g0⟩
  rintro n s ⟨ha, hlim, gs, hgs, hgo⟩
  refine wpAny_gsz (n := g + 1) (Array.getElem?_eq_some_iff.mp hgs).1 (next_genG (F := EN Y D C Q) (Er := fun _ _ => False) hh hlim hd (isg.gen ha) hgs hgo (fun v s₁ gs' hbare hv => ?_) (fun s₁ hp h' hk' => ?_) fun e s₁ z => z.elim)
  · intro hsz
    obtain ⟨ys, z, zs, σ', H', rfl, hz, G, yl, kk⟩ := hv
    have inG : g < s₁.gens.size := Nat.lt_of_lt_of_eq (show g < (s₁.setGen g gs').gens.size from hsz) (setGen_size _ _ _)
    obtain ⟨hD0, hC0, ⟨mC, nsC⟩, acc, cD, rA, eD⟩ := G.at
    obtain ⟨_, _, _, _, _, I⟩ := id G
    have eA : s₁.heap.get? a = some go := (I.pin (a, go) (List.mem_append_left _ hpn)).1
    obtain ⟨mb, hb1, hb2⟩ := I.mod.blt
    obtain ⟨its, ri, pl, hzl⟩ := I.list (SqL.of hz)
    have zC : z ≠ C := ne_of_none hz hC0
    have zD : z ≠ D := ne_of_none hz hD0
    have accl : acc.size = ys.length := by
      have q1 := rA.length
      rw [Array.length_toList] at q1
      exact q1.symm
    show wpAny _ _ (pure ()) _ _ _
    refine wpAny_pure ?_
    refine wpAny_assign_Name (wpAny_storeName_local (m := mC) hy (by rw [eL]; exact nsC) (fun h' hn' sb => ?_) (by rw [hk]; rfl))
    rw [eL] at hn' sb
    refine wpAny_tests_nil ?_
    rw [if_pos rfl]
    have old : ∀ {q : Addr} {m : Str → Option Value}, Y.base.Ns q m → q ≠ C ∧ q ≠ D := fun {q m} hq => by
      have q1 : q < Y.base.objs.size := hq.lt
      have q2 := Nat.lt_of_lt_of_le q1 I.ok.bsz
      exact ⟨Nat.ne_of_lt (Nat.lt_of_lt_of_le q2 fC.young), Nat.ne_of_lt (Nat.lt_of_lt_of_le q2 fD.young)⟩
    have glob' : h'.Ns env.globals Y.mg := by
      rw [eg]
      exact sb_ns sb (old I.mod.glob).1 (I.mod.glob.keeps I.bk)
    have blt' : h'.Ns env.builtins mb := by
      rw [eb]
      exact sb_ns sb (old hb1).1 (hb1.keeps I.bk)
    have isl : h'.IsList z its.toArray := by
      obtain ⟨o, h1, h2⟩ := pl.isList
      exact ⟨o, (sb.2 z zC).trans h1, h2⟩
    refine Call_ (Calls.Name_function_global hk hl (Calls.loadGlobal_builtin glob' hm blt' ((hb2 _ (by decide)).trans boot_len) (PyProof.Rows.callWith_builtin1 (PyProof.Rows.args_cons (wpAny_Name (wpAny_loadName_local hk hy (by rw [eL]; exact hn') (if_pos rfl) (PyProof.Rows.args_nil ?_)) hdy) rfl) rfl rfl)))
    have il : its.length = zs.length := ri.length.symm
    have hz63 := line63
    refine Calls.call_len_list isl (by simp only [List.size_toArray] <;> omega) ?_
    refine append_at (its := acc) (n := cD) ((sb.2 D ne).trans eD) (fun h2 sb2 e2 => ?_) (by rw [accl]; exact Nat.le_of_lt (small1000 (by omega)))
    have keep2 : ∀ b o, b ≠ D → b ≠ C → s₁.heap.get? b = some o → h2.get? b = some o := fun b o q1 q2 q => (sb2.2 b q1).trans ((sb.2 b q2).trans q)
    have woke : ∀ (gz : Array GenState) (tz : Nat), AllBare gz → Woke D C (.int (zs.length : Nat)) s₁ { s₁ with heap := h2, gens := gz, toks := tz } := fun gz tz hz => by
      refine ⟨rfl, hz, keep2, ⟨_, sb_ns sb2 (Ne.symm ne) hn'⟩, fun acc' c' q => ?_⟩
      rw [eD] at q
      cases q
      exact ⟨_, _, ⟨_, by rw [List.size_toArray, il]⟩, e2⟩
    have bare2 : AllBare ((s₁.setGen g gs').setGen g .running).gens := allBare_setGen (s := s₁.setGen g gs') (allBare_setGen I.bare hbare) rfl
    have k2 := fun tz : Nat => kk _ (woke ((s₁.setGen g gs').setGen g .running).gens tz bare2)
    cases n with
    | zero => exact (k2 0).elim
    | succ m =>
      refine ⟨m, Nat.lt_succ_self _, keep2 a go na nc eA, ?_, gs', setGen_at inG, k2 _⟩
      obtain ⟨mc, l1, l2⟩ := I.mod.nolimit
      exact ⟨mc, (l1.keeps I.bk).at' fun o q => keep2 _ o (old l1).2 (old l1).1 q, l2⟩
  · intro hsz
    obtain ⟨ys, σ', H', G, q⟩ := hp
    obtain ⟨_, _, _, _, _, I⟩ := id G
    exact hend s₁ ys σ' H' G q h' hk' _ (allBare_setGen I.bare rfl)
abbrev SpN := List V → Hp → (List V → Hp → Prop) → Prop
def tGLen (sp : SpN) (ta : TA) : TE := fun σ H Q => ta σ H fun vs H1 => sp vs H1 fun ys H2 => ys.length ≤ sizeLine ∧ ∀ D, H2 D = none → Q (.ref D) (upd H2 D (.lst ys))
/-- [len(y) for y in x(e1, ..)] -/
theorem pe_glen {X : Cx} {k : Nat} {x qual y : Str} {st : Stmt} {f : Addr} {fd : FuncData} {N ps : List Str} {st1 st2 st3 : Stmt} {test e e1 : Expr} {es : List Expr} {yp epos wpos p1 p2 p3 p4 pg pc pos : Pos} {scope : Scope} {ta : TA} {sp : SpN}
    (F : Fun X.K x qual st f fd) (hbd : defBody st = [st1, st2, .While test [.Expr (.Yield (some e) yp) epos, st3] [] wpos]) (G : GScope N ps (defScope st)) (hi : ∀ L c, interactive (envOfC qual (defScope st) L f c) = false) (hb : Binds X.K fd ps []) (hr : Room (k + 2) X.A) (hgl : Gl X x) (hmx : X.mg x = some (.ref f)) (hml : X.mg "len" = none)
    (ha : PA X (e1 :: es) ta) (hlen : ∀ vs H Q, sp vs H Q → vs.length = ps.length)
    (hbody : ∀ (cdv : Value) (A : Around) (outer : List Env) (s : Shared) (H : Hp) (vs : List V) (Q : List V → Hp → Prop) (pn : List (Addr × Obj)), Room k (A.deeper (envOfC qual (defScope st) s.heap.objs.size f cdv)) → sp vs H Q →
      ∃ t1 t2 t3 tc te, GBody (gnX X.prog X.w X.K X.mg X.base N qual (defScope st) f cdv A outer s H pn) st1 st2 st3 test e t1 t2 t3 tc te ∧ tGN t1 t2 t3 tc te Q (start N vs) H)
    (kd : scope.kind = .function) (un : ∀ y ∈ scope.names, y.2 = .local → scope.names.lookup y.1 = some .local) (nf : ∀ y ∈ scope.names, y.2 ≠ .free) (ky : ∀ cl C, (compEnvC scope cl C X.env).kindOf y = some .local) (kl : ∀ cl C, (compEnvC scope cl C X.env).kindOf "len" = some .globalImplicit) (kk : ∀ cl C, (compEnvC scope cl C X.env).scope.kind = .function)
    (hdy : (y == ("__debug__" : Str)) = false := by decide) (hdb : (x == ("__debug__" : Str)) = false := by decide) (hs : ∀ v, foldedSetIterable (.Call (.Name x pg) (e1 :: es) [] pc) X.env v = pure v := by intro _; rfl)
    (he : starEach (e1 :: es) X.env = (false, eval e1 X.env) :: starEach es X.env := by rfl) (hpl : (backTo pc (starEach es X.env)).any (·.1) = false := by rfl) :
    PE X (.ListComp (.Call (.Name "len" p1) [.Name y p2] [] p3) [⟨.Name y p4, .Call (.Name x pg) (e1 :: es) [] pc, [], 0⟩] scope pos) (tGLen sp ta) := by
  constructor; intro pins s σ H Q I h
  obtain ⟨oc, od, kV, doc, pm, an, cdv, ct, osl, efd, lk, hcd⟩ := F.ex
  rw [eval_ListComp]
  refine wpAny_comprehension_free (use := none) rfl hs (closure_ok (env := X.env) fun q hq z => absurd z (nf q hq)) kd un ?_
  refine wpAny_Call_Name_kw (ld_glob I hgl hmx ?_ hdb)
  refine PySem.W.callWith_K (h₀ := X.base) I.ok.mod.kin F.kp (thn (ha.run pc pins s σ H _ I h) fun us s1 ⟨vs, H1, I1, r, q⟩ => ⟨I1.kIn, ?_⟩) he hpl
  have hl := hlen vs H1 _ q
  have hus : us.length = ps.length := by rw [← r.length]; exact hl
  have bt := hb s1 us I1.kIn (by simpa using hus)
  rw [List.append_nil] at bt
  rw [efd, hbd] at lk bt
  refine wpAny_call (codeAny_mono (gn_made (k := k) lk hcd G hi (hr.mono (by omega)) I1.env0 bt r hl fun Aw pn hrw => hbody cdv Aw X.stack s1 H1 vs _ pn hrw q) fun rr s2 hq => ?_)
  match rr, hq with
  | .error _, hq => exact hq.elim
  | .ok .next, hq => exact hq.elim
  | .ok .brk, hq => exact hq.elim
  | .ok .cont, hq => exact hq.elim
  | .ok (.ret u), hq =>
    obtain ⟨a, g, c, go, rfl, ha1, ha2, isg, ga, hgs, hos, hba, hlim, hk, seg⟩ := hq
    refine wpAny_pyIter_gen (isg.gen ga) ?_
    refine wpAny_newObj_type (newEnv_comp ?_) (Nat.zero_le _)
    obtain ⟨D, hD⟩ : ∃ n : Addr, s2.heap.objs.size = n := ⟨_, rfl⟩
    obtain ⟨s3, hs3⟩ : ∃ t : Shared, { s2 with heap := s2.heap.push (lstObj #[] 0) } = t := ⟨_, rfl⟩
    have h3 : s3.heap = s2.heap.push (lstObj #[] 0) := by rw [← hs3]
    rw [hD]; change codeAny _ _ _ _ { ({ s2 with heap := s2.heap.push (lstObj #[] 0) } : Shared) with heap := pushCells (({ s2 with heap := s2.heap.push (lstObj #[] 0) } : Shared).heap.push _) _ }; rw [hs3]
    have sz3 : s3.heap.objs.size = D + 1 := by rw [h3, Heap.size_push, hD]
    show codeAny _ _ (.compStart (.ListComp (.Call (.Name "len" p1) [.Name y p2] [] p3) [⟨.Name y p4, .Call (.Name x pg) (e1 :: es) [] pc, [], 0⟩] scope pos) 0 (.ref a) (.ref D) (compEnvC scope (cellsFrom (s3.heap.objs.size + 1) scope.names (cloFrom X.env.cells scope.names [])) s3.heap.objs.size X.env)) (compPost (model X.prog X.w) X.A X.xe none (EP X pins σ Q) (.ref D) s3.heap.objs.size) { s3 with heap := pushCells (s3.heap.push { cls := .type "dict", data := .dict #[] }) scope.names }
    generalize hce : compEnvC scope (cellsFrom (s3.heap.objs.size + 1) scope.names (cloFrom X.env.cells scope.names [])) s3.heap.objs.size X.env = ce
    have cL : ce.locals = s3.heap.objs.size := by rw [← hce]; rfl
    have cG : ce.globals = mainGlobals := by subst hce; exact I1.ok.glob
    have cB : ce.builtins = builtinsNs := by subst hce; exact I1.ok.blt
    have cK : ce.scope.kind = .function := by rw [← hce]; exact kk _ _
    have cY : ce.kindOf y = some .local := by rw [← hce]; exact ky _ _
    have cN : ce.kindOf "len" = some .globalImplicit := by rw [← hce]; exact kl _ _
    clear hce
    generalize hC : s3.heap.objs.size = C at cL ⊢
    have eC : C = D + 1 := hC.symm.trans sz3
    generalize hs4 : ({ s3 with heap := pushCells (s3.heap.push { cls := .type "dict", data := .dict #[] }) scope.names } : Shared) = s4
    have os4 : s4.os = s2.os := by rw [← hs4, ← hs3]
    have gn4 : s4.gens = s2.gens := by rw [← hs4, ← hs3]
    have up3 : ∀ b o, s3.heap.get? b = some o → s4.heap.get? b = some o := fun b o z => by rw [← hs4]; exact pushCells_keeps _ _ _ _ (Heap.get?_push_of_some _ z)
    have up2 : ∀ b o, s2.heap.get? b = some o → s4.heap.get? b = some o := fun b o z => up3 b o (by rw [h3]; exact Heap.get?_push_of_some _ z)
    have eD : s4.heap.get? D = some (lstObj #[] 0) := up3 D _ (by rw [h3, ← hD]; exact Heap.get?_push_size _ rfl)
    have nsC : s4.heap.Ns C fun _ => none := by
      rw [← hs4]
      refine Heap.Ns.keeps (h := s3.heap.push { cls := .type "dict", data := .dict #[] }) ?_ fun b o z => pushCells_keeps _ _ _ _ z
      rw [← hC]
      exact Heap.Ns.new _ _
    have neDC : D ≠ C := by rw [eC]; exact Nat.ne_of_lt (Nat.lt_succ_self _)
    have aD : a < D := by rw [← hD]; exact ha2
    have gsz : g < s2.gens.size := (Array.getElem?_eq_some_iff.mp hgs).1
    obtain ⟨farD, farC, sg⟩ := seg X.A.in1 D C (s4.setGen g .running) (hr.mono (by omega)).in1 I1.ok.frames (by rw [hD]; exact Nat.le_refl _) (by rw [hD, eC]; exact Nat.le_succ _) neDC up2 ⟨0, eD⟩ ⟨_, nsC⟩ (os4.trans hos) (allBare_setGen (by rw [gn4]; exact hba) rfl)
    have leD : s1.heap.objs.size ≤ D := Nat.le_trans ha1 (Nat.le_of_lt aD)
    have loop : codeAny (model X.prog X.w) X.A (.compLoop (.ListComp (.Call (.Name "len" p1) [.Name y p2] [] p3) [⟨.Name y p4, .Call (.Name x pg) (e1 :: es) [] pc, [], 0⟩] scope pos) 0 (.ref a) (.ref D) ce) (compPost (model X.prog X.w) X.A X.xe none (EP X pins σ Q) (.ref D) C) s4 := by
      refine glen_loop (Y := gnX X.prog X.w X.K X.mg X.base N qual (defScope st) f cdv X.A.in1 X.stack s1 H1 [(a, go)]) hr.hd hr.depth isg List.mem_cons_self cL cK cY cN cG cB hml hdy neDC (Nat.ne_of_lt aD) (Nat.ne_of_lt (Nat.lt_trans aD (by rw [eC]; exact Nat.lt_succ_self _))) farD farC (fun s' ys σ' H' G' q' h' hk' gs' hb' => ?_) 1000 s4 (up2 a go ga) (hlim.keeps up2) ⟨.fresh c, by rw [gn4]; exact hgs, rfl, sg⟩
      obtain ⟨hD0, hC0, ⟨m, nsm⟩, acc, cD, rA, eD'⟩ := G'.at
      obtain ⟨_, _, _, _, _, I'⟩ := id G'
      have un' : Un (frs X.stack) [] H1 H' s1.heap h' := Un.trans I'.base (Un.kept hk')
      have J1 : Inv X pins σ (upd H' D (.lst ys)) { s' with heap := h', gens := gs' } := I1.drained (s' := { s' with heap := h', gens := gs' }) (ex := []) leD q'.1 (hk' _ _ eD') rA ExOk.nil I'.os hb' un' (I'.hok.kept hk') hD0
      refine ⟨m, nsm.keeps hk', fun h'' sb => ?_⟩
      obtain ⟨x0, x1, x2, x3, x4, x5⟩ := I1.fpOk (H' := upd H' D (.lst ys)) (b := C) (Nat.le_trans leD (by rw [eC]; exact Nat.le_succ _)) (by rw [upd_ne (Ne.symm neDC)]; exact hC0)
      exact ⟨.ref D, _, J1.turned (t' := s'.toks) (fun b o hb z => (sb.2 b hb).trans z) x0 x1 x3 x4 x5, rfl, q'.2 D hD0⟩
    exact codeAny_compStart_list loop (wpAny_pyIter_gen (isg.gen (up2 a go ga)) loop)
end LS
set_option maxHeartbeats 2100000
/-! for i, x in enumerate(g(..)): body -/
namespace LS
open PySem L2 PySem.Spec PyProof.Rows LamX GenW
theorem bare_hush {s : Shared} (h : AllBare s.gens) : AllBare (hushS s).gens := fun y hy => by
  obtain ⟨i, hi⟩ := Array.mem_iff_getElem?.mp hy
  have hi' : (s.gens.map hush)[i]? = some y := hi
  rw [Array.getElem?_map] at hi'
  obtain ⟨z, hz, e⟩ := Option.map_eq_some_iff.mp hi'
  rw [← e, hush_bare]
  exact h z (Array.mem_iff_getElem?.mpr ⟨i, hz⟩)
theorem _root_.L2.Inv.gens' {X : Cx} {pins : List (Addr × Obj)} {σ : L2.St} {H : Hp} {s s' : Shared} (I : Inv X pins σ H s) (hb : AllBare s'.gens) (e : s' = { s with gens := s'.gens }) : Inv X pins σ H s' := by
  rw [e]
  exact ⟨I.ok, I.os, hb, I.base, I.loc, I.cell, I.free, I.freeC, I.pin, I.hok, I.len⟩
theorem beside {α : Type} {M : Model} {A : Around} {t : Sem α} {post : α → Shared → Prop} {xe E : Value → Shared → Prop} {s : Shared} (b : AllBare s.gens) (h : wpAny M A t post xe (hushS s)) (hp : ∀ a s1, post a s1 → AllBare s1.gens) (hx : ∀ e s1, xe e s1 → False) :
    wpAny M A t (fun (a : α) (s' : Shared) => (∀ (i : Nat) (x : GenState), s.gens[i]? = some x → isSleep x = true → s'.gens[i]? = some x) ∧ AllBare s'.gens ∧ ∃ s1, post a s1 ∧ s' = { s1 with gens := s'.gens }) E s :=
  wpAny_mono (wpAny_beside (Q := post) (E := fun _ _ => False) b (wpAny_mono h (fun a s1 q => ⟨hp a s1 q, q⟩) fun e s1 z => (hx e s1 z).elim)) (fun _ _ q => q) fun e s1 z => by
    obtain ⟨_, _, _, q, _⟩ := z
    exact q.elim
section
variable {X : Cx} {pins : List (Addr × Obj)} {N : List Str} {env : Env} {L a e : Addr} {go : Obj} {gi : Nat} {t3 tb : TS} {g : TG} {D : Ends} {elts : List Expr} {kk : Nat} {tpos : Pos} {body : List Stmt} {R : Result → Shared → Prop}
theorem forJ_loop (hxe : ∀ e s, X.xe e s → False) (hh : X.A.handled = none) (hd : X.A.in1.depth < recursionLimit) (hg : PG X (.Tuple elts kk tpos) g) (hb : PSs X body tb) (isg : IsGo go gi) (god : ∀ v, go.data ≠ .cell v) (neLe : L ≠ e) (neae : a ≠ e)
    (fpL : ∀ {H' : Hp}, H' L = none → FpOk X pins H' L) (fpa : ∀ {H' : Hp}, H' a = none → FpOk X pins H' a) (fpe : ∀ {H' : Hp}, H' e = none → FpOk X pins H' e)
    (hnx : ∀ s' σ H, Inv X pins σ H s' → D.nx σ H → R (.ok .next) s') (hrt : ∀ s' σ H x v, Inv X pins σ H s' → RelV x v → D.rt x H → R (.ok (.ret v)) s') :
    ∀ (n : Nat) (s : Shared), (∃ (i : Int) (old : Value), s.heap.get? e = some (enumObj a i old)) → s.heap.get? a = some go → s.heap.NoLimit → (∃ gs, s.gens[gi]? = some gs ∧ gs.Goes (model X.prog X.w) X.A.in1.in1 (RJ X pins D) (YJ X pins env N L a e go t3 g tb D) n (.send .none) (s.setGen gi .running)) →
      codeAny (model X.prog X.w) X.A (.forLoop (.Tuple elts kk tpos) (.ref e) body [] X.env) R s := by
  intro n0 s0 h1 h2 h3 h4
  refine codeAny_forLoop_any (fun n s => (∃ (i : Int) (old : Value), s.heap.get? e = some (enumObj a i old)) ∧ s.heap.get? a = some go ∧ s.heap.NoLimit ∧ ∃ gs, s.gens[gi]? = some gs ∧ gs.Goes (model X.prog X.w) X.A.in1.in1 (RJ X pins D) (YJ X pins env N L a e go t3 g tb D) n (.send .none) (s.setGen gi .running)) ?_ n0 ⟨h1, h2, h3, h4⟩
  rintro n s ⟨⟨i0, old0, ge0⟩, ga0, hlim, gs, hgs, hgo⟩
  refine wpAny_gsz (n := gi + 1) (Array.getElem?_eq_some_iff.mp hgs).1 (enum_item (isEnum_obj ge0) (nextOf_gen (A := X.A.in1) (Fi := FJ X pins D) hh hlim hd (isg.gen ga0) hgs hgo (fun v s₁ gs' hbare hsl hv => ?_) (fun s₁ hp h' x hk hx => ?_)))
  · obtain ⟨J, m, i, σX, σY, H, x, oF, rv, IX, frO, S, tj, kap⟩ := hv
    obtain ⟨old, ge, nE⟩ := S.en
    refine ⟨((i : Nat) : Int), old, isEnum_obj ge, fun h' tk ho hT hsz hkeep => ?_⟩
    intro hz
    have le : e < s₁.heap.objs.size := Heap.lt_size ge
    have la : a < s₁.heap.objs.size := Heap.lt_size S.ob.1
    have lL : L < s₁.heap.objs.size := Heap.lt_size S.fr.1
    refine wpAny_letOwnedTupleGo_enum ho fun h2 he2 sb => ?_
    have keep2 : ∀ b o, b ≠ e → s₁.heap.get? b = some o → h2.get? b = some o := fun b o hb q => (sb.2 b hb).trans (hkeep b o hb q)
    have hT2 : h2.get? s₁.heap.objs.size = some { cls := .type "tuple", data := .seq #[.int ((i : Nat) : Int) tk, v] } := (sb.2 _ (Nat.ne_of_gt le)).trans hT
    have inG : gi < s₁.gens.size := Nat.lt_of_lt_of_eq (show gi < (s₁.setGen gi gs').gens.size from hz) (setGen_size _ _ _)
    have hnT : H s₁.heap.objs.size = none := IX.hok.fresh (Nat.le_refl _)
    have ok : ObjOk X.prog X.w (upd H s₁.heap.objs.size (.tup [.int (i : Nat), x])) h2 s₁.heap.objs.size (.tup [.int (i : Nat), x]) := ⟨by show 2 ≤ sizeLine; decide, [.int ((i : Nat) : Int) tk, v], .cons ⟨_, rfl⟩ (.cons rv .nil), ⟨_, hT2, rfl, _, rfl⟩⟩
    have I4 : Inv X pins σX (upd H s₁.heap.objs.size (.tup [.int (i : Nat), x])) { s₁ with heap := h2, toks := tk + 1 } := IX.turnedNew (ch := [e]) (fun b ob hb q => keep2 b ob (fun z => hb (by rw [z]; exact List.mem_cons_self)) q) (fun b hb => by rw [List.mem_singleton.mp hb]; exact fpe nE) (Nat.le_refl _) ok
    have b5 : AllBare (s₁.setGen gi gs').gens := allBare_setGen IX.bare hbare
    obtain ⟨s5, e5⟩ : ∃ t : Shared, { s₁.setGen gi gs' with heap := h2, toks := tk + 1 } = t := ⟨_, rfl⟩
    have I5 : Inv X pins σX (upd H s₁.heap.objs.size (.tup [.int (i : Nat), x])) s5 := I4.gens' (by rw [← e5]; exact b5) (by rw [← e5]; rfl)
    have g5 : s5.gens[gi]? = some gs' := by rw [← e5]; exact setGen_at inG
    have hp5 : s5.heap = h2 := by rw [← e5]
    change wpAny _ _ _ _ _ ({ s₁.setGen gi gs' with heap := h2, toks := tk + 1 } : Shared)
    rw [e5]
    have fresh5 : ∀ b, b < s₁.heap.objs.size → H b = none → (upd H s₁.heap.objs.size (.tup [.int (i : Nat), x])) b = none := fun b lb q => by rw [upd_ne (Nat.ne_of_lt lb)]; exact q
    have P5 : Inv X (pins ++ [(L, oF), (a, go), (e, enumObj a (((i + 1 : Nat) : Nat) : Int) v)]) σX (upd H s₁.heap.objs.size (.tup [.int (i : Nat), x])) s5 := by
      refine I5.pins_of fun p hp => ?_
      rcases List.mem_append.mp hp with hp | hp <;> skip
      · exact I5.pin p (List.mem_append_right _ hp)
      · rw [hp5]
        match p, hp with
        | _, .head _ =>
          obtain ⟨f1, f2, f3, _⟩ := fpL (fresh5 L lL S.fr.2)
          exact ⟨keep2 _ _ neLe S.fr.1, f1, f2, f3, frO.2.1⟩
        | _, .tail _ (.head _) =>
          obtain ⟨f1, f2, f3, _⟩ := fpa (fresh5 a la S.ob.2)
          exact ⟨keep2 _ _ neae S.ob.1, f1, f2, f3, god⟩
        | _, .tail _ (.tail _ (.head _)) =>
          obtain ⟨f1, f2, f3, _⟩ := fpe (fresh5 e le nE)
          refine ⟨?_, f1, f2, f3, fun v z => by cases z⟩
          show h2.get? e = some (enumObj a (((i + 1 : Nat) : Nat) : Int) v)
          rw [show (((i + 1 : Nat) : Nat) : Int) = ((i : Nat) : Int) + 1 by omega]
          exact he2
    refine wpAny_mono (beside (E := fun _ _ => False) P5.bare (hg.run _ (hushS s5) σX _ (.ref s₁.heap.objs.size) (.ref s₁.heap.objs.size) _ (P5.gens' (bare_hush P5.bare) rfl) rfl (tj _ hnT)) (fun _ s1 ⟨_, _, I', _⟩ => I'.bare) hxe) (fun _ s6 h6 => ?_) fun _ _ z => z.elim
    obtain ⟨k6, b6, s6', ⟨σ6, H6, I6', q6⟩, e6⟩ := h6
    have I6 := I6'.gens' b6 e6
    refine wpAny_mono (beside (E := fun _ _ => False) b6 (hb.run _ (hushS s6) σ6 H6 _ (I6.gens' (bare_hush b6) rfl) q6) (fun fw s1 q => ?_) hxe) (fun fw s7 h7 => ?_) fun _ _ z => z.elim
    · cases fw with
      | next => obtain ⟨_, _, I', _⟩ := q; exact I'.bare
      | cont => obtain ⟨_, _, I', _⟩ := q; exact I'.bare
      | brk => obtain ⟨_, _, I', _⟩ := q; exact I'.bare
      | ret u => obtain ⟨_, _, _, I', _⟩ := q; exact I'.bare
    obtain ⟨k7, b7, s7', q7, e7⟩ := h7
    have g7 : s7.gens[gi]? = some gs' := k7 gi gs' (k6 gi gs' g5 hsl) hsl
    have again : ∀ {σ7 : L2.St} {H7 : Hp}, Inv X (pins ++ [(L, oF), (a, go), (e, enumObj a (((i + 1 : Nat) : Nat) : Int) v)]) σ7 H7 s7' → aftJ J t3 m i σY σ7 H7 → ∃ m, m < n ∧ (∃ (i : Int) (old : Value), s7.heap.get? e = some (enumObj a i old)) ∧ s7.heap.get? a = some go ∧ s7.heap.NoLimit ∧ ∃ gs, s7.gens[gi]? = some gs ∧ gs.Goes (model X.prog X.w) X.A.in1.in1 (RJ X pins D) (YJ X pins env N L a e go t3 g tb D) m (.send .none) (s7.setGen gi .running) := fun {σ7 H7} I7' a7 => by
      have I7 := I7'.gens' b7 e7
      have pL := I7.pin (L, oF) (List.mem_append_right _ (List.mem_append_right _ List.mem_cons_self))
      have pa := I7.pin (a, go) (List.mem_append_right _ (List.mem_append_right _ (List.mem_cons_of_mem _ List.mem_cons_self)))
      have pe := I7.pin (e, enumObj a (((i + 1 : Nat) : Nat) : Int) v) (List.mem_append_right _ (List.mem_append_right _ (List.mem_cons_of_mem _ (List.mem_cons_of_mem _ List.mem_cons_self))))
      have I8 : Inv X pins σ7 H7 (s7.setGen gi .running) := I7.unpinned.gens' (allBare_setGen b7 rfl) rfl
      have go8 := kap (s7.setGen gi .running) ⟨σ7, H7, I8, ⟨⟨pL.1, pL.2.1⟩, ⟨pa.1, pa.2.1⟩, v, pe.1, pe.2.1⟩, a7⟩
      cases n with
      | zero => exact go8.elim
      | succ n => exact ⟨n, Nat.lt_succ_self _, ⟨_, _, pe.1⟩, pa.1, I7.nolimit, gs', g7, go8⟩
    cases fw with
    | next => obtain ⟨σ7, H7, I7, q7⟩ := q7; exact again I7 q7
    | cont => obtain ⟨σ7, H7, I7, q7⟩ := q7; exact again I7 q7
    | brk => obtain ⟨σ7, H7, I7, q7⟩ := q7; exact hnx s7 σ7 H7 (I7.gens' b7 e7).unpinned q7
    | ret u => obtain ⟨x7, σ7, H7, I7, r7, q7⟩ := q7; exact hrt s7 σ7 H7 x7 u (I7.gens' b7 e7).unpinned r7 q7
  · obtain ⟨σX, H, IX, q⟩ := hp
    refine ⟨hx, fun _ => wpAny_execs_nil (hnx _ σX H ?_ q)⟩
    exact Inv.call' (s' := { s₁.setGen gi .finished with heap := h' }) (ch := []) IX rfl (Un.kept hk) (IX.hok.kept hk) (allBare_setGen IX.bare rfl) fun b z => nomatch z
end
def tForJ (ta : TA) (ps N : List Str) (t1 t2 t3 : TS) (tc : TT) (te : TE) (g : TG) (tb : TS) : TS := fun D σ H => ta σ H fun vs H1 => vs.length = ps.length ∧ t1 { nx := fun σ1 H2 => t2 { nx := fun σ2 H3 => tJ tc te t3 g tb D σ2 σ H3, rt := noRt } σ1 H2, rt := noRt } (start N vs) H1
/-- for i, y in enumerate(x(e1, ..)): body -/
theorem ps_forJ {X : Cx} {k : Nat} {x qual : Str} {st : Stmt} {f : Addr} {fd : FuncData} {N ps : List Str} {st1 st2 st3 : Stmt} {test ye e1 : Expr} {es : List Expr} {yp epos wpos p0 p9 pg pc pos tpos : Pos} {ta : TA} {elts : List Expr} {kk : Nat} {body : List Stmt} {g : TG} {tb t1 t2 t3 : TS} {tc : TT} {te : TE}
    (hxe : ∀ e s, X.xe e s → False) (hpn : X.pn = []) (F : Fun X.K x qual st f fd) (hbd : defBody st = [st1, st2, .While test [.Expr (.Yield (some ye) yp) epos, st3] [] wpos]) (G : GScope N ps (defScope st)) (fl : Flat (defScope st)) (hi : ∀ L c, interactive (envOfC qual (defScope st) L f c) = false) (hb : Binds X.K fd ps []) (hr : Room (k + 3) X.A) (hgl : Gl X x) (hmx : X.mg x = some (.ref f)) (hgE : Gl X "enumerate") (hmE : X.mg "enumerate" = none)
    (ha : PA X (e1 :: es) ta) (hB : ∀ (cdv : Value) (A : Around) (outer : List Env) (s1 s0 : Shared) (H0 : Hp), Room k (A.deeper (envOfC qual (defScope st) s1.heap.objs.size f cdv)) → GBody (gnB X.prog X.w X.K X.mg X.base N qual (defScope st) f cdv A outer s1 s0 H0) st1 st2 st3 test ye t1 t2 t3 tc te)
    (hg : PG X (.Tuple elts kk tpos) g) (hbo : PSs X body tb) (hdb : (x == ("__debug__" : Str)) = false := by decide) (hs : ∀ v, foldedSetIterable (.Call (.Name "enumerate" p0) [.Call (.Name x pg) (e1 :: es) [] pc] [] p9) X.env v = pure v := by intro _; rfl)
    (he : starEach (e1 :: es) X.env = (false, eval e1 X.env) :: starEach es X.env := by rfl) (hpl : (backTo pc (starEach es X.env)).any (·.1) = false := by rfl) (hsE : starEach [.Call (.Name x pg) (e1 :: es) [] pc] X.env = [(false, eval (.Call (.Name x pg) (e1 :: es) [] pc) X.env)] := by rfl) :
    PS X (.For (.Tuple elts kk tpos) (.Call (.Name "enumerate" p0) [.Call (.Name x pg) (e1 :: es) [] pc] [] p9) body [] pos) (tForJ ta ps N t1 t2 t3 tc te g tb) := by
  constructor; intro pins s σ H D I h
  obtain ⟨oc, od, kV, doc, pm, an, cdv, ct, osl, efd, lk, hcd⟩ := F.ex
  refine wpAny_For (Call_ (ld_blt I hgE hmE boot_enumerate (callWith_type1 (PyProof.Rows.args_cons ?_ hsE) hsE rfl))) hs
  refine wpAny_Call_Name_kw (ld_glob I hgl hmx ?_ hdb)
  refine PySem.W.callWith_K (h₀ := X.base) I.ok.mod.kin F.kp (thn (ha.run pc pins s σ H _ I h) fun us s1 ⟨vs, H1, I1, r, hl, q⟩ => ⟨I1.kIn, ?_⟩) he hpl
  have hus : us.length = ps.length := by rw [← r.length]; exact hl
  have bt := hb s1 us I1.kIn (by simpa using hus)
  rw [List.append_nil] at bt
  rw [efd, hbd] at lk bt
  refine wpAny_call (codeAny_mono (gj_made lk hcd G fl hr I1.env0 bt r hl) fun rr s2 hq => ?_)
  match rr, hq with
  | .error _, hq => exact hq.elim
  | .ok .next, hq => exact hq.elim
  | .ok .brk, hq => exact hq.elim
  | .ok .cont, hq => exact hq.elim
  | .ok (.ret u), hq =>
    obtain ⟨a, gi, go, oF, rfl, la1, la2, isg, god, ga, hgs, hos, hba, hk, gF, frO⟩ := hq
    refine PyProof.Rows.args_nil (call_enumG (isg.gen ga) ?_)
    refine wpAny_pyIter_enum (isEnum_obj (Heap.get?_push_size _ rfl)) ?_
    obtain ⟨e, he2⟩ : ∃ b : Addr, s2.heap.objs.size = b := ⟨_, rfl⟩
    obtain ⟨s3, hs3⟩ : ∃ t : Shared, { s2 with heap := s2.heap.push (enumObj a 0 .none) } = t := ⟨_, rfl⟩
    rw [he2, hs3]
    have h3 : s3.heap = s2.heap.push (enumObj a 0 .none) := by rw [← hs3]
    have up : ∀ b o, s1.heap.get? b = some o → s3.heap.get? b = some o := fun b o z => by rw [h3]; exact Heap.get?_push_of_some _ (hk b o z)
    have bare3 : AllBare s3.gens := by rw [← hs3]; exact hba
    have I3 : Inv X pins σ H1 s3 := Inv.call' (ch := []) I1 (by rw [← hs3]; exact hos) (Un.kept up) (I1.hok.kept up) bare3 fun b z => nomatch z
    have la : s1.heap.objs.size ≤ a := Nat.le_of_lt la1
    have lae : a < e := by rw [← he2]; exact la2
    have le : s1.heap.objs.size ≤ e := Nat.le_trans la (Nat.le_of_lt lae)
    have S3 : Stand s1.heap.objs.size a e oF go 0 H1 s3 := ⟨⟨by rw [h3]; exact Heap.get?_push_of_some _ gF, I1.hok.fresh (Nat.le_refl _)⟩, ⟨by rw [h3]; exact Heap.get?_push_of_some _ ga, I1.hok.fresh la⟩, .none, by rw [h3, ← he2]; exact Heap.get?_push_size _ rfl, I1.hok.fresh le⟩
    have hr1 : Room (k + 1) X.A.in1.in1 := Room.in1 (Room.in1 hr)
    have I3r : Inv X pins σ H1 (s3.setGen gi .running) := I3.gens' (allBare_setGen bare3 rfl) rfl
    refine forJ_loop (L := s1.heap.objs.size) (a := a) (N := N) (env := envOfC qual (defScope st) s1.heap.objs.size f cdv) (t3 := t3) (D := D) (pins := pins) hxe hr.hd (Room.in1 hr).depth hg hbo isg god (Nat.ne_of_lt (Nat.lt_of_lt_of_le la1 (Nat.le_of_lt lae))) (Nat.ne_of_lt lae) (fun q => I1.fpOk (Nat.le_refl _) q) (fun q => I1.fpOk la q) (fun q => I1.fpOk le q) (fun s' σ' H' I' q' => ⟨σ', H', I', q'⟩) (fun s' σ' H' x' v' I' r' q' => ⟨x', σ', H', I', r', q'⟩) 1000 s3 ⟨0, .none, ?_⟩ S3.ob.1 I3.nolimit ⟨.fresh _, by rw [← hs3]; exact hgs, rfl, ?_⟩
    · rw [h3, ← he2]; exact Heap.get?_push_size _ rfl
    · exact seg_startJ (B := X.A.in1.in1) (Inv.young I1 hpn) la1 (Nat.lt_trans la1 lae) god fl I1.ok.frames hr.hd G.co (hi _ _) (fun s0 H0 => hB cdv X.A.in1.in1 X.stack s1 s0 H0 (hr1.deeper _)) I3r ⟨S3.fr, S3.ob, S3.en⟩ frO q
end LS
set_option maxHeartbeats 2100000
/-! sorted(list of tuples of texts), of any length -/
namespace LS
open PySem L2 PySem.Spec PyProof.Rows
def rkR (ss : List Str) : List (List Nat) := ss.map fun x => x.cps.toList
def ltR (ss ts : List Str) : Bool := decide (rkR ss < rkR ts)
theorem ltR_nil : ltR [] [] = false := by
  unfold ltR rkR
  simp
theorem ltR_cons (x y : Str) (ss ts : List Str) : ltR (x :: ss) (y :: ts) = if x = y then ltR ss ts else decide (x.cps.toList < y.cps.toList) := by
  unfold ltR rkR
  rw [List.map_cons, List.map_cons]; by_cases e : x = y
  · rw [if_pos e, e]
    refine decide_eq_decide.mpr ?_
    rw [List.cons_lt_cons_iff]
    constructor
    · rintro (h | h)
      · exact absurd h (List.lt_irrefl _)
      · exact h.2
    · intro h
      exact .inr ⟨rfl, h⟩
  · rw [if_neg e]
    refine decide_eq_decide.mpr ?_
    rw [List.cons_lt_cons_iff]
    constructor
    · rintro (h | h)
      · exact h
      · exact absurd (cps_inj h.1) e
    · intro h
      exact .inl h
theorem ltR_swo : SrtO.Swo ltR := by
  refine ⟨fun x y hxy => ?_, fun x y z h1 h2 => ?_⟩
  · have h' := of_decide_eq_true hxy
    exact decide_eq_false fun h2 => List.lt_irrefl _ (List.lt_trans h' h2)
  · have a := of_decide_eq_false h1
    have b := of_decide_eq_false h2; exact decide_eq_false (List.not_lt.mpr (List.le_trans (List.not_lt.mp a) (List.not_lt.mp b)))
theorem ltR_anti {x y : List Str} (h1 : ltR x y = false) (h2 : ltR y x = false) : x = y := by
  have e : rkR x = rkR y := List.le_antisymm (List.not_lt.mp (of_decide_eq_false h2)) (List.not_lt.mp (of_decide_eq_false h1))
  unfold rkR at e
  exact (List.map_inj_right fun a b h => cps_inj h).mp e
section
variable {Q : Bool → Shared → Prop} {prog : Program} {w : World} {A : Around} {s : Shared}
variable {E : Value → Shared → Prop}
theorem oneLt_strs (c : Bool) {p q : Str} {t u : Tok} (h : Q (decide (p.cps.toList < q.cps.toList)) s) : wpAny (model prog w) A (oneLt' c (.str p t) (.str q u)) Q E s := by
  cases c with
  | true => exact oneLt_str h
  | false => exact PySem.W.kat_one _ _ (PyProof.Rows.lt_str (Q := PySem.W.BoolBack Q) h)
theorem lex_strs {b : Bool} {xs ys : List Value} {ss ts : List Str} (i : Nat) (hx : StrsAre xs ss) (hy : StrsAre ys ts) (hl : ss.length = ts.length) (h : Q (ltR ss ts) s) : PySem.W.KatLex prog w A b false Q (xs.zip ys) i s := by
  induction hx generalizing ys ts i with
  | nil =>
    cases hy with
    | nil =>
      rw [ltR_nil] at h
      exact PySem.W.kat_nil h
    | cons => simp at hl
  | cons x t hx ih =>
    cases hy with
    | nil => simp at hl
    | cons y u hy =>
      rw [ltR_cons] at h
      refine PySem.W.kat_cons (SeqAt.EqAt.str_str x t y u prog w _ _ ?_)
      refine PySem.W.kat_go (fun e => ?_) (fun e => ?_)
      · rw [if_pos (eq_of_beq e)] at h
        exact PySem.W.kat_yes (ih (i + 1) hy (by simpa using hl) h)
      · rw [if_neg (by simpa using e)] at h
        exact PySem.W.kat_no (oneLt_strs _ h)
/-- the value is a tuple of these texts -/
def TupS (h : Heap) (v : Value) (ss : List Str) : Prop := ∃ (a : Addr) (xs : Array Value), v = .ref a ∧ IsTup h a xs ∧ StrsAre xs.toList ss
theorem TupS.keeps {h h' : Heap} {v : Value} {ss : List Str} (x : TupS h v ss) (k : ∀ b o, h.get? b = some o → o.cls = .type "tuple" → h'.get? b = some o) : TupS h' v ss := by
  obtain ⟨a, xs, e, ⟨o, ho, hc, hd⟩, i⟩ := x; exact ⟨a, xs, e, ⟨o, k _ _ ho hc, hc, hd⟩, i⟩
theorem firsts_str {h : Heap} {n : Nat} (hn : 0 < n) {k : Value → List Str} : ∀ vs : List Value, (∀ v ∈ vs, TupS h v (k v) ∧ (k v).length = n) → ∃ fs : List Value, PySem.W.KatTups h vs fs ∧ fs.length = vs.length ∧ ∀ f ∈ fs, ∃ (x : Str) (t : Tok), f = .str x t
  | [], _ => ⟨[], PySem.W.KatTups.nil, rfl, fun f hf => nomatch hf⟩
  | v :: vs, x => by
    obtain ⟨fs, kt, hl, hi⟩ := firsts_str hn vs fun u hu => x u (List.mem_cons_of_mem _ hu)
    obtain ⟨⟨a, xs, rfl, ⟨o, ho, hc, m, hd⟩, st⟩, ln⟩ := x v List.mem_cons_self
    generalize k (Value.ref a) = ks at st ln
    obtain ⟨l⟩ := xs
    cases st with
    | nil =>
      rw [← ln] at hn
      exact absurd hn (Nat.lt_irrefl _)
    | cons y t st' =>
      refine ⟨.str y t :: fs, PySem.W.KatTups.cons ho hc hd rfl kt, by rw [List.length_cons, List.length_cons, hl], fun f hf => ?_⟩
      rcases List.mem_cons.mp hf with z | z
      · exact ⟨y, t, z⟩
      · exact hi f z
theorem rows_sortable {a : Addr} {vs : List Value} {k : Value → List Str} {n : Nat} (hn : 0 < n) (h0 : 0 < vs.length) (hp : ∀ v ∈ vs, TupS s.heap v (k v) ∧ (k v).length = n) (ha : ∀ o, s.heap.get? a = some o → o.cls ≠ .type "tuple") : SrtO.SortableO prog w A s a vs fun v u => ltR (k v) (k u) := by
  intro h' keep
  have hp' : ∀ v ∈ vs, TupS h' v (k v) ∧ (k v).length = n := fun v hm => ⟨(hp v hm).1.keeps fun b o e c => keep b o (fun z => by subst z; exact ha o e c) e, (hp v hm).2⟩
  obtain ⟨fs, h1, h2, h3⟩ := firsts_str hn vs hp'
  refine ⟨tuples' true, fun Q E hq => ?_, fun p q hm hm' => ?_⟩
  · refine PySem.W.kat_kind (T := .type "str") h1 (by omega) (fun f hm => ?_) (by rfl) ?_
    · obtain ⟨sx, tx, rfl⟩ := h3 f hm
      exact PySem.W.Looks.now
    · have e : (Value.type "str" != Value.type "tuple") = true := by decide +kernel
      rw [e]
      exact hq
  · obtain ⟨⟨a1, xs, e1, ⟨o1, g1, c1, n1, d1⟩, t1⟩, l1⟩ := hp' _ hm
    obtain ⟨⟨a2, ys, e2, ⟨o2, g2, c2, n2, d2⟩, t2⟩, l2⟩ := hp' _ hm'
    show wpAny (model prog w) A (keyLt' (tuples' true) p.1 q.1) (fun r s' => s' = { s with heap := h' } ∧ r = ltR (k p.1) (k q.1)) (fun _ _ => False) { s with heap := h' }
    generalize k p.1 = kp at t1 l1 ⊢
    generalize k q.1 = kq at t2 l2 ⊢
    rw [e1, e2]
    refine PySem.W.kat_lt g1 d1 g2 d2 ?_
    have z1 := t1.length
    have z2 := t2.length
    rw [Array.length_toList] at z1 z2
    rw [show decide (xs.size < ys.size) = false from decide_eq_false (by omega)]
    exact lex_strs 0 t1 t2 (by omega) ⟨rfl, rfl⟩
end
/-- the row at the address -/
noncomputable def rowA (H : Hp) (t : Addr) : List Str := by
  classical
  exact if h : ∃ o : List Str, Tn H t (o.map V.str) then h.choose else []
noncomputable def rowOf (H : Hp) (v : Value) : List Str := match v with
  | .ref t => rowA H t
  | _ => []
theorem rowOf_eq {H : Hp} {t : Addr} {o : List Str} (h : Tn H t (o.map V.str)) : rowOf H (.ref t) = o := by
  have ex : ∃ o' : List Str, Tn H t (o'.map V.str) := ⟨o, h⟩
  show rowA H t = o
  unfold rowA
  rw [dif_pos ex]
  obtain ⟨ob1, g1, _⟩ := ex.choose_spec
  obtain ⟨ob2, g2, _⟩ := h
  rw [g2] at g1
  have q := Option.some.inj g1
  injection q with q1 q2
  injection q2 with q3
  exact ((List.map_inj_right fun a b z => V.str.inj z).mp q3).symm
theorem vals_addrs : ∀ bs : List Addr, Vals (bs.map V.ref) (bs.map Value.ref)
  | [] => .nil
  | b :: bs => .cons (show RelV (.ref b) (.ref b) from rfl) (vals_addrs bs)
theorem tups_map {H : Hp} {f : Addr → List Str} : ∀ ts : List Addr, (∀ t, t ∈ ts → Tn H t ((f t).map V.str)) → Tups H ts (ts.map f)
  | [], _ => trivial
  | t :: ts, h => ⟨h t List.mem_cons_self, tups_map ts fun u hu => h u (List.mem_cons_of_mem _ hu)⟩
theorem tups_rows {H : Hp} : ∀ {as : List Addr} {L : List (List Str)}, Tups H as L → L = as.map fun t => rowOf H (.ref t)
  | [], [], _ => rfl
  | a :: as, o :: L, h => by rw [List.map_cons, rowOf_eq h.1, ← tups_rows h.2]
section
variable {X : Cx}
def rSortR (K : PySem.W.Frag) : List V → Hp → VK → Prop := fun vs H Q => ∃ (a : Addr) (as : List Addr) (L : List (List Str)) (n : Nat), vs = [V.ref a] ∧ SqL K H a (as.map V.ref) ∧ Tups H as L ∧ (∀ o, o ∈ L → o.length = n) ∧ 0 < n ∧
  ∀ (bs : List Addr) (M : List (List Str)) (p : Addr), M.Perm L → M.Pairwise (fun x y => ltR y x = false) → Tups H bs M → H p = none → Q (.ref p) (upd H p (.lst (bs.map V.ref)))
theorem cr_sortR : CallR X (.builtin "sorted") (rSortR X.K) := by
  intro pi s σ H vs us Q I r h
  obtain ⟨a, as, L, n, rfl, hs, hT, hn, h0, q⟩ := h
  obtain ⟨its, rv, hl, hz⟩ := I.list hs; obtain ⟨u, rfl, ru⟩ := vals1 r
  obtain rfl : u = Value.ref a := ru; have ei : its = as.map Value.ref := by
    have key : ∀ (as : List Addr) (us : List Value), Vals (as.map V.ref) us → us = as.map Value.ref := by
      intro as
      induction as with
      | nil =>
        intro us h
        cases h
        rfl
      | cons b bs ih =>
        intro us h
        cases h with
        | cons r1 r2 =>
          cases (show _ = Value.ref b from r1)
          rw [ih _ r2]
          rfl
    exact key as its rv
  subst ei
  have at_ : ∀ v, v ∈ as.map Value.ref → ∃ t o, v = .ref t ∧ t ∈ as ∧ Tn H t (o.map V.str) ∧ o ∈ L := fun v hv => by
    obtain ⟨t, ht, rfl⟩ := List.mem_map.mp hv
    obtain ⟨j, hj⟩ := List.mem_iff_getElem?.mp ht
    have hjl : j < L.length := by
      rw [← hT.len]
      exact (List.getElem?_eq_some_iff.mp hj).1
    obtain ⟨b, hb, hb2⟩ := hT.get (List.getElem?_eq_getElem hjl)
    have e : b = t := Option.some.inj (hb.symm.trans hj)
    subst e
    exact ⟨b, _, rfl, ht, hb2, List.getElem_mem hjl⟩
  have rows : ∀ v, v ∈ as.map Value.ref → TupS s.heap v (rowOf H v) ∧ (rowOf H v).length = n := fun v hv => by
    obtain ⟨t, o, rfl, ht, ho, hL⟩ := at_ v hv
    rw [rowOf_eq ho]
    obtain ⟨its2, r2, ht2, _⟩ := I.tuple ho.sq
    exact ⟨⟨t, _, rfl, ht2, r2.strs⟩, hn o hL⟩
  refine SrtO.sorted_ord (ltv := fun v u => ltR (rowOf H v) (rowOf H u)) ⟨fun x y => ltR_swo.asym _ _, fun x y z => ltR_swo.tr _ _ _⟩ hl.isList (by rw [← rv.length]; exact hz) (fun h2 h₁ b hb kk => ?_) fun out hs hb => ?_
  · refine rows_sortable (s := { s with heap := h₁ }) h0 (by omega) (fun v hm => ⟨(rows v hm).1.keeps fun b o e _ => (kk b o e).2, (rows v hm).2⟩) fun o e => ?_
    have e' : some o = some (seqObj "list" (as.map Value.ref).toArray 0) := e.symm.trans hb
    cases e'
    intro c; exact absurd (Value.type.inj c) (by decide)
  · have hperm := hb.perm
    have hall : ∀ u, u ∈ out → ∃ t, u = Value.ref t := fun u hu => by
      obtain ⟨t, _, e, _⟩ := at_ u (hperm.mem_iff.mp hu)
      exact ⟨t, e⟩
    obtain ⟨bs, ebs⟩ : ∃ bs : List Addr, out = bs.map Value.ref := by
      clear hs hb hperm
      induction out with
      | nil => exact ⟨[], rfl⟩
      | cons u us ih =>
        obtain ⟨t, e⟩ := hall u List.mem_cons_self
        obtain ⟨bs, e2⟩ := ih fun z hz => hall z (List.mem_cons_of_mem _ hz)
        exact ⟨t :: bs, by rw [e, e2]; rfl⟩
    subst ebs
    have pb : bs.Perm as := by
      have := hperm.map (fun v : Value => match v with | .ref t => t | _ => 0)
      rw [List.map_map, List.map_map, show ((fun v : Value => match v with | .ref t => t | _ => 0) ∘ Value.ref) = (id : Addr → Addr) from rfl, List.map_id, List.map_id] at this
      exact this
    have hM : Tups H bs (bs.map fun t => rowOf H (.ref t)) := tups_map bs fun t ht => by
      obtain ⟨t', o, e, _, ho, _⟩ := at_ (.ref t) (List.mem_map.mpr ⟨t, pb.mem_iff.mp ht, rfl⟩)
      have e' : t = t' := Value.ref.inj e
      subst e'
      show Tn H t ((rowOf H (.ref t)).map V.str)
      rw [rowOf_eq ho]
      exact ho
    have nf : H (s.heap.objs.size + 1) = none := I.hok.fresh (Nat.le_succ _)
    obtain ⟨ep, he⟩ := sortedAll_at s.heap (as.map Value.ref) (bs.map Value.ref).toArray
    refine ⟨.ref _, upd H (s.heap.objs.size + 1) (.lst (bs.map V.ref)), I.laid (t' := s.toks) (fun b o e => sortedAll_old e) (Nat.le_succ _) ⟨?_, _, ep, ?_, he⟩, rfl, q bs _ _ ?_ ?_ hM nf⟩
    · rw [List.length_map, pb.length_eq, ← List.length_map (f := V.ref)]
      exact hz
    · exact vals_addrs bs
    · rw [tups_rows hT]
      exact pb.map _
    · rw [List.pairwise_map]
      exact List.pairwise_map.mp hs
end
end LS
set_option maxHeartbeats 2100000
/-! dicts whose keys are tuples of texts that were made here -/
namespace LS
open PySem L2 PySem.Spec PyProof.Rows
/-- a key's texts, its tuple, its value -/
abbrev Ent := List Str × Addr × V
def kR (o : List Str) : List Key := o.map Sum.inr
theorem kR_kV (o : List Str) : (kR o).map kV = o.map V.str := by
  unfold kR
  rw [List.map_map]
  rfl
theorem kR_inj {o z : List Str} (h : kR o = kR z) : o = z := (List.map_inj_right fun a b e => Sum.inr.inj e).mp h
abbrev ER : List Ent → List (List Key × Addr × Value) → Prop := Paired fun (p : Ent) (q : List Key × Addr × Value) => kR p.1 = q.1 ∧ p.2.1 = q.2.1 ∧ RelV p.2.2 q.2.2
def DicP (P : Program) (w : World) (h : Heap) (a : Addr) (es : List Ent) : Prop := (a == sysModules) = false ∧ es.length ≤ sizeLine ∧ ∃ (xs : List (List Key × Addr × Value)) (o : Obj) (ar : Array DictEntry) (ep : Nat),
  ER es xs ∧ h.get? a = some o ∧ o.ExactDict ∧ o.data = .dict ar ep ∧ ar.toList = xs.map (entryOfKey (tupleKind (mixKind P w))) ∧ (xs.map (·.1)).Nodup
def DicO (P : Program) (w : World) (a : Addr) (es : List Ent) : HO := .ext fun h => DicP P w h a es
/-- at a the dict with these entries -/
def Dic (P : Program) (w : World) (H : Hp) (a : Addr) (es : List Ent) : Prop := H a = some (DicO P w a es) ∧ ∀ e, e ∈ es → Tn H e.2.1 (e.1.map V.str)
theorem Dic.same {P : Program} {w : World} {H H' : Hp} {a : Addr} {es : List Ent} (d : Dic P w H a es) (s : Same H H') : Dic P w H' a es := ⟨s _ _ d.1, fun e he => (d.2 e he).same s⟩
/-- .. it may be locked -/
def DicL (P : Program) (w : World) (H : Hp) (a : Addr) (es : List Ent) : Prop := Rd H a (DicO P w a es) ∧ ∀ e, e ∈ es → Tn H e.2.1 (e.1.map V.str)
theorem Dic.rd {P : Program} {w : World} {H : Hp} {a : Addr} {es : List Ent} (d : Dic P w H a es) : DicL P w H a es := ⟨.inl d.1, d.2⟩
def valR (es : List Ent) (o : List Str) : Option V := (es.find? fun e => decide (e.1 = o)).map (·.2.2)
def putR (es : List Ent) (o : List Str) (b : Addr) (v : V) : List Ent := if (valR es o).isSome then es.map (fun e => if e.1 = o then (e.1, e.2.1, v) else e) else es ++ [(o, b, v)]
theorem ER.val {es : List Ent} {xs : List (List Key × Addr × Value)} (r : ER es xs) (o : List Str) : RelO (valR es o) ((atKey xs (kR o)).map (·.2)) := by
  induction r with
  | nil => exact True.intro
  | @cons p q ps qs h t ih =>
    obtain ⟨h1, _, h2⟩ := h
    by_cases e : p.1 = o
    · have e' : q.1 = kR o := by rw [← h1, e]
      have b1 : atKey (q :: qs) (kR o) = some q.2 := by simp [atKey, List.find?_cons, e']
      have b2 : valR (p :: ps) o = some p.2.2 := by simp [valR, List.find?_cons, e]
      rw [b1, b2]
      exact h2
    · have e' : ¬ q.1 = kR o := fun z => e (kR_inj (h1.trans z))
      have b1 : atKey (q :: qs) (kR o) = atKey qs (kR o) := by simp [atKey, List.find?_cons, e']
      have b2 : valR (p :: ps) o = valR ps o := by simp [valR, List.find?_cons, e]
      rw [b1, b2]
      exact ih
theorem ER.put {es : List Ent} {xs : List (List Key × Addr × Value)} (r : ER es xs) (o : List Str) {b : Addr} {y : V} {u : Value} (ry : RelV y u) : ER (putR es o b y) (storedH xs (kR o) b u) := by
  have e : (valR es o).isSome = (atKey xs (kR o)).isSome := by
    rw [(r.val o).isSome_eq, Option.isSome_map]
  unfold putR storedH
  rw [e]
  by_cases q : (atKey xs (kR o)).isSome = true
  · rw [if_pos q, if_pos q]
    clear e q
    induction r with
    | nil => exact .nil
    | @cons p q ps qs h t ih =>
      rw [List.map_cons, List.map_cons]; refine .cons ?_ ih
      obtain ⟨h1, h2, h3⟩ := h
      unfold PySem.putAt
      by_cases e : p.1 = o
      · rw [if_pos e, if_pos (by rw [← h1, e])]
        exact ⟨h1, h2, ry⟩
      · rw [if_neg e, if_neg (fun z => e (kR_inj (h1.trans z)))]
        exact ⟨h1, h2, h3⟩
  · rw [if_neg q, if_neg q]
    exact Paired.snoc r ⟨rfl, rfl, ry⟩
theorem putR_len (es : List Ent) (o : List Str) (b : Addr) (v : V) : (putR es o b v).length ≤ es.length + 1 := by
  unfold putR
  by_cases q : (valR es o).isSome = true
  · rw [if_pos q, List.length_map]
    exact Nat.le_succ _
  · rw [if_neg q, List.length_append]
    exact Nat.le_refl _
theorem putR_mem {es : List Ent} {o : List Str} {b : Addr} {v : V} {e : Ent} (h : e ∈ putR es o b v) : (∃ e', e' ∈ es ∧ e.1 = e'.1 ∧ e.2.1 = e'.2.1) ∨ (e.1 = o ∧ e.2.1 = b) := by
  unfold putR at h
  by_cases q : (valR es o).isSome = true
  · rw [if_pos q] at h
    obtain ⟨e', he, rfl⟩ := List.mem_map.mp h
    refine .inl ⟨e', he, ?_, ?_⟩ <;> split <;> rfl
  · rw [if_neg q] at h
    rcases List.mem_append.mp h with z | z
    · exact .inl ⟨e, z, rfl, rfl⟩
    · have ez := List.mem_singleton.mp z
      rw [ez]
      exact .inr ⟨rfl, rfl⟩
section
variable {X : Cx} {pi : List (Addr × Obj)} {σ : L2.St} {H : Hp} {s : Shared} {a b : Addr} {es : List Ent} {o : List Str}
theorem key_tn (I : Inv X pi σ H s) (h : Tn H b (o.map V.str)) : (tupleKind (mixKind X.prog X.w)).is s.heap (kR o) b := by
  obtain ⟨its, r, ⟨ob, h1, h2, n, h3⟩, _⟩ := I.tuple h.sq
  rw [← kR_kV] at r
  exact ⟨ob, its.toArray, n, h1, h2, h3, by simpa using items_are r⟩
theorem DicL.full (I : Inv X pi σ H s) (d : DicL X.prog X.w H a es) : (a == sysModules) = false ∧ es.length ≤ sizeLine ∧ ∃ xs, ER es xs ∧ s.heap.DictOfH (tupleKind (mixKind X.prog X.w)) a xs := by
  obtain ⟨⟨hs, z, xs, ob, ar, ep, r, h1, h2, h3, h4, h5⟩, _, _⟩ := (show ObjOk X.prog X.w H s.heap a (DicO X.prog X.w a es) from d.1.ok I.hok)
  refine ⟨hs, z, xs, r, ob, ar, ep, h1, h2, h3, h4, fun x hx => ?_, h5⟩
  have all : ∀ {l : List Ent} {m : List (List Key × Addr × Value)}, ER l m → (∀ e, e ∈ l → Tn H e.2.1 (e.1.map V.str)) → ∀ x ∈ m, (tupleKind (mixKind X.prog X.w)).is s.heap x.1 x.2.1 := by
    intro l m q
    induction q with
    | nil => intro _ x hx; exact nomatch hx
    | @cons p q ps qs hq t ih =>
      intro hl x hx; rcases List.mem_cons.mp hx with e | hx
      · subst e
        rw [← hq.1, ← hq.2.1]
        exact key_tn I (hl p List.mem_cons_self)
      · exact ih (fun e he => hl e (List.mem_cons_of_mem _ he)) x hx
  exact all r d.2 x hx
theorem dic_ok {P : Program} {w : World} {H' : Hp} {h : Heap} (p : DicP P w h a es) : ObjOk P w H' h a (DicO P w a es) := by
  refine ⟨p, ?_, fun h1 h2 q k => ?_⟩
  · obtain ⟨_, _, _, ob, _, _, _, h1, _⟩ := p
    exact ⟨ob, h1⟩
  · obtain ⟨hs, z, xs, ob, ar, ep, r, g, t⟩ := q
    exact ⟨hs, z, xs, ob, ar, ep, r, k _ g, t⟩
theorem dic_new (P : Program) (w : World) {H' : Hp} (h : Heap) (hb : sysModules < h.objs.size) : ObjOk P w H' (h.push { cls := .type "dict", data := .dict #[] }) h.objs.size (DicO P w h.objs.size []) :=
  dic_ok ⟨beq_eq_false_iff_ne.mpr (Ne.symm (Nat.ne_of_lt hb)), Nat.zero_le _, [], _, #[], 0, .nil, Heap.get?_push_size _ rfl, ⟨rfl, rfl, rfl⟩, rfl, rfl, List.nodup_nil⟩
end
section
variable {X : Cx} {A : Around} {E : Value → Shared → Prop} {pi : List (Addr × Obj)} {σ : L2.St} {H : Hp} {s : Shared} {a b : Addr} {es : List Ent} {o : List Str}
theorem r_get {Q : Value → Shared → Prop} {v : V} (hu : A.units + 1 < cLine) (I : Inv X pi σ H s) (d : DicL X.prog X.w H a es) (hb : Tn H b (o.map V.str)) (hv : valR es o = some v) (h : ∀ w' s', Inv X pi σ H s' → RelV v w' → Q w' s') : wpAny (model X.prog X.w) A (getItem (.ref a) (.ref b)) Q E s := by
  obtain ⟨hs, z, xs, rel, dd⟩ := d.full I
  obtain ⟨w', hw, rw'⟩ := RelO.some_of (v := v) (o := (atKey xs (kR o)).map (·.2)) (by rw [← hv]; exact rel.val o)
  obtain ⟨p, hp, hp2⟩ := Option.map_eq_some_iff.mp hw; refine wpAny_getItem_heap (tupleKind_room_in1 hu) (key_tn I hb) dd hp ?_
  rw [hp2]
  exact h w' _ (I.tok _) rw'
theorem r_notIn {Q : Value → Shared → Prop} (hu : A.units + 1 < cLine) (I : Inv X pi σ H s) (d : DicL X.prog X.w H a es) (hb : Tn H b (o.map V.str)) (h : ∀ s', Inv X pi σ H s' → Q (.bool (!(valR es o).isSome)) s') : wpAny (model X.prog X.w) A (compareOp .NotIn (.ref b) (.ref a)) Q E s := by
  obtain ⟨hs, z, xs, rel, dd⟩ := d.full I
  refine wpAny_notIn_heap (tupleKind_room_in1 hu) (key_tn I hb) hs dd ?_
  have q := (rel.val o).isSome_eq
  rw [Option.isSome_map] at q
  rw [← q]
  exact h _ (I.tok _)
theorem r_get2 {Q : Value → Shared → Prop} {y : V} {r : Value} (hu : A.units + 1 < cLine) (I : Inv X pi σ H s) (d : DicL X.prog X.w H a es) (hb : Tn H b (o.map V.str)) (rd : RelV y r) (h : ∀ w' s', Inv X pi σ H s' → RelV ((valR es o).getD y) w' → Q w' s') : wpAny (model X.prog X.w) A (call (.builtin "dict.get") [.ref a, .ref b, r]) Q E s := by
  obtain ⟨hs, z, xs, rel, dd⟩ := d.full I
  exact call_meetsIn PySem.F.slot_dict_get dd.typeIs PySem.F.entry_dict_get (PySem.F.args_dict_get_3 _ _ _) (meetsH_dict_get_default (tupleKind (mixKind X.prog X.w)) a b hs r) ⟨tupleKind_room_in1 hu, kR o, xs, key_tn I hb, dd, h _ _ (I.tok _) ((rel.val o).getD rd)⟩
/-- the heap behind d[k] = v -/
theorem r_set {Q : Unit → Shared → Prop} {v : V} {u : Value} (hu : A.units + 1 < cLine) (I : Inv X pi σ H s) (d : Dic X.prog X.w H a es) (hb : Tn H b (o.map V.str)) (hl : es.length < sizeLine) (rv : RelV v u) (h : ∀ s', Inv X pi σ (upd H a (DicO X.prog X.w a (putR es o b v))) s' → Q () s') : wpAny (model X.prog X.w) A (setItem (.ref a) (.ref b) u) Q E s := by
  obtain ⟨hs, z, xs, rel, dd⟩ := d.rd.full I
  refine wpAny_setItem_heap (hsz := by rw [← Paired.length rel]; exact z) (tupleKind_room_in1 hu) (key_tn I hb) dd fun h' dd' sb => h _ ?_
  obtain ⟨q, ar, ep, hq, h2, h3, h4, _, h5⟩ := dd'
  exact d_write I (by rw [d.1]; exact True.intro) sb ⟨q, hq⟩ (dic_ok ⟨hs, by have := putR_len es o b v; omega, _, q, ar, ep, rel.put o rv, hq, h2, h3, h4, h5⟩)
end
theorem dic_put {P : Program} {w : World} {H : Hp} {a b : Addr} {es : List Ent} {o : List Str} {v : V} (d : Dic P w H a es) (hb : Tn H b (o.map V.str)) : Dic P w (upd H a (DicO P w a (putR es o b v))) a (putR es o b v) := by
  refine ⟨upd_same, fun e he => ?_⟩
  have t : Tn H e.2.1 (e.1.map V.str) := by
    rcases putR_mem he with ⟨e', h1, h2, h3⟩ | ⟨h2, h3⟩
    · rw [h2, h3]
      exact d.2 e' h1
    · rw [h2, h3]
      exact hb
  obtain ⟨ob, g, gd⟩ := t
  refine ⟨ob, ?_, gd⟩
  rw [upd_ne]
  · exact g
  · intro z
    rw [z, d.1] at g
    cases g
section
variable {X : Cx} {oe ie value : Expr} {pos pos' : Pos} {td ty tv tx : TE}
def tDGetR (P : Program) (w : World) (td ty : TE) : TE := fun σ H Q => td σ H fun x H1 => ty σ H1 fun y H2 => ∃ (a b : Addr) (es : List Ent) (o : List Str) (v : V), x = .ref a ∧ y = .ref b ∧ DicL P w H2 a es ∧ Tn H2 b (o.map V.str) ∧ valR es o = some v ∧ Q v H2
theorem pe_dgetR (hu : X.A.units + 1 < cLine) (ho : PE X oe td) (hi : PE X ie ty) (hs : NoSl ie) : PE X (.Subscript oe ie pos) (tDGetR X.prog X.w td ty) := by
  refine ⟨fun pi s σ H Q I h => ?_⟩
  refine subD_of PySem.F.slot_dict_getitem.lookup hs (thn (ho.run pi s σ H _ I h) fun u s1 ⟨x, H1, I1, rx, q1⟩ => thn (hi.run pi s1 σ H1 _ I1 q1) fun iv s2 ⟨y, H2, I2, ry, a, b, es, o, v, ex, ey, d, hb, hv, q2⟩ => ?_)
  subst ex ey
  cases rx
  cases ry
  obtain ⟨_, _, xs, _, dd⟩ := d.full I2
  exact ⟨dd.typeIs, r_get hu I2 d hb hv fun w' s3 I3 rw' => ⟨v, H2, I3, rw', q2⟩⟩
def rDNotInR (P : Program) (w : World) : R2 := fun y x H Q => ∃ (a b : Addr) (es : List Ent) (o : List Str), x = .ref a ∧ y = .ref b ∧ DicL P w H a es ∧ Tn H b (o.map V.str) ∧ Q (.bl (!(valR es o).isSome)) H
theorem op_dnotinR (hu : X.A.units + 1 < cLine) : OpR X (compareOp .NotIn) (rDNotInR X.prog X.w) := by
  intro pi s σ H y x v u Q I ry rx h
  obtain ⟨a, b, es, o, rfl, rfl, d, hb, q⟩ := h
  cases rx
  cases ry
  exact r_notIn hu I d hb fun s' I' => ⟨.bl _, H, I', rfl, q⟩
def sDPutR (P : Program) (w : World) (td ty tv : TE) : TS := fun D σ H => tv σ H fun v H1 => td σ H1 fun x H2 => ty σ H2 fun y H3 => ∃ (a b : Addr) (es : List Ent) (o : List Str), x = .ref a ∧ y = .ref b ∧ Dic P w H3 a es ∧ Tn H3 b (o.map V.str) ∧ es.length < sizeLine ∧
  (∀ H4, (∀ c u, c ≠ a → H3 c = some u → H4 c = some u) → Dic P w H4 a (putR es o b v) → D.nx σ H4)
theorem ps_dputR (hu : X.A.units + 1 < cLine) (ho : PE X oe td) (hi : PE X ie ty) (hv : PE X value tv) (hs : swapsWith value (some (.Subscript oe ie pos')) pos.line X.env = pure false) : PS X (.Assign [.Subscript oe ie pos'] value pos) (sDPutR X.prog X.w td ty tv) := by
  refine ⟨fun pi s σ H D I h => ?_⟩
  refine wpAny_Assign_Subscript (thn (hv.run pi s σ H _ I h) fun r s1 ⟨v, H1, I1, rv, q1⟩ => thn (ho.run pi s1 σ H1 _ I1 q1) fun u s2 ⟨x, H2, I2, rx, q2⟩ => thn (hi.run pi s2 σ H2 _ I2 q2) fun iv s3 ⟨y, H3, I3, ry, a, b, es, o, ex, ey, d, hb, hl, q3⟩ => ?_) hs
  subst ex ey
  cases rx
  cases ry
  exact r_set hu I3 d hb hl rv fun s4 I4 => ⟨σ, _, I4, q3 _ (fun c u hc e => by rw [upd_ne hc]; exact e) (dic_put d hb)⟩
def tDNewR (P : Program) (w : World) : TE := fun _ H Q => ∀ p H', H p = none → Same H H' → Dic P w H' p [] → Q (.ref p) H'
theorem pe_dnewR : PE X (.Dict [] [] pos) (tDNewR X.prog X.w) := ⟨fun pi s σ H Q I h =>
  wpAny_Dict_empty ⟨.ref s.heap.objs.size, _, I.laid (a := s.heap.objs.size) (o := DicO X.prog X.w s.heap.objs.size []) (t' := s.toks) (fun _ _ q => Heap.get?_push_of_some _ q) (Nat.le_refl _) (dic_new X.prog X.w s.heap I.big), rfl, h _ _ (I.hok.fresh (Nat.le_refl _)) (same_new (I.hok.fresh (Nat.le_refl _))) ⟨upd_same, fun e he => nomatch he⟩⟩⟩
/-- {k: v} -/
def tDispR (P : Program) (w : World) (tk tv : TE) : TE := fun σ H Q => ∀ p H0, H p = none → Same H H0 → Dic P w H0 p [] → tk σ H0 fun x H1 => tv σ H1 fun y H2 => ∃ (b : Addr) (o : List Str), x = .ref b ∧ Dic P w H2 p [] ∧ Tn H2 b (o.map V.str) ∧
  ∀ H3, (∀ c u, c ≠ p → H2 c = some u → H3 c = some u) → Dic P w H3 p [(o, b, y)] → Q (.ref p) H3
theorem pe_dispR {ke ve : Expr} {tk tv : TE} (hu : X.A.units + 1 < cLine) (hk : PE X ke tk) (hv : PE X ve tv) : PE X (.Dict [some ke] [ve] pos) (tDispR X.prog X.w tk tv) := by
  refine ⟨fun pi s σ H Q I q => ?_⟩
  have hn := I.hok.fresh (Nat.le_refl s.heap.objs.size); have I1 := I.laid (a := s.heap.objs.size) (o := DicO X.prog X.w s.heap.objs.size []) (h' := s.heap.push { cls := .type "dict", data := .dict #[] }) (t' := s.toks) (fun _ _ q => Heap.get?_push_of_some _ q) (Nat.le_refl _) (dic_new X.prog X.w s.heap I.big)
  have q0 := q _ _ hn (same_new hn) ⟨upd_same, fun e he => nomatch he⟩
  refine wpAny_Dict_any rfl rfl (fun z => by cases z) (by show 1 ≤ 15; decide) (pairTrees_cons_walk (thn (hk.run pi _ σ _ _ I1 q0) fun kv s1 ⟨x, H1, I1', rk, q1⟩ => thn (hv.run pi s1 σ H1 _ I1' q1) fun vv s2 ⟨y, H2, I2, rv, b, o, ex, d, hb, q2⟩ => pairTrees_nil_walk ?_))
  subst ex
  cases (show kv = Value.ref b from rk)
  obtain ⟨hs, z, xs, rel, dd⟩ := d.rd.full I2
  cases rel
  refine wpAny_storeAllH (knd := tupleKind (mixKind X.prog X.w)) (A := X.A) (show X.A.units < cLine by omega) [(.ref b, vv)] [(kR o, b, vv)] [] s2 _ ⟨rfl, rfl, key_tn I2 hb, trivial⟩ dd (by rw [sizeLine_eq]; show 1 ≤ 16777216; decide) fun h' tk' dd' sb => ?_
  obtain ⟨qo, ar, ep, hq, h2, h3, h4, _, h5⟩ := dd'
  refine ⟨.ref s.heap.objs.size, upd H2 s.heap.objs.size (DicO X.prog X.w s.heap.objs.size [(o, b, y)]), d_write I2 (by rw [d.1]; exact True.intro) sb ⟨qo, hq⟩ (dic_ok ⟨hs, by rw [sizeLine_eq]; show 1 ≤ 16777216; decide, _, qo, ar, ep, .cons ⟨rfl, rfl, rv⟩ .nil, hq, h2, h3, h4, h5⟩), rfl, q2 _ (fun c u hc e => by rw [upd_ne hc]; exact e) ?_⟩
  exact dic_put (es := []) d hb
end
/-! ### walks over the keys -/
section
variable {X : Cx} {pi : List (Addr × Obj)} {σ : L2.St} {H : Hp} {s : Shared} {d : Addr} {od : Obj} {es : List Ent}
theorem Inv.frzR (I : Inv X pi σ H s) (h : H d = some (.frz od (DicO X.prog X.w d es))) :
    (d == sysModules) = false ∧ s.heap.get? d = some od ∧ od.ExactDict ∧ ∃ (ar : Array DictEntry) (ep : Nat), od.data = .dict ar ep ∧ ar.size = es.length ∧ es.length ≤ sizeLine ∧ ∀ (i : Nat) (e : Ent), es[i]? = some e → ∃ en : DictEntry, ar[i]? = some en ∧ en.key = .ref e.2.1 := by
  obtain ⟨hd, ⟨hs, z, xs, o', ar, ep, r, ho, hx, hdt, he, _⟩, _, _⟩ := I.hok d _ h
  rw [hd] at ho
  cases ho
  refine ⟨hs, hd, hx, ar, ep, hdt, ?_, z, fun i e hi => ?_⟩
  · have l1 : ar.size = xs.length := size_of_entries he
    have l2 : es.length = xs.length := Paired.length r
    omega
  · obtain ⟨b, hb, _, e1, _⟩ := paired_get r hi
    have q := entry_at he i
    rw [hb] at q
    exact ⟨_, q, by rw [e1]; rfl⟩
end
def ItkR (P : Program) (w : World) (d : Addr) (od : Obj) (es : List Ent) : It :=
  ⟨fun i H => H d = some (.frz od (DicO P w d es)) ∧ i < es.length, fun i H x H' => H' = H ∧ ∃ e, es[i]? = some e ∧ x = .ref e.2.1, fun i H => H d = some (.frz od (DicO P w d es)) ∧ es.length ≤ i⟩
theorem walk_keysR {P : Program} {w : World} {d : Addr} {od : Obj} {es : List Ent} : Walk (ItkR P w d od es) es.length (fun H => H d = some (.frz od (DicO P w d es))) (fun i H x H' => H' = H ∧ ∃ e, es[i]? = some e ∧ x = .ref e.2.1) :=
  ⟨fun _ _ lt q => ⟨q, lt⟩, fun _ q => ⟨q, Nat.le_refl _⟩, fun _ _ _ _ _ _ y => y⟩
theorem turn_keysR {P : Program} {w : World} {K : PySem.W.Frag} {tg : Expr} {d : Addr} {od : Obj} {ar : Array DictEntry} {ep : Nat} {es : List Ent} (it : Addr) (hod : od.data = .dict ar ep) : Turn P w K tg (ItkR P w d od es) [it] it (fun i h => h.IsKeyIter it d i es.length ep) where
  mem := by simp
  obj := fun i h st b hb => by
    have eb : b = it := by simpa using hb
    subst eb
    obtain ⟨oi, e1, c1, dd⟩ := st
    exact ⟨oi, e1, fun v z => by rw [dd] at z; cases z⟩
  keep := fun i h h' st k => st.at fun oi e => k it (by simp) oi e; item := by
    intro X hP hw hK hc i pi s σ H E I hf st hg
    subst hP hw hK
    obtain ⟨hd, hi⟩ := hg
    obtain ⟨f0, f1, f2, f3, f4, f5⟩ := hf it (by simp); obtain ⟨hs, hgd, hx, ar', ep', hdt, hsz, _, ent⟩ := Inv.frzR I hd
    obtain ⟨rfl, rfl⟩ := dict_ep hod hdt; have hk : es[i]? = some es[i] := List.getElem?_eq_getElem hi
    obtain ⟨en, hen, hkey⟩ := ent i _ hk
    refine next_key_item st hgd hdt hsz hen fun h' st' sb => ?_; have J1 : Inv X pi σ H { s with heap := h' } := I.turned (t' := s.toks) (fun b ob hb e => (sb.2 b hb).trans e) f0 f1 f3 f4 f5
    obtain ⟨oi, e1, c1, dd⟩ := id st'
    exact ⟨en.key, rfl, go_of (s := { s with heap := h' }) e1 c1 dd (by decide) ⟨.ref es[i].2.1, H, J1, hkey, ⟨rfl, _, hk, rfl⟩, st', fun b hb => (hf b hb).1⟩⟩
  done := by
    intro X hP hw hK hc i pi s σ H E I hf st hg
    subst hP hw hK
    obtain ⟨hd, hi⟩ := hg
    obtain ⟨f0, f1, f2, f3, f4, f5⟩ := hf it (by simp); obtain ⟨hs, hgd, hx, ar', ep', hdt, hsz, _, ent⟩ := Inv.frzR I hd
    obtain ⟨rfl, rfl⟩ := dict_ep hod hdt; exact next_key_end (I.ok.hd hc) st hgd hdt hsz hi fun h' eb => ⟨rfl, I.turned (t' := s.toks) (fun b ob hb e => eb b ob hb e) f0 f1 f3 f4 f5⟩
  self := fun A i s Q E st hq => by
    refine wpAny_pyIter_slot st.typeIs F.slot_dict_keyiterator_iter (wpAny_call_entry F.slot_dict_keyiterator_iter st.typeIs F.entry_dict_keyiterator_iter ?_ (F.args_dict_keyiterator_iter_1 _)); show wpAny _ _ (ret (.ref it)) _ _ s; exact wpAny_pure ⟨_, rfl, "dict_keyiterator", _, st.typeIs, F.slot_dict_keyiterator_next.lookup, hq⟩
def iKeysR (P : Program) (w : World) (td : TE) : TI := fun σ H R => td σ H fun x H1 => ∃ (d : Addr) (od : Obj) (es : List Ent), x = .ref d ∧ H1 d = some (.frz od (DicO P w d es)) ∧ R (ItkR P w d od es) H1
section
variable {X : Cx}
theorem pi_keysR {tg e : Expr} {td : TE} (he : PE X e td) : PI X tg e (iKeysR X.prog X.w td) := by
  refine ⟨fun pi s σ H R I h => ?_⟩
  refine thn (he.run pi s σ H _ I h) fun u s1 ⟨x, H1, I1, rx, d, od, es, ex, hd, q⟩ => ?_
  subst ex
  cases (show u = Value.ref d from rx)
  obtain ⟨hs, hgd, hx, ar, ep, hdt, hsz, _, ent⟩ := Inv.frzR I1 hd
  refine iter_keys hs hgd hx hdt (pi_one (tk := s1.toks) I1 _ (turn_keysR _ hdt) ⟨_, Heap.get?_push_size _ rfl, rfl, ?_⟩ q)
  rw [hsz] <;> rfl
def rSortDR (P : Program) (w : World) : List V → Hp → VK → Prop := fun vs H Q => ∃ (a : Addr) (es : List Ent) (n : Nat), vs = [V.ref a] ∧ DicL P w H a es ∧ (∀ e, e ∈ es → e.1.length = n) ∧ 0 < n ∧
  ∀ (bs : List Addr) (M : List (List Str)) (p : Addr), M.Perm (es.map (·.1)) → Tups H bs M → H p = none → Q (.ref p) (upd H p (.lst (bs.map V.ref)))
theorem cr_sortDR (hc : X.calm = true) : CallR X (.builtin "sorted") (rSortDR X.prog X.w) := by
  intro pi s σ H vs us Q I r h
  obtain ⟨a, es, n, rfl, d, hn, h0, q⟩ := h
  obtain ⟨u, rfl, ru⟩ := vals1 r; obtain rfl : u = Value.ref a := ru
  obtain ⟨hs, z, xs, rel, o, ar, ep, ho, hx, hdt, he, _, _⟩ := d.full I
  have l1 : ar.size = xs.length := size_of_entries he
  have l2 : es.length = xs.length := Paired.length rel
  refine Calls.call_function_entry kind_sorted plain_sorted entry_sorted (args_sorted1 _) ?_; unfold Builtin.«sorted»
  refine wpAny_bind (m := checkCount "sorted" 1 1 _) (wpAny_pure (wpAny_bind (PySem.W.kdu_collect (A := X.A.in1) (kdl_raw hs hx hdt) (I.ok.hd hc) ho (by omega) fun h' tk acc hk hacc => ?_)))
  generalize eas : es.map (fun e : Ent => e.2.1) = as
  have hT : Tups H as (es.map (·.1)) := by
    rw [← eas]
    have : ∀ l : List Ent, (∀ e, e ∈ l → Tn H e.2.1 (e.1.map V.str)) → Tups H (l.map fun e => e.2.1) (l.map (·.1)) := by
      intro l
      induction l with
      | nil => intro _; trivial
      | cons e l ih => intro hl; exact ⟨hl e List.mem_cons_self, ih fun e' h' => hl e' (List.mem_cons_of_mem _ h')⟩
    exact this es d.2
  have asl : as.length = es.length := by rw [← eas, List.length_map]
  have ea : acc.toList = as.map Value.ref := by
    apply List.ext_getElem?
    intro j
    rw [List.getElem?_map]
    have hl : acc.toList.length = ar.size := by rw [Array.length_toList, hacc.1]
    cases hj : acc.toList[j]? with
    | none =>
      have h1 := List.getElem?_eq_none_iff.mp hj; rw [List.getElem?_eq_none (by omega)]
      rfl
    | some v =>
      obtain ⟨en, hen, hv⟩ := hacc.2 j v (by rw [← Array.getElem?_toList]; exact hj)
      have qe := entry_at he j
      rw [hen] at qe
      have hjl : j < es.length := by
        have := (List.getElem?_eq_some_iff.mp hj).1
        omega
      obtain ⟨b, hb, _, e1, _⟩ := paired_get rel (List.getElem?_eq_getElem hjl)
      rw [hb] at qe
      have e2 : en = entryOfKey (tupleKind (mixKind X.prog X.w)) b := Option.some.inj qe; have e3 : as[j]? = some es[j].2.1 := by
        rw [← eas, List.getElem?_map, List.getElem?_eq_getElem hjl]
        rfl
      rw [e3, hv, e2, e1]
      rfl
  rw [ea]
  have I1 : Inv X pi σ H { s with heap := h', toks := tk } := I.kept hk
  refine wpAny_bind (wpAny_newList ?_ (by rw [List.length_map, asl]; exact z))
  have hoL : (h'.push (seqObj "list" (as.map Value.ref).toArray 0)).get? h'.objs.size = some (seqObj "list" (as.map Value.ref).toArray 0) := Heap.get?_push_size _ rfl
  have at_ : ∀ v, v ∈ as.map Value.ref → ∃ t o, v = .ref t ∧ t ∈ as ∧ Tn H t (o.map V.str) ∧ o ∈ es.map (·.1) := fun v hv => by
    obtain ⟨t, ht, rfl⟩ := List.mem_map.mp hv
    obtain ⟨j, hj⟩ := List.mem_iff_getElem?.mp ht
    have hjl : j < (es.map (·.1)).length := by
      rw [← hT.len]
      exact (List.getElem?_eq_some_iff.mp hj).1
    obtain ⟨b, hb, hb2⟩ := hT.get (List.getElem?_eq_getElem hjl)
    have e : b = t := Option.some.inj (hb.symm.trans hj)
    subst e
    exact ⟨b, _, rfl, ht, hb2, List.getElem_mem hjl⟩
  have rows : ∀ v, v ∈ as.map Value.ref → TupS (h'.push (seqObj "list" (as.map Value.ref).toArray 0)) v (rowOf H v) ∧ (rowOf H v).length = n := fun v hv => by
    obtain ⟨t, o, rfl, ht, hto, hL⟩ := at_ v hv
    rw [rowOf_eq hto]
    obtain ⟨its2, r2, ht2, _⟩ := I1.tuple hto.sq
    obtain ⟨e, he', rfl⟩ := List.mem_map.mp hL
    obtain ⟨ob, g, c⟩ := ht2
    exact ⟨⟨t, _, rfl, ⟨ob, Heap.get?_push_of_some _ g, c⟩, r2.strs⟩, hn e he'⟩
  refine wpAny_bind (wpAny_holding (wpAny_call_entry slot_list_sort ⟨_, hoL, rfl⟩ entry_list_sort (SrtO.list_sort_ord (ltv := fun v u => ltR (rowOf H v) (rowOf H u)) ⟨fun x y => ltR_swo.asym _ _, fun x y z => ltR_swo.tr _ _ _⟩ hoL (by rw [List.length_map, asl]; exact z) (fun h2 => ?_) fun out hs2 hb => ⟨_, rfl, wpAny_pure ⟨_, rfl, ?_⟩⟩) (args_list_sort _)))
  · refine rows_sortable (s := { s with heap := h'.push (seqObj "list" (as.map Value.ref).toArray 0), toks := tk }) h0 (by omega) rows fun o e => ?_
    have e' : some o = some (seqObj "list" (as.map Value.ref).toArray 0) := e.symm.trans hoL
    cases e'
    intro c; exact absurd (Value.type.inj c) (by decide)
  · have hperm := hb.perm
    have hall : ∀ u, u ∈ out → ∃ t, u = Value.ref t := fun u hu => by
      obtain ⟨t, _, e, _⟩ := at_ u (hperm.mem_iff.mp hu)
      exact ⟨t, e⟩
    obtain ⟨bs, ebs⟩ : ∃ bs : List Addr, out = bs.map Value.ref := by
      clear hs2 hb hperm
      induction out with
      | nil => exact ⟨[], rfl⟩
      | cons u us ih =>
        obtain ⟨t, e⟩ := hall u List.mem_cons_self
        obtain ⟨bs, e2⟩ := ih fun z hz => hall z (List.mem_cons_of_mem _ hz)
        exact ⟨t :: bs, by rw [e, e2]; rfl⟩
    subst ebs
    have pb : bs.Perm as := by
      have := hperm.map (fun v : Value => match v with | .ref t => t | _ => 0)
      rw [List.map_map, List.map_map, show ((fun v : Value => match v with | .ref t => t | _ => 0) ∘ Value.ref) = (id : Addr → Addr) from rfl, List.map_id, List.map_id] at this
      exact this
    have hM : Tups H bs (bs.map fun t => rowOf H (.ref t)) := tups_map bs fun t ht => by
      obtain ⟨t', o, e, _, ho, _⟩ := at_ (.ref t) (List.mem_map.mpr ⟨t, pb.mem_iff.mp ht, rfl⟩)
      have e' : t = t' := Value.ref.inj e
      subst e'
      show Tn H t ((rowOf H (.ref t)).map V.str)
      rw [rowOf_eq ho]
      exact ho
    have nf : H h'.objs.size = none := I1.hok.fresh (Nat.le_refl _)
    obtain ⟨epo, heo⟩ := sortedHeap_at (out := (bs.map Value.ref).toArray) hoL
    refine ⟨.ref _, upd H h'.objs.size (.lst (bs.map V.ref)), I1.laid (t' := tk) (fun b u e => ?_) (Nat.le_refl _) ⟨?_, _, epo, vals_addrs bs, heo⟩, rfl, q bs _ _ ?_ hM nf⟩
    · rw [sortedHeap_old (Nat.ne_of_lt (Heap.lt_size e)) (by rw [size_push']; exact Nat.lt_succ_of_lt (Heap.lt_size e))]; exact Heap.get?_push_of_some _ e
    · rw [List.length_map, pb.length_eq, asl]
      exact z
    · rw [tups_rows hT]
      exact pb.map _
end
end LS
/-! mirrored and renamed orders, one more layer at an end -/
namespace LS
open PySem L2 PySem.Spec PyProof.Rows LamX
/-! ### mirrored -/
def turnW (w : Str) : Str := if w = "front" then "back" else if w = "back" then "front" else if w = "up" then "down" else "up"
theorem up_first (l : Str) (C : List Str) : moved (l :: C) ("up", l) = l :: C := by
  have h : l ∉ ([] : List Str) := fun z => nomatch z
  show putAt (outOf ([] ++ l :: C) l) l (newIx "up" (idx ([] ++ l :: C) l) (outOf ([] ++ l :: C) l).length) = _
  rw [out_mid h, idx_mid h]
  unfold newIx
  rw [if_neg (by decide +kernel), if_neg (by decide +kernel), if_pos rfl]
  rfl
theorem down_last {A : List Str} {l : Str} (h : l ∉ A) : moved (A ++ [l]) ("down", l) = A ++ [l] := by
  show putAt (outOf (A ++ l :: []) l) l (newIx "down" (idx (A ++ l :: []) l) (outOf (A ++ l :: []) l).length) = _
  rw [out_mid h, idx_mid h, List.append_nil]
  have e : newIx "down" A.length A.length = A.length := by
    unfold newIx
    rw [if_neg (by decide +kernel), if_neg (by decide +kernel), if_neg (by decide +kernel)]
    omega
  rw [e]
  unfold putAt
  rw [List.take_length, List.drop_length, List.append_nil]
theorem moved_rev {o : List Str} {w l : Str} (hn : o.Nodup) (hl : l ∈ o) (hw : w ∈ fourWords) : moved o.reverse (turnW w, l) = (moved o (w, l)).reverse := by
  obtain ⟨A, C, e, _, eo⟩ := split_at hl
  have nA := hn
  rw [e] at nA
  have n1 := List.nodup_append.mp nA
  have lA : l ∉ A := fun z => n1.2.2 l z l List.mem_cons_self rfl
  have lC : l ∉ C := (List.nodup_cons.mp n1.2.1).1
  have lAr : l ∉ A.reverse := fun z => lA (List.mem_reverse.mp z)
  have lCr : l ∉ C.reverse := fun z => lC (List.mem_reverse.mp z)
  have er : o.reverse = C.reverse ++ l :: A.reverse := by
    rw [e]
    simp
  have eor : outOf o.reverse l = C.reverse ++ A.reverse := by
    rw [er]
    exact out_mid lCr
  have four : w = "front" ∨ w = "back" ∨ w = "up" ∨ w = "down" := by
    have z : ∀ v, v ∈ fourWords → v = "front" ∨ v = "back" ∨ v = "up" ∨ v = "down" := by decide +kernel
    exact z w hw
  rcases four with rfl | rfl | rfl | rfl
  · have t : turnW "front" = "back" := by decide +kernel
    rw [t, moved_back, moved_front, eor, eo]
    simp
  · have t : turnW "back" = "front" := by decide +kernel
    rw [t, moved_back, moved_front, eor, eo]
    simp
  · have t : turnW "up" = "down" := by decide +kernel
    rw [t, er, e]
    rcases List.eq_nil_or_concat A with z | ⟨A', m, z⟩
    · rw [z]
      show moved (C.reverse ++ [l]) ("down", l) = (moved (l :: C) ("up", l)).reverse
      rw [down_last lCr, up_first]
      simp
    · rw [z] at lA ⊢
      have l1 : l ∉ A' := fun q => lA (by simp [q])
      have l2 : m ≠ l := fun q => lA (by simp [q])
      have f1 : (A'.concat m).reverse = m :: A'.reverse := by simp
      have f2 : A'.concat m ++ l :: C = A' ++ m :: l :: C := by simp
      rw [f1, f2, down_one lCr, up_one l1 l2]
      simp
  · have t : turnW "down" = "up" := by decide +kernel
    rw [t, er, e]
    cases C with
    | nil =>
      show moved (l :: A.reverse) ("up", l) = (moved (A ++ [l]) ("down", l)).reverse
      rw [down_last lA, up_first]
      simp
    | cons m C' =>
      have l2 : m ≠ l := fun q => lC (q ▸ List.mem_cons_self)
      have l1 : l ∉ C'.reverse := fun q => lC (List.mem_cons_of_mem _ (List.mem_reverse.mp q))
      have f1 : (m :: C').reverse ++ l :: A.reverse = C'.reverse ++ m :: l :: A.reverse := by simp
      rw [f1, up_one l1 l2, down_one lA]
      simp
def mirror (cs : List (Str × Str)) : List (Str × Str) := cs.map fun c => (turnW c.1, c.2)
theorem run_rev {o : List Str} {cs : List (Str × Str)} (hn : o.Nodup) (hg : GoodCs o cs) : ∀ i, runTo o.reverse (mirror cs) i = (runTo o cs i).reverse
  | 0 => rfl
  | i + 1 => by
    have ih := run_rev hn hg i
    by_cases hi : i < cs.length
    · have e : cs[i]? = some cs[i] := List.getElem?_eq_getElem hi
      have e2 : (mirror cs)[i]? = some (turnW cs[i].1, cs[i].2) := by
        unfold mirror
        rw [List.getElem?_map, e]
        rfl
      have pm := run_perm (fun c hc => (hg c hc).2) i
      have h1 := hg _ (List.getElem_mem hi)
      rw [run_succ e, run_succ e2, ih]
      exact moved_rev (pm.nodup_iff.mpr hn) (pm.mem_iff.mpr h1.2) h1.1
    · have e1 : runTo o cs (i + 1) = runTo o cs i := by
        unfold runTo
        rw [List.take_of_length_le (by omega), List.take_of_length_le (by omega)]
      have e2 : runTo o.reverse (mirror cs) (i + 1) = runTo o.reverse (mirror cs) i := by
        have ml : (mirror cs).length = cs.length := List.length_map _
        unfold runTo
        rw [List.take_of_length_le (by omega), List.take_of_length_le (by omega)]
      rw [e1, e2]
      exact ih
theorem idl_rev {o : List Str} {cs : List (Str × Str)} (hn : o.Nodup) (hg : GoodCs o cs) : ∀ i, idl o.reverse (mirror cs) i = idl o cs i
  | 0 => rfl
  | i + 1 => by
    have ih := idl_rev hn hg i
    by_cases e : runTo o cs (i + 1) = runTo o cs i
    · rw [idl_yes e, idl_yes (by rw [run_rev hn hg, run_rev hn hg, e]), ih]
    · rw [idl_no e, idl_no (fun z => e (by rw [run_rev hn hg, run_rev hn hg] at z; exact List.reverse_inj.mp z)), ih]
theorem run_all (o : List Str) (cs : List (Str × Str)) : runTo o cs cs.length = cs.foldl moved o := by
  unfold runTo
  rw [List.take_of_length_le (Nat.le_refl _)]
theorem mirror_le {o t : List Str} {d e : Nat} (hn : o.Nodup) (h0 : 0 < o.length) (hp : t.Perm o) (h1 : IsDist o t d) (h2 : IsDist o.reverse t.reverse e) : e ≤ d := by
  obtain ⟨cs, l, r, g⟩ := dist_script hn hp h1
  have ml : (mirror cs).length = cs.length := List.length_map _
  have k := dist_least (cs := mirror cs) ((List.reverse_perm o).nodup_iff.mpr hn) (by rw [List.length_reverse]; exact h0) (fun c hc => by
    obtain ⟨c', hc', ec⟩ := List.mem_map.mp hc
    rw [← ec]
    exact List.mem_reverse.mpr (g c' hc').2) (by rw [← run_all, ml, run_rev hn g, run_all, r]) h2
  omega
theorem dist_mirror {o t : List Str} {d e : Nat} (hn : o.Nodup) (h0 : 0 < o.length) (hp : t.Perm o) (h1 : IsDist o t d) (h2 : IsDist o.reverse t.reverse e) : e = d := by
  have k1 := mirror_le hn h0 hp h1 h2
  have k2 := mirror_le (d := e) (e := d) ((List.reverse_perm o).nodup_iff.mpr hn) (by rw [List.length_reverse]; exact h0) ((List.reverse_perm t).trans (hp.trans (List.reverse_perm o).symm)) h2 (by rw [List.reverse_reverse, List.reverse_reverse]; exact h1)
  omega
/-! ### renamed -/
abbrev Inj (f : Str → Str) (o : List Str) : Prop := ∀ x y, x ∈ o → y ∈ o → f x = f y → x = y
theorem idx_map {f : Str → Str} {l : Str} : ∀ {o : List Str}, (∀ x, x ∈ o → f x = f l → x = l) → idx (o.map f) (f l) = idx o l
  | [], _ => rfl
  | x :: xs, h => by
    by_cases e : x = l
    · subst e
      rw [List.map_cons, idx_cons_self, idx_cons_self]
    · rw [List.map_cons, idx_cons_ne (fun z => e (h x List.mem_cons_self z)), idx_cons_ne e, idx_map fun y hy => h y (List.mem_cons_of_mem _ hy)]
theorem moved_map {f : Str → Str} {o : List Str} {w l : Str} (hf : Inj f o) (hl : l ∈ o) : moved (o.map f) (w, f l) = (moved o (w, l)).map f := by
  have e1 := idx_map (f := f) (l := l) (o := o) fun x hx z => hf x l hx hl z
  have e2 : outOf (o.map f) (f l) = (outOf o l).map f := by
    unfold outOf
    rw [e1, List.map_append, List.map_take, List.map_drop]
  show putAt (outOf (o.map f) (f l)) (f l) (newIx w (idx (o.map f) (f l)) (outOf (o.map f) (f l)).length) = (putAt (outOf o l) l (newIx w (idx o l) (outOf o l).length)).map f
  rw [e1, e2, List.length_map]
  unfold putAt
  rw [List.map_append, List.map_append, List.map_take, List.map_drop]
  rfl
def rename (f : Str → Str) (cs : List (Str × Str)) : List (Str × Str) := cs.map fun c => (c.1, f c.2)
theorem run_map {f : Str → Str} {o : List Str} {cs : List (Str × Str)} (hf : Inj f o) (hg : ∀ c, c ∈ cs → c.2 ∈ o) : ∀ i, runTo (o.map f) (rename f cs) i = (runTo o cs i).map f
  | 0 => rfl
  | i + 1 => by
    have ih := run_map hf hg i
    by_cases hi : i < cs.length
    · have e : cs[i]? = some cs[i] := List.getElem?_eq_getElem hi
      have e2 : (rename f cs)[i]? = some (cs[i].1, f cs[i].2) := by
        unfold rename
        rw [List.getElem?_map, e]
        rfl
      have pm := run_perm hg i
      rw [run_succ e, run_succ e2, ih]
      exact moved_map (fun x y hx hy z => hf x y (pm.mem_iff.mp hx) (pm.mem_iff.mp hy) z) (pm.mem_iff.mpr (hg _ (List.getElem_mem hi)))
    · have e1 : runTo o cs (i + 1) = runTo o cs i := by
        unfold runTo
        rw [List.take_of_length_le (by omega), List.take_of_length_le (by omega)]
      have e2 : runTo (o.map f) (rename f cs) (i + 1) = runTo (o.map f) (rename f cs) i := by
        have ml : (rename f cs).length = cs.length := List.length_map _
        unfold runTo
        rw [List.take_of_length_le (by omega), List.take_of_length_le (by omega)]
      rw [e1, e2]
      exact ih
theorem inv_map {f : Str → Str} {o : List Str} (hf : Inj f o) : ∀ {s : List Str}, (∀ x, x ∈ s → x ∈ o) → inv (o.map f) (s.map f) = inv o s
  | [], _ => rfl
  | x :: xs, h => by
    show (xs.map f).countP (fun y => bef (o.map f) y (f x)) + inv (o.map f) (xs.map f) = xs.countP (fun y => bef o y x) + inv o xs
    rw [inv_map hf fun y hy => h y (List.mem_cons_of_mem _ hy), List.countP_map]
    congr 1
    refine List.countP_congr fun y hy => ?_
    have hx := h x List.mem_cons_self
    have hy' := h y (List.mem_cons_of_mem _ hy)
    have e : bef (o.map f) (f y) (f x) = bef o y x := by
      unfold bef
      rw [idx_map fun z hz q => hf z y hz hy' q, idx_map fun z hz q => hf z x hz hx q]
    show bef (o.map f) (f y) (f x) = true ↔ bef o y x = true
    rw [e]
theorem dist_map {f : Str → Str} {o t : List Str} {d e : Nat} (hf : Inj f o) (ht : ∀ x, x ∈ t → x ∈ o) (h1 : IsDist o t d) (h2 : IsDist (o.map f) (t.map f) e) : e = d := by
  have ec : ∀ a b, cost (o.map f) (t.map f) a b = cost o t a b := fun a b => by
    unfold cost
    rw [List.length_map, ← List.map_drop, ← List.map_take, inv_map hf fun x hx => ht x (seg_mem hx)]
  obtain ⟨⟨a, b, p, q, r⟩, l1⟩ := h1
  obtain ⟨⟨a', b', p', q', r'⟩, l2⟩ := h2
  rw [ec] at r'
  rw [List.length_map] at q'
  have k1 := l1 a' b' p' q'
  have k2 := l2 a b p (by rw [List.length_map]; exact q)
  rw [ec] at k2
  omega
/-! ### one more layer -/
theorem inv_cons {o s : List Str} {x : Str} (hs : s.Nodup) (hx : x ∉ s) : inv (x :: o) s = inv o s := inv_congr hs fun y z hy hz _ => by
  have n1 : x ≠ y := fun q => hx (q.symm ▸ hy)
  have n2 : x ≠ z := fun q => hx (q.symm ▸ hz)
  unfold bef
  rw [idx_cons_ne n1, idx_cons_ne n2]
  exact decide_eq_decide.mpr ⟨fun q => by omega, fun q => by omega⟩
theorem dist_cons {o t : List Str} {x : Str} {d e : Nat} (ht : t.Nodup) (hx : x ∉ t) (h0 : 0 < t.length) (h1 : IsDist o t d) (h2 : IsDist (x :: o) (x :: t) e) : e = d ∨ e = d + 1 := by
  have c1 : ∀ a b, a < b → b ≤ t.length → cost (x :: o) (x :: t) (a + 1) (b + 1) = cost o t a b + 1 := fun a b hab hb => by
    unfold cost
    rw [show b + 1 - (a + 1) = b - a by omega, List.drop_succ_cons, List.length_cons, inv_cons (seg_nd ht a b) (fun z => hx (seg_mem z))]
    omega
  have c0 : ∀ b, 0 < b → b ≤ t.length → cost (x :: o) (x :: t) 0 (b + 1) = cost o t 0 b := fun b h hb => by
    unfold cost
    rw [Nat.sub_zero, Nat.sub_zero, List.drop_zero, List.drop_zero, List.take_succ_cons, List.length_cons]
    have nt : (t.take b).Nodup := ht.sublist (List.take_sublist _ _)
    have k : inv (x :: o) (x :: t.take b) = inv o (t.take b) := by
      show (t.take b).countP (fun y => bef (x :: o) y x) + inv (x :: o) (t.take b) = _
      rw [inv_cons nt fun z => hx (List.mem_of_mem_take z)]
      have z : (t.take b).countP (fun y => bef (x :: o) y x) = 0 := List.countP_eq_zero.mpr fun y hy q => by
        have q' := of_decide_eq_true q
        rw [idx_cons_self] at q'
        omega
      omega
    rw [k]
    omega
  have d0 := dist_lt h0 h1
  obtain ⟨⟨a, b, p, q, r⟩, l1⟩ := h1
  obtain ⟨⟨a', b', p', q', r'⟩, l2⟩ := h2
  have k1 := l2 (a + 1) (b + 1) (by omega) (by rw [List.length_cons]; omega)
  rw [c1 a b p q] at k1
  rw [List.length_cons] at q'
  have k2 : d ≤ e := by
    cases a' with
    | zero =>
      cases b' with
      | zero => omega
      | succ b2 =>
        by_cases hb2 : 0 < b2
        · have k := l1 0 b2 hb2 (by omega)
          rw [c0 b2 hb2 (by omega)] at r'
          omega
        · have eb : b2 = 0 := by omega
          subst eb
          have k := cost_one (o := x :: o) (t := x :: t) (a := 0) (by rw [List.length_cons]; omega)
          rw [k, List.length_cons] at r'
          omega
    | succ a2 =>
      cases b' with
      | zero => omega
      | succ b2 =>
        have k := l1 a2 b2 (by omega) (by omega)
        rw [c1 a2 b2 (by omega) (by omega)] at r'
        omega
  omega
theorem dist_snoc {o t : List Str} {x : Str} {d e : Nat} (hn : o.Nodup) (hp : t.Perm o) (hx : x ∉ o) (h0 : 0 < o.length) (h1 : IsDist o t d) (h2 : IsDist (o ++ [x]) (t ++ [x]) e) : e = d ∨ e = d + 1 := by
  have ht : t.Nodup := hp.nodup_iff.mpr hn
  have tl := hp.length_eq
  have hxt : x ∉ t := fun z => hx (hp.mem_iff.mp z)
  obtain ⟨d2, hd2⟩ := dist_ex o.reverse (t := t.reverse) (by rw [List.length_reverse]; omega)
  obtain ⟨e2, he2⟩ := dist_ex (x :: o.reverse) (t := x :: t.reverse) (by rw [List.length_cons]; omega)
  have k1 := dist_mirror hn h0 hp h1 hd2
  have n2 : (o ++ [x]).Nodup := by
    refine List.nodup_append.mpr ⟨hn, by simp, fun a ha b hb => ?_⟩
    rw [List.mem_singleton.mp hb]
    exact fun z => hx (z ▸ ha)
  have k2 := dist_mirror (e := e2) n2 (by rw [List.length_append]; omega) (List.Perm.append_right _ hp) h2 (by simpa using he2)
  have k3 := dist_cons (o := o.reverse) (t := t.reverse) (x := x) ((List.reverse_perm t).nodup_iff.mpr ht) (fun z => hxt (List.mem_reverse.mp z)) (by rw [List.length_reverse]; omega) hd2 he2
  omega
end LS
set_option maxHeartbeats 2100000
/-! which commands may be exchanged -/
namespace LS
open PySem L2 PySem.Spec PyProof.Rows
theorem out_at {A C : List Str} {l : Str} (h : l ∉ A) : outOf (A ++ l :: C) l = A ++ C := by
  unfold outOf
  rw [idx_append_right _ h, idx_cons_self]
  simp
theorem out_head (l : Str) (C : List Str) : outOf (l :: C) l = C := out_at (A := []) (by simp)
theorem front_eq (o : List Str) (l : Str) : moved o ("front", l) = l :: outOf o l := by
  unfold moved putAt
  rw [show newIx "front" (idx o l) (outOf o l).length = 0 from rfl]
  simp
theorem back_eq (o : List Str) (l : Str) : moved o ("back", l) = outOf o l ++ [l] := by
  unfold moved putAt
  rw [show newIx "back" (idx o l) (outOf o l).length = (outOf o l).length from rfl]
  simp
theorem outF {o : List Str} {l : Str} (hn : o.Nodup) (h : l ∈ o) : outOf o l = o.filter fun x => !decide (x = l) := (filter_out hn h).symm
theorem out_nd {o : List Str} {l : Str} (hn : o.Nodup) (h : l ∈ o) : (outOf o l).Nodup := by
  rw [outF hn h]
  exact hn.filter _
theorem out_mem {o : List Str} {l x : Str} (hn : o.Nodup) (h : l ∈ o) : x ∈ outOf o l ↔ x ∈ o ∧ x ≠ l := by
  rw [outF hn h, List.mem_filter]
  simp
theorem out_comm {o : List Str} {x y : Str} (hn : o.Nodup) (hx : x ∈ o) (hy : y ∈ o) (hne : x ≠ y) : outOf (outOf o x) y = outOf (outOf o y) x := by
  rw [outF (out_nd hn hx) ((out_mem hn hx).mpr ⟨hy, hne.symm⟩), outF (out_nd hn hy) ((out_mem hn hy).mpr ⟨hx, hne⟩), outF hn hx, outF hn hy, List.filter_filter, List.filter_filter]
  congr 1
  funext a
  rw [Bool.and_comm]
theorem out_cons {x y : Str} {R : List Str} (hne : x ≠ y) : outOf (x :: R) y = x :: outOf R y := by
  unfold outOf
  rw [idx_cons_ne hne]
  simp
theorem out_snoc {y x : Str} {R : List Str} (hx : x ∈ R) : outOf (R ++ [y]) x = outOf R x ++ [y] := by
  have hl := idx_lt hx
  have e : idx (R ++ [y]) x = idx R x := by
    unfold idx
    rw [List.findIdx_append, if_pos]
    exact hl
  unfold outOf
  rw [e, List.take_append_of_le_length (Nat.le_of_lt hl), List.drop_append_of_le_length hl, List.append_assoc]
theorem out_moved {o : List Str} {w x : Str} (hn : o.Nodup) (hx : x ∈ o) : outOf (moved o (w, x)) x = outOf o x := by
  have p := moved_perm (o := o) (c := (w, x)) hx
  rw [outF (p.nodup_iff.mpr hn) (p.mem_iff.mpr hx)]
  exact put_filter (fun z => ((out_mem hn hx).mp z).2 rfl) _
theorem mv_nd {o : List Str} {c : Str × Str} (hn : o.Nodup) (hc : c.2 ∈ o) : (moved o c).Nodup := (moved_perm hc).nodup_iff.mpr hn
theorem mv_mem {o : List Str} {c : Str × Str} {x : Str} (hc : c.2 ∈ o) (hx : x ∈ o) : x ∈ moved o c := (moved_perm hc).mem_iff.mpr hx
section
variable {o : List Str} {x y : Str}
theorem front_after (w : Str) (hn : o.Nodup) (hx : x ∈ o) : moved (moved o (w, x)) ("front", x) = moved o ("front", x) := by
  rw [front_eq, front_eq, out_moved hn hx]
theorem back_after (w : Str) (hn : o.Nodup) (hx : x ∈ o) : moved (moved o (w, x)) ("back", x) = moved o ("back", x) := by
  rw [back_eq, back_eq, out_moved hn hx]
theorem up_after (o : List Str) (x : Str) : moved (moved o ("front", x)) ("up", x) = moved o ("front", x) := by
  rw [front_eq]
  exact up_first _ _
theorem down_after (hn : o.Nodup) (hx : x ∈ o) : moved (moved o ("back", x)) ("down", x) = moved o ("back", x) := by
  rw [back_eq]
  exact down_last fun z => ((out_mem hn hx).mp z).2 rfl
theorem fb_comm (hn : o.Nodup) (hx : x ∈ o) (hy : y ∈ o) (hne : x ≠ y) : moved (moved o ("front", x)) ("back", y) = moved (moved o ("back", y)) ("front", x) := by
  rw [front_eq, back_eq, back_eq, front_eq, out_cons hne, out_snoc ((out_mem hn hy).mpr ⟨hx, hne⟩), out_comm hn hx hy hne]
  rfl
/-- a layer brought to front again -/
theorem twice_f (hn : o.Nodup) (hx : x ∈ o) (hy : y ∈ o) : moved (moved (moved o ("front", x)) ("front", y)) ("front", x) = moved (moved o ("front", y)) ("front", x) := by
  by_cases hne : x = y
  · subst hne
    rw [front_after "front" hn hx]
    exact front_after "front" hn hx
  · rw [front_eq o x, front_eq _ y, front_eq _ x, front_eq o y, front_eq _ x, out_cons hne, out_cons (Ne.symm hne), out_head, out_cons (Ne.symm hne), out_comm hn hx hy hne]
theorem twice_b (hn : o.Nodup) (hx : x ∈ o) (hy : y ∈ o) : moved (moved (moved o ("front", x)) ("back", y)) ("front", x) = moved (moved o ("back", y)) ("front", x) := by
  by_cases hne : x = y
  · subst hne
    rw [front_after "back" (mv_nd hn hx) (mv_mem hx hx), front_after "front" hn hx, front_after "back" hn hx]
  · rw [fb_comm hn hx hy hne, front_after "front" (mv_nd hn hy) (mv_mem hy hx)]
theorem twice_s (w : Str) (hn : o.Nodup) (hx : x ∈ o) : moved (moved (moved o ("front", x)) (w, x)) ("front", x) = moved (moved o (w, x)) ("front", x) := by
  rw [front_after w (mv_nd hn hx) (mv_mem hx hx), front_after "front" hn hx, front_after w hn hx]
end
theorem up_two {A C : List Str} {m l : Str} (hA : l ∉ A) (hm : l ≠ m) : moved (A ++ m :: l :: C) ("up", l) = A ++ l :: m :: C := by
  have e : A ++ m :: l :: C = (A ++ [m]) ++ l :: C := by simp
  have h : l ∉ A ++ [m] := by simp [hA, hm]
  unfold moved
  rw [e, out_at h, idx_append_right _ h, idx_cons_self]
  unfold putAt
  rw [show newIx "up" ((A ++ [m]).length + 0) ((A ++ [m]) ++ C).length = A.length by simp [newIx, show ¬ (("up" : Str) = "front") by decide +kernel, show ¬ (("up" : Str) = "back") by decide +kernel]]
  simp
/-- they do not commute -/
def NC (xs : List Str) (c d : Str × Str) : Prop := ∃ o : List Str, o.Perm xs ∧ moved (moved o c) d ≠ moved (moved o d) c
theorem NC.swap {xs : List Str} {c d : Str × Str} (h : NC xs c d) : NC xs d c := by
  obtain ⟨o, p, e⟩ := h
  exact ⟨o, p, fun z => e z.symm⟩
theorem NC.turn {xs : List Str} {v w x y : Str} (hn : xs.Nodup) (hx : x ∈ xs) (hy : y ∈ xs) (hv : v ∈ fourWords) (hw : w ∈ fourWords) (h : NC xs (v, x) (w, y)) : NC xs (turnW v, x) (turnW w, y) := by
  obtain ⟨o, p, e⟩ := h
  refine ⟨o.reverse, (List.reverse_perm o).trans p, fun z => e ?_⟩
  have on := p.nodup_iff.mpr hn
  have ox := p.mem_iff.mpr hx
  have oy := p.mem_iff.mpr hy
  rw [moved_rev on ox hv, moved_rev (mv_nd (c := (v, x)) on ox) (mv_mem (c := (v, x)) ox oy) hw, moved_rev on oy hw, moved_rev (mv_nd (c := (w, y)) on oy) (mv_mem (c := (w, y)) oy ox) hv] at z
  exact List.reverse_inj.mp z
theorem three {xs : List Str} {x y : Str} (hn : xs.Nodup) (hx : x ∈ xs) (hy : y ∈ xs) (hne : x ≠ y) (h3 : 3 ≤ xs.length) : ∃ (z : Str) (r : List Str), (x :: y :: z :: r).Perm xs := by
  have p1 := out_perm hx
  have hy1 : y ∈ outOf xs x := (out_mem hn hx).mpr ⟨hy, hne.symm⟩
  have p2 := out_perm hy1
  cases e : outOf (outOf xs x) y with
  | nil =>
    rw [e] at p2
    have := p1.length_eq
    have := p2.length_eq
    simp only [List.length_cons, List.length_nil] at *
    omega
  | cons z r =>
    rw [e] at p2
    exact ⟨z, r, (List.Perm.cons x p2).trans p1⟩
section
variable {xs : List Str} {x y : Str}
theorem nc_ff (hn : xs.Nodup) (hx : x ∈ xs) (hy : y ∈ xs) (hne : x ≠ y) : NC xs ("front", x) ("front", y) := by
  refine ⟨xs, .refl _, fun z => ?_⟩
  rw [front_eq _ y, front_eq _ x] at z
  exact hne (List.cons.inj z).1.symm
theorem nc_x (hn : xs.Nodup) (hx : x ∈ xs) (hy : y ∈ xs) (hne : x ≠ y) (h3 : 3 ≤ xs.length) : NC xs ("front", x) ("up", y) ∧ NC xs ("front", x) ("down", y) ∧ NC xs ("up", x) ("up", y) ∧ NC xs ("up", x) ("down", y) := by
  obtain ⟨z, r, p⟩ := three hn hx hy hne h3
  have p' : (y :: x :: z :: r).Perm xs := (List.Perm.swap x y (z :: r)).trans p
  have nd := p.nodup_iff.mpr hn
  have yz : y ≠ z := by
    intro e
    subst e
    simp at nd
  have xz : x ≠ z := by
    intro e
    subst e
    simp at nd
  have f1 : moved (y :: x :: z :: r) ("front", x) = x :: y :: z :: r := by
    rw [front_eq, out_cons hne.symm, out_head]
  have f2 : moved (x :: y :: z :: r) ("front", x) = x :: y :: z :: r := by
    rw [front_eq, out_head]
  have u1 : moved (x :: y :: z :: r) ("up", y) = y :: x :: z :: r := up_two (A := []) (by simp) hne.symm
  have u2 : moved (y :: x :: z :: r) ("up", y) = y :: x :: z :: r := up_first _ _
  have u3 : moved (y :: x :: z :: r) ("up", x) = x :: y :: z :: r := up_two (A := []) (by simp) hne
  have u4 : moved (x :: y :: z :: r) ("up", x) = x :: y :: z :: r := up_first _ _
  have d1 : moved (x :: y :: z :: r) ("down", y) = x :: z :: y :: r := down_one (A := [x]) (by simpa using hne.symm)
  have d2 : moved (y :: x :: z :: r) ("down", y) = x :: y :: z :: r := down_one (A := []) (by simp)
  refine ⟨⟨_, p', ?_⟩, ⟨_, p', ?_⟩, ⟨_, p', ?_⟩, ⟨_, p', ?_⟩⟩
  · rw [f1, u1, u2, f1]
    intro e
    exact hne (List.cons.inj e).1.symm
  · rw [f1, d1, d2, f2]
    intro e
    exact yz (List.cons.inj (List.cons.inj e).2).1.symm
  · rw [u3, u1, u2, u3]
    intro e
    exact hne (List.cons.inj e).1.symm
  · rw [u3, d1, d2, u4]
    intro e
    exact yz (List.cons.inj (List.cons.inj e).2).1.symm
theorem nc_s (hn : xs.Nodup) (hx : x ∈ xs) (h3 : 3 ≤ xs.length) : NC xs ("front", x) ("back", x) ∧ NC xs ("front", x) ("down", x) ∧ NC xs ("up", x) ("down", x) := by
  have p1 := out_perm hx
  cases e : outOf xs x with
  | nil =>
    rw [e] at p1
    have := p1.length_eq
    simp only [List.length_cons, List.length_nil] at this
    omega
  | cons z r =>
    rw [e] at p1
    have nd := p1.nodup_iff.mpr hn
    have xz : x ≠ z := by
      intro e
      subst e
      simp at nd
    have f1 : moved (x :: z :: r) ("front", x) = x :: z :: r := by rw [front_eq, out_head]
    have f2 : moved (z :: x :: r) ("front", x) = x :: z :: r := by rw [front_eq, out_cons xz.symm, out_head]
    have b1 : moved (x :: z :: r) ("back", x) = z :: r ++ [x] := by rw [back_eq, out_head]
    have d1 : moved (x :: z :: r) ("down", x) = z :: x :: r := down_one (A := []) (by simp)
    have u1 : moved (x :: z :: r) ("up", x) = x :: z :: r := up_first _ _
    have u2 : moved (z :: x :: r) ("up", x) = x :: z :: r := up_two (A := []) (by simp) xz
    refine ⟨⟨_, p1, ?_⟩, ⟨_, p1, ?_⟩, ⟨_, p1, ?_⟩⟩
    · rw [f1, b1]
      intro e
      rw [front_eq] at e
      exact xz (List.cons.inj e).1.symm
    · rw [f1, d1, f2]
      intro e
      exact xz (List.cons.inj e).1.symm
    · rw [u1, d1, u2]
      intro e
      exact xz (List.cons.inj e).1.symm
end
theorem eqAll_iff {xs : List Str} {cs ds : List (Str × Str)} (hn : xs.Nodup) : eqAll xs cs ds = true ↔ ∀ o : List Str, o.Perm xs → runA o cs = runA o ds := by
  unfold eqAll
  rw [List.all_eq_true]
  constructor
  · intro h o p
    exact of_decide_eq_true (h o ((mem_ords hn).mpr p))
  · intro h o ho
    exact decide_eq_true (h o ((mem_ords hn).mp ho))
theorem eqAll_nc {xs : List Str} {c d : Str × Str} (hn : xs.Nodup) (h : NC xs c d) : eqAll xs [c, d] [d, c] = false := by
  obtain ⟨o, p, e⟩ := h
  exact Bool.eq_false_iff.mpr fun z => e ((eqAll_iff hn).mp z o p)
/-- what the law expects -/
def kFU : List Str := ["front", "up"]
def kBD : List Str := ["back", "down"]
def kBF : List Str := ["back", "front"]
def expc (c d : Str × Str) : Bool := if c.2 = d.2 then decide (c = d) || (decide (srt [c.1, d.1] = kFU) || decide (srt [c.1, d.1] = kBD)) else decide (srt [c.1, d.1] = kBF)
theorem srt_two {v w : Str} : srt [v, w] = if leS v w = true then [v, w] else [w, v] := by
  have h : srt [v, w] = [v, w] ∨ srt [v, w] = [w, v] := by
    have p := srt_perm [v, w]
    have l := srt_len [v, w]
    match e : srt [v, w], l with
    | [a, b], _ =>
      rw [e] at p
      have hm : a = v ∨ a = w := by simpa using p.mem_iff.mp List.mem_cons_self
      rcases hm with rfl | rfl
      · exact .inl (by rw [List.perm_singleton.mp (List.Perm.cons_inv p)])
      · exact .inr (by rw [List.perm_singleton.mp (List.Perm.cons_inv (p.trans (List.Perm.swap _ _ _)))])
  have q := srt_pw [v, w]
  by_cases c : leS v w = true
  · rw [if_pos c]
    rcases h with h | h
    · exact h
    · rw [h] at q
      have c2 : leS w v = true := by simpa using q
      have e := leS_anti c c2
      subst e
      exact h
  · rw [if_neg c]
    rcases h with h | h
    · rw [h] at q
      exact absurd (by simpa using q) c
    · exact h
theorem four_cases {w : Str} (h : w ∈ fourWords) : w = "front" ∨ w = "back" ∨ w = "up" ∨ w = "down" := by
  simpa [fourWords] using h
def sr (v w : Str) : List Str := if leS v w = true then [v, w] else [w, v]
def exS (v w : Str) : Bool := decide (v = w) || (decide (sr v w = kFU) || decide (sr v w = kBD))
def exD (v w : Str) : Bool := decide (sr v w = kBF)
theorem exS_tab : (exS "front" "front" = true ∧ exS "front" "back" = false ∧ exS "front" "up" = true ∧ exS "front" "down" = false) ∧ (exS "back" "front" = false ∧ exS "back" "back" = true ∧ exS "back" "up" = false ∧ exS "back" "down" = true) ∧
    (exS "up" "front" = true ∧ exS "up" "back" = false ∧ exS "up" "up" = true ∧ exS "up" "down" = false) ∧ (exS "down" "front" = false ∧ exS "down" "back" = true ∧ exS "down" "up" = false ∧ exS "down" "down" = true) := by decide +kernel
theorem exD_tab : (exD "front" "front" = false ∧ exD "front" "back" = true ∧ exD "front" "up" = false ∧ exD "front" "down" = false) ∧ (exD "back" "front" = true ∧ exD "back" "back" = false ∧ exD "back" "up" = false ∧ exD "back" "down" = false) ∧
    (exD "up" "front" = false ∧ exD "up" "back" = false ∧ exD "up" "up" = false ∧ exD "up" "down" = false) ∧ (exD "down" "front" = false ∧ exD "down" "back" = false ∧ exD "down" "up" = false ∧ exD "down" "down" = false) := by decide +kernel
theorem comm_exp {xs : List Str} {c d : Str × Str} (hn : xs.Nodup) (hc : c.1 ∈ fourWords) (hd : d.1 ∈ fourWords) (hx : c.2 ∈ xs) (hy : d.2 ∈ xs) (h3 : 3 ≤ xs.length) : eqAll xs [c, d] [d, c] = expc c d := by
  obtain ⟨v, x⟩ := c
  obtain ⟨w, y⟩ := d
  dsimp only at hc hd hx hy
  have com : (∀ o : List Str, o.Perm xs → moved (moved o (v, x)) (w, y) = moved (moved o (w, y)) (v, x)) → eqAll xs [(v, x), (w, y)] [(w, y), (v, x)] = true := fun h => (eqAll_iff hn).mpr fun o p => h o p
  have non : NC xs (v, x) (w, y) → eqAll xs [(v, x), (w, y)] [(w, y), (v, x)] = false := eqAll_nc hn
  have ond : ∀ {o : List Str}, o.Perm xs → o.Nodup := fun p => p.nodup_iff.mpr hn
  have omx : ∀ {o : List Str}, o.Perm xs → x ∈ o := fun p => p.mem_iff.mpr hx
  have omy : ∀ {o : List Str}, o.Perm xs → y ∈ o := fun p => p.mem_iff.mpr hy
  have fw : ("front" : Str) ∈ fourWords ∧ ("back" : Str) ∈ fourWords ∧ ("up" : Str) ∈ fourWords ∧ ("down" : Str) ∈ fourWords := by decide +kernel
  have tw : turnW "front" = "back" ∧ turnW "back" = "front" ∧ turnW "up" = "down" ∧ turnW "down" = "up" := by decide +kernel
  by_cases e : x = y
  · subst e
    obtain ⟨a1, a2, a3⟩ := nc_s hn hx h3
    have a4 : NC xs ("back", x) ("up", x) := by
      have := NC.turn hn hx hx fw.1 fw.2.2.2 a2
      rw [tw.1, tw.2.2.2] at this
      exact this
    have ex : expc (v, x) (w, x) = exS v w := by
      unfold expc
      rw [if_pos rfl, srt_two]
      show (decide ((v, x) = (w, x)) || _) = (decide (v = w) || _)
      rw [show decide ((v, x) = (w, x)) = decide (v = w) from decide_eq_decide.mpr ⟨fun z => (Prod.mk.inj z).1, fun z => by rw [z]⟩]
      rfl
    rw [ex]
    obtain ⟨⟨t1, t2, t3, t4⟩, ⟨t5, t6, t7, t8⟩, ⟨t9, t10, t11, t12⟩, t13, t14, t15, t16⟩ := exS_tab
    rcases four_cases hc with rfl | rfl | rfl | rfl <;> rcases four_cases hd with rfl | rfl | rfl | rfl
    · rw [com fun o p => rfl, t1]
    · rw [non a1, t2]
    · rw [com fun o p => by rw [up_after, front_after "up" (ond p) (omx p)], t3]
    · rw [non a2, t4]
    · rw [non a1.swap, t5]
    · rw [com fun o p => rfl, t6]
    · rw [non a4, t7]
    · rw [com fun o p => by rw [down_after (ond p) (omx p), back_after "down" (ond p) (omx p)], t8]
    · rw [com fun o p => by rw [up_after, front_after "up" (ond p) (omx p)], t9]
    · rw [non a4.swap, t10]
    · rw [com fun o p => rfl, t11]
    · rw [non a3, t12]
    · rw [non a2.swap, t13]
    · rw [com fun o p => by rw [down_after (ond p) (omx p), back_after "down" (ond p) (omx p)], t14]
    · rw [non a3.swap, t15]
    · rw [com fun o p => rfl, t16]
  · obtain ⟨a1, a2, a3, a4⟩ := nc_x hn hx hy e h3
    obtain ⟨b1, b2, b3, b4⟩ := nc_x hn hy hx (Ne.symm e) h3
    have a0 := nc_ff hn hx hy e
    have tn : ∀ {v w : Str}, v ∈ fourWords → w ∈ fourWords → NC xs (v, x) (w, y) → NC xs (turnW v, x) (turnW w, y) := fun h1 h2 h => NC.turn hn hx hy h1 h2 h
    have tn' : ∀ {v w : Str}, v ∈ fourWords → w ∈ fourWords → NC xs (v, y) (w, x) → NC xs (turnW w, x) (turnW v, y) := fun h1 h2 h => (NC.turn hn hy hx h1 h2 h).swap
    have c0 : NC xs ("back", x) ("back", y) := by have z := tn fw.1 fw.1 a0; rw [tw.1] at z; exact z
    have c1 : NC xs ("back", x) ("down", y) := by have z := tn fw.1 fw.2.2.1 a1; rw [tw.1, tw.2.2.1] at z; exact z
    have c2 : NC xs ("back", x) ("up", y) := by have z := tn fw.1 fw.2.2.2 a2; rw [tw.1, tw.2.2.2] at z; exact z
    have c3 : NC xs ("down", x) ("down", y) := by have z := tn fw.2.2.1 fw.2.2.1 a3; rw [tw.2.2.1] at z; exact z
    have c4 : NC xs ("down", x) ("up", y) := by have z := tn fw.2.2.1 fw.2.2.2 a4; rw [tw.2.2.1, tw.2.2.2] at z; exact z
    have c5 : NC xs ("down", x) ("back", y) := by have z := tn' fw.1 fw.2.2.1 b1; rw [tw.1, tw.2.2.1] at z; exact z
    have c6 : NC xs ("up", x) ("back", y) := by have z := tn' fw.1 fw.2.2.2 b2; rw [tw.1, tw.2.2.2] at z; exact z
    have ex : expc (v, x) (w, y) = exD v w := by
      unfold expc
      rw [if_neg e, srt_two]
      rfl
    rw [ex]
    obtain ⟨⟨t1, t2, t3, t4⟩, ⟨t5, t6, t7, t8⟩, ⟨t9, t10, t11, t12⟩, t13, t14, t15, t16⟩ := exD_tab
    rcases four_cases hc with rfl | rfl | rfl | rfl <;> rcases four_cases hd with rfl | rfl | rfl | rfl
    · rw [non a0, t1]
    · rw [com fun o p => fb_comm (ond p) (omx p) (omy p) e, t2]
    · rw [non a1, t3]
    · rw [non a2, t4]
    · rw [com fun o p => (fb_comm (ond p) (omy p) (omx p) (Ne.symm e)).symm, t5]
    · rw [non c0, t6]
    · rw [non c2, t7]
    · rw [non c1, t8]
    · rw [non b1.swap, t9]
    · rw [non c6, t10]
    · rw [non a3, t11]
    · rw [non a4, t12]
    · rw [non b2.swap, t13]
    · rw [non c5, t14]
    · rw [non c4, t15]
    · rw [non c3, t16]
theorem twice_eq {xs : List Str} {x : Str} {d : Str × Str} (hn : xs.Nodup) (hx : x ∈ xs) (hy : d.2 ∈ xs) (h : d.1 = "front" ∨ d.1 = "back" ∨ d.2 = x) : eqAll xs [("front", x), d, ("front", x)] [d, ("front", x)] = true := by
  obtain ⟨w, y⟩ := d
  refine (eqAll_iff hn).mpr fun o p => ?_
  have on := p.nodup_iff.mpr hn
  have ox := p.mem_iff.mpr hx
  have oy := p.mem_iff.mpr hy
  rcases h with h | h | h
  · have h' : w = "front" := h
    subst h'
    exact twice_f on ox oy
  · have h' : w = "back" := h
    subst h'
    exact twice_b on ox oy
  · have h' : y = x := h
    subst h'
    exact twice_s w on ox
theorem four_ok : ∀ z, z ∈ fourWords → PyData.strOk z = true := by decide +kernel
def spExp : Sp := fun vs H Q _ => ∃ (a b : Addr) (c d : Str × Str), vs = [.ref a, .ref b] ∧ Tn H a [.str c.1, .str c.2] ∧ Tn H b [.str d.1, .str d.2] ∧ c.1 ∈ fourWords ∧ d.1 ∈ fourWords ∧ PyData.strOk c.2 = true ∧ PyData.strOk d.2 = true ∧ ∀ H', Same H H' → Q (.bl (expc c d)) H'
theorem cmdsL_len (xs : List Str) : (cmdsL xs).length = 4 * xs.length := by
  unfold cmdsL kindsL
  simp only [List.flatMap_cons, List.flatMap_nil, List.length_append, List.length_map, srt_len, List.length_nil]
  omega
theorem cmdsL_mem {xs : List Str} {c : Str × Str} (h : c ∈ cmdsL xs) : c.1 ∈ fourWords ∧ c.2 ∈ xs := by
  unfold cmdsL at h
  obtain ⟨k, hk, hc⟩ := List.mem_flatMap.mp h
  obtain ⟨n, hn, rfl⟩ := List.mem_map.mp hc
  refine ⟨?_, srt_mem.mp hn⟩
  have all : ∀ z, z ∈ kindsL → z ∈ fourWords := by decide +kernel
  exact all k hk
theorem filter_eqAll (xs : List Str) (cs ds : List (Str × Str)) : decide ((ords xs).filter (diffs cs ds) = []) = eqAll xs cs ds := by
  rw [Bool.eq_iff_iff, decide_eq_true_iff, List.filter_eq_nil_iff]
  unfold eqAll diffs
  rw [List.all_eq_true]
  constructor
  · intro h o ho
    simpa using h o ho
  · intro h o ho
    simpa using h o ho
def abc : List Str := ["a", "b", "c"]
theorem abc_nd : abc.Nodup := by decide +kernel
theorem abc_ok : StrsOk abc := by decide +kernel
theorem abc_in : ("a" : Str) ∈ abc ∧ ("b" : Str) ∈ abc := by decide +kernel
section
variable {X : Cx}
theorem op_neTsK {K : PySem.W.Frag} (hK : X.K = K) (hu : X.A.units + 64 < cLine) : OpR X (compareOp .NotEq) (rEqTs K true) := by
  subst hK
  exact op_neTs hu
theorem op_eqTsK {K : PySem.W.Frag} (hK : X.K = K) (hu : X.A.units + 64 < cLine) : OpR X (compareOp .Eq) (rEqTs K false) := by
  subst hK
  exact op_eqTs hu
theorem op_eqDK {K : PySem.W.Frag} (hK : X.K = K) (hu : X.A.units + 64 < cLine) : OpR X (compareOp .Eq) (rEqD K) := by
  subst hK
  exact op_eqD hu
end
end LS
set_option maxHeartbeats 2100000
/-! a search over all commands, level by level -/
namespace LS
open PySem L2 PySem.Spec PyProof.Rows
/-- k commands lead to o -/
def Rch (os : List Str) (k : Nat) (o : List Str) : Prop := ∃ cs : List (Str × Str), cs.length = k ∧ runA os cs = o ∧ GoodCs os cs
/-- .. and no fewer -/
def Lv (os : List Str) (k : Nat) (o : List Str) : Prop := Rch os k o ∧ ∀ j, j < k → ¬ Rch os j o
section
variable {os : List Str}
theorem Rch.perm {k : Nat} {o : List Str} (h : Rch os k o) : o.Perm os := by
  obtain ⟨cs, _, rfl, g⟩ := h
  exact runA_perm fun c hc => (g c hc).2
theorem Lv.perm {k : Nat} {o : List Str} (h : Lv os k o) : o.Perm os := h.1.perm
theorem Lv.uniq {j k : Nat} {o : List Str} (h1 : Lv os j o) (h2 : Lv os k o) : j = k := by
  rcases Nat.lt_trichotomy j k with h | h | h
  · exact absurd h1.1 (h2.2 j h)
  · exact h
  · exact absurd h2.1 (h1.2 k h)
theorem Rch.next {k : Nat} {o : List Str} {c : Str × Str} (h : Rch os k o) (h1 : c.1 ∈ fourWords) (h2 : c.2 ∈ os) : Rch os (k + 1) (moved o c) := by
  obtain ⟨cs, l, r, g⟩ := h
  refine ⟨cs ++ [c], by rw [List.length_append, l]; rfl, ?_, fun d hd => ?_⟩
  · unfold runA at r ⊢
    rw [List.foldl_append, r]
    rfl
  · rcases List.mem_append.mp hd with z | z
    · exact g d z
    · have ez := List.mem_singleton.mp z
      rw [ez]
      exact ⟨h1, h2⟩
theorem Rch.least {o : List Str} : ∀ {k : Nat}, Rch os k o → ∃ j, j ≤ k ∧ Lv os j o := by
  intro k
  induction k using Nat.strongRecOn with
  | ind k ih =>
    intro h
    by_cases c : ∃ j, j < k ∧ Rch os j o
    · obtain ⟨j, hj, hr⟩ := c
      obtain ⟨i, hi, hl⟩ := ih j hj hr
      exact ⟨i, by omega, hl⟩
    · exact ⟨k, Nat.le_refl _, h, fun j hj hr => c ⟨j, hj, hr⟩⟩
theorem Lv.pred {k : Nat} {o : List Str} (h : Lv os (k + 1) o) : ∃ (p : List Str) (c : Str × Str), Lv os k p ∧ c.1 ∈ fourWords ∧ c.2 ∈ os ∧ moved p c = o := by
  obtain ⟨⟨cs, l, r, g⟩, hm⟩ := h
  have ne : cs ≠ [] := fun z => by
    rw [z] at l
    cases l
  have e : cs.dropLast ++ [cs.getLast ne] = cs := List.dropLast_concat_getLast ne
  have gl := g (cs.getLast ne) (List.getLast_mem ne)
  have er : moved (runA os cs.dropLast) (cs.getLast ne) = o := by
    rw [← r]
    conv => rhs; rw [← e]
    unfold runA
    rw [List.foldl_append]
    rfl
  refine ⟨runA os cs.dropLast, cs.getLast ne, ⟨⟨cs.dropLast, by rw [List.length_dropLast, l]; rfl, rfl, fun c hc => g c ((List.dropLast_sublist cs).subset hc)⟩, fun j hj hr => ?_⟩, gl.1, gl.2, er⟩
  have := hr.next gl.1 gl.2
  rw [er] at this
  exact hm (j + 1) (by omega) this
theorem lv_zero : Lv os 0 os := ⟨⟨[], rfl, rfl, fun c h => nomatch h⟩, fun j h => absurd h (Nat.not_lt_zero _)⟩
theorem lv_zero_eq {o : List Str} (h : Lv os 0 o) : o = os := by
  obtain ⟨⟨cs, l, r, _⟩, _⟩ := h
  rw [List.eq_nil_of_length_eq_zero l] at r
  exact r.symm
theorem lv_dist (hn : os.Nodup) (h0 : 0 < os.length) {o : List Str} {d : Nat} (hp : o.Perm os) (h : IsDist os o d) : Lv os d o := by
  obtain ⟨cs, l, r, g⟩ := dist_script hn hp h
  refine ⟨⟨cs, l, r, g⟩, fun j hj hr => ?_⟩
  obtain ⟨ds, l2, r2, g2⟩ := hr
  have := dist_least hn h0 (fun c hc => (g2 c hc).2) r2 h
  omega
theorem dist_lv (hn : os.Nodup) (h0 : 0 < os.length) {o : List Str} {d : Nat} (h : Lv os d o) : IsDist os o d := by
  have hp := h.perm
  obtain ⟨e, he⟩ := dist_ex os (t := o) (by rw [hp.length_eq]; exact h0)
  have := (lv_dist hn h0 hp he).uniq h
  rw [← this]
  exact he
theorem lv_lt (hn : os.Nodup) (h0 : 0 < os.length) {o : List Str} {d : Nat} (h : Lv os d o) : d < os.length := by
  have hp := h.perm
  have := dist_lt (by rw [hp.length_eq]; exact h0) (dist_lv hn h0 h)
  rw [hp.length_eq] at this
  exact this
theorem lv_ex (hn : os.Nodup) (h0 : 0 < os.length) {o : List Str} (hp : o.Perm os) : ∃ d, Lv os d o := by
  obtain ⟨e, he⟩ := dist_ex os (t := o) (by rw [hp.length_eq]; exact h0)
  exact ⟨e, lv_dist hn h0 hp he⟩
end
/-! ### what the search holds -/
/-- rows of a dict -/
abbrev rowsE (es : List Ent) : List (List Str) := es.map (·.1)
theorem val_some {es : List Ent} {o : List Str} {v : V} (h : valR es o = some v) : ∃ b, (o, b, v) ∈ es := by
  unfold valR at h
  obtain ⟨e, he, rfl⟩ := Option.map_eq_some_iff.mp h
  have h1 := List.find?_some he
  have h2 := List.mem_of_find?_eq_some he
  have e1 : e.1 = o := of_decide_eq_true h1
  exact ⟨e.2.1, by rw [← e1]; exact h2⟩
theorem val_mem {es : List Ent} {o : List Str} : (valR es o).isSome = true ↔ o ∈ rowsE es := by
  unfold valR
  rw [Option.isSome_map, List.find?_isSome]
  constructor
  · rintro ⟨e, he, h⟩
    exact List.mem_map.mpr ⟨e, he, of_decide_eq_true h⟩
  · intro h
    obtain ⟨e, he, rfl⟩ := List.mem_map.mp h
    exact ⟨e, he, decide_eq_true rfl⟩
theorem put_new {es : List Ent} {o : List Str} {b : Addr} {v : V} (h : (valR es o).isSome = false) : putR es o b v = es ++ [(o, b, v)] := by
  unfold putR
  rw [if_neg (by rw [h]; decide)]
/-- the entries are right up to the level c, and at the level c + 1 as far as they go; all of the levels up to c are there -/
structure Half (os : List Str) (c : Nat) (es : List Ent) (rs : List (List Str)) : Prop where
  nd : (rowsE es).Nodup
  lv : ∀ e, e ∈ es → ∃ k, k ≤ c + 1 ∧ e.2.2 = .int (k : Nat) ∧ Lv os k e.1
  old : ∀ k o, k ≤ c → Lv os k o → o ∈ rowsE es
  rnd : rs.Nodup
  rin : ∀ o, o ∈ rs ↔ o ∈ rowsE es ∧ Lv os (c + 1) o
structure Full (os : List Str) (c : Nat) (es : List Ent) (fs : List (List Str)) : Prop where
  nd : (rowsE es).Nodup
  lv : ∀ e, e ∈ es → ∃ k, k ≤ c ∧ e.2.2 = .int (k : Nat) ∧ Lv os k e.1
  old : ∀ k o, k ≤ c → Lv os k o → o ∈ rowsE es
  fin : ∀ o, o ∈ fs ↔ Lv os c o
  fnd : fs.Nodup
section
variable {os : List Str} {c : Nat} {es : List Ent} {fs rs : List (List Str)}
theorem full_zero (b : Addr) : Full os 0 [(os, b, .int 0)] [os] := by
  refine ⟨by simp, fun e he => ?_, fun k o hk hl => ?_, fun o => ?_, by simp⟩
  · rw [List.mem_singleton.mp he]
    exact ⟨0, Nat.le_refl _, rfl, lv_zero⟩
  · have : k = 0 := by omega
    subst this
    rw [lv_zero_eq hl]
    simp
  · rw [List.mem_singleton]
    constructor
    · rintro rfl
      exact lv_zero
    · exact lv_zero_eq
theorem Full.half (h : Full os c es fs) : Half os c es [] := by
  refine ⟨h.nd, fun e he => ?_, h.old, List.nodup_nil, fun o => ⟨(fun z => nomatch z), fun ⟨z1, z2⟩ => ?_⟩⟩
  · obtain ⟨k, h1, h2, h3⟩ := h.lv e he
    exact ⟨k, by omega, h2, h3⟩
  · obtain ⟨e, he, rfl⟩ := List.mem_map.mp z1
    obtain ⟨k, h1, _, h3⟩ := h.lv e he
    have := h3.uniq z2
    omega
/-- a further row is met -/
theorem Half.meet (h : Half os c es rs) {p : List Str} {cm : Str × Str} (hp : Lv os c p) (h1 : cm.1 ∈ fourWords) (h2 : cm.2 ∈ os) (hno : (valR es (moved p cm)).isSome = false) (b : Addr) :
    Half os c (es ++ [(moved p cm, b, .int ((c + 1 : Nat) : Int))]) (rs ++ [moved p cm]) := by
  have nin : moved p cm ∉ rowsE es := fun z => by
    rw [val_mem.mpr z] at hno
    cases hno
  obtain ⟨j, hj, hl⟩ := (hp.1.next h1 h2).least
  have ej : j = c + 1 := by
    rcases Nat.lt_or_ge j (c + 1) with q | q
    · exact absurd (h.old j _ (by omega) hl) nin
    · omega
  subst ej
  have er : rowsE (es ++ [(moved p cm, b, .int ((c + 1 : Nat) : Int))]) = rowsE es ++ [moved p cm] := by
    unfold rowsE
    rw [List.map_append]
    rfl
  refine ⟨?_, fun e he => ?_, fun k o hk ho => ?_, ?_, fun o => ?_⟩
  · rw [er]
    refine List.nodup_append.mpr ⟨h.nd, by simp, fun x hx y hy e => ?_⟩
    rw [List.mem_singleton.mp hy] at e
    exact nin (e ▸ hx)
  · rcases List.mem_append.mp he with z | z
    · exact h.lv e z
    · have ez := List.mem_singleton.mp z
      rw [ez]
      exact ⟨c + 1, Nat.le_refl _, rfl, hl⟩
  · rw [er]
    exact List.mem_append_left _ (h.old k o hk ho)
  · refine List.nodup_append.mpr ⟨h.rnd, by simp, fun x hx y hy e => ?_⟩
    rw [List.mem_singleton.mp hy] at e
    exact nin (e ▸ ((h.rin x).mp hx).1)
  · rw [er, List.mem_append, List.mem_append, List.mem_singleton, h.rin]
    constructor
    · rintro (z | z)
      · exact ⟨.inl z.1, z.2⟩
      · rw [z]
        exact ⟨.inr rfl, hl⟩
    · rintro ⟨z | z, q⟩
      · exact .inl ⟨z, q⟩
      · exact .inr z
/-- the level is done -/
theorem Half.done (h : Half os c es rs) (all : ∀ p, Lv os c p → ∀ cm : Str × Str, cm ∈ cmdsL os → moved p cm ∈ rowsE es) : Full os (c + 1) es rs := by
  have new : ∀ o, Lv os (c + 1) o → o ∈ rowsE es := fun o ho => by
    obtain ⟨p, cm, hp, h1, h2, rfl⟩ := ho.pred
    refine all p hp cm ?_
    unfold cmdsL
    exact List.mem_flatMap.mpr ⟨cm.1, (by
      have z : ∀ z, z ∈ fourWords → z ∈ kindsL := by decide +kernel
      exact z _ h1), List.mem_map.mpr ⟨cm.2, srt_mem.mpr h2, rfl⟩⟩
  refine ⟨h.nd, fun e he => h.lv e he, fun k o hk ho => ?_, fun o => ?_, h.rnd⟩
  · rcases Nat.lt_or_ge k (c + 1) with q | q
    · exact h.old k o (by omega) ho
    · have : k = c + 1 := by omega
      subst this
      exact new o ho
  · rw [h.rin]
    exact ⟨fun z => z.2, fun z => ⟨new o z, z⟩⟩
theorem Full.all (h : Full os c es []) (hn : os.Nodup) (h0 : 0 < os.length) {o : List Str} (hp : o.Perm os) : o ∈ rowsE es := by
  obtain ⟨d, hd⟩ := lv_ex hn h0 hp
  rcases Nat.lt_or_ge d c with q | q
  · exact h.old d o (by omega) hd
  · have none_ : ∀ k, c ≤ k → ∀ o, ¬ Lv os k o := by
      intro k
      induction k with
      | zero =>
        intro hk o ho
        have : c = 0 := by omega
        subst this
        exact nomatch (h.fin o).mpr ho
      | succ k ih =>
        intro hk o ho
        rcases Nat.lt_or_ge k c with q | q
        · have : c = k + 1 := by omega
          subst this
          exact nomatch (h.fin o).mpr ho
        · obtain ⟨p, _, hp, _⟩ := ho.pred
          exact ih q p hp
    exact absurd hd (none_ d q o)
theorem rows_few (hn : os.Nodup) {L : List (List Str)} (hl : L.Nodup) (h : ∀ o, o ∈ L → o.Perm os) (h6 : os.length ≤ 6) : L.length < sizeLine := by
  refine pow6 (ys := srt os) (k := os.length) (by rw [srt_len]; exact h6) h6 ?_
  exact List.Nodup.length_le_of_subset hl fun o ho => (mem_ords hn).mpr (h o ho)
end
/-- at a the levels of all orders -/
def Levels (P : Program) (w : World) (H : Hp) (a : Addr) (os : List Str) (es : List Ent) : Prop := Dic P w H a es ∧ (∀ e, e ∈ es → ∃ k : Nat, e.2.2 = .int (k : Nat) ∧ Lv os k e.1) ∧ (∀ o : List Str, o.Perm os → o ∈ rowsE es) ∧ (rowsE es).Nodup
def spLevels (P : Program) (w : World) : Sp := fun vs H Q _ => ∃ (o : Addr) (os : List Str), vs = [.ref o] ∧ Tn H o (os.map V.str) ∧ os.Nodup ∧ 0 < os.length ∧ os.length ≤ 6 ∧ StrsOk os ∧
  ∀ (D : Addr) (es : List Ent) (H' : Hp), Same H H' → H D = none → Levels P w H' D os es → Q (.ref D) H'
/-! ### what stays when a list or a dict is written -/
theorem tn_keepX {H H' : Hp} {D : Addr} {x : HO} (hD : H D = some x) (hx : ∀ ob u, x ≠ .frz ob u) (k : ∀ b y, b ≠ D → H b = some y → H' b = some y) {a : Addr} {xs : List V} (h : Tn H a xs) : Tn H' a xs := by
  obtain ⟨ob, e1, e2⟩ := h
  refine ⟨ob, k _ _ (fun z => ?_) e1, e2⟩
  rw [z, hD] at e1
  exact hx _ _ (Option.some.inj e1)
theorem tups_keepX {H H' : Hp} {D : Addr} {x : HO} (hD : H D = some x) (hx : ∀ ob u, x ≠ .frz ob u) (k : ∀ b y, b ≠ D → H b = some y → H' b = some y) : ∀ {as : List Addr} {cs : List (List Str)}, Tups H as cs → Tups H' as cs
  | [], [], _ => trivial
  | _ :: _, _ :: _, h => ⟨tn_keepX hD hx k h.1, tups_keepX hD hx k h.2⟩
theorem cmds_keepX {H H' : Hp} {D : Addr} {x : HO} (hD : H D = some x) (hx : ∀ ob u, x ≠ .frz ob u) (k : ∀ b y, b ≠ D → H b = some y → H' b = some y) : ∀ {as : List Addr} {cs : List (Str × Str)}, Cmds H as cs → Cmds H' as cs
  | [], [], _ => trivial
  | _ :: _, _ :: _, h => ⟨tn_keepX hD hx k h.1, cmds_keepX hD hx k h.2⟩
theorem dicO_nf {P : Program} {w : World} {a : Addr} {es : List Ent} : ∀ ob u, DicO P w a es ≠ .frz ob u := fun ob u z => by cases z
theorem lst_nf {xs : List V} : ∀ ob u, HO.lst xs ≠ .frz ob u := fun ob u z => by cases z
theorem dic_keepL {P : Program} {w : World} {H H' : Hp} {D R : Addr} {zs : List V} {es : List Ent} (hR : H R = some (.lst zs)) (k : ∀ b y, b ≠ R → H b = some y → H' b = some y) (d : Dic P w H D es) : Dic P w H' D es := by
  refine ⟨k _ _ (fun z => ?_) d.1, fun e he => tn_keepX hR lst_nf k (d.2 e he)⟩
  have := d.1
  rw [z, hR] at this
  cases this
theorem same_keep {H H3 H4 : Hp} {D : Addr} (s : Same H H3) (n : H D = none) (k : ∀ b y, b ≠ D → H3 b = some y → H4 b = some y) : Same H H4 := fun b y e => k b y (ne_of_none e n) (s _ _ e)
theorem lst_ne_dic {P : Program} {w : World} {H : Hp} {D R : Addr} {zs : List V} {es : List Ent} (hR : H R = some (.lst zs)) (d : Dic P w H D es) : R ≠ D := fun z => by
  have := d.1
  rw [← z, hR] at this
  cases this
/-- the search amid a level -/
structure BI (P : Program) (w : World) (H H3 : Hp) (D F R : Addr) (os : List Str) (fs rs : List (List Str)) (fa ra : List Addr) (c : Nat) (es : List Ent) : Prop where
  s : Same H H3
  nD : H D = none
  nR : H R = none
  nF : H F = none
  d : Dic P w H3 D es
  f : H3 F = some (.lst (fa.map V.ref))
  ft : Tups H3 fa fs
  r : H3 R = some (.lst (ra.map V.ref))
  rt : Tups H3 ra rs
  fr : F ≠ R
  h : Half os c es rs
  fl : ∀ o, o ∈ fs ↔ Lv os c o
  fd : fs.Nodup
theorem BI.same {P : Program} {w : World} {H H3 H4 : Hp} {D F R : Addr} {os : List Str} {fs rs : List (List Str)} {fa ra : List Addr} {c : Nat} {es : List Ent} (b : BI P w H H3 D F R os fs rs fa ra c es) (s4 : Same H3 H4) : BI P w H H4 D F R os fs rs fa ra c es :=
  ⟨b.s.trans s4, b.nD, b.nR, b.nF, b.d.same s4, s4 _ _ b.f, b.ft.same s4, s4 _ _ b.r, b.rt.same s4, b.fr, b.h, b.fl, b.fd⟩
theorem lv_ok {os : List Str} (h : StrsOk os) {L : List (List Str)} {c : Nat} (hl : ∀ o, o ∈ L → Lv os c o) : ∀ o, o ∈ L → StrsOk o := fun o ho z hz => h z ((hl o ho).perm.mem_iff.mp hz)
theorem Dic.ext {P : Program} {w : World} {H H' : Hp} {a : Addr} {es : List Ent} (d : Dic P w H a es) (e : LamX.ExtN H H') : Dic P w H' a es := ⟨e _ _ d.1 (fun ps z => by cases z), fun x hx => (d.2 x hx).ext e⟩
theorem Tups.ext {H H' : Hp} (e : LamX.ExtN H H') : ∀ {as : List Addr} {cs : List (List Str)}, Tups H as cs → Tups H' as cs
  | [], [], _ => trivial
  | _ :: _, _ :: _, h => ⟨h.1.ext e, Tups.ext e h.2⟩
theorem val_of_mem : ∀ {es : List Ent} {e : Ent}, (rowsE es).Nodup → e ∈ es → valR es e.1 = some e.2.2
  | x :: es, e, hn, h => by
    have hn' := List.nodup_cons.mp hn; unfold valR
    by_cases q : x.1 = e.1
    · rw [show (x :: es).find? (fun e' : Ent => decide (e'.1 = e.1)) = some x from List.find?_cons_of_pos (decide_eq_true q)]; rcases List.mem_cons.mp h with z | z
      · rw [z]
        rfl
      · exact absurd (List.mem_map.mpr ⟨e, z, q.symm⟩) hn'.1
    · rw [show (x :: es).find? (fun e' : Ent => decide (e'.1 = e.1)) = es.find? (fun e' : Ent => decide (e'.1 = e.1)) from List.find?_cons_of_neg (by simpa using q)]; rcases List.mem_cons.mp h with z | z
      · exact absurd (by rw [z]) q
      · exact val_of_mem hn'.2 z
/-- the number that an entry holds -/
def numE (e : Ent) : Int := match e.2.2 with
  | .int i => i
  | _ => 0
def rowA4 : List Str := ["a", "b", "c", "d"]
def rowD4 : List Str := ["d", "a", "b", "c"]
def rowB4 : List Str := ["b", "a", "d", "c"]
theorem dist_a1 {d : Nat} (h : IsDist rowA4 rowD4 d) : d = 1 := by
  have c1 : cost rowA4 rowD4 1 4 = 1 := by decide +kernel
  have all : ∀ x : Nat × Nat, x ∈ stfrom 4 4 → 1 ≤ cost rowA4 rowD4 x.1 x.2 := by decide +kernel
  have h1 := h.2 1 4 (by decide) (by decide)
  obtain ⟨⟨a, b, hab, hb, e⟩, _⟩ := h
  have hb4 : b ≤ 4 := hb
  have h2 := all (a, b) ((mem_stfrom 4 (Nat.le_refl _)).mpr ⟨by omega, hab, hb4⟩)
  dsimp only at h2
  omega
theorem dist_a2 {d : Nat} (h : IsDist rowA4 rowB4 d) : d = 2 := by
  have c1 : cost rowA4 rowB4 0 4 = 2 := by decide +kernel
  have all : ∀ x : Nat × Nat, x ∈ stfrom 4 4 → 2 ≤ cost rowA4 rowB4 x.1 x.2 := by decide +kernel
  have h1 := h.2 0 4 (by decide) (by decide)
  obtain ⟨⟨a, b, hab, hb, e⟩, _⟩ := h
  have hb4 : b ≤ 4 := hb
  have h2 := all (a, b) ((mem_stfrom 4 (Nat.le_refl _)).mpr ⟨by omega, hab, hb4⟩)
  dsimp only at h2
  omega
section
variable {X : Cx} {P : Program} {w : World}
theorem pe_dgetRK {oe ie : Expr} {pos : Pos} {td ty : TE} (hP : X.prog = P) (hw : X.w = w) (hu : X.A.units + 1 < cLine) (ho : PE X oe td) (hi : PE X ie ty) (hs : NoSl ie) : PE X (.Subscript oe ie pos) (tDGetR P w td ty) := by
  subst hP hw
  exact pe_dgetR hu ho hi hs
end
end LS
set_option maxHeartbeats 2100000
/-! all commands, sorted; a tuple of texts that the module keeps -/
namespace LS
open PySem L2 PySem.Spec PyProof.Rows
def strsB : List Value → List Str → Bool
  | .str y _ :: vs, w :: ws => decide (y = w) && strsB vs ws
  | [], [] => true
  | _, _ => false
theorem strsB_ok : ∀ (ws : List Str) (vs : List Value), strsB vs ws = true → Vals (ws.map V.str) vs
  | [], [], _ => .nil
  | [], v :: vs, h => by cases v <;> exact absurd h (by unfold strsB; simp)
  | w :: ws, [], h => absurd h (by unfold strsB; simp)
  | w :: ws, v :: vs, h => by
    cases v with
    | str y t =>
      have h' : (decide (y = w) && strsB vs ws) = true := by
        unfold strsB at h
        exact h
      rw [Bool.and_eq_true] at h'
      have e := of_decide_eq_true h'.1
      subst e
      exact .cons ⟨t, rfl⟩ (strsB_ok ws vs h'.2)
    | _ => exact absurd h (by unfold strsB; simp)
def tupB (x : Str) (ws : List Str) (K : PySem.W.Frag) : Bool := He.Fa.ok K (.glo x) && (match K.lookup (He.ga K x) with
  | some o => (match o.cls, o.data with
    | .type t, .seq its _ => decide (t = "tuple") && (decide (its.size ≤ 1000) && strsB its.toList ws)
    | _, _ => false)
  | none => false)
/-- the module's name x holds a tuple of these texts -/
structure TupAt (K : PySem.W.Frag) (mg : Str → Option Value) (x : Str) (ws : List Str) (a : Addr) : Prop where
  g : mg x = some (.ref a)
  sq : ∀ H : Hp, SqT K H a (ws.map V.str)
theorem tupAt_of {K : PySem.W.Frag} {h : Heap} {mg : Str → Option Value} {x : Str} {ws : List Str} (X : K.In h) (G : h.Ns mainGlobals mg) (c : tupB x ws K = true) : TupAt K mg x ws (He.ga K x) := by
  unfold tupB at c
  rw [Bool.and_eq_true] at c
  refine ⟨He.glo_ok X G c.1, fun H => .inr ?_⟩
  have c2 := c.2
  cases e : K.lookup (He.ga K x) with
  | none =>
    rw [e] at c2
    cases c2
  | some o =>
    rw [e] at c2
    obtain ⟨cls, dd, data, sl⟩ := o
    dsimp only at c2
    cases cls with
    | type t =>
      cases data with
      | seq its n =>
        have c3 : (decide (t = "tuple") && (decide (its.size ≤ 1000) && strsB its.toList ws)) = true := c2
        rw [Bool.and_eq_true, Bool.and_eq_true] at c3
        exact ⟨_, its, n, rfl, by rw [of_decide_eq_true c3.1], rfl, Nat.le_of_lt (small1000 (of_decide_eq_true c3.2.1)), strsB_ok _ _ c3.2.2⟩
      | _ => cases c2
    | _ => cases c2
/-! ### all commands -/
def allC (os : List Str) : List (Str × Str) := fourWords.flatMap fun k => os.map fun n => (k, n)
theorem flat_perm {α β : Type} {f g : α → List β} (h : ∀ a, (f a).Perm (g a)) : ∀ l : List α, (l.flatMap f).Perm (l.flatMap g)
  | [] => .refl _
  | a :: l => by
    rw [List.flatMap_cons, List.flatMap_cons]
    exact (h a).append (flat_perm h l)
theorem kinds_perm : kindsL.Perm fourWords := by decide +kernel
theorem cmds_perm (os : List Str) : (cmdsL os).Perm (allC os) := (List.Perm.flatMap_right _ kinds_perm).trans (flat_perm (fun k => (srt_perm os).map _) _)
theorem kinds_rise : kindsL.Pairwise fun a b => a ≠ b ∧ ltCps b.cps.toList a.cps.toList = false := by decide +kernel
theorem cmds_sorted (os : List Str) : ((cmdsL os).map cmdRow).Pairwise fun x y => ltR y x = false := by
  rw [List.pairwise_map]
  unfold cmdsL
  rw [List.pairwise_flatMap]
  refine ⟨fun k _ => ?_, kinds_rise.imp fun {a b} h x hx y hy => ?_⟩
  · rw [List.pairwise_map]
    refine (srt_pw os).imp fun {m n} h => ?_
    show ltR [k, n] [k, m] = false
    rw [ltR_cons, if_pos rfl, ltR_cons]
    by_cases e : n = m
    · rw [if_pos e]
      exact ltR_nil
    · rw [if_neg e]
      exact decide_eq_false (List.not_lt.mpr (leS_iff.mp h))
  · obtain ⟨m, _, rfl⟩ := List.mem_map.mp hx
    obtain ⟨n, _, rfl⟩ := List.mem_map.mp hy
    show ltR [b, n] [a, m] = false
    rw [ltR_cons, if_neg h.1.symm, ← ltCps_eq]
    exact h.2
theorem rows_unique {L M N : List (List Str)} (p : M.Perm L) (q : N.Perm L) (h1 : M.Pairwise fun x y => ltR y x = false) (h2 : N.Pairwise fun x y => ltR y x = false) : M = N :=
  List.Perm.eq_of_pairwise (le := fun x y => ltR y x = false) (fun a b _ _ ha hb => ltR_anti hb ha) h1 h2 (p.trans q.symm)
theorem rows_cmds {H : Hp} : ∀ {as : List Addr} {cs : List (Str × Str)}, Tups H as (cs.map cmdRow) → Cmds H as cs
  | [], [], _ => trivial
  | _ :: _, _ :: _, h => ⟨h.1, rows_cmds h.2⟩
/-- at p the script cs, a tuple that was made here -/
def ScrN (H : Hp) (p : Addr) (cs : List (Str × Str)) : Prop := ∃ as : List Addr, Tn H p (as.map V.ref) ∧ Cmds H as cs
theorem ScrN.same {H H' : Hp} {p : Addr} {cs : List (Str × Str)} (h : ScrN H p cs) (e : Same H H') : ScrN H' p cs := by
  obtain ⟨as, h1, h2⟩ := h
  exact ⟨as, h1.same e, h2.same e⟩
theorem ScrN.scr {K : PySem.W.Frag} {H : Hp} {p : Addr} {cs : List (Str × Str)} (h : ScrN H p cs) : Scr K H p cs := by
  obtain ⟨as, h1, h2⟩ := h
  exact ⟨as, h1.sq, h2⟩
theorem Cmds.take {H : Hp} : ∀ {as : List Addr} {cs : List (Str × Str)} (n : Nat), Cmds H as cs → Cmds H (as.take n) (cs.take n)
  | _, _, 0, _ => trivial
  | [], [], _ + 1, _ => trivial
  | _ :: _, _ :: _, n + 1, h => ⟨h.1, Cmds.take n h.2⟩
theorem Cmds.drop {H : Hp} : ∀ {as : List Addr} {cs : List (Str × Str)} (n : Nat), Cmds H as cs → Cmds H (as.drop n) (cs.drop n)
  | _, _, 0, h => h
  | [], [], _ + 1, _ => trivial
  | _ :: _, _ :: _, n + 1, h => Cmds.drop n h.2
def spScriptN (K : PySem.W.Frag) : Sp := fun vs H Q _ => ∃ (d o : Addr) (n : Nat) (ds : List Int) (os : List Str), vs = [.ref d, .ref o, .int (n : Int)] ∧ SqL K H d (ds.map V.int) ∧ SqT K H o (os.map V.str) ∧ 1 + 2 * n ≤ ds.length ∧ n ≤ 100 ∧ os ≠ [] ∧
  ∀ (cs : List (Str × Str)) p H', Same H H' → ScrN H' p cs → cs.length ≤ n → GoodCs os cs → Q (.ref p) H'
def spAllC : Sp := fun vs H Q _ => ∃ (o : Addr) (os : List Str), vs = [.ref o] ∧ Tn H o (os.map V.str) ∧ os.length ≤ 100 ∧
  ∀ (D : Addr) (as : List Addr) (H' : Hp), Same H H' → H D = none → H' D = some (.lst (as.map V.ref)) → Cmds H' as (allC os) → Q (.ref D) H'
def hidS (os : List Str) (cs : List (Str × Str)) (n : Nat) (ts : List Str) (c : Str × Str) : Bool := decide (runA (moved (runA os (cs.take n)) c) (cs.drop n) = ts)
def spHidden (K : PySem.W.Frag) : Sp := fun vs H Q _ => ∃ (o p r : Addr) (n : Nat) (os ts : List Str) (cs : List (Str × Str)), vs = [.ref o, .ref p, .int (n : Int), .ref r] ∧ Tn H o (os.map V.str) ∧ ScrN H p cs ∧ Tn H r (ts.map V.str) ∧ n ≤ cs.length ∧ os.length ≤ 10 ∧ 0 < os.length ∧ os.Nodup ∧ StrsOk os ∧ StrsOk ts ∧ cs.length ≤ 900 ∧ (∀ c, c ∈ cs → c.2 ∈ os) ∧
  ∀ (D : Addr) (as : List Addr) (H' : Hp), Same H H' → H D = none → H' D = some (.lst (as.map V.ref)) → Cmds H' as ((cmdsL os).filter (hidS os cs n ts)) → Q (.ref D) H'
theorem units65 {A : Around} {k : Nat} (hr : Room k A) : A.units + 65 < cLine := by
  have := hr.un
  omega
def insC (cs : List (Str × Str)) (n : Nat) (c : Str × Str) : List (Str × Str) := cs.take n ++ [c] ++ cs.drop n
theorem run_ins (os : List Str) (cs : List (Str × Str)) (n : Nat) (c : Str × Str) : runA os (insC cs n c) = runA (moved (runA os (cs.take n)) c) (cs.drop n) := by
  unfold runA insC
  rw [List.foldl_append, List.foldl_append]
  rfl
theorem hidS_ins (os : List Str) (cs : List (Str × Str)) (n : Nat) (ts : List Str) (c : Str × Str) : hidS os cs n ts c = decide (runA os (insC cs n c) = ts) := by
  rw [run_ins]
  rfl
theorem ins_in {os : List Str} {cs : List (Str × Str)} {n : Nat} {c : Str × Str} (h : ∀ d, d ∈ cs → d.2 ∈ os) (hc : c.2 ∈ os) : ∀ d, d ∈ insC cs n c → d.2 ∈ os := fun d hd => by
  unfold insC at hd
  rcases List.mem_append.mp hd with q | q
  · rcases List.mem_append.mp q with z | z
    · exact h d (List.mem_of_mem_take z)
    · have ez := List.mem_singleton.mp z
      rw [ez]
      exact hc
  · exact h d (List.mem_of_mem_drop q)
theorem mem_cmdsL {os : List Str} {c : Str × Str} (h1 : c.1 ∈ fourWords) (h2 : c.2 ∈ os) : c ∈ cmdsL os := by
  unfold cmdsL
  exact List.mem_flatMap.mpr ⟨c.1, kinds_perm.mem_iff.mpr h1, List.mem_map.mpr ⟨c.2, srt_mem.mpr h2, rfl⟩⟩
theorem any_rows {L : List (List Str)} {o : List Str} (h : o ∈ L) : (rowsD L).any (fun z => PyData.eqv z (trow o)) = true := by
  unfold rowsD
  rw [List.any_map, List.any_eq_true]
  exact ⟨o, h, by show PyData.eqv (trow o) (trow o) = true; rw [eqv_row]; exact decide_eq_true rfl⟩
theorem srt_one (x : Str) : srt [x] = [x] := List.perm_singleton.mp (srt_perm [x])
def oneA : List Str := ["a"]
def cmdsA : List (Str × Str) := [("back", "a"), ("down", "a"), ("front", "a"), ("up", "a")]
theorem cmds_oneA : (cmdsL oneA).filter (hidS oneA [] 0 oneA) = cmdsA := by
  have e : cmdsL oneA = cmdsA := by
    unfold cmdsL oneA
    rw [srt_one]
    rfl
  rw [List.filter_eq_self.mpr]
  · exact e
  · intro c hc
    have hm := cmdsL_mem hc
    exact decide_eq_true (List.perm_singleton.mp (moved_perm (o := oneA) hm.2))
theorem cmd_ok {os : List Str} {c : Str × Str} (h : StrsOk os) (h1 : c.1 ∈ fourWords) (h2 : c.2 ∈ os) : StrsOk (cmdRow c) := fun z hz => by
  simp only [cmdRow, List.mem_cons, List.not_mem_nil, or_false] at hz
  rcases hz with rfl | rfl
  · exact four_ok _ h1
  · exact h _ h2
theorem rows_ok {os : List Str} (h : StrsOk os) (p : (Str × Str) → Bool) : ∀ o, o ∈ ((cmdsL os).filter p).map cmdRow → StrsOk o := fun o ho => by
  obtain ⟨c, hc, rfl⟩ := List.mem_map.mp ho
  have hm := cmdsL_mem (List.mem_filter.mp hc).1
  exact cmd_ok h hm.1 hm.2
end LS
set_option maxHeartbeats 2100000
/-! scripts counted in dicts -/
namespace LS
open PySem L2 PySem.Spec PyProof.Rows
section
variable {prog : Program} {w : World} {A : Around} {s : Shared} {E : Value → Shared → Prop}
/-- a dict against an empty one -/
theorem pairs_none {nm : String} {a b : Addr} {oa ob : Obj} {es es' : Array DictEntry} {ep ep' : Nat} {Q : Bool → Shared → Prop} (ha : (a == sysModules) = false) (hb : (b == sysModules) = false) (hoa : s.heap.get? a = some oa) (hda : oa.data = .dict es ep) (hob : s.heap.get? b = some ob) (hdb : ob.data = .dict es' ep') (hz : es'.size = 0) (h : Q (decide (es.size = 0)) s) : wpAny (model prog w) A (Builtin.Dict.samePairs nm a b) Q E s := by
  unfold Builtin.Dict.samePairs Builtin.Dict.showsAll; rw [if_neg (show ¬ (a == sysModules) = true by rw [ha]; exact Bool.false_ne_true), if_neg (show ¬ (b == sysModules) = true by rw [hb]; exact Bool.false_ne_true)]
  refine wpAny_bind (wpAny_pure (wpAny_bind (wpAny_pure (wpAny_bind (wpAny_dictEntries hoa hda ?_)))))
  dsimp only
  refine wpAny_bind (wpAny_dictEntries hob hdb ?_); by_cases c : es.size = 0
  · rw [decide_eq_true c] at h
    rw [if_neg (by rw [c, hz]; simp)]
    refine wpAny_bind (wpAny_dictEpoch hoa hda ?_); refine wpAny_bind ?_
    rw [Std.Legacy.Range.forIn_eq_forIn_range']; simp only [Std.Legacy.Range.size, Nat.sub_zero, Nat.add_sub_cancel, Nat.div_one]
    rw [c]
    simp only [List.range'_zero, List.forIn_nil]; exact wpAny_pure (wpAny_pure h)
  · rw [decide_eq_false c] at h
    rw [if_pos (by rw [hz]; simpa using c)]; exact wpAny_bind (wpAny_rule (wpAny_pure h))
end
section
variable {X : Cx}
def rNeEmpty (P : Program) (w : World) : R2 := fun x y H Q => ∃ (a b : Addr) (es : List Ent), x = .ref a ∧ y = .ref b ∧ DicL P w H a es ∧ DicL P w H b [] ∧ Q (.bl (!decide (es = []))) H
theorem op_neEmpty (hu : X.A.units < cLine) : OpR X (compareOp .NotEq) (rNeEmpty X.prog X.w) := by
  intro pi s σ H x y v u Q I rx ry h
  obtain ⟨a, b, es, rfl, rfl, da, db, q⟩ := h
  cases rx
  cases ry
  obtain ⟨ha, za, xs, ra, dda⟩ := da.full I
  obtain ⟨hb, zb, ys, rb, ddb⟩ := db.full I
  have ta := dda.typeIs
  have tb := ddb.typeIs
  obtain ⟨oa, ea, epa, goa, _, hda, hea, _, _⟩ := dda
  obtain ⟨ob, eb, epb, gob, _, hdb, heb, _, _⟩ := ddb
  cases rb
  have sb : eb.size = 0 := size_of_entries heb
  have sa : ea.size = es.length := (size_of_entries hea).trans (Paired.length ra).symm
  refine wpAny_richCompare_same_room (op := .NotEq) ta tb PySem.F.slot_dict_ne (wpAny_call_entry PySem.F.slot_dict_ne ta PySem.F.entry_dict_ne ?_ (PySem.F.args_dict_ne_2 _ _)) hu
  show wpAny _ _ (Builtin.Dict.dictSlotArgs "__ne__" ⟨[.ref a, .ref b], []⟩ >>= _) _ _ s; refine wpAny_bind ?_; unfold Builtin.Dict.dictSlotArgs
  refine wpAny_bind (wpAny_notOrdered_dict ta ?_); show wpAny _ _ (pure (Value.ref a, Value.ref b)) _ _ s
  refine wpAny_pure (wpAny_bind (wpAny_isInstance (T := "dict") tb PySem.F.sub_dict_dict ?_))
  simp only [Bool.not_true, Bool.false_eq_true, if_false]; refine wpAny_bind (wpAny_pure (wpAny_bind (wpAny_pure (wpAny_bind (pairs_none ha hb goa hda gob hdb sb ?_)))))
  refine wpAny_pure ⟨_, rfl, (fun x => nomatch x), ?_⟩
  have e : decide (ea.size = 0) = decide (es = []) := by
    refine decide_eq_decide.mpr ?_
    rw [sa]
    exact List.length_eq_zero_iff
  rw [e]
  refine ⟨.bl (!decide (es = [])), H, I, ?_, q⟩
  by_cases c : es = [] <;> simp [c] <;> rfl
/-- d.get(k, x) -/
def tDGet2R (P : Program) (w : World) (td ty tx : TE) : TE := fun σ H Q => td σ H fun x H1 => ∃ (a : Addr) (es : List Ent), x = .ref a ∧ DicL P w H1 a es ∧ ty σ H1 fun y H2 => tx σ H2 fun z H3 => ∃ (b : Addr) (es : List Ent) (o : List Str), y = .ref b ∧ DicL P w H3 a es ∧ Tn H3 b (o.map V.str) ∧ Q ((valR es o).getD z) H3
theorem pe_dget2R {oe ee fe : Expr} {apos cpos : Pos} {td ty tx : TE} (hu : X.A.units + 1 < cLine) (ho : PE X oe td) (he : PE X ee ty) (hf : PE X fe tx) (m : M2 X oe "get" apos ee fe cpos) : PE X (.Call (.Attribute oe "get" apos) [ee, fe] [] cpos) (tDGet2R X.prog X.w td ty tx) := by
  refine ⟨fun pi s σ H Q I h => ?_⟩
  refine wpAny_Call_method m.base m.few m.line PySem.F.plainAttrs_dict PySem.F.slot_dict_get PySem.F.type_dict_get (thn (ho.run pi s σ H _ I h) fun u s1 ⟨x, H1, I1, rx, a, es, ex, d, q1⟩ => ?_)
  subst ex
  cases (show u = Value.ref a from rx); obtain ⟨_, _, xs, _, dd⟩ := d.full I1
  refine ⟨dd.typeIs, fun b q => ?_, ?_⟩
  · cases q
    obtain ⟨ob, _, _, h1, h2, _⟩ := dd; exact ⟨ob, h1, h2.2.1⟩
  rw [m.trees]
  refine Calls.callWith_builtin rfl (Calls.evalArgs_plain (Calls.spliced_cons (thn (he.run pi s1 σ H1 _ I1 q1) fun iv s2 ⟨y, H2, I2, ry, q2⟩ => Calls.spliced_cons (thn (hf.run pi s2 σ H2 _ I2 q2) fun fv s3 ⟨z, H3, I3, rz, b, es3, o, ey, d3, hb, q3⟩ => Calls.spliced_nil ?_))))
  subst ey
  cases (show iv = Value.ref b from ry)
  exact r_get2 hu I3 d3 hb rz fun w' s4 I4 rw' => ⟨_, H3, I4, rw', q3⟩
end
/-! ### the numbers -/
/-- how many commands lead from p to o -/
def mul (os p o : List Str) : Nat := (cmdsL os).countP fun c => decide (moved p c = o)
/-- how many scripts of k commands lead to o -/
def cnt (os : List Str) : Nat → List Str → Nat
  | 0, o => if o = os then 1 else 0
  | k + 1, o => ((ords os).map fun p => cnt os k p * mul os p o).sum
theorem lev_nd {ys : List Str} (hn : ys.Nodup) : ∀ k, (lev ys k).Nodup
  | 0 => by simp [lev]
  | k + 1 => by
    show ((lev ys k).flatMap (one1 ys)).Nodup
    unfold List.Nodup
    rw [List.pairwise_flatMap]
    refine ⟨fun o _ => ?_, (lev_nd hn k).imp fun {a b} hab x hx y hy e => ?_⟩
    · unfold one1
      rw [List.pairwise_map]
      exact (hn.filter _).imp fun {u v} huv e => huv (List.singleton_inj.mp (List.append_cancel_left e))
    · obtain ⟨u, _, _, rfl⟩ := mem_one.mp hx
      obtain ⟨v, _, _, rfl⟩ := mem_one.mp hy
      exact hab (List.append_inj_left' e rfl)
theorem ords_nd {xs : List Str} (hn : xs.Nodup) : (ords xs).Nodup := lev_nd (srt_nd.mpr hn) _
theorem sum_filter {α : Type} (f : α → Nat) (p : α → Bool) : ∀ l : List α, (∀ x, x ∈ l → p x = false → f x = 0) → (l.map f).sum = ((l.filter p).map f).sum
  | [], _ => rfl
  | x :: l, h => by
    have ih := sum_filter f p l fun y hy => h y (List.mem_cons_of_mem _ hy)
    rw [List.map_cons, List.sum_cons, List.filter_cons]
    cases q : p x with
    | true =>
      rw [if_pos rfl, List.map_cons, List.sum_cons, ih]
    | false =>
      rw [if_neg (by decide), h x List.mem_cons_self q, ih, Nat.zero_add]
theorem sum_sub {f : List Str → Nat} {L M : List (List Str)} (hl : L.Nodup) (hm : M.Nodup) (hs : ∀ x, x ∈ M → x ∈ L) (hz : ∀ x, x ∈ L → x ∉ M → f x = 0) : (L.map f).sum = (M.map f).sum := by
  rw [sum_filter f (fun x => decide (x ∈ M)) L fun x hx q => hz x hx (of_decide_eq_false q)]
  refine List.Perm.sum_nat (List.Perm.map f ?_)
  refine (List.perm_ext_iff_of_nodup (hl.filter _) hm).mpr fun x => ?_
  rw [List.mem_filter]
  constructor
  · intro h
    exact of_decide_eq_true h.2
  · intro h
    exact ⟨hs x h, decide_eq_true h⟩
theorem le_sum : ∀ {l : List Nat} {x : Nat}, x ∈ l → x ≤ l.sum
  | y :: l, x, h => by
    rw [List.sum_cons]; rcases List.mem_cons.mp h with z | z
    · omega
    · have := le_sum z
      omega
theorem sum_zero : ∀ {l : List Nat}, (∀ x, x ∈ l → x = 0) → l.sum = 0
  | [], _ => rfl
  | y :: l, h => by
    rw [List.sum_cons, h y List.mem_cons_self, sum_zero fun x hx => h x (List.mem_cons_of_mem _ hx)]
theorem mul_pos {os p : List Str} {c : Str × Str} (h1 : c.1 ∈ fourWords) (h2 : c.2 ∈ os) : 0 < mul os p (moved p c) := by
  unfold mul
  rw [List.countP_pos_iff]
  exact ⟨c, mem_cmdsL h1 h2, decide_eq_true rfl⟩
theorem cnt_pos {os : List Str} (hn : os.Nodup) : ∀ {k : Nat} {o : List Str}, Rch os k o ↔ 0 < cnt os k o
  | 0, o => by
    show _ ↔ 0 < (if o = os then 1 else 0)
    constructor
    · rintro ⟨cs, l, r, _⟩
      rw [List.eq_nil_of_length_eq_zero l] at r
      rw [if_pos (show o = os from r.symm)]
      decide
    · intro h
      by_cases e : o = os
      · rw [e]
        exact lv_zero.1
      · rw [if_neg e] at h
        exact absurd h (Nat.lt_irrefl _)
  | k + 1, o => by
    show _ ↔ 0 < ((ords os).map fun p => cnt os k p * mul os p o).sum
    constructor
    · rintro ⟨cs, l, r, g⟩
      have ne : cs ≠ [] := fun z => by
        rw [z] at l
        cases l
      have e : cs.dropLast ++ [cs.getLast ne] = cs := List.dropLast_concat_getLast ne
      have gl := g (cs.getLast ne) (List.getLast_mem ne)
      have hp : Rch os k (runA os cs.dropLast) := ⟨cs.dropLast, by rw [List.length_dropLast, l]; rfl, rfl, fun c hc => g c ((List.dropLast_sublist cs).subset hc)⟩
      have er : moved (runA os cs.dropLast) (cs.getLast ne) = o := by
        rw [← r]
        conv => rhs; rw [← e]
        unfold runA
        rw [List.foldl_append]
        rfl
      have h1 := (cnt_pos hn).mp hp
      have h2 := mul_pos (p := runA os cs.dropLast) gl.1 gl.2
      rw [er] at h2
      have h3 : (runA os cs.dropLast) ∈ ords os := (mem_ords hn).mpr hp.perm
      exact Nat.lt_of_lt_of_le (Nat.mul_pos h1 h2) (le_sum (List.mem_map.mpr ⟨_, h3, rfl⟩))
    · intro h
      obtain ⟨p, hp, hq⟩ : ∃ p, p ∈ ords os ∧ 0 < cnt os k p * mul os p o := by
        refine Classical.byContradiction fun z => ?_
        have : ((ords os).map fun p => cnt os k p * mul os p o).sum = 0 := by
          refine sum_zero fun x hx => ?_
          obtain ⟨p, hp, rfl⟩ := List.mem_map.mp hx
          exact Nat.eq_zero_of_not_pos fun q => z ⟨p, hp, q⟩
        omega
      have h1 : 0 < cnt os k p := Nat.pos_of_mul_pos_right hq
      have h2 : 0 < mul os p o := Nat.pos_of_mul_pos_left hq
      unfold mul at h2
      rw [List.countP_pos_iff] at h2
      obtain ⟨c, hc, e⟩ := h2
      have hm := cmdsL_mem hc
      rw [← of_decide_eq_true e]
      exact ((cnt_pos hn).mpr h1).next hm.1 hm.2
/-- the dict holds the numbers F, and none where F is 0 throughout -/
structure Rep (os : List Str) (es : List Ent) (F : List Str → Nat) : Prop where
  nd : (rowsE es).Nodup
  pm : ∀ e, e ∈ es → e.1.Perm os
  vl : ∀ e, e ∈ es → e.2.2 = .int (F e.1 : Nat)
  zr : ∀ o, o ∉ rowsE es → F o = 0
section
variable {os : List Str} {es : List Ent} {F G : List Str → Nat}
theorem Rep.get (h : Rep os es F) (o : List Str) : (valR es o).getD (.int 0) = .int (F o : Nat) := by
  cases q : valR es o with
  | none =>
    have : o ∉ rowsE es := fun z => by
      exact absurd (val_mem.mpr z) (by rw [q]; decide)
    rw [h.zr o this]
    rfl
  | some v =>
    obtain ⟨b, hb⟩ := val_some q
    have := h.vl _ hb
    exact this
theorem Rep.at (h : Rep os es F) {e : Ent} (he : e ∈ es) : valR es e.1 = some (.int (F e.1 : Nat)) := by
  rw [val_of_mem h.nd he, h.vl e he]
theorem rep_nil : Rep os [] fun _ => 0 := ⟨by simp, fun e h => (nomatch h), fun e h => (nomatch h), fun _ _ => rfl⟩
theorem Rep.congr (h : Rep os es F) (e : ∀ o, F o = G o) : Rep os es G := by
  have : F = G := funext e
  rw [← this]
  exact h
theorem Rep.put (h : Rep os es F) {r : List Str} (hr : r.Perm os) (b : Addr) (v : Nat) : Rep os (putR es r b (.int ((F r + v : Nat) : Int))) fun o => if o = r then F o + v else F o := by
  unfold putR
  by_cases q : (valR es r).isSome = true
  · rw [if_pos q]
    have er : rowsE (es.map fun e => if e.1 = r then (e.1, e.2.1, V.int ((F r + v : Nat) : Int)) else e) = rowsE es := by
      unfold rowsE
      rw [List.map_map]
      refine List.map_congr_left fun e _ => ?_
      show (if e.1 = r then (e.1, e.2.1, V.int ((F r + v : Nat) : Int)) else e).1 = e.1
      split <;> rfl
    refine ⟨by rw [er]; exact h.nd, fun e he => ?_, fun e he => ?_, fun o ho => ?_⟩
    · obtain ⟨x, hx, rfl⟩ := List.mem_map.mp he
      have := h.pm x hx
      split <;> exact this
    · obtain ⟨x, hx, rfl⟩ := List.mem_map.mp he
      by_cases c : x.1 = r
      · rw [if_pos c]
        show V.int ((F r + v : Nat) : Int) = .int ((if x.1 = r then F x.1 + v else F x.1 : Nat) : Int)
        rw [if_pos c, c]
      · rw [if_neg c]
        show x.2.2 = .int ((if x.1 = r then F x.1 + v else F x.1 : Nat) : Int)
        rw [if_neg c]
        exact h.vl x hx
    · rw [er] at ho
      have : o ≠ r := fun z => ho (z ▸ val_mem.mp q)
      show (if o = r then F o + v else F o) = 0
      rw [if_neg this]
      exact h.zr o ho
  · rw [if_neg q]
    have nin : r ∉ rowsE es := fun z => q (val_mem.mpr z)
    have er : rowsE (es ++ [(r, b, V.int ((F r + v : Nat) : Int))]) = rowsE es ++ [r] := by
      unfold rowsE
      rw [List.map_append]
      rfl
    refine ⟨?_, fun e he => ?_, fun e he => ?_, fun o ho => ?_⟩
    · rw [er]
      refine List.nodup_append.mpr ⟨h.nd, by simp, fun x hx y hy e => ?_⟩
      rw [List.mem_singleton.mp hy] at e
      exact nin (e ▸ hx)
    · rcases List.mem_append.mp he with z | z
      · exact h.pm e z
      · have ez := List.mem_singleton.mp z
        rw [ez]
        exact hr
    · rcases List.mem_append.mp he with z | z
      · have ne : e.1 ≠ r := fun c => nin (c ▸ List.mem_map.mpr ⟨e, z, rfl⟩)
        show e.2.2 = .int ((if e.1 = r then F e.1 + v else F e.1 : Nat) : Int)
        rw [if_neg ne]
        exact h.vl e z
      · have ez := List.mem_singleton.mp z
        rw [ez]
        show V.int ((F r + v : Nat) : Int) = .int ((if r = r then F r + v else F r : Nat) : Int)
        rw [if_pos rfl]
    · rw [er, List.mem_append, List.mem_singleton] at ho
      show (if o = r then F o + v else F o) = 0
      rw [if_neg fun z => ho (.inr z)]
      exact h.zr o fun z => ho (.inl z)
theorem Rep.few (h : Rep os es F) (hn : os.Nodup) (h6 : os.length ≤ 6) : es.length < sizeLine := by
  have := rows_few hn h.nd (fun o ho => by
    obtain ⟨e, he, rfl⟩ := List.mem_map.mp ho
    exact h.pm e he) h6
  rw [List.length_map] at this
  exact this
end
section
variable {os : List Str} {es : List Ent}
theorem allC_count {p : List Str} (hp : p.Perm os) (q : (Str × Str) → Bool) : (allC p).countP q = (cmdsL os).countP q := by
  have e : cmdsL p = cmdsL os := by
    unfold cmdsL
    rw [srt_congr hp]
  rw [← e]
  exact ((cmds_perm p).countP_eq q).symm
theorem allC_mem {p : List Str} {c : Str × Str} (h : c ∈ allC p) : c.1 ∈ fourWords ∧ c.2 ∈ p := cmdsL_mem ((cmds_perm p).mem_iff.mpr h)
theorem cnt_next (hn : os.Nodup) {k : Nat} (h : Rep os es (cnt os k)) (o : List Str) : cnt os (k + 1) o = (es.map fun e => cnt os k e.1 * mul os e.1 o).sum := by
  have e : (es.map fun e => cnt os k e.1 * mul os e.1 o) = (rowsE es).map fun p => cnt os k p * mul os p o := by
    unfold rowsE
    rw [List.map_map]
    rfl
  rw [e]
  refine sum_sub (ords_nd hn) h.nd (fun x hx => ?_) fun x _ hx => ?_
  · obtain ⟨y, hy, rfl⟩ := List.mem_map.mp hx
    exact (mem_ords hn).mpr (h.pm y hy)
  · rw [h.zr x hx, Nat.zero_mul]
theorem rep_zero (b : Addr) : Rep os [(os, b, .int 1)] (cnt os 0) := by
  refine ⟨by simp, fun e he => ?_, fun e he => ?_, fun o ho => ?_⟩
  · have ez := List.mem_singleton.mp he
    rw [ez]
  · have ez := List.mem_singleton.mp he
    rw [ez]
    show V.int 1 = .int ((if os = os then 1 else 0 : Nat) : Int)
    rw [if_pos rfl]
    rfl
  · show (if o = os then 1 else 0) = 0
    rw [if_neg fun z => ho (by simp [z])]
/-- what a walk over the entries and their commands has added up -/
def psum (os : List Str) (G : List Str → Nat) (es : List Ent) (i : Nat) (cs : List (Str × Str)) (p o : List Str) : Nat := ((es.take i).map fun e => G e.1 * mul os e.1 o).sum + G p * cs.countP fun c => decide (moved p c = o)
theorem psum_step {G : List Str → Nat} {i : Nat} {cs : List (Str × Str)} {p : List Str} {c : Str × Str} (o : List Str) : (if o = moved p c then psum os G es i cs p o + G p else psum os G es i cs p o) = psum os G es i (cs ++ [c]) p o := by
  unfold psum
  rw [List.countP_append, List.countP_cons, List.countP_nil, Nat.zero_add, Nat.mul_add]
  by_cases e : o = moved p c
  · rw [if_pos e, if_pos (decide_eq_true e.symm)]
    omega
  · rw [if_neg e, if_neg (by simpa using fun z => e z.symm)]
    omega
theorem psum_next {G : List Str → Nat} {i : Nat} {e : Ent} (h : es[i]? = some e) (cs : List (Str × Str)) (q : List Str) (o : List Str) (hc : cs.countP (fun c => decide (moved e.1 c = o)) = mul os e.1 o) : psum os G es i cs e.1 o = psum os G es (i + 1) [] q o := by
  unfold psum
  rw [List.take_add_one, h, List.map_append, List.sum_append, hc]
  simp
end
theorem tups_rep {P : Program} {w : World} {H : Hp} {a : Addr} {es : List Ent} (d : Dic P w H a es) {e : Ent} (he : e ∈ es) : Tn H e.2.1 (e.1.map V.str) := d.2 e he
def spFollow (P : Program) (w : World) : Sp := fun vs H Q _ => ∃ (a : Addr) (os : List Str) (es : List Ent) (k : Nat), vs = [.ref a] ∧ Dic P w H a es ∧ Rep os es (cnt os k) ∧ os.Nodup ∧ os.length ≤ 6 ∧
  ∀ (D : Addr) (fs : List Ent) (H' : Hp), Same H H' → H D = none → Dic P w H' D fs → Rep os fs (cnt os (k + 1)) → Q (.ref D) H'
def spPlans (T : List (Addr × Str)) : Sp := fun vs H Q _ => ∃ (o t : Addr) (os ts : List Str), vs = [.ref o, .ref t] ∧ Tn H o (os.map V.str) ∧ Tn H t (ts.map V.str) ∧ ts.Perm os ∧ os.Nodup ∧ 0 < os.length ∧ os.length ≤ 6 ∧ LamX.Tabs T H ∧
  ∀ (d : Nat) (H' : Hp), LamX.ExtN H H' → LamX.Tabs T H' → IsDist os ts d → Q (.int (cnt os d ts : Nat)) H'
/-- all but the locked dict at a -/
def But (a : Addr) (H H' : Hp) : Prop := ∀ b u, b ≠ a → H b = some u → H' b = some u
theorem But.same {a : Addr} {H H1 H2 : Hp} (h : But a H H1) (s : Same H1 H2) : But a H H2 := fun b u n e => s _ _ (h b u n e)
theorem But.tn {a : Addr} {H H1 : Hp} (h : But a H H1) {x : HO} (ha : H a = some x) (hx : ∀ ob u, x ≠ .frz ob u) {t : Addr} {xs : List V} (g : Tn H t xs) : Tn H1 t xs := tn_keepX ha hx h g
theorem tn_unlock {H : Hp} {a t : Addr} {od : Obj} {x u : HO} {xs : List V} (l : H a = some (.frz od x)) (hx : ∀ ys, x ≠ .tup ys) (g : Tn H t xs) : Tn (upd H a u) t xs := by
  obtain ⟨ob, e1, e2⟩ := g
  refine ⟨ob, ?_, e2⟩
  rw [upd_ne]
  · exact e1
  · intro z
    rw [z, l] at e1
    have q := Option.some.inj e1
    injection q with q1 q2
    exact hx _ q2
theorem dicO_nt {P : Program} {w : World} {a : Addr} {es : List Ent} : ∀ ys, DicO P w a es ≠ .tup ys := fun ys z => by cases z
/-! ### the law's own counting -/
open Classical in
noncomputable def gLv (os : List Str) (c : Nat) (o : List Str) : Nat := if Lv os c o then cnt os c o else 0
theorem gLv_yes {os o : List Str} {c : Nat} (h : Lv os c o) : gLv os c o = cnt os c o := by
  unfold gLv
  rw [if_pos h]
theorem gLv_no {os o : List Str} {c : Nat} (h : ¬ Lv os c o) : gLv os c o = 0 := by
  unfold gLv
  rw [if_neg h]
structure Fnd (H : Hp) (os : List Str) (c : Nat) (es : List Ent) : Prop where
  nd : (rowsE es).Nodup
  vl : ∀ e, e ∈ es → ∃ (k : Nat) (p : Addr), k ≤ c ∧ e.2.2 = .ref p ∧ Tn H p [.int (k : Nat), .int (cnt os k e.1 : Nat)] ∧ Lv os k e.1
  old : ∀ k o, k ≤ c → Lv os k o → o ∈ rowsE es
structure Wys (os : List Str) (c : Nat) (ws : List Ent) : Prop where
  rep : Rep os ws (gLv os c)
  rows : ∀ o, o ∈ rowsE ws ↔ Lv os c o
open Classical in
/-- the longer ones so far -/
noncomputable def fq (os : List Str) (c : Nat) (ws : List Ent) (i : Nat) (cs : List (Str × Str)) (p o : List Str) : Nat := if Lv os (c + 1) o then psum os (gLv os c) ws i cs p o else 0
section
variable {os : List Str} {c : Nat} {H : Hp} {es ws fs : List Ent}
theorem Fnd.heap {H' : Hp} (h : Fnd H os c es) (k : ∀ p xs, Tn H p xs → Tn H' p xs) : Fnd H' os c es :=
  ⟨h.nd, fun e he => by
    obtain ⟨j, p, h1, h2, h3, h4⟩ := h.vl e he
    exact ⟨j, p, h1, h2, k _ _ h3, h4⟩, h.old⟩
theorem Fnd.out (h : Fnd H os c es) {p : List Str} {cm : Str × Str} (hp : Lv os c p) (h1 : cm.1 ∈ fourWords) (h2 : cm.2 ∈ os) : (valR es (moved p cm)).isSome = false ↔ Lv os (c + 1) (moved p cm) := by
  constructor
  · intro hno
    have nin : moved p cm ∉ rowsE es := fun z => by
      rw [val_mem.mpr z] at hno
      cases hno
    obtain ⟨j, hj, hl⟩ := (hp.1.next h1 h2).least
    rcases Nat.lt_or_ge j (c + 1) with q | q
    · exact absurd (h.old j _ (by omega) hl) nin
    · have : j = c + 1 := by omega
      rw [← this]
      exact hl
  · intro hl
    cases q : (valR es (moved p cm)).isSome with
    | false => rfl
    | true =>
      obtain ⟨e, he, ee⟩ := List.mem_map.mp (val_mem.mp q)
      obtain ⟨k, _, hk, _, _, hlk⟩ := h.vl e he
      have ee' : e.1 = moved p cm := ee
      rw [ee'] at hlk
      have := hlk.uniq hl
      omega
theorem fq_yes {i : Nat} {cs : List (Str × Str)} {p : List Str} {cm : Str × Str} (hl : Lv os (c + 1) (moved p cm)) (o : List Str) : (if o = moved p cm then fq os c ws i cs p o + gLv os c p else fq os c ws i cs p o) = fq os c ws i (cs ++ [cm]) p o := by
  unfold fq
  by_cases q : Lv os (c + 1) o
  · rw [if_pos q, if_pos q]
    exact psum_step o
  · rw [if_neg q, if_neg q]
    by_cases e : o = moved p cm
    · exact absurd (e ▸ hl) q
    · rw [if_neg e]
theorem fq_no {i : Nat} {cs : List (Str × Str)} {p : List Str} {cm : Str × Str} (hl : ¬ Lv os (c + 1) (moved p cm)) (o : List Str) : fq os c ws i cs p o = fq os c ws i (cs ++ [cm]) p o := by
  unfold fq
  by_cases q : Lv os (c + 1) o
  · have ne : ¬ o = moved p cm := fun e => hl (by rw [← e]; exact q)
    rw [if_pos q, if_pos q, ← psum_step, if_neg ne]
  · rw [if_neg q, if_neg q]
theorem fq_end (hn : os.Nodup) (h : Wys os c ws) (o : List Str) : fq os c ws ws.length [] os o = gLv os (c + 1) o := by
  unfold fq
  by_cases q : Lv os (c + 1) o
  · rw [if_pos q, gLv_yes q]
    unfold psum
    rw [List.take_of_length_le (Nat.le_refl _), List.countP_nil, Nat.mul_zero, Nat.add_zero]
    show _ = ((ords os).map fun p => cnt os c p * mul os p o).sum
    have e : (ws.map fun e => gLv os c e.1 * mul os e.1 o) = (rowsE ws).map fun p => cnt os c p * mul os p o := by
      unfold rowsE
      rw [List.map_map]
      refine List.map_congr_left fun e he => ?_
      rw [gLv_yes ((h.rows e.1).mp (List.mem_map.mpr ⟨e, he, rfl⟩))]
      rfl
    rw [e]
    refine (sum_sub (ords_nd hn) h.rep.nd (fun x hx => (mem_ords hn).mpr ((h.rows x).mp hx).perm) fun x _ hx => ?_).symm
    rcases Nat.eq_zero_or_pos (cnt os c x) with z | z
    · rw [z, Nat.zero_mul]
    · rcases Nat.eq_zero_or_pos (mul os x o) with y | y
      · rw [y, Nat.mul_zero]
      · exfalso
        obtain ⟨j, hj, hl⟩ := ((cnt_pos hn).mpr z).least
        have jc : j ≠ c := fun e => hx ((h.rows x).mpr (e ▸ hl))
        unfold mul at y
        obtain ⟨cm, hcm, e⟩ := List.countP_pos_iff.mp y
        have hm := cmdsL_mem hcm
        have := hl.1.next hm.1 hm.2
        rw [of_decide_eq_true e] at this
        exact q.2 (j + 1) (by omega) this
  · rw [if_neg q, gLv_no q]
theorem wys_next (hn : os.Nodup) (h : Wys os c ws) (r : Rep os fs (fq os c ws ws.length [] os)) (hl : ∀ o, o ∈ rowsE fs → Lv os (c + 1) o) : Wys os (c + 1) fs := by
  have r' := r.congr (fq_end hn h)
  refine ⟨r', fun o => ⟨hl o, fun q => Classical.byContradiction fun z => ?_⟩⟩
  have h0 := r'.zr o z
  rw [gLv_yes q] at h0
  have := (cnt_pos hn).mp q.1
  omega
theorem wys_zero (b : Addr) : Wys os 0 [(os, b, .int 1)] := by
  refine ⟨(rep_zero b).congr fun o => ?_, fun o => ?_⟩
  · by_cases q : Lv os 0 o
    · rw [gLv_yes q]
    · rw [gLv_no q]
      show (if o = os then 1 else 0) = 0
      have ne : ¬ o = os := fun z => q (by rw [z]; exact lv_zero)
      rw [if_neg ne]
  · show o ∈ [os] ↔ _
    rw [List.mem_singleton]
    exact ⟨fun z => by rw [z]; exact lv_zero, lv_zero_eq⟩
theorem fnd_zero {b p : Addr} (hp : Tn H p [.int 0, .int 1]) : Fnd H os 0 [(os, b, .ref p)] := by
  refine ⟨by simp, fun e he => ?_, fun k o hk hl => ?_⟩
  · have ez := List.mem_singleton.mp he
    rw [ez]
    refine ⟨0, p, Nat.le_refl _, rfl, ?_, lv_zero⟩
    show Tn H p [.int ((0 : Nat) : Int), .int ((if os = os then 1 else 0 : Nat) : Int)]
    rw [if_pos rfl]
    exact hp
  · have : k = 0 := by omega
    subst this
    rw [lv_zero_eq hl]
    simp
/-- the longer ones are put in -/
structure Mid (H : Hp) (os : List Str) (c : Nat) (es fs : List Ent) (i : Nat) : Prop where
  nd : (rowsE es).Nodup
  vl : ∀ e, e ∈ es → ∃ (k : Nat) (p : Addr), k ≤ c + 1 ∧ e.2.2 = .ref p ∧ Tn H p [.int (k : Nat), .int (cnt os k e.1 : Nat)] ∧ Lv os k e.1
  old : ∀ k o, k ≤ c → Lv os k o → o ∈ rowsE es
  put : ∀ o, o ∈ rowsE (fs.take i) → o ∈ rowsE es
  only : ∀ o, o ∈ rowsE es → Lv os (c + 1) o → o ∈ rowsE (fs.take i)
theorem Mid.heap {H' : Hp} {i : Nat} (h : Mid H os c es fs i) (k : ∀ p xs, Tn H p xs → Tn H' p xs) : Mid H' os c es fs i :=
  ⟨h.nd, fun e he => by
    obtain ⟨j, p, h1, h2, h3, h4⟩ := h.vl e he
    exact ⟨j, p, h1, h2, k _ _ h3, h4⟩, h.old, h.put, h.only⟩
theorem Fnd.mid (h : Fnd H os c es) : Mid H os c es fs 0 := by
  refine ⟨h.nd, fun e he => ?_, h.old, fun o ho => by simp at ho, fun o ho hl => ?_⟩
  · obtain ⟨k, p, h1, h2⟩ := h.vl e he
    exact ⟨k, p, by omega, h2⟩
  · obtain ⟨e, he, ee⟩ := List.mem_map.mp ho
    obtain ⟨k, _, hk, _, _, hlk⟩ := h.vl e he
    have ee' : e.1 = o := ee
    rw [ee'] at hlk
    have := hlk.uniq hl
    omega
theorem Mid.fresh {i : Nat} {e : Ent} (h : Mid H os c es fs i) (hf : (rowsE fs).Nodup) (hi : fs[i]? = some e) (hl : Lv os (c + 1) e.1) : (valR es e.1).isSome = false := by
  cases q : (valR es e.1).isSome with
  | false => rfl
  | true =>
    have h1 := h.only _ (val_mem.mp q) hl
    unfold rowsE at h1 hf
    rw [List.map_take] at h1
    have hil := (List.getElem?_eq_some_iff.mp hi).1
    obtain ⟨j, hj, ej⟩ := List.mem_take_iff_getElem.mp h1
    have hjl : j < (fs.map (·.1)).length := by omega
    have e2 : (fs.map (·.1))[i]? = some e.1 := by
      rw [List.getElem?_map, hi]
      rfl
    have e1 : (fs.map (·.1))[j]? = some e.1 := by
      rw [List.getElem?_eq_getElem hjl, ej]
    have := (List.getElem?_inj hjl hf).mp (e1.trans e2.symm)
    omega
theorem Mid.step {i : Nat} {e : Ent} {p b : Addr} (h : Mid H os c es fs i) (hf : (rowsE fs).Nodup) (hi : fs[i]? = some e) (hl : Lv os (c + 1) e.1) (hp : Tn H p [.int ((c + 1 : Nat) : Int), .int (cnt os (c + 1) e.1 : Nat)]) : Mid H os c (es ++ [(e.1, b, .ref p)]) fs (i + 1) := by
  have nin : e.1 ∉ rowsE es := fun z => by
    have := h.fresh hf hi hl
    rw [val_mem.mpr z] at this
    cases this
  have er : rowsE (es ++ [(e.1, b, V.ref p)]) = rowsE es ++ [e.1] := by
    unfold rowsE
    rw [List.map_append]
    rfl
  have et : rowsE (fs.take (i + 1)) = rowsE (fs.take i) ++ [e.1] := by
    unfold rowsE
    rw [List.take_add_one, hi, List.map_append]
    rfl
  refine ⟨?_, fun x hx => ?_, fun k o hk ho => ?_, fun o ho => ?_, fun o ho hlo => ?_⟩
  · rw [er]
    refine List.nodup_append.mpr ⟨h.nd, by simp, fun x hx y hy z => ?_⟩
    rw [List.mem_singleton.mp hy] at z
    exact nin (z ▸ hx)
  · rcases List.mem_append.mp hx with z | z
    · exact h.vl x z
    · have ez := List.mem_singleton.mp z
      rw [ez]
      exact ⟨c + 1, p, Nat.le_refl _, rfl, hp, hl⟩
  · rw [er]
    exact List.mem_append_left _ (h.old k o hk ho)
  · rw [et] at ho
    rw [er]
    rcases List.mem_append.mp ho with z | z
    · exact List.mem_append_left _ (h.put o z)
    · exact List.mem_append_right _ z
  · rw [er] at ho
    rw [et]
    rcases List.mem_append.mp ho with z | z
    · exact List.mem_append_left _ (h.only o z hlo)
    · exact List.mem_append_right _ z
theorem Mid.done (h : Mid H os c es fs fs.length) (hw : ∀ o, Lv os (c + 1) o → o ∈ rowsE fs) : Fnd H os (c + 1) es := by
  refine ⟨h.nd, h.vl, fun k o hk ho => ?_⟩
  rcases Nat.lt_or_ge k (c + 1) with q | q
  · exact h.old k o (by omega) ho
  · have : k = c + 1 := by omega
    subst this
    refine h.put o ?_
    rw [List.take_of_length_le (Nat.le_refl _)]
    exact hw o ho
end
def spCounts (P : Program) (w : World) : Sp := fun vs H Q _ => ∃ (o : Addr) (os : List Str), vs = [.ref o] ∧ Tn H o (os.map V.str) ∧ os.Nodup ∧ 0 < os.length ∧ os.length ≤ 6 ∧
  ∀ (D : Addr) (es : List Ent) (H' : Hp) (c : Nat), Same H H' → H D = none → Dic P w H' D es → Fnd H' os c es → Q (.ref D) H'
theorem dic_keepN {P : Program} {w : World} {H H' : Hp} {D L : Addr} {x : HO} {es : List Ent} (hL : H L = some x) (hx : ∀ ob u, x ≠ .frz ob u) (ne : D ≠ L) (k : ∀ b y, b ≠ L → H b = some y → H' b = some y) (d : Dic P w H D es) : Dic P w H' D es :=
  ⟨k _ _ ne d.1, fun e he => tn_keepX hL hx k (d.2 e he)⟩
end LS
set_option maxHeartbeats 2100000
/-! one command: which targets, by how many commands -/
namespace LS
open PySem L2 PySem.Spec PyProof.Rows
section
variable {os : List Str}
theorem cnt_one (hn : os.Nodup) (o : List Str) : cnt os 1 o = mul os os o := by
  rw [cnt_next hn (rep_zero (os := os) 0) o]
  show cnt os 0 os * mul os os o + 0 = _
  show (if os = os then 1 else 0) * mul os os o + 0 = _
  rw [if_pos rfl]
  omega
theorem cnt_dist0 (hn : os.Nodup) (h0 : 0 < os.length) {d : Nat} (hd : IsDist os os d) : cnt os d os = 1 := by
  have e : d = 0 := (lv_dist hn h0 (.refl _) hd).uniq lv_zero
  rw [e]
  show (if os = os then 1 else 0) = 1
  rw [if_pos rfl]
theorem cnt_dist1 (hn : os.Nodup) (h0 : 0 < os.length) {o : List Str} {d : Nat} (hp : o.Perm os) (hne : o ≠ os) (hm : 0 < mul os os o) (hd : IsDist os o d) : cnt os d o = mul os os o := by
  have r1 : Rch os 1 o := (cnt_pos hn).mpr (by rw [cnt_one hn]; exact hm)
  have l1 : Lv os 1 o := ⟨r1, fun j hj hr => by
    have : j = 0 := by omega
    subst this
    obtain ⟨cs, l, r, _⟩ := hr
    rw [List.eq_nil_of_length_eq_zero l] at r
    exact hne r.symm⟩
  have e : d = 1 := (lv_dist hn h0 hp hd).uniq l1
  rw [e]
  exact cnt_one hn o
end
theorem map_inj_on {f : Str → Str} {o : List Str} (hf : Inj f o) : ∀ {a b : List Str}, (∀ x, x ∈ a → x ∈ o) → (∀ x, x ∈ b → x ∈ o) → a.map f = b.map f → a = b
  | [], [], _, _, _ => rfl
  | [], _ :: _, _, _, e => by simp at e
  | _ :: _, [], _, _, e => by simp at e
  | x :: a, y :: b, ha, hb, e => by
    rw [List.map_cons, List.map_cons] at e; injection e with e1 e2
    rw [hf x y (ha x List.mem_cons_self) (hb y List.mem_cons_self) e1, map_inj_on hf (fun z hz => ha z (List.mem_cons_of_mem _ hz)) (fun z hz => hb z (List.mem_cons_of_mem _ hz)) e2]
theorem mul_map {g : Str → Str} {o t : List Str} (hg : Inj g o) (ht : ∀ x, x ∈ t → x ∈ o) : mul (o.map g) (o.map g) (t.map g) = (allC o).countP fun c => decide (moved o c = t) := by
  unfold mul
  rw [← allC_count (.refl _)]
  have e : allC (o.map g) = (allC o).map fun c => (c.1, g c.2) := by
    unfold allC
    rw [List.map_flatMap]
    congr 1
    funext k
    rw [List.map_map, List.map_map]; rfl
  rw [e, List.countP_map]
  refine List.countP_congr fun c hc => ?_
  have hm := allC_mem hc
  show decide (moved (o.map g) (c.1, g c.2) = t.map g) = true ↔ decide (moved o c = t) = true
  rw [decide_eq_true_iff, decide_eq_true_iff, moved_map hg hm.2]
  constructor
  · exact map_inj_on hg (fun x hx => (moved_perm hm.2).mem_iff.mp hx) ht
  · intro z
    rw [z]
def sixC : List Str := ["a", "b", "c", "d", "e", "f"]
def sixR : List Str := ["b", "c", "d", "e", "f", "a"]
def sixS : List Str := ["b", "a", "c", "d", "e", "f"]
theorem six_ex {os : List Str} (hl : os.length = 6) (hn : os.Nodup) : ∃ g : Str → Str, Inj g sixC ∧ sixC.map g = os ∧ sixR.map g = os.drop 1 ++ os.take 1 ∧ sixS.map g = [os[1]'(by omega), os[0]'(by omega)] ++ os.drop 2 := by
  match os, hl with
  | [x0, x1, x2, x3, x4, x5], _ =>
    have ix : idx sixC "a" = 0 ∧ idx sixC "b" = 1 ∧ idx sixC "c" = 2 ∧ idx sixC "d" = 3 ∧ idx sixC "e" = 4 ∧ idx sixC "f" = 5 := by decide +kernel
    obtain ⟨i0, i1, i2, i3, i4, i5⟩ := ix
    have v : (fun l => ([x0, x1, x2, x3, x4, x5] : List Str).getD (idx sixC l) Str.empty) "a" = x0 ∧ (fun l => ([x0, x1, x2, x3, x4, x5] : List Str).getD (idx sixC l) Str.empty) "b" = x1 ∧ (fun l => ([x0, x1, x2, x3, x4, x5] : List Str).getD (idx sixC l) Str.empty) "c" = x2 ∧ (fun l => ([x0, x1, x2, x3, x4, x5] : List Str).getD (idx sixC l) Str.empty) "d" = x3 ∧ (fun l => ([x0, x1, x2, x3, x4, x5] : List Str).getD (idx sixC l) Str.empty) "e" = x4 ∧ (fun l => ([x0, x1, x2, x3, x4, x5] : List Str).getD (idx sixC l) Str.empty) "f" = x5 := by
      dsimp only
      rw [i0, i1, i2, i3, i4, i5]
      exact ⟨rfl, rfl, rfl, rfl, rfl, rfl⟩
    generalize (fun l => ([x0, x1, x2, x3, x4, x5] : List Str).getD (idx sixC l) Str.empty) = g at v
    obtain ⟨v0, v1, v2, v3, v4, v5⟩ := v
    have em : sixC.map g = [x0, x1, x2, x3, x4, x5] := by
      show [g "a", g "b", g "c", g "d", g "e", g "f"] = _
      rw [v0, v1, v2, v3, v4, v5]
    refine ⟨g, fun x y hx hy e => ?_, em, ?_, ?_⟩
    · rw [← em] at hn
      obtain ⟨i, hi, rfl⟩ := List.mem_iff_getElem.mp hx
      obtain ⟨j, hj, rfl⟩ := List.mem_iff_getElem.mp hy
      have h1 : (sixC.map g)[i]? = some (g sixC[i]) := by rw [List.getElem?_map, List.getElem?_eq_getElem hi]; rfl
      have h2 : (sixC.map g)[j]? = some (g sixC[j]) := by rw [List.getElem?_map, List.getElem?_eq_getElem hj]; rfl
      rw [e] at h1
      have := (List.getElem?_inj (by rw [List.length_map]; exact hi) hn).mp (h1.trans h2.symm)
      subst this
      rfl
    · show [g "b", g "c", g "d", g "e", g "f", g "a"] = _
      rw [v0, v1, v2, v3, v4, v5]
      rfl
    · show [g "b", g "a", g "c", g "d", g "e", g "f"] = _
      rw [v0, v1, v2, v3, v4, v5]
      rfl
theorem six_rot {os : List Str} (hl : os.length = 6) (hn : os.Nodup) : mul os os (os.drop 1 ++ os.take 1) = 1 ∧ os.drop 1 ++ os.take 1 ≠ os := by
  obtain ⟨g, hg, e1, e2, _⟩ := six_ex hl hn
  have sub : ∀ x, x ∈ sixR → x ∈ sixC := by decide +kernel
  have c : ((allC sixC).countP fun c => decide (moved sixC c = sixR)) = 1 := by decide +kernel
  rw [← e2]
  refine ⟨?_, fun z => ?_⟩
  · have := mul_map hg sub
    rw [e1, c] at this
    exact this
  · rw [← e1] at z
    have := map_inj_on hg sub (fun x hx => hx) z
    exact absurd this (by decide +kernel)
theorem six_swap {os : List Str} (hl : os.length = 6) (hn : os.Nodup) : mul os os ([os[1]'(by omega), os[0]'(by omega)] ++ os.drop 2) = 3 ∧ [os[1]'(by omega), os[0]'(by omega)] ++ os.drop 2 ≠ os := by
  obtain ⟨g, hg, e1, _, e3⟩ := six_ex hl hn
  have sub : ∀ x, x ∈ sixS → x ∈ sixC := by decide +kernel
  have c : ((allC sixC).countP fun c => decide (moved sixC c = sixS)) = 3 := by decide +kernel
  rw [← e3]
  refine ⟨?_, fun z => ?_⟩
  · have := mul_map hg sub
    rw [e1, c] at this
    exact this
  · rw [← e1] at z
    have := map_inj_on hg sub (fun x hx => hx) z
    exact absurd this (by decide +kernel)
theorem swap_perm {os : List Str} (hl : 2 ≤ os.length) : ([os[1]'(by omega), os[0]'(by omega)] ++ os.drop 2).Perm os := by
  match os, hl with
  | x :: y :: r, _ => exact List.Perm.swap _ _ _
def rowAB : List Str := ["a", "b"]
def rowBA : List Str := ["b", "a"]
theorem cnt_ab {d : Nat} (hd : IsDist rowAB rowBA d) : cnt rowAB d rowBA = 4 := by
  have m : mul rowAB rowAB rowBA = 4 := by
    unfold mul
    rw [← allC_count (.refl _)]
    decide +kernel
  rw [cnt_dist1 (by decide +kernel) (by decide) (by decide +kernel) (by decide +kernel) (by rw [m]; decide) hd, m]
end LS
set_option maxHeartbeats 1500000
/-! dict comprehensions whose keys are tuples of texts; list of such a dict -/
namespace LS
open PySem L2 PySem.Spec PyProof.Rows
section
variable {X : Cx} {A : Around} {E : Value → Shared → Prop} {pi : List (Addr × Obj)} {σ : L2.St} {H : Hp} {s : Shared} {a b : Addr} {es : List Ent} {o : List Str}
theorem r_dset {Q : Unit → Shared → Prop} {v : V} {u : Value} (hu : A.units < cLine) (I : Inv X pi σ H s) (d : Dic X.prog X.w H a es) (hb : Tn H b (o.map V.str)) (hl : es.length < sizeLine) (rv : RelV v u) (h : ∀ s', Inv X pi σ (upd H a (DicO X.prog X.w a (putR es o b v))) s' → Q () s') : wpAny (model X.prog X.w) A (dictSet a (.ref b) u) Q E s := by
  obtain ⟨hs, z, xs, rel, dd⟩ := d.rd.full I
  refine wpAny_dictSet_heap (hsz := by rw [← Paired.length rel]; exact z) hu (key_tn I hb) dd fun h' dd' sb => h _ ?_
  obtain ⟨q, ar, ep, hq, h2, h3, h4, _, h5⟩ := dd'
  exact d_write I (by rw [d.1]; exact True.intro) sb ⟨q, hq⟩ (dic_ok ⟨hs, by have := putR_len es o b v; omega, _, q, ar, ep, rel.put o rv, hq, h2, h3, h4, h5⟩)
end
/-- the turns -/
def DcT (P : Program) (w : World) (J : It) (g : TG) (tk tv : TE) (D : Addr) (σ : L2.St) (Q : VK) (W : Nat → Nat → Hp → Prop) (vs : List Nat) : Prop := ∀ i m H, W i m H →
  (J.stop i H ∧ Q (.ref D) H) ∨ (J.go i H ∧ ∃ N : Hp → Prop, (∀ H', N H' → ∃ m', m' < m ∧ W (i + 1) m' H') ∧ ∀ x H', J.yld i H x H' → g x (wipe σ vs) H' fun σ2 H3 => wipe σ2 vs = wipe σ vs ∧
    tk σ2 H3 fun y H4 => tv σ2 H4 fun z H5 => ∃ (b : Addr) (es : List Ent) (o : List Str), y = .ref b ∧ Dic P w H5 D es ∧ Tn H5 b (o.map V.str) ∧ es.length < sizeLine ∧ N (upd H5 D (DicO P w D (putR es o b z))))
section
variable {X : Cx}
/-- {k: v for tg in iter}: at each turn the key is a tuple of texts -/
def tDcR (P : Program) (w : World) (wi : TI) (g : TG) (tk tv : TE) (vs : List Nat) : TE := fun σ H Q => wi σ H fun J H1 => ∀ D H2, H1 D = none → Same H1 H2 → Dic P w H2 D [] → ∃ W : Nat → Nat → Hp → Prop, (∃ m, W 0 m H2) ∧ DcT P w J g tk tv D σ Q W vs
theorem dcR_loop {Y : Cx} {R : Result → Shared → Prop} {D it : Addr} {kx vx tg iter : Expr} {scope : Scope} {pos : Pos} {fp : List Addr} {tn : Nat → Heap → Prop} {J : It} {g : TG} {tk tv : TE} {σ : L2.St} {vs : List Nat} {W : Nat → Nat → Hp → Prop} {Q : VK} (hu : Y.A.units < cLine) (hc : Y.calm = true) (hxe : ∀ e s, Y.xe e s → False)
    (T : Turn Y.prog Y.w Y.K tg J fp it tn) (hfp : ∀ H' : Hp, (∀ b, b ∈ fp → H' b = none) → ∀ b, b ∈ fp → FpOk Y [] H' b) (pg : PG Y tg g) (pk : PE Y kx tk) (pv : PE Y vx tv) (turn : DcT Y.prog Y.w J g tk tv D σ Q W vs)
    (hR : ∀ s' H', Inv Y [] (wipe σ vs) H' s' → Q (.ref D) H' → R (.ok .next) s') {m0 : Nat} {s : Shared} {H : Hp} (I0 : Inv Y [] (wipe σ vs) H s) (t0 : tn 0 s.heap) (n0 : ∀ b, b ∈ fp → H b = none) (w0 : W 0 m0 H) :
    codeAny (model Y.prog Y.w) Y.A (.compLoop (.DictComp kx vx [⟨tg, iter, [], 0⟩] scope pos) 0 (.ref it) (.ref D) Y.env) R s := by
  refine compLoop_anyD (fun n s' => ∃ i H', Inv Y [] (wipe σ vs) H' s' ∧ tn i s'.heap ∧ (∀ b, b ∈ fp → H' b = none) ∧ W i n H') ?_ m0 ⟨0, H, I0, t0, n0, w0⟩
  rintro n s5 ⟨i, H5, I5, st5, n5, w5⟩; cases turn i n H5 w5 with
  | inl z => exact thnF (T.done Y rfl rfl rfl hc i [] s5 _ H5 (fun _ _ => False) I5 (hfp _ n5) st5 z.1) fun r s6 h6 => by rw [h6.1]; exact hR s6 H5 h6.2 z.2
  | inr z =>
    obtain ⟨go, N, hN, step⟩ := z
    refine thnF (T.item Y rfl rfl rfl hc i [] s5 _ H5 (fun _ _ => False) I5 (hfp _ n5) st5 go) fun r s6 ⟨u, hr, h6⟩ => ?_
    rw [hr]
    refine thnF h6 fun _ s7 ⟨x, H7, I7, r7, y7, st7, n7⟩ => ?_; have P7 := I7.pinned (hfp _ n7) (T.obj _ _ st7)
    refine wpAny_mono (pg.run _ s7 _ H7 x u _ P7 r7 (step x H7 y7)) (fun _ s8 ⟨σ8, H8, I8, e8, q8⟩ => ?_) fun e s z => (hxe e s z).elim
    simp only [List.forIn_nil]
    refine wpAny_pure ?_
    rw [if_pos rfl]
    refine wpAny_mono (pk.run _ s8 σ8 H8 _ I8 q8) (fun kv s9 ⟨y, H9, I9, r9, q9⟩ => ?_) fun e s z => (hxe e s z).elim
    refine wpAny_mono (pv.run _ s9 σ8 H9 _ I9 q9) (fun vv s10 ⟨v, H10, I10, r10, b, es, o, ey, d, hb, hl, nx⟩ => ?_) fun e s z => (hxe e s z).elim
    subst ey
    obtain rfl : kv = Value.ref b := r9
    refine r_dset hu I10 d hb hl r10 fun s11 I11 => ?_
    obtain ⟨m', hm, w'⟩ := hN _ nx
    have pin : ∀ c, c ∈ fp → ∀ u, s7.heap.get? c = some u → s11.heap.get? c = some u ∧ upd H10 D (DicO Y.prog Y.w D (putR es o b v)) c = none := fun c hc u e => ⟨(I11.pin (c, u) (List.mem_append_right _ (List.mem_append_right _ (mem_pinsAt hc e)))).1, (I11.pin (c, u) (List.mem_append_right _ (List.mem_append_right _ (mem_pinsAt hc e)))).2.1⟩
    refine ⟨m', hm, i + 1, _, (I11.unpinned (pins := [])).weak (by rw [← e8, wipe_length]) (fun j v e => by rw [← e8] at e; exact (wipe_some e).1), T.keep _ _ _ st7 fun c hc u e => (pin c hc u e).1, fun c hc => ?_, w'⟩
    obtain ⟨u, e, _⟩ := T.obj _ _ st7 c hc
    exact (pin c hc u e).2
theorem pe_dcR {kx vx tg iter : Expr} {scope : Scope} {own : List (Str × Nat)} {pos : Pos} {wi : TI} {g : TG} {tk tv : TE} (hu : X.A.units < cLine) (hc : X.calm = true) (hN : X.N.Nodup) (hi : PI X tg iter wi) (ok : BlkOk X.N X.env.scope scope own)
    (hb : ∀ (s : Shared) (H : Hp) (C : Addr) (cl : List (Str × Addr)) (fp : List Addr), PG (X.blk s H scope (compEnvC scope cl C X.env) fp) tg g ∧ PE (X.blk s H scope (compEnvC scope cl C X.env) fp) kx tk ∧ PE (X.blk s H scope (compEnvC scope cl C X.env) fp) vx tv)
    (hs : ∀ x, foldedSetIterable iter X.env x = pure x := by intro _; rfl) : PE X (.DictComp kx vx [⟨tg, iter, [], 0⟩] scope pos) (tDcR X.prog X.w wi g tk tv (own.map (·.2))) := by
  refine ⟨fun pi s σ H Q I h => ?_⟩
  rw [arm_eval_DictComp]
  have free : ∀ y, y ∈ scope.names → y.2 = .free → ∃ c, X.env.cells.lookup y.1 = some c := fun y hy e => I.ok.has _ ((ok.free y hy e).elim .inl .inr)
  refine wpAny_comprehension_free rfl hs (closure_ok free) ok.kind (fun y hy e => (ok.uniq y hy).trans (congrArg some e)) (thn (hi.run pi s σ H _ I h) fun xv s1 hx => thn hx fun itv s2 h2 => ?_)
  obtain ⟨it, fp, tn, J, H2, rfl, I2, T, st2, f2, q⟩ := h2
  refine wpAny_newObj_type (newEnv_comp ?_); have nD : H2 s2.heap.objs.size = none := I2.hok.fresh (Nat.le_refl _)
  obtain ⟨W, ⟨m0, w0⟩, turn⟩ := q s2.heap.objs.size (upd H2 s2.heap.objs.size (DicO X.prog X.w s2.heap.objs.size [])) nD (fun b u e => by rw [upd_ne (ne_of_none e nD)]; exact e) ⟨upd_same, fun e he => nomatch he⟩
  have lt2 : ∀ b, b ∈ fp → b < s2.heap.objs.size := fun b hb => let ⟨o, e, _⟩ := T.obj _ _ st2 b hb; Heap.lt_size e
  have I3 : Inv X pi σ (upd H2 s2.heap.objs.size (DicO X.prog X.w s2.heap.objs.size [])) { s2 with heap := s2.heap.push { cls := .type "dict", data := .dict #[] } } := I2.laid (t' := s2.toks) (fun b u e => Heap.get?_push_of_some _ e) (Nat.le_refl _) (dic_new X.prog X.w s2.heap I2.big)
  have t3 : tn 0 (s2.heap.push { cls := .type "dict", data := .dict #[] }) := T.keep _ _ _ st2 fun b _ o e => Heap.get?_push_of_some _ e
  have f3 : ∀ b, b ∈ fp → FpOk X pi (upd H2 s2.heap.objs.size (DicO X.prog X.w s2.heap.objs.size [])) b ∧ b < (s2.heap.push { cls := .type "dict", data := .dict #[] }).objs.size := fun b hb =>
    ⟨⟨by rw [upd_ne (Nat.ne_of_lt (lt2 b hb))]; exact (f2 b hb).1, (f2 b hb).2⟩, by rw [Heap.size_push]; exact Nat.lt_succ_of_lt (lt2 b hb)⟩
  have main : ∀ (s3 : Shared) (D : Addr) (H3 : Hp), Inv X pi σ H3 s3 → tn 0 s3.heap → (∀ b, b ∈ fp → FpOk X pi H3 b ∧ b < s3.heap.objs.size) → W 0 m0 H3 → DcT X.prog X.w J g tk tv D σ Q W (own.map (·.2)) →
      codeAny (model X.prog X.w) X.A (.compStart (.DictComp kx vx [⟨tg, iter, [], 0⟩] scope pos) 0 (.ref it) (.ref D) (compEnvC scope (cellsFrom (s3.heap.objs.size + 1) scope.names (cloFrom X.env.cells scope.names [])) s3.heap.objs.size X.env))
        (compPost (model X.prog X.w) X.A X.xe none (EP X pi σ Q) (.ref D) s3.heap.objs.size) { s3 with heap := pushCells (s3.heap.push { cls := .type "dict", data := .dict #[] }) scope.names } := by
    intro s3 D H3 I3 t3 f3 w0 turn
    have I4 := block_start I3 ok hN f3; obtain ⟨pg, pk, pv⟩ := hb s3 H3 s3.heap.objs.size (cellsFrom (s3.heap.objs.size + 1) scope.names (cloFrom X.env.cells scope.names [])) fp
    have t4 : tn 0 (pushCells (s3.heap.push { cls := .type "dict", data := .dict #[] }) scope.names) := T.keep _ _ _ t3 fun b _ o e => pushCells_keeps _ _ _ _ (Heap.get?_push_of_some _ e)
    have loop : codeAny (model X.prog X.w) X.A (.compLoop (.DictComp kx vx [⟨tg, iter, [], 0⟩] scope pos) 0 (.ref it) (.ref D) (compEnvC scope (cellsFrom (s3.heap.objs.size + 1) scope.names (cloFrom X.env.cells scope.names [])) s3.heap.objs.size X.env))
        (compPost (model X.prog X.w) X.A X.xe none (EP X pi σ Q) (.ref D) s3.heap.objs.size) { s3 with heap := pushCells (s3.heap.push { cls := .type "dict", data := .dict #[] }) scope.names } := by
      refine dcR_loop (Y := X.blk s3 H3 scope (compEnvC scope (cellsFrom (s3.heap.objs.size + 1) scope.names (cloFrom X.env.cells scope.names [])) s3.heap.objs.size X.env) fp) (Q := Q) hu hc (fun e s z => z) T (fun H' hn b hb => ?_) pg pk pv turn (fun s' H' I' hq => ?_) I4 t4 (fun b hb => (f3 b hb).1.1) w0
      · exact ⟨hn b hb, (I4.ok.exf b hb).1, I4.ok.exfs b hb, .inl hb, (I4.ok.exf b hb).2, fun p hp => nomatch (show p ∈ ([] : List (Addr × Obj)) from hp)⟩
      · have I7 : Inv X pi σ H' s' := I3.call' (ch := fp) I'.os I'.base I'.hok I'.bare fun b hb => (f3 b hb).1.2.2.2 |> fun z => ⟨z.1, (f3 b hb).1.2.1, z.2.1, z.2.2⟩
        obtain ⟨m, hn, _⟩ := I'.loc
        refine ⟨m, hn, fun h'' sb => ?_⟩
        have nC : H' s3.heap.objs.size = none := I'.free
        obtain ⟨x0, x1, x2, x3, x4, x5⟩ := I3.fpOk (Nat.le_refl _) nC
        exact ⟨.ref D, H', I7.turned (t' := s'.toks) (fun b o hb e => (sb.2 b hb).trans e) x0 x1 x3 x4 x5, rfl, hq⟩
    exact codeAny_compStart_dict loop (T.self X.A 0 _ _ _ t4 loop)
  exact main _ _ _ I3 t3 f3 w0 turn
end
/-- a walk of a dict comprehension -/
theorem dc_itR {P : Program} {w : World} {J : It} {n : Nat} {G : Hp → Prop} {Y : Nat → Hp → V → Hp → Prop} (wk : Walk J n G Y) {g : TG} {tk tv : TE} {D : Addr} {σ : L2.St} {Q : VK} {vs : List Nat} {H2 : Hp} (Pv : Nat → Hp → Prop) (h0 : Pv 0 H2) (hG : ∀ i H, i ≤ n → Pv i H → G H)
    (hs : ∀ i x H H', i < n → Pv i H → Y i H x H' → g x (wipe σ vs) H' fun σ2 H3 => wipe σ2 vs = wipe σ vs ∧
      tk σ2 H3 fun y H4 => tv σ2 H4 fun z H5 => ∃ (b : Addr) (es : List Ent) (o : List Str), y = .ref b ∧ Dic P w H5 D es ∧ Tn H5 b (o.map V.str) ∧ es.length < sizeLine ∧ Pv (i + 1) (upd H5 D (DicO P w D (putR es o b z)))) (hd : ∀ H, Pv n H → Q (.ref D) H) :
    ∃ W : Nat → Nat → Hp → Prop, (∃ m, W 0 m H2) ∧ DcT P w J g tk tv D σ Q W vs := by
  refine ⟨fun i m H => i + m = n ∧ Pv i H, ⟨n, Nat.zero_add n, h0⟩, fun i m H ⟨e, p⟩ => ?_⟩
  by_cases lt : i < n
  · exact .inr ⟨wk.goes i H lt (hG i H (by omega) p), Pv (i + 1), fun H' p' => ⟨m - 1, by omega, by omega, p'⟩, fun x H' y => hs i x H H' lt p (wk.yields i H x H' lt (hG i H (by omega) p) y)⟩
  · have ei : i = n := by omega
    subst ei
    exact .inl ⟨wk.stops H (hG i H (Nat.le_refl _) p), hd H p⟩
section
variable {X : Cx}
/-- list(d): its keys -/
theorem call_listDR (hc : X.calm = true) : CallR X (.type "list") (fun xs H Q => ∃ (a : Addr) (es : List Ent), xs = [.ref a] ∧ DicL X.prog X.w H a es ∧ ∀ p, H p = none → Q (.ref p) (upd H p (.lst (es.map fun e => V.ref e.2.1)))) := by
  intro pi s σ H xs us Q I r h
  obtain ⟨a, es, rfl, d, q⟩ := h
  obtain ⟨u, rfl, ru⟩ := vals1 r; obtain rfl : u = Value.ref a := ru
  obtain ⟨hs, z, ys, rel, o, ar, ep, ho, hx, hdt, he, _, _⟩ := d.full I
  have l1 : ar.size = ys.length := size_of_entries he
  have l2 : es.length = ys.length := Paired.length rel
  refine PySem.W.kdl_call (kdl_raw hs hx hdt) (I.ok.hd hc) ho (by omega) fun h' tk acc c' hk hD hacc => ?_
  have lacc : acc.toList.length = es.length := by rw [Array.length_toList, hacc.1]; omega
  have hv : Vals (es.map fun e => V.ref e.2.1) acc.toList := by
    have at_ : ∀ (j : Nat) (v : Value) (e : Ent), acc.toList[j]? = some v → es[j]? = some e → v = .ref e.2.1 := by
      intro j v e hj ej
      obtain ⟨en, hen, rfl⟩ := hacc.2 j v (by rw [← Array.getElem?_toList]; exact hj)
      obtain ⟨b, hb, _, e1, _⟩ := paired_get rel ej
      have qe := entry_at he j
      rw [hen, hb] at qe
      rw [Option.some.inj qe, e1]
      rfl
    have all : ∀ (l : List Ent) (m : List Value), l.length = m.length → (∀ (j : Nat) (v : Value) (e : Ent), m[j]? = some v → l[j]? = some e → v = .ref e.2.1) → Vals (l.map fun e => V.ref e.2.1) m := by
      intro l
      induction l with
      | nil =>
        intro m hl _
        rw [List.eq_nil_of_length_eq_zero hl.symm]
        exact .nil
      | cons e l ih =>
        intro m hl hh
        cases m with
        | nil => cases hl
        | cons v m => exact .cons (hh 0 v e rfl rfl) (ih m (Nat.succ.inj hl) fun j v e h1 h2 => hh (j + 1) v e h1 h2)
    exact all es acc.toList lacc.symm at_
  refine ⟨.ref s.heap.objs.size, upd H s.heap.objs.size (.lst (es.map fun e => V.ref e.2.1)), I.laid (t' := tk) hk (Nat.le_refl _) ?_, rfl, q _ (I.hok.fresh (Nat.le_refl _))⟩
  exact ⟨by rw [List.length_map]; exact z, acc.toList, c', hv, by rw [Array.toArray_toList]; exact hD⟩
end
end LS
/-! commands whose removal changes nothing -/
namespace LS
open PySem L2 PySem.Spec PyProof.Rows LamX
def genQr : Str := ("redundant_steps" : Str) ++ ".<locals>." ++ "<genexpr>"
/-! ### dicts by what their entries say -/
theorem valR_in {es : List Ent} {o : List Str} : (valR es o).isSome = true ↔ ∃ e, e ∈ es ∧ e.1 = o := by
  unfold valR
  rw [Option.isSome_map, List.find?_isSome]
  exact ⟨fun ⟨e, h1, h2⟩ => ⟨e, h1, of_decide_eq_true h2⟩, fun ⟨e, h1, h2⟩ => ⟨e, h1, decide_eq_true h2⟩⟩
theorem putR_keys {es : List Ent} {o z : List Str} {b : Addr} {v : V} : (∃ e, e ∈ putR es o b v ∧ e.1 = z) ↔ z = o ∨ ∃ e, e ∈ es ∧ e.1 = z := by
  unfold putR
  by_cases h : (valR es o).isSome = true
  · rw [if_pos h]
    obtain ⟨e0, m0, k0⟩ := valR_in.mp h
    constructor
    · rintro ⟨e, he, rfl⟩
      obtain ⟨e1, h1, rfl⟩ := List.mem_map.mp he
      refine .inr ⟨e1, h1, ?_⟩
      split <;> rfl
    · rintro (rfl | ⟨e, he, rfl⟩)
      · exact ⟨_, List.mem_map.mpr ⟨e0, m0, rfl⟩, by rw [if_pos k0]; exact k0⟩
      · exact ⟨_, List.mem_map.mpr ⟨e, he, rfl⟩, by split <;> rfl⟩
  · rw [if_neg h]
    constructor
    · rintro ⟨e, he, rfl⟩
      cases List.mem_append.mp he with
      | inl q => exact .inr ⟨e, q, rfl⟩
      | inr q => rw [List.mem_singleton.mp q]; exact .inl rfl
    · rintro (rfl | ⟨e, he, rfl⟩)
      · exact ⟨_, List.mem_append_right _ (List.mem_singleton.mpr rfl), rfl⟩
      · exact ⟨e, List.mem_append_left _ he, rfl⟩
theorem putR_all {p : List Str → V → Prop} {es : List Ent} {o : List Str} {b : Addr} {v : V} (h : ∀ e, e ∈ es → p e.1 e.2.2) (hv : p o v) : ∀ e, e ∈ putR es o b v → p e.1 e.2.2 := by
  intro e he
  unfold putR at he
  split at he
  · obtain ⟨e1, h1, rfl⟩ := List.mem_map.mp he
    by_cases c : e1.1 = o
    · rw [if_pos c]
      show p e1.1 v
      rw [c]
      exact hv
    · rw [if_neg c]
      exact h e1 h1
  · cases List.mem_append.mp he with
    | inl q => exact h e q
    | inr q => rw [List.mem_singleton.mp q]; exact hv
theorem valR_of {p : V → Prop} {es : List Ent} {o : List Str} (h1 : ∃ e, e ∈ es ∧ e.1 = o) (h2 : ∀ e, e ∈ es → e.1 = o → p e.2.2) : ∃ v, valR es o = some v ∧ p v := by
  obtain ⟨v, hv⟩ := Option.isSome_iff_exists.mp (valR_in.mpr h1)
  refine ⟨v, hv, ?_⟩
  unfold valR at hv
  obtain ⟨e, he, rfl⟩ := Option.map_eq_some_iff.mp hv
  have k := List.find?_some he
  exact h2 e (List.mem_of_find?_eq_some he) (by simpa using k)
/-- from here on the thing at d is only read -/
def tLockP (t : TS) : TS := fun D σ H => ∃ d u, H d = some u ∧ Mut (some u) ∧ ∀ od, t D σ (upd H d (.frz od u))
theorem ps_lockP {X : Cx} {st : Stmt} {t : TS} (h : PS X st t) : PS X st (tLockP t) := by
  refine ⟨fun pins s σ H D I ⟨d, u, hd, mu, hw⟩ => ?_⟩
  obtain ⟨od, I1⟩ :=
    I.lock hd mu
  exact h.run pins s σ _ _ I1 (hw od)
/-! ### what a dict of one's own leaves alone -/
def Off (H : Hp) (d : Addr) : Prop := ∀ b u, H b = some u → (∀ ps, u ≠ .tbl ps) → b ≠ d
theorem off_none {H : Hp} {d : Addr} (h : H d = none) : Off H d := fun b u e _ z => by rw [z, h] at e; cases e
theorem off_ext {H H' : Hp} {d : Addr} (e : ExtN H H') (h : H' d = none) : Off H d := fun b u q n z => by
  have := e b u q n
  rw [z, h] at this
  cases this
theorem ext_upd {H H' : Hp} {d : Addr} {x : HO} (e : ExtN H H') (o : Off H d) : ExtN H (upd H' d x) := fun b u q n => by
  rw [upd_ne (o b u q n)]
  exact e b u q n
/-! ### what the defs promise -/
/-- this command's removal changes no result -/
def red (xs : List Str) (cs : List (Str × Str)) (i : Nat) : Bool := decide (∀ o, o ∈ ords xs → runA o (cs.take i ++ cs.drop (i + 1)) = runA o cs)
/-- row k: the orders before command k -/
def RowsF (H : Hp) (ls : List Addr) (xs : List Str) (cs : List (Str × Str)) : Prop := ∀ (k : Nat) (a : Addr), ls[k]? = some a → ∃ (as : List Addr) (L : List (List Str)), H a = some (.lst (as.map V.ref)) ∧ Tups H as L ∧ L.length ≤ (ords xs).length ∧ ∀ o, o ∈ L ↔ ∃ z, z ∈ ords xs ∧ runTo z cs k = o
def spReach (K : PySem.W.Frag) : Sp := fun vs H Q _ => ∃ (l p : Addr) (xs : List Str) (cs : List (Str × Str)), vs = [.ref l, .ref p] ∧ Tn H l (xs.map V.str) ∧ Scr K H p cs ∧ xs.Nodup ∧ xs.length ≤ 6 ∧ cs.length ≤ 900 ∧ (∀ c, c ∈ cs → c.2 ∈ xs) ∧
  ∀ (R : Addr) (ls : List Addr) (H' : Hp), Same H H' → H' R = some (.lst (ls.map V.ref)) → ls.length = cs.length → RowsF H' ls xs cs → Q (.ref R) H'
def spRed (T : List (Addr × Str)) : Sp := fun vs H Q _ => ∃ (l p : Addr) (xs : List Str) (cs : List (Str × Str)), vs = [.ref l, .ref p] ∧ Tn H l (xs.map V.str) ∧ ScrN H p cs ∧ xs.Nodup ∧ xs.length ≤ 6 ∧ cs.length ≤ 900 ∧ StrsOk xs ∧ (∀ c, c ∈ cs → c.2 ∈ xs) ∧ Tabs T H ∧
  ∀ (R : Addr) (H' : Hp), ExtN H H' → Tabs T H' → Off H R → H' R = some (.lst (((List.range cs.length).filter (red xs cs)).map fun i : Nat => V.int (i : Int))) → Q (.ref R) H'
theorem ords_len {xs : List Str} (h : xs.length ≤ 6) {n : Nat} (hn : n ≤ (ords xs).length) : n < sizeLine := pow6 (by rw [srt_len]; exact h) h hn
theorem runA_app (o : List Str) (cs ds : List (Str × Str)) : runA o (cs ++ ds) = runA (runA o cs) ds := List.foldl_append ..
theorem runA_drop {o : List Str} {cs : List (Str × Str)} {j : Nat} {c : Str × Str} (h : cs[j]? = some c) : runA o (cs.drop j) = runA (moved o c) (cs.drop (j + 1)) := by
  obtain ⟨hj, e⟩ := List.getElem?_eq_some_iff.mp h
  rw [List.drop_eq_getElem_cons hj, e]
  rfl
theorem red_iff {xs : List Str} {cs : List (Str × Str)} {j : Nat} {L : List (List Str)} (hL : ∀ o, o ∈ L ↔ ∃ z, z ∈ ords xs ∧ runTo z cs j = o) : red xs cs j = true ↔ ∀ o, o ∈ L → runA o (cs.drop j) = runA o (cs.drop (j + 1)) := by
  have e1 : ∀ z, runA z cs = runA (runTo z cs j) (cs.drop j) := fun z => by
    show _ = runA (runA z (cs.take j)) (cs.drop j)
    rw [← runA_app, List.take_append_drop]
  have e2 : ∀ z, runA z (cs.take j ++ cs.drop (j + 1)) = runA (runTo z cs j) (cs.drop (j + 1)) := fun z => runA_app _ _ _
  unfold red
  rw [decide_eq_true_iff]
  constructor
  · intro h o ho
    obtain ⟨z, hz, rfl⟩ := (hL o).mp ho
    rw [← e1, ← e2]
    exact (h z hz).symm
  · intro h z hz
    rw [e1, e2]
    exact (h _ ((hL _).mpr ⟨z, hz, rfl⟩)).symm
theorem code_dic {c d : Addr} {q : Str} {P : Program} {w : World} {es : List Ent} : CodeO c q ≠ DicO P w d es := by
  intro z
  have f : (fun h : Heap => ∃ (oc : Obj) (vs : Array Value) (t : Tok), h.get? c = some oc ∧ oc.data = .fields vs ∧ vs[1]? = some (.str q t)) = fun h => DicP P w h d es := by
    unfold CodeO DicO at z
    exact HO.ext.inj z
  let o : Obj := { cls := .none, data := .fields #[.none, .str q 0] }
  let h : Heap := { objs := Array.replicate (c + d + 1) o }
  have g : ∀ a, a < c + d + 1 → h.get? a = some o := by
    intro a ha
    unfold Heap.get?
    have e : h.objs[a]? = some o := by
      show (Array.replicate (c + d + 1) o)[a]? = some o
      rw [Array.getElem?_replicate, if_pos ha]
    rw [e]
  have p : DicP P w h d es := by
    rw [← congrFun f h]
    exact ⟨o, _, 0, g c (Nat.lt_succ_of_le (Nat.le_add_right c d)), rfl, rfl⟩
  obtain ⟨_, _, _, o', ar, ep, _, h1, _, h2, _⟩ := p
  rw [g d (Nat.lt_succ_of_le (Nat.le_add_left d c))] at h1
  cases h1
  cases h2
theorem tabs_upd {T : List (Addr × Str)} {H : Hp} {d : Addr} {u x : HO} (hT : Tabs T H) (hd : H d = some u) (n1 : ∀ ps, u ≠ .tbl ps) (n2 : ∀ c q, u ≠ CodeO c q) : Tabs T (upd H d x) := by
  intro p hp
  obtain ⟨ps, e1, e2, e3⟩ := hT p hp
  refine ⟨ps, ?_, e2, fun pos cv hc => ?_⟩
  · rw [upd_ne fun z => ?_]
    · exact e1
    · rw [z, hd] at e1
      exact n1 _ (Option.some.inj e1)
  · obtain ⟨c, z1, z2⟩ := e3 pos cv hc
    refine ⟨c, z1, ?_⟩
    rw [upd_ne fun z => ?_]
    · exact z2
    · rw [z, hd] at z2
      exact n2 _ _ (Option.some.inj z2)
theorem tabs_updD {T : List (Addr × Str)} {H : Hp} {P : Program} {w : World} {d : Addr} {es : List Ent} {x : HO} (hT : Tabs T H) (hd : H d = some (DicO P w d es)) : Tabs T (upd H d x) :=
  tabs_upd hT hd (fun ps z => by cases z) fun c q z => code_dic z.symm
theorem tabs_updL {T : List (Addr × Str)} {H : Hp} {d : Addr} {zs : List V} {x : HO} (hT : Tabs T H) (hd : H d = some (.lst zs)) : Tabs T (upd H d x) :=
  tabs_upd hT hd (fun ps z => by cases z) fun c q z => by unfold CodeO at z; cases z
/-- the results behind the command j -/
def ResF (H : Hp) (es : List Ent) (xs : List Str) (cs : List (Str × Str)) (j : Nat) : Prop :=
  (∀ e, e ∈ es → e.1 ∈ ords xs ∧ ∃ b, e.2.2 = .ref b ∧ Tn H b ((runA e.1 (cs.drop j)).map V.str)) ∧ ∀ o, o ∈ ords xs → ∃ e, e ∈ es ∧ e.1 = o
theorem ResF.ext {H H' : Hp} {es : List Ent} {xs : List Str} {cs : List (Str × Str)} {j : Nat} (r : ResF H es xs cs j) (e : ExtN H H') : ResF H' es xs cs j :=
  ⟨fun a ha => ⟨(r.1 a ha).1, let ⟨b, h1, h2⟩ := (r.1 a ha).2; ⟨b, h1, h2.ext e⟩⟩, r.2⟩
theorem ResF.at {H : Hp} {es : List Ent} {xs : List Str} {cs : List (Str × Str)} {j : Nat} (r : ResF H es xs cs j) {o : List Str} (ho : o ∈ ords xs) : ∃ b, valR es o = some (.ref b) ∧ Tn H b ((runA o (cs.drop j)).map V.str) := by
  obtain ⟨v, hv, b, e, h⟩ := valR_of (p := fun v => ∃ b, v = .ref b ∧ Tn H b ((runA o (cs.drop j)).map V.str)) (r.2 o ho) fun e he k => by
    obtain ⟨b, h1, h2⟩ := (r.1 e he).2
    exact ⟨b, h1, by rw [← k]; exact h2⟩
  exact ⟨b, by rw [hv, e], h⟩
def frev (xs : List Str) (cs : List (Str × Str)) (i : Nat) : List Nat := ((List.range' (cs.length - i) i).filter (red xs cs)).reverse
theorem frev_succ {xs : List Str} {cs : List (Str × Str)} {i : Nat} (h : i < cs.length) : frev xs cs (i + 1) = frev xs cs i ++ if red xs cs (cs.length - (i + 1)) = true then [cs.length - (i + 1)] else [] := by
  unfold frev
  rw [List.range'_succ, show cs.length - (i + 1) + 1 = cs.length - i by omega, List.filter_cons]
  split
  · rw [List.reverse_cons]
  · rw [List.append_nil]
theorem frev_all {xs : List Str} {cs : List (Str × Str)} : (frev xs cs cs.length).reverse = (List.range cs.length).filter (red xs cs) := by
  unfold frev
  rw [List.reverse_reverse, Nat.sub_self, ← List.range_eq_range']
theorem frev_len {xs : List Str} {cs : List (Str × Str)} {i : Nat} : (frev xs cs i).length ≤ i := by
  unfold frev
  rw [List.length_reverse]
  refine Nat.le_trans (List.length_filter_le _ _) ?_
  rw [List.length_range']
  exact Nat.le_refl _
/-! ### slices from behind; what the law compares -/
theorem six_m1 (n d : Nat) : HT.sIx n d (some (-1)) = n - 1 := by
  unfold HT.sIx
  dsimp only
  rw [if_pos (by decide)]
  omega
theorem cut_init (xs : List V) : cutV xs none (some (-1)) = xs.take (xs.length - 1) := by
  unfold cutV
  rw [HT.sIx_none, six_m1, List.drop_zero, Nat.sub_zero]
theorem cut_last (xs : List V) : cutV xs (some (-1)) none = xs.drop (xs.length - 1) := by
  unfold cutV
  rw [HT.sIx_none, six_m1, List.take_of_length_le (by rw [List.length_drop]; exact Nat.le_refl _)]
theorem Cmds.rev {H : Hp} : ∀ {as : List Addr} {cs : List (Str × Str)}, Cmds H as cs → Cmds H as.reverse cs.reverse
  | [], [], _ => trivial
  | a :: as, c :: cs, h => by
    rw [List.reverse_cons,
      List.reverse_cons]
    exact Cmds.snoc h.1 (Cmds.rev h.2)
theorem Cmds.extR {H H' : Hp} (e : ExtN H H') : ∀ {as : List Addr} {cs : List (Str × Str)}, Cmds H as cs → Cmds H' as cs
  | [], [], _ => trivial
  | _ :: _, _ :: _, h => ⟨h.1.ext e, Cmds.extR e h.2⟩
theorem find_head {xs : List Str} {cs ds : List (Str × Str)} : ((ords xs).filter (diffs cs ds)).head? = firstDiff xs cs ds := List.head?_filter
theorem diffs_comm (o : List Str) (cs ds : List (Str × Str)) : (!decide (runA o ds = runA o cs)) = diffs cs ds o := by
  unfold diffs
  rw [decide_eq_decide.mpr eq_comm]
theorem red_rows {xs : List Str} {cs : List (Str × Str)} {j : Nat} : decide (((ords xs).map fun o => runA o (cs.take j ++ cs.drop (j + 1))) = (ords xs).map fun o => runA o cs) = red xs cs j := by
  unfold red
  rw [Bool.eq_iff_iff, decide_eq_true_iff, decide_eq_true_iff]
  exact List.map_inj_left
def redL (L : List (List Str)) (cs : List (Str × Str)) (i : Nat) : Bool := decide (∀ o, o ∈ L → runA o (cs.take i ++ cs.drop (i + 1)) = runA o cs)
def steps3 : List (Str × Str) := [("up", "b"), ("front", "b"), ("up", "c")]
theorem srt3 : srt abc = abc := (eq_srt (.refl _) (by decide +kernel)).symm
theorem ords3 : ords abc = lev abc 3 := by
  unfold ords
  rw [srt3]
  rfl
theorem red3 : (List.range steps3.length).filter (red abc steps3) = [0] := by
  have e : red abc steps3 = redL (lev abc 3) steps3 := by
    rw [← ords3]
    rfl
  rw [e]
  decide +kernel
/-- a script of some of the commands -/
def Good (H : Hp) (os : List Str) (x : V) : Prop := ∃ (p : Addr) (ds : List (Str × Str)), x = .ref p ∧ ScrN H p ds ∧ ds.length ≤ 30 ∧ ∀ c, c ∈ ds → c.2 ∈ os
theorem Good.same {H H' : Hp} {os : List Str} {x : V} (h : Good H os x) (e : Same H H') : Good H' os x := by
  obtain ⟨p, ds, e1, e2, e3, e4⟩ := h
  exact ⟨p, ds, e1, e2.same e, e3, e4⟩
end LS
set_option maxHeartbeats 2100000
/-! the numbers of orders at each level -/
namespace LS
open PySem L2 PySem.Spec PyProof.Rows
theorem len_mr {α : Type} (f : Nat → α) (n : Nat) : ((List.range n).map f).length = n := by simp
open Classical in
noncomputable def lc (os : List Str) (k : Nat) : Nat := ((ords os).filter fun o => decide (Lv os k o)).length
/-- the sizes of all levels -/
noncomputable def lsz (os : List Str) : List Int := (List.range os.length).map fun k => ((lc os k : Nat) : Int)
theorem lsz_len (os : List Str) : (lsz os).length = os.length := by
  unfold lsz
  rw [len_mr]
theorem lc_of {os : List Str} (hn : os.Nodup) {k : Nat} {L : List (List Str)} (nd : L.Nodup) (h : ∀ o, o ∈ L ↔ Lv os k o) : L.length = lc os k := by
  unfold lc
  refine List.Perm.length_eq ((List.perm_ext_iff_of_nodup nd ((ords_nd hn).filter _)).mpr fun o => ?_)
  rw [h, List.mem_filter, mem_ords hn]
  exact ⟨fun z => ⟨z.perm, @decide_eq_true _ (Classical.propDecidable _) z⟩, fun z => @of_decide_eq_true _ (Classical.propDecidable _) z.2⟩
theorem lv_map {f : Str → Str} {os o : List Str} {k : Nat} (hn : os.Nodup) (h0 : 0 < os.length) (hf : Inj f os) (hn' : (os.map f).Nodup) (h : Lv os k o) : Lv (os.map f) k (o.map f) := by
  have hp := h.perm
  obtain ⟨e, he⟩ := dist_ex (os.map f) (t := o.map f) (by rw [List.length_map, hp.length_eq]; exact h0)
  have := dist_map hf (fun x hx => hp.mem_iff.mp hx) (dist_lv hn h0 h) he
  subst this
  exact lv_dist hn' (by rw [List.length_map]; exact h0) (hp.map f) he
theorem lc_le {f : Str → Str} {os : List Str} (k : Nat) (hn : os.Nodup) (h0 : 0 < os.length) (hf : Inj f os) (hn' : (os.map f).Nodup) : lc os k ≤ lc (os.map f) k := by
  unfold lc
  rw [← List.length_map (f := fun o : List Str => o.map f)]
  refine List.Nodup.length_le_of_subset ?_ fun o ho => ?_
  · have nd : ((ords os).filter fun o => @decide (Lv os k o) (Classical.propDecidable _)).Nodup := (ords_nd hn).filter _
    unfold List.Nodup
    rw [List.pairwise_map]
    refine List.Pairwise.imp_of_mem (fun {a b} ha hb hab e => hab ?_) nd
    have pa := (mem_ords hn).mp (List.mem_filter.mp ha).1
    have pb := (mem_ords hn).mp (List.mem_filter.mp hb).1
    exact map_inj_on hf (fun x hx => pa.mem_iff.mp hx) (fun x hx => pb.mem_iff.mp hx) e
  · obtain ⟨p, hp, rfl⟩ := List.mem_map.mp ho
    obtain ⟨_, h2⟩ := List.mem_filter.mp hp
    have hl := lv_map hn h0 hf hn' (@of_decide_eq_true _ (Classical.propDecidable _) h2)
    exact List.mem_filter.mpr ⟨(mem_ords hn').mpr hl.perm, @decide_eq_true _ (Classical.propDecidable _) hl⟩
theorem ex_ren : ∀ {os qs : List Str}, os.Nodup → qs.Nodup → os.length = qs.length → ∃ f : Str → Str, Inj f os ∧ os.map f = qs
  | [], [], _, _, _ => ⟨id, (fun x y hx => absurd hx List.not_mem_nil), rfl⟩
  | [], _ :: _, _, _, e => by simp at e
  | _ :: _, [], _, _, e => by simp at e
  | x :: os, y :: qs, h1, h2, e => by
    have h1' := List.nodup_cons.mp h1
    have h2' := List.nodup_cons.mp h2
    obtain ⟨f, hf, hm⟩ := ex_ren h1'.2 h2'.2 (by simpa using e)
    have fx : ∀ z, z ∈ os → z ≠ x := fun z hz c => h1'.1 (c ▸ hz)
    have fq : ∀ z, z ∈ os → f z ∈ qs := fun z hz => by rw [← hm]; exact List.mem_map.mpr ⟨z, hz, rfl⟩
    refine ⟨fun z => if z = x then y else f z, fun a b ha hb eq => ?_, ?_⟩
    · dsimp only at eq
      rcases List.mem_cons.mp ha with ra | ra <;> rcases List.mem_cons.mp hb with rb | rb
      · rw [ra, rb]
      · rw [if_pos ra, if_neg (fx b rb)] at eq
        exact absurd (eq ▸ fq b rb) h2'.1
      · rw [if_neg (fx a ra), if_pos rb] at eq
        exact absurd (eq ▸ fq a ra) h2'.1
      · rw [if_neg (fx a ra), if_neg (fx b rb)] at eq
        exact hf a b ra rb eq
    · rw [List.map_cons, if_pos rfl, ← hm]
      congr 1
      exact List.map_congr_left fun z hz => if_neg (fx z hz)
theorem lc_eq {os qs : List Str} (k : Nat) (h1 : os.Nodup) (h2 : qs.Nodup) (h0 : 0 < os.length) (e : os.length = qs.length) : lc os k = lc qs k := by
  obtain ⟨f, hf, hm⟩ := ex_ren h1 h2 e
  obtain ⟨g, hg, hm2⟩ := ex_ren h2 h1 e.symm
  have a := lc_le k h1 h0 hf (by rw [hm]; exact h2)
  have b := lc_le k h2 (by omega) hg (by rw [hm2]; exact h1)
  rw [hm] at a
  rw [hm2] at b
  omega
theorem lsz_eq {os qs : List Str} (h1 : os.Nodup) (h2 : qs.Nodup) (h0 : 0 < os.length) (e : os.length = qs.length) : lsz os = lsz qs := by
  unfold lsz
  rw [e]
  apply List.map_congr_left; intro k _
  rw [lc_eq k h1 h2 h0 e]
/-! ### all levels below the number of layers are there -/
theorem lv_all {os : List Str} (hn : os.Nodup) (h0 : 0 < os.length) : ∀ j, j < os.length → ∃ o, Lv os (os.length - 1 - j) o
  | 0, _ => by
    obtain ⟨e, he⟩ := dist_ex os (t := os.reverse) (by rw [List.length_reverse]; exact h0)
    have := dist_rev hn h0 he
    subst this
    exact ⟨_, lv_dist hn h0 (List.reverse_perm os) he⟩
  | j + 1, hj => by
    obtain ⟨o, ho⟩ := lv_all hn h0 j (by omega)
    have e : os.length - 1 - j = (os.length - 1 - (j + 1)) + 1 := by omega
    rw [e] at ho
    obtain ⟨p, _, hp, _⟩ := ho.pred
    exact ⟨p, hp⟩
theorem lv_some {os : List Str} (hn : os.Nodup) (h0 : 0 < os.length) {k : Nat} (hk : k < os.length) : ∃ o, Lv os k o := by
  obtain ⟨o, ho⟩ := lv_all hn h0 (os.length - 1 - k) (by omega)
  have e : os.length - 1 - (os.length - 1 - k) = k := by omega
  rw [e] at ho
  exact ⟨o, ho⟩
/-! ### their sum -/
theorem sum_add {α : Type} (f g : α → Nat) : ∀ l : List α, (l.map fun x => f x + g x).sum = (l.map f).sum + (l.map g).sum
  | [] => rfl
  | x :: l => by
    simp only [List.map_cons, List.sum_cons, sum_add f g l]
    omega
theorem sum_one {n k : Nat} (hk : k < n) : ((List.range n).map fun j => if j = k then 1 else 0).sum = 1 := by
  induction n with
  | zero => omega
  | succ n ih =>
    rw [List.range_succ, List.map_append, List.sum_append]
    by_cases c : k = n
    · subst c
      rw [sum_zero fun x hx => by
        obtain ⟨j, hj, rfl⟩ := List.mem_map.mp hx
        have := List.mem_range.mp hj
        rw [if_neg (by omega)]]
      simp
    · rw [ih (by omega)]
      simp
      omega
theorem sum_count {α : Type} {n : Nat} (p : Nat → α → Bool) : ∀ (L : List α), (∀ x, x ∈ L → ∃ k, k < n ∧ ∀ j, p j x = decide (j = k)) → ((List.range n).map fun k => (L.filter (p k)).length).sum = L.length
  | [], _ => sum_zero fun x hx => by
    obtain ⟨_, _, rfl⟩ := List.mem_map.mp hx
    rfl
  | x :: L, h => by
    have ih := sum_count p L fun y hy => h y (List.mem_cons_of_mem _ hy)
    obtain ⟨k, hk, hp⟩ := h x List.mem_cons_self
    have e : (fun j => ((x :: L).filter (p j)).length) = fun j => (if j = k then 1 else 0) + (L.filter (p j)).length := by
      funext j
      rw [List.filter_cons, hp]
      by_cases c : j = k
      · rw [decide_eq_true c, if_pos rfl, if_pos c, List.length_cons, Nat.add_comm]
      · rw [decide_eq_false c, if_neg Bool.false_ne_true, if_neg c, Nat.zero_add]
    rw [e, sum_add, sum_one hk, ih, List.length_cons, Nat.add_comm]
theorem sum_cast : ∀ l : List Nat, (l.map fun k : Nat => ((k : Nat) : Int)).sum = ((l.sum : Nat) : Int)
  | [] => rfl
  | x :: l => by
    rw [List.map_cons, List.sum_cons, List.sum_cons, sum_cast l]
    omega
theorem lsz_sum {os : List Str} (hn : os.Nodup) (h0 : 0 < os.length) : (lsz os).sum = ((ords os).length : Nat) := by
  unfold lsz
  rw [show (fun k => ((lc os k : Nat) : Int)) = (fun k : Nat => ((k : Nat) : Int)) ∘ lc os from rfl, ← List.map_map, sum_cast]
  congr 1
  unfold lc
  refine sum_count (fun k o => @decide (Lv os k o) (Classical.propDecidable _)) (ords os) fun o ho => ?_
  obtain ⟨d, hd⟩ := lv_ex hn h0 ((mem_ords hn).mp ho)
  refine ⟨d, lv_lt hn h0 hd, fun j => ?_⟩
  by_cases c : j = d
  · subst c
    rw [@decide_eq_true _ (Classical.propDecidable _) hd, decide_eq_true rfl]
  · rw [decide_eq_false c, @decide_eq_false _ (Classical.propDecidable _) fun z => c (z.uniq hd)]
/-! ### what is seen -/
def SeenF (os : List Str) (c : Nat) (es : List Ent) (fs : List (List Str)) : Prop := ∃ gs : List Ent, rowsE gs = rowsE es ∧ Full os c gs fs
def SeenH (os : List Str) (c : Nat) (es : List Ent) (rs : List (List Str)) : Prop := ∃ gs : List Ent, rowsE gs = rowsE es ∧ Half os c gs rs
section
variable {os : List Str} {c : Nat} {es : List Ent} {fs rs : List (List Str)}
theorem seen_zero (b : Addr) (v : V) : SeenF os 0 [(os, b, v)] [os] := ⟨[(os, b, .int 0)], rfl, full_zero b⟩
theorem SeenF.fin (h : SeenF os c es fs) : ∀ o, o ∈ fs ↔ Lv os c o := by
  obtain ⟨gs, _, h⟩ := h
  exact h.fin
theorem SeenF.fnd (h : SeenF os c es fs) : fs.Nodup := by
  obtain ⟨gs, _, h⟩ := h
  exact h.fnd
theorem SeenF.half (h : SeenF os c es fs) : SeenH os c es [] := by
  obtain ⟨gs, e, h⟩ := h
  exact ⟨gs, e, h.half⟩
theorem SeenH.few (h : SeenH os c es rs) (hn : os.Nodup) (h6 : os.length ≤ 6) : es.length < sizeLine ∧ rs.length < sizeLine := by
  obtain ⟨gs, e, h⟩ := h
  have z1 := rows_few hn h.nd (fun o ho => by
    obtain ⟨e, he, rfl⟩ := List.mem_map.mp ho
    obtain ⟨_, _, _, hl⟩ := h.lv e he
    exact hl.perm) h6
  rw [e, List.length_map] at z1
  exact ⟨z1, rows_few hn h.rnd (fun o ho => ((h.rin o).mp ho).2.perm) h6⟩
theorem SeenH.meet (h : SeenH os c es rs) {p : List Str} {cm : Str × Str} (hp : Lv os c p) (h1 : cm.1 ∈ fourWords) (h2 : cm.2 ∈ os) (hno : (valR es (moved p cm)).isSome = false) (b : Addr) (v : V) : SeenH os c (es ++ [(moved p cm, b, v)]) (rs ++ [moved p cm]) := by
  obtain ⟨gs, e, h⟩ := h
  refine ⟨_, ?_, h.meet hp h1 h2 ?_ b⟩
  · unfold rowsE at e ⊢
    rw [List.map_append, List.map_append, e]
    rfl
  · cases q : (valR gs (moved p cm)).isSome with
    | false => rfl
    | true =>
      have := val_mem.mp q
      rw [e] at this
      rw [val_mem.mpr this] at hno
      cases hno
theorem SeenH.done (h : SeenH os c es rs) (all : ∀ p, Lv os c p → ∀ cm : Str × Str, cm ∈ cmdsL os → moved p cm ∈ rowsE es) : SeenF os (c + 1) es rs := by
  obtain ⟨gs, e, h⟩ := h
  exact ⟨gs, e, h.done fun p hp cm hcm => by rw [e]; exact all p hp cm hcm⟩
end
theorem mem_allC {os p : List Str} (hp : p.Perm os) {cm : Str × Str} (h : cm ∈ cmdsL os) : cm ∈ allC p := by
  have z := cmdsL_mem h
  unfold allC
  exact List.mem_flatMap.mpr ⟨cm.1, z.1, List.mem_map.mpr ⟨cm.2, hp.mem_iff.mpr z.2, rfl⟩⟩
/-- the next sphere is made; D, what is seen, is written -/
def spFSph (P : Program) (w : World) : Sp := fun vs H Q _ => ∃ (F D : Addr) (os : List Str) (fs : List (List Str)) (fa : List Addr) (c : Nat) (es : List Ent), vs = [.ref F, .ref D] ∧ H F = some (.lst (fa.map V.ref)) ∧ Tups H fa fs ∧ Dic P w H D es ∧ SeenF os c es fs ∧ os.Nodup ∧ os.length ≤ 6 ∧
  ∀ (R : Addr) (ra : List Addr) (rs : List (List Str)) (es' : List Ent) (H' : Hp), But D H H' → H R = none → Dic P w H' D es' → H' R = some (.lst (ra.map V.ref)) → Tups H' ra rs → SeenF os (c + 1) es' rs → Q (.ref R) H'
structure BS (P : Program) (w : World) (H H3 : Hp) (D F R : Addr) (os : List Str) (fs rs : List (List Str)) (fa ra : List Addr) (c : Nat) (es : List Ent) : Prop where
  s : But D H H3
  d : Dic P w H3 D es
  f : H3 F = some (.lst (fa.map V.ref))
  ft : Tups H3 fa fs
  r : H3 R = some (.lst (ra.map V.ref))
  rt : Tups H3 ra rs
  fr : F ≠ R
  nR : H R = none
  h : SeenH os c es rs
theorem BS.same {P : Program} {w : World} {H H3 H4 : Hp} {D F R : Addr} {os : List Str} {fs rs : List (List Str)} {fa ra : List Addr} {c : Nat} {es : List Ent} (b : BS P w H H3 D F R os fs rs fa ra c es) (s4 : Same H3 H4) : BS P w H H4 D F R os fs rs fa ra c es :=
  ⟨b.s.same s4, b.d.same s4, s4 _ _ b.f, b.ft.same s4, s4 _ _ b.r, b.rt.same s4, b.fr, b.nR, b.h⟩
/-! ### counted -/
def cv (es : List Ent) (k : Nat) : Nat := es.countP fun e => decide (numE e = (k : Int))
theorem cv_lc {os : List Str} (hn : os.Nodup) {es : List Ent} (h1 : ∀ e, e ∈ es → ∃ k : Nat, e.2.2 = .int (k : Nat) ∧ Lv os k e.1) (h2 : ∀ o : List Str, o.Perm os → o ∈ rowsE es) (h3 : (rowsE es).Nodup) (k : Nat) : cv es k = lc os k := by
  unfold cv
  rw [List.countP_eq_length_filter, ← List.length_map (f := fun e : Ent => e.1)]
  refine lc_of hn ?_ fun o => ?_
  · exact h3.sublist (List.Sublist.map _ List.filter_sublist)
  · constructor
    · intro h
      obtain ⟨e, he, rfl⟩ := List.mem_map.mp h
      obtain ⟨m1, m2⟩ := List.mem_filter.mp he
      obtain ⟨j, hj, hl⟩ := h1 e m1
      have z : numE e = (k : Int) := of_decide_eq_true m2
      unfold numE at z
      rw [hj] at z
      have : j = k := by
        have z' : (j : Int) = (k : Int) := z
        omega
      rw [← this]
      exact hl
    · intro h
      obtain ⟨e, he, rfl⟩ := List.mem_map.mp (h2 o h.perm)
      obtain ⟨j, hj, hl⟩ := h1 e he
      refine List.mem_map.mpr ⟨e, List.mem_filter.mpr ⟨he, decide_eq_true ?_⟩, rfl⟩
      unfold numE
      rw [hj, hl.uniq h]
def cvs (n : Nat) (es : List Ent) : List Int := (List.range n).map fun k => ((cv es k : Nat) : Int)
theorem cvs_nil (n : Nat) : cvs n [] = List.replicate n 0 := by
  unfold cvs
  rw [List.eq_replicate_iff]
  refine ⟨by rw [List.length_map, List.length_range], fun b hb => ?_⟩
  obtain ⟨k, _, rfl⟩ := List.mem_map.mp hb
  rfl
theorem cvs_get {n k : Nat} {es : List Ent} (hk : k < n) : (cvs n es)[k]? = some ((cv es k : Nat) : Int) := by
  unfold cvs
  rw [List.getElem?_map, List.getElem?_range hk]
  rfl
theorem cvs_set {n k : Nat} {es : List Ent} {e : Ent} (he : e.2.2 = .int (k : Nat)) : (cvs n es).set k (((cv es k : Nat) : Int) + 1) = cvs n (es ++ [e]) := by
  have ne : numE e = (k : Int) := by
    unfold numE
    rw [he]
  apply List.ext_getElem?
  intro j
  by_cases hj : j < n
  · rw [cvs_get hj, List.getElem?_set]
    have sp : cv (es ++ [e]) j = cv es j + if k = j then 1 else 0 := by
      unfold cv
      rw [List.countP_append, List.countP_singleton, ne]
      by_cases c : k = j
      · rw [if_pos c, if_pos (decide_eq_true (by rw [c]))]
      · rw [if_neg c, if_neg]
        intro z
        have := of_decide_eq_true z
        exact c (by omega)
    rw [sp]
    by_cases c : k = j
    · subst c
      have hl : k < (cvs n es).length := by
        unfold cvs
        rw [len_mr]
        exact hj
      rw [if_pos rfl, if_pos hl, if_pos rfl]
      rfl
    · rw [if_neg c, if_neg c, cvs_get hj]
      rfl
  · rw [List.getElem?_eq_none, List.getElem?_eq_none]
    · unfold cvs
      rw [len_mr]
      omega
    · rw [List.length_set]
      unfold cvs
      rw [len_mr]
      omega
theorem cvs_lsz {os : List Str} (hn : os.Nodup) {es : List Ent} (h1 : ∀ e, e ∈ es → ∃ k : Nat, e.2.2 = .int (k : Nat) ∧ Lv os k e.1) (h2 : ∀ o : List Str, o.Perm os → o ∈ rowsE es) (h3 : (rowsE es).Nodup) : cvs os.length es = lsz os := by
  unfold cvs lsz
  apply List.map_congr_left; intro k _
  rw [cv_lc hn h1 h2 h3]
end LS
set_option maxHeartbeats 2100000
/-! one place of a list is written -/
namespace LS
open PySem L2 PySem.Spec PyProof.Rows
section
variable {prog : Program} {w : World} {A : Around} {s : Shared} {E : Value → Shared → Prop}
theorem set_at {l : Addr} {items : Array Value} {n : Nat} {k : Int} {t : Tok} {v : Value} {Q : Unit → Shared → Prop} (e : s.heap.get? l = some { cls := .type "list", data := .seq items n }) (h0 : 0 ≤ k) (hfit : k < 2 ^ 63) (hj : k < items.size) (h : Q () { s with heap := s.heap.update l (Obj.mapSeq (·.setIfInBounds k.toNat v)) }) : wpAny (model prog w) A (setItem (.ref l) (.int k t) v) Q E s := by
  have hl := PySem.IsL.isList e
  unfold setItem; try with_reducible refine wpAny_holding ?_
  refine wpAny_bind (wpAny_sequenceKey hl.typeIs (by decide) (wpAny_bind (wpAny_callSpecial?_slot (name := Str.ofString "__setitem__") hl.typeIs slot_list_setitem (wpAny_call_entry slot_list_setitem hl.typeIs entry_list_setitem ?_ (args_list_setitem _ _ _)))))
  show wpAny _ _ (Builtin.List.listSubscript? (.int k t) >>= _) _ _ s; refine wpAny_bind (wpAny_listSubscript_int (fitsIndex_of h0 hfit) ?_)
  clear hfit
  obtain ⟨j, rfl⟩ := Int.eq_ofNat_of_zero_le h0; have hj' : j < items.size := by omega
  have hx : items[j]? = some items[j] := Array.getElem?_eq_getElem hj'
  show wpAny _ _ ((seqItemAt l j >>= fun r => pure (r.map (j, ·))) >>= _) _ _ s; refine wpAny_bind (wpAny_bind (wpAny_seqItemAt e rfl (wpAny_pure ?_)))
  rw [hx]
  show wpAny _ _ (setSeqItemAt l j v >>= _) _ _ s; refine wpAny_bind (wpAny_setSeqItemAt e rfl ?_)
  first | exact wpAny_bind (wpAny_pure (wpAny_pure ⟨.none, rfl, wpAny_pure h⟩)) | exact wpAny_pure ⟨.none, rfl, wpAny_pure h⟩
end
/-- a[k] = v -/
def sLPut (td ty tv : TE) : TS := fun D σ H => tv σ H fun v H1 => td σ H1 fun x H2 => ty σ H2 fun y H3 => ∃ (a : Addr) (xs : List V) (k : Nat), x = .ref a ∧ y = .int (k : Int) ∧ H3 a = some (.lst xs) ∧ k < xs.length ∧ D.nx σ (upd H3 a (.lst (xs.set k v)))
theorem ps_lput {X : Cx} {oe ie value : Expr} {pos pos' : Pos} {td ty tv : TE} (ho : PE X oe td) (hi : PE X ie ty) (hv : PE X value tv) (hs : swapsWith value (some (.Subscript oe ie pos')) pos.line X.env = pure false) : PS X (.Assign [.Subscript oe ie pos'] value pos) (sLPut td ty tv) := by
  refine ⟨fun pi s σ H D I h => ?_⟩
  refine wpAny_Assign_Subscript (thn (hv.run pi s σ H _ I h) fun r s1 ⟨v, H1, I1, rv, q1⟩ => thn (ho.run pi s1 σ H1 _ I1 q1) fun u s2 ⟨x, H2, I2, rx, q2⟩ => thn (hi.run pi s2 σ H2 _ I2 q2) fun iv s3 ⟨y, H3, I3, ry, a, xs, k, ex, ey, ha, hk, q3⟩ => ?_) hs
  subst ex ey
  cases rx
  obtain ⟨t, rfl⟩ := ry
  obtain ⟨z, its, n, rr, hl, e⟩ := I3.lstM ha
  have l63 := line63
  refine set_at e (by omega) (by omega) (by rw [List.size_toArray]; omega) ⟨σ, _, I3.lset (its' := its.set k r) (t' := s3.toks) ha e (by simp) (Vals.set rv k rr) (by rw [List.length_set]; exact z), q3⟩
/-- the numbers of the spheres' orders, as the generator hands them out -/
def spSph : SpN := fun vs H Q => ∃ (o : Addr) (os : List Str), vs = [.ref o] ∧ Tn H o (os.map V.str) ∧ os.Nodup ∧ 0 < os.length ∧ os.length ≤ 6 ∧ ∀ H', Same H H' → Q ((lsz os).map V.int) H'
def spSizes : Sp := fun vs H Q _ => ∃ (o : Addr) (os : List Str), vs = [.ref o] ∧ Tn H o (os.map V.str) ∧ os.Nodup ∧ 0 < os.length ∧ os.length ≤ 6 ∧ ∀ (D : Addr) (H' : Hp), Same H H' → H D = none → H' D = some (.lst ((lsz os).map V.int)) → Q (.ref D) H'
/-- the sizes of the first levels -/
noncomputable def lsn (os : List Str) (c : Nat) : List V := (List.range c).map fun k => V.int ((lc os k : Nat) : Int)
theorem lsn_len (os : List Str) (c : Nat) : (lsn os c).length = c := by
  unfold lsn
  rw [len_mr]
theorem lsn_succ (os : List Str) (c : Nat) : lsn os (c + 1) = lsn os c ++ [V.int ((lc os c : Nat) : Int)] := by
  unfold lsn
  rw [List.range_succ, List.map_append]
  rfl
theorem lsn_all (os : List Str) : lsn os os.length = (lsz os).map V.int := by
  unfold lsn lsz
  rw [List.map_map]
  rfl
/-! ### the written examples -/
theorem isDist_by {o t : List Str} {d n : Nat} (hl : t.length = n) (h1 : ∃ x, x ∈ stfrom n n ∧ cost o t x.1 x.2 = d) (h2 : ∀ x, x ∈ stfrom n n → d ≤ cost o t x.1 x.2) : IsDist o t d := by
  subst hl
  obtain ⟨x, hx, e⟩ := h1
  have m := (mem_stfrom _ (Nat.le_refl _)).mp hx
  refine ⟨⟨x.1, x.2, m.2.1, m.2.2, e⟩, fun a b hab hb => h2 (a, b) ((mem_stfrom _ (Nat.le_refl _)).mpr ⟨by omega, hab, hb⟩)⟩
theorem lc_zero {os : List Str} (hn : os.Nodup) : lc os 0 = 1 := by
  refine (lc_of (L := [os]) hn (by simp) fun o => ?_).symm
  rw [List.mem_singleton]
  exact ⟨fun z => z ▸ lv_zero, lv_zero_eq⟩
def abc3 : List Str := ["a", "b", "c"]
def rows3 : Nat → List (List Str)
  | 0 => [["a", "b", "c"]]
  | 1 => [["b", "a", "c"], ["a", "c", "b"], ["b", "c", "a"], ["c", "a", "b"]]
  | 2 => [["c", "b", "a"]]
  | _ => []
theorem nd3 : abc3.Nodup := by decide +kernel
theorem rows3_lv : ∀ k, k < 3 → ∀ o, o ∈ rows3 k → Lv abc3 k o := by
  have all : ∀ k, k < 3 → ∀ o, o ∈ rows3 k → o.Perm abc3 ∧ o.length = 3 ∧ (∃ x, x ∈ stfrom 3 3 ∧ cost abc3 o x.1 x.2 = k) ∧ ∀ x, x ∈ stfrom 3 3 → k ≤ cost abc3 o x.1 x.2 := by decide +kernel
  intro k hk o ho
  obtain ⟨h1, h2, h3, h4⟩ := all k hk o ho
  exact lv_dist nd3 (by decide) h1 (isDist_by h2 h3 h4)
theorem rows3_all : ∀ o, o ∈ lev abc3 3 → ∃ k, k < 3 ∧ o ∈ rows3 k := by
  have all : ∀ o, o ∈ lev abc3 3 → o ∈ rows3 0 ∨ o ∈ rows3 1 ∨ o ∈ rows3 2 := by decide +kernel
  intro o ho
  rcases all o ho with z | z | z
  · exact ⟨0, by decide, z⟩
  · exact ⟨1, by decide, z⟩
  · exact ⟨2, by decide, z⟩
theorem lc3 (k : Nat) (hk : k < 3) : (rows3 k).length = lc abc3 k := by
  have nd : ∀ k, k < 3 → (rows3 k).Nodup := by decide +kernel
  refine lc_of nd3 (nd k hk) fun o => ⟨rows3_lv k hk o, fun h => ?_⟩
  have hp := h.perm
  obtain ⟨j, hj, ho⟩ := rows3_all o (mem_lev.mpr ⟨hp.length_eq, hp.nodup_iff.mpr nd3, fun x hx => hp.mem_iff.mp hx⟩)
  rw [h.uniq (rows3_lv j hj o ho)]
  exact ho
theorem lsz3 : lsz abc3 = [1, 4, 1] := by
  show [((lc abc3 0 : Nat) : Int), ((lc abc3 1 : Nat) : Int), ((lc abc3 2 : Nat) : Int)] = _
  rw [← lc3 0 (by decide), ← lc3 1 (by decide), ← lc3 2 (by decide)]
  rfl
theorem lsz1 (x : Str) : lsz [x] = [1] := by
  show [((lc [x] 0 : Nat) : Int)] = _
  rw [lc_zero (by simp)]
  rfl
theorem flat_rep (n : Nat) (v : V) : (List.replicate n [v]).flatten = List.replicate n v := by
  induction n with
  | zero => rfl
  | succ n ih =>
    rw [List.replicate_succ, List.flatten_cons, ih, List.replicate_succ]
    rfl
end LS
set_option maxHeartbeats 2100000
/-! wished pairs: which orders have them, the least level with such an order -/
namespace LS
open PySem L2 PySem.Spec PyProof.Rows LamX
def genQh : Str := ("has_pairs" : Str) ++ ".<locals>." ++ "<genexpr>"
def genQd : Str := ("distance_to_pairs" : Str) ++ ".<locals>." ++ "<genexpr>"
/-- all pairs stand as wished -/
def stands (q : List Str) (ps : List (Str × Str)) : Bool := ps.all fun p => decide (idx q p.1 < idx q p.2)
/-- none of them stands the other way round -/
def noneOff (q : List Str) (ps : List (Str × Str)) : Bool := ps.all fun p => !decide (idx q p.2 < idx q p.1)
theorem idx_ne {q : List Str} {x y : Str} (hx : x ∈ q) (hy : y ∈ q) (h : x ≠ y) : idx q x ≠ idx q y := fun e => by
  have a := idx_at hx
  rw [e, idx_at hy] at a
  exact h (Option.some.inj a).symm
abbrev InPs (os : List Str) (ps : List (Str × Str)) : Prop := ∀ c, c ∈ ps → c.1 ∈ os ∧ c.2 ∈ os
theorem noneOff_eq {q : List Str} : ∀ {ps : List (Str × Str)}, InPs q ps → (∀ c, c ∈ ps → c.1 ≠ c.2) → noneOff q ps = stands q ps
  | [], _, _ => rfl
  | c :: ps, h1, h2 => by
    have ih := noneOff_eq (ps := ps) (fun d hd => h1 d (List.mem_cons_of_mem _ hd)) fun d hd => h2 d (List.mem_cons_of_mem _ hd)
    unfold noneOff stands at ih ⊢
    rw [List.all_cons, List.all_cons, ih]
    have hc := h1 c List.mem_cons_self
    have ne := idx_ne hc.1 hc.2 (h2 c List.mem_cons_self)
    congr 1
    by_cases z : idx q c.1 < idx q c.2
    · rw [decide_eq_true z, decide_eq_false (by omega)]
      rfl
    · rw [decide_eq_false z, decide_eq_true (by omega)]
      rfl
/-- the distance to the orders that have the pairs -/
def IsPD (os : List Str) (ps : List (Str × Str)) : Option Nat → Prop
  | some d => (∃ q, Lv os d q ∧ stands q ps = true) ∧ ∀ j, j < d → ∀ q, Lv os j q → stands q ps = false
  | none => ∀ q : List Str, q.Perm os → stands q ps = false
def optV : Option Nat → V
  | some d => .int (d : Nat)
  | none => .non
def optD : Option Nat → PyData
  | some d => .int (d : Nat)
  | none => .none
theorem dp_opt {K : PySem.W.Frag} {H : Hp} : ∀ r : Option Nat, Dp K H (optV r) (optD r)
  | some d => .int _
  | none => .non
theorem shaped_opt : ∀ r : Option Nat, SeqAt.shaped (optD r) = true
  | some d => by
    unfold SeqAt.shaped
    rfl
  | none => by decide
theorem eqv_opt (r : Option Nat) : PyData.eqv (optD r) (optD r) = true := by
  cases r with
  | none => rfl
  | some d =>
    show (((d : Nat) : Int) == ((d : Nat) : Int)) = true
    simp
section
variable {os : List Str} {ps : List (Str × Str)}
theorem pd_uniq {a b : Option Nat} (h1 : IsPD os ps a) (h2 : IsPD os ps b) : a = b := by
  cases a with
  | none =>
    cases b with
    | none => rfl
    | some e =>
      obtain ⟨⟨q, hl, hs⟩, _⟩ := h2
      rw [h1 q hl.perm] at hs
      cases hs
  | some d =>
    obtain ⟨⟨q, hl, hs⟩, hm⟩ := h1
    cases b with
    | none =>
      rw [h2 q hl.perm] at hs
      cases hs
    | some e =>
      obtain ⟨⟨p, gl, gs⟩, gm⟩ := h2
      congr 1
      rcases Nat.lt_trichotomy d e with z | z | z
      · rw [gm d z q hl] at hs
        cases hs
      · exact z
      · rw [hm e z p gl] at gs
        cases gs
theorem pd_nil : IsPD os [] (some 0) := ⟨⟨os, lv_zero, rfl⟩, fun j h => absurd h (Nat.not_lt_zero _)⟩
theorem pd_against {x y : Str} : IsPD os [(x, y), (y, x)] none := fun q _ => by
  unfold stands
  simp only [List.all_cons, List.all_nil, Bool.and_true]
  by_cases z : idx q x < idx q y
  · rw [decide_eq_true z, decide_eq_false (by omega)]
    rfl
  · rw [decide_eq_false z]
    rfl
/-- all pairs of a row -/
def tpairs : List Str → List (Str × Str)
  | [] => []
  | x :: r => (r.map fun y => (x, y)) ++ tpairs r
theorem tpairs_len : ∀ ts : List Str, (tpairs ts).length ≤ ts.length * ts.length
  | [] => Nat.le_refl _
  | x :: r => by
    have := tpairs_len r
    show ((r.map fun y => (x, y)) ++ tpairs r).length ≤ (r.length + 1) * (r.length + 1)
    rw [List.length_append, List.length_map, Nat.succ_mul, Nat.mul_succ]
    omega
theorem tpairs_in : ∀ {ts : List Str}, InPs ts (tpairs ts)
  | [], c, h => nomatch h
  | x :: r, c, h => by
    rcases List.mem_append.mp h with z | z
    · obtain ⟨y, hy, rfl⟩ := List.mem_map.mp z
      exact ⟨List.mem_cons_self, List.mem_cons_of_mem _ hy⟩
    · exact ⟨List.mem_cons_of_mem _ (tpairs_in c z).1, List.mem_cons_of_mem _ (tpairs_in c z).2⟩
theorem inv_tpairs {q : List Str} : ∀ {ts : List Str}, stands q (tpairs ts) = true → inv q ts = 0
  | [], _ => rfl
  | x :: r, h => by
    unfold stands at h
    rw [show tpairs (x :: r) = (r.map fun y => (x, y)) ++ tpairs r from rfl, List.all_append, Bool.and_eq_true] at h
    have ih := inv_tpairs (q := q) (ts := r) h.2
    show r.countP (fun y => bef q y x) + inv q r = 0
    rw [ih, Nat.add_zero, List.countP_eq_zero]
    intro y hy z
    have h1 := of_decide_eq_true (List.all_eq_true.mp h.1 (x, y) (List.mem_map.mpr ⟨y, hy, rfl⟩))
    have h2 : idx q y < idx q x := of_decide_eq_true z
    dsimp only at h1
    omega
theorem stands_self : ∀ {A ts : List Str}, (A ++ ts).Nodup → stands (A ++ ts) (tpairs ts) = true
  | _, [], _ => rfl
  | A, x :: r, hn => by
    have e : A ++ x :: r = (A ++ [x]) ++ r := by simp
    have ih := stands_self (A := A ++ [x]) (ts := r) (by rw [← e]; exact hn)
    rw [← e] at ih
    unfold stands at ih ⊢
    rw [show tpairs (x :: r) = (r.map fun y => (x, y)) ++ tpairs r from rfl, List.all_append, ih, Bool.and_true, List.all_eq_true]
    intro p hp
    obtain ⟨y, hy, rfl⟩ := List.mem_map.mp hp
    refine decide_eq_true ?_
    have h1 := List.nodup_append.mp hn
    have xA : x ∉ A := fun z => h1.2.2 x z x List.mem_cons_self rfl
    have yA : y ∉ A ++ [x] := fun z => by
      rw [e] at hn
      exact (List.nodup_append.mp hn).2.2 y z y hy rfl
    show idx (A ++ x :: r) x < idx (A ++ x :: r) y
    rw [idx_mid xA, e, idx_append_right r yA, List.length_append]
    simp only [List.length_singleton]
    omega
theorem stands_eq {q ts : List Str} (hn : q.Nodup) (hp : ts.Perm q) (h0 : 0 < ts.length) (h : stands q (tpairs ts) = true) : q = ts := by
  have hi := inv_tpairs h
  refine dist_zero hn hp ⟨⟨0, ts.length, h0, Nat.le_refl _, ?_⟩, fun a b _ _ => Nat.zero_le _⟩
  unfold cost
  rw [List.drop_zero, Nat.sub_zero, List.take_of_length_le (Nat.le_refl _), hi]
  omega
theorem pd_target {ts : List Str} {d : Nat} (hn : os.Nodup) (h0 : 0 < os.length) (hp : ts.Perm os) (hd : IsDist os ts d) : IsPD os (tpairs ts) (some d) := by
  have hl := lv_dist hn h0 hp hd
  have htn : ts.Nodup := hp.nodup_iff.mpr hn
  refine ⟨⟨ts, hl, stands_self (A := []) htn⟩, fun j hj q hq => ?_⟩
  cases z : stands q (tpairs ts) with
  | false => rfl
  | true =>
    have e := stands_eq (hq.perm.nodup_iff.mpr hn) (hp.trans hq.perm.symm) (by rw [hp.length_eq]; exact h0) z
    subst e
    have := hl.uniq hq
    omega
end
/-- the numbers of the entries that have the pairs -/
def selE (es : List Ent) (ps : List (Str × Str)) : List Int := (es.filter fun e => stands e.1 ps).map numE
theorem pd_levels {os : List Str} {ps : List (Str × Str)} {es : List Ent} (h1 : ∀ e, e ∈ es → ∃ k : Nat, e.2.2 = .int (k : Nat) ∧ Lv os k e.1) (h2 : ∀ o : List Str, o.Perm os → o ∈ rowsE es) :
    (selE es ps = [] → IsPD os ps none) ∧ ∀ m, m ∈ selE es ps → (∀ y, y ∈ selE es ps → m ≤ y) → ∃ d : Nat, m = (d : Int) ∧ IsPD os ps (some d) := by
  have key : ∀ {q : List Str} {j : Nat}, Lv os j q → stands q ps = true → ((j : Nat) : Int) ∈ selE es ps := fun {q j} hl hs => by
    obtain ⟨e, he, rfl⟩ := List.mem_map.mp (h2 q hl.perm)
    obtain ⟨k, hk, gl⟩ := h1 e he
    have := gl.uniq hl
    subst this
    refine List.mem_map.mpr ⟨e, List.mem_filter.mpr ⟨he, hs⟩, ?_⟩
    unfold numE
    rw [hk]
  refine ⟨fun hz q hp => ?_, fun m hm hle => ?_⟩
  · cases z : stands q ps with
    | false => rfl
    | true =>
      obtain ⟨e, he, rfl⟩ := List.mem_map.mp (h2 q hp)
      obtain ⟨k, hk, gl⟩ := h1 e he
      have := key gl z
      rw [hz] at this
      cases this
  · obtain ⟨e, he, rfl⟩ := List.mem_map.mp hm
    obtain ⟨m1, m2⟩ := List.mem_filter.mp he
    obtain ⟨k, hk, gl⟩ := h1 e m1
    have en : numE e = ((k : Nat) : Int) := by
      unfold numE
      rw [hk]
    refine ⟨k, en, ⟨e.1, gl, m2⟩, fun j hj q hq => ?_⟩
    cases z : stands q ps with
    | false => rfl
    | true =>
      have := hle _ (key hq z)
      rw [en] at this
      omega
/-- a 1 for each pair that stands the other way round -/
def offs (q : List Str) (ps : List (Str × Str)) : List Int := (ps.filter fun p => decide (idx q p.2 < idx q p.1)).map fun _ => 1
theorem offs_len (q : List Str) (ps : List (Str × Str)) : (offs q ps).length ≤ ps.length := by
  unfold offs
  rw [List.length_map]
  exact List.length_filter_le _ _
theorem offs_yes {q : List Str} {ps : List (Str × Str)} {c : Str × Str} (h : idx q c.2 < idx q c.1) : offs q (ps ++ [c]) = offs q ps ++ [1] := by
  unfold offs
  rw [List.filter_append, List.map_append, List.filter_cons, if_pos (decide_eq_true h)]
  rfl
theorem offs_no {q : List Str} {ps : List (Str × Str)} {c : Str × Str} (h : ¬ idx q c.2 < idx q c.1) : offs q (ps ++ [c]) = offs q ps := by
  unfold offs
  rw [List.filter_append, List.map_append, List.filter_cons, if_neg (fun z => h (of_decide_eq_true z)), List.filter_nil, List.map_nil, List.append_nil]
theorem offs_none {q : List Str} {ps : List (Str × Str)} : decide (offs q ps = []) = noneOff q ps := by
  unfold offs noneOff
  rw [decide_eq_decide.mpr (List.map_eq_nil_iff.trans List.filter_eq_nil_iff)]
  rw [Bool.eq_iff_iff, decide_eq_true_eq, List.all_eq_true]
  exact ⟨fun h c hc => by have := h c hc; simpa using this, fun h c hc => by have := h c hc; simpa using this⟩
/-! ### the specs -/
def spHasP (T : List (Addr × Str)) : Sp := fun vs H Q _ => ∃ (o p : Addr) (os : List Str) (as : List Addr) (ps : List (Str × Str)), vs = [.ref o, .ref p] ∧ Tn H o (os.map V.str) ∧ Tn H p (as.map V.ref) ∧ Cmds H as ps ∧ InPs os ps ∧ Tabs T H ∧
  ∀ H', ExtN H H' → Tabs T H' → Q (.bl (stands os ps)) H'
def spDPairs (T : List (Addr × Str)) : Sp := fun vs H Q _ => ∃ (o p : Addr) (os : List Str) (as : List Addr) (ps : List (Str × Str)), vs = [.ref o, .ref p] ∧ Tn H o (os.map V.str) ∧ Tn H p (as.map V.ref) ∧ Cmds H as ps ∧ InPs os ps ∧ os.Nodup ∧ 0 < os.length ∧ os.length ≤ 6 ∧ Tabs T H ∧
  ∀ (r : Option Nat) H', ExtN H H' → Tabs T H' → IsPD os ps r → Q (optV r) H'
/-- _law_stands -/
def spLStands (K : PySem.W.Frag) : Sp := fun vs H Q _ => ∃ (o p : Addr) (os : List Str) (as : List Addr) (ps : List (Str × Str)), vs = [.ref o, .ref p] ∧ Tn H o (os.map V.str) ∧ SqL K H p (as.map V.ref) ∧ Cmds H as ps ∧ InPs os ps ∧ ps.length ≤ 900 ∧
  ∀ H', Same H H' → Q (.bl (noneOff os ps)) H'
theorem But.ext {D : Addr} {H0 H H' : Hp} (h : But D H H') (e : ExtN H0 H) (n : H0 D = none) : ExtN H0 H' := fun b u q nt => h b u (fun z => by rw [z, n] at q; cases q) (e b u q nt)
theorem tabs_but {T : List (Addr × Str)} {P : Program} {w : World} {H H' : Hp} {D : Addr} {es : List Ent} (hT : Tabs T H) (d : Dic P w H D es) (h : But D H H') : Tabs T H' := by
  have k := tabs_updD (x := DicO P w D es) hT d.1
  intro p hp
  obtain ⟨ps, t1, t2, t3⟩ := hT p hp
  have ne : p.1 ≠ D := fun z => by
    rw [z, d.1] at t1
    cases t1
  refine ⟨ps, h _ _ ne t1, t2, fun p' cv hcv => ?_⟩
  obtain ⟨c, e1, e2⟩ := t3 p' cv hcv
  refine ⟨c, e1, h _ _ (fun z => ?_) e2⟩
  rw [z, d.1] at e2
  exact code_dic (Option.some.inj e2).symm
end LS
namespace LS
open PySem L2
theorem tabs3 {A B C : Addr} {q0 q1 q2 : Str} (h1 : A ≠ B) (h2 : A ≠ C) (h3 : B ≠ C) : (A, q0) ∈ [(A, q0), (B, q1), (C, q2)] ∧ (B, q1) ∈ [(A, q0), (B, q1), (C, q2)] ∧ (C, q2) ∈ [(A, q0), (B, q1), (C, q2)] ∧
    (∀ p : Addr × Str, p ∈ [(A, q0), (B, q1), (C, q2)] → p.1 = A → p.2 = q0) ∧ (∀ p : Addr × Str, p ∈ [(A, q0), (B, q1), (C, q2)] → p.1 = B → p.2 = q1) ∧ (∀ p : Addr × Str, p ∈ [(A, q0), (B, q1), (C, q2)] → p.1 = C → p.2 = q2) := by
  have all : ∀ p : Addr × Str, p ∈ [(A, q0), (B, q1), (C, q2)] → p = (A, q0) ∨ p = (B, q1) ∨ p = (C, q2) := fun p hp => by simpa using hp
  refine ⟨by simp, by simp, by simp, fun p hp e => ?_, fun p hp e => ?_, fun p hp e => ?_⟩
  · rcases all p hp with z | z | z
    · rw [z]
    · rw [z] at e; exact absurd e.symm h1
    · rw [z] at e; exact absurd e.symm h2
  · rcases all p hp with z | z | z
    · rw [z] at e; exact absurd e h1
    · rw [z]
    · rw [z] at e; exact absurd e.symm h3
  · rcases all p hp with z | z | z
    · rw [z] at e; exact absurd e h2
    · rw [z] at e; exact absurd e h3
    · rw [z]
end LS
namespace LS
open PySem L2 PySem.Spec PyProof.Rows LamX
theorem pick {os : List Str} (h : 0 < os.length) (z : Int) : ∃ x, x ∈ os ∧ atI (os.map V.str) (z % (((os.map V.str).length : Nat) : Int)) = some (.str x) := by
  obtain ⟨j, _, hj, e⟩ := at_mod (xs := os.map V.str) (z := z) rfl (by rw [List.length_map]; exact h)
  rw [List.getElem_map] at e
  exact ⟨_, List.getElem_mem _, e⟩
theorem ext_unlock {P : Program} {w : World} {H H' : Hp} {D : Addr} {es : List Ent} (d : H D = some (DicO P w D es)) (h : ∀ b u, b ≠ D → H b = some u → (∀ ps, u ≠ .tbl ps) → H' b = some u) : ExtN H (upd H' D (DicO P w D es)) := fun b u q nt => by
  by_cases z : b = D
  · subst z
    rw [upd_same, ← d, q]
  · rw [upd_ne z]
    exact h b u z q nt
def abR : List (Str × Str) := [("a", "b"), ("b", "a")]
theorem selE_succ {es : List Ent} {ps : List (Str × Str)} {j : Nat} {e : Ent} (h : es[j]? = some e) : selE (es.take (j + 1)) ps = selE (es.take j) ps ++ if stands e.1 ps = true then [numE e] else [] := by
  unfold selE
  rw [List.take_add_one, h, List.filter_append, List.map_append, Option.toList_some, List.filter_cons, List.filter_nil]
  split <;> rfl
theorem selE_len (es : List Ent) (ps : List (Str × Str)) : (selE es ps).length ≤ es.length := by
  unfold selE
  rw [List.length_map]
  exact List.length_filter_le _ _
end LS
namespace LS
open PySem L2 PySem.Spec PyProof.Rows LamX
theorem cmds_unlock {H : Hp} {a : Addr} {od : Obj} {x u : HO} (l : H a = some (.frz od x)) (hx : ∀ ys, x ≠ .tup ys) : ∀ {as : List Addr} {cs : List (Str × Str)}, Cmds H as cs → Cmds (upd H a u) as cs
  | [], [], _ => trivial
  | _ :: _, _ :: _, h => ⟨tn_unlock l hx h.1, cmds_unlock l hx h.2⟩
theorem tabs_unlock {T : List (Addr × Str)} {H : Hp} {a : Addr} {od : Obj} {x u : HO} (hT : Tabs T H) (l : H a = some (.frz od x)) : Tabs T (upd H a u) := tabs_upd hT l (fun ps z => by cases z) (fun c q z => by cases z)
theorem Cmds.append {H : Hp} : ∀ {as bs : List Addr} {cs ds : List (Str × Str)}, Cmds H as cs → Cmds H bs ds → Cmds H (as ++ bs) (cs ++ ds)
  | [], _, [], _, _, h => h
  | _ :: _, _, _ :: _, _, h, g => ⟨h.1, Cmds.append h.2 g⟩
end LS
set_option maxHeartbeats 2100000
/-! a tuple of one, times 0 or 1 -/
namespace LS
open PySem L2 PySem.Spec PyProof.Rows
theorem mul_one (l : Addr) (z : Value) (n : Nat) (dd : Option Addr) (sl : Array (Option Value)) (u : Tok) :
    Meets (Builtin.«tuple.__mul__» ⟨[.ref l, .int 1 u], []⟩) (fun _ R s => s.heap.get? l = some { cls := .type "tuple", dict := dd, data := .seq #[z] n, slots := sl } ∧ R (.ok (.ret (Value.ref l))) s) :=
  .of_wp fun prog w A R sh hh => by
    obtain ⟨hp, g, d, tk, os9⟩ := sh
    obtain ⟨hld, h⟩ := hh
    have f1 := AutoSeq1.idx_int
    wp_walk using wpAny_loadPart' hld
    exact ⟨_, rfl, h⟩
theorem mul_none (l : Addr) (z : Value) (n : Nat) (dd : Option Addr) (sl : Array (Option Value)) (u : Tok) :
    Meets (Builtin.«tuple.__mul__» ⟨[.ref l, .int 0 u], []⟩) (fun _ R s => s.heap.get? l = some { cls := .type "tuple", dict := dd, data := .seq #[z] n, slots := sl } ∧
      R (.ok (.ret (Value.ref s.heap.objs.size))) { s with heap := s.heap.push { cls := Value.type "tuple", data := Data.seq #[] }, toks := s.toks }) :=
  .of_wp fun prog w A R sh hh => by
    obtain ⟨hp, g, d, tk, os9⟩ := sh
    obtain ⟨hld, h⟩ := hh
    have f1 := AutoSeq1.idx_int
    wp_walk using wpAny_loadPart' hld
    exact ⟨_, rfl, h⟩
def rRep1 : R2 := fun x y H Q => ∃ (l : Addr) (v : V) (b : Bool), x = .ref l ∧ y = .int (if b = true then 1 else 0) ∧ Tn H l [v] ∧ ∀ p H', Same H H' → Tn H' p (if b = true then [v] else []) → Q (.ref p) H'
theorem op_rep1 {X : Cx} : OpR X (binaryOp .Mult) rRep1 := by
  intro pins s σ H x y v u Q I rx ry ⟨l, v0, b, ex, ey, hT, q⟩
  subst ex ey
  cases rx
  obtain ⟨t, rfl⟩ := ry
  obtain ⟨its, r, ⟨⟨cls, dd, data, sl⟩, ho, hc, n, hd⟩, hs⟩ := I.tuple hT.sq
  simp only at hc hd
  subst hc hd
  obtain ⟨z, rfl, rz⟩ := vals1 r
  cases b with
  | true =>
    refine wpAny_binaryOp_repeat_ref (T := "tuple") (U := "int") (by decide) ⟨_, ho, rfl⟩ (fun s' => typeIs_int s' 1 t) noFill_tuple_mul F.fills_int_mul F.slot_int_rmul repeat_tuple F.slot_int_index.lookup
      (call_meets F.slot_int_rmul (typeIs_int s 1 t) F.entry_int_rmul (F.args_int_rmul_2 _ _) (int_rmul_tuple 1 t l _ n dd sl)
        ⟨ho, rfl, ⟨_, ho, rfl⟩, call_meets F.slot_tuple_mul ⟨_, ho, rfl⟩ F.entry_tuple_mul (F.args_tuple_mul_2 _ _) (mul_one l z n dd sl t) ⟨ho, ?_⟩⟩)
    exact ⟨.ref l, H, I, rfl, q l H (Same.refl H) hT⟩
  | false =>
    refine wpAny_binaryOp_repeat_ref (T := "tuple") (U := "int") (by decide) ⟨_, ho, rfl⟩ (fun s' => typeIs_int s' 0 t) noFill_tuple_mul F.fills_int_mul F.slot_int_rmul repeat_tuple F.slot_int_index.lookup
      (call_meets F.slot_int_rmul (typeIs_int s 0 t) F.entry_int_rmul (F.args_int_rmul_2 _ _) (int_rmul_tuple 0 t l _ n dd sl)
        ⟨ho, rfl, ⟨_, ho, rfl⟩, call_meets F.slot_tuple_mul ⟨_, ho, rfl⟩ F.entry_tuple_mul (F.args_tuple_mul_2 _ _) (mul_none l z n dd sl t) ⟨ho, ?_⟩⟩)
    have nf : H s.heap.objs.size = none := I.hok.fresh (Nat.le_refl _)
    exact ⟨.ref s.heap.objs.size, _, I.laid (t' := s.toks) (o := .frz (tupOb []) (.tup [])) (fun b ob q => Heap.get?_push_of_some _ q) (Nat.le_refl _) (ok_tup (Heap.get?_push_size _ rfl) (Nat.zero_le _) .nil), rfl, q _ _ (same_new nf) Tn.new⟩
end LS
/-! commands and scripts that are checked; plans have no idle command -/
namespace LS
open PySem L2 PySem.Spec PyProof.Rows LamX
def genQs : Str := ("is_script" : Str) ++ ".<locals>." ++ "<genexpr>"
/-- the module's name x holds the whole number i -/
def IntAt (mg : Str → Option Value) (x : Str) (i : Int) : Prop := ∃ t, mg x = some (.int i t)
def intB (x : Str) (i : Int) (K : PySem.W.Frag) : Bool := He.Fa.ok K (.int x i)
theorem intAt_of {K : PySem.W.Frag} {h : Heap} {mg : Str → Option Value} {x : Str} {i : Int} (X : K.In h) (G : h.Ns mainGlobals mg) (c : intB x i K = true) : IntAt mg x i := He.int_ok X G c
/-- the tables of two defs are two -/
def twoB (a b : He.Defn) (K : PySem.W.Frag) : Bool := decide ((He.cT K a).2 ≠ (He.cT K b).2)
theorem two_of {a b : He.Defn} {K : PySem.W.Frag} (c : twoB a b K = true) : (He.cT K a).2 ≠ (He.cT K b).2 := of_decide_eq_true c
theorem and1 {a b : Bool} (h : (a && b) = true) : a = true := (Bool.and_eq_true _ _ ▸ h).1
theorem and2 {a b : Bool} (h : (a && b) = true) : b = true := (Bool.and_eq_true _ _ ▸ h).2
section
variable {X : Cx}
theorem pe_gint {x : Str} {i : Int} {pos : Pos} (hg : Gl X x) (h : IntAt X.mg x i) (hd : (x == ("__debug__" : Str)) = false := by decide) : PE X (.Name x pos) (tC (.int i)) := by
  obtain ⟨t, e⟩ := h; exact pe_glob hg e ⟨t, rfl⟩ hd
end
def spIsCmd : Sp := fun vs H Q _ => ∃ (o c : Addr) (os : List Str) (wd ly : Str), vs = [.ref o, .ref c] ∧ Tn H o (os.map V.str) ∧ Tn H c [.str wd, .str ly] ∧ Q (.bl (decide (wd ∈ fourWords) && decide (ly ∈ os))) H
def spIsScr (K : PySem.W.Frag) (T : List (Addr × Str)) : Sp := fun vs H Q _ => ∃ (o p : Addr) (os : List Str) (as : List Addr) (cs : List (Str × Str)), vs = [.ref o, .ref p] ∧ Tn H o (os.map V.str) ∧ Tn H p (as.map V.ref) ∧ Cmds H as cs ∧ GoodCs os cs ∧ cs.length ≤ 60 ∧ Tabs T H ∧
  ∀ H', ExtN H H' → Tabs T H' → Q (.bl true) H'
theorem idl_none {o t : List Str} {cs : List (Str × Str)} (hn : o.Nodup) (h0 : 0 < t.length) (hp : t.Perm o) (hg : ∀ c, c ∈ cs → c.2 ∈ o) (hr : cs.foldl moved o = t) (hd : IsDist o t cs.length) : ∀ i, i ≤ cs.length → idl o cs i = []
  | 0, _ => rfl
  | i + 1, hi => by
    obtain ⟨d1, h1⟩ := dist_ex (runTo o cs (i + 1)) h0
    obtain ⟨d2, h2⟩ := dist_ex (runTo o cs i) h0
    have v1 := dist_along hn h0 hp hg hr hd rfl hi h1
    have v2 := dist_along hn h0 hp hg hr hd rfl (by omega) h2
    rw [idl_no fun z => ?_, idl_none hn h0 hp hg hr hd i (by omega)]
    rw [z] at h1
    have := dist_uniq h1 h2
    omega
/-- a tuple of pairs of texts as data -/
def trows (L : List (List Str)) : PyData := .tuple (rowsD L)
theorem shaped_trows {L : List (List Str)} (h : ∀ o, o ∈ L → StrsOk o) : SeqAt.shaped (trows L) = true := by
  unfold SeqAt.shaped trows
  have := depth_rows L
  rw [show PyData.canLay0 (.tuple (rowsD L)) = true from lay_rows h, decide_eq_true (by simp only [PyData.depth]; omega)]
  rfl
theorem eqv_trows (L M : List (List Str)) : PyData.eqv (trows L) (trows M) = decide (L = M) := eqvAll_rows L M
theorem dp_trows {K : PySem.W.Frag} {H : Hp} {p : Addr} {as : List Addr} {L : List (List Str)} (h : SqT K H p (as.map V.ref)) (hT : Tups H as L) : Dp K H (.ref p) (trows L) := .tup h (dp_rows hT)
def abcd : List Str := ["a", "b", "c", "d"]
def dabc : List Str := ["d", "a", "b", "c"]
def frontD : Str × Str := ("front", "d")
theorem abcd_plan {cs : List (Str × Str)} (hg : GoodCs abcd cs) (hr : cs.foldl moved abcd = dabc) (hd : IsDist abcd dabc cs.length) : cs = [frontD] := by
  have e1 : [frontD].foldl moved abcd = dabc := by decide +kernel
  have l1 : cs.length ≤ 1 := dist_least (cs := [frontD]) (o := abcd) (by decide +kernel) (by decide) (fun c hc => by rw [List.mem_singleton.mp hc]; decide +kernel) e1 hd
  match cs, hg, hr, l1 with
  | [], _, hr, _ =>
    have hr' : abcd = dabc := hr
    exact absurd hr' (by decide +kernel)
  | [c], hg, hr, _ =>
    obtain ⟨g1, g2⟩ := hg c List.mem_cons_self
    have all : ∀ x, x ∈ fourWords → ∀ y, y ∈ abcd → moved abcd (x, y) = dabc → (x, y) = frontD := by decide +kernel
    have z := all c.1 g1 c.2 g2 hr
    rw [show c = (c.1, c.2) from rfl, z]
  | _ :: _ :: _, _, _, l1 =>
    simp at l1
end LS
set_option maxHeartbeats 2100000
/-! scripts of front and back: their last commands -/
namespace LS
open PySem L2 PySem.Spec PyProof.Rows
def twoW : List Str := ["front", "back"]
theorem two_cases {w : Str} (h : w ∈ twoW) : w = "front" ∨ w = "back" := by
  simpa [twoW] using h
def nfS (p : List Str × List Str) (c : Str × Str) : List Str × List Str := if c.2 ∈ p.1 ++ p.2 then p else if c.1 = "front" then (p.1 ++ [c.2], p.2) else (p.1, c.2 :: p.2)
def nfTo (cs : List (Str × Str)) (i : Nat) : List Str × List Str := (cs.reverse.take i).foldl nfS ([], [])
def nf (cs : List (Str × Str)) : List Str × List Str := cs.foldr (fun c p => nfS p c) ([], [])
theorem nfTo_all (cs : List (Str × Str)) : nfTo cs cs.length = nf cs := by
  unfold nfTo nf
  rw [List.take_of_length_le (by rw [List.length_reverse]; exact Nat.le_refl _), List.foldl_reverse]
theorem nfTo_succ {cs : List (Str × Str)} {i : Nat} {c : Str × Str} (h : cs.reverse[i]? = some c) : nfTo cs (i + 1) = nfS (nfTo cs i) c := by
  unfold nfTo
  rw [List.take_add_one, h, List.foldl_append]; rfl
theorem nfS_len (p : List Str × List Str) (c : Str × Str) : (nfS p c).1.length + (nfS p c).2.length ≤ p.1.length + p.2.length + 1 := by
  unfold nfS
  split
  · omega
  · split
    · rw [List.length_append]; show p.1.length + 1 + p.2.length ≤ _; omega
    · show p.1.length + (p.2.length + 1) ≤ _; omega
theorem nfTo_len (cs : List (Str × Str)) : ∀ i, i ≤ cs.length → (nfTo cs i).1.length + (nfTo cs i).2.length ≤ i
  | 0, _ => Nat.le_refl _
  | i + 1, h => by
    have e : cs.reverse[i]? = some (cs.reverse[i]'(by rw [List.length_reverse]; omega)) := List.getElem?_eq_getElem _
    rw [nfTo_succ e]
    have := nfS_len (nfTo cs i) (cs.reverse[i]'(by rw [List.length_reverse]; omega))
    have := nfTo_len cs i (by omega)
    omega
theorem nf_len (cs : List (Str × Str)) : (nf cs).1.length + (nf cs).2.length ≤ cs.length := by
  have := nfTo_len cs cs.length (Nat.le_refl _)
  rw [nfTo_all] at this
  exact this
theorem nfS_nd {p : List Str × List Str} {c : Str × Str} (h : (p.1 ++ p.2).Nodup) : ((nfS p c).1 ++ (nfS p c).2).Nodup := by
  unfold nfS
  split
  · exact h
  · rename_i hc
    have : (c.2 :: (p.1 ++ p.2)).Nodup := List.nodup_cons.mpr ⟨hc, h⟩
    split
    · refine (List.Perm.nodup_iff ?_).mpr this
      show ((p.1 ++ [c.2]) ++ p.2).Perm _
      rw [List.append_assoc]
      exact List.perm_middle
    · exact (List.Perm.nodup_iff List.perm_middle).mpr this
theorem nfS_mem {p : List Str × List Str} {c : Str × Str} {x : Str} : x ∈ (nfS p c).1 ++ (nfS p c).2 ↔ x = c.2 ∨ x ∈ p.1 ++ p.2 := by
  unfold nfS
  split
  · rename_i hc
    exact ⟨.inr, fun h => h.elim (fun e => e ▸ hc) id⟩
  · split
    · show x ∈ (p.1 ++ [c.2]) ++ p.2 ↔ _
      simp only [List.mem_append, List.mem_cons, List.not_mem_nil, or_false]
      constructor
      · rintro ((h | h) | h)
        · exact .inr (.inl h)
        · exact .inl h
        · exact .inr (.inr h)
      · rintro (h | h | h)
        · exact .inl (.inr h)
        · exact .inl (.inl h)
        · exact .inr h
    · show x ∈ p.1 ++ c.2 :: p.2 ↔ _
      simp only [List.mem_append, List.mem_cons]
      constructor
      · rintro (h | h | h)
        · exact .inr (.inl h)
        · exact .inl h
        · exact .inr (.inr h)
      · rintro (h | h | h)
        · exact .inr (.inl h)
        · exact .inl h
        · exact .inr (.inr h)
theorem nf_nd : ∀ cs : List (Str × Str), ((nf cs).1 ++ (nf cs).2).Nodup
  | [] => List.nodup_nil
  | _ :: cs => nfS_nd (nf_nd cs)
theorem nf_mem {x : Str} : ∀ {cs : List (Str × Str)}, x ∈ (nf cs).1 ++ (nf cs).2 → ∃ c, c ∈ cs ∧ c.2 = x
  | [], h => by cases h
  | c :: cs, h => by
    rcases nfS_mem.mp h with e | e
    · exact ⟨c, List.mem_cons_self, e.symm⟩
    · obtain ⟨d, h1, h2⟩ := nf_mem (cs := cs) e
      exact ⟨d, List.mem_cons_of_mem _ h1, h2⟩
/-- the front layers, the others in their order, the back layers -/
def midF (p : List Str × List Str) (o : List Str) : List Str := o.filter fun x => !decide (x ∈ p.1 ++ p.2)
def resF (p : List Str × List Str) (o : List Str) : List Str := p.1 ++ midF p o ++ p.2
theorem mid_out {o : List Str} {l : Str} {q : Str → Bool} (hn : o.Nodup) (hl : l ∈ o) (h : q l = false) : (outOf o l).filter q = o.filter q := by
  rw [outF hn hl, List.filter_filter]
  refine List.filter_congr fun x9 _ => ?_
  by_cases e : x9 = l
  · rw [e, h]
    rfl
  · rw [decide_eq_false e]
    show (q x9 && true) = q x9
    rw [Bool.and_true]
theorem run_nf : ∀ {cs : List (Str × Str)} {o : List Str}, o.Nodup → (∀ c, c ∈ cs → c.1 ∈ twoW ∧ c.2 ∈ o) → runA o cs = resF (nf cs) o
  | [], o, _, _ => by
    show o = [] ++ o.filter (fun x => !decide (x ∈ ([] : List Str) ++ [])) ++ []
    rw [List.nil_append, List.append_nil]
    refine (List.filter_eq_self.mpr fun x _ => ?_).symm
    rfl
  | c :: cs, o, hn, hc => by
    obtain ⟨w1, c2⟩ := hc c List.mem_cons_self
    have ih := run_nf (cs := cs) (o := moved o c) (mv_nd hn c2) fun d hd => ⟨(hc d (List.mem_cons_of_mem _ hd)).1, mv_mem c2 (hc d (List.mem_cons_of_mem _ hd)).2⟩
    show runA (moved o c) cs = resF (nfS (nf cs) c) o
    rw [ih]
    obtain ⟨w, l⟩ := c
    dsimp only at w1 c2
    generalize nf cs = p
    obtain ⟨Fr, Bk⟩ := p
    unfold nfS resF midF
    dsimp only
    have key : ∀ q : Str → Bool, q l = true → (outOf o l).filter q = o.filter fun x => !decide (x = l) && q x := fun q _ => by
      rw [outF hn c2, List.filter_filter]
      exact List.filter_congr fun x _ => Bool.and_comm _ _
    rcases two_cases w1 with rfl | rfl
    · rw [front_eq, List.filter_cons]
      by_cases hm : l ∈ Fr ++ Bk
      · rw [if_pos hm, if_neg (by rw [decide_eq_true hm]; decide), mid_out hn c2 (by rw [decide_eq_true hm]; rfl)]
      · rw [if_neg hm, if_pos rfl, if_pos (by rw [decide_eq_false hm]; rfl), key _ (by rw [decide_eq_false hm]; rfl)]
        dsimp only
        rw [List.append_assoc, List.append_assoc, List.append_assoc]; congr 1
        show l :: ((o.filter _) ++ Bk) = l :: ((o.filter _) ++ Bk)
        congr 2
        refine List.filter_congr fun x9 _ => ?_
        rw [Bool.eq_iff_iff]
        simp [not_or]
        exact ⟨fun h => ⟨h.2.1, h.1, h.2.2⟩, fun h => ⟨h.2.1, h.1, h.2.2⟩⟩
    · rw [back_eq, List.filter_append]
      by_cases hm : l ∈ Fr ++ Bk
      · rw [if_pos hm, List.filter_cons, if_neg (by rw [decide_eq_true hm]; decide), mid_out hn c2 (by rw [decide_eq_true hm]; rfl), List.filter_nil, List.append_nil]
      · rw [if_neg hm, if_neg (by decide +kernel), List.filter_cons, if_pos (by rw [decide_eq_false hm]; rfl), List.filter_nil, key _ (by rw [decide_eq_false hm]; rfl)]
        dsimp only
        rw [List.append_assoc, List.append_assoc, List.append_assoc]; congr 1
        show (o.filter _) ++ (l :: Bk) = (o.filter _) ++ (l :: Bk)
        congr 1
        refine List.filter_congr fun x9 _ => ?_
        rw [Bool.eq_iff_iff]
        simp [not_or]
        exact ⟨fun h => ⟨h.2.1, h.1, h.2.2⟩, fun h => ⟨h.2.1, h.1, h.2.2⟩⟩
section
variable {os : List Str} {p q : List Str × List Str}
abbrev GoodE (os : List Str) (cs : List (Str × Str)) : Prop := ∀ c, c ∈ cs → c.1 ∈ twoW ∧ c.2 ∈ os
theorem GoodE.perm {o : List Str} {cs : List (Str × Str)} (h : GoodE os cs) (pm : o.Perm os) : GoodE o cs := fun c hc => ⟨(h c hc).1, pm.mem_iff.mpr (h c hc).2⟩
theorem nf_sum {cs : List (Str × Str)} (hn : os.Nodup) (h : GoodE os cs) : (nf cs).1.length + (midF (nf cs) os).length + (nf cs).2.length = os.length := by
  have := (runA_perm fun c hc => (h c hc).2 : (runA os cs).Perm os).length_eq
  rw [run_nf hn h] at this
  unfold resF at this
  rw [List.length_append, List.length_append] at this
  exact this
theorem two_mid (hn : os.Nodup) (h : 2 ≤ (midF p os).length) : ∃ x y, x ≠ y ∧ (x ∈ os ∧ x ∉ p.1 ++ p.2) ∧ y ∈ os ∧ y ∉ p.1 ++ p.2 := by
  have nd : (midF p os).Nodup := hn.filter _
  have mm : ∀ z, z ∈ midF p os → z ∈ os ∧ z ∉ p.1 ++ p.2 := fun z hz => by
    obtain ⟨h1, h2⟩ := List.mem_filter.mp hz
    exact ⟨h1, fun e => by rw [decide_eq_true e] at h2; cases h2⟩
  match e : midF p os, h with
  | x :: y :: r, _ =>
    rw [e] at nd mm
    refine ⟨x, y, fun z => ?_, mm x List.mem_cons_self, mm y (List.mem_cons_of_mem _ List.mem_cons_self)⟩
    rw [z] at nd
    exact (List.nodup_cons.mp nd).1 List.mem_cons_self
theorem res_front {z : Str} (hz : z ∉ p.1 ++ p.2) : (resF p (moved os ("front", z)))[p.1.length]? = some z := by
  unfold resF midF
  rw [front_eq, List.filter_cons, if_pos (by rw [decide_eq_false hz]; rfl), List.append_assoc, List.getElem?_append_right (Nat.le_refl _), Nat.sub_self]
  rfl
theorem res_back {z : Str} (hz : z ∉ p.1 ++ p.2) : (resF p (moved os ("back", z))).reverse[p.2.length]? = some z := by
  unfold resF midF
  rw [back_eq, List.filter_append, List.filter_cons, if_pos (by rw [decide_eq_false hz]; rfl), List.reverse_append, List.reverse_append, List.reverse_append, List.getElem?_append_right (by rw [List.length_reverse]; exact Nat.le_refl _), List.length_reverse, Nat.sub_self]
  rfl
theorem res_le (hn : os.Nodup) (h2 : 2 ≤ (midF p os).length) (he : ∀ o : List Str, o.Perm os → resF p o = resF q o) : q.1.length ≤ p.1.length ∧ q.2.length ≤ p.2.length := by
  obtain ⟨x, y, ne, ⟨hx, nx⟩, hy, ny⟩ := two_mid hn h2
  constructor
  · refine Nat.le_of_not_lt fun lt => ne ?_
    have g : ∀ z, z ∈ os → z ∉ p.1 ++ p.2 → q.1[p.1.length]? = some z := fun z hz nz => by
      have := res_front (os := os) nz
      rw [he _ (moved_perm hz)] at this
      unfold resF at this
      rw [List.append_assoc, List.getElem?_append_left lt] at this
      exact this
    exact Option.some.inj ((g x hx nx).symm.trans (g y hy ny))
  · refine Nat.le_of_not_lt fun lt => ne ?_
    have g : ∀ z, z ∈ os → z ∉ p.1 ++ p.2 → q.2.reverse[p.2.length]? = some z := fun z hz nz => by
      have := res_back (os := os) nz
      rw [he _ (moved_perm hz)] at this
      unfold resF at this
      rw [List.reverse_append, List.getElem?_append_left (by rw [List.length_reverse]; exact lt)] at this
      exact this
    exact Option.some.inj ((g x hx nx).symm.trans (g y hy ny))
theorem res_inj (hn : os.Nodup) (hp : p.1.length + (midF p os).length + p.2.length = os.length) (hq : q.1.length + (midF q os).length + q.2.length = os.length) (h2 : 2 ≤ (midF p os).length) (he : ∀ o : List Str, o.Perm os → resF p o = resF q o) : p = q := by
  obtain ⟨l1, l2⟩ := res_le hn h2 he
  obtain ⟨l3, l4⟩ := res_le (p := q) (q := p) hn (by omega) fun o ho => (he o ho).symm
  have e := he os (.refl _)
  unfold resF at e
  rw [List.append_assoc,
    List.append_assoc] at e
  obtain ⟨e1, e2⟩ := List.append_inj e (by omega)
  exact Prod.ext e1 (List.append_inj_right' e2 (by omega))
theorem mid_const (h : (midF p os).length ≤ 1) {o : List Str} (ho : o.Perm os) : midF p o = midF p os := by
  have pm : (midF p o).Perm (midF p os) := ho.filter _
  match e : midF p os, h with
  | [], _ => rw [e] at pm; exact List.perm_nil.mp pm
  | [x], _ => rw [e] at pm; exact List.perm_singleton.mp pm
theorem res_const (h : (midF p os).length ≤ 1) {o : List Str} (ho : o.Perm os) : resF p o = resF p os := by
  unfold resF
  rw [mid_const h ho]
theorem eq_nf {cs ds : List (Str × Str)} (hn : os.Nodup) (hc : GoodE os cs) (hd : GoodE os ds) :
    eqAll os cs ds = (decide (nf cs = nf ds) || (decide ((midF (nf cs) os).length ≤ 1 ∧ (midF (nf ds) os).length ≤ 1) && decide (runA os cs = runA os ds))) := by
  rw [Bool.eq_iff_iff, eqAll_iff hn, Bool.or_eq_true, Bool.and_eq_true, decide_eq_true_iff, decide_eq_true_iff, decide_eq_true_iff]
  have rc : ∀ o : List Str, o.Perm os → runA o cs = resF (nf cs) o := fun o ho => run_nf (ho.nodup_iff.mpr hn) (hc.perm ho)
  have rd : ∀ o : List Str, o.Perm os → runA o ds = resF (nf ds) o := fun o ho => run_nf (ho.nodup_iff.mpr hn) (hd.perm ho)
  constructor
  · intro h
    have hr : ∀ o : List Str, o.Perm os → resF (nf cs) o = resF (nf ds) o := fun o ho => by
      rw [← rc o ho, ← rd o ho]
      exact h o ho
    by_cases e : nf cs = nf ds
    · exact .inl e
    · refine .inr ⟨⟨Nat.le_of_not_lt fun lt => e ?_, Nat.le_of_not_lt fun lt => e ?_⟩, h os (.refl _)⟩
      · exact res_inj hn (nf_sum hn hc) (nf_sum hn hd) lt hr
      · exact (res_inj hn (nf_sum hn hd) (nf_sum hn hc) lt fun o ho => (hr o ho).symm).symm
  · rintro (e | ⟨⟨f1, f2⟩, e⟩) o ho
    · rw [rc o ho, rd o ho, e]
    · rw [rc o ho, rd o ho, res_const f1 ho, res_const f2 ho, ← rc os (.refl _), ← rd os (.refl _)]
      exact e
end
/-! ### what the defs promise -/
def spNf (K : PySem.W.Frag) : Sp := fun vs H Q _ => ∃ (p : Addr) (cs : List (Str × Str)), vs = [.ref p] ∧ Scr K H p cs ∧ cs.length ≤ 100 ∧
  ∀ (r f b : Addr) H', Same H H' → Tn H' r [.ref f, .ref b] → Tn H' f ((nf cs).1.map V.str) → Tn H' b ((nf cs).2.map V.str) → Q (.ref r) H'
def spForm : Sp := fun vs H Q _ => ∃ (p : Addr) (cs : List (Str × Str)), vs = [.ref p] ∧ ScrN H p cs ∧ cs.length ≤ 100 ∧ (∀ c, c ∈ cs → c.1 ∈ twoW) ∧
  ∀ (r f b : Addr) H', Same H H' → Tn H' r [.ref f, .ref b] → Tn H' f ((nf cs).1.map V.str) → Tn H' b ((nf cs).2.map V.str) → Q (.ref r) H'
def spEnds (K : PySem.W.Frag) : Sp := fun vs H Q _ => ∃ (d o : Addr) (n : Nat) (ds : List Int) (os : List Str), vs = [.ref d, .ref o, .int (n : Int)] ∧ SqL K H d (ds.map V.int) ∧ SqT K H o (os.map V.str) ∧ 1 + 2 * n ≤ ds.length ∧ n ≤ 100 ∧ os ≠ [] ∧
  ∀ (cs : List (Str × Str)) p H', Same H H' → ScrN H' p cs → cs.length ≤ n → GoodE os cs → Q (.ref p) H'
theorem at_two (z : Int) : ∃ v : Str, atI [V.str "front", V.str "back"] (z % 2) = some (.str v) ∧ v ∈ twoW := by
  have h0 := Int.emod_nonneg z (show (2 : Int) ≠ 0 by decide)
  have h1 := Int.emod_lt_of_pos z (show (0 : Int) < 2 by decide)
  rcases (show z % 2 = 0 ∨ z % 2 = 1 by omega) with e | e
  · rw [e]
    exact ⟨"front", rfl, List.mem_cons_self⟩
  · rw [e]
    exact ⟨"back", rfl, List.mem_cons_of_mem _ List.mem_cons_self⟩
theorem setK_nf {P : Program} {w : World} {a : Addr} {S : Key → Bool} {n : Nat} : ∀ ob o, SetK P w a S n ≠ .frz ob o := by
  intro ob o z
  unfold SetK at z
  cases z
def rLenK (K : PySem.W.Frag) : List V → Hp → VK → Prop := fun xs H Q => ∃ p ys, xs = [.ref p] ∧ (SqL K H p ys ∨ SqT K H p ys) ∧ Q (.int ys.length) H
theorem call_lenK {X : Cx} {K : PySem.W.Frag} (hK : X.K = K) : CallR X (.builtin "len") (rLenK K) := by
  subst hK
  exact call_len_seq
/-- at r the two tuples of a form -/
def FormAt (H : Hp) (r : Addr) (p : List Str × List Str) : Prop := ∃ f b : Addr, Tn H r [.ref f, .ref b] ∧ Tn H f (p.1.map V.str) ∧ Tn H b (p.2.map V.str)
theorem FormAt.same {H H' : Hp} {r : Addr} {p : List Str × List Str} (h : FormAt H r p) (e : Same H H') : FormAt H' r p := by
  obtain ⟨f, b, h1, h2, h3⟩ := h
  exact ⟨f, b, h1.same e, h2.same e, h3.same e⟩
def formD (p : List Str × List Str) : PyData := trows [p.1, p.2]
theorem FormAt.dp {K : PySem.W.Frag} {H : Hp} {r : Addr} {p : List Str × List Str} (h : FormAt H r p) : Dp K H (.ref r) (formD p) := by
  obtain ⟨f, b, h1, h2, h3⟩ := h
  exact dp_trows (as := [f, b]) h1.sq ⟨h2, h3, trivial⟩
theorem shaped_form {os : List Str} {cs : List (Str × Str)} (oks : StrsOk os) (h : GoodE os cs) : SeqAt.shaped (formD (nf cs)) = true := by
  have key : ∀ z, z ∈ (nf cs).1 ++ (nf cs).2 → PyData.strOk z = true := fun z hz => by
    obtain ⟨c, h1, rfl⟩ := nf_mem hz
    exact oks _ (h c h1).2
  refine shaped_trows fun o ho z hz => ?_
  rcases List.mem_cons.mp ho with rfl | ho
  · exact key z (List.mem_append_left _ hz)
  · rw [List.mem_singleton.mp ho] at hz
    exact key z (List.mem_append_right _ hz)
theorem eqv_form (p q : List Str × List Str) : PyData.eqv (formD p) (formD q) = decide (p = q) := by
  unfold formD
  rw [eqv_trows, decide_eq_decide]
  constructor
  · intro e
    rw [List.cons.injEq, List.cons.injEq] at e
    exact Prod.ext e.1 e.2.1
  · intro e
    rw [e]
def GoodX (H : Hp) (os : List Str) (x : V) : Prop := ∃ (p : Addr) (ds : List (Str × Str)), x = .ref p ∧ ScrN H p ds ∧ ds.length ≤ 30 ∧ GoodE os ds
def alikeB (os : List Str) (cs ds : List (Str × Str)) : Bool := decide ((midF (nf cs) os).length ≤ 1 ∧ (midF (nf ds) os).length ≤ 1) && decide (runA os cs = runA os ds)
theorem eq_nfB {os : List Str} {cs ds : List (Str × Str)} (hn : os.Nodup) (hc : GoodE os cs) (hd : GoodE os ds) : eqAll os cs ds = (decide (nf cs = nf ds) || alikeB os cs ds) := eq_nf hn hc hd
def steps4 : List (Str × Str) := [("front", "a"), ("back", "b"), ("front", "c"), ("back", "a")]
def form4 : List Str × List Str := (["c"], ["b", "a"])
theorem nf4 : nf steps4 = form4 := by decide +kernel
theorem diff_nil (os : List Str) (cs ds : List (Str × Str)) : decide ((((ords os).filter (diffs cs ds)).map fun _ => (1 : Int)) = []) = eqAll os cs ds := by
  rw [← filter_eqAll, decide_eq_decide]
  exact List.map_eq_nil_iff
end LS
/-! len(set(t)), t a tuple of texts -/
namespace LS
open PySem L2 PySem.Spec PyProof.Rows
section
variable {prog : Program} {w : World} {s : Shared} {A : Around} {E : Value → Shared → Prop}
set_option maxHeartbeats 3000000 in
theorem set_of_tup {l : Addr} {items : Array Value} {xs : List Str} {Q : Value → Shared → Prop} (hh : A.handled = none) (hl : s.heap.IsTuple l items) (hi : StrsAre items.toList xs) (hb : xs.length + 1 < scanBound)
    (h : ∀ (g : Heap) (tk : Nat), g.SetOf (PySem.strKind prog w) s.heap.objs.size (fun z => (xs.take xs.length).any (· == z)) (dis xs xs.length) → (∀ b o, b < s.heap.objs.size → s.heap.get? b = some o → g.get? b = some o) → Q (.ref s.heap.objs.size) { s with heap := g, toks := tk }) :
    wpAny (model prog w) A (call (.type "set") [Value.ref l]) Q E s := by
  have hsz : xs.length = items.size := (StrsAre.len_eq hi).symm.trans Array.length_toList
  obtain ⟨_, _, hmro⟩ := PySem.F.called_set.mro
  have mad := PySem.F.called_set.made; have sbt := PySem.F.called_set.sub
  have notT := PySem.F.called_set.notType
  have canC := PySem.F.called_set.canCreate
  have okC := PySem.F.typeCall_set_1 (.ref l)
  refine wpAny_call (codeAny_of_tree (show wpAny _ _ (callAny (.type "set") _) _ _ _ from wpAny_pure ⟨Code.quiet_builtin _ (by decide +kernel), codeAny_builtin PySem.F.entry_type_call ?_⟩))
  rw [Around.under_plain (weight_type_call_type "set" [Value.ref l] []) rfl]
  repeat (any_goals (first | wp_step | assumption))
  refine codeAny_mono (code_set_new_1 (.ref l) (E := E) (Q₁ := fun v g => ∃ led : Bool, v = .ref s.heap.objs.size ∧ g = { s with heap := s.heap.push (setOb led) }) fun led => ⟨led, rfl, rfl⟩) fun r s1 hr => ?_
  match r, hr with
  | .error e, hr => exact hr
  | .ok .next, hr => exact hr.elim
  | .ok .brk, hr => exact hr.elim
  | .ok .cont, hr => exact hr.elim
  | .ok (.ret v), ⟨led, ev, es⟩ =>
    subst ev es
    have gS : (s.heap.push (setOb led)).get? s.heap.objs.size = some (setOb led) := Heap.get?_push_size _ rfl
    have tS : Shared.TypeIs { s with heap := s.heap.push (setOb led) } (.ref s.heap.objs.size) "set" := ⟨_, gS, rfl⟩
    have look := PySem.F.called_set.init.lookup
    have bnd := PySem.F.called_set.init.bind (.ref s.heap.objs.size)
    repeat (any_goals (first | wp_step | assumption))
    refine codeAny_mono (codeAny_call_builtin (R := wants (fun r g => r = .none ∧ ∃ (h2 : Heap) (tk : Nat), g = { s with heap := h2, toks := tk } ∧ h2.SetOf (PySem.strKind prog w) s.heap.objs.size (fun z => (xs.take xs.length).any (· == z)) (dis xs xs.length) ∧ ∀ b o, b < s.heap.objs.size → s.heap.get? b = some o → h2.get? b = some o) E) PySem.F.called_set.init.plain PySem.F.entry_set_init (check_set_init_1 tS ?_)) fun r2 s2 hr2 => ?_
    · obtain ⟨ol, gl, cl, nl, dl⟩ := hl
      obtain ⟨c0, d0, x0, sl0⟩ := ol
      replace cl : c0 = .type "tuple" := cl
      replace dl : x0 = .seq items nl := dl
      subst cl dl
      have gl1 : (s.heap.push (setOb led)).get? l = some { cls := .type "tuple", dict := d0, data := .seq items nl, slots := sl0 } := Heap.get?_push_of_some _ gl
      have f1 := PySem.F.sub_tuple_set
      have f2 := PySem.F.sub_tuple_frozenset
      have f3 : (Value.type "tuple" == Value.type "dict") = false := by decide
      have il1 : (s.heap.push (setOb led)).IsTuple l items := ⟨_, gl1, rfl, nl, rfl⟩
      unfold Builtin.«set.__init__» noKeywords Builtin.Frozenset.updateFrom; generalize hPI : pyIter = PI
      wp_walk
      subst hPI
      refine wpAny_pyIter_tuple il1 (wpAny_bind (wpAny_runValue ?_))
      have lS : l < s.heap.objs.size := Heap.lt_size gl
      have sz1 : (s.heap.push (setOb led)).objs.size = s.heap.objs.size + 1 := Heap.size_push ..
      have ne1 : l ≠ (s.heap.push (setOb led)).objs.size := by rw [sz1]; exact Nat.ne_of_lt (Nat.lt_succ_of_lt lS)
      have nfp : s.heap.objs.size ∉ [(s.heap.push (setOb led)).objs.size, l] := by
        rw [sz1]
        intro z
        rcases List.mem_cons.mp z with z0 | z
        · exact absurd z0 (Nat.ne_of_lt (Nat.lt_succ_self _))
        · exact absurd (List.mem_singleton.mp z) (Nat.ne_of_gt lS)
      refine set_turns ((Walks.tuple (show A.in1.in1.in1.handled = none by simp [hh]) _ l ne1 items).toS) nfp hsz (by omega) (fun i v hv => SS.strs_at hi i v (by rw [Array.getElem?_toList]; exact hv)) items.size 0 _ (Nat.sub_zero _) (Nat.zero_le _) ⟨⟨_, Heap.get?_push_size _ rfl, rfl, rfl⟩, il1.push _⟩ ?_ ?_
      · exact SetOf_congr ((PyProof.Rows.setObjOf_fresh (knd := PySem.strKind prog w) led).setOf (Heap.get?_push_of_some _ gS) (by unfold scanBound; omega)) (fun _ => rfl) rfl
      · intro s3 hm hS3
        obtain ⟨g3, gs3, dr3, tk3, os3⟩ := s3
        obtain rfl : gs3 = s.gens := hm.gens
        obtain rfl : dr3 = s.drawn := hm.drawn
        obtain rfl : os3 = s.os := hm.os
        rw [← hsz] at hS3
        refine wpAny_pure (show wpAny _ _ (ret Value.none) _ _ _ from wpAny_pure ⟨rfl, g3, tk3, rfl, hS3, fun b o hb e => ?_⟩)
        refine hm.heap b o (fun z => ?_) (Heap.get?_push_of_some _ (Heap.get?_push_of_some _ e))
        rcases List.mem_cons.mp z with z0 | z
        · exact absurd z0 (Nat.ne_of_lt hb)
        · exact absurd (List.mem_singleton.mp z) (Nat.ne_of_lt (by rw [sz1]; exact Nat.lt_succ_of_lt hb))
    · match r2, hr2 with
      | .error e, hr2 => exact hr2
      | .ok .next, hr2 => exact hr2.elim
      | .ok .brk, hr2 => exact hr2.elim
      | .ok .cont, hr2 => exact hr2.elim
      | .ok (.ret v), ⟨ev, h2, tk, es, hS, hk⟩ =>
        subst ev es
        repeat (any_goals (first | wp_step | assumption))
        exact h _ _ hS hk
end
section
variable {X : Cx}
/-- len(set(xs)), xs a tuple of texts -/
def tLenSetT (K : PySem.W.Frag) (ta : TE) : TE := fun σ H Q => ta σ H fun x H1 => ∃ (l : Addr) (xs : List Str), x = .ref l ∧ SqT K H1 l (xs.map V.str) ∧ xs.length ≤ 1000 ∧ Q (.int (dis xs xs.length : Nat)) H1
theorem pe_lenSetT {a : Expr} {ta : TE} {p p2 q pos : Pos} (hc : X.calm = true) (hg : Gl X "len") (hm : X.mg "len" = none) (hg2 : Gl X "set") (hm2 : X.mg "set" = none) (ha : PE X a ta)
    (na : starEach [a] X.env = (false, eval a X.env) :: starEach [] X.env := by rfl) : PE X (.Call (.Name "len" p) [.Call (.Name "set" p2) [a] [] q] [] pos) (tLenSetT X.K ta) := by
  refine ⟨fun pins s σ H Q I h => Call_ (ld_blt I hg hm boot_len (PyProof.Rows.callWith_builtin1 (PyProof.Rows.args_cons (Call_ (ld_blt I hg2 hm2 boot_set ?_)) rfl) rfl rfl))⟩
  refine PyProof.Rows.callWith_type1 (PyProof.Rows.args_cons (thn (ha.run pins s σ H _ I h) fun u s1 ⟨x, H1, I1, r1, q1⟩ => PyProof.Rows.args_nil ?_) na) na rfl
  obtain ⟨l, xs, ex, hq, hb, q1⟩ := q1
  subst ex
  cases r1
  obtain ⟨its, rr, pl, _⟩ := I1.tuple hq
  refine set_of_tup (I1.ok.hd hc) pl (by simpa using strsAre_of rr) (by unfold scanBound; omega) fun g tk hS hk => PyProof.Rows.args_nil ?_
  have b1 := dis_le xs xs.length
  obtain ⟨o, es, ep, t, ho, hex, hd, _, _, _, hf, en⟩ := hS
  have I2 : Inv X pins σ H1 { s1 with heap := g, toks := tk } := I1.kept fun b o e => hk b o (Heap.lt_size e) e
  exact call_len_set ho hex hd hf (by rw [en] <;> omega) ⟨.int (dis xs xs.length : Nat), H1, I2.tok _, ⟨_, by rw [en]⟩, q1⟩
end
end LS
set_option maxHeartbeats 2100000
/-! values of any kind as data -/
namespace LS
open PySem L2 PySem.Spec PyProof.Rows LamX
mutual
def Dv (H : Hp) : PyData → V → Prop
  | .none, v => v = .non
  | .bool b, v => v = .bl b
  | .int i, v => v = .int i
  | .str x, v => v = .str x ∧ PyData.strOk x = true ∧ x.length ≤ 1000
  | .list ds, v => ∃ (a : Addr) (xs : List V), v = .ref a ∧ H a = some (.lst xs) ∧ DvA H ds xs
  | .tuple ds, v => ∃ (a : Addr) (xs : List V), v = .ref a ∧ Tn H a xs ∧ DvA H ds xs
  | .dict _, _ => False
def DvA (H : Hp) : List PyData → List V → Prop
  | [], xs => xs = []
  | d :: ds, xs => ∃ (v : V) (vs : List V), xs = v :: vs ∧ Dv H d v ∧ DvA H ds vs
end
section
variable {H H' : Hp}
mutual
theorem Dv.keep (kl : ∀ a xs, H a = some (.lst xs) → H' a = some (.lst xs)) (kt : ∀ a xs, Tn H a xs → Tn H' a xs) : ∀ (d : PyData) (v : V), Dv H d v → Dv H' d v
  | .none, _, h => h
  | .bool _, _, h => h
  | .int _, _, h => h
  | .str _, _, h => h
  | .list ds, v, ⟨a, xs, e, h1, h2⟩ => ⟨a, xs, e, kl _ _ h1, DvA.keep kl kt ds xs h2⟩
  | .tuple ds, v, ⟨a, xs, e, h1, h2⟩ => ⟨a, xs, e, kt _ _ h1, DvA.keep kl kt ds xs h2⟩
  | .dict _, _, h => h
theorem DvA.keep (kl : ∀ a xs, H a = some (.lst xs) → H' a = some (.lst xs)) (kt : ∀ a xs, Tn H a xs → Tn H' a xs) : ∀ (ds : List PyData) (xs : List V), DvA H ds xs → DvA H' ds xs
  | [], _, h => h
  | d :: ds, xs, ⟨v, vs, e, h1, h2⟩ => ⟨v, vs, e, Dv.keep kl kt d v h1, DvA.keep kl kt ds vs h2⟩
end
theorem Dv.same {d : PyData} {v : V} (h : Dv H d v) (e : Same H H') : Dv H' d v := Dv.keep (fun _ _ h => e _ _ h) (fun _ _ h => h.same e) d v h
theorem Dv.ext {d : PyData} {v : V} (h : Dv H d v) (e : ExtN H H') : Dv H' d v := Dv.keep (fun _ _ h => lst_ext h e) (fun _ _ h => h.ext e) d v h
theorem DvA.same {ds : List PyData} {xs : List V} (h : DvA H ds xs) (e : Same H H') : DvA H' ds xs := DvA.keep (fun _ _ h => e _ _ h) (fun _ _ h => h.same e) ds xs h
theorem DvA.ext {ds : List PyData} {xs : List V} (h : DvA H ds xs) (e : ExtN H H') : DvA H' ds xs := DvA.keep (fun _ _ h => lst_ext h e) (fun _ _ h => h.ext e) ds xs h
mutual
theorem Dv.dp {K : PySem.W.Frag} : ∀ (d : PyData) (v : V), Dv H d v → Dp K H v d
  | .none, _, h => by cases (show _ = _ from h); exact .non
  | .bool b, _, h => by cases (show _ = _ from h); exact .bl b
  | .int i, _, h => by cases (show _ = _ from h); exact .int i
  | .str x, _, h => by obtain ⟨e, _⟩ := (show _ ∧ _ from h); cases e; exact .str x
  | .list ds, v, ⟨a, xs, e, h1, h2⟩ => by cases e; exact .lst (SqL.of h1) (DvA.dp ds xs h2)
  | .tuple ds, v, ⟨a, xs, e, h1, h2⟩ => by cases e; exact .tup h1.sq (DvA.dp ds xs h2)
  | .dict _, _, h => h.elim
theorem DvA.dp {K : PySem.W.Frag} : ∀ (ds : List PyData) (xs : List V), DvA H ds xs → DpAll K H xs ds
  | [], _, h => by cases (show _ = _ from h); exact .nil
  | d :: ds, xs, ⟨v, vs, e, h1, h2⟩ => by cases e; exact .cons (Dv.dp d v h1) (DvA.dp ds vs h2)
end
mutual
theorem Dv.lay : ∀ (d : PyData) (v : V), Dv H d v → PyData.canLay0 d = true
  | .none, _, _ => rfl
  | .bool _, _, _ => rfl
  | .int _, _, _ => rfl
  | .str _, _, h => h.2.1
  | .list ds, _, ⟨_, xs, _, _, h2⟩ => DvA.lay ds xs h2
  | .tuple ds, _, ⟨_, xs, _, _, h2⟩ => DvA.lay ds xs h2
  | .dict _, _, h => h.elim
theorem DvA.lay : ∀ (ds : List PyData) (xs : List V), DvA H ds xs → PyData.canLayAll0 ds = true
  | [], _, _ => rfl
  | d :: ds, _, ⟨v, vs, _, h1, h2⟩ => by
    show (PyData.canLay0 d && PyData.canLayAll0 ds) = true
    rw [Dv.lay d v h1, DvA.lay ds vs h2]; rfl
end
theorem Dv.shaped {d : PyData} {v : V} (h : Dv H d v) (hd : d.depth ≤ 64) : SeqAt.shaped d = true := by
  unfold SeqAt.shaped
  rw [Dv.lay d v h, decide_eq_true hd]; rfl
theorem DvA.len : ∀ {ds : List PyData} {xs : List V}, DvA H ds xs → ds.length = xs.length
  | [], _, h => by rw [show _ = _ from h]; rfl
  | d :: ds, xs, h => by
    obtain ⟨v, vs, e, _, h2⟩ := (show ∃ _, _ from h)
    rw [e, List.length_cons, List.length_cons, DvA.len h2]
theorem DvA.cons {d : PyData} {v : V} {ds : List PyData} {vs : List V} (h1 : Dv H d v) (h2 : DvA H ds vs) : DvA H (d :: ds) (v :: vs) := ⟨v, vs, rfl, h1, h2⟩
theorem DvA.nil : DvA H [] [] := rfl
theorem DvA.one {d : PyData} {v : V} (h : Dv H d v) : DvA H [d] [v] := DvA.cons h DvA.nil
theorem DvA.app {es : List PyData} {ys : List V} (h2 : DvA H es ys) : ∀ {ds : List PyData} {xs : List V}, DvA H ds xs → DvA H (ds ++ es) (xs ++ ys)
  | [], _, h => by rw [show _ = _ from h]; exact h2
  | d :: ds, xs, h => by
    obtain ⟨v, vs, e, h1, h3⟩ := (show ∃ _, _ from h)
    rw [e]
    exact DvA.cons h1 (DvA.app h2 h3)
theorem DvA.take : ∀ (n : Nat) {ds : List PyData} {xs : List V}, DvA H ds xs → DvA H (ds.take n) (xs.take n)
  | 0, _, _, _ => by rw [List.take_zero, List.take_zero]; exact DvA.nil
  | n + 1, [], _, h => by rw [show _ = _ from h]; exact DvA.nil
  | n + 1, d :: ds, xs, h => by
    obtain ⟨v, vs, e, h1, h3⟩ := (show ∃ _, _ from h)
    rw [e]
    exact DvA.cons h1 (DvA.take n h3)
theorem DvA.drop : ∀ (n : Nat) {ds : List PyData} {xs : List V}, DvA H ds xs → DvA H (ds.drop n) (xs.drop n)
  | 0, _, _, h => h
  | n + 1, [], _, h => by rw [show _ = _ from h]; exact DvA.nil
  | n + 1, d :: ds, xs, h => by
    obtain ⟨v, vs, e, h1, h3⟩ := (show ∃ _, _ from h)
    rw [e]
    exact DvA.drop n h3
theorem DvA.rev : ∀ {ds : List PyData} {xs : List V}, DvA H ds xs → DvA H ds.reverse xs.reverse
  | [], _, h => by rw [show _ = _ from h]; exact DvA.nil
  | d :: ds, xs, h => by
    obtain ⟨v, vs, e, h1, h3⟩ := (show ∃ _, _ from h)
    rw [e, List.reverse_cons, List.reverse_cons]
    exact DvA.app (DvA.one h1) (DvA.rev h3)
theorem DvA.set {d : PyData} {v : V} (h1 : Dv H d v) : ∀ (n : Nat) {ds : List PyData} {xs : List V}, DvA H ds xs → DvA H (ds.set n d) (xs.set n v)
  | _, [], _, h => by rw [show _ = _ from h]; exact DvA.nil
  | 0, e :: ds, xs, h => by
    obtain ⟨u, vs, e, h2, h3⟩ := (show ∃ _, _ from h)
    rw [e]
    exact DvA.cons h1 h3
  | n + 1, e :: ds, xs, h => by
    obtain ⟨u, vs, e, h2, h3⟩ := (show ∃ _, _ from h)
    rw [e]
    exact DvA.cons h2 (DvA.set h1 n h3)
theorem DvA.get : ∀ {ds : List PyData} {xs : List V}, DvA H ds xs → ∀ {i : Nat} {v : V}, xs[i]? = some v → ∃ d, ds[i]? = some d ∧ Dv H d v
  | [], _, h, i, v, e => by rw [show _ = _ from h] at e; simp at e
  | d :: ds, xs, h, 0, v, e => by
    obtain ⟨u, vs, e1, h1, _⟩ := (show ∃ _, _ from h)
    rw [e1] at e
    have e2 : u = v := Option.some.inj e
    exact ⟨d, rfl, e2 ▸ h1⟩
  | d :: ds, xs, h, i + 1, v, e => by
    obtain ⟨u, vs, e1, _, h3⟩ := (show ∃ _, _ from h)
    rw [e1] at e
    exact DvA.get h3 (i := i) e
end
/-! ### sizes -/
mutual
def szD : PyData → Nat
  | .list ds | .tuple ds => szA ds + 1
  | .dict _ => 1
  | .none | .bool _ | .int _ | .str _ => 1
def szA : List PyData → Nat
  | [] => 0
  | d :: ds => szD d + szA ds
end
theorem szD_pos (d : PyData) : 1 ≤ szD d := by
  cases d <;> simp [szD]
theorem szA_app (a b : List PyData) : szA (a ++ b) = szA a + szA b := by
  induction a with
  | nil => simp [szA]
  | cons d a ih => simp only [List.cons_append, szA, ih]; omega
theorem szA_len (ds : List PyData) : ds.length ≤ szA ds := by
  induction ds with
  | nil => exact Nat.le_refl _
  | cons d ds ih =>
    have := szD_pos d
    simp only [List.length_cons, szA]; omega
theorem szA_mem {d : PyData} {ds : List PyData} (h : d ∈ ds) : szD d ≤ szA ds := by
  induction ds with
  | nil => cases h
  | cons e ds ih =>
    simp only [szA]
    rcases List.mem_cons.mp h with z1 | z1
    · rw [z1]; omega
    · have := ih z1; omega
theorem dep_mem {d : PyData} {ds : List PyData} (h : d ∈ ds) : d.depth ≤ PyData.depthAll ds := by
  induction ds with
  | nil => cases h
  | cons e ds ih =>
    simp only [PyData.depthAll]
    rcases List.mem_cons.mp h with z1 | z1
    · rw [z1]; omega
    · have := ih z1; omega
theorem dep_all {n : Nat} {ds : List PyData} (h : ∀ d, d ∈ ds → d.depth ≤ n) : PyData.depthAll ds ≤ n := by
  induction ds with
  | nil => exact Nat.zero_le _
  | cons e ds ih =>
    simp only [PyData.depthAll]
    have h1 := h e List.mem_cons_self
    have h2 := ih fun d hd => h d (List.mem_cons_of_mem _ hd)
    omega
theorem szA_split {ds : List PyData} {i : Nat} {d : PyData} (h : ds[i]? = some d) : szA ds = szA (ds.take i) + szD d + szA (ds.drop (i + 1)) := by
  obtain ⟨hi, ei⟩ := List.getElem?_eq_some_iff.mp h
  conv => lhs; rw [← List.take_append_drop i ds, List.drop_eq_getElem_cons hi, ei]
  rw [szA_app]
  simp only [szA]; omega
theorem szA_rev (ds : List PyData) : szA ds.reverse = szA ds := by
  induction ds with
  | nil => rfl
  | cons d ds ih => rw [List.reverse_cons, szA_app, ih]; simp only [szA]; omega
/-! ### what is asked of data -/
def letters : Str := "abcdefghijklmnopqrstuvwxyz"
def isLayS (z : Str) : Bool := decide (1 ≤ z.length ∧ z.length ≤ 8) && decide (∀ c, c ∈ z.cps.toList → c ∈ letters.cps.toList)
def isLayD : PyData → Bool
  | .str z => isLayS z
  | _ => false
def strsD : List PyData → List Str
  | .str z :: ds => z :: strsD ds
  | _ :: ds => strsD ds
  | [] => []
def isOrdD : PyData → Bool
  | .tuple ds => decide (1 ≤ ds.length ∧ ds.length ≤ 10) && (ds.all isLayD && decide (dis (strsD ds) (strsD ds).length = ds.length))
  | _ => false
def strIn (ws : List Str) : PyData → Bool
  | .str z => decide (z ∈ ws)
  | _ => false
def isCmdD (os : List Str) : PyData → Bool
  | .tuple [x, y] => strIn fourWords x && strIn os y
  | _ => false
def isScrD (os : List Str) : PyData → Bool
  | .tuple ds => decide (ds.length ≤ 60) && ds.all (isCmdD os)
  | _ => false
theorem any_strs (ws : List Str) (d : PyData) : ((strD ws).any fun z => PyData.eqv z d) = strIn ws d := by
  rw [Bool.eq_iff_iff, List.any_eq_true]
  cases d with
  | str z =>
    show _ ↔ decide (z ∈ ws) = true
    rw [decide_eq_true_iff]
    constructor
    · rintro ⟨y, hy, e⟩
      obtain ⟨s, hs, rfl⟩ := List.mem_map.mp hy
      have e1 : (s == z) = true := e
      rw [← eq_of_beq e1]; exact hs
    · intro h
      exact ⟨.str z, List.mem_map.mpr ⟨z, h, rfl⟩, (beq_self_eq_true z : (z == z) = true)⟩
  | _ =>
    refine ⟨?_, fun h => by cases h⟩
    rintro ⟨y, hy, e⟩
    obtain ⟨s, hs, rfl⟩ := List.mem_map.mp hy
    cases e
section
variable {X : Cx}
def rInT (K : PySem.W.Frag) (neg : Bool) : R2 := fun x y H Q => ∃ (d : PyData) (a : Addr) (ws : List Str), Dp K H x d ∧ y = .ref a ∧ SqT K H a (ws.map V.str) ∧ SeqAt.shaped d = true ∧ StrsOk ws ∧ Q (.bl (if neg = true then !strIn ws d else strIn ws d)) H
theorem room_t {d : PyData} {ds : List PyData} (h : SeqAt.shaped d = true) (hu : X.A.units + 65 < cLine) : X.A.units + 1 + min (PyData.depthAll ds) d.depth < cLine := by
  have h1 := SeqAt.depth_of_shaped h
  have h2 : min (PyData.depthAll ds) d.depth ≤ d.depth := Nat.min_le_right _ _
  omega
theorem op_inT {K : PySem.W.Frag} (hK : X.K = K) (hu : X.A.units + 65 < cLine) : OpR X (compareOp .In) (rInT K false) := by
  subst hK
  intro pi s σ H x y v u Q I rx ry ⟨d, a, ws, hd, ey, ha, sd, okw, q⟩
  subst ey
  obtain ⟨as1, r1⟩ := Dp.reads I d x v hd rx
  obtain ⟨bs, r2⟩ := Dp.reads I (.tuple (strD ws)) (.ref a) u (.tup ha (dpAll_str ws)) ry
  refine SeqAt.in_tuple_reads r2 r1 (lay_str okw) (SeqAt.canLay_of_shaped sd) (room_t sd hu) ⟨.bl _, H, I, rfl, ?_⟩
  rw [any_strs]; exact q
theorem op_ninT {K : PySem.W.Frag} (hK : X.K = K) (hu : X.A.units + 65 < cLine) : OpR X (compareOp .NotIn) (rInT K true) := by
  subst hK
  intro pi s σ H x y v u Q I rx ry ⟨d, a, ws, hd, ey, ha, sd, okw, q⟩
  subst ey
  obtain ⟨as1, r1⟩ := Dp.reads I d x v hd rx
  obtain ⟨bs, r2⟩ := Dp.reads I (.tuple (strD ws)) (.ref a) u (.tup ha (dpAll_str ws)) ry
  refine SeqAt.notIn_tuple_reads r2 r1 (lay_str okw) (SeqAt.canLay_of_shaped sd) (room_t sd hu) ⟨.bl _, H, I, rfl, ?_⟩
  rw [any_strs]; exact q
end
/-- the kind of a value, as isinstance reads it -/
def tyD : PyData → String
  | .none => "NoneType"
  | .bool _ => "bool"
  | .int _ => "int"
  | .str _ => "str"
  | .list _ => "list"
  | .tuple _ => "tuple"
  | .dict _ => "dict"
theorem Dv.ty {K : PySem.W.Frag} {H : Hp} {d : PyData} {v : V} (h : Dv H d v) : TyX K H v (.type (tyD d)) := by
  cases d with
  | none => cases (show _ = _ from h); exact .base .non
  | bool b => cases (show _ = _ from h); exact .base (.bl b)
  | int i => cases (show _ = _ from h); exact .base (.int i)
  | str x => cases (show _ = _ from h.1); exact .base (.str x)
  | list ds => obtain ⟨a, xs, rfl, h1, _⟩ := (show ∃ _, _ from h); exact .base (.lst h1)
  | tuple ds => obtain ⟨a, xs, rfl, ⟨ob, h1, _⟩, _⟩ := (show ∃ _, _ from h); exact .fTuple h1
  | dict _ => exact (show False from h).elim
end LS
set_option maxHeartbeats 2100000
/-! what is promised of the checks of values -/
namespace LS
open PySem L2 PySem.Spec PyProof.Rows LamX
def genQl : Str := ("is_layer" : Str) ++ ".<locals>." ++ "<genexpr>"
def genQo : Str := ("is_order" : Str) ++ ".<locals>." ++ "<genexpr>"
def StrAt (mg : Str → Option Value) (x z : Str) : Prop := ∃ t, mg x = some (.str z t)
def strB (x z : Str) (K : PySem.W.Frag) : Bool := He.Fa.ok K (.str x z)
theorem strAt_of {K : PySem.W.Frag} {h : Heap} {mg : Str → Option Value} {x z : Str} (X : K.In h) (G : h.Ns mainGlobals mg) (c : strB x z K = true) : StrAt mg x z := He.str_ok X G c
theorem pe_gstr {X : Cx} {x z : Str} {pos : Pos} (hg : Gl X x) (h : StrAt X.mg x z) (hd : (x == ("__debug__" : Str)) = false := by decide) : PE X (.Name x pos) (tC (.str z)) := by
  obtain ⟨t, e⟩ := h; exact pe_glob hg e ⟨t, rfl⟩ hd
/-! ### isinstance of data -/
def isTs (t T : String) : Bool := (t == T) || (T == "int" && t == "bool")
theorem kit_all : ∀ t, t ∈ ["NoneType", "bool", "int", "str", "list", "tuple", "dict"] → ∀ T, T ∈ ["str", "tuple", "list", "int", "bool"] → kitB t T = some (isTs t T) := by decide +kernel
theorem ty_mem (d : PyData) : tyD d ∈ ["NoneType", "bool", "int", "str", "list", "tuple", "dict"] := by
  cases d <;> simp [tyD]
theorem kit_d {K : PySem.W.Frag} (d : PyData) {T : String} (h : T ∈ ["str", "tuple", "list", "int", "bool"]) : PySem.W.kitOne K (.type (tyD d)) (.type T) = some (isTs (tyD d) T) := kit_ty (kit_all _ (ty_mem d) _ h)
def isSeqD : PyData → Bool
  | .list _ => true
  | .tuple _ => true
  | _ => false
theorem kit_seq {K : PySem.W.Frag} (d : PyData) : PySem.W.kitAny K (.type (tyD d)) [.type "list", .type "tuple"] = some (isSeqD d) := by
  refine kitAny_cons (kit_d d (by simp)) (fun h => kitAny_cons (kit_d d (by simp)) (fun h2 => ?_) fun h2 => ?_) fun h => ?_
  · rw [kitAny_nil]
    cases d <;> first | rfl | (simp [isTs, tyD] at h; done) | (simp [isTs, tyD] at h2; done)
  · cases d <;> first | rfl | (simp [isTs, tyD] at h; done) | (simp [isTs, tyD] at h2; done)
  · cases d <;> first | rfl | (simp [isTs, tyD] at h)
theorem not_str {d : PyData} (h : isTs (tyD d) "str" = false) : ∀ z, d ≠ .str z := fun z e => by
  rw [e] at h
  simp [isTs, tyD] at h
theorem not_tup {d : PyData} (h : isTs (tyD d) "tuple" = false) : ∀ z, d ≠ .tuple z := fun z e => by
  rw [e] at h
  simp [isTs, tyD] at h
theorem is_str {d : PyData} (h : isTs (tyD d) "str" = true) : ∃ z, d = .str z := by
  cases d <;> first | exact ⟨_, rfl⟩ | (simp [isTs, tyD] at h)
theorem is_tup {d : PyData} (h : isTs (tyD d) "tuple" = true) : ∃ z, d = .tuple z := by
  cases d <;> first | exact ⟨_, rfl⟩ | (simp [isTs, tyD] at h)
theorem is_list {d : PyData} (h : isTs (tyD d) "list" = true) : ∃ z, d = .list z := by
  cases d <;> first | exact ⟨_, rfl⟩ | (simp [isTs, tyD] at h)
theorem is_seq {d : PyData} (h : isSeqD d = true) : (∃ z, d = .list z) ∨ ∃ z, d = .tuple z := by
  cases d <;> first | exact .inl ⟨_, rfl⟩ | exact .inr ⟨_, rfl⟩ | cases h
theorem lay_no {d : PyData} (h : isTs (tyD d) "str" = false) : isLayD d = false := by
  cases d <;> first | rfl | (simp [isTs, tyD] at h)
theorem ord_no {d : PyData} (h : isTs (tyD d) "tuple" = false) : isOrdD d = false := by
  cases d <;> first | rfl | (simp [isTs, tyD] at h)
theorem cmd_no {os : List Str} {d : PyData} (h : isTs (tyD d) "tuple" = false) : isCmdD os d = false := by
  cases d <;> first | rfl | (simp [isTs, tyD] at h)
theorem scr_no {os : List Str} {d : PyData} (h : isTs (tyD d) "tuple" = false) : isScrD os d = false := by
  cases d <;> first | rfl | (simp [isTs, tyD] at h)
/-! ### the specs -/
def spLay (T : List (Addr × Str)) : Sp := fun vs H Q _ => ∃ (v : V) (d : PyData), vs = [v] ∧ Dv H d v ∧ Tabs T H ∧ ∀ H', ExtN H H' → Tabs T H' → Q (.bl (isLayD d)) H'
def spOrdD (T : List (Addr × Str)) : Sp := fun vs H Q _ => ∃ (v : V) (d : PyData), vs = [v] ∧ Dv H d v ∧ szD d ≤ 1000 ∧ Tabs T H ∧ ∀ H', ExtN H H' → Tabs T H' → Q (.bl (isOrdD d)) H'
def spCmdD : Sp := fun vs H Q _ => ∃ (o : Addr) (v : V) (os : List Str) (d : PyData), vs = [.ref o, v] ∧ Tn H o (os.map V.str) ∧ StrsOk os ∧ Dv H d v ∧ d.depth ≤ 64 ∧ Q (.bl (isCmdD os d)) H
def spScrD (T : List (Addr × Str)) : Sp := fun vs H Q _ => ∃ (o : Addr) (v : V) (os : List Str) (d : PyData), vs = [.ref o, v] ∧ Tn H o (os.map V.str) ∧ StrsOk os ∧ Dv H d v ∧ d.depth ≤ 64 ∧ szD d ≤ 1000 ∧ Tabs T H ∧ ∀ H', ExtN H H' → Tabs T H' → Q (.bl (isScrD os d)) H'
def spLLay : Sp := fun vs H Q _ => ∃ (v : V) (d : PyData), vs = [v] ∧ Dv H d v ∧ ∀ H', Same H H' → Q (.bl (isLayD d)) H'
def spLOrd : Sp := fun vs H Q _ => ∃ (v : V) (d : PyData), vs = [v] ∧ Dv H d v ∧ d.depth ≤ 64 ∧ szD d ≤ 1000 ∧ ∀ H', Same H H' → Q (.bl (isOrdD d)) H'
def spLScr : Sp := fun vs H Q _ => ∃ (o : Addr) (v : V) (os : List Str) (d : PyData), vs = [.ref o, v] ∧ Tn H o (os.map V.str) ∧ StrsOk os ∧ Dv H d v ∧ d.depth ≤ 64 ∧ szD d ≤ 1000 ∧ ∀ H', Same H H' → Q (.bl (isScrD os d)) H'
theorem lays_strs {H : Hp} : ∀ {ds : List PyData} {xs : List V}, DvA H ds xs → ds.all isLayD = true → xs = (strsD ds).map V.str ∧ (strsD ds).length = ds.length
  | [], xs, h, _ => by rw [show _ = _ from h]; exact ⟨rfl, rfl⟩
  | d :: ds, xs, h, ha => by
    obtain ⟨v, vs, e, h1, h2⟩ := (show ∃ _, _ from h)
    rw [List.all_cons] at ha; rw [Bool.and_eq_true] at ha
    obtain ⟨e2, e3⟩ := lays_strs h2 ha.2
    cases d with
    | str z =>
      rw [e, show v = .str z from h1.1, e2]
      refine ⟨rfl, ?_⟩
      show (strsD ds).length + 1 = ds.length + 1
      rw [e3]
    | _ => cases ha.1
theorem szT_len {ds : List PyData} (h : szD (.tuple ds) ≤ 1000) : ds.length ≤ 999 := by
  have := szA_len ds
  simp only [szD] at h; omega
theorem szL_len {ds : List PyData} (h : szD (.list ds) ≤ 1000) : ds.length ≤ 999 := by
  have := szA_len ds
  simp only [szD] at h; omega
theorem dep_t {ds : List PyData} (h : (PyData.tuple ds).depth ≤ 64) {d : PyData} (hd : d ∈ ds) : d.depth ≤ 64 := by
  have := dep_mem hd
  simp only [PyData.depth] at h; omega
theorem signs_nil (z : Str) : decide (((z.cps.toList.filter fun c => !decide (c ∈ letters.cps.toList)).map fun c => (⟨#[c]⟩ : Str)) = []) = decide (∀ c, c ∈ z.cps.toList → c ∈ letters.cps.toList) := by
  rw [decide_eq_decide, List.map_eq_nil_iff, List.filter_eq_nil_iff]
  constructor
  · intro h c hc
    have := h c hc
    simpa using this
  · intro h c hc
    rw [decide_eq_true (h c hc)]
    decide
theorem sign_ok {z : Str} (h : PyData.strOk z = true) {c : Nat} (hc : c ∈ z.cps.toList) : PyData.strOk (⟨#[c]⟩ : Str) = true := by
  unfold PyData.strOk at h ⊢
  have := Array.all_eq_true_iff_forall_mem.mp h c (by simpa using hc)
  simpa using this
theorem eqv_nil (es : List PyData) : PyData.eqv (.list es) (.list []) = decide (es = []) := by
  cases es with
  | nil => rfl
  | cons d es => rfl
theorem notlay_nil (ds : List PyData) : decide ((ds.filter fun d => !isLayD d) = []) = ds.all isLayD := by
  rw [Bool.eq_iff_iff, decide_eq_true_iff, List.filter_eq_nil_iff, List.all_eq_true]
  constructor
  · intro h d hd
    have := h d hd
    simpa using this
  · intro h d hd
    rw [h d hd]
    decide
theorem op_eqLs {X : Cx} (hu : X.A.units + 64 < cLine) : OpR X (compareOp .Eq) (rEqLs X.K false) := by
  intro pi s σ H x y v u Q I rx ry ⟨a, b, ss, ts, ex, ey, ha, hb, h1, h2, q⟩
  subst ex ey
  refine op_eqD hu pi s σ H _ _ v u Q I rx ry ⟨.list (strD ss), .list (strD ts), .lst ha (dpAll_str ss), .lst hb (dpAll_str ts), shaped_lstr h1, shaped_lstr h2, ?_⟩
  show Q (.bl (PyData.eqvAll (strD ss) (strD ts))) H
  rw [eqvAll_str]; exact q
end LS
set_option maxHeartbeats 2100000
/-! the worked examples: sixteen rows of four names, and what is true for each of them -/
namespace LS
open PySem L2 PySem.Spec PyProof.Rows LamX
def lastRow : List Str := ["a", "b", "c", "d"]
def nameRows : List (List Str) := ((signs "abcdefghijklmno").map fun p => (signs "abcd").map fun l => p ++ l) ++ [lastRow]
section
variable {a b c d : Str}
theorem four_all {P : Str → Str → Str → Str → Prop} (h : ∀ r, r ∈ nameRows → P (r.getD 0 "") (r.getD 1 "") (r.getD 2 "") (r.getD 3 "")) (f : [a, b, c, d] ∈ nameRows) : P a b c d := h _ f
theorem x_nd (f : [a, b, c, d] ∈ nameRows) : [a, b, c, d].Nodup := four_all (P := fun a b c d => [a, b, c, d].Nodup) (by decide +kernel) f
theorem x_ok (f : [a, b, c, d] ∈ nameRows) : StrsOk [a, b, c, d] := by
  have h := four_all (P := fun a b c d => (((PyData.strOk a && PyData.strOk b) && PyData.strOk c) && PyData.strOk d) = true) (by decide +kernel) f
  intro z hz
  rw [Bool.and_eq_true, Bool.and_eq_true, Bool.and_eq_true] at h
  have h1 := h.1.1.1; have h2 := h.1.1.2; have h3 := h.1.2; have h4 := h.2
  simp only [List.mem_cons, List.not_mem_nil, or_false] at hz
  rcases hz with rfl | rfl | rfl | rfl <;> assumption
theorem x_nd3 (f : [a, b, c, d] ∈ nameRows) : [a, b, c].Nodup := four_all (P := fun a b c d => [a, b, c].Nodup) (by decide +kernel) f
theorem x_nd2 (f : [a, b, c, d] ∈ nameRows) : [a, b].Nodup := four_all (P := fun a b c d => [a, b].Nodup) (by decide +kernel) f
theorem x_ok3 (f : [a, b, c, d] ∈ nameRows) : StrsOk [a, b, c] := fun z hz => x_ok f z (by simp only [List.mem_cons, List.not_mem_nil, or_false] at hz ⊢; rcases hz with h | h | h <;> simp [h])
theorem x_ok2 (f : [a, b, c, d] ∈ nameRows) : StrsOk [a, b] := fun z hz => x_ok f z (by simp only [List.mem_cons, List.not_mem_nil, or_false] at hz ⊢; rcases hz with h | h <;> simp [h])
theorem x_srt3 (f : [a, b, c, d] ∈ nameRows) : srt [a, b, c] = [a, b, c] := (eq_srt (.refl _) (four_all (P := fun a b c d => sortedS [a, b, c] = true) (by decide +kernel) f)).symm
theorem x_srt2 (f : [a, b, c, d] ∈ nameRows) : srt [a, b] = [a, b] := (eq_srt (.refl _) (four_all (P := fun a b c d => sortedS [a, b] = true) (by decide +kernel) f)).symm
theorem x_ords3 (f : [a, b, c, d] ∈ nameRows) : ords [a, b, c] = lev [a, b, c] 3 := by
  unfold ords
  rw [x_srt3 f]
  rfl
theorem x_ords2 (f : [a, b, c, d] ∈ nameRows) : ords [a, b] = lev [a, b] 2 := by
  unfold ords
  rw [x_srt2 f]
  rfl
theorem x_nf (f : [a, b, c, d] ∈ nameRows) : nf [("front", a), ("back", b), ("front", c), ("back", a)] = ([c], [b, a]) := four_all (P := fun a b c d => nf [("front", a), ("back", b), ("front", c), ("back", a)] = ([c], [b, a])) (by decide +kernel) f
theorem x_first (f : [a, b, c, d] ∈ nameRows) : firstDiff [a, b, c] [("front", a)] [("up", a)] = some [b, c, a] := by
  unfold firstDiff
  rw [x_ords3 f]
  exact four_all (P := fun a b c d => (lev [a, b, c] 3).find? (diffs [("front", a)] [("up", a)]) = some [b, c, a]) (by decide +kernel) f
theorem x_eq2 (f : [a, b, c, d] ∈ nameRows) : eqAll [a, b] [("front", a)] [("back", b)] = true := by
  unfold eqAll
  rw [x_ords2 f]
  exact four_all (P := fun a b c d => ((lev [a, b] 2).all fun o => decide (runA o [("front", a)] = runA o [("back", b)])) = true) (by decide +kernel) f
theorem x_comm (f : [a, b, c, d] ∈ nameRows) : eqAll [a, b, c] [("front", a), ("back", b)] [("back", b), ("front", a)] = true := by
  unfold eqAll
  rw [x_ords3 f]
  exact four_all (P := fun a b c d => ((lev [a, b, c] 3).all fun o => decide (runA o [("front", a), ("back", b)] = runA o [("back", b), ("front", a)])) = true) (by decide +kernel) f
theorem x_red (f : [a, b, c, d] ∈ nameRows) : (List.range 3).filter (red [a, b, c] [("up", b), ("front", b), ("up", c)]) = [0] := by
  have e : red [a, b, c] [("up", b), ("front", b), ("up", c)] = redL (lev [a, b, c] 3) [("up", b), ("front", b), ("up", c)] := by
    rw [← x_ords3 f]
    rfl
  rw [e]
  exact four_all (P := fun a b c d => (List.range 3).filter (redL (lev [a, b, c] 3) [("up", b), ("front", b), ("up", c)]) = [0]) (by decide +kernel) f
theorem x_srcs (f : [a, b, c, d] ∈ nameRows) : srcs [a, b, c] [("front", a)] = [[a, b, c], [b, a, c], [b, c, a]] := by
  unfold srcs
  rw [x_ords3 f]
  exact four_all (P := fun a b c d => ((lev [a, b, c] 3).filter fun o => decide (runA o [("front", a)] = [a, b, c])) = [[a, b, c], [b, a, c], [b, c, a]]) (by decide +kernel) f
def cmdsS (ys : List Str) : List (Str × Str) := kindsL.flatMap fun k => ys.map fun n => (k, n)
theorem x_cnt (f : [a, b, c, d] ∈ nameRows) : cnt [a, b] 1 [b, a] = 4 := by
  show ((ords [a, b]).map fun p => cnt [a, b] 0 p * mul [a, b] p [b, a]).sum = 4
  have e : ∀ p, mul [a, b] p [b, a] = (cmdsS [a, b]).countP fun c => decide (moved p c = [b, a]) := fun p => by
    unfold mul cmdsL
    rw [x_srt2 f]
    rfl
  simp only [e]
  rw [x_ords2 f]
  exact four_all (P := fun a b c d => ((lev [a, b] 2).map fun p => (if p = [a, b] then 1 else 0) * (cmdsS [a, b]).countP fun c => decide (moved p c = [b, a])).sum = 4) (by decide +kernel) f
theorem x_lsz (f : [a, b, c, d] ∈ nameRows) : lsz [a, b, c] = [1, 4, 1] := by
  rw [lsz_eq (x_nd3 f) nd3 (by simp) rfl, lsz3]
theorem x_hid (f : [a, b, c, d] ∈ nameRows) : (cmdsL [a, b, c]).filter (hidS [a, b, c] [] 0 [b, a, c]) = ([("down", a), ("front", b), ("up", b)] : List (Str × Str)) := by
  have e : cmdsL [a, b, c] = cmdsS [a, b, c] := by
    unfold cmdsL
    rw [x_srt3 f]
    rfl
  rw [e]
  exact four_all (P := fun a b c d => (cmdsS [a, b, c]).filter (hidS [a, b, c] [] 0 [b, a, c]) = ([("down", a), ("front", b), ("up", b)] : List (Str × Str))) (by decide +kernel) f
/-! ### distances -/
def distB (o t : List Str) (k : Nat) : Bool := decide (o.length = t.length) && ((stfrom t.length t.length).any fun x => decide (cost o t x.1 x.2 = k)) && (stfrom t.length t.length).all fun x => decide (k ≤ cost o t x.1 x.2)
theorem distB_ok {o t : List Str} {k : Nat} (h : distB o t k = true) : IsDist o t k := by
  unfold distB at h
  rw [Bool.and_eq_true, Bool.and_eq_true] at h
  have h2 := h.1.2; have h3 := h.2
  obtain ⟨x, hx, e⟩ := List.any_eq_true.mp h2
  have mx := (mem_stfrom _ (Nat.le_refl _)).mp hx
  refine ⟨⟨x.1, x.2, mx.2.1, mx.2.2, of_decide_eq_true e⟩, fun p q hpq hq => ?_⟩
  exact of_decide_eq_true (List.all_eq_true.mp h3 (p, q) ((mem_stfrom _ (Nat.le_refl _)).mpr ⟨by omega, hpq, hq⟩))
theorem x_d1 (f : [a, b, c, d] ∈ nameRows) : IsDist [a, b, c, d] [d, a, b, c] 1 := distB_ok (four_all (P := fun a b c d => distB [a, b, c, d] [d, a, b, c] 1 = true) (by decide +kernel) f)
theorem x_d2 (f : [a, b, c, d] ∈ nameRows) : IsDist [a, b, c, d] [b, a, d, c] 2 := distB_ok (four_all (P := fun a b c d => distB [a, b, c, d] [b, a, d, c] 2 = true) (by decide +kernel) f)
theorem x_d3 (f : [a, b, c, d] ∈ nameRows) : IsDist [a, b, c, d] [d, c, b, a] 3 := distB_ok (four_all (P := fun a b c d => distB [a, b, c, d] [d, c, b, a] 3 = true) (by decide +kernel) f)
theorem x_d21 (f : [a, b, c, d] ∈ nameRows) : IsDist [a, b] [b, a] 1 := distB_ok (four_all (P := fun a b c d => distB [a, b] [b, a] 1 = true) (by decide +kernel) f)
theorem x_dc1 (f : [a, b, c, d] ∈ nameRows) : IsDist [a, b, c] [c, a, b] 1 := distB_ok (four_all (P := fun a b c d => distB [a, b, c] [c, a, b] 1 = true) (by decide +kernel) f)
theorem x_dc2 (f : [a, b, c, d] ∈ nameRows) : IsDist [a, b, c] [c, b, a] 2 := distB_ok (four_all (P := fun a b c d => distB [a, b, c] [c, b, a] 2 = true) (by decide +kernel) f)
theorem x_best (f : [a, b, c, d] ∈ nameRows) {x y : Nat} (hx : x < y) (hy : y ≤ 4) (h : cost [a, b, c, d] [d, a, b, c] x y = 1) : x = 1 ∧ y = 4 := by
  have all := four_all (P := fun a b c d => ∀ z, z ∈ stfrom 4 4 → cost [a, b, c, d] [d, a, b, c] z.1 z.2 = 1 → z = (1, 4)) (by decide +kernel) f
  have := all (x, y) ((mem_stfrom 4 (Nat.le_refl _)).mpr ⟨by omega, hx, hy⟩) h
  exact ⟨congrArg Prod.fst this, congrArg Prod.snd this⟩
theorem x_cost (f : [a, b, c, d] ∈ nameRows) : cost [a, b, c, d] [b, a, d, c] 0 4 = 2 := four_all (P := fun a b c d => cost [a, b, c, d] [b, a, d, c] 0 4 = 2) (by decide +kernel) f
theorem one_plan {o t : List Str} {w : Str × Str} {cs : List (Str × Str)} (hn : o ≠ t) (all : ∀ x, x ∈ fourWords → ∀ y, y ∈ o → moved o (x, y) = t → (x, y) = w) (hl : cs.length = 1) (hg : GoodCs o cs) (hr : cs.foldl moved o = t) : cs = [w] := by
  match cs, hg, hr, hl with
  | [c], hg, hr, _ =>
    obtain ⟨g1, g2⟩ := hg c List.mem_cons_self
    have z := all c.1 g1 c.2 g2 hr
    rw [show c = (c.1, c.2) from rfl, z]
theorem x_plan (f : [a, b, c, d] ∈ nameRows) {cs : List (Str × Str)} (hl : IsDist [a, b, c, d] [d, a, b, c] cs.length) (hg : GoodCs [a, b, c, d] cs) (hr : cs.foldl moved [a, b, c, d] = [d, a, b, c]) : cs = [(("front", d) : Str × Str)] :=
  one_plan (w := ("front", d)) (four_all (P := fun a b c d => [a, b, c, d] ≠ [d, a, b, c]) (by decide +kernel) f) (four_all (P := fun a b c d => ∀ x, x ∈ fourWords → ∀ y, y ∈ [a, b, c, d] → moved [a, b, c, d] (x, y) = [d, a, b, c] → (x, y) = (("front", d) : Str × Str)) (by decide +kernel) f) (dist_uniq hl (x_d1 f)) hg hr
theorem x_tops (f : [a, b, c, d] ∈ nameRows) : ∀ q, q ∈ tgts [d, a, b, c, "zz"] [a, b, c, d] → q = [a, b, c, d, "zz"] := four_all (P := fun a b c d => ∀ q, q ∈ tgts [d, a, b, c, "zz"] [a, b, c, d] → q = [a, b, c, d, "zz"]) (by decide +kernel) f
theorem x_dtop (f : [a, b, c, d] ∈ nameRows) : dN [d, a, b, c, "zz"] [a, b, c, d, "zz"] = 2 := dN_eq (distB_ok (four_all (P := fun a b c d => distB [d, a, b, c, "zz"] [a, b, c, d, "zz"] 2 = true) (by decide +kernel) f))
theorem x_nd5 (f : [a, b, c, d] ∈ nameRows) : [d, a, b, c, "zz"].Nodup := four_all (P := fun a b c d => [d, a, b, c, "zz"].Nodup) (by decide +kernel) f
theorem x_ptop (f : [a, b, c, d] ∈ nameRows) {q : List Str} (h : q ∈ tgts [a, b, c] [c]) (hm : ∀ q', q' ∈ tgts [a, b, c] [c] → dN [a, b, c] q ≤ dN [a, b, c] q') : q = [c, a, b] := by
  have two := four_all (P := fun a b c d => (∀ q, q ∈ tgts [a, b, c] [c] → q = [c, a, b] ∨ q = [c, b, a]) ∧ [c, a, b] ∈ tgts [a, b, c] [c]) (by decide +kernel) f
  rcases two.1 q h with z | z
  · exact z
  · have := hm _ two.2
    rw [z, dN_eq (x_dc2 f), dN_eq (x_dc1 f)] at this
    omega
theorem x_pplan (f : [a, b, c, d] ∈ nameRows) {cs : List (Str × Str)} (hl : IsDist [a, b, c] [c, a, b] cs.length) (hg : GoodCs [a, b, c] cs) (hr : cs.foldl moved [a, b, c] = [c, a, b]) : cs = [(("front", c) : Str × Str)] :=
  one_plan (w := ("front", c)) (four_all (P := fun a b c d => [a, b, c] ≠ [c, a, b]) (by decide +kernel) f) (four_all (P := fun a b c d => ∀ x, x ∈ fourWords → ∀ y, y ∈ [a, b, c] → moved [a, b, c] (x, y) = [c, a, b] → (x, y) = (("front", c) : Str × Str)) (by decide +kernel) f) (dist_uniq hl (x_dc1 f)) hg hr
theorem x_pd (f : [a, b, c, d] ∈ nameRows) : IsPD [a, b, c] [(c, a)] (some 1) := by
  have h := four_all (P := fun a b c d => stands [c, a, b] [(c, a)] = true ∧ stands [a, b, c] [(c, a)] = false ∧ [c, a, b].Perm [a, b, c]) (by decide +kernel) f
  refine ⟨⟨[c, a, b], lv_dist (x_nd3 f) (by simp) h.2.2 (x_dc1 f), h.1⟩, fun j hj q hq => ?_⟩
  have : j = 0 := by omega
  subst this
  rw [lv_zero_eq hq]
  exact h.2.1
theorem x_run (f : [a, b, c, d] ∈ nameRows) : runA [a, b, c, d] [("front", c), ("down", a)] = [c, b, a, d] := four_all (P := fun a b c d => runA [a, b, c, d] [("front", c), ("down", a)] = [c, b, a, d]) (by decide +kernel) f
end
/-! ### a value in a tuple of any data -/
section
variable {X : Cx}
def rNinD (K : PySem.W.Frag) : R2 := fun x y H Q => ∃ (d : PyData) (a : Addr) (xs : List V) (ds : List PyData), Dp K H x d ∧ y = .ref a ∧ SqT K H a xs ∧ DpAll K H xs ds ∧ SeqAt.shaped d = true ∧ PyData.canLayAll0 ds = true ∧ Q (.bl (!ds.any fun y => PyData.eqv y d)) H
theorem op_ninD (hu : X.A.units + 65 < cLine) : OpR X (compareOp .NotIn) (rNinD X.K) := by
  intro pi s σ H x y v u Q I rx ry ⟨d, a, xs, ds, hd, ey, ha, hds, sd, okd, q⟩
  subst ey
  obtain ⟨as1, r1⟩ := Dp.reads I d x v hd rx
  obtain ⟨bs, r2⟩ := Dp.reads I (.tuple ds) (.ref a) u (.tup ha hds) ry
  exact SeqAt.notIn_tuple_reads r2 r1 okd (SeqAt.canLay_of_shaped sd) (room_t sd hu) ⟨.bl _, H, I, rfl, q⟩
end
end LS
namespace LS
open PySem L2 PySem.Spec PyProof.Rows LamX
/-- a def that may be called by its name -/
structure Ok1 (P : Program) (w : World) (K : PySem.W.Frag) (mg : Str → Option Value) (base : Heap) (n : Nat) (x : Str) (ps : List Str) (sp : Sp) (f : Addr) (fd : FuncData) : Prop where
  G : FnOk P w K mg base CX0 n f fd ps sp
  g : mg x = some (.ref f)
  kp : PySem.W.keepIn K (Value.ref f) = true
  b : Binds K fd ps []
def spScrR (T : List (Addr × Str)) : Sp := fun vs H Q _ => ∃ a b c d : Str, vs = [.str a, .str b, .str c] ∧ [a, b, c, d] ∈ nameRows ∧ Tabs T H ∧ ∀ H', ExtN H H' → Tabs T H' → Q (.bl true) H'
def spDisR (T : List (Addr × Str)) : Sp := fun vs H Q _ => ∃ a b c d : Str, vs = [.str a, .str b, .str c, .str d] ∧ [a, b, c, d] ∈ nameRows ∧ Tabs T H ∧ ∀ H', ExtN H H' → Tabs T H' → Q (.bl true) H'
theorem sz1 : 1 ≤ sizeLine := by decide
theorem sz2 : 2 ≤ sizeLine := by decide
theorem sz3 : 3 ≤ sizeLine := by decide
theorem sz4 : 4 ≤ sizeLine := by decide
theorem sz5 : 5 ≤ sizeLine := by decide
theorem scr1 {K : PySem.W.Frag} {H : Hp} {p q : Addr} {x y : Str} (h1 : Tn H p [.str x, .str y]) (h2 : Tn H q [.ref p]) : Scr K H q [(x, y)] := ⟨[p], h2.sq, h1, trivial⟩
theorem scr1N {H : Hp} {p q : Addr} {x y : Str} (h1 : Tn H p [.str x, .str y]) (h2 : Tn H q [.ref p]) : ScrN H q [(x, y)] := ⟨[p], h2, h1, trivial⟩
theorem form_at {K : PySem.W.Frag} {H : Hp} {r f b : Addr} {xs ys : List Str} (h : Tn H r [.ref f, .ref b]) (h1 : Tn H f (xs.map V.str)) (h2 : Tn H b (ys.map V.str)) : Dp K H (.ref r) (formD (xs, ys)) := FormAt.dp ⟨f, b, h, h1, h2⟩
end LS
namespace LS
open PySem L2 PySem.Spec PyProof.Rows LamX
theorem tab_u {T : List (Addr × Str)} (hn : (T.map Prod.fst).Nodup) {P : Addr} {q : Str} (h : (P, q) ∈ T) : ∀ p, p ∈ T → p.1 = P → p.2 = q := by
  induction T with
  | nil => exact nomatch h
  | cons x T ih =>
    rw [List.map_cons] at hn
    have hn' : x.1 ∉ T.map Prod.fst ∧ (T.map Prod.fst).Nodup := List.nodup_cons.mp hn
    intro p hp e
    rcases List.mem_cons.mp h with z | z <;> rcases List.mem_cons.mp hp with y | y
    · rw [y, ← z]
    · exact absurd (List.mem_map.mpr ⟨p, y, by rw [e, ← z]⟩) hn'.1
    · exact absurd (List.mem_map.mpr ⟨(P, q), z, by rw [← y, e]⟩) hn'.1
    · exact ih hn'.2 z p y e
/-- the tables of some defs are all different -/
def nodB (l : List He.Defn) (K : PySem.W.Frag) : Bool := decide ((l.map fun a => (He.cT K a).2).Nodup)
theorem nod_of {l : List He.Defn} {K : PySem.W.Frag} (c : nodB l K = true) : (l.map fun a => (He.cT K a).2).Nodup := of_decide_eq_true c
def fifteen : Str := "abcdefghijklmno"
theorem pre_at {i : Int} (h0 : 0 ≤ i) (h1 : i < 15) : ∃ c, atI fifteen.cps.toList i = some c ∧ (⟨#[c]⟩ : Str) ∈ signs fifteen := by
  obtain ⟨n, rfl⟩ : ∃ n : Nat, i = (n : Int) := ⟨i.toNat, by omega⟩
  have hl : fifteen.cps.toList.length = 15 := by decide +kernel
  have hn : n < fifteen.cps.toList.length := by omega
  refine ⟨fifteen.cps.toList[n], atI_nat (List.getElem?_eq_getElem hn), ?_⟩
  unfold signs
  exact List.mem_map.mpr ⟨_, List.getElem_mem hn, rfl⟩
theorem row_pre {p : Str} (h : p ∈ signs fifteen) : ((signs "abcd").map fun l => p ++ l) ∈ nameRows := List.mem_append_left _ (List.mem_map.mpr ⟨p, h, rfl⟩)
theorem row_four {r : List Str} (h : r ∈ nameRows) : ∃ a b c d, r = [a, b, c, d] := by
  have all : ∀ r, r ∈ nameRows → r.length = 4 := by decide +kernel
  match r, all r h with
  | [a, b, c, d], _ => exact ⟨a, b, c, d, rfl⟩
theorem last_in : lastRow ∈ nameRows := by decide +kernel
theorem sign_len {p : Str} {z : Str} (h : p ∈ signs z) : p.length = 1 := by
  obtain ⟨c, _, rfl⟩ := List.mem_map.mp h
  rfl
def aaD : PyData := .tuple [.str "a", .str "a"]
def upcD : PyData := .tuple [.tuple [.str "up", .str "c"]]
def ab2 : List Str := ["a", "b"]
def upd3 : List (Str × Str) := [("up", "a"), ("down", "a"), ("down", "a")]
theorem ord_aa : isOrdD aaD = false := by decide +kernel
theorem scr_upc : isScrD ab2 upcD = false := by decide +kernel
theorem idl_ab : idl ab2 upd3 upd3.length = [0, 2] := by decide +kernel
theorem sok (x : Str) (h : (PyData.strOk x && decide (x.length ≤ 1000)) = true) {H : Hp} : Dv H (.str x) (.str x) := by
  have h' := (Bool.and_eq_true _ _).mp h
  exact ⟨rfl, h'.1, of_decide_eq_true h'.2⟩
end LS
set_option maxHeartbeats 2100000
/-! wished first layers: all of them, none of them, some; examples -/
namespace LS
open PySem L2 PySem.Spec PyProof.Rows LamX
theorem wout_all {xs ts : List Str} (h : ∀ x, x ∈ xs → x ∈ ts) : wout xs ts = [] := by
  unfold wout
  rw [List.filter_eq_nil_iff]
  intro x hx
  simpa using h x hx
theorem wout_nil (xs : List Str) : wout xs [] = xs := by
  unfold wout
  rw [List.filter_eq_self]
  intro x _
  rfl
theorem tgts_full {os ts q : List Str} (hp : ts.Perm os) (hq : q ∈ tgts os ts) : q = ts := by
  obtain ⟨i, _, rfl⟩ := List.mem_map.mp hq
  unfold tgt
  rw [wout_all fun x hx => hp.mem_iff.mpr (List.mem_of_mem_drop hx), wout_all fun x hx => hp.mem_iff.mpr (List.mem_of_mem_take hx)]
  simp
theorem top_none {os q : List Str} (hn : os.Nodup) (h0 : 0 < os.length) (hmin : ∀ q', q' ∈ tgts os [] → dN os q ≤ dN os q') : dN os q = 0 := by
  have h := hmin _ (tgt_mem (i := 0) (Nat.zero_le _))
  have e : tgt os [] 0 = os := by
    unfold tgt
    rw [wout_nil, wout_nil]
    simp
  rw [e, dN_eq (dist_self hn h0)] at h
  omega
theorem top_fronts {os ts : List Str} (hn : os.Nodup) (ht : ts.Nodup) (hin : ∀ x, x ∈ ts → x ∈ os) (h0 : 0 < os.length) : dN os (tgt os ts 0) ≤ ts.length := by
  have e : (fronts ts.reverse).foldl moved os = tgt os ts 0 := by
    rw [run_fronts hn ((List.reverse_perm ts).nodup_iff.mpr ht) fun x hx => hin x (List.mem_reverse.mp hx), List.reverse_reverse]
    unfold tgt wout
    simp
  have hd : IsDist os (tgt os ts 0) (dN os (tgt os ts 0)) := dN_is (by rw [tgt_len hn ht hin]; exact h0)
  have := dist_least hn h0 (fun c hc => by
    obtain ⟨x, hx, rfl⟩ := List.mem_map.mp hc
    exact hin x (List.mem_reverse.mp hx)) e hd
  unfold fronts at this
  rw [List.length_map, List.length_reverse] at this
  exact this
theorem dN_ge {o t : List Str} {k : Nat} (h0 : 0 < t.length) (h : ∀ x, x ∈ stfrom t.length t.length → k ≤ cost o t x.1 x.2) : k ≤ dN o t := by
  obtain ⟨⟨a, b, hab, hb, e⟩, _⟩ := dN_is (o := o) h0
  have := h (a, b) ((mem_stfrom _ (Nat.le_refl _)).mpr ⟨by omega, hab, hb⟩)
  dsimp only at this
  omega
def rabs : List Str := ["r", "a", "b", "s"]
def topAB : List Str := ["a", "b"]
theorem d_rabs {q : List Str} (hq : q ∈ tgts rabs topAB) (hmin : ∀ q', q' ∈ tgts rabs topAB → dN rabs q ≤ dN rabs q') : dN rabs q = 1 := by
  have lo : ∀ q, q ∈ tgts rabs topAB → 0 < q.length ∧ ∀ x, x ∈ stfrom q.length q.length → 1 ≤ cost rabs q x.1 x.2 := by decide +kernel
  have ex : ∃ q, q ∈ tgts rabs topAB ∧ distB rabs q 1 = true := by decide +kernel
  obtain ⟨q1, h1, h2⟩ := ex
  have a1 := hmin q1 h1
  rw [dN_eq (distB_ok h2)] at a1
  have a2 := dN_ge (lo q hq).1 (lo q hq).2
  omega
def dabco : List Str := ["d", "a", "b", "c", "o"]
def topABCD : List Str := ["a", "b", "c", "d"]
theorem d_dabco {q : List Str} (hq : q ∈ tgts dabco topABCD) : dN dabco q = 2 := by
  have all : ∀ q, q ∈ tgts dabco topABCD → distB dabco q 2 = true := by decide +kernel
  exact dN_eq (distB_ok (all q hq))
/-- the distances of all orders that begin with ts -/
noncomputable def begD (os ts : List Str) (L : List (List Str)) : List Int := (L.filter fun t => decide (t.take ts.length = ts)).map fun t => ((dN os t : Nat) : Int)
theorem begD_snoc (os ts : List Str) (L : List (List Str)) (t : List Str) : begD os ts (L ++ [t]) = begD os ts L ++ if t.take ts.length = ts then [((dN os t : Nat) : Int)] else [] := by
  unfold begD
  rw [List.filter_append, List.map_append, List.filter_cons, List.filter_nil]
  by_cases c : t.take ts.length = ts
  · rw [if_pos c, decide_eq_true c]
    rfl
  · rw [if_neg c, decide_eq_false c]
    rfl
theorem begD_len (os ts : List Str) (L : List (List Str)) : (begD os ts L).length ≤ L.length := by
  unfold begD
  rw [List.length_map]
  exact List.length_filter_le _ _
theorem begD_least {os ts q : List Str} {m : Int} (hn : os.Nodup) (ht : ts.Nodup) (hin : ∀ x, x ∈ ts → x ∈ os) (h0 : 0 < os.length) (hq : q ∈ tgts os ts) (hmin : ∀ q', q' ∈ tgts os ts → dN os q ≤ dN os q') (hm : m ∈ begD os ts (ords os)) (hle : ∀ y, y ∈ begD os ts (ords os) → m ≤ y) : m = ((dN os q : Nat) : Int) := by
  obtain ⟨t, h1, rfl⟩ := List.mem_map.mp hm
  obtain ⟨h2, h3⟩ := List.mem_filter.mp h1
  have a1 := top_least hn h0 hq hmin ((mem_ords hn).mp h2) (of_decide_eq_true h3)
  have a2 := hle ((dN os q : Nat) : Int) (List.mem_map.mpr ⟨q, List.mem_filter.mpr ⟨(mem_ords hn).mpr (tgts_perm hn ht hin hq), decide_eq_true (tgts_take hq)⟩, rfl⟩)
  have a3 : dN os t ≤ dN os q := by omega
  omega
theorem begD_some {os ts : List Str} (hn : os.Nodup) (ht : ts.Nodup) (hin : ∀ x, x ∈ ts → x ∈ os) : 0 < (begD os ts (ords os)).length := by
  have hq : tgt os ts 0 ∈ tgts os ts := tgt_mem (Nat.zero_le _)
  exact List.length_pos_of_mem (List.mem_map.mpr ⟨_, List.mem_filter.mpr ⟨(mem_ords hn).mpr (tgts_perm hn ht hin hq), decide_eq_true (tgts_take hq)⟩, rfl⟩)
end LS
set_option maxHeartbeats 2100000
/-! a table from each result to the orders that lead to it -/
namespace LS
open PySem L2 PySem.Spec PyProof.Rows LamX
theorem valR_put {es : List Ent} {o r : List Str} {b : Addr} {v : V} : valR (putR es o b v) r = if r = o then some v else valR es r := by
  unfold putR
  cases h : (valR es o).isSome with
  | true =>
    rw [if_pos rfl]
    have e1 : ∀ l : List Ent, valR (l.map fun e => if e.1 = o then (e.1, e.2.1, v) else e) r = (valR l r).map fun u => if r = o then v else u := by
      intro l
      induction l with
      | nil => rfl
      | cons e l ih =>
        unfold valR at ih ⊢
        rw [List.map_cons, List.find?_cons, List.find?_cons]
        by_cases c : e.1 = r
        · by_cases d : e.1 = o
          · rw [if_pos d]
            simp only [decide_eq_true c, Option.map_some]
            rw [if_pos (c.symm.trans d)]
          · rw [if_neg d]
            simp only [decide_eq_true c, Option.map_some]
            rw [if_neg (fun z => d (c.trans z))]
        · have c2 : decide ((if e.1 = o then (e.1, e.2.1, v) else e).1 = r) = false := by
            refine decide_eq_false fun z => c ?_
            split at z
            · exact z
            · exact z
          rw [c2, decide_eq_false c]
          exact ih
    rw [e1]
    by_cases c : r = o
    · subst c
      rw [if_pos rfl]
      cases q : valR es r with
      | none =>
        rw [q] at h
        cases h
      | some u =>
        rw [Option.map_some, if_pos rfl]
    · rw [if_neg c]
      cases q : valR es r with
      | none => rfl
      | some u =>
        rw [Option.map_some, if_neg c]
  | false =>
    rw [if_neg (fun z : false = true => Bool.false_ne_true z)]; unfold valR at h ⊢
    rw [List.find?_append]
    by_cases c : r = o
    · subst c
      rw [if_pos rfl]
      cases q : es.find? (fun e => decide (e.1 = r)) with
      | none => simp
      | some u =>
        rw [q] at h
        cases h
    · rw [if_neg c]
      cases q : es.find? (fun e => decide (e.1 = r)) with
      | none =>
        have : ¬ o = r := fun z => c z.symm
        simp [this]
      | some u => rfl
def sel (M : List (List Str)) (cs : List (Str × Str)) (r : List Str) : List (List Str) := M.filter fun o => decide (runA o cs = r)
theorem sel_snoc (M : List (List Str)) (cs : List (Str × Str)) (r o : List Str) : sel (M ++ [o]) cs r = sel M cs r ++ if runA o cs = r then [o] else [] := by
  unfold sel
  rw [List.filter_append, List.filter_cons, List.filter_nil]
  by_cases c : runA o cs = r
  · rw [if_pos c, decide_eq_true c]
    rfl
  · rw [if_neg c, decide_eq_false c]
    rfl
theorem srcs_sel {xs r : List Str} (p : r.Perm xs) (cs : List (Str × Str)) : srcs r cs = sel (ords xs) cs r := by
  unfold srcs sel
  rw [ords_congr p]
/-- what the table holds when the orders of M are done -/
def TabF (H : Hp) (es : List Ent) (M : List (List Str)) (cs : List (Str × Str)) : Prop := ∀ r : List Str,
  (∀ v, valR es r = some v → ∃ (l : Addr) (la : List Addr), v = .ref l ∧ H l = some (.lst (la.map V.ref)) ∧ Tups H la (sel M cs r)) ∧ (valR es r = none → sel M cs r = [])
theorem tabF_nil (H : Hp) (cs : List (Str × Str)) : TabF H [] [] cs := fun r => ⟨(fun v h => nomatch h), fun _ => rfl⟩
theorem TabF.heap {H H' : Hp} {es : List Ent} {M : List (List Str)} {cs : List (Str × Str)} (t : TabF H es M cs) (kl : ∀ l xs, H l = some (.lst xs) → H' l = some (.lst xs)) (kt : ∀ {la : List Addr} {L : List (List Str)}, Tups H la L → Tups H' la L) : TabF H' es M cs := fun r => ⟨fun v hv => by
  obtain ⟨l, la, e1, e2, e3⟩ := (t r).1 v hv
  exact ⟨l, la, e1, kl _ _ e2, kt e3⟩, (t r).2⟩
theorem TabF.same {H H' : Hp} {es : List Ent} {M : List (List Str)} {cs : List (Str × Str)} (t : TabF H es M cs) (s : Same H H') : TabF H' es M cs := t.heap (fun _ _ e => s _ _ e) (fun h => h.same s)
/-- the value that get hands out, with a new empty list at n where there is none -/
theorem TabF.get {H : Hp} {es : List Ent} {M : List (List Str)} {cs : List (Str × Str)} (t : TabF H es M cs) (r : List Str) {n : Addr} (hn : H n = some (.lst [])) : ∃ (l : Addr) (la : List Addr), (valR es r).getD (.ref n) = .ref l ∧ H l = some (.lst (la.map V.ref)) ∧ Tups H la (sel M cs r) := by
  cases q : valR es r with
  | some v => exact (t r).1 v q
  | none =>
    refine ⟨n, [], rfl, hn, ?_⟩
    rw [(t r).2 q]
    trivial
/-- one more order: a new list for its result -/
theorem TabF.put {H : Hp} {es : List Ent} {M : List (List Str)} {cs : List (Str × Str)} (t : TabF H es M cs) {o : List Str} {b l : Addr} {la : List Addr} (hl : H l = some (.lst (la.map V.ref))) (hT : Tups H la (sel M cs (runA o cs) ++ [o])) : TabF H (putR es (runA o cs) b (.ref l)) (M ++ [o]) cs := fun r => by
  rw [valR_put, sel_snoc]
  by_cases c : r = runA o cs
  · rw [if_pos c, if_pos c.symm, c]
    refine ⟨fun v hv => ?_, (fun h => nomatch h)⟩
    cases hv
    exact ⟨l, la, rfl, hl, hT⟩
  · rw [if_neg c, if_neg (fun z => c z.symm), List.append_nil]
    exact t r
theorem sum_sel {cs : List (Str × Str)} {L : List (List Str)} (hL : L.Nodup) : ∀ {M : List (List Str)}, (∀ o, o ∈ M → runA o cs ∈ L) → (L.map fun r => (sel M cs r).length).sum = M.length
  | [], _ => by
    refine sum_zero fun x hx => ?_
    obtain ⟨r, _, rfl⟩ := List.mem_map.mp hx
    rfl
  | o :: M, h => by
    have ih := sum_sel hL (M := M) fun p hp => h p (List.mem_cons_of_mem _ hp)
    have e : (fun r => (sel (o :: M) cs r).length) = fun r => (if runA o cs = r then 1 else 0) + (sel M cs r).length := by
      funext r
      unfold sel
      rw [List.filter_cons]
      by_cases c : runA o cs = r
      · rw [if_pos c, if_pos (decide_eq_true c), List.length_cons, Nat.add_comm]
      · rw [if_neg c, if_neg (fun z => c (of_decide_eq_true z)), Nat.zero_add]
    rw [e, sum_add, ih, List.length_cons]
    have one : (L.map fun r => if runA o cs = r then 1 else 0).sum = 1 := by
      have hm := h o List.mem_cons_self
      clear ih h e
      induction L with
      | nil => exact nomatch hm
      | cons x L ih2 =>
        have hn := List.nodup_cons.mp hL
        rw [List.map_cons, List.sum_cons]; by_cases c : runA o cs = x
        · rw [if_pos c, sum_zero fun y hy => ?_]
          obtain ⟨r, hr, rfl⟩ := List.mem_map.mp hy
          exact if_neg fun z => hn.1 (by rw [← c, z]; exact hr)
        · rw [if_neg c, ih2 hn.2 ((List.mem_cons.mp hm).resolve_left c)]
    rw [one, Nat.add_comm]
theorem run_in {xs o : List Str} {cs : List (Str × Str)} (hn : xs.Nodup) (hin : ∀ c, c ∈ cs → c.2 ∈ xs) (ho : o ∈ ords xs) : runA o cs ∈ ords xs := by
  have p := (mem_ords hn).mp ho
  exact (mem_ords hn).mpr ((runA_perm fun c hc => p.mem_iff.mpr (hin c hc)).trans p)
theorem sel_le {M : List (List Str)} {cs : List (Str × Str)} {r : List Str} : (sel M cs r).length ≤ M.length := List.length_filter_le _ _
def abcR3 : List Str := ["a", "b", "c"]
def rowsA3 : List (List Str) := [["a", "b", "c"], ["b", "a", "c"], ["b", "c", "a"]]
def cmdFA : List (Str × Str) := [("front", "a")]
theorem srcs_abc : srcs abcR3 cmdFA = rowsA3 := x_srcs last_in
end LS
namespace LS
open PySem L2
theorem ords_6 {xs : List Str} (h : xs.length ≤ 6) : (ords xs).length ≤ 46656 := by
  have h1 := lev_len (srt xs) xs.length
  have h2 : (srt xs).length ^ xs.length ≤ 6 ^ xs.length := Nat.pow_le_pow_left (by rw [srt_len]; exact h) _
  have h3 : 6 ^ xs.length ≤ 6 ^ 6 := Nat.pow_le_pow_right (by decide) h
  exact Nat.le_trans h1 (Nat.le_trans h2 h3)
theorem small6 {n : Nat} (h : n ≤ 46657) : n < sizeLine := Nat.lt_of_le_of_lt h (by decide)
end LS
set_option maxHeartbeats 2100000
/-! six layers: how many orders there are, the length of a dict, levels as distances -/
namespace LS
open PySem L2 PySem.Spec PyProof.Rows LamX
section
variable {X : Cx}
def rLenR (P : Program) (w : World) : List V → Hp → VK → Prop := fun xs H Q => ∃ (a : Addr) (es : List Ent), xs = [.ref a] ∧ DicL P w H a es ∧ Q (.int ((es.length : Nat) : Int)) H
theorem call_lenR : CallR X (.builtin "len") (rLenR X.prog X.w) := by
  intro pi s σ H xs us Q I r ⟨a, es, e0, d, q⟩
  subst e0
  obtain ⟨u, e1, rx⟩ := vals1 r
  subst e1
  cases rx
  obtain ⟨h1, h2, ys, rel, dd⟩ := d.full I
  have hl : es.length = ys.length := Paired.length rel
  refine call_len_dictH h1 dd (by rw [← hl]; rw [sizeLine_eq] at h2; omega) ?_
  rw [← hl]; exact ⟨.int ((es.length : Nat) : Int), H, I.tok _, ⟨_, rfl⟩, q⟩
end
/-! ### the number of orders -/
theorem one1_len {ys o : List Str} (hn : ys.Nodup) (ho : o.Nodup) (hin : ∀ x, x ∈ o → x ∈ ys) : (one1 ys o).length = ys.length - o.length := by
  unfold one1
  rw [List.length_map]
  have h1 := (split_perm (os := ys) fun y => decide (y ∈ o)).length_eq
  have h2 : (ys.filter fun y => decide (y ∈ o)).length = o.length := by
    refine List.Perm.length_eq ((List.perm_ext_iff_of_nodup (hn.filter _) ho).mpr fun x => ?_)
    rw [List.mem_filter, decide_eq_true_iff]
    exact ⟨fun h => h.2, fun h => ⟨hin x h, h⟩⟩
  rw [List.length_append, h2] at h1
  omega
theorem flat_const {α β : Type} {f : α → List β} {n : Nat} : ∀ {L : List α}, (∀ x, x ∈ L → (f x).length = n) → (L.flatMap f).length = L.length * n
  | [], _ => by simp
  | x :: L, h => by
    rw [List.flatMap_cons, List.length_append, h x List.mem_cons_self, flat_const fun y hy => h y (List.mem_cons_of_mem _ hy), List.length_cons, Nat.succ_mul]
    omega
theorem lev_succ {ys : List Str} (hn : ys.Nodup) (k : Nat) : (lev ys (k + 1)).length = (lev ys k).length * (ys.length - k) := by
  refine flat_const fun o ho => ?_
  obtain ⟨h1, h2, h3⟩ := mem_lev.mp ho
  rw [one1_len hn h2 h3, h1]
theorem ords720 {xs : List Str} (hn : xs.Nodup) (h : xs.length = 6) : (ords xs).length = 720 := by
  unfold ords
  rw [h]
  have hn' := srt_nd.mpr hn
  have hl : (srt xs).length = 6 := by rw [srt_len, h]
  rw [lev_succ hn', lev_succ hn', lev_succ hn', lev_succ hn', lev_succ hn', lev_succ hn', hl]
  rfl
theorem levels_len {os : List Str} {es : List Ent} (hn : os.Nodup) (h1 : ∀ e, e ∈ es → ∃ k : Nat, e.2.2 = .int (k : Nat) ∧ Lv os k e.1) (h2 : ∀ o : List Str, o.Perm os → o ∈ rowsE es) (h3 : (rowsE es).Nodup) : es.length = (ords os).length := by
  rw [← List.length_map (f := fun e : Ent => e.1)]
  refine List.Perm.length_eq ((List.perm_ext_iff_of_nodup h3 (ords_nd hn)).mpr fun o => ?_)
  rw [mem_ords hn]
  refine ⟨fun h => ?_, h2 o⟩
  obtain ⟨e, he, rfl⟩ := List.mem_map.mp h
  obtain ⟨k, _, hl⟩ := h1 e he
  exact hl.perm
/-! ### the least level of the orders that begin so -/
theorem begL_least {os ts q : List Str} {L : List (List Str)} {m : Int} (hL : ∀ t : List Str, t ∈ L ↔ t.Perm os) (hn : os.Nodup) (ht : ts.Nodup) (hin : ∀ x, x ∈ ts → x ∈ os) (h0 : 0 < os.length) (hq : q ∈ tgts os ts) (hmin : ∀ q', q' ∈ tgts os ts → dN os q ≤ dN os q') (hm : m ∈ begD os ts L) (hle : ∀ y, y ∈ begD os ts L → m ≤ y) : m = ((dN os q : Nat) : Int) := by
  obtain ⟨t, h1, rfl⟩ := List.mem_map.mp hm
  obtain ⟨h2, h3⟩ := List.mem_filter.mp h1
  have a1 := top_least hn h0 hq hmin ((hL t).mp h2) (of_decide_eq_true h3)
  have a2 := hle ((dN os q : Nat) : Int) (List.mem_map.mpr ⟨q, List.mem_filter.mpr ⟨(hL q).mpr (tgts_perm hn ht hin hq), decide_eq_true (tgts_take hq)⟩, rfl⟩)
  have a3 : dN os t ≤ dN os q := by omega
  omega
theorem begL_some {os ts : List Str} {L : List (List Str)} (hL : ∀ t : List Str, t ∈ L ↔ t.Perm os) (hn : os.Nodup) (ht : ts.Nodup) (hin : ∀ x, x ∈ ts → x ∈ os) : 0 < (begD os ts L).length := by
  have hq : tgt os ts 0 ∈ tgts os ts := tgt_mem (Nat.zero_le _)
  exact List.length_pos_of_mem (List.mem_map.mpr ⟨_, List.mem_filter.mpr ⟨(hL _).mpr (tgts_perm hn ht hin hq), decide_eq_true (tgts_take hq)⟩, rfl⟩)
/-! ### beside the locked dict -/
def ButN (D : Addr) (H H' : Hp) : Prop := ∀ b u, b ≠ D → H b = some u → (∀ ps, u ≠ .tbl ps) → H' b = some u
theorem ButN.ext {D : Addr} {H H1 H2 : Hp} (h : ButN D H H1) (e : ExtN H1 H2) : ButN D H H2 := fun b u n q nt => e b u (h b u n q nt) nt
theorem ButN.same {D : Addr} {H H1 H2 : Hp} (h : ButN D H H1) (e : Same H1 H2) : ButN D H H2 := fun b u n q nt => e b u (h b u n q nt)
theorem ButN.upd {D S : Addr} {H H1 : Hp} {x : HO} (h : ButN D H H1) (n : H S = none) : ButN D H (upd H1 S x) := fun b u nb q nt => by
  rw [upd_ne (ne_of_none q n)]
  exact h b u nb q nt
theorem ButN.tn {D : Addr} {H H' : Hp} {P : Program} {w : World} {es : List Ent} (h : ButN D H H') (d : H D = some (DicO P w D es)) {a : Addr} {xs : List V} (t : Tn H a xs) : Tn H' a xs := by
  obtain ⟨ob, e1, e2⟩ := t
  refine ⟨ob, h a _ (fun z => ?_) e1 (fun ps z => by cases z), e2⟩
  rw [z, d] at e1
  exact dicO_nf ob _ (Option.some.inj e1)
theorem ButN.lst {D : Addr} {H H' : Hp} {P : Program} {w : World} {es : List Ent} (h : ButN D H H') (d : H D = some (DicO P w D es)) {a : Addr} {xs : List V} (t : H a = some (.lst xs)) : H' a = some (.lst xs) := h a _ (fun z => by rw [z, d] at t; cases t) t (fun ps z => by cases z)
theorem ButN.lock {D : Addr} {H H1 : Hp} {x : HO} (h : ExtN H H1) : ButN D H (L2.upd H1 D x) := fun b u nb q nt => by
  rw [upd_ne nb]
  exact h b u q nt
theorem ButN.open_ {P : Program} {w : World} {D : Addr} {H H' : Hp} {es : List Ent} (h : ButN D H H') (d : H D = some (DicO P w D es)) : ExtN H (L2.upd H' D (DicO P w D es)) := ext_unlock d h
theorem num_dN {os : List Str} (hn : os.Nodup) (h0 : 0 < os.length) {e : List Str} {k : Nat} (h : Lv os k e) : dN os e = k := dN_eq (dist_lv hn h0 h)
theorem stands_some {os mx : List Str} {ps : List (Str × Str)} (hp : mx.Perm os) (hs : stands mx ps = true) : ∀ r, IsPD os ps r → ∃ d, r = some d := fun r hr => by
  cases r with
  | some d => exact ⟨d, rfl⟩
  | none =>
    rw [hr mx hp] at hs
    cases hs
end LS
namespace K20
open PySem L2 LS PySem.Spec PyProof.Rows
def topS (i : Nat) : Stmt := PySem.Challenge.pw_layersteps_k20_whole_six_layers_by_searc.main.body.getD i (.Pass ⟨0, 0, 0, 0⟩)
abbrev sCell : Stmt := topS 22
abbrev sDigits : Stmt := topS 23
theorem scCell : FnScope ["script", "index"] ["script", "index"] (defScope sCell) := ⟨rfl, rfl, rfl, by decide +kernel, rfl, by decide +kernel, by decide +kernel⟩
theorem scDigits : FnScope ["script", "index", "count", "base", "primes", "cell", "rest", "digits", "k", "mixed"] ["script", "index", "count", "base"] (defScope sDigits) := ⟨rfl, rfl, rfl, by decide +kernel, rfl, by decide +kernel, by decide +kernel⟩
section
variable {K : PySem.W.Frag} {mg : Str → Option Value} {P : Program} {w : World} {base : Heap}
theorem ok_cell {f : Addr} {fd : FuncData} {k : Nat} (F : Fun K "_law_cell" "_law_cell" sCell f fd) (ml : mg "len" = none) : FnOk P w K mg base CX0 (k + 1) f fd ["script", "index"] (LS.spCell K) := by
  refine F.ok scCell (fun vs H Q E h => ?_) (fun cdv A outer s H vs Q E hr h => ?_)
  · obtain ⟨a, ns, j, rfl, _⟩ := h
    rfl
  · obtain ⟨a, ns, j, rfl, hS, q⟩ := h
    refine ⟨_, pss_cons (ps_if (pt_cmpR op_lt (pv 1) (pe_callB call_len_seq (by rfl) ml PySem.boot_len (pa_cons (pv 0) pa_nil)) (nomark _)) (pss_one (ps_ret (pe_ix ix_list (pv 0) (pv 1) (fun _ _ => rfl)))) pss_nil)
      (pss_cons (ps_if (pt_cmpR op_eq (pe_callB call_len_seq (by rfl) ml PySem.boot_len (pa_cons (pv 0) pa_nil)) pe_int (nomark _)) (pss_one (ps_ret (pe_op op_add (pe_op op_mul pe_int (pv 1)) pe_int))) pss_nil)
      (pss_one (ps_ret (pe_op op_add (pe_op op_mod (pe_ix ix_list (pv 0) (pe_op op_mod (pv 1) (pe_callB call_len_seq (by rfl) ml PySem.boot_len (pa_cons (pv 0) pa_nil))) (fun _ _ => rfl)) pe_int) (pe_op op_mul pe_int (pv 1)))))), ?_⟩
    refine ⟨_, rfl, _, rfl, a, _, rfl, .inl hS, _, _, rfl, rfl, _, rfl, ite2 (fun e => ?_) (fun e => ?_)⟩
    · have e1 := of_decide_eq_true e
      have h1 : j < ns.length := by
        rw [List.length_map] at e1
        omega
      refine ⟨_, rfl, _, rfl, a, _, _, .int ns[j], rfl, rfl, hS, atI_nat (j := j) ?_, q _⟩
      rw [List.getElem?_map, List.getElem?_eq_getElem h1]
      rfl
    · refine ⟨_, rfl, a, _, rfl, .inl hS, rfl, _, rfl, ite2 (fun e2 => ?_) (fun e2 => ?_)⟩
      · exact ⟨_, rfl, _, _, rfl, rfl, .inl ⟨by decide, by decide⟩, _, _, rfl, rfl, q _⟩
      · have hn : 0 < (ns.map V.int).length := by
          rcases Nat.eq_zero_or_pos (ns.map V.int).length with z | z
          · exact absurd (decide_eq_true (by rw [z]; rfl)) e2
          · exact z
        have hm1 := Int.emod_nonneg (j : Int) (show (((ns.map V.int).length : Nat) : Int) ≠ 0 by omega)
        have hm2 := Int.emod_lt_of_pos (j : Int) (show 0 < (((ns.map V.int).length : Nat) : Int) by omega)
        have hm : ((j : Int) % (((ns.map V.int).length : Nat) : Int)).toNat < ns.length := by
          rw [List.length_map] at hm2 hm1 ⊢
          omega
        refine ⟨_, rfl, _, rfl, _, rfl, a, _, rfl, .inl hS, _, _, rfl, rfl, by omega, a, _, _, .int (ns[((j : Int) % (((ns.map V.int).length : Nat) : Int)).toNat]), rfl, rfl, hS, at_of (j := ((j : Int) % (((ns.map V.int).length : Nat) : Int)).toNat) (by omega) ?_, _, _, rfl, rfl, (by show (0 : Int) < 1000003; decide), _, rfl, _, _, rfl, rfl, .inl ⟨by decide, by decide⟩, _, _, rfl, rfl, q _⟩
        rw [List.getElem?_map, List.getElem?_eq_getElem hm]
        rfl
theorem ok_digits {f fC : Addr} {fd fdC : FuncData} {k : Nat} (F : Fun K "_law_digits" "_law_digits" sDigits f fd) (FC : Fun K "_law_cell" "_law_cell" sCell fC fdC) (bC : Binds K fdC ["script", "index"] []) (gC : mg "_law_cell" = some (.ref fC)) (ml : mg "len" = none) (mr : mg "range" = none) :
    FnOk P w K mg base CX0 (k + 2) f fd ["script", "index", "count", "base"] (spDigits K) := by
  have GC : FnOk P w K mg base CX0 (k + 1) fC fdC ["script", "index"] (LS.spCell K) := ok_cell FC ml
  refine F.ok scDigits (fun vs H Q E h => ?_) (fun cdv A outer s H vs Q E hr h => ?_)
  · obtain ⟨a, ns, j, n, b, rfl, _⟩ := h
    rfl
  · obtain ⟨a, ns, j, n, b, rfl, hS, hj, hn, hb0, hb1, q⟩ := h
    have nd := scDigits.nd
    refine ⟨_, pss_cons (ps_set (i := 4) nd rfl (.inl rfl) (pe_tupS (pa_cons pe_int (pa_cons pe_int (pa_cons pe_int (pa_cons pe_int (pa_cons pe_int (pa_cons pe_int (pa_cons pe_int (pa_cons pe_int pa_nil))))))))))
      (pss_cons (ps_set (i := 5) nd rfl (.inl rfl) (pe_call GC hr (by rfl) gC FC.kp bC .nil pass0 (pa_cons (pv 0) (pa_cons (pv 1) pa_nil))))
      (pss_cons (ps_set (i := 6) nd rfl (.inl rfl) (pe_mono (pe_ifExp (pt_cmpR op_ge (pv 5) (pe_op op_pow pe_int pe_int) (nomark _)) (pv 5) pe_int)))
      (pss_cons (ps_set (i := 7) nd rfl (.inl rfl) (pe_lstS pa_nil))
      (pss_cons (ps_for PassesOwn.never rfl (pi_range1 (by rfl) mr (pa_cons (pv 2) pa_nil)) (pg_name (i := 8) nd rfl (.inl rfl))
        (pss_cons (ps_set (i := 9) nd rfl (.inl rfl) (pe_op op_mul (pe_op op_mod (pv 5) (pe_ix ix_tup (pv 4) (pe_op op_mod (pv 8) pe_int) (fun _ _ => rfl))) (pe_op op_add pe_int (pe_op op_mul (pe_op op_mul pe_int (pv 8)) (pv 8)))))
        (C8.pss_cut (ps_set (i := 9) nd rfl (.inl rfl) (pe_op op_add (pe_op op_add (pv 9) (pe_op op_mul (pe_op op_mul pe_int (pe_op op_add (pv 8) pe_int)) (pe_op op_add (pv 8) pe_int))) (pe_op op_mul pe_int (pv 1))))
        (C8.pss_cut (ps_set (i := 9) nd rfl (.inl rfl) (pe_op op_mod (pv 9) (pe_ix ix_tup (pv 4) (pe_op op_mod (pe_op op_add (pe_op op_mul pe_int (pv 8)) (pv 1)) pe_int) (fun _ _ => rfl))))
        (C8.pss_cut (ps_set (i := 9) nd rfl (.inl rfl) (pe_op op_mod (pe_op op_mul (pe_op op_mul (pv 9) (pv 9)) (pv 9)) (pe_ix ix_tup (pv 4) (pe_op op_mod (pe_op op_add (pv 8) pe_int) pe_int) (fun _ _ => rfl))))
        (C8.pss_cut (ps_if (pt_cmpR op_gt (pv 6) pe_int (nomark _)) (pss_one (ps_set (i := 9) nd rfl (.inl rfl) (pv 6))) pss_nil)
        (pss_cons (ps_expr (pe_bm PySem.F.plainAttrs_list PySem.F.slot_list_append PySem.F.type_list_append mt_append (pv 7) (pa_cons (pe_op op_mod (pv 9) (pv 3)) pa_nil)))
        (pss_one (ps_set (i := 6) nd rfl (.inl rfl) (pe_op op_fdiv (pv 6) (pv 3)))))))))))
      (pss_one (ps_ret (pv 7))))))), ?_⟩
    refine ⟨(by show 8 ≤ sizeLine; decide), fun t H1 s1 nt ht => ?_⟩
    refine ⟨_, rfl, _, rfl, a, ns, j, rfl, s1.seq hS, fun c => ?_⟩
    refine ⟨fun v H' => ∃ r : Int, v = .int r ∧ H1 = H', ⟨_, rfl, _, _, rfl, rfl, ⟨by decide, by decide, by decide⟩, _, _, rfl, rfl, _, rfl, ite2 (fun _ => ⟨_, rfl, c, rfl, rfl⟩) (fun _ => ⟨0, rfl, rfl⟩)⟩, ?_⟩
    rintro v H' ⟨r, rfl, rfl⟩
    refine ⟨Nat.zero_le _, fun o H2 s2 no ho => ?_⟩
    refine ⟨_, rfl, (n : Int), rfl, by omega, by omega, ?_⟩
    have ht2 : SqT K H2 t (primes.map V.int) := (ht.same s2).sq
    rw [show ((n : Int)).toNat = n by omega]
    refine for_range (n := n) (fun i σ H3 => ∃ (ds : List Int) (rs : Int) (y8 y9 : Option V), σ = [some (.ref a), some (.int (j : Int)), some (.int (n : Int)), some (.int b), some (.ref t), some (.int c), some (.int rs), some (.ref o), y8, y9] ∧ ds.length = i ∧ (∀ d, d ∈ ds → 0 ≤ d ∧ d < b) ∧ Same H1 H3 ∧ H3 o = some (.lst (ds.map V.int)))
      ⟨[], r, none, none, rfl, rfl, (fun d h => nomatch h), s2, ho⟩ ?_ ?_
    · rintro i σ H3 hi ⟨ds, rs, y8, y9, rfl, hl, hd, s3, ho3⟩
      have hT : SqT K H3 t (primes.map V.int) := (ht.same s3).sq
      obtain ⟨q1, g1, p1, l1⟩ := prime_at ((0 : Int) + (i : Int))
      obtain ⟨q2, g2, p2, l2⟩ := prime_at (3 * ((0 : Int) + (i : Int)) + (j : Int))
      obtain ⟨q3, g3, p3, l3⟩ := prime_at (((0 : Int) + (i : Int)) + 5)
      have m0 := Int.emod_nonneg c (show q1 ≠ 0 by omega)
      have m1 := Int.emod_lt_of_pos c p1
      refine ⟨_, rfl, _, rfl, _, rfl, _, _, rfl, rfl, (by show (0 : Int) < 8; decide), t, _, _, _, rfl, rfl, hT, g1, _, _, rfl, rfl, p1, _, rfl, _, _, rfl, rfl, .inl ⟨by decide, by decide⟩, _, rfl, _, _, rfl, rfl, .inr ⟨by omega, by omega⟩, _, _, rfl, rfl, _, _, rfl, rfl, .inl ⟨by omega, by omega⟩, ?_⟩
      let fr : Int → L2.St := fun m => [some (.ref a), some (.int (j : Int)), some (.int (n : Int)), some (.int b), some (.ref t), some (.int c), some (.int rs), some (.ref o), some (.int (0 + (i : Int))), some (.int m)]
      refine ⟨fun σ' H' => ∃ m : Int, σ' = fr m ∧ H3 = H', ⟨_, rfl, _, rfl, _, _, rfl, rfl, _, _, rfl, rfl, .inl ⟨by decide, by decide⟩, _, rfl, _, _, rfl, rfl, _, _, rfl, rfl, .inr ⟨by omega, by omega⟩, _, _, rfl, rfl, _, rfl, _, _, rfl, rfl, .inl ⟨by decide, by decide⟩, _, _, rfl, rfl, _, rfl, rfl⟩, ?_⟩
      rintro σ' H' ⟨m2, rfl, rfl⟩
      have n0 := Int.emod_nonneg m2 (show q2 ≠ 0 by omega)
      have n1 := Int.emod_lt_of_pos m2 p2
      refine ⟨fun σ' H' => ∃ m : Int, (0 ≤ m ∧ m < 2147483648) ∧ σ' = fr m ∧ H3 = H', ⟨_, rfl, _, rfl, _, rfl, _, _, rfl, rfl, .inl ⟨by decide, by decide⟩, _, rfl, _, _, rfl, rfl, _, _, rfl, rfl, (by show (0 : Int) < 8; decide), t, _, _, _, rfl, rfl, hT, g2, _, _, rfl, rfl, p2, m2 % q2, ⟨n0, by omega⟩, rfl, rfl⟩, ?_⟩
      rintro σ' H' ⟨m3, ⟨k0, k1⟩, rfl, rfl⟩
      refine ⟨fun σ' H' => ∃ m : Int, σ' = fr m ∧ H3 = H', ⟨_, rfl, _, rfl, _, _, rfl, rfl, .inl ⟨by omega, by omega⟩, _, rfl, _, _, rfl, rfl, .inr ⟨by omega, by omega⟩, _, rfl, _, rfl, _, _, rfl, rfl, _, _, rfl, rfl, (by show (0 : Int) < 8; decide), t, _, _, _, rfl, rfl, hT, g3, _, _, rfl, rfl, p3, _, rfl, rfl⟩, ?_⟩
      rintro σ' H' ⟨m4, rfl, rfl⟩
      refine ⟨fun σ' H' => ∃ m : Int, σ' = fr m ∧ H3 = H', ?_, ?_⟩
      · exact ⟨_, rfl, _, _, rfl, rfl, _, rfl, ite2 (fun _ => ⟨_, rfl, rs, rfl, rfl⟩) (fun _ => ⟨m4, rfl, rfl⟩)⟩
      · rintro σ' H' ⟨m5, rfl, rfl⟩
        have e0 := Int.emod_nonneg m5 (show b ≠ 0 by omega)
        have e1 := Int.emod_lt_of_pos m5 hb0
        refine ⟨_, rfl, .inl ⟨rfl, _, SqL.of ho3⟩, _, rfl, _, rfl, _, _, rfl, rfl, hb0, o, _, _, rfl, rfl, ho3, ?_, ?_⟩
        · rw [List.length_map]
          exact small1000 (by omega)
        · refine ⟨_, rfl, _, rfl, _, _, rfl, rfl, ⟨hb0, hb1⟩, ds ++ [m5 % b], rs / b, _, _, rfl, ?_, ?_, ?_, ?_⟩
          · rw [List.length_append]
            show ds.length + 1 = i + 1
            omega
          · intro d hm
            rcases List.mem_append.mp hm with z | z
            · exact hd d z
            · rw [show _ = _ from List.mem_singleton.mp z]
              exact ⟨e0, e1⟩
          · intro x y z
            rw [upd_ne (ne_of_none z no)]
            exact s3 _ _ z
          · rw [upd_same, List.map_append]
            rfl
    · rintro σ H3 ⟨ds, rs, y8, y9, rfl, hl, hd, s3, ho3⟩
      exact ⟨_, rfl, q ds o H3 (s1.trans s3) (s1.free no) ho3 hl hd⟩
end
abbrev sMixed : Stmt := topS 26
theorem scMixed : FnScope ["digits", "names", "order", "rest", "at"] ["digits", "names"] (defScope sMixed) := ⟨rfl, rfl, rfl, by decide +kernel, rfl, by decide +kernel, by decide +kernel⟩
section
variable {K : PySem.W.Frag} {mg : Str → Option Value} {P : Program} {w : World} {base : Heap}
theorem ok_mixed {f : Addr} {fd : FuncData} {k : Nat} (F : Fun K "_law_mixed" "_law_mixed" sMixed f fd) (ml : mg "len" = none) (mi : mg "list" = none) : FnOk P w K mg base CX0 (k + 1) f fd ["digits", "names"] (spMixed K) := by
  refine F.ok scMixed (fun vs H Q E h => ?_) (fun cdv A outer s H vs Q E hr h => ?_)
  · obtain ⟨d, n, ds, ss, rfl, _⟩ := h
    rfl
  · obtain ⟨d, n, ds, ss, rfl, hD, hN, hok, hl, hl2, q⟩ := h
    have nd := scMixed.nd
    refine ⟨_, pss_cons (ps_par (i := 2) (j := 3) rfl nd rfl rfl (by decide) rfl rfl (pa_cons (pe_tupS pa_nil) (pa_cons (pe_callTy call_listS (by rfl) mi (by decide +kernel) (pa_cons (pv 1) pa_nil)) pa_nil)) rfl)
      (pss_cons (ps_while PassesOwn.never (pt_cmpR (op_neLs hr.units) (pv 3) (pe_lstS pa_nil) (nomark _))
        (pss_cons (ps_set (i := 4) nd rfl (.inl rfl) (pe_op op_mod (pe_ix ix_list (pv 0) (pe_callB call_len_seq (by rfl) ml PySem.boot_len (pa_cons (pv 2) pa_nil)) (fun _ _ => rfl)) (pe_callB call_len_seq (by rfl) ml PySem.boot_len (pa_cons (pv 3) pa_nil))))
        (pss_cons (ps_set (i := 2) nd rfl (.inl rfl) (pe_op op_catS (pv 2) (pe_tupS (pa_cons (pe_ix ix_list (pv 3) (pv 4) (fun _ _ => rfl)) pa_nil))))
        (pss_one (ps_set (i := 3) nd rfl (.inl rfl) (pe_op op_catLS (pe_slice sl_listS (pv 3) po_none (po_some (pv 4))) (pe_slice sl_listS (pv 3) (po_some (pe_op op_add (pv 4) pe_int)) po_none)))))))
      (pss_one (ps_ret (pv 2)))), ?_⟩
    refine ⟨Nat.zero_le _, fun t H1 s1 nt ht => ?_⟩
    refine ⟨_, rfl, n, _, rfl, hN.elim (fun z => .inl (s1.seq z)) (fun z => .inr (sameT s1 z)), fun l H2 s2 nl hl' => ?_⟩
    refine ⟨_, _, rfl, ?_⟩
    let W : Nat → L2.St → Hp → Prop := fun m σ H3 => ∃ (os rs : List Str) (o r : Addr) (y4 : Option V), σ = [some (.ref d), some (.ref n), some (.ref o), some (.ref r), y4] ∧ Same H H3 ∧ Tn H3 o (os.map V.str) ∧ H3 r = some (.lst (rs.map V.str)) ∧ (os ++ rs).Perm ss ∧ m = rs.length
    refine ⟨W, ⟨ss.length, [], ss, t, l, none, rfl, s1.trans s2, ht.same s2, hl', List.Perm.refl _, rfl⟩, ?_⟩
    rintro m σ H3 ⟨os, rs, o, r, y4, rfl, s3, ho, hr3, hp, rfl⟩
    have hlen : os.length + rs.length = ss.length := by
      rw [← List.length_append]
      exact hp.length_eq
    have okr : StrsOk rs := fun z hz => hok z (hp.mem_iff.mp (List.mem_append_right _ hz))
    refine ⟨_, rfl, Nat.zero_le _, fun e H4 s4 ne he => ?_⟩
    refine ⟨r, e, rs, [], rfl, rfl, SqL.of (s4 _ _ hr3), SqL.of he, okr, (fun z hz => nomatch hz), _, rfl, ite2 (fun c => ?_) (fun c => ?_)⟩
    · have hrs : rs ≠ [] := by
        intro z
        subst z
        exact absurd c (by decide)
      have hpos : 0 < rs.length := List.length_pos_iff.mpr hrs
      have hd4 : SqL K H4 d (ds.map V.int) := (s3.trans s4).seq hD
      have hor : os.length < ds.length := by omega
      have m0 := Int.emod_nonneg ds[os.length] (show ((rs.map V.str).length : Int) ≠ 0 by rw [List.length_map]; omega)
      have m1 := Int.emod_lt_of_pos ds[os.length] (show 0 < ((rs.map V.str).length : Int) by rw [List.length_map]; omega)
      obtain ⟨i, ei⟩ : ∃ i : Nat, ds[os.length] % ((rs.map V.str).length : Int) = (i : Int) := ⟨_, (Int.toNat_of_nonneg m0).symm⟩
      have hi : i < rs.length := by
        rw [List.length_map] at m1 ei
        omega
      refine ⟨fun σ' H' => ∃ m', m' < rs.length ∧ W m' σ' H', fun _ _ z => z, ?_⟩
      refine ⟨_, rfl, _, rfl, o, _, rfl, .inr (ho.same s4).sq, d, _, _, .int ds[os.length], rfl, rfl, hd4, at_of (j := os.length) (by rw [List.length_map]) ?_, _, rfl, r, _, rfl, .inl (SqL.of (s4 _ _ hr3)), _, _, rfl, rfl, (by show (0 : Int) < ((rs.map V.str).length : Int); rw [List.length_map]; omega), ?_⟩
      · rw [List.getElem?_map, List.getElem?_eq_getElem hor]
        rfl
      · have hr4 := s4 _ _ hr3
        have gi : (rs.map V.str)[i]? = some (.str rs[i]) := by
          rw [List.getElem?_map, List.getElem?_eq_getElem hi]
          rfl
        refine ⟨_, rfl, _, rfl, _, rfl, r, _, _, _, rfl, rfl, SqL.of hr4, at_of ei gi, (by show 1 ≤ sizeLine; decide), fun t2 H5 s5 nt2 ht2 => ?_⟩
        refine ⟨o, t2, _, _, rfl, rfl, (ho.same s4).same s5, ht2, ?_, fun o2 H6 s6 ho2 => ?_⟩
        · rw [List.length_map]
          show os.length + 1 ≤ sizeLine
          exact Nat.le_of_lt (small1000 (by omega))
        · have hr6 := s6 _ _ (s5 _ _ hr4)
          refine ⟨_, rfl, _, rfl, _, rfl, r, _, rfl, SqL.of hr6, fun l1 H7 s7 nl1 hl1 => ?_⟩
          have hr7 := s7 _ _ hr6
          refine ⟨_, rfl, _, rfl, _, _, rfl, rfl, _, rfl, r, _, rfl, SqL.of hr7, fun l2 H8 s8 nl2 hl2 => ?_⟩
          rw [ei, cut_to] at hl1
          rw [ei, show ((i : Int) + 1) = ((i + 1 : Nat) : Int) by omega, cut_from] at hl2
          refine ⟨l1, l2, _, _, rfl, rfl, s8 _ _ hl1, hl2, ?_, fun l3 H9 s9 nl3 hl3 => ?_⟩
          · rw [← List.length_append, List.length_append, List.length_take, List.length_drop, List.length_map]
            exact Nat.le_of_lt (small1000 (by omega))
          · refine ⟨rs.length - 1, by omega, os ++ [rs[i]], rs.take i ++ rs.drop (i + 1), o2, l3, _, rfl, ?_, ?_, ?_, ?_, ?_⟩
            · exact ((((((s3.trans s4).trans s5).trans s6).trans s7).trans s8).trans s9)
            · rw [List.map_append]
              exact ((ho2.same s7).same s8).same s9
            · rw [hl3, ← List.map_take, ← List.map_drop, ← List.map_append]
            · refine List.Perm.trans ?_ hp
              rw [List.append_assoc]
              exact (take_drop_perm rs i hi).append_left os
            · rw [List.length_append, List.length_take, List.length_drop]
              omega
    · have hrs : rs = [] := by
        cases rs with
        | nil => rfl
        | cons x y => exact absurd (by simp) c
      subst hrs
      rw [List.append_nil] at hp
      exact ⟨_, rfl, q os o H4 (s3.trans s4) (ho.same s4) hp⟩
end
abbrev sNames : Stmt := topS 25
theorem scNames : FnScope ["digits", "count", "names", "start"] ["digits", "count"] (defScope sNames) := ⟨rfl, rfl, rfl, by decide +kernel, rfl, by decide +kernel, by decide +kernel⟩
section
variable {K : PySem.W.Frag} {mg : Str → Option Value} {P : Program} {w : World} {base : Heap}
theorem ok_names {f fM : Addr} {fd fdM : FuncData} {k : Nat} (F : Fun K "_law_names" "_law_names" sNames f fd) (FM : Fun K "_law_mixed" "_law_mixed" sMixed fM fdM) (bM : Binds K fdM ["digits", "names"] []) (gM : mg "_law_mixed" = some (.ref fM)) (ml : mg "len" = none) (mi : mg "list" = none) :
    FnOk P w K mg base CX0 (k + 2) f fd ["digits", "count"] (spNames K) := by
  have GM : FnOk P w K mg base CX0 (k + 1) fM fdM ["digits", "names"] (spMixed K) := ok_mixed FM ml mi
  refine F.ok scNames (fun vs H Q E h => ?_) (fun cdv A outer s H vs Q E hr h => ?_)
  · obtain ⟨d, n, ds, rfl, _⟩ := h
    rfl
  · obtain ⟨d, n, ds, rfl, hD, hl, hl2, hn, q⟩ := h
    have nd := scNames.nd
    refine ⟨_, pss_cons (ps_set (i := 2) nd rfl (.inl rfl) (pe_lstS (pa_cons pe_str (pa_cons pe_str (pa_cons pe_str (pa_cons pe_str (pa_cons pe_str (pa_cons pe_str (pa_cons pe_str (pa_cons pe_str (pa_cons pe_str (pa_cons pe_str pa_nil))))))))))))
      (pss_cons (ps_set (i := 3) nd rfl (.inl rfl) (pe_op op_mod (pe_ix ix_list (pv 0) pe_int (fun _ _ => rfl)) pe_int))
      (pss_cons (ps_set (i := 2) nd rfl (.inl rfl) (pe_slice sl_listS (pe_op op_catLS (pe_slice sl_listS (pv 2) (po_some (pv 3)) po_none) (pe_slice sl_listS (pv 2) po_none (po_some (pv 3)))) po_none (po_some (pv 1))))
      (pss_one (ps_ret (pe_call GM hr (by rfl) gM FM.kp bM .nil pass0 (pa_cons (pe_slice sl_listS (pv 0) (po_some pe_int) po_none) (pa_cons (pv 2) pa_nil))))))), ?_⟩
    refine ⟨(by show 10 ≤ sizeLine; decide), fun a1 H1 s1 n1 h1 => ?_⟩
    replace h1 : H1 a1 = some (.lst (tenNames.map V.str)) := h1
    have g0 : (ds.map V.int)[0]? = some (.int (ds[0]'(by omega))) := by
      rw [List.getElem?_map, List.getElem?_eq_getElem (by omega)]
      rfl
    obtain ⟨i, ei⟩ : ∃ i : Nat, (ds[0]'(by omega)) % 10 = (i : Int) := ⟨_, (Int.toNat_of_nonneg (Int.emod_nonneg _ (show (10 : Int) ≠ 0 by decide))).symm⟩
    refine ⟨_, rfl, d, _, _, _, rfl, rfl, s1.seq hD, atI_nat (j := 0) g0, _, _, rfl, rfl, (by show (0 : Int) < 10; decide), ?_⟩
    refine ⟨_, rfl, _, rfl, _, rfl, a1, _, rfl, SqL.of h1, fun a2 H2 s2 n2 h2 => ?_⟩
    refine ⟨_, rfl, _, rfl, _, rfl, a1, _, rfl, SqL.of (s2 _ _ h1), fun a3 H3 s3 n3 h3 => ?_⟩
    rw [ei, cut_from] at h2
    rw [ei, cut_to] at h3
    refine ⟨a2, a3, _, _, rfl, rfl, s3 _ _ h2, h3, ?_, fun a4 H4 s4 n4 h4 => ?_⟩
    · rw [← List.length_append, List.length_append, List.length_take, List.length_drop, List.length_map]
      exact Nat.le_of_lt (small1000 (by show 10 - i + min i 10 ≤ 1000; omega))
    · rw [← List.map_take, ← List.map_drop, ← List.map_append] at h4
      refine ⟨_, rfl, _, rfl, a4, _, rfl, SqL.of h4, fun a5 H5 s5 n5 h5 => ?_⟩
      rw [cut_to, ← List.map_take] at h5
      have sA : Same H H5 := (((s1.trans s2).trans s3).trans s4).trans s5
      refine ⟨_, rfl, 1, rfl, d, _, rfl, sA.seq hD, fun a6 H6 s6 n6 h6 => ?_⟩
      rw [show (1 : Int) = ((1 : Nat) : Int) from rfl, cut_from, ← List.map_drop] at h6
      have pr := rot_perm tenNames i
      have ln : (tenNames.drop i ++ tenNames.take i).length = 10 := pr.length_eq
      refine ⟨_, rfl, a6, a5, ds.drop 1, _, rfl, SqL.of h6, .inl (SqL.of (s6 _ _ h5)), ?_, ?_, ?_, fun os p H7 s7 hp hP => ?_⟩
      · exact fun z hz => ten_ok z (pr.mem_iff.mp (List.mem_of_mem_take hz))
      · rw [List.length_take, List.length_drop, ln]
        omega
      · rw [List.length_take, ln]
        omega
      · refine q os p H7 ((sA.trans s6).trans s7) hp ?_ ?_ fun z hz => ?_
        · exact hP.nodup_iff.mpr (((pr.nodup_iff.mpr ten_nd).sublist (List.take_sublist _ _)))
        · rw [hP.length_eq, List.length_take, ln]
          omega
        · exact pr.mem_iff.mp (List.mem_of_mem_take (hP.mem_iff.mp hz))
end
abbrev sMoved : Stmt := topS 24
theorem scMoved : FnScope ["order", "command", "name", "layer", "rest", "at", "other"] ["order", "command"] (defScope sMoved) := ⟨rfl, rfl, rfl, by decide +kernel, rfl, by decide +kernel, by decide +kernel⟩
section
variable {K : PySem.W.Frag} {mg : Str → Option Value} {P : Program} {w : World} {base : Heap}
theorem ok_moved {f : Addr} {fd : FuncData} {k : Nat} (F : Fun K "_law_moved" "_law_moved" sMoved f fd) (ml : mg "len" = none) (mM : mg "max" = none) (mm : mg "min" = none) (mt : mg "tuple" = none) : FnOk P w K mg base CX0 (k + 1) f fd ["order", "command"] (spMoved K) := by
  refine F.ok scMoved (fun vs H Q E h => ?_) (fun cdv A outer s H vs Q E hr h => ?_)
  · obtain ⟨o, c, os, wd, ly, rfl, _⟩ := h
    rfl
  · obtain ⟨o, c, os, wd, ly, rfl, hO, hC, hm, hnd, hl, q⟩ := h
    have nd := scMoved.nd
    refine ⟨_, pss_cons (ps_asg (pv 1) (pg_tup rfl (pgs_cons (pg_name (i := 2) nd rfl (.inl rfl)) (pgs_cons (pg_name (i := 3) nd rfl (.inr rfl)) pgs_nil))))
      (pss_cons (ps_setLc (i := 4) (own := [("other", 6)]) (g := gName 6) rfl nd rfl rfl (sw_true rfl rfl rfl (by decide +kernel)) (pi_tup (pv 0)) (blkOk_by (N := ["order", "command", "name", "layer", "rest", "at", "other"]) (sc := defScope sMoved) (by decide +kernel)) (fun _ _ _ _ _ => pg_name (i := 6) nd rfl (Or.inl rfl)) (fun _ _ _ _ _ => pts_one (pt_cmpR op_ne (pv 6) (pv 3) (nomark _))) (fun _ _ _ _ _ => pv 6))
      (pss_cons (ps_set (i := 5) nd rfl (.inl rfl) (pe_tindex (pv 0) (pa_cons (pv 3) pa_nil)))
      (C8.pss_cut (ps_if (pt_cmpR op_eq (pv 2) pe_str (nomark _)) (pss_one (ps_set (i := 5) nd rfl (.inl rfl) pe_int))
        (pss_one (ps_if (pt_cmpR op_eq (pv 2) pe_str (nomark _)) (pss_one (ps_set (i := 5) nd rfl (.inl rfl) (pe_callB call_len_seq (by rfl) ml PySem.boot_len (pa_cons (pv 4) pa_nil))))
          (pss_one (ps_set (i := 5) nd rfl (.inl rfl) (pe_ifExp (pt_cmpR op_eq (pv 2) pe_str (nomark _)) (pe_callB (call_max2 rfl) (by rfl) mM boot_max (pa_cons pe_int (pa_cons (pe_op op_sub (pv 5) pe_int) pa_nil))) (pe_callB (call_min2 rfl) (by rfl) mm boot_min (pa_cons (pe_callB call_len_seq (by rfl) ml PySem.boot_len (pa_cons (pv 4) pa_nil)) (pa_cons (pe_op op_add (pv 5) pe_int) pa_nil)))))))))
      (pss_one (ps_ret (pe_callTy call_tupleS (by rfl) mt (by decide +kernel) (pa_cons (pe_op op_catLS (pe_op op_catLS (pe_slice sl_listS (pv 4) po_none (po_some (pv 5))) (pe_lstS (pa_cons (pv 3) pa_nil))) (pe_slice sl_listS (pv 4) (po_some (pv 5)) po_none)) pa_nil))))))), ?_⟩
    refine ⟨_, rfl, c, _, rfl, hC, rfl, _, _, rfl, _, _, rfl, rfl, ?_⟩
    refine ⟨_, rfl, o, rfl, ⟨_, hO.sq⟩, fun D nD => ?_⟩
    refine lc_it (walk_tup (xs := os.map V.str)) (fun i H3 => Same H H3 ∧ H3 D = some (.lst (((os.take i).filter (fun x => !decide (V.str x = V.str ly))).map V.str))) ⟨same_new nD, upd_same⟩ (fun i H3 _ ⟨s3, _⟩ => sameT s3 hO.sq) ?_ ?_
    · rintro i x H3 H' hi ⟨s3, h3⟩ ⟨rfl, hx⟩
      rw [List.length_map] at hi
      have ex : x = .str os[i] := by
        rw [List.getElem?_map, List.getElem?_eq_getElem hi] at hx
        exact (Option.some.inj hx).symm
      subst ex
      have et : os.take (i + 1) = os.take i ++ [os[i]] := by
        rw [List.take_add_one, List.getElem?_eq_getElem hi]
        rfl
      refine ⟨rfl, ?_⟩
      refine ⟨_, rfl, _, rfl, rfl, _, rfl, ite2 (fun e => ?_) (fun e => ?_)⟩
      · refine ⟨_, rfl, _, h3, ?_, ?_, ?_⟩
        · rw [List.length_map]
          exact small1000 (Nat.le_trans (List.length_filter_le _ _) (by rw [List.length_take]; omega))
        · intro b y z
          rw [upd_ne (ne_of_none z nD)]
          exact s3 _ _ z
        · rw [upd_same, et, List.filter_append, List.map_append]
          congr 3
          rw [List.filter_cons, if_pos e]
          rfl
      · refine ⟨s3, ?_⟩
        rw [h3, et, List.filter_append, List.filter_cons, if_neg e, List.filter_nil, List.append_nil]
    · rintro H3 ⟨s3, h3⟩
      rw [List.length_map, List.take_of_length_le (Nat.le_refl _), filter_outV hnd hm] at h3
      have ho := out_len hm
      refine ⟨_, rfl, ⟨o, _, rfl, hO.same s3⟩, _, rfl, o, os, ly, idx os ly, rfl, rfl, (hO.same s3).sq, idx_at hm, fun m h => idx_first m h, ?_⟩
      generalize et : newIx wd (idx os ly) (outOf os ly).length = t
      refine ⟨fun σ' H' => σ' = [some (.ref o), some (.ref c), some (.str wd), some (.str ly), some (.ref D), some (.int (t : Int)), none] ∧ H3 = H', ?_, ?_⟩
      · unfold newIx at et
        refine ⟨_, rfl, rfl, _, rfl, ite2 (fun e => ?_) (fun e => ?_)⟩
        · rw [if_pos (V.str.inj (of_decide_eq_true e))] at et
          subst et
          exact ⟨rfl, rfl⟩
        · rw [if_neg (fun z => e (decide_eq_true (congrArg V.str z)))] at et
          refine ⟨_, rfl, rfl, _, rfl, ite2 (fun e2 => ?_) (fun e2 => ?_)⟩
          · rw [if_pos (V.str.inj (of_decide_eq_true e2))] at et
            subst et
            refine ⟨_, rfl, D, _, rfl, .inl (SqL.of h3), ?_, rfl⟩
            rw [List.length_map]
            rfl
          · rw [if_neg (fun z => e2 (decide_eq_true (congrArg V.str z)))] at et
            refine ⟨_, rfl, rfl, _, rfl, ite2 (fun e3 => ?_) (fun e3 => ?_)⟩
            · rw [if_pos (V.str.inj (of_decide_eq_true e3))] at et
              refine ⟨_, rfl, _, _, rfl, rfl, _, _, rfl, ?_, rfl⟩
              have e4 : (if (idx os ly : Int) - 1 > 0 then (idx os ly : Int) - 1 else 0) = (t : Int) := by
                rw [← et]
                split <;> omega
              rw [e4]
              rfl
            · rw [if_neg (fun z => e3 (decide_eq_true (congrArg V.str z)))] at et
              refine ⟨_, rfl, D, _, rfl, .inl (SqL.of h3), _, rfl, _, _, rfl, rfl, _, _, rfl, ?_, rfl⟩
              have e4 : (if (idx os ly : Int) + 1 < ((((outOf os ly).map V.str).length : Nat) : Int) then (idx os ly : Int) + 1 else ((((outOf os ly).map V.str).length : Nat) : Int)) = (t : Int) := by
                rw [← et, List.length_map]
                split <;> omega
              rw [e4]
              rfl
      · rintro σ' H' ⟨rfl, rfl⟩
        refine ⟨_, rfl, _, rfl, _, rfl, D, _, rfl, SqL.of h3, fun a4 H4 s4 n4 h4 => ?_⟩
        refine ⟨_, rfl, (by show 1 ≤ sizeLine; decide), fun a5 H5 s5 n5 h5 => ?_⟩
        rw [cut_to] at h4
        refine ⟨a4, a5, _, _, rfl, rfl, s5 _ _ h4, h5, ?_, fun a6 H6 s6 n6 h6 => ?_⟩
        · rw [List.length_take, List.length_map]
          exact Nat.le_of_lt (small1000 (show min t (outOf os ly).length + 1 ≤ 1000 by omega))
        · refine ⟨_, rfl, _, rfl, _, rfl, D, _, rfl, SqL.of (s6 _ _ (s5 _ _ (s4 _ _ h3))), fun a7 H7 s7 n7 h7 => ?_⟩
          rw [cut_from] at h7
          refine ⟨a6, a7, _, _, rfl, rfl, s7 _ _ h6, h7, ?_, fun a8 H8 s8 n8 h8 => ?_⟩
          · rw [List.length_append, List.length_take, List.length_map, List.length_drop, List.length_map]
            exact Nat.le_of_lt (small1000 (show min t (outOf os ly).length + 1 + ((outOf os ly).length - t) ≤ 1000 by omega))
          · refine ⟨a8, _, rfl, .inl (SqL.of h8), fun p H9 s9 h9 => ?_⟩
            refine q p H9 ((((((s3.trans s4).trans s5).trans s6).trans s7).trans s8).trans s9) ?_
            have e : (moved os (wd, ly)).map V.str = ((outOf os ly).map V.str).take t ++ [V.str ly] ++ ((outOf os ly).map V.str).drop t := by
              show (LS.putAt (outOf os ly) ly (newIx wd (idx os ly) (outOf os ly).length)).map V.str = _
              rw [et]
              unfold LS.putAt
              rw [List.map_append, List.map_append, List.map_take, List.map_drop]
              rfl
            rw [e]
            exact h9
end
end K20
namespace K20
open PySem L2 LS PySem.Spec PyProof.Rows
abbrev sWrong : Stmt := topS 1
abbrev sCost : Stmt := topS 2
abbrev sAll : Stmt := topS 3
abbrev sBest : Stmt := topS 4
abbrev sDistance : Stmt := topS 5
theorem scWrong : FnScope ["order", "layers", "at", "front", "behind"] ["order", "layers"] (defScope sWrong) := ⟨rfl, rfl, rfl, by decide +kernel, rfl, by decide +kernel, by decide +kernel⟩
theorem scCost : FnScope ["order", "target", "start", "end", "outside"] ["order", "target", "start", "end"] (defScope sCost) := ⟨rfl, rfl, rfl, by decide +kernel, rfl, by decide +kernel, by decide +kernel⟩
theorem scAll : FnScope ["size", "start", "end"] ["size"] (defScope sAll) := ⟨rfl, rfl, rfl, by decide +kernel, rfl, by decide +kernel, by decide +kernel⟩
theorem scBest : FnScope ["order", "target", "stretch"] ["order", "target"] (defScope sBest) := ⟨rfl, rfl, rfl, by decide +kernel, rfl, by decide +kernel, by decide +kernel⟩
theorem scDistance : FnScope ["order", "target", "start", "end"] ["order", "target"] (defScope sDistance) := ⟨rfl, rfl, rfl, by decide +kernel, rfl, by decide +kernel, by decide +kernel⟩
section
open LamX
variable {K : PySem.W.Frag} {mg : Str → Option Value} {P : Program} {w : World} {base : Heap}
theorem ok_wrong {f : Addr} {fd : FuncData} {k : Nat} (F : Fun K "wrong_pairs" "wrong_pairs" sWrong f fd) (me : mg "enumerate" = none) : FnOk P w K mg base CX0 (k + 1) f fd ["order", "layers"] spWrong := by
  refine F.ok scWrong (fun vs H Q E h => ?_) (fun cdv A outer s H vs Q E hr h => ?_)
  · obtain ⟨o, t, os, ts, rfl, _⟩ := h
    rfl
  · obtain ⟨o, t, os, ts, rfl, hO, hT, hin, hl, q⟩ := h
    have nd := scWrong.nd
    refine ⟨_, pss_one (ps_ret (pe_lc2 (own := [("at", 2), ("front", 3), ("behind", 4)]) (vs1 := [4]) (g := gTup K 2 (gCons (gName 2) (gCons (gName 3) gNil))) (g1 := gName 4) (tt := tYes) rfl nd (pi_enumT (by rfl) me (pa_cons (pv 1) pa_nil)) (blkOk_by (N := ["order", "layers", "at", "front", "behind"]) (sc := defScope sWrong) (by decide +kernel)) (by decide)
      (fun _ _ _ _ _ => pg_tup rfl (pgs_cons (pg_name (i := 2) nd rfl (.inl rfl)) (pgs_cons (pg_name (i := 3) nd rfl (.inl rfl)) pgs_nil))) (fun _ _ _ _ _ => pts_nil)
      (fun _ _ _ _ _ => pi_tupK (K := K) rfl (pe_slice sl_tupS (pv 1) (po_some (pe_op op_add (pv 2) pe_int)) po_none)) (fun _ _ _ _ _ => pg_name (i := 4) nd rfl (.inl rfl))
      (fun _ _ _ _ _ => pts_one (pt_cmpR op_lt (pe_tindexK (K := K) rfl (pv 0) (pa_cons (pv 4) pa_nil)) (pe_tindexK (K := K) rfl (pv 0) (pa_cons (pv 3) pa_nil)) (nomark _)))
      (fun _ _ _ _ _ => pe_tupS (pa_cons (pv 3) (pa_cons (pv 4) pa_nil))))), ?_⟩
    refine ⟨_, rfl, t, _, rfl, hT.sq, fun D nD => ?_⟩
    refine out_it (walk_enumT (xs := ts.map V.str)) (fun i H3 => ∃ (as : List Addr) (L : List (Str × Str)), Same H H3 ∧ H3 D = some (.lst (as.map V.ref)) ∧ Cmds H3 as L ∧ L ++ wpairs os (ts.drop i) = wpairs os ts) ⟨[], [], same_new nD, upd_same, trivial, rfl⟩ (fun i H3 _ ⟨_, _, s3, _⟩ => sameT s3 hT.sq) ?_ ?_
    · rintro i x H3 H4 hi ⟨as, L, s3, hD3, hC, hL⟩ ⟨T', x1, x2, rfl, nT, rfl, e1, e2⟩
      rw [List.length_map] at hi
      have ex2 : x2 = .str ts[i] := by
        dsimp only at e2
        rw [List.getElem?_map, List.getElem?_eq_getElem hi] at e2
        exact (Option.some.inj e2).symm
      subst ex2
      have ex1 : x1 = .int (i : Nat) := (Option.some.inj e1).symm
      subst ex1
      have sT : Same H3 (upd H3 T' (.tup [.int (i : Nat), .str ts[i]])) := same_new nT
      refine ⟨T', _, rfl, SqT.of upd_same, rfl, _, _, rfl, _, _, rfl, rfl, ?_⟩
      refine ⟨rfl, ?_⟩
      unfold tYes
      dsimp only
      rw [if_pos rfl]
      refine ⟨_, rfl, _, rfl, _, _, rfl, rfl, _, rfl, t, _, rfl, (hT.same s3).same sT, fun sg H5 s5 h5 => ?_⟩
      rw [show ((i : Nat) : Int) + 1 = ((i + 1 : Nat) : Int) by omega, cut_from, ← List.map_drop] at h5
      have sA : Same H3 H5 := sT.trans s5
      have ed : ts.drop i = ts[i] :: ts.drop (i + 1) := List.drop_eq_getElem_cons hi
      have hi2 : ts[i] ∈ os := hin _ (List.getElem_mem hi)
      refine ⟨sg, rfl, ⟨_, h5.sq⟩, ?_⟩
      refine in_it (walk_tup (xs := (ts.drop (i + 1)).map V.str)) (fun j H6 => ∃ (as' : List Addr) (M : List (Str × Str)), Same H H6 ∧ Tn H6 sg ((ts.drop (i + 1)).map V.str) ∧ H6 D = some (.lst (as'.map V.ref)) ∧ Cmds H6 as' M ∧ M ++ wp1 os ts[i] ((ts.drop (i + 1)).drop j) = L ++ wp1 os ts[i] (ts.drop (i + 1)))
        ⟨as, L, s3.trans sA, h5, sA _ _ hD3, hC.same sA, rfl⟩ (fun j H6 _ ⟨_, _, _, h6, _⟩ => h6.sq) ?_ ?_
      · rintro j y H6 H7 hj ⟨as', M, s6, h6, hD6, hC6, hM⟩ ⟨rfl, hy⟩
        rw [List.length_map] at hj
        have hj' : i + 1 + j < ts.length := by
          rw [List.length_drop] at hj
          omega
        have ey : y = .str (ts.drop (i + 1))[j] := by
          rw [List.getElem?_map, List.getElem?_eq_getElem hj] at hy
          exact (Option.some.inj hy).symm
        subst ey
        have hyo : (ts.drop (i + 1))[j] ∈ os := hin _ (List.mem_of_mem_drop (List.getElem_mem hj))
        have edj : (ts.drop (i + 1)).drop j = (ts.drop (i + 1))[j] :: (ts.drop (i + 1)).drop (j + 1) := List.drop_eq_getElem_cons hj
        refine ⟨rfl, ?_⟩
        refine ⟨_, rfl, ⟨o, _, rfl, hO.same s6⟩, _, rfl, o, os, _, idx os (ts.drop (i + 1))[j], rfl, rfl, (hO.same s6).sq, idx_at hyo, (fun m h => idx_first m h), ?_⟩
        refine ⟨_, rfl, ⟨o, _, rfl, hO.same s6⟩, _, rfl, o, os, _, idx os ts[i], rfl, rfl, (hO.same s6).sq, idx_at hi2, (fun m h => idx_first m h), _, _, rfl, rfl, _, rfl, ite2 (fun c => ?_) (fun c => ?_)⟩
        · have c1 : bef os (ts.drop (i + 1))[j] ts[i] = true := decide_eq_true (by have := of_decide_eq_true c; omega)
          have e1 : wp1 os ts[i] ((ts.drop (i + 1)).drop j) = (ts[i], (ts.drop (i + 1))[j]) :: wp1 os ts[i] ((ts.drop (i + 1)).drop (j + 1)) := by
            rw [edj]
            unfold wp1
            rw [List.filter_cons, if_pos c1]
            rfl
          refine ⟨_, rfl, _, rfl, (by show 2 ≤ sizeLine; decide), fun p H8 s8 n8 h8 => ?_⟩
          have hD8 := s8 _ _ hD6
          refine ⟨_, hD8, ?_, ?_⟩
          · rw [List.length_map, hC6.len]
            have b1 : M.length ≤ (wpairs os ts).length := by
              rw [← hL, ed]
              show M.length ≤ (L ++ (wp1 os ts[i] (ts.drop (i + 1)) ++ wpairs os (ts.drop (i + 1)))).length
              have b2 := congrArg List.length hM
              rw [List.length_append, List.length_append] at b2
              rw [List.length_append, List.length_append]
              omega
            rw [wpairs_len] at b1
            have b3 := inv_le os ts
            have b4 : ts.length * ts.length ≤ 100 * 100 := Nat.mul_le_mul hl hl
            refine Nat.lt_of_le_of_lt (Nat.le_trans b1 (Nat.le_trans b3 b4)) (by decide)
          · have kp : ∀ b z, b ≠ D → H8 b = some z → (upd H8 D (.lst (as'.map V.ref ++ [.ref p]))) b = some z := fun b z nb e => by
              rw [upd_ne nb]
              exact e
            refine ⟨as' ++ [p], M ++ [(ts[i], (ts.drop (i + 1))[j])], fun b z e => ?_, tn_keep hD8 kp (h6.same s8), ?_, Cmds.snoc (tn_keep hD8 kp h8) (Cmds.keep hD8 kp (hC6.same s8)), ?_⟩
            · rw [upd_ne (ne_of_none e nD)]
              exact s8 _ _ (s6 _ _ e)
            · rw [upd_same, List.map_append]
              rfl
            · rw [List.append_assoc, ← hM, e1]
              rfl
        · have c1 : ¬ bef os (ts.drop (i + 1))[j] ts[i] = true := fun z => c (decide_eq_true (by have := of_decide_eq_true z; omega))
          have e1 : wp1 os ts[i] ((ts.drop (i + 1)).drop j) = wp1 os ts[i] ((ts.drop (i + 1)).drop (j + 1)) := by
            rw [edj]
            unfold wp1
            rw [List.filter_cons, if_neg c1]
          exact ⟨as', M, s6, h6, hD6, hC6, by rw [← hM, e1]⟩
      · rintro H6 ⟨as', M, s6, h6, hD6, hC6, hM⟩
        rw [List.length_map, List.drop_eq_nil_of_le (Nat.le_refl _)] at hM
        refine ⟨as', M, s6, hD6, hC6, ?_⟩
        have e : M = L ++ wp1 os ts[i] (ts.drop (i + 1)) := by
          rw [← hM]
          simp [wp1]
        rw [e, ← hL, ed, List.append_assoc]
        rfl
    · rintro H3 ⟨as, L, s3, hD3, hC, hL⟩
      rw [List.length_map, List.drop_eq_nil_of_le (Nat.le_refl _)] at hL
      have e : L = wpairs os ts := by
        rw [← hL]
        simp [wpairs]
      rw [e] at hC
      exact q D as H3 s3 nD hD3 hC
end
end K20
namespace K20
open PySem L2 LS PySem.Spec PyProof.Rows
section
open LamX
variable {K : PySem.W.Frag} {mg : Str → Option Value} {P : Program} {w : World} {base : Heap}
theorem ok_cost {f fW : Addr} {fd fdW : FuncData} {k : Nat} (F : Fun K "stretch_cost" "stretch_cost" sCost f fd) (aW : At K mg "wrong_pairs" sWrong ["order", "layers"] fW fdW) (ml : mg "len" = none) (me : mg "enumerate" = none) : FnOk P w K mg base CX0 (k + 2) f fd ["order", "target", "start", "end"] spCost := by
  have GW : FnOk P w K mg base CX0 (k + 1) fW fdW ["order", "layers"] spWrong := ok_wrong aW.F me
  refine F.ok scCost (fun vs H Q E h => ?_) (fun cdv A outer s H vs Q E hr h => ?_)
  · obtain ⟨o, t, os, ts, a, b, rfl, _⟩ := h
    rfl
  · obtain ⟨o, t, os, ts, a, b, rfl, hO, hT, hin, hl, hab, hb, q⟩ := h
    have nd := scCost.nd
    refine ⟨_, pss_cons (ps_set (i := 4) nd rfl (.inl rfl) (pe_op op_sub (pe_callB call_len_seq (by rfl) ml PySem.boot_len (pa_cons (pv 1) pa_nil)) (pe_op op_sub (pv 3) (pv 2))))
      (pss_one (ps_ret (pe_op op_add (pv 4) (pe_callB call_len_seq (by rfl) ml PySem.boot_len (pa_cons (pe_call GW hr (by rfl) aW.g aW.F.kp aW.b .nil pass0 (pa_cons (pv 0) (pa_cons (pe_slice sl_tupS (pv 1) (po_some (pv 2)) (po_some (pv 3))) pa_nil))) pa_nil))))), ?_⟩
    refine ⟨_, rfl, t, _, rfl, .inr hT.sq, _, rfl, _, rfl, _, _, rfl, rfl, _, _, rfl, rfl, ?_⟩
    refine ⟨_, rfl, _, rfl, _, rfl, _, rfl, _, rfl, _, rfl, _, rfl, t, _, rfl, hT, fun sg H1 s1 h1 => ?_⟩
    rw [cut_mid _ _ _ (by rw [List.length_map]; omega), ← List.map_drop, ← List.map_take] at h1
    refine ⟨o, sg, os, (ts.drop a).take (b - a), rfl, hO.same s1, h1, (fun x hx => hin x (seg_mem hx)), ?_, fun p as H2 s2 np hp hC => ?_⟩
    · rw [List.length_take, List.length_drop]
      omega
    · refine ⟨p, _, rfl, .inl (SqL.of hp), _, _, rfl, rfl, ?_⟩
      have e : ((ts.map V.str).length : Int) - ((b : Int) - (a : Int)) + (((as.map V.ref).length : Nat) : Int) = (cost os ts a b : Int) := by
        rw [List.length_map, List.length_map, hC.len, wpairs_len]
        unfold cost
        omega
      show Q (.int (((ts.map V.str).length : Int) - ((b : Int) - (a : Int)) + (((as.map V.ref).length : Nat) : Int))) H2
      rw [e]
      exact q H2 (s1.trans s2)
theorem ok_all {f : Addr} {fd : FuncData} {k : Nat} (F : Fun K "all_stretches" "all_stretches" sAll f fd) (mr : mg "range" = none) : FnOk P w K mg base CX0 (k + 1) f fd ["size"] spAll := by
  refine F.ok scAll (fun vs H Q E h => ?_) (fun cdv A outer s H vs Q E hr h => ?_)
  · obtain ⟨n, rfl, _⟩ := h
    rfl
  · obtain ⟨n, rfl, hn, q⟩ := h
    have nd := scAll.nd
    refine ⟨_, pss_one (ps_ret (pe_lc2 (own := [("start", 1), ("end", 2)]) (vs1 := [2]) (g := gName 1) (g1 := gName 2) (tt := tYes) (tt1 := tYes) rfl nd (pi_range1 (by rfl) mr (pa_cons (pv 0) pa_nil)) (blkOk_by (N := ["size", "start", "end"]) (sc := defScope sAll) (by decide +kernel)) (by decide)
      (fun _ _ _ _ _ => pg_name (i := 1) nd rfl (.inl rfl)) (fun _ _ _ _ _ => pts_nil) (fun _ _ _ _ _ => pi_range2 (by rfl) mr (pa_cons (pe_op op_add (pv 1) pe_int) (pa_cons (pe_op op_add (pv 0) pe_int) pa_nil))) (fun _ _ _ _ _ => pg_name (i := 2) nd rfl (.inl rfl)) (fun _ _ _ _ _ => pts_nil)
      (fun _ _ _ _ _ => pe_tupS (pa_cons (pv 1) (pa_cons (pv 2) pa_nil))))), ?_⟩
    refine ⟨_, rfl, (n : Int), rfl, by omega, by omega, fun D nD => ?_⟩
    rw [show ((n : Int)).toNat = n by omega]
    refine out_it walk_range (fun i H3 => ∃ (as : List Addr) (L : List (Nat × Nat)), Same H H3 ∧ H3 D = some (.lst (as.map V.ref)) ∧ Prs H3 as L ∧ L ++ stfrom n (n - i) = stfrom n n) ⟨[], [], same_new nD, upd_same, trivial, by rw [Nat.sub_zero]; rfl⟩ (fun _ _ _ _ => trivial) ?_ ?_
    · rintro i x H3 H4 hi ⟨as, L, s3, hD3, hP, hL⟩ ⟨rfl, ex⟩
      dsimp only at ex
      subst ex
      refine ⟨rfl, yes_then ?_⟩
      refine ⟨_, rfl, _, _, rfl, rfl, _, rfl, _, _, rfl, rfl, _, _, rfl, ⟨by omega, by omega, by omega, by omega⟩, ?_⟩
      have en : ((n : Int) + 1 - (0 + (i : Int) + 1)).toNat = n - i := by omega
      rw [en]
      have es : stfrom n (n - i) = strow n i ++ stfrom n (n - (i + 1)) := by
        rw [show n - i = (n - (i + 1)) + 1 by omega]
        show strow n (n - (n - (i + 1) + 1)) ++ _ = _
        rw [show n - (n - (i + 1) + 1) = i by omega]
      refine in_it walk_range (fun j H6 => ∃ (as' : List Addr) (M : List (Nat × Nat)), Same H H6 ∧ H6 D = some (.lst (as'.map V.ref)) ∧ Prs H6 as' M ∧ M ++ ((List.range (n - i)).drop j).map (fun d => (i, i + 1 + d)) = L ++ strow n i) ⟨as, L, s3, hD3, hP, rfl⟩ (fun _ _ _ _ => trivial) ?_ ?_
      · rintro j y H6 H7 hj ⟨as', M, s6, hD6, hP6, hM⟩ ⟨rfl, ey⟩
        dsimp only at ey
        subst ey
        have hj' : j < (List.range (n - i)).length := by
          rw [List.length_range]
          exact hj
        have edj : (List.range (n - i)).drop j = j :: (List.range (n - i)).drop (j + 1) := by
          rw [List.drop_eq_getElem_cons hj', List.getElem_range]
        refine ⟨rfl, yes_then ?_⟩
        refine ⟨_, rfl, _, rfl, (by show 2 ≤ sizeLine; decide), fun p H8 s8 n8 h8 => ?_⟩
        have hD8 := s8 _ _ hD6
        refine ⟨_, hD8, ?_, ?_⟩
        · rw [List.length_map, hP6.len]
          have b1 : M.length ≤ (stfrom n n).length := by
            rw [← hL, es]
            have b2 := congrArg List.length hM
            rw [List.length_append, List.length_append] at b2
            rw [List.length_append, List.length_append]
            omega
          have b3 := len_stfrom n n (Nat.le_refl _)
          have b4 : n * n ≤ 100 * 100 := Nat.mul_le_mul hn hn
          exact Nat.lt_of_le_of_lt (Nat.le_trans b1 (Nat.le_trans b3 b4)) (by decide)
        · have kp : ∀ b z, b ≠ D → H8 b = some z → (upd H8 D (.lst (as'.map V.ref ++ [.ref p]))) b = some z := fun b z nb e => by
            rw [upd_ne nb]
            exact e
          have h8' : Tn H8 p [.int (((i, i + 1 + j) : Nat × Nat).1 : Int), .int (((i, i + 1 + j) : Nat × Nat).2 : Int)] := by
            have e1 : (0 : Int) + (i : Int) = ((i : Nat) : Int) := by omega
            have e2 : (0 : Int) + (i : Int) + 1 + (j : Int) = ((i + 1 + j : Nat) : Int) := by omega
            rw [e1] at h8
            rw [e1] at e2
            rw [e2] at h8
            exact h8
          refine ⟨as' ++ [p], M ++ [(i, i + 1 + j)], fun b z e => ?_, ?_, Prs.snoc (tn_keep hD8 kp h8') (Prs.keep hD8 kp (hP6.ext (ext_of s8))), ?_⟩
          · rw [upd_ne (ne_of_none e nD)]
            exact s8 _ _ (s6 _ _ e)
          · rw [upd_same, List.map_append]
            rfl
          · rw [← hM, edj, List.append_assoc]
            rfl
      · rintro H6 ⟨as', M, s6, hD6, hP6, hM⟩
        rw [List.drop_eq_nil_of_le (by rw [List.length_range]; exact Nat.le_refl _), List.map_nil, List.append_nil] at hM
        refine ⟨as', M, s6, hD6, hP6, ?_⟩
        rw [hM, ← hL, es, List.append_assoc]
    · rintro H3 ⟨as, L, s3, hD3, hP, hL⟩
      rw [Nat.sub_self] at hL
      have e : L = stfrom n n := by
        rw [← hL]
        simp [stfrom]
      rw [e] at hP
      exact q D as H3 s3 hD3 hP
end
end K20
namespace K20
open PySem L2 LS PySem.Spec PyProof.Rows
section
open LamX
variable {K : PySem.W.Frag} {mg : Str → Option Value} {P : Program} {w : World} {base : Heap}
theorem ok_best {f c Pt fW fC fA : Addr} {fd dW dC dA : FuncData} {k : Nat} {T : List (Addr × Str)} (hm0 : (Pt, lamQ) ∈ T) (hu0 : ∀ p, p ∈ T → p.1 = Pt → p.2 = lamQ) (F : FunC K "best_stretch" "best_stretch" sBest f fd c) (TB : TabB base mg c Pt) (aW : At K mg "wrong_pairs" sWrong ["order", "layers"] fW dW) (aC : At K mg "stretch_cost" sCost ["order", "target", "start", "end"] fC dC) (aA : At K mg "all_stretches" sAll ["size"] fA dA)
    (ml : mg "len" = none) (me : mg "enumerate" = none) (mr : mg "range" = none) (mn : mg "min" = none) : FnOk P w K mg base CX0 (k + 5) f fd ["order", "target"] (spBest T) := by
  have GA : FnOk P w K mg base CX0 (k + 4) fA dA ["size"] spAll := ok_all aA.F mr
  have GC : FnOk P w K mg base CX0 (k + 2) fC dC ["order", "target", "start", "end"] spCost := ok_cost aC.F aW ml me
  refine F.ok scBest (fun vs H Q E h => ?_) (fun A outer s H vs Q E hr h => ?_)
  · obtain ⟨o, t, os, ts, rfl, _⟩ := h
    rfl
  · obtain ⟨o, t, os, ts, rfl, hO, hT, hin, h0, hl, hTb, q⟩ := h
    have nd := scBest.nd
    refine ⟨_, pss_one (ps_ret (pe_minKD (T := T) (c := c) (P := Pt) (k := k + 2) (j := 2) (par := "stretch") (by rfl) mn TB rfl hm0 hu0 hr rfl nd rfl (lamS1_by (sc := defScope sBest) (by decide +kernel)) rfl (fun _ _ _ _ _ _ => rfl)
      (pa_cons (pe_call GA hr (by rfl) aA.g aA.F.kp aA.b .nil pass0 (pa_cons (pe_callB call_len_seq (by rfl) ml PySem.boot_len (pa_cons (pv 1) pa_nil)) pa_nil)) pa_nil)
      (pe_tupS (pa_cons pe_int (pa_cons pe_int pa_nil)))
      (fun A' s' H' f' c' hr2 => pe_call GC hr2 (by rfl) aC.g aC.F.kp aC.b .nil pass0 (pa_cons (pv 0) (pa_cons (pv 1) (pa_cons (pe_ix (r := rIxT K) ix_tup (pv 2) pe_int (fun _ _ => rfl)) (pa_cons (pe_ix (r := rIxT K) ix_tup (pv 2) pe_int (fun _ _ => rfl)) pa_nil))))))), ?_⟩
    refine ⟨_, rfl, t, _, rfl, .inr hT.sq, (ts.map V.str).length, rfl, by rw [List.length_map]; exact hl, fun p as H1 s1 hp hP => ?_⟩
    rw [List.length_map] at hP
    have hm : ∀ {a b : Nat}, (a, b) ∈ stfrom ts.length ts.length ↔ a < b ∧ b ≤ ts.length := fun {a b} => by
      rw [mem_stfrom _ (Nat.le_refl _)]
      constructor
      · rintro ⟨_, h2, h3⟩
        exact ⟨h2, h3⟩
      · rintro ⟨h2, h3⟩
        exact ⟨by omega, h2, h3⟩
    have ne : as ≠ [] := by
      intro z
      have h1 := hP.len
      rw [z] at h1
      have h2 : (0, 1) ∈ stfrom ts.length ts.length := hm.mpr ⟨by omega, h0⟩
      rw [List.eq_nil_of_length_eq_zero h1.symm] at h2
      cases h2
    refine ⟨p, as.map V.ref, rfl, (fun z => ne (List.map_eq_nil_iff.mp z)), hTb.ext s1, fun H5 c' eN5 T5 hco5 => ⟨(by show 2 ≤ sizeLine; decide), fun p5 H2 s5 _ _ => ?_⟩⟩
    have eN := eN5.trans (ext_of s5)
    have T2 : Tabs T H2 := T5.ext s5
    have hco := ext_of s5 _ _ hco5 codeO_ne
    have item : ∀ {i : Nat} {x : V}, (as.map V.ref)[i]? = some x → ∃ a pr, x = .ref a ∧ as[i]? = some a ∧ (stfrom ts.length ts.length)[i]? = some pr ∧ Tn H1 a [.int (pr.1 : Int), .int (pr.2 : Int)] := fun {i x} hx => by
      have hi : i < as.length := by
        have := (List.getElem?_eq_some_iff.mp hx).1
        rw [List.length_map] at this
        exact this
      have hi2 : i < (stfrom ts.length ts.length).length := by
        rw [← hP.len]
        exact hi
      obtain ⟨a, ea, ha⟩ := hP.get (List.getElem?_eq_getElem hi2)
      refine ⟨a, _, ?_, ea, List.getElem?_eq_getElem hi2, ha⟩
      rw [List.getElem?_map, ea] at hx
      exact (Option.some.inj hx).symm
    have e12 : ExtN H H2 := (ext_of s1).trans eN
    refine ⟨fun H3 => ExtN H2 H3 ∧ Tabs T H3, fun i => ((stfrom ts.length ts.length)[i]?.map fun pr => (cost os ts pr.1 pr.2 : Int)).getD 0, ⟨ExtN.refl _, T2⟩, fun H3 h3 => ⟨SqL.of (lst_ext (lst_ext hp eN) h3.1), h3.1 _ _ hco codeO_ne⟩, fun i x H3 hx h3 => ?_, fun i x H3 hx best h3 => ?_⟩
    · obtain ⟨a, pr, rfl, ea, epr, ha⟩ := item hx
      have ha3 : Tn H3 a [.int (pr.1 : Int), .int (pr.2 : Int)] := (ha.ext eN).ext h3.1
      have hpr := hm.mp (show (pr.1, pr.2) ∈ stfrom ts.length ts.length from List.mem_of_getElem? epr)
      have e3 := e12.trans h3.1
      refine ⟨_, rfl, _, rfl, _, rfl, a, _, _, _, rfl, rfl, ha3.sq, atI_nat (j := 0) rfl, _, rfl, a, _, _, _, rfl, rfl, ha3.sq, atI_nat (j := 1) rfl, o, t, os, ts, pr.1, pr.2, rfl, hO.ext e3, hT.ext e3, hin, hl, hpr.1, hpr.2, fun H4 s4 => ⟨?_, h3.1.trans (ext_of s4), h3.2.ext s4⟩⟩
      dsimp only
      rw [epr]
      rfl
    · obtain ⟨a, pr, rfl, ea, epr, ha⟩ := item hx
      have ha3 : Tn H3 a [.int (pr.1 : Int), .int (pr.2 : Int)] := (ha.ext eN).ext h3.1
      have hpr := hm.mp (show (pr.1, pr.2) ∈ stfrom ts.length ts.length from List.mem_of_getElem? epr)
      refine q a pr.1 pr.2 H3 (e12.trans h3.1) h3.2 ha3 hpr.1 hpr.2 ⟨⟨pr.1, pr.2, hpr.1, hpr.2, rfl⟩, fun a' b' h1 h2 => ?_⟩
      obtain ⟨m, hm1, hm2⟩ := List.mem_iff_getElem.mp (hm.mpr ⟨h1, h2⟩)
      have b1 := (best m (by rw [List.length_map, hP.len]; exact hm1)).1
      dsimp only at b1
      rw [epr, List.getElem?_eq_getElem hm1, hm2] at b1
      have b2 : (cost os ts pr.1 pr.2 : Int) ≤ (cost os ts a' b' : Int) := b1
      omega
theorem ok_distance {f c Pt fW fC fA fB : Addr} {fd dW dC dA dB : FuncData} {k : Nat} {T : List (Addr × Str)} (hm0 : (Pt, lamQ) ∈ T) (hu0 : ∀ p, p ∈ T → p.1 = Pt → p.2 = lamQ) (F : Fun K "distance" "distance" sDistance f fd) (FB : FunC K "best_stretch" "best_stretch" sBest fB dB c) (bB : Binds K dB ["order", "target"] []) (gB : mg "best_stretch" = some (.ref fB)) (TB : TabB base mg c Pt) (aW : At K mg "wrong_pairs" sWrong ["order", "layers"] fW dW) (aC : At K mg "stretch_cost" sCost ["order", "target", "start", "end"] fC dC) (aA : At K mg "all_stretches" sAll ["size"] fA dA)
    (ml : mg "len" = none) (me : mg "enumerate" = none) (mr : mg "range" = none) (mn : mg "min" = none) : FnOk P w K mg base CX0 (k + 6) f fd ["order", "target"] (spDistance T) := by
  have GB : FnOk P w K mg base CX0 (k + 5) fB dB ["order", "target"] (spBest T) := ok_best hm0 hu0 FB TB aW aC aA ml me mr mn
  have GC : FnOk P w K mg base CX0 (k + 5) fC dC ["order", "target", "start", "end"] spCost := ok_cost aC.F aW ml me
  refine F.ok scDistance (fun vs H Q E h => ?_) (fun cdv A outer s H vs Q E hr h => ?_)
  · obtain ⟨o, t, os, ts, rfl, _⟩ := h
    rfl
  · obtain ⟨o, t, os, ts, rfl, hO, hT, hin, h0, hl, hTb, q⟩ := h
    have nd := scDistance.nd
    refine ⟨_, pss_cons (ps_asg (pe_call GB hr (by rfl) gB FB.keep bB .nil pass0 (pa_cons (pv 0) (pa_cons (pv 1) pa_nil))) (pg_tup rfl (pgs_cons (pg_name (i := 2) nd rfl (.inl rfl)) (pgs_cons (pg_name (i := 3) nd rfl (.inl rfl)) pgs_nil))))
      (pss_one (ps_ret (pe_call GC hr (by rfl) aC.g aC.F.kp aC.b .nil pass0 (pa_cons (pv 0) (pa_cons (pv 1) (pa_cons (pv 2) (pa_cons (pv 3) pa_nil))))))), ?_⟩
    refine ⟨_, rfl, _, rfl, o, t, os, ts, rfl, hO, hT, hin, h0, hl, hTb, fun p a b H1 e1 T1 hp hab hb hd => ?_⟩
    refine ⟨p, _, rfl, hp.sq, rfl, _, _, rfl, _, _, rfl, rfl, ?_⟩
    exact ⟨_, rfl, _, rfl, _, rfl, _, rfl, o, t, os, ts, a, b, rfl, hO.ext e1, hT.ext e1, hin, hl, hab, hb, fun H2 s2 => q _ H2 (e1.trans (ext_of s2)) (T1.ext s2) hd⟩
end
end K20
namespace K20
open PySem L2 LS PySem.Spec PyProof.Rows
abbrev sWout : Stmt := topS 16
abbrev woutN : List Str := ["layers", "left_out", "layer"]
theorem scWout : FnScope woutN ["layers", "left_out"] (defScope sWout) := ⟨rfl, rfl, rfl, by decide +kernel, rfl, by decide +kernel, by decide +kernel⟩
section
open LamX
variable {K : PySem.W.Frag} {mg : Str → Option Value} {P : Program} {w : World} {base : Heap}
theorem ok_wout {f c Pt : Addr} {fd : FuncData} {k : Nat} {T : List (Addr × Str)} (hm0 : (Pt, genQw) ∈ T) (hu0 : ∀ p, p ∈ T → p.1 = Pt → p.2 = genQw) (F : FunC K "without" "without" sWout f fd c) (TB : TabB base mg c Pt) (mt : mg "tuple" = none) : FnOk P w K mg base CX0 (k + 6) f fd ["layers", "left_out"] (spWout T) := by
  refine F.ok scWout (fun vs H Q E h => ?_) (fun A outer s H vs Q E hr h => ?_)
  · obtain ⟨l, t, xs, ys, rfl, _⟩ := h
    rfl
  · obtain ⟨l, t, xs, ys, rfl, hL, hT, hlen, hTb, q⟩ := h
    have nd := scWout.nd
    refine ⟨_, pss_one (ps_ret (pe_tupG (T := T) (c := c) (P := Pt) (k := k) (vs := [2]) (g := gName 2) hr (by rfl) mt TB rfl hm0 hu0 (genS1_by (sc := defScope sWout) (by decide +kernel)) (slots_by woutN (by decide +kernel)) (pi_tup (pv 0))
        (fun B s' H' C code fp pn hr2 => ⟨pg_name (i := 2) nd rfl (.inl rfl) (.inr rfl), pts_one (pt_cmpR (op_notInK (K := K) rfl) (pv 2) (pv 1) rfl), pv 2⟩))), ?_⟩
    refine ⟨_, rfl, l, rfl, ⟨_, hL.sq⟩, hTb, fun H2 e2 T2 => ?_⟩
    have hL2 := hL.ext e2
    have hT2 := hT.ext e2
    have wk := walk_tup (K := K) (a := l) (xs := xs.map V.str)
    refine ⟨fun i m zs σ H3 => i + m = xs.length ∧ H3 = H2 ∧ zs = (wout (xs.take i) ys).map V.str ∧ ∃ y2 : Option V, σ = [some (.ref l), some (.ref t), y2], ⟨xs.length, by omega, rfl, rfl, none, rfl⟩, ?_⟩
    rintro i m zs σ H3 ⟨him, rfl, rfl, y2, rfl⟩
    have zl : ((wout (xs.take i) ys).map V.str).length < sizeLine := by
      rw [List.length_map]
      have := wout_len (xs.take i) ys
      rw [List.length_take] at this
      exact small1000 (by omega)
    rcases Nat.eq_zero_or_pos m with z | z
    · subst z
      have e : i = xs.length := by omega
      subst e
      refine .inl ⟨?_, Nat.le_of_lt zl, fun p H4 s4 n4 h4 => ?_⟩
      · have := wk.stops _ hL2.sq
        rw [List.length_map] at this
        exact this
      · rw [List.take_of_length_le (Nat.le_refl _)] at h4
        exact q p H4 (e2.trans (ext_of s4)) (T2.ext s4) h4
    · have hi : i < xs.length := by omega
      have hi' : i < (xs.map V.str).length := by rw [List.length_map]; exact hi
      refine .inr ⟨wk.goes i _ hi' hL2.sq, zl, fun x H' hy => ?_⟩
      obtain ⟨rfl, hx⟩ := wk.yields i _ x H' hi' hL2.sq hy
      have gi : xs[i]? = some xs[i] := List.getElem?_eq_getElem hi
      have ex : x = .str xs[i] := by
        rw [List.getElem?_map, gi] at hx
        exact (Option.some.inj hx).symm
      subst ex
      have et := wout_take (ys := ys) gi
      generalize xs[i] = x at et
      refine ⟨_, rfl, _, rfl, t, _, rfl, .inr hT2.sq, rfl, flatStrs _, _, rfl, ?_⟩
      rw [if_pos rfl, inV_strs]
      by_cases c1 : x ∈ ys
      · rw [decide_eq_true c1]
        refine iteF ⟨m - 1, by omega, by omega, rfl, ?_, _, rfl⟩
        rw [et, if_pos c1, List.append_nil]
      · rw [decide_eq_false c1]
        refine iteT ⟨_, rfl, m - 1, by omega, by omega, rfl, ?_, _, rfl⟩
        rw [et, if_neg c1, List.map_append]
        rfl
end
end K20
namespace K20
open PySem L2 LS PySem.Spec PyProof.Rows
abbrev sNear1 : Stmt := topS 17
abbrev sDTop : Stmt := topS 18
abbrev near1N : List Str := ["order", "top", "targets", "place", "target"]
theorem scNear1 : FnScope near1N ["order", "top"] (defScope sNear1) := ⟨rfl, rfl, rfl, by decide +kernel, rfl, by decide +kernel, by decide +kernel⟩
theorem scDTop : FnScope ["order", "top"] ["order", "top"] (defScope sDTop) := ⟨rfl, rfl, rfl, by decide +kernel, rfl, by decide +kernel, by decide +kernel⟩
/-- what nearest_with_top stands on -/
structure NearAt (K : PySem.W.Frag) (mg : Str → Option Value) (base : Heap) (T : List (Addr × Str)) (f c Pt fW cW Pw fB cB Pb fDi fWr fCo fAl : Addr) (fd dW dB dDi dWr dCo dAl : FuncData) : Prop where
  m0 : (Pt, lamQn) ∈ T
  u0 : ∀ p, p ∈ T → p.1 = Pt → p.2 = lamQn
  mW : (Pw, genQw) ∈ T
  uW : ∀ p, p ∈ T → p.1 = Pw → p.2 = genQw
  mB : (Pb, lamQ) ∈ T
  uB : ∀ p, p ∈ T → p.1 = Pb → p.2 = lamQ
  F : FunC K "nearest_with_top" "nearest_with_top" sNear1 f fd c
  b : Binds K fd ["order", "top"] []
  g : mg "nearest_with_top" = some (.ref f)
  TB : LamX.TabB base mg c Pt
  FW : FunC K "without" "without" sWout fW dW cW
  bW : Binds K dW ["layers", "left_out"] []
  gW : mg "without" = some (.ref fW)
  TBW : LamX.TabB base mg cW Pw
  FB : FunC K "best_stretch" "best_stretch" sBest fB dB cB
  bB : Binds K dB ["order", "target"] []
  gB : mg "best_stretch" = some (.ref fB)
  TBB : LamX.TabB base mg cB Pb
  aDi : At K mg "distance" sDistance ["order", "target"] fDi dDi
  aWr : At K mg "wrong_pairs" sWrong ["order", "layers"] fWr dWr
  aCo : At K mg "stretch_cost" sCost ["order", "target", "start", "end"] fCo dCo
  aAl : At K mg "all_stretches" sAll ["size"] fAl dAl
  ml : mg "len" = none
  me : mg "enumerate" = none
  mr : mg "range" = none
  mn : mg "min" = none
  mt : mg "tuple" = none
section
open LamX
variable {K : PySem.W.Frag} {mg : Str → Option Value} {P : Program} {w : World} {base : Heap} {T : List (Addr × Str)} {f c Pt fW cW Pw fB cB Pb fDi fWr fCo fAl : Addr} {fd dW dB dDi dWr dCo dAl : FuncData}
theorem NearAt.di (N : NearAt K mg base T f c Pt fW cW Pw fB cB Pb fDi fWr fCo fAl fd dW dB dDi dWr dCo dAl) {k : Nat} : FnOk P w K mg base CX0 (k + 6) fDi dDi ["order", "target"] (spDistance T) := ok_distance N.mB N.uB N.aDi.F N.FB N.bB N.gB N.TBB N.aWr N.aCo N.aAl N.ml N.me N.mr N.mn
theorem ok_near1 (N : NearAt K mg base T f c Pt fW cW Pw fB cB Pb fDi fWr fCo fAl fd dW dB dDi dWr dCo dAl) {k : Nat} : FnOk P w K mg base CX0 (k + 9) f fd ["order", "top"] (spNear1 T) := by
  have GW : FnOk P w K mg base CX0 (k + 8) fW dW ["layers", "left_out"] (spWout T) := ok_wout (k := k + 2) N.mW N.uW N.FW N.TBW N.mt
  have GDi : FnOk P w K mg base CX0 (k + 6) fDi dDi ["order", "target"] (spDistance T) := N.di
  refine N.F.ok scNear1 (fun vs H Q E h => ?_) (fun A outer s H vs Q E hr h => ?_)
  · obtain ⟨o, t, os, ts, rfl, _⟩ := h
    rfl
  · obtain ⟨o, t, os, ts, rfl, hO, hT, hon, htn, hin, h0, hl, hTb, q⟩ := h
    have nd := scNear1.nd
    refine ⟨_, pss_cons (ps_setLc (i := 2) (own := [("place", 3)]) (g := gName 3) (tt := tYes) rfl nd rfl rfl (sw_true rfl rfl rfl (by decide +kernel)) (pi_range1 (by rfl) N.mr (pa_cons (pe_op op_add (pe_callB call_len_seq (by rfl) N.ml PySem.boot_len (pa_cons (pv 0) pa_nil)) pe_int) pa_nil)) (blkOk_by (N := near1N) (sc := defScope sNear1) (by decide +kernel)) (fun _ _ _ _ _ => pg_name (i := 3) nd rfl (.inl rfl)) (fun _ _ _ _ _ => pts_nil)
        (fun _ _ _ _ _ => pe_op op_catS (pe_op op_catS (pv 1) (pe_call GW hr (by rfl) N.gW N.FW.keep N.bW .nil pass0 (pa_cons (pe_slice sl_tupS (pv 0) (po_some (pv 3)) po_none) (pa_cons (pv 1) pa_nil)))) (pe_call GW hr (by rfl) N.gW N.FW.keep N.bW .nil pass0 (pa_cons (pe_slice sl_tupS (pv 0) po_none (po_some (pv 3))) (pa_cons (pv 1) pa_nil)))))
      (pss_one (ps_ret (pe_minK (T := T) (c := c) (P := Pt) (k := k + 6) (j := 4) (par := "target") (by rfl) N.mn N.TB rfl N.m0 N.u0 hr rfl nd rfl (lamS1_by (sc := defScope sNear1) (by decide +kernel)) rfl (fun _ _ _ _ _ _ => rfl) (pa_cons (pv 2) pa_nil)
        (fun A' s' H' f' c' hr2 => pe_call GDi hr2 (by rfl) N.aDi.g N.aDi.F.kp N.aDi.b .nil pass0 (pa_cons (pv 0) (pa_cons (pv 4) pa_nil)))))), ?_⟩
    have tln : ts.length ≤ os.length := htn.length_le_of_subset hin
    refine ⟨_, rfl, o, _, rfl, .inr hO.sq, _, _, rfl, rfl, _, rfl, by omega, by rw [List.length_map]; omega, fun D nD => ?_⟩
    rw [show ((((os.map V.str).length : Nat) : Int) + 1).toNat = os.length + 1 by rw [List.length_map]; omega]
    have offD : Off H D := off_none nD
    refine lc_it walk_range (fun j H3 => ∃ as : List Addr, ExtN H H3 ∧ Tabs T H3 ∧ H3 D = some (.lst (as.map V.ref)) ∧ Tups H3 as ((tgts os ts).take j)) ⟨[], ext_of (same_new nD), hTb.ext (same_new nD), upd_same, by rw [List.take_zero]; trivial⟩ (fun _ _ _ _ => trivial) ?_ ?_
    · rintro j x H3 H3' hj ⟨as, e3, T3, hD3, hA3⟩ ⟨rfl, ex⟩
      dsimp only at ex
      rw [Int.zero_add] at ex
      subst ex
      have gj : (tgts os ts)[j]? = some (tgt os ts j) := by
        unfold tgts
        rw [List.getElem?_map, List.getElem?_range hj]
        rfl
      have et : (tgts os ts).take (j + 1) = (tgts os ts).take j ++ [tgt os ts j] := by
        rw [List.take_add_one, gj]
        rfl
      refine ⟨rfl, yes_then ?_⟩
      refine ⟨_, rfl, _, rfl, _, rfl, _, rfl, o, _, rfl, hO.ext e3, fun g1 H4 s4 h4 => ?_⟩
      rw [cut_from, ← List.map_drop] at h4
      have e4 := e3.trans (ext_of s4)
      refine ⟨_, rfl, g1, t, os.drop j, ts, rfl, h4, hT.ext e4, by rw [List.length_drop]; omega, T3.ext s4, fun p1 H5 e5 T5 h5 => ?_⟩
      have e05 := e4.trans e5
      have l1 := wout_len (os.drop j) ts
      rw [List.length_drop] at l1
      refine ⟨t, p1, _, _, rfl, rfl, hT.ext e05, h5, by rw [List.length_map, List.length_map]; exact Nat.le_of_lt (small1000 (by omega)), fun p2 H6 s6 h6 => ?_⟩
      have e06 := e05.trans (ext_of s6)
      refine ⟨_, rfl, _, rfl, _, rfl, o, _, rfl, hO.ext e06, fun g2 H7 s7 h7 => ?_⟩
      rw [cut_to, ← List.map_take] at h7
      have e07 := e06.trans (ext_of s7)
      refine ⟨_, rfl, g2, t, os.take j, ts, rfl, h7, hT.ext e07, by rw [List.length_take]; omega, (T5.ext s6).ext s7, fun p3 H8 e8 T8 h8 => ?_⟩
      have e08 := e07.trans e8
      have l2 := wout_len (os.take j) ts
      rw [List.length_take] at l2
      refine ⟨p2, p3, _, _, rfl, rfl, (h6.same s7).ext e8, h8, by rw [List.length_append, List.length_map, List.length_map, List.length_map]; exact Nat.le_of_lt (small1000 (by omega)), fun p4 H9 s9 h9 => ?_⟩
      rw [← List.map_append, ← List.map_append] at h9
      have e39 : ExtN H3' H9 := ((((ext_of s4).trans e5).trans (ext_of s6)).trans (ext_of s7)).trans (e8.trans (ext_of s9))
      have hD9 := lst_ext hD3 e39
      refine ⟨_, hD9, ?_, as ++ [p4], ext_upd (e08.trans (ext_of s9)) offD, tabs_updL (T8.ext s9) hD9, ?_, ?_⟩
      · rw [List.length_map, hA3.len, List.length_take]
        exact small1000 (by omega)
      · rw [upd_same, List.map_append]
        rfl
      · rw [et]
        exact Tups.snoc (tn_keepX hD9 lst_nf upd_keep h9) (tups_keepX hD9 lst_nf upd_keep (hA3.ext e39))
    · rintro H3 ⟨as, e3, T3, hD3, hA3⟩
      have tgl : (tgts os ts).length = os.length + 1 := by
        unfold tgts
        rw [List.length_map, List.length_range (n := os.length + 1)]
      rw [List.take_of_length_le (by omega)] at hA3
      have asl : as.length = os.length + 1 := by rw [hA3.len, tgl]
      refine ⟨_, rfl, D, as.map V.ref, rfl, (fun z => by rw [List.map_eq_nil_iff.mp z] at asl; simp at asl), T3, fun H4 c' e4 T4 hco => ?_⟩
      refine ⟨fun H5 => ExtN H4 H5 ∧ Tabs T H5, fun i => ((dN os (tgt os ts i) : Nat) : Int), ⟨ExtN.refl _, T4⟩, fun H5 h5 => ⟨SqL.of (lst_ext (lst_ext hD3 e4) h5.1), h5.1 _ _ hco codeO_ne⟩, fun i x H5 hx h5 => ?_, fun i x H5 hx best h5 => ?_⟩
      · have hi : i < os.length + 1 := by
          have := (List.getElem?_eq_some_iff.mp hx).1
          rw [List.length_map, asl] at this
          exact this
        have gi : (tgts os ts)[i]? = some (tgt os ts i) := by
          unfold tgts
          rw [List.getElem?_map, List.getElem?_range hi]
          rfl
        obtain ⟨a, ea, ha⟩ := hA3.get gi
        have ex : x = .ref a := by
          rw [List.getElem?_map, ea] at hx
          exact (Option.some.inj hx).symm
        subst ex
        have pm := tgt_perm (i := i) hon htn hin
        refine ⟨_, rfl, _, rfl, o, a, os, tgt os ts i, rfl, hO.ext ((e3.trans e4).trans h5.1), (ha.ext e4).ext h5.1, fun x hx => pm.mem_iff.mp hx, by rw [pm.length_eq]; exact h0, by rw [pm.length_eq]; omega, h5.2, fun d H6 e6 T6 hd => ⟨?_, h5.1.trans e6, T6⟩⟩
        dsimp only
        rw [dN_eq hd]
      · have hi : i < os.length + 1 := by
          have := (List.getElem?_eq_some_iff.mp hx).1
          rw [List.length_map, asl] at this
          exact this
        have gi : (tgts os ts)[i]? = some (tgt os ts i) := by
          unfold tgts
          rw [List.getElem?_map, List.getElem?_range hi]
          rfl
        obtain ⟨a, ea, ha⟩ := hA3.get gi
        have ex : x = .ref a := by
          rw [List.getElem?_map, ea] at hx
          exact (Option.some.inj hx).symm
        subst ex
        refine q a (tgt os ts i) H5 ((e3.trans e4).trans h5.1) h5.2 ((ha.ext e4).ext h5.1) (List.mem_of_getElem? gi) fun q' hq' => ?_
        obtain ⟨m, hm, rfl⟩ := List.mem_map.mp hq'
        have b1 := (best m (by rw [List.length_map, asl]; exact List.mem_range.mp hm)).1
        dsimp only at b1
        omega
theorem ok_dtop {fT : Addr} {dT : FuncData} (F : Fun K "distance_to_top" "distance_to_top" sDTop fT dT) (N : NearAt K mg base T f c Pt fW cW Pw fB cB Pb fDi fWr fCo fAl fd dW dB dDi dWr dCo dAl) {k : Nat} : FnOk P w K mg base CX0 (k + 10) fT dT ["order", "top"] (spDTop T) := by
  have GN : FnOk P w K mg base CX0 (k + 9) f fd ["order", "top"] (spNear1 T) := ok_near1 N
  have GDi : FnOk P w K mg base CX0 (k + 9) fDi dDi ["order", "target"] (spDistance T) := N.di (k := k + 3)
  refine F.ok scDTop (fun vs H Q E h => ?_) (fun cdv A outer s H vs Q E hr h => ?_)
  · obtain ⟨o, t, os, ts, rfl, _⟩ := h
    rfl
  · obtain ⟨o, t, os, ts, rfl, hO, hT, hon, htn, hin, h0, hl, hTb, q⟩ := h
    refine ⟨_, pss_one (ps_ret (pe_call GDi hr (by rfl) N.aDi.g N.aDi.F.kp N.aDi.b .nil pass0 (pa_cons (pv 0) (pa_cons (pe_call GN hr (by rfl) N.g N.F.keep N.b .nil pass0 (pa_cons (pv 0) (pa_cons (pv 1) pa_nil))) pa_nil)))), ?_⟩
    refine ⟨_, rfl, _, rfl, _, rfl, o, t, os, ts, rfl, hO, hT, hon, htn, hin, h0, hl, hTb, fun p z H1 e1 T1 hp hz hmin => ?_⟩
    obtain ⟨i, _, rfl⟩ := List.mem_map.mp hz
    have pm := tgt_perm (i := i) hon htn hin
    refine ⟨o, p, os, tgt os ts i, rfl, hO.ext e1, hp, fun x hx => pm.mem_iff.mp hx, by rw [pm.length_eq]; exact h0, by rw [pm.length_eq]; omega, T1, fun d H2 e2 T2 hd => ?_⟩
    rw [← dN_eq hd]
    exact q _ H2 (e1.trans e2) T2 hz hmin
end
end K20
namespace K20
open PySem L2 LS PySem.Spec PyProof.Rows
abbrev sNear : Stmt := topS 27
theorem scNear : FnScope ["digits", "order", "k", "layer"] ["digits", "order"] (defScope sNear) := ⟨rfl, rfl, rfl, by decide +kernel, rfl, by decide +kernel, by decide +kernel⟩
section
variable {K : PySem.W.Frag} {mg : Str → Option Value} {P : Program} {w : World} {base : Heap}
theorem ok_near {f fX fM : Addr} {fd dX dM : FuncData} {k : Nat} (F : Fun K "_law_near" "_law_near" sNear f fd) (aX : At K mg "_law_mixed" sMixed ["digits", "names"] fX dX) (aM : At K mg "_law_moved" sMoved ["order", "command"] fM dM)
    (ml : mg "len" = none) (mM : mg "max" = none) (mm : mg "min" = none) (mr : mg "range" = none) (mt : mg "tuple" = none) (mi : mg "list" = none) : FnOk P w K mg base CX0 (k + 2) f fd ["digits", "order"] (spNear K) := by
  have GX : FnOk P w K mg base CX0 (k + 1) fX dX ["digits", "names"] (spMixed K) := ok_mixed aX.F ml mi
  have GM : FnOk P w K mg base CX0 (k + 1) fM dM ["order", "command"] (spMoved K) := ok_moved aM.F ml mM mm mt
  refine F.ok scNear (fun vs H Q E h => ?_) (fun cdv A outer s H vs Q E hr h => ?_)
  · obtain ⟨d, o, ds, os, rfl, _⟩ := h
    rfl
  · obtain ⟨d, o, ds, os, rfl, hD, hO, hl, hl2, hnd, hne, hol, hok, q⟩ := h
    have nd := scNear.nd
    refine ⟨_, pss_cons (ps_if (pt_cmpR op_eq (pe_op op_mod (pe_ix ix_list (pv 0) pe_int (fun _ _ => rfl)) pe_int) pe_int (nomark _)) (pss_one (ps_ret (pe_call GX hr (by rfl) aX.g aX.F.kp aX.b .nil pass0 (pa_cons (pe_slice sl_listS (pv 0) (po_some pe_int) po_none) (pa_cons (pv 1) pa_nil))))) pss_nil)
      (pss_cons (ps_for PassesOwn.never rfl (pi_range1 (by rfl) mr (pa_cons (pe_op op_mod (pe_ix ix_list (pv 0) pe_int (fun _ _ => rfl)) pe_int) pa_nil)) (pg_name (i := 2) nd rfl (.inl rfl))
        (pss_cons (ps_set (i := 3) nd rfl (.inl rfl) (pe_ix ix_tup (pv 1) (pe_op op_mod (pe_ix ix_list (pv 0) (pe_op op_add pe_int (pe_op op_mul pe_int (pv 2))) (fun _ _ => rfl)) (pe_callB call_len_seq (by rfl) ml PySem.boot_len (pa_cons (pv 1) pa_nil))) (fun _ _ => rfl)))
        (pss_one (ps_set (i := 1) nd rfl (.inl rfl) (pe_call GM hr (by rfl) aM.g aM.F.kp aM.b .nil pass0 (pa_cons (pv 1) (pa_cons (pe_tupS (pa_cons (pe_ix ix_list (pe_lstS (pa_cons pe_str (pa_cons pe_str (pa_cons pe_str (pa_cons pe_str pa_nil))))) (pe_op op_mod (pe_ix ix_list (pv 0) (pe_op op_add pe_int (pe_op op_mul pe_int (pv 2))) (fun _ _ => rfl)) pe_int) (fun _ _ => rfl)) (pa_cons (pv 3) pa_nil))) pa_nil)))))))
      (pss_one (ps_ret (pv 1)))), ?_⟩
    have g : ∀ {j : Nat} (h : j < ds.length), (ds.map V.int)[j]? = some (.int ds[j]) := fun {j} h => by
      rw [List.getElem?_map, List.getElem?_eq_getElem h]
      rfl
    refine ⟨_, rfl, d, _, _, _, rfl, rfl, hD, atI_nat (j := 0) (g (by omega)), _, _, rfl, rfl, (by show (0 : Int) < 3; decide), rfl, _, rfl, ite2 (fun _ => ?_) (fun _ => ?_)⟩
    · refine ⟨_, rfl, 1, rfl, d, _, rfl, hD, fun a1 H1 s1 n1 h1 => ?_⟩
      rw [show (1 : Int) = ((1 : Nat) : Int) from rfl, cut_from, ← List.map_drop] at h1
      exact ⟨_, rfl, a1, o, ds.drop 1, os, rfl, SqL.of h1, .inr (hO.same s1).sq, hok, by rw [List.length_drop]; omega, by omega, fun ts p H2 s2 h2 hp => q ts p H2 (s1.trans s2) h2 hp⟩
    · have m0 := Int.emod_nonneg (ds[1]'(by omega)) (show (5 : Int) ≠ 0 by decide)
      have m1 := Int.emod_lt_of_pos (ds[1]'(by omega)) (show (0 : Int) < 5 by decide)
      obtain ⟨m, em⟩ : ∃ m : Nat, (ds[1]'(by omega)) % 5 = (m : Int) := ⟨_, (Int.toNat_of_nonneg m0).symm⟩
      refine ⟨_, rfl, d, _, _, _, rfl, rfl, hD, atI_nat (j := 1) (g (by omega)), _, _, rfl, rfl, (by show (0 : Int) < 5; decide), _, rfl, by omega, by omega, ?_⟩
      rw [em] at m1 ⊢
      rw [show ((m : Int)).toNat = m by omega]
      refine for_range (n := m) (fun i σ H3 => ∃ (c : Addr) (ts : List Str) (y2 y3 : Option V), σ = [some (.ref d), some (.ref c), y2, y3] ∧ Same H H3 ∧ Tn H3 c (ts.map V.str) ∧ ts.Perm os) ⟨o, os, none, none, rfl, Same.refl _, hO, List.Perm.refl _⟩ ?_ ?_
      · rintro i σ H3 hi ⟨c, ts, y2, y3, rfl, s3, hc, hp⟩
        have tl : ts.length = os.length := hp.length_eq
        have tpos : 0 < ts.length := by
          exact tl ▸ List.length_pos_iff.mpr hne
        have i1 : (2 : Int) + 2 * (0 + (i : Int)) = ((2 + 2 * i : Nat) : Int) := by omega
        have i2 : (3 : Int) + 2 * (0 + (i : Int)) = ((3 + 2 * i : Nat) : Int) := by omega
        obtain ⟨j, ej, hj, gj⟩ := at_mod (xs := ts.map V.str) (z := ds[2 + 2 * i]'(by omega)) rfl (by rw [List.length_map]; exact tpos)
        obtain ⟨j2, ej2, hj2, gj2⟩ := at_mod (z := ds[3 + 2 * i]'(by omega)) (show (fourWords.map V.str).length = 4 from rfl) (by decide)
        have hD3 := s3.seq hD
        refine ⟨_, rfl, _, rfl, _, rfl, _, _, rfl, rfl, .inl ⟨by decide, by decide⟩, _, _, rfl, rfl, d, _, _, _, rfl, rfl, hD3, at_of (j := 2 + 2 * i) i1 (g (by omega)), _, rfl, c, _, rfl, .inr hc.sq, _, _, rfl, rfl, ?_, c, _, _, _, rfl, rfl, hc.sq, gj, ?_⟩
        · show (0 : Int) < ((ts.map V.str).length : Int)
          rw [List.length_map]
          omega
        · have hj' : j < ts.length := by
            rw [List.length_map] at hj
            exact hj
          have ej3 : (ts.map V.str)[j] = .str ts[j] := List.getElem_map ..
          rw [ej3]
          refine ⟨_, rfl, (by show 4 ≤ sizeLine; decide), fun a1 H4 s4 n4 h4 => ?_⟩
          replace h4 : H4 a1 = some (.lst (fourWords.map V.str)) := h4
          refine ⟨_, rfl, _, rfl, _, _, rfl, rfl, .inl ⟨by decide, by decide⟩, _, _, rfl, rfl, d, _, _, _, rfl, rfl, s4.seq hD3, at_of (j := 3 + 2 * i) i2 (g (by omega)), _, _, rfl, rfl, (by show (0 : Int) < 4; decide), a1, _, _, _, rfl, rfl, SqL.of h4, gj2, ?_⟩
          rw [List.getElem_map]
          refine ⟨_, rfl, (by show 2 ≤ sizeLine; decide), fun cm H5 s5 n5 h5 => ?_⟩
          refine ⟨c, cm, ts, _, ts[j], rfl, (hc.same s4).same s5, h5.sq, List.getElem_mem hj', hp.nodup_iff.mpr hnd, by omega, fun p H6 s6 h6 => ?_⟩
          exact ⟨p, _, _, _, rfl, ((s3.trans s4).trans s5).trans s6, h6, (moved_perm (List.getElem_mem hj')).trans hp⟩
      · rintro σ H3 ⟨c, ts, y2, y3, rfl, s3, hc, hp⟩
        exact ⟨_, rfl, q ts c H3 s3 hc hp⟩
end
end K20
namespace K20
open PySem L2 LS PySem.Spec PyProof.Rows
abbrev sLCmds : Stmt := topS 28
theorem scLCmds : FnScope ["names", "commands", "kind", "name"] ["names"] (defScope sLCmds) := ⟨rfl, rfl, rfl, by decide +kernel, rfl, by decide +kernel, by decide +kernel⟩
section
variable {K : PySem.W.Frag} {mg : Str → Option Value} {P : Program} {w : World} {base : Heap}
theorem ok_lcmds {f : Addr} {fd : FuncData} {k : Nat} (F : Fun K "_law_commands" "_law_commands" sLCmds f fd) (mS : mg "sorted" = none) : FnOk P w K mg base CX0 (k + 1) f fd ["names"] spCmdsL := by
  refine F.ok scLCmds (fun vs H Q E h => ?_) (fun cdv A outer s H vs Q E hr h => ?_)
  · obtain ⟨l, xs, rfl, _⟩ := h
    rfl
  · obtain ⟨l, xs, rfl, hL, h6, q⟩ := h
    have nd := scLCmds.nd
    refine ⟨_, pss_cons (ps_set (i := 1) nd rfl (.inl rfl) (pe_lstS pa_nil))
      (pss_cons (ps_for PassesOwn.never rfl (pi_tup (pe_tupS (pa_cons pe_str (pa_cons pe_str (pa_cons pe_str (pa_cons pe_str pa_nil)))))) (pg_name (i := 2) nd rfl (.inr rfl))
        (pss_one (ps_set (i := 1) nd rfl (.inl rfl) (pe_op op_catLS (pv 1) (pe_lc (own := [("name", 3)]) (g := gName 3) (tt := tYes) rfl nd (pi_list (pe_callB cr_sortT (by rfl) mS (by decide +kernel) (pa_cons (pv 0) pa_nil))) (blkOk_by (N := ["names", "commands", "kind", "name"]) (sc := defScope sLCmds) (by decide +kernel)) (fun _ _ _ _ _ => pg_name (i := 3) nd rfl (Or.inl rfl)) (fun _ _ _ _ _ => pts_nil) (fun _ _ _ _ _ => pe_tupS (pa_cons (pv 2) (pa_cons (pv 3) pa_nil))))))))
      (pss_one (ps_ret (pv 1)))), ?_⟩
    refine ⟨(by show 0 ≤ sizeLine; decide), fun D0 H1 s1 n1 h1 => ⟨(by show 4 ≤ sizeLine; decide), fun t0 H2 s2 n2 h2 => ?_⟩⟩
    refine ⟨t0, rfl, ⟨_, h2.sq⟩, ?_⟩
    refine for_it (walk_tup (xs := kindsL.map V.str)) (fun i σ H3 => ∃ (D : Addr) (as : List Addr) (y2 : Option V), σ = [some (.ref l), some (.ref D), y2, none] ∧ Same H2 H3 ∧ H D = none ∧ H3 D = some (.lst (as.map V.ref)) ∧ Cmds H3 as ((kindsL.take i).flatMap fun k => (srt xs).map fun n => (k, n))) ⟨D0, [], none, rfl, Same.refl H2, n1, s2 _ _ h1, trivial⟩ (fun i σ H3 _ ⟨_, _, _, _, s3, _⟩ => (h2.same s3).sq) ?_ ?_
    · rintro i x σ H3 H' hi ⟨D, as, y2, rfl, s3, nD, hD, hC⟩ ⟨rfl, hx⟩
      rw [List.length_map] at hi
      have ex : x = .str kindsL[i] := by
        rw [List.getElem?_map, List.getElem?_eq_getElem hi] at hx
        exact (Option.some.inj hx).symm
      subst ex
      have eT : kindsL.take (i + 1) = kindsL.take i ++ [kindsL[i]] := by
        rw [List.take_add_one, List.getElem?_eq_getElem hi]
        rfl
      generalize kindsL[i] = kd at eT
      have sA := s1.trans (s2.trans s3)
      refine ⟨_, rfl, _, rfl, l, xs, rfl, (hL.same sA).sq, (by omega), fun ys p H6 yp hy np s6 h6' => ?_⟩
      have ey : ys = srt xs := eq_srt yp hy
      subst ey
      refine ⟨p, rfl, ⟨_, SqL.of h6'⟩, fun E nE => ?_⟩
      refine lc_it (walk_list (xs := (srt xs).map V.str)) (fun m H7 => ∃ es : List Addr, Same H6 H7 ∧ H7 E = some (.lst (es.map V.ref)) ∧ Cmds H7 es (((srt xs).take m).map fun n => (kd, n))) ⟨[], same_new nE, upd_same, trivial⟩ (fun m H7 _ ⟨_, s7, _⟩ => SqL.of (s7 _ _ h6')) ?_ ?_
      · rintro m y H7 H8 hm ⟨es, s7, hE7, hB7⟩ ⟨rfl, hy⟩
        rw [List.length_map] at hm
        have ey : y = .str (srt xs)[m] := by
          rw [List.getElem?_map, List.getElem?_eq_getElem hm] at hy
          exact (Option.some.inj hy).symm
        subst ey
        have em : (srt xs).take (m + 1) = (srt xs).take m ++ [(srt xs)[m]] := by
          rw [List.take_add_one, List.getElem?_eq_getElem hm]
          rfl
        refine ⟨rfl, ?_⟩
        unfold tYes
        dsimp only
        rw [if_pos rfl]
        refine ⟨_, rfl, _, rfl, (by show 2 ≤ sizeLine; decide), fun r H10 s10 n10 h10 => ?_⟩
        have hE10 := s10 _ _ hE7
        refine ⟨_, hE10, ?_, es ++ [r], same_upd (s7.trans s10) nE, ?_, ?_⟩
        · rw [List.length_map, hB7.len, List.length_map, List.length_take]
          exact small1000 (by rw [srt_len]; omega)
        · rw [upd_same, List.map_append]
          rfl
        · rw [em, List.map_append]
          exact Cmds.snoc (tn_keep hE10 upd_keep h10) (Cmds.keep hE10 upd_keep (hB7.same s10))
      · rintro H7 ⟨es, s7, hE7, hB7⟩
        rw [List.length_map, List.take_of_length_le (Nat.le_refl _)] at hB7
        have s67 := s6.trans s7
        refine ⟨D, E, _, _, rfl, rfl, s67 _ _ hD, hE7, ?_, fun R H8 s8 n8 h8 => ?_⟩
        · rw [List.length_map, List.length_map, hC.len, hB7.len, List.length_map, srt_len]
          have b := flat_len (n := 60) (fun k => (by rw [List.length_map, srt_len]; exact h6 : ((srt xs).map fun n => ((k, n) : Str × Str)).length ≤ 60)) (kindsL.take i)
          have b2 : (kindsL.take i).length ≤ 4 := by rw [List.length_take]; exact Nat.min_le_right _ _
          exact Nat.le_of_lt (small1000 (by omega))
        · refine ⟨R, as ++ es, _, rfl, (s3.trans s67).trans s8, none_of (sA.trans s67) n8, by rw [h8, List.map_append], ?_⟩
          rw [eT, List.flatMap_append, List.flatMap_singleton]
          exact Cmds.join (hB7.same s8) (hC.same (s67.trans s8))
    · rintro σ H3 ⟨D, as, y2, rfl, s3, nD, hD, hC⟩
      exact ⟨_, rfl, q D as H3 (s1.trans (s2.trans s3)) nD hD hC⟩
end
abbrev sLevels : Stmt := topS 29
abbrev levN : List Str := ["order", "found", "front", "count", "reached", "one", "command", "other"]
theorem scLevels : FnScope levN ["order"] (defScope sLevels) := ⟨rfl, rfl, rfl, by decide +kernel, rfl, by decide +kernel, by decide +kernel⟩
section
variable {K : PySem.W.Frag} {mg : Str → Option Value} {P : Program} {w : World} {base : Heap}
theorem ok_levels {f fC fM : Addr} {fd dC dM : FuncData} {k : Nat} (F : Fun K "_law_levels" "_law_levels" sLevels f fd) (aC : At K mg "_law_commands" sLCmds ["names"] fC dC) (aM : At K mg "_law_moved" sMoved ["order", "command"] fM dM) (ml : mg "len" = none) (mM : mg "max" = none) (mm : mg "min" = none) (mt : mg "tuple" = none) (mS : mg "sorted" = none) : FnOk P w K mg base CX0 (k + 2) f fd ["order"] (spLevels P w) := by
  have GC : FnOk P w K mg base CX0 (k + 1) fC dC ["names"] spCmdsL := ok_lcmds aC.F mS
  have GM : FnOk P w K mg base CX0 (k + 1) fM dM ["order", "command"] (spMoved K) := ok_moved aM.F ml mM mm mt
  refine F.ok scLevels (fun vs H Q E h => ?_) (fun cdv A outer s H vs Q E hr h => ?_)
  · obtain ⟨o, os, rfl, _⟩ := h
    rfl
  · obtain ⟨o, os, rfl, hO, hn, h0, h6, hok, q⟩ := h
    have nd := scLevels.nd
    have hu := hu_of hr
    refine ⟨_, pss_cons (ps_par3 (i := 1) (j := 2) (l := 3) rfl nd rfl rfl rfl (by decide) (by decide) (by decide) rfl rfl rfl (pa_cons (pe_dispR hu (pv 0) pe_int) (pa_cons (pe_lstS (pa_cons (pv 0) pa_nil)) (pa_cons pe_int pa_nil))) rfl)
      (pss_cons (ps_while PassesOwn.never (pt_cmpR (op_neD hr.units) (pv 2) (pe_lstS pa_nil) (nomark _))
        (pss_cons (ps_set (i := 3) nd rfl (.inl rfl) (pe_op op_add (pv 3) pe_int))
        (pss_cons (ps_set (i := 4) nd rfl (.inl rfl) (pe_lstS pa_nil))
        (pss_cons (ps_for PassesOwn.never rfl (pi_list (pv 2)) (pg_name (i := 5) nd rfl (.inl rfl))
          (pss_one (ps_for PassesOwn.never rfl (pi_list (pe_call GC hr (by rfl) aC.g aC.F.kp aC.b .nil pass0 (pa_cons (pv 0) pa_nil))) (pg_name (i := 6) nd rfl (.inl rfl))
            (pss_cons (ps_set (i := 7) nd rfl (.inl rfl) (pe_call GM hr (by rfl) aM.g aM.F.kp aM.b .nil pass0 (pa_cons (pv 5) (pa_cons (pv 6) pa_nil))))
            (pss_one (ps_if (pt_cmpR (op_dnotinR hu) (pv 7) (pv 1) rfl)
              (pss_cons (ps_dputR hu (pv 1) (pv 7) (pv 3) rfl)
              (pss_one (ps_expr (pe_bm PySem.F.plainAttrs_list PySem.F.slot_list_append PySem.F.type_list_append mt_append (pv 4) (pa_cons (pv 7) pa_nil))))) pss_nil))))))
        (pss_one (ps_set (i := 2) nd rfl (.inl rfl) (pv 4)))))))
      (pss_one (ps_ret (pv 1)))), ?_⟩
    refine fun D H0 nD s0 d0 => ⟨_, rfl, o, os, rfl, d0, hO.same s0, fun H1 k1 d1 => ?_⟩
    have s1 : Same H H1 := same_keep s0 nD k1
    have hO1 := hO.same s1
    refine ⟨_, rfl, (by show 1 ≤ sizeLine; decide), fun F0 H2 s2 nF0 hF0 => ⟨_, _, _, rfl, ?_⟩⟩
    let W : Nat → L2.St → Hp → Prop := fun m σ H3 => ∃ (c : Nat) (Fr : Addr) (fa : List Addr) (fs : List (List Str)) (es : List Ent) (y4 y5 y6 y7 : Option V), σ = [some (.ref o), some (.ref D), some (.ref Fr), some (.int (c : Int)), y4, y5, y6, y7] ∧ Same H H3 ∧ H Fr = none ∧ Dic P w H3 D es ∧ H3 Fr = some (.lst (fa.map V.ref)) ∧ Tups H3 fa fs ∧ Full os c es fs ∧ c + m = os.length + 1 ∧ c ≤ os.length
    refine ⟨W, ⟨os.length + 1, 0, F0, [o], [os], [(os, o, .int 0)], none, none, none, none, rfl, s1.trans s2, none_of s1 nF0, d1.same s2, hF0, ⟨hO1.same s2, trivial⟩, full_zero o, by omega, Nat.zero_le _⟩, ?_⟩
    rintro m σ H3 ⟨c, Fr, fa, fs, es, y4, y5, y6, y7, rfl, s3, nF, d3, f3, t3, hF, hm, hc⟩
    have okf : ∀ o, o ∈ fs → StrsOk o := lv_ok hok fun o ho => (hF.fin o).mp ho
    refine ⟨_, rfl, (by show 0 ≤ sizeLine; decide), fun e0 H4 s4 ne0 he0 => ?_⟩
    refine ⟨.list (rowsD fs), .list (rowsD []), .lst (SqL.of (s4 _ _ f3)) (dp_rows (t3.same s4)), .lst (SqL.of he0) .nil, shaped_rows okf, shaped_rows (fun o h => nomatch h), _, rfl, ?_⟩
    rw [show PyData.eqv (.list (rowsD fs)) (.list (rowsD [])) = decide (fs = []) from eqvAll_rows fs []]
    refine ite2 (fun z => ?_) (fun z => ?_)
    · have fne : fs ≠ [] := by simpa using z
      have clt : c < os.length := by
        cases fs with
        | nil => exact absurd rfl fne
        | cons x xs => exact lv_lt hn h0 ((hF.fin x).mp List.mem_cons_self)
      refine ⟨fun σ' H' => ∃ m', m' < m ∧ W m' σ' H', fun _ _ z => z, ?_⟩
      refine ⟨_, rfl, _, _, rfl, rfl, ?_⟩
      refine ⟨(by show 0 ≤ sizeLine; decide), fun R H5 s5 nR hR => ?_⟩
      have s35 := s4.trans s5
      have s05 := s3.trans s35
      have nR0 := none_of (s3.trans s4) nR
      have hFR : Fr ≠ R := fun z => by
        have := s4 _ _ f3
        rw [z, nR] at this
        cases this
      have B5 : BI P w H H5 D Fr R os fs [] fa [] c es := ⟨s05, nD, nR0, nF, d3.same s35, s35 _ _ f3, t3.same s35, hR, trivial, hFR, hF.half, hF.fin, hF.fnd⟩
      refine ⟨_, rfl, Fr, rfl, ⟨_, SqL.of B5.f⟩, ?_⟩
      refine for_it (walk_list (xs := fa.map V.ref)) (fun i σ H6 => ∃ (es : List Ent) (rs : List (List Str)) (ra : List Addr) (y5 y6 y7 : Option V), σ = [some (.ref o), some (.ref D), some (.ref Fr), some (.int ((c : Int) + 1)), some (.ref R), y5, y6, y7] ∧ BI P w H H6 D Fr R os fs rs fa ra c es ∧ ∀ p, p ∈ fs.take i → ∀ cm, cm ∈ cmdsL os → moved p cm ∈ rowsE es)
        ⟨es, [], [], _, _, _, rfl, B5, fun p hp => by simp at hp⟩ (fun i σ H6 _ ⟨_, _, _, _, _, _, _, B6, _⟩ => SqL.of B6.f) ?_ ?_
      · rintro i x σ H6' H6 hi ⟨es6, rs6, ra6, y5', y6', y7', rfl, B6, all6⟩ ⟨rfl, hx⟩
        rw [List.length_map, B6.ft.len] at hi
        have ei : fs[i]? = some fs[i] := List.getElem?_eq_getElem hi
        obtain ⟨p, ep, hp⟩ := B6.ft.get ei
        have ex : x = .ref p := by
          rw [List.getElem?_map, ep] at hx
          exact (Option.some.inj hx).symm
        subst ex
        have hlv : Lv os c fs[i] := (hF.fin _).mp (List.getElem_mem hi)
        have et : fs.take (i + 1) = fs.take i ++ [fs[i]] := by
          rw [List.take_add_one, ei]
          rfl
        generalize fs[i] = ps at hp hlv et
        have pmp := hlv.perm
        refine ⟨_, rfl, o, os, rfl, hO.same B6.s, (by omega), fun G ga H7 s7 nG hG hGa => ?_⟩
        have B7 := B6.same s7
        have hGR : G ≠ R := fun z => by
          rw [z, B6.r] at nG
          cases nG
        refine ⟨G, rfl, ⟨_, SqL.of hG⟩, ?_⟩
        refine for_it (walk_list (xs := ga.map V.ref)) (fun j σ H8 => ∃ (es : List Ent) (rs : List (List Str)) (ra : List Addr) (y6 y7 : Option V), σ = [some (.ref o), some (.ref D), some (.ref Fr), some (.int ((c : Int) + 1)), some (.ref R), some (.ref p), y6, y7] ∧ BI P w H H8 D Fr R os fs rs fa ra c es ∧ H8 G = some (.lst (ga.map V.ref)) ∧ Cmds H8 ga (cmdsL os) ∧ Tn H8 p (ps.map V.str) ∧ (∀ p, p ∈ fs.take i → ∀ cm, cm ∈ cmdsL os → moved p cm ∈ rowsE es) ∧ ∀ cm, cm ∈ (cmdsL os).take j → moved ps cm ∈ rowsE es)
          ⟨es6, rs6, ra6, _, _, rfl, B7, hG, hGa, hp.same s7, all6, fun cm h => by simp at h⟩ (fun j σ H8 _ ⟨_, _, _, _, _, _, _, g8, _⟩ => SqL.of g8) ?_ ?_
        · rintro j x σ H8' H8 hj ⟨es8, rs8, ra8, y6'', y7'', rfl, B8, g8, c8, p8, all8, one8⟩ ⟨rfl, hx8⟩
          rw [List.length_map, c8.len] at hj
          have ej : (cmdsL os)[j]? = some (cmdsL os)[j] := List.getElem?_eq_getElem hj
          obtain ⟨cmA, ec, hcm⟩ := c8.get ej
          have ex : x = .ref cmA := by
            rw [List.getElem?_map, ec] at hx8
            exact (Option.some.inj hx8).symm
          subst ex
          have cm := cmdsL_mem (List.getElem_mem hj)
          have etj : (cmdsL os).take (j + 1) = (cmdsL os).take j ++ [(cmdsL os)[j]] := by
            rw [List.take_add_one, ej]
            rfl
          generalize (cmdsL os)[j] = cc at hcm cm etj
          refine ⟨_, rfl, _, rfl, p, cmA, ps, cc.1, cc.2, rfl, p8, hcm.sq, pmp.mem_iff.mpr cm.2, pmp.nodup_iff.mpr hn, by rw [pmp.length_eq]; omega, fun ot H9 s9 h9 => ?_⟩
          have B9 := B8.same s9
          have h9' : Tn H9 ot ((moved ps cc).map V.str) := h9
          refine ⟨_, rfl, _, rfl, D, ot, es8, moved ps cc, rfl, rfl, B9.d.rd, h9', _, rfl, ite2 (fun z => ?_) (fun z => ?_)⟩
          · have hno : (valR es8 (moved ps cc)).isSome = false := by simpa using z
            have HM := B9.h.meet hlv cm.1 cm.2 hno ot
            have lenE : es8.length < sizeLine := by
              have := rows_few hn B9.h.nd (fun o ho => by
                obtain ⟨e, he, rfl⟩ := List.mem_map.mp ho
                obtain ⟨_, _, _, hl⟩ := B9.h.lv e he
                exact hl.perm) h6
              rw [List.length_map] at this
              exact this
            refine ⟨_, rfl, _, rfl, _, rfl, D, ot, es8, moved ps cc, rfl, rfl, B9.d, h9', lenE, fun H10 k10 d10 => ?_⟩
            rw [put_new hno] at d10
            replace d10 : Dic P w H10 D (es8 ++ [(moved ps cc, ot, .int ((c + 1 : Nat) : Int))]) := d10
            have neRD : R ≠ D := lst_ne_dic B9.r B9.d
            have r10 := k10 R _ neRD B9.r
            have lenR : rs8.length < sizeLine := rows_few hn B9.h.rnd (fun o ho => ((B9.h.rin o).mp ho).2.perm) h6
            refine ⟨_, rfl, .inl ⟨rfl, _, SqL.of r10⟩, _, rfl, R, _, _, rfl, rfl, r10, by rw [List.length_map, B9.rt.len]; exact lenR, ?_⟩
            have kk : ∀ b y, b ≠ R → H10 b = some y → (upd H10 R (.lst (ra8.map V.ref ++ [.ref ot]))) b = some y := upd_keep
            have ot10 := tn_keepX B9.d.1 dicO_nf k10 h9'
            have f10 := k10 Fr _ (lst_ne_dic B9.f B9.d) B9.f
            have g10 := k10 G _ (lst_ne_dic (s9 _ _ g8) B9.d) (s9 _ _ g8)
            refine ⟨es8 ++ [(moved ps cc, ot, .int ((c + 1 : Nat) : Int))], rs8 ++ [moved ps cc], ra8 ++ [ot], _, _, rfl, ⟨same_keep (same_keep B9.s nD k10) nR0 kk, nD, nR0, nF, dic_keepL r10 kk d10, kk _ _ hFR f10, tups_keepX r10 lst_nf kk (tups_keepX B9.d.1 dicO_nf k10 B9.ft), by rw [upd_same, List.map_append]; rfl, Tups.snoc (tn_keepX r10 lst_nf kk ot10) (tups_keepX r10 lst_nf kk (tups_keepX B9.d.1 dicO_nf k10 B9.rt)), hFR, HM, hF.fin, hF.fnd⟩,
              kk _ _ hGR g10, cmds_keepX r10 lst_nf kk (cmds_keepX B9.d.1 dicO_nf k10 (c8.same s9)), tn_keepX r10 lst_nf kk (tn_keepX B9.d.1 dicO_nf k10 (p8.same s9)), fun p hp cm hcm => ?_, fun cm hcm => ?_⟩
            · unfold rowsE
              rw [List.map_append]
              exact List.mem_append_left _ (all8 p hp cm hcm)
            · unfold rowsE
              rw [List.map_append]
              rw [etj] at hcm
              rcases List.mem_append.mp hcm with q1 | q1
              · exact List.mem_append_left _ (one8 cm q1)
              · rw [List.mem_singleton.mp q1]
                exact List.mem_append_right _ (by simp)
          · have hyes : (valR es8 (moved ps cc)).isSome = true := by
              cases hh : (valR es8 (moved ps cc)).isSome with
              | true => rfl
              | false => exact absurd (by rw [hh]; rfl) z
            refine ⟨es8, rs8, ra8, _, _, rfl, B9, s9 _ _ g8, c8.same s9, p8.same s9, all8, fun cm hcm => ?_⟩
            rw [etj] at hcm
            rcases List.mem_append.mp hcm with q1 | q1
            · exact one8 cm q1
            · rw [List.mem_singleton.mp q1]
              exact val_mem.mp hyes
        · rintro σ H8 ⟨es8, rs8, ra8, y6'', y7'', rfl, B8, g8, c8, p8, all8, one8⟩
          rw [List.length_map, c8.len, List.take_of_length_le (Nat.le_refl _)] at one8
          refine ⟨es8, rs8, ra8, _, _, _, rfl, B8, fun p hp cm hcm => ?_⟩
          rw [et] at hp
          rcases List.mem_append.mp hp with q1 | q1
          · exact all8 p q1 cm hcm
          · rw [List.mem_singleton.mp q1]
            exact one8 cm hcm
      · rintro σ H6 ⟨es6, rs6, ra6, y5', y6', y7', rfl, B6, all6⟩
        rw [List.length_map, B6.ft.len, List.take_of_length_le (Nat.le_refl _)] at all6
        refine ⟨_, rfl, m - 1, by omega, c + 1, R, ra6, rs6, es6, _, _, _, _, rfl, B6.s, nR0, B6.d, B6.r, B6.rt, B6.h.done fun p hp cm hcm => all6 p ((hF.fin p).mpr hp) cm hcm, by omega, clt⟩
    · have fe : fs = [] := by simpa using z
      subst fe
      refine ⟨_, rfl, q D es H4 (s3.trans s4) nD ⟨d3.same s4, fun e he => ?_, fun o hp => hF.all hn h0 hp, hF.nd⟩⟩
      obtain ⟨k, _, h1, h2⟩ := hF.lv e he
      exact ⟨k, h1, h2⟩
end
end K20
namespace K20
open PySem L2 LS PySem.Spec PyProof.Rows
abbrev sNewIx : Stmt := topS 7
abbrev sAfter : Stmt := topS 8
theorem scNewIx : FnScope ["word", "at", "last"] ["word", "at", "last"] (defScope sNewIx) := ⟨rfl, rfl, rfl, by decide +kernel, rfl, by decide +kernel, by decide +kernel⟩
theorem scAfter : FnScope ["order", "command", "word", "layer", "at", "others", "to"] ["order", "command"] (defScope sAfter) := ⟨rfl, rfl, rfl, by decide +kernel, rfl, by decide +kernel, by decide +kernel⟩
section
variable {K : PySem.W.Frag} {mg : Str → Option Value} {P : Program} {w : World} {base : Heap}
theorem ok_newIx {f : Addr} {fd : FuncData} {k : Nat} (F : Fun K "new_index" "new_index" sNewIx f fd) (mM : mg "max" = none) (mm : mg "min" = none) : FnOk P w K mg base CX0 (k + 1) f fd ["word", "at", "last"] spNewIx := by
  refine F.ok scNewIx (fun vs H Q E h => ?_) (fun cdv A outer s H vs Q E hr h => ?_)
  · obtain ⟨wd, a, l, rfl, _⟩ := h
    rfl
  · obtain ⟨wd, a, l, rfl, q⟩ := h
    refine ⟨_, pss_cons (ps_if (pt_cmpR op_eq (pv 0) pe_str (nomark _)) (pss_one (ps_ret pe_int)) pss_nil)
      (pss_cons (ps_if (pt_cmpR op_eq (pv 0) pe_str (nomark _)) (pss_one (ps_ret (pv 2))) pss_nil)
      (pss_cons (ps_if (pt_cmpR op_eq (pv 0) pe_str (nomark _)) (pss_one (ps_ret (pe_callB (call_max2 rfl) (by rfl) mM boot_max (pa_cons (pe_op op_sub (pv 1) pe_int) (pa_cons pe_int pa_nil))))) pss_nil)
      (pss_one (ps_ret (pe_callB (call_min2 rfl) (by rfl) mm boot_min (pa_cons (pe_op op_add (pv 1) pe_int) (pa_cons (pv 2) pa_nil))))))), ?_⟩
    unfold newIx at q
    refine ⟨_, rfl, rfl, _, rfl, ite2 (fun e => ?_) (fun e => ?_)⟩
    · rw [if_pos (V.str.inj (of_decide_eq_true e))] at q
      exact q
    · rw [if_neg (fun z => e (decide_eq_true (congrArg V.str z)))] at q
      refine ⟨_, rfl, rfl, _, rfl, ite2 (fun e2 => ?_) (fun e2 => ?_)⟩
      · rw [if_pos (V.str.inj (of_decide_eq_true e2))] at q
        exact ⟨_, rfl, q⟩
      · rw [if_neg (fun z => e2 (decide_eq_true (congrArg V.str z)))] at q
        refine ⟨_, rfl, rfl, _, rfl, ite2 (fun e3 => ?_) (fun e3 => ?_)⟩
        · rw [if_pos (V.str.inj (of_decide_eq_true e3))] at q
          refine ⟨_, rfl, _, _, rfl, rfl, _, _, rfl, ?_⟩
          have e4 : (if (0 : Int) > (a : Int) - 1 then (0 : Int) else (a : Int) - 1) = ((a - 1 : Nat) : Int) := by
            split <;> omega
          rw [e4]
          exact q
        · rw [if_neg (fun z => e3 (decide_eq_true (congrArg V.str z)))] at q
          refine ⟨_, rfl, _, _, rfl, rfl, _, rfl, _, _, rfl, ?_⟩
          have e4 : (if (l : Int) < (a : Int) + 1 then (l : Int) else (a : Int) + 1) = ((min (a + 1) l : Nat) : Int) := by
            split <;> omega
          rw [e4]
          exact q
theorem ok_after {f fN : Addr} {fd fdN : FuncData} {k : Nat} (F : Fun K "after_command" "after_command" sAfter f fd) (FN : Fun K "new_index" "new_index" sNewIx fN fdN) (bN : Binds K fdN ["word", "at", "last"] []) (gN : mg "new_index" = some (.ref fN)) (ml : mg "len" = none) (mM : mg "max" = none) (mm : mg "min" = none) :
    FnOk P w K mg base CX0 (k + 2) f fd ["order", "command"] (spAfter K) := by
  have GN : FnOk P w K mg base CX0 (k + 1) fN fdN ["word", "at", "last"] spNewIx := ok_newIx FN mM mm
  refine F.ok scAfter (fun vs H Q E h => ?_) (fun cdv A outer s H vs Q E hr h => ?_)
  · obtain ⟨o, c, os, wd, ly, rfl, _⟩ := h
    rfl
  · obtain ⟨o, c, os, wd, ly, rfl, hO, hC, hm, hl, q⟩ := h
    have nd := scAfter.nd
    refine ⟨_, pss_cons (ps_asg (pv 1) (pg_tup rfl (pgs_cons (pg_name (i := 2) nd rfl (.inl rfl)) (pgs_cons (pg_name (i := 3) nd rfl (.inl rfl)) pgs_nil))))
      (pss_cons (ps_set (i := 4) nd rfl (.inl rfl) (pe_tindex (pv 0) (pa_cons (pv 3) pa_nil)))
      (pss_cons (ps_set (i := 5) nd rfl (.inl rfl) (pe_op op_catS (pe_slice sl_tupS (pv 0) po_none (po_some (pv 4))) (pe_slice sl_tupS (pv 0) (po_some (pe_op op_add (pv 4) pe_int)) po_none)))
      (pss_cons (ps_set (i := 6) nd rfl (.inl rfl) (pe_call GN hr (by rfl) gN FN.kp bN .nil pass0 (pa_cons (pv 2) (pa_cons (pv 4) (pa_cons (pe_callB call_len_seq (by rfl) ml PySem.boot_len (pa_cons (pv 5) pa_nil)) pa_nil)))))
      (pss_one (ps_ret (pe_op op_catS (pe_op op_catS (pe_slice sl_tupS (pv 5) po_none (po_some (pv 6))) (pe_tupS (pa_cons (pv 3) pa_nil))) (pe_slice sl_tupS (pv 5) (po_some (pv 6)) po_none))))))), ?_⟩
    refine ⟨_, rfl, c, _, rfl, hC, rfl, _, _, rfl, _, _, rfl, rfl, ?_⟩
    refine ⟨_, rfl, ⟨o, _, rfl, hO⟩, _, rfl, o, os, ly, idx os ly, rfl, rfl, hO.sq, idx_at hm, fun m h => idx_first m h, ?_⟩
    refine ⟨_, rfl, _, rfl, _, rfl, o, _, rfl, hO, fun a1 H1 s1 h1 => ?_⟩
    refine ⟨_, rfl, _, rfl, _, _, rfl, rfl, _, rfl, o, _, rfl, hO.same s1, fun a2 H2 s2 h2 => ?_⟩
    rw [cut_to] at h1
    rw [show ((idx os ly : Nat) : Int) + 1 = ((idx os ly + 1 : Nat) : Int) by omega, cut_from] at h2
    have ho := out_len hm
    refine ⟨a1, a2, _, _, rfl, rfl, h1.same s2, h2, ?_, fun a3 H3 s3 h3 => ?_⟩
    · rw [← List.length_append, ← List.map_take, ← List.map_drop, ← List.map_append, List.length_map]
      exact Nat.le_of_lt (small1000 (show (outOf os ly).length ≤ 1000 by omega))
    · rw [← List.map_take, ← List.map_drop, ← List.map_append] at h3
      replace h3 : Tn H3 a3 ((outOf os ly).map V.str) := h3
      refine ⟨_, rfl, _, rfl, _, rfl, a3, _, rfl, .inr h3.sq, wd, idx os ly, ((outOf os ly).map V.str).length, rfl, ?_⟩
      rw [List.length_map]
      generalize et : newIx wd (idx os ly) (outOf os ly).length = t
      refine ⟨_, rfl, _, rfl, _, rfl, a3, _, rfl, h3, fun a4 H4 s4 h4 => ?_⟩
      refine ⟨_, rfl, (by show 1 ≤ sizeLine; decide), fun a5 H5 s5 n5 h5 => ?_⟩
      rw [cut_to] at h4
      refine ⟨a4, a5, _, _, rfl, rfl, h4.same s5, h5, ?_, fun a6 H6 s6 h6 => ?_⟩
      · rw [List.length_take, List.length_map]
        exact Nat.le_of_lt (small1000 (show min t (outOf os ly).length + 1 ≤ 1000 by omega))
      · refine ⟨_, rfl, _, rfl, _, rfl, a3, _, rfl, ((h3.same s4).same s5).same s6, fun a7 H7 s7 h7 => ?_⟩
        rw [cut_from] at h7
        refine ⟨a6, a7, _, _, rfl, rfl, h6.same s7, h7, ?_, fun a8 H8 s8 h8 => ?_⟩
        · rw [List.length_append, List.length_take, List.length_map, List.length_drop, List.length_map]
          exact Nat.le_of_lt (small1000 (show min t (outOf os ly).length + 1 + ((outOf os ly).length - t) ≤ 1000 by omega))
        · refine q a8 H8 (((((((s1.trans s2).trans s3).trans s4).trans s5).trans s6).trans s7).trans s8) ?_
          have e : (moved os (wd, ly)).map V.str = ((outOf os ly).map V.str).take t ++ [V.str ly] ++ ((outOf os ly).map V.str).drop t := by
            show (LS.putAt (outOf os ly) ly (newIx wd (idx os ly) (outOf os ly).length)).map V.str = _
            rw [et]
            unfold LS.putAt
            rw [List.map_append, List.map_append, List.map_take, List.map_drop]
            rfl
          rw [e]
          exact h8
/-- after_command, where it stands -/
structure AfterAt (K : PySem.W.Frag) (mg : Str → Option Value) (fA : Addr) (fdA : FuncData) (fN : Addr) (fdN : FuncData) : Prop where
  FA : Fun K "after_command" "after_command" sAfter fA fdA
  FN : Fun K "new_index" "new_index" sNewIx fN fdN
  bA : Binds K fdA ["order", "command"] []
  bN : Binds K fdN ["word", "at", "last"] []
  gA : mg "after_command" = some (.ref fA)
  gN : mg "new_index" = some (.ref fN)
  ml : mg "len" = none
  mM : mg "max" = none
  mm : mg "min" = none
theorem AfterAt.ok {fA fN : Addr} {fdA fdN : FuncData} {k : Nat} (T : AfterAt K mg fA fdA fN fdN) : FnOk P w K mg base CX0 (k + 2) fA fdA ["order", "command"] (spAfter K) := ok_after T.FA T.FN T.bN T.gN T.ml T.mM T.mm
end
abbrev sAllC : Stmt := topS 11
theorem scAllC : FnScope ["order", "word", "layer"] ["order"] (defScope sAllC) := ⟨rfl, rfl, rfl, by decide +kernel, rfl, by decide +kernel, by decide +kernel⟩
section
variable {K : PySem.W.Frag} {mg : Str → Option Value} {P : Program} {w : World} {base : Heap}
theorem ok_allC {f wa : Addr} {fd : FuncData} {k : Nat} (F : Fun K "all_commands" "all_commands" sAllC f fd) (W : TupAt K mg "WORDS" fourWords wa) : FnOk P w K mg base CX0 (k + 1) f fd ["order"] spAllC := by
  refine F.ok scAllC (fun vs H Q E h => ?_) (fun cdv A outer s H vs Q E hr h => ?_)
  · obtain ⟨o, os, rfl, _⟩ := h
    rfl
  · obtain ⟨o, os, rfl, hO, hl, q⟩ := h
    have nd := scAllC.nd
    refine ⟨_, pss_one (ps_ret (pe_lc2 (own := [("word", 1), ("layer", 2)]) (vs1 := [2]) (g := gName 1) (g1 := gName 2) (tt := tYes) (tt1 := tYes) rfl nd (pi_tup (pe_glob (v := .ref wa) (by rfl) W.g rfl)) (blkOk_by (N := ["order", "word", "layer"]) (sc := defScope sAllC) (by decide +kernel)) (by decide)
      (fun _ _ _ _ _ => pg_name (i := 1) nd rfl (.inl rfl)) (fun _ _ _ _ _ => pts_nil)
      (fun _ _ _ _ _ => pi_tupK (K := K) rfl (pv 0)) (fun _ _ _ _ _ => pg_name (i := 2) nd rfl (.inl rfl)) (fun _ _ _ _ _ => pts_nil)
      (fun _ _ _ _ _ => pe_tupS (pa_cons (pv 1) (pa_cons (pv 2) pa_nil))))), ?_⟩
    refine ⟨wa, rfl, ⟨_, W.sq H⟩, fun D nD => ?_⟩
    refine out_it (walk_tup (xs := fourWords.map V.str)) (fun i H3 => ∃ as : List Addr, Same H H3 ∧ H3 D = some (.lst (as.map V.ref)) ∧ Cmds H3 as ((fourWords.take i).flatMap fun k => os.map fun n => (k, n))) ⟨[], same_new nD, upd_same, trivial⟩ (fun i H3 _ _ => W.sq H3) ?_ ?_
    · rintro i x H3 H4 hi ⟨as, s3, hD3, hC⟩ ⟨rfl, hx⟩
      rw [List.length_map] at hi
      have ex : x = .str fourWords[i] := by
        rw [List.getElem?_map, List.getElem?_eq_getElem hi] at hx
        exact (Option.some.inj hx).symm
      subst ex
      have eT : fourWords.take (i + 1) = fourWords.take i ++ [fourWords[i]] := by
        rw [List.take_add_one, List.getElem?_eq_getElem hi]
        rfl
      have i4 : i < 4 := hi
      generalize fourWords[i] = kd at eT
      have ln : ((fourWords.take i).flatMap fun k => os.map fun n => ((k, n) : Str × Str)).length ≤ 4 * 100 := by
        refine Nat.le_trans (flat_len (n := 100) (fun k => by rw [List.length_map]; exact hl) _) (Nat.mul_le_mul_right _ ?_)
        rw [List.length_take]
        exact Nat.min_le_right _ _
      refine ⟨rfl, yes_then ?_⟩
      refine ⟨_, rfl, o, rfl, ⟨_, (hO.same s3).sq⟩, ?_⟩
      refine in_it (walk_tup (xs := os.map V.str)) (fun m H5 => ∃ bs : List Addr, Same H H5 ∧ H5 D = some (.lst (bs.map V.ref)) ∧ Cmds H5 bs (((fourWords.take i).flatMap fun k => os.map fun n => (k, n)) ++ (os.take m).map fun n => (kd, n))) ⟨as, s3, hD3, by rw [List.take_zero, List.map_nil, List.append_nil]; exact hC⟩ (fun m H5 _ ⟨_, s5, _⟩ => (hO.same s5).sq) ?_ ?_
      · rintro m y H5 H6 hm ⟨bs, s5, hD5, hB⟩ ⟨rfl, hy⟩
        rw [List.length_map] at hm
        have ey : y = .str os[m] := by
          rw [List.getElem?_map, List.getElem?_eq_getElem hm] at hy
          exact (Option.some.inj hy).symm
        subst ey
        have em : os.take (m + 1) = os.take m ++ [os[m]] := by
          rw [List.take_add_one, List.getElem?_eq_getElem hm]
          rfl
        refine ⟨rfl, yes_then ?_⟩
        refine ⟨_, rfl, _, rfl, (by show 2 ≤ sizeLine; decide), fun r H7 s7 n7 h7 => ?_⟩
        have hD7 := s7 _ _ hD5
        refine ⟨_, hD7, ?_, bs ++ [r], same_upd (s5.trans s7) nD, ?_, ?_⟩
        · rw [List.length_map, hB.len, List.length_append, List.length_map, List.length_take]
          exact small1000 (by omega)
        · rw [upd_same, List.map_append]
          rfl
        · rw [em, List.map_append, ← List.append_assoc]
          exact Cmds.snoc (tn_keep hD7 upd_keep h7) (Cmds.keep hD7 upd_keep (hB.same s7))
      · rintro H5 ⟨bs, s5, hD5, hB⟩
        rw [List.length_map, List.take_of_length_le (Nat.le_refl _)] at hB
        refine ⟨bs, s5, hD5, ?_⟩
        rw [eT, List.flatMap_append, List.flatMap_singleton]
        exact hB
    · rintro H3 ⟨as, s3, hD3, hC⟩
      exact q D as H3 s3 nD hD3 hC
end
end K20
namespace K20
open PySem L2 LS PySem.Spec PyProof.Rows
abbrev sFSph : Stmt := topS 12
abbrev fsphN : List Str := ["sphere", "seen", "following", "order", "command", "reached"]
theorem scFSph : FnScope fsphN ["sphere", "seen"] (defScope sFSph) := ⟨rfl, rfl, rfl, by decide +kernel, rfl, by decide +kernel, by decide +kernel⟩
section
variable {K : PySem.W.Frag} {mg : Str → Option Value} {P : Program} {w : World} {base : Heap}
theorem ok_fsph {f fA fN fC wa : Addr} {fd fdA fdN dC : FuncData} {k : Nat} (F : Fun K "following_sphere" "following_sphere" sFSph f fd) (T : AfterAt K mg fA fdA fN fdN) (aC : At K mg "all_commands" sAllC ["order"] fC dC) (W : TupAt K mg "WORDS" fourWords wa) : FnOk P w K mg base CX0 (k + 3) f fd ["sphere", "seen"] (spFSph P w) := by
  have GA : FnOk P w K mg base CX0 (k + 2) fA fdA ["order", "command"] (spAfter K) := T.ok
  have GC : FnOk P w K mg base CX0 (k + 2) fC dC ["order"] spAllC := ok_allC aC.F W
  refine F.ok scFSph (fun vs H Q E h => ?_) (fun cdv A outer s H vs Q E hr h => ?_)
  · obtain ⟨Fr, D, os, fs, fa, c, es, rfl, _⟩ := h
    rfl
  · obtain ⟨Fr, D, os, fs, fa, c, es, rfl, hF, hT, hD, hS, hn, h6, q⟩ := h
    have nd := scFSph.nd
    have hu := hu_of hr
    refine ⟨_, pss_cons (ps_set (i := 2) nd rfl (.inl rfl) (pe_lstS pa_nil))
      (pss_cons (ps_for PassesOwn.never rfl (pi_list (pv 0)) (pg_name (i := 3) nd rfl (.inl rfl))
        (pss_one (ps_for PassesOwn.never rfl (pi_list (pe_call GC hr (by rfl) aC.g aC.F.kp aC.b .nil pass0 (pa_cons (pv 3) pa_nil))) (pg_name (i := 4) nd rfl (.inl rfl))
          (pss_cons (ps_set (i := 5) nd rfl (.inl rfl) (pe_call GA hr (by rfl) T.gA T.FA.kp T.bA .nil pass0 (pa_cons (pv 3) (pa_cons (pv 4) pa_nil))))
          (pss_one (ps_if (pt_cmpR (op_dnotinR hu) (pv 5) (pv 1) rfl)
            (pss_cons (ps_dputR hu (pv 1) (pv 5) pe_bl rfl)
            (pss_one (ps_expr (pe_bm PySem.F.plainAttrs_list PySem.F.slot_list_append PySem.F.type_list_append mt_append (pv 2) (pa_cons (pv 5) pa_nil))))) pss_nil))))))
      (pss_one (ps_ret (pv 2)))), ?_⟩
    refine ⟨(by show 0 ≤ sizeLine; decide), fun R H1 s1 nR hR => ?_⟩
    have hFR : Fr ≠ R := ne_of_none hF nR
    have B1 : BS P w H H1 D Fr R os fs [] fa [] c es := ⟨fun b u _ e => s1 _ _ e, hD.same s1, s1 _ _ hF, hT.same s1, hR, trivial, hFR, nR, hS.half⟩
    refine ⟨_, rfl, Fr, rfl, ⟨_, SqL.of B1.f⟩, ?_⟩
    refine for_it (walk_list (xs := fa.map V.ref)) (fun i σ H6 => ∃ (es : List Ent) (rs : List (List Str)) (ra : List Addr) (y3 y4 y5 : Option V), σ = [some (.ref Fr), some (.ref D), some (.ref R), y3, y4, y5] ∧ BS P w H H6 D Fr R os fs rs fa ra c es ∧ ∀ p, p ∈ fs.take i → ∀ cm, cm ∈ allC p → moved p cm ∈ rowsE es)
      ⟨es, [], [], _, _, _, rfl, B1, fun p hp => by simp at hp⟩ (fun i σ H6 _ ⟨_, _, _, _, _, _, _, B6, _⟩ => SqL.of B6.f) ?_ ?_
    · rintro i x σ H6' H6 hi ⟨es6, rs6, ra6, y3', y4', y5', rfl, B6, all6⟩ ⟨rfl, hx⟩
      rw [List.length_map, B6.ft.len] at hi
      have ei : fs[i]? = some fs[i] := List.getElem?_eq_getElem hi
      obtain ⟨p, ep, hp⟩ := B6.ft.get ei
      have ex : x = .ref p := by
        rw [List.getElem?_map, ep] at hx
        exact (Option.some.inj hx).symm
      subst ex
      have hlv : Lv os c fs[i] := (hS.fin _).mp (List.getElem_mem hi)
      have et : fs.take (i + 1) = fs.take i ++ [fs[i]] := by
        rw [List.take_add_one, ei]
        rfl
      generalize fs[i] = ps at hp hlv et
      have pmp := hlv.perm
      refine ⟨_, rfl, p, ps, rfl, hp, by rw [pmp.length_eq]; omega, fun G ga H7 s7 nG hG hGa => ?_⟩
      have B7 := B6.same s7
      have hGR : G ≠ R := fun z => by
        rw [z, B6.r] at nG
        cases nG
      refine ⟨G, rfl, ⟨_, SqL.of hG⟩, ?_⟩
      refine for_it (walk_list (xs := ga.map V.ref)) (fun j σ H8 => ∃ (es : List Ent) (rs : List (List Str)) (ra : List Addr) (y4 y5 : Option V), σ = [some (.ref Fr), some (.ref D), some (.ref R), some (.ref p), y4, y5] ∧ BS P w H H8 D Fr R os fs rs fa ra c es ∧ H8 G = some (.lst (ga.map V.ref)) ∧ Cmds H8 ga (allC ps) ∧ Tn H8 p (ps.map V.str) ∧ (∀ p, p ∈ fs.take i → ∀ cm, cm ∈ allC p → moved p cm ∈ rowsE es) ∧ ∀ cm, cm ∈ (allC ps).take j → moved ps cm ∈ rowsE es)
        ⟨es6, rs6, ra6, _, _, rfl, B7, hG, hGa, hp.same s7, all6, fun cm h => by simp at h⟩ (fun j σ H8 _ ⟨_, _, _, _, _, _, _, g8, _⟩ => SqL.of g8) ?_ ?_
      · rintro j x σ H8' H8 hj ⟨es8, rs8, ra8, y4'', y5'', rfl, B8, g8, c8, p8, all8, one8⟩ ⟨rfl, hx8⟩
        rw [List.length_map, c8.len] at hj
        have ej : (allC ps)[j]? = some (allC ps)[j] := List.getElem?_eq_getElem hj
        obtain ⟨cmA, ec, hcm⟩ := c8.get ej
        have ex : x = .ref cmA := by
          rw [List.getElem?_map, ec] at hx8
          exact (Option.some.inj hx8).symm
        subst ex
        have cm := allC_mem (List.getElem_mem hj)
        have etj : (allC ps).take (j + 1) = (allC ps).take j ++ [(allC ps)[j]] := by
          rw [List.take_add_one, ej]
          rfl
        generalize (allC ps)[j] = cc at hcm cm etj
        refine ⟨_, rfl, _, rfl, p, cmA, ps, cc.1, cc.2, rfl, p8, hcm.sq, cm.2, by rw [pmp.length_eq]; omega, fun ot H9 s9 h9 => ?_⟩
        have B9 := B8.same s9
        have h9' : Tn H9 ot ((moved ps cc).map V.str) := h9
        refine ⟨_, rfl, _, rfl, D, ot, es8, moved ps cc, rfl, rfl, B9.d.rd, h9', _, rfl, ite2 (fun z => ?_) (fun z => ?_)⟩
        · have hno : (valR es8 (moved ps cc)).isSome = false := by simpa using z
          have HM := B9.h.meet hlv cm.1 (pmp.mem_iff.mp cm.2) hno ot (.bl true)
          obtain ⟨lenE, lenR⟩ := B9.h.few hn h6
          refine ⟨_, rfl, _, rfl, D, ot, es8, moved ps cc, rfl, rfl, B9.d, h9', lenE, fun H10 k10 d10 => ?_⟩
          rw [put_new hno] at d10
          replace d10 : Dic P w H10 D (es8 ++ [(moved ps cc, ot, V.bl true)]) := d10
          have neRD : R ≠ D := lst_ne_dic B9.r B9.d
          have r10 := k10 R _ neRD B9.r
          refine ⟨_, rfl, .inl ⟨rfl, _, SqL.of r10⟩, _, rfl, R, _, _, rfl, rfl, r10, by rw [List.length_map, B9.rt.len]; exact lenR, ?_⟩
          have kk : ∀ b y, b ≠ R → H10 b = some y → (upd H10 R (.lst (ra8.map V.ref ++ [.ref ot]))) b = some y := upd_keep
          have ot10 := tn_keepX B9.d.1 dicO_nf k10 h9'
          have f10 := k10 Fr _ (lst_ne_dic B9.f B9.d) B9.f
          have g10 := k10 G _ (lst_ne_dic (s9 _ _ g8) B9.d) (s9 _ _ g8)
          refine ⟨es8 ++ [(moved ps cc, ot, V.bl true)], rs8 ++ [moved ps cc], ra8 ++ [ot], _, _, rfl, ⟨fun b u hb e => kk b u (ne_of_none e nR) (k10 b u hb (B9.s b u hb e)), dic_keepL r10 kk d10, kk _ _ hFR f10, tups_keepX r10 lst_nf kk (tups_keepX B9.d.1 dicO_nf k10 B9.ft), by rw [upd_same, List.map_append]; rfl, Tups.snoc (tn_keepX r10 lst_nf kk ot10) (tups_keepX r10 lst_nf kk (tups_keepX B9.d.1 dicO_nf k10 B9.rt)), hFR, nR, HM⟩,
            kk _ _ hGR g10, cmds_keepX r10 lst_nf kk (cmds_keepX B9.d.1 dicO_nf k10 (c8.same s9)), tn_keepX r10 lst_nf kk (tn_keepX B9.d.1 dicO_nf k10 (p8.same s9)), fun p hp cm hcm => ?_, fun cm hcm => ?_⟩
          · unfold rowsE
            rw [List.map_append]
            exact List.mem_append_left _ (all8 p hp cm hcm)
          · unfold rowsE
            rw [List.map_append]
            rw [etj] at hcm
            rcases List.mem_append.mp hcm with q1 | q1
            · exact List.mem_append_left _ (one8 cm q1)
            · rw [List.mem_singleton.mp q1]
              exact List.mem_append_right _ (by simp)
        · have hyes : (valR es8 (moved ps cc)).isSome = true := by
            cases hh : (valR es8 (moved ps cc)).isSome with
            | true => rfl
            | false => exact absurd (by rw [hh]; rfl) z
          refine ⟨es8, rs8, ra8, _, _, rfl, B9, s9 _ _ g8, c8.same s9, p8.same s9, all8, fun cm hcm => ?_⟩
          rw [etj] at hcm
          rcases List.mem_append.mp hcm with q1 | q1
          · exact one8 cm q1
          · rw [List.mem_singleton.mp q1]
            exact val_mem.mp hyes
      · rintro σ H8 ⟨es8, rs8, ra8, y4'', y5'', rfl, B8, g8, c8, p8, all8, one8⟩
        rw [List.length_map, c8.len, List.take_of_length_le (Nat.le_refl _)] at one8
        refine ⟨es8, rs8, ra8, _, _, _, rfl, B8, fun p hp cm hcm => ?_⟩
        rw [et] at hp
        rcases List.mem_append.mp hp with q1 | q1
        · exact all8 p q1 cm hcm
        · rw [List.mem_singleton.mp q1] at hcm ⊢
          exact one8 cm hcm
    · rintro σ H6 ⟨es6, rs6, ra6, y3', y4', y5', rfl, B6, all6⟩
      rw [List.length_map, B6.ft.len, List.take_of_length_le (Nat.le_refl _)] at all6
      exact ⟨_, rfl, q R ra6 rs6 es6 H6 B6.s nR B6.d B6.r B6.rt (B6.h.done fun p hp cm hcm => all6 p ((hS.fin p).mpr hp) cm (mem_allC hp.perm hcm))⟩
end
end K20
namespace K20
open PySem L2 LS PySem.Spec PyProof.Rows
abbrev sSpheres : Stmt := topS 13
abbrev sSizes : Stmt := topS 14
abbrev sphN : List Str := ["order", "seen", "sphere"]
theorem scSph : GScope sphN ["order"] (defScope sSpheres) := ⟨rfl, rfl, rfl, by decide +kernel, rfl, by decide +kernel, by decide +kernel⟩
theorem scSizes : FnScope ["order", "sphere"] ["order"] (defScope sSizes) := ⟨rfl, rfl, rfl, by decide +kernel, rfl, by decide +kernel, by decide +kernel⟩
section
variable {K : PySem.W.Frag} {mg : Str → Option Value} {P : Program} {w : World} {base : Heap}
theorem ok_sizes {f fG fF fA fN fC wa : Addr} {fd dG dF fdA fdN dC : FuncData} {k : Nat} (F : Fun K "sphere_sizes" "sphere_sizes" sSizes f fd) (aG : At K mg "spheres" sSpheres ["order"] fG dG) (aF : At K mg "following_sphere" sFSph ["sphere", "seen"] fF dF) (T : AfterAt K mg fA fdA fN fdN) (aC : At K mg "all_commands" sAllC ["order"] fC dC) (W : TupAt K mg "WORDS" fourWords wa) (ml : mg "len" = none) : FnOk P w K mg base CX0 (k + 6) f fd ["order"] spSizes := by
  have GF : FnOk P w K mg base CX0 (k + 3) fF dF ["sphere", "seen"] (spFSph P w) := ok_fsph aF.F T aC W
  refine F.ok scSizes (fun vs H Q E h => ?_) (fun cdv A outer s H vs Q E hr h => ?_)
  · obtain ⟨o, os, rfl, _⟩ := h
    rfl
  · obtain ⟨o, os, rfl, hO, hn, h0, h6, q⟩ := h
    have nd := scSph.nd
    refine ⟨_, pss_one (ps_ret (pe_glen (k := k + 3) (sp := spSph) aG.F rfl scSph (fun _ _ => rfl) aG.b hr (by rfl) aG.g ml (pa_cons (pv 0) pa_nil) (fun vs H Q h => ?_) (fun cdv' A' outer' s' H vs Q pn hr' h => ?_) rfl (by decide +kernel) (by decide +kernel) (fun _ _ => by rfl) (fun _ _ => by rfl) (fun _ _ => by rfl))), ?_⟩
    · obtain ⟨o, os, rfl, _⟩ := h
      rfl
    · obtain ⟨o, os, rfl, hO, hn, h0, h6, q⟩ := h
      have hu := hu_of hr'
      refine ⟨_, _, _, _, _, ⟨ps_set (i := 1) nd rfl (.inl rfl) (pe_dispR hu (pv 0) pe_bl), ps_set (i := 2) nd rfl (.inl rfl) (pe_lstS (pa_cons (pv 0) pa_nil)), ps_set (i := 2) nd rfl (.inl rfl) (pe_call GF hr' (by rfl) aF.g aF.F.kp aF.b .nil pass0 (pa_cons (pv 2) (pa_cons (pv 1) pa_nil))), pt_truth (pv 2) (fun _ => rfl), pv 2⟩, ?_⟩
      refine fun D H0 nD s0 d0 => ⟨_, rfl, o, os, rfl, d0, hO.same s0, fun H1 k1 d1 => ?_⟩
      have s1 : Same H H1 := same_keep s0 nD k1
      have hO1 := hO.same s1
      refine ⟨_, rfl, (by show 1 ≤ sizeLine; decide), fun F0 H2 s2 nF0 hF0 => ?_⟩
      refine ⟨fun m ys σ H3 => ∃ (c : Nat) (Fr : Addr) (fa : List Addr) (fs : List (List Str)) (es : List Ent), σ = [some (.ref o), some (.ref D), some (.ref Fr)] ∧ Same H H3 ∧ Dic P w H3 D es ∧ H3 Fr = some (.lst (fa.map V.ref)) ∧ Tups H3 fa fs ∧ SeenF os c es fs ∧ c + m = os.length + 1 ∧ c ≤ os.length ∧ ys = lsn os c,
        ⟨os.length + 1, by omega, 0, F0, [o], [os], _, rfl, s1.trans s2, d1.same s2, hF0, ⟨hO1.same s2, trivial⟩, seen_zero _ _, by omega, Nat.zero_le _, rfl⟩, ?_⟩
      rintro m ys σ H3 ⟨c, Fr, fa, fs, es, rfl, s3, d3, f3, t3, hS, hm, hc, rfl⟩
      refine ⟨_, rfl, !(fa.map V.ref).isEmpty, .inl ⟨_, SqL.of f3, rfl⟩, ?_⟩
      have fl : fs.length = lc os c := lc_of hn hS.fnd hS.fin
      have al := t3.len
      refine ite2 (fun z => ?_) (fun z => ?_)
      · have fne : fs ≠ [] := fun e => by
          rw [e] at al
          rw [List.eq_nil_of_length_eq_zero al] at z
          simp at z
        have clt : c < os.length := by
          cases fs with
          | nil => exact absurd rfl fne
          | cons x xs => exact lv_lt hn h0 ((hS.fin x).mp List.mem_cons_self)
        refine ⟨by rw [lsn_len]; omega, _, rfl, Fr, _, rfl, f3, ?_⟩
        refine ⟨_, rfl, _, rfl, Fr, D, os, fs, fa, c, es, rfl, f3, t3, d3, hS, hn, h6, fun R ra rs es' H4 b4 nR d4 r4 rt4 S4 => ?_⟩
        refine ⟨m - 1, by omega, c + 1, R, ra, rs, es', rfl, fun b u e => b4 b u (ne_of_none e nD) (s3 _ _ e), d4, r4, rt4, S4, by omega, clt, ?_⟩
        rw [lsn_succ, List.length_map, al, fl]
      · have fe : fa = [] := by
          cases fa with
          | nil => rfl
          | cons x xs => exact absurd rfl z
        rw [fe] at al
        have fe' : fs = [] := List.eq_nil_of_length_eq_zero al.symm
        subst fe'
        have ce : c = os.length := by
          rcases Nat.lt_or_ge c os.length with q1 | q1
          · obtain ⟨x, hx⟩ := lv_some hn h0 q1
            exact nomatch (hS.fin x).mpr hx
          · omega
        subst ce
        rw [lsn_all]
        exact q H3 s3
    · refine ⟨_, rfl, o, os, rfl, hO, hn, h0, h6, fun H' s' => ⟨?_, fun D nD => ?_⟩⟩
      · rw [List.length_map, lsz_len]
        exact Nat.le_of_lt (small1000 (by omega))
      · exact q D _ (s'.trans (same_new nD)) (none_of s' nD) upd_same
end
end K20
namespace K20
open PySem L2 LS PySem.Spec PyProof.Rows
abbrev sHasP : Stmt := topS 19
abbrev hasPN : List Str := ["order", "pairs", "front", "behind"]
theorem scHasP : FnScope hasPN ["order", "pairs"] (defScope sHasP) := ⟨rfl, rfl, rfl, by decide +kernel, rfl, by decide +kernel, by decide +kernel⟩
section
open LamX
variable {K : PySem.W.Frag} {mg : Str → Option Value} {P : Program} {w : World} {base : Heap}
theorem ok_hasp {f c Pt : Addr} {fd : FuncData} {k : Nat} {T : List (Addr × Str)} (hm0 : (Pt, genQh) ∈ T) (hu0 : ∀ p, p ∈ T → p.1 = Pt → p.2 = genQh) (F : FunC K "has_pairs" "has_pairs" sHasP f fd c) (TB : TabB base mg c Pt) (ma : mg "all" = none) : FnOk P w K mg base CX0 (k + 4) f fd ["order", "pairs"] (spHasP T) := by
  refine F.ok scHasP (fun vs H Q E h => ?_) (fun A outer s H vs Q E hr h => ?_)
  · obtain ⟨o, p, os, as, ps, rfl, _⟩ := h
    rfl
  · obtain ⟨o, p, os, as, ps, rfl, hO, hP, hC, hin, hTb, q⟩ := h
    have nd := scHasP.nd
    refine ⟨_, pss_one (ps_ret (pe_allG (T := T) (c := c) (P := Pt) (k := k) (vs := [2, 3]) (g := gTup K 2 (gCons (gName 2) (gCons (gName 3) gNil))) hr (by rfl) ma TB rfl hm0 hu0 (genS1_by (sc := defScope sHasP) (by decide +kernel)) (slots_by hasPN (by decide +kernel)) (pi_tup (pv 1))
        (fun B s' H' C code fp pn hr2 => ⟨pg_tup rfl (pgs_cons (pg_name (i := 2) nd rfl (.inl rfl) (.inr rfl)) (pgs_cons (pg_name (i := 3) nd rfl (.inl rfl) (.inr rfl)) pgs_nil)), pe_cmpR op_lt (pe_tindexK (K := K) rfl (pv 0) (pa_cons (pv 2) pa_nil)) (pe_tindexK (K := K) rfl (pv 0) (pa_cons (pv 3) pa_nil)) (nomark _)⟩))), ?_⟩
    refine ⟨_, rfl, p, rfl, ⟨_, hP.sq⟩, hTb, fun H2 e2 T2 => ?_⟩
    have hO2 := hO.ext e2
    refine for_it (walk_tup (xs := as.map V.ref)) (fun i σ H3 => ∃ (y2 y3 : Option V), σ = [some (.ref o), some (.ref p), y2, y3] ∧ H3 = H2 ∧ stands os (ps.take i) = true) ⟨none, none, rfl, rfl, rfl⟩ (fun i σ H3 _ ⟨_, _, _, e3, _⟩ => by rw [e3]; exact (hP.ext e2).sq) ?_ ?_
    · rintro i x σ H3 H' hi ⟨y2, y3, rfl, rfl, hs⟩ ⟨rfl, hx⟩
      rw [List.length_map, hC.len] at hi
      have gc : ps[i]? = some ps[i] := List.getElem?_eq_getElem hi
      obtain ⟨a, ea, ha⟩ := hC.get gc
      have ex : x = .ref a := by
        rw [List.getElem?_map, ea] at hx
        exact (Option.some.inj hx).symm
      subst ex
      have gg := hin _ (List.getElem_mem hi)
      have et : ps.take (i + 1) = ps.take i ++ [ps[i]] := by
        rw [List.take_add_one, gc]
        rfl
      have hm := List.getElem_mem hi
      generalize ps[i] = pr at ha gg et hm
      refine ⟨a, _, rfl, (ha.ext e2).sq, rfl, _, _, rfl, _, _, rfl, rfl, ?_⟩
      refine ⟨_, rfl, ⟨o, _, rfl, hO2⟩, _, rfl, o, os, _, idx os pr.1, rfl, rfl, hO2.sq, idx_at gg.1, (fun m h => idx_first m h), ?_⟩
      refine ⟨_, rfl, ⟨o, _, rfl, hO2⟩, _, rfl, o, os, _, idx os pr.2, rfl, rfl, hO2.sq, idx_at gg.2, (fun m h => idx_first m h), _, _, rfl, rfl, _, rfl, ?_⟩
      by_cases c1 : idx os pr.1 < idx os pr.2
      · rw [decide_eq_true (show ((idx os pr.1 : Nat) : Int) < ((idx os pr.2 : Nat) : Int) by omega), if_pos rfl]
        refine ⟨_, _, rfl, rfl, ?_⟩
        rw [et]
        unfold stands at hs ⊢
        rw [List.all_append, hs, List.all_cons, List.all_nil, decide_eq_true c1]
        rfl
      · rw [decide_eq_false (show ¬ ((idx os pr.1 : Nat) : Int) < ((idx os pr.2 : Nat) : Int) by omega), if_neg Bool.false_ne_true]
        have e : stands os ps = false := by
          cases z : stands os ps with
          | false => rfl
          | true =>
            unfold stands at z
            exact absurd (of_decide_eq_true (List.all_eq_true.mp z pr hm)) c1
        have := q _ e2 T2
        rw [e] at this
        exact this
    · rintro σ H3 ⟨y2, y3, rfl, rfl, hs⟩
      rw [List.length_map, hC.len, List.take_of_length_le (Nat.le_refl _)] at hs
      have := q _ e2 T2
      rw [hs] at this
      exact this
end
end K20
namespace K20
open PySem L2 LS PySem.Spec PyProof.Rows
theorem flSph : Flat (defScope sSpheres) := ⟨rfl, by decide +kernel, by decide +kernel⟩
abbrev sDPairs : Stmt := topS 20
abbrev dprN : List Str := ["order", "pairs", "count", "sphere", "target"]
theorem scDPairs : FnScope dprN ["order", "pairs"] (defScope sDPairs) := ⟨rfl, rfl, rfl, by decide +kernel, rfl, by decide +kernel, by decide +kernel⟩
section
open LamX
variable {K : PySem.W.Frag} {mg : Str → Option Value} {P : Program} {w : World} {base : Heap}
theorem ok_dpairs {f c Pt fG fF fA fN fC wa fH cH Ph : Addr} {fd dG dF fdA fdN dC dH : FuncData} {k : Nat} {T : List (Addr × Str)} (hm0 : (Pt, genQd) ∈ T) (hu0 : ∀ p, p ∈ T → p.1 = Pt → p.2 = genQd) (hm1 : (Ph, genQh) ∈ T) (hu1 : ∀ p, p ∈ T → p.1 = Ph → p.2 = genQh) (F : FunC K "distance_to_pairs" "distance_to_pairs" sDPairs f fd c) (TB : TabB base mg c Pt)
    (FH : FunC K "has_pairs" "has_pairs" sHasP fH dH cH) (bH : Binds K dH ["order", "pairs"] []) (gH : mg "has_pairs" = some (.ref fH)) (TBH : TabB base mg cH Ph) (aG : At K mg "spheres" sSpheres ["order"] fG dG) (aF : At K mg "following_sphere" sFSph ["sphere", "seen"] fF dF) (AT : AfterAt K mg fA fdA fN fdN) (aC : At K mg "all_commands" sAllC ["order"] fC dC) (W : TupAt K mg "WORDS" fourWords wa)
    (me : mg "enumerate" = none) (my : mg "any" = none) (ma : mg "all" = none) : FnOk P w K mg base CX0 (k + 8) f fd ["order", "pairs"] (spDPairs T) := by
  have GF : FnOk P w K mg base CX0 (k + 4) fF dF ["sphere", "seen"] (spFSph P w) := ok_fsph (k := k + 1) aF.F AT aC W
  have GH : FnOk P w K mg base CX0 (k + 4) fH dH ["order", "pairs"] (spHasP T) := ok_hasp hm1 hu1 FH TBH ma
  refine F.ok scDPairs (fun vs H Q E h => ?_) (fun A outer s H vs Q E hr h => ?_)
  · obtain ⟨o, p, os, as, ps, rfl, _⟩ := h
    rfl
  · obtain ⟨o, p, os, as, ps, rfl, hO, hP, hC, hin, hn, h0, h6, hTb, q⟩ := h
    have nd := scDPairs.nd
    have ndS := scSph.nd
    refine ⟨_, pss_cons (ps_forJ (k := k + 4) (N := sphN) (ps := ["order"]) (t1 := tAsg (tDispR P w (tVar 0) (tC (.bl true))) (gName 1)) (t2 := tAsg (tLstS (tCons (tVar 0) tNil)) (gName 2)) (t3 := tAsg (tCall (spFSph P w) [] E0 (tCons (tVar 2) (tCons (tVar 1) tNil))) (gName 2)) (tc := fun σ H Q => tVar 2 σ H fun x H' => ∃ k, TruV K x H' k ∧ Q k H') (te := tVar 2) (g := gTup K 2 (gCons (gName 2) (gCons (gName 3) gNil)))
        (fun _ _ z => z) rfl aG.F rfl scSph flSph (fun _ _ => rfl) aG.b hr (by rfl) aG.g (by rfl) me (pa_cons (pv 0) pa_nil)
        (fun cdv' A' outer' s1 s0 H0 hr' => ⟨ps_set (i := 1) ndS rfl (.inl rfl) (pe_dispR (hu_of hr') (pv 0) pe_bl), ps_set (i := 2) ndS rfl (.inl rfl) (pe_lstS (pa_cons (pv 0) pa_nil)), ps_set (i := 2) ndS rfl (.inl rfl) (pe_call GF hr' (by rfl) aF.g aF.F.kp aF.b .nil pass0 (pa_cons (pv 2) (pa_cons (pv 1) pa_nil))), pt_truth (pv 2) (fun _ => rfl), pv 2⟩)
        (pg_tup rfl (pgs_cons (pg_name (i := 2) nd rfl (.inl rfl)) (pgs_cons (pg_name (i := 3) nd rfl (.inl rfl)) pgs_nil)))
        (pss_one (ps_if (pt_val (pe_anyG (T := T) (c := c) (P := Pt) (k := k + 4) (vs := [4]) (g := gName 4) hr (by rfl) my TB rfl hm0 hu0 (genS1_by (sc := defScope sDPairs) (by decide +kernel)) (slots_by dprN (by decide +kernel)) (pi_list (pv 3))
          (fun B s' H' C code fp pn hr2 => ⟨pg_name (i := 4) nd rfl (.inl rfl) (.inr rfl), pe_call GH hr2 (by rfl) gH FH.keep bH .nil pass0 (pa_cons (pv 4) (pa_cons (pv 1) pa_nil))⟩)))
          (pss_one (ps_ret (pv 2))) pss_nil)))
      (pss_one (ps_ret pe_non)), ?_⟩
    refine ⟨_, rfl, rfl, fun D H0 nD s0 d0 => ⟨_, rfl, o, os, rfl, d0, hO.same s0, fun H1 k1 d1 => ?_⟩⟩
    have s1 : Same H H1 := same_keep s0 nD k1
    have hO1 := hO.same s1
    refine ⟨_, rfl, (by show 1 ≤ sizeLine; decide), fun F0 H2 s2 nF0 hF0 => ?_⟩
    have s12 := s1.trans s2
    refine ⟨fun m i σY σX H3 => ∃ (Fr : Addr) (fa : List Addr) (fs : List (List Str)) (es : List Ent) (y2 y3 : Option V), σY = [some (.ref o), some (.ref D), some (.ref Fr)] ∧ σX = [some (.ref o), some (.ref p), y2, y3, none] ∧ ExtN H H3 ∧ Tabs T H3 ∧ Dic P w H3 D es ∧ H3 Fr = some (.lst (fa.map V.ref)) ∧ Tups H3 fa fs ∧ SeenF os i es fs ∧ i + m = os.length + 1 ∧ i ≤ os.length ∧ ∀ j, j < i → ∀ q, Lv os j q → stands q ps = false,
      ⟨os.length + 1, by omega, F0, [o], [os], _, _, _, rfl, rfl, ext_of s12, hTb.ext s12, d1.same s2, hF0, ⟨hO1.same s2, trivial⟩, seen_zero _ _, by omega, Nat.zero_le _, fun j h => absurd h (Nat.not_lt_zero _)⟩, ?_⟩
    rintro m i σY σX H3 ⟨Fr, fa, fs, es, y2, y3, rfl, rfl, e3, T3, d3, f3, t3, hS, hm, hi, hno⟩
    refine ⟨_, rfl, !(fa.map V.ref).isEmpty, .inl ⟨_, SqL.of f3, rfl⟩, ?_⟩
    have al := t3.len
    refine ite2 (fun z => ?_) (fun z => ?_)
    · have fne : fs ≠ [] := fun e => by
        rw [e] at al
        rw [List.eq_nil_of_length_eq_zero al] at z
        simp at z
      have ilt : i < os.length := by
        cases fs with
        | nil => exact absurd rfl fne
        | cons x xs => exact lv_lt hn h0 ((hS.fin x).mp List.mem_cons_self)
      refine ⟨_, rfl, fun Tt nT => ?_⟩
      have sT : Same H3 (upd H3 Tt (.tup [.int (i : Nat), .ref Fr])) := same_new nT
      refine ⟨Tt, _, rfl, SqT.of upd_same, rfl, _, _, rfl, _, _, rfl, rfl, ?_⟩
      generalize upd H3 Tt (.tup [.int (i : Nat), .ref Fr]) = H4 at sT
      refine ⟨_, rfl, Fr, rfl, ⟨_, SqL.of (sT _ _ f3)⟩, T3.ext sT, fun H5 e5 T5 => ?_⟩
      have e35 := (ext_of sT).trans e5
      have f5 := lst_ext f3 e35
      refine for_it (walk_list (xs := fa.map V.ref)) (fun j σ H6 => ∃ y4 : Option V, σ = [some (.ref o), some (.ref p), some (.int (i : Nat)), some (.ref Fr), y4] ∧ ExtN H5 H6 ∧ Tabs T H6 ∧ ∀ q, q ∈ fs.take j → stands q ps = false) ⟨none, rfl, ExtN.refl _, T5, fun q hq => by simp at hq⟩ (fun j σ H6 _ ⟨_, _, e6, _⟩ => SqL.of (lst_ext f5 e6)) ?_ ?_
      · rintro j x σ H6' H6 hj ⟨y4, rfl, e6, T6, no6⟩ ⟨rfl, hx⟩
        rw [List.length_map, t3.len] at hj
        have ej : fs[j]? = some fs[j] := List.getElem?_eq_getElem hj
        obtain ⟨tq, et, ht⟩ := t3.get ej
        have ex : x = .ref tq := by
          rw [List.getElem?_map, et] at hx
          exact (Option.some.inj hx).symm
        subst ex
        have hlv : Lv os i fs[j] := (hS.fin _).mp (List.getElem_mem hj)
        have etk : fs.take (j + 1) = fs.take j ++ [fs[j]] := by
          rw [List.take_add_one, ej]
          rfl
        generalize fs[j] = qs at ht hlv etk
        have e36 := e35.trans e6
        have e06 := e3.trans e36
        have pm := hlv.perm
        refine ⟨_, rfl, _, rfl, tq, p, qs, as, ps, rfl, ht.ext e36, hP.ext e06, hC.extR e06, fun c hc => ⟨pm.mem_iff.mpr (hin c hc).1, pm.mem_iff.mpr (hin c hc).2⟩, T6, fun H7 e7 T7 => ?_⟩
        refine ⟨_, rfl, ?_⟩
        cases st : stands qs ps with
        | true =>
          rw [if_neg (fun z : true = false => Bool.noConfusion z)]
          refine ⟨_, rfl, ite2 (fun _ => ?_) (fun z => absurd rfl z)⟩
          exact ⟨_, rfl, q (some i) H7 (e06.trans e7) T7 ⟨⟨qs, hlv, st⟩, hno⟩⟩
        | false =>
          rw [if_pos rfl]
          refine ⟨_, rfl, e6.trans e7, T7, fun q hq => ?_⟩
          rw [etk] at hq
          rcases List.mem_append.mp hq with z1 | z1
          · exact no6 q z1
          · rw [List.mem_singleton.mp z1]
            exact st
      · rintro σ H6 ⟨y4, rfl, e6, T6, no6⟩
        rw [List.length_map, t3.len, List.take_of_length_le (Nat.le_refl _)] at no6
        have e36 := e35.trans e6
        have d6 := d3.ext e36
        refine ⟨_, rfl, ite2 (fun z => absurd z Bool.false_ne_true) (fun _ => ?_)⟩
        refine ⟨_, rfl, _, rfl, Fr, D, os, fs, fa, i, es, rfl, lst_ext f3 e36, t3.ext e36, d6, hS, hn, h6, fun R ra rs es' H8 b8 nR d8 r8 rt8 S8 => ?_⟩
        refine ⟨m - 1, by omega, R, ra, rs, es', _, _, rfl, rfl, b8.ext (e3.trans e36) nD, tabs_but T6 d6 b8, d8, r8, rt8, S8, by omega, ilt, fun j hj q hq => ?_⟩
        rcases Nat.lt_or_ge j i with z1 | z1
        · exact hno j z1 q hq
        · have : j = i := by omega
          subst this
          exact no6 q ((hS.fin q).mpr hq)
    · have fe : fa = [] := by
        cases fa with
        | nil => rfl
        | cons x xs => exact absurd rfl z
      rw [fe] at al
      have fe' : fs = [] := List.eq_nil_of_length_eq_zero al.symm
      subst fe'
      refine q none H3 e3 T3 fun q hq => ?_
      obtain ⟨d, hd⟩ := lv_ex hn h0 hq
      have dlt := lv_lt hn h0 hd
      rcases Nat.lt_or_ge i os.length with q1 | q1
      · obtain ⟨x, hx⟩ := lv_some hn h0 q1
        exact nomatch (hS.fin x).mpr hx
      · exact hno d (by omega) q hd
end
end K20
namespace K20
open PySem L2 LS PySem.Spec PyProof.Rows
abbrev sLaw : Stmt := topS 30
abbrev lawN : List Str := ["script", "digits", "order", "levels", "sizes", "target", "k", "top", "mixed", "pairs", "counts", "one", "other"]
theorem scLaw : FnScope lawN ["script"] (defScope sLaw) := ⟨rfl, rfl, rfl, by decide +kernel, rfl, by decide +kernel, by decide +kernel⟩
section
open LamX
variable {K : PySem.W.Frag} {mg : Str → Option Value} {P : Program} {w : World} {base : Heap} {T : List (Addr × Str)}
theorem ok_law0 {f fDi fDT fDP fSz fD fN fNr fX fLv : Addr} {fd dDi dDT dDP dSz dD' dN' dNr dX dLv : FuncData} (F : Fun K "law" "law" sLaw f fd) (oDi : Ok1 P w K mg base 11 "distance" ["order", "target"] (spDistance T) fDi dDi) (oDT : Ok1 P w K mg base 11 "distance_to_top" ["order", "top"] (spDTop T) fDT dDT) (oDP : Ok1 P w K mg base 11 "distance_to_pairs" ["order", "pairs"] (spDPairs T) fDP dDP)
    (oSz : Ok1 P w K mg base 11 "sphere_sizes" ["order"] spSizes fSz dSz) (oD : Ok1 P w K mg base 11 "_law_digits" ["script", "index", "count", "base"] (spDigits K) fD dD') (oN : Ok1 P w K mg base 11 "_law_names" ["digits", "count"] (spNames K) fN dN') (oNr : Ok1 P w K mg base 11 "_law_near" ["digits", "order"] (spNear K) fNr dNr)
    (oX : Ok1 P w K mg base 11 "_law_mixed" ["digits", "names"] (spMixed K) fX dX) (oLv : Ok1 P w K mg base 11 "_law_levels" ["order"] (spLevels P w) fLv dLv) (ml : mg "len" = none) (mm : mg "min" = none) (mr : mg "range" = none) : FnOk P w K mg base CX0 12 f fd ["script"] (spLawT K T) := by
  refine F.ok scLaw (fun vs H Q E h => ?_) (fun cdv A outer s H vs Q E hr h => ?_)
  · obtain ⟨a, ns, rfl, _⟩ := h
    rfl
  · obtain ⟨a, ns, rfl, hS, hlen, hTb, q⟩ := h
    have nd := scLaw.nd
    have hu := hu_of hr
    refine ⟨_, (pss_cons (ps_set (i := 1) nd rfl (.inl rfl) (pe_call oD.G hr (by rfl) oD.g oD.kp oD.b .nil pass0 (pa_cons (pv 0) (pa_cons pe_int (pa_cons pe_int (pa_cons pe_int pa_nil))))))
        (pss_cons (ps_set (i := 2) nd rfl (.inl rfl) (pe_call oN.G hr (by rfl) oN.g oN.kp oN.b .nil pass0 (pa_cons (pv 1) (pa_cons pe_int pa_nil))))
        (pss_cons (ps_set (i := 3) nd rfl (.inr rfl) (pe_call oLv.G hr (by rfl) oLv.g oLv.kp oLv.b .nil pass0 (pa_cons (pv 2) pa_nil)))
        (pss_cons (ps_set (i := 4) nd rfl (.inl rfl) (pe_op op_repS (pe_lstS (pa_cons pe_int pa_nil)) pe_int))
        (pss_cons (ps_lock (ps_for PassesOwn.never rfl (pi_keysR (pv 3)) (pg_name (i := 5) nd rfl (.inr rfl)) (pss_cons (ps_if (pt_cmpR op_ne (pe_call oDi.G hr (by rfl) oDi.g oDi.kp oDi.b .nil pass0 (pa_cons (pv 2) (pa_cons (pv 5) pa_nil))) (pe_dgetR hu (pv 3) (pv 5) (fun _ _ => rfl)) (nomark _)) (pss_one (ps_ret pe_bl)) pss_nil)
        (pss_one (ps_lput (pv 4) (pe_dgetR hu (pv 3) (pv 5) (fun _ _ => rfl)) (pe_op op_add (pe_ix ix_list (pv 4) (pe_dgetR hu (pv 3) (pv 5) (fun _ _ => rfl)) (fun _ _ => rfl)) pe_int) rfl)))))
        (pss_cons (ps_if (PW.pt (pw_or (pt_cmpR (op_neLi hr.units) (pe_call oSz.G hr (by rfl) oSz.g oSz.kp oSz.b .nil pass0 (pa_cons (pv 2) pa_nil)) (pv 4) (nomark _)) (pw_or1 (pt_cmpR op_ne (pe_callB call_lenR (by rfl) ml PySem.boot_len (pa_cons (pv 3) pa_nil)) pe_int (nomark _))))) (pss_one (ps_ret pe_bl)) pss_nil)
        (pss_cons (ps_for PassesOwn.never rfl (pi_range1 (by rfl) mr (pa_cons pe_int pa_nil)) (pg_name (i := 6) nd rfl (.inl rfl)) (pss_cons (ps_set (i := 7) nd rfl (.inr rfl) (pe_slice sl_tupS (pe_call oNr.G hr (by rfl) oNr.g oNr.kp oNr.b .nil pass0 (pa_cons (pe_slice sl_listS (pv 1) (po_some (pe_op op_add pe_int (pe_op op_mul pe_int (pv 6)))) po_none) (pa_cons (pv 2) pa_nil))) po_none (po_some (pe_op op_add pe_int (pe_op op_mod (pv 6) pe_int)))))
        (pss_one (ps_lock (ps_if (pt_cmpR op_ne (pe_call oDT.G hr (by rfl) oDT.g oDT.kp oDT.b .nil pass0 (pa_cons (pv 2) (pa_cons (pv 7) pa_nil))) (pe_callB (cr_min rfl) (by rfl) mm boot_min (pa_cons (pe_lc (own := [("target", 5)]) (g := gName 5) rfl nd (pi_keysR (pv 3)) (blkOk_by (N := lawN) (sc := defScope sLaw) (by decide +kernel)) (fun _ _ _ _ _ => pg_name (i := 5) nd rfl (.inl rfl)) (fun _ _ _ _ _ => pts_one (pt_cmpR (op_eqTsK (K := K) rfl hr.units) (pe_slice sl_tupS (pv 5) po_none (po_some (pe_callB (call_lenK (K := K) rfl) (by rfl) ml PySem.boot_len (pa_cons (pv 7) pa_nil)))) (pv 7) (nomark _))) (fun _ _ _ _ _ => pe_dgetRK (P := P) (w := w) rfl rfl hu (pv 3) (pv 5) (fun _ _ => rfl))) pa_nil)) (nomark _)) (pss_one (ps_ret pe_bl)) pss_nil)))))
        (pss_cons (ps_set (i := 8) nd rfl (.inl rfl) (pe_call oX.G hr (by rfl) oX.g oX.kp oX.b .nil pass0 (pa_cons (pe_slice sl_listS (pv 1) (po_some pe_int) po_none) (pa_cons (pv 2) pa_nil))))
        (pss_cons (ps_set (i := 9) nd rfl (.inl rfl) (pe_tupS (pa_cons (pe_tupS (pa_cons (pe_ix (r := rIxT K) ix_tup (pv 8) pe_int (fun _ _ => rfl)) (pa_cons (pe_ix (r := rIxT K) ix_tup (pv 8) pe_int (fun _ _ => rfl)) pa_nil))) (pa_cons (pe_tupS (pa_cons (pe_ix (r := rIxT K) ix_tup (pv 8) pe_int (fun _ _ => rfl)) (pa_cons (pe_ix (r := rIxT K) ix_tup (pv 8) pe_int (fun _ _ => rfl)) pa_nil))) (pa_cons (pe_tupS (pa_cons (pe_ix (r := rIxT K) ix_tup (pv 8) pe_int (fun _ _ => rfl)) (pa_cons (pe_ix (r := rIxT K) ix_tup (pv 8) pe_int (fun _ _ => rfl)) pa_nil))) (pa_cons (pe_tupS (pa_cons (pe_ix (r := rIxT K) ix_tup (pv 8) pe_int (fun _ _ => rfl)) (pa_cons (pe_ix (r := rIxT K) ix_tup (pv 8) pe_int (fun _ _ => rfl)) pa_nil))) pa_nil))))))
        (pss_cons (ps_set (i := 10) nd rfl (.inl rfl) (pe_lstS pa_nil))
        (pss_cons (ps_lock (ps_for PassesOwn.never rfl (pi_keysR (pv 3)) (pg_name (i := 5) nd rfl (.inr rfl)) (pss_one (ps_if (pt_cmpR (op_eqLi hr.units) (pe_lc (own := [("one", 11), ("other", 12)]) (g := gTup K 2 (gCons (gName 11) (gCons (gName 12) gNil))) rfl nd (pi_tup (pv 9)) (blkOk_by (N := lawN) (sc := defScope sLaw) (by decide +kernel)) (fun _ _ _ _ _ => pg_tup rfl (pgs_cons (pg_name (i := 11) nd rfl (.inl rfl)) (pgs_cons (pg_name (i := 12) nd rfl (.inl rfl)) pgs_nil))) (fun _ _ _ _ _ => pts_one (pt_cmpR op_gt (pe_tindexK (K := K) rfl (pv 5) (pa_cons (pv 11) pa_nil)) (pe_tindexK (K := K) rfl (pv 5) (pa_cons (pv 12) pa_nil)) (nomark _))) (fun _ _ _ _ _ => pe_int)) (pe_lstS pa_nil) (nomark _)) (pss_one (ps_expr (pe_bm PySem.F.plainAttrs_list PySem.F.slot_list_append PySem.F.type_list_append mt_append (pv 10) (pa_cons (pe_dgetR hu (pv 3) (pv 5) (fun _ _ => rfl)) pa_nil)))) pss_nil))))
        (pss_one (ps_ret (pe_cmpR op_eq (pe_call oDP.G hr (by rfl) oDP.g oDP.kp oDP.b .nil pass0 (pa_cons (pv 2) (pa_cons (pv 9) pa_nil))) (pe_callB (cr_min rfl) (by rfl) mm boot_min (pa_cons (pv 10) pa_nil)) (nomark _))))))))))))))), ?_⟩
    refine ⟨_, rfl, a, ns, 0, 100, 27720, rfl, hS, by decide, by decide, by decide, by decide, fun ds d H1 s1 n1 h1 hdl hdb => ?_⟩
    refine ⟨_, rfl, d, 6, ds, rfl, SqL.of h1, by omega, by omega, by decide, fun os o H2 s2 ho2 hon hol hot => ?_⟩
    have o6 : os.length = 6 := by omega
    have opos : 0 < os.length := by omega
    have one : os ≠ [] := List.length_pos_iff.mp opos
    have oks : StrsOk os := fun z hz => ten_ok z (hot z hz)
    refine ⟨_, rfl, o, os, rfl, ho2, hon, opos, by omega, oks, fun D es H3 s3 nD hLv => ?_⟩
    obtain ⟨dD, hlv, hall, hnd⟩ := hLv
    have T3 : Tabs T H3 := ((hTb.ext s1).ext s2).ext s3
    have hO3 := ho2.same s3
    have hd3 := s3 _ _ (s2 _ _ h1)
    have esl : es.length = 720 := by rw [levels_len hon hlv hall hnd, ords720 hon o6]
    have rowsI : ∀ t : List Str, t ∈ rowsE es ↔ t.Perm os := fun t => ⟨fun h => by
      obtain ⟨e, he, rfl⟩ := List.mem_map.mp h
      obtain ⟨_, _, hl⟩ := hlv e he
      exact hl.perm, hall t⟩
    have oke : ∀ e, e ∈ es → StrsOk e.1 := fun e he z hz => by
      obtain ⟨_, _, hl⟩ := hlv e he
      exact oks z (hl.perm.mem_iff.mp hz)
    refine ⟨sz1, fun l0 H4 s4 n4 h4 => ?_⟩
    refine ⟨l0, 6, _, rfl, rfl, h4, by decide, by decide, by decide, fun S H5 s5 nS hS5 => ?_⟩
    have s35 := s4.trans s5
    have nS3 := none_of s4 nS
    have D5 := dD.same s35
    have neSD : S ≠ D := fun z => by rw [z, dD.1] at nS3; cases nS3
    have hS5' : H5 S = some (.lst ((cvs 6 []).map V.int)) := by
      rw [hS5, cvs_nil, List.map_replicate]
      rfl
    -- each order's distance
    refine ⟨D, DicO P w D es, D5.1, trivial, fun od => ?_⟩
    have hL : (upd H5 D (.frz od (DicO P w D es))) D = some (.frz od (DicO P w D es)) := upd_same
    have bL : ButN D H3 (upd H5 D (.frz od (DicO P w D es))) := ButN.lock (ext_of s35)
    have SL : (upd H5 D (.frz od (DicO P w D es))) S = some (.lst ((cvs 6 []).map V.int)) := upd_keep S _ neSD hS5'
    have TL : Tabs T (upd H5 D (.frz od (DicO P w D es))) := tabs_updD (T3.ext s35) D5.1
    generalize upd H5 D (.frz od (DicO P w D es)) = HL at hL bL SL TL
    refine ⟨_, rfl, D, od, es, rfl, hL, ?_⟩
    refine for_it walk_keysR (fun j σ H9 => ∃ (y5 : Option V), σ = [some (.ref a), some (.ref d), some (.ref o), some (.ref D), some (.ref S), y5, none, none, none, none, none, none, none] ∧ H9 D = some (.frz od (DicO P w D es)) ∧ ButN D H3 H9 ∧ Tabs T H9 ∧ H9 S = some (.lst ((cvs 6 (es.take j)).map V.int)))
      ⟨_, rfl, hL, bL, TL, SL⟩ (fun j σ H9 _ ⟨_, _, l9, _⟩ => l9) ?_ ?_
    · rintro j x σ H9' H9 hj ⟨y5, rfl, l9, b9, T9, S9⟩ ⟨rfl, e, hje, rfl⟩
      have he := List.mem_of_getElem? hje
      obtain ⟨k, hk, hlk⟩ := hlv e he
      have kl : k < 6 := by have := lv_lt hon opos hlk; omega
      have pe' := hlk.perm
      have et : es.take (j + 1) = es.take j ++ [e] := by
        rw [List.take_add_one, hje]
        rfl
      have tE := b9.tn dD.1 (dD.2 e he)
      refine ⟨_, rfl, _, rfl, o, e.2.1, os, e.1, rfl, b9.tn dD.1 hO3, tE, fun x hx => pe'.mem_iff.mp hx, by rw [pe'.length_eq]; exact opos, by rw [pe'.length_eq]; omega, T9, fun dd H10 e10 T10 hdd => ?_⟩
      have b10 := b9.ext e10
      have l10 : H10 D = some (.frz od (DicO P w D es)) := e10 _ _ l9 (fun ps z => by cases z)
      have S10 := lst_ext S9 e10
      have t10 : ∀ e, e ∈ es → Tn H10 e.2.1 (e.1.map V.str) := fun e he => b10.tn dD.1 (dD.2 e he)
      have dl : DicL P w H10 D es := ⟨.inr ⟨od, l10⟩, t10⟩
      have edk : dd = k := dist_uniq hdd (dist_lv hon opos hlk)
      refine ⟨_, rfl, _, rfl, D, e.2.1, es, e.1, e.2.2, rfl, rfl, dl, t10 e he, val_of_mem hnd he, ?_⟩
      rw [hk, edk]
      refine ⟨rfl, _, rfl, ite2 (fun z => absurd z (by simp)) (fun _ => ?_)⟩
      have gk : ((cvs 6 (es.take j)).map V.int)[k]? = some (.int ((cv (es.take j) k : Nat) : Int)) := by
        rw [List.getElem?_map, cvs_get kl]
        rfl
      refine ⟨_, rfl, _, rfl, _, rfl, D, e.2.1, es, e.1, e.2.2, rfl, rfl, dl, t10 e he, val_of_mem hnd he, S, _, _, _, rfl, hk, SqL.of S10, atI_nat (j := k) gk, _, _, rfl, rfl, ?_⟩
      refine ⟨_, rfl, _, rfl, _, rfl, D, e.2.1, es, e.1, e.2.2, rfl, rfl, dl, t10 e he, val_of_mem hnd he, S, _, k, rfl, hk, S10, by rw [List.length_map]; unfold cvs; rw [List.length_map, List.length_range]; exact kl, ?_⟩
      refine ⟨_, rfl, upd_keep D _ (Ne.symm neSD) l10, b10.upd nS3, tabs_updL T10 S10, ?_⟩
      rw [upd_same, et, ← cvs_set hk, List.map_set]
    · rintro σ H9 ⟨y5, rfl, l9, b9, T9, S9⟩
      have ecv : cvs 6 es = lsz os := by
        have := cvs_lsz hon hlv hall hnd
        rw [o6] at this
        exact this
      rw [List.take_of_length_le (Nat.le_refl _), ecv] at S9
      refine ⟨l9, ?_⟩
      have e12 : ExtN H3 (upd H9 D (DicO P w D es)) := b9.open_ dD.1
      have S12 : (upd H9 D (DicO P w D es)) S = some (.lst ((lsz os).map V.int)) := upd_keep S _ neSD S9
      have T12 : Tabs T (upd H9 D (DicO P w D es)) := tabs_unlock T9 l9
      generalize upd H9 D (DicO P w D es) = H12 at e12 S12 T12
      -- the sizes
      refine ⟨_, rfl, o, os, rfl, hO3.ext e12, hon, opos, by omega, fun R H13 s13 nR hR => ?_⟩
      refine ⟨_, rfl, R, S, lsz os, lsz os, rfl, rfl, SqL.of hR, SqL.of (s13 _ _ S12), _, rfl, ?_⟩
      rw [if_pos rfl, decide_eq_true rfl]
      refine ite2 (fun z => absurd z (by decide)) (fun _ => ?_)
      have e13 := e12.trans (ext_of s13)
      have T13 := T12.ext s13
      have D13 := dD.ext e13
      refine ⟨_, rfl, D, es, rfl, D13.rd, ?_⟩
      rw [esl]
      refine ⟨rfl, _, rfl, ite2 (fun z => absurd z (by decide)) (fun _ => ?_)⟩
      have hO13 := hO3.ext e13
      have hd13 := lst_ext hd3 e13
      -- first layers
      refine ⟨8, rfl, by decide, by decide, ?_⟩
      refine for_range (n := 8) (fun k σ H14 => ∃ (y6 y7 : Option V), σ = [some (.ref a), some (.ref d), some (.ref o), some (.ref D), some (.ref S), y5, y6, y7, none, none, none, none, none] ∧ ExtN H13 H14 ∧ Tabs T H14) ⟨_, _, rfl, ExtN.refl _, T13⟩ ?_ ?_
      · rintro k σ H14 hk ⟨y6, y7, rfl, e14, T14⟩
        refine ⟨_, rfl, _, rfl, _, _, rfl, rfl, .inl ⟨by decide, by decide⟩, _, _, rfl, rfl, _, rfl, d, _, rfl, SqL.of (lst_ext hd13 e14), fun a1 H15 s15 n15 h15 => ?_⟩
        rw [show (12 : Int) + 10 * (0 + (k : Int)) = ((12 + 10 * k : Nat) : Int) by omega, cut_from, ← List.map_drop] at h15
        have e15 := e14.trans (ext_of s15)
        refine ⟨_, rfl, a1, o, ds.drop (12 + 10 * k), os, rfl, SqL.of h15, hO13.ext e15, by rw [List.length_drop]; omega, by rw [List.length_drop]; omega, hon, one, by omega, oks, fun mx p H16 s16 h16 pm => ?_⟩
        refine ⟨_, rfl, _, _, rfl, rfl, (by show (0 : Int) < 6; decide), _, _, rfl, rfl, _, rfl, p, _, rfl, h16, fun t H17 s17 h17 => ?_⟩
        obtain ⟨m, em⟩ : ∃ m : Nat, (1 : Int) + (0 + (k : Int)) % 6 = (m : Int) := ⟨(1 + (0 + (k : Int)) % 6).toNat, by omega⟩
        rw [em, cut_to, ← List.map_take] at h17
        have tpn : (mx.take m).Nodup := (pm.nodup_iff.mpr hon).sublist (List.take_sublist _ _)
        have tpin : ∀ x, x ∈ mx.take m → x ∈ os := fun x hx => pm.mem_iff.mp (List.mem_of_mem_take hx)
        generalize mx.take m = tp at h17 tpn tpin
        have okt : StrsOk tp := fun z hz => oks z (tpin z hz)
        have s1417 := (s15.trans s16).trans s17
        have e17 := e14.trans (ext_of s1417)
        have T17 := T14.ext s1417
        have D17 := D13.ext e17
        refine ⟨D, DicO P w D es, D17.1, trivial, fun od2 => ?_⟩
        have hL : (upd H17 D (.frz od2 (DicO P w D es))) D = some (.frz od2 (DicO P w D es)) := upd_same
        have bL : ButN D H13 (upd H17 D (.frz od2 (DicO P w D es))) := ButN.lock e17
        have tL : Tn (upd H17 D (.frz od2 (DicO P w D es))) t (tp.map V.str) := tn_keepX D17.1 dicO_nf upd_keep h17
        have TL : Tabs T (upd H17 D (.frz od2 (DicO P w D es))) := tabs_updD T17 D17.1
        generalize upd H17 D (.frz od2 (DicO P w D es)) = HL at hL bL tL TL
        refine ⟨_, rfl, _, rfl, o, t, os, tp, rfl, bL.tn D13.1 hO13, tL, hon, tpn, tpin, opos, by omega, TL, fun qq H18 e18 T18 hq hmin => ?_⟩
        have b18 := bL.ext e18
        have l18 : H18 D = some (.frz od2 (DicO P w D es)) := e18 _ _ hL (fun ps z => by cases z)
        have t18 := tL.ext e18
        refine ⟨_, rfl, D, od2, es, rfl, l18, fun C nC => ?_⟩
        refine lc_it walk_keysR (fun j H19 => Same H18 H19 ∧ H19 C = some (.lst ((begD os tp ((rowsE es).take j)).map V.int))) ⟨same_new nC, upd_same⟩ (fun j H19 _ ⟨s19, _⟩ => s19 _ _ l18) ?_ ?_
        · rintro j x H19' H19 hj ⟨s19, h19⟩ ⟨rfl, e, hje, rfl⟩
          have he := List.mem_of_getElem? hje
          obtain ⟨kk, hkk, hlk⟩ := hlv e he
          have etk : (rowsE es).take (j + 1) = (rowsE es).take j ++ [e.1] := by
            rw [List.take_add_one, show (rowsE es)[j]? = some e.1 by rw [List.getElem?_map, hje]; rfl]
            rfl
          have tE := (b18.tn D13.1 (D13.2 e he)).same s19
          refine ⟨rfl, ?_⟩
          refine ⟨_, rfl, _, rfl, t, _, rfl, .inr (t18.same s19).sq, _, rfl, e.2.1, _, rfl, tE, fun g1 H20 s20 h20 => ?_⟩
          rw [cut_to, List.length_map, ← List.map_take] at h20
          have oku : StrsOk (e.1.take tp.length) := fun y hy => oke e he y (List.mem_of_mem_take hy)
          have s1820 := s19.trans s20
          refine ⟨_, rfl, g1, t, _, tp, rfl, rfl, h20.sq, (t18.same s1820).sq, oku, okt, _, rfl, ite2 (fun c => ?_) (fun c => ?_)⟩
          · have c' : e.1.take tp.length = tp := of_decide_eq_true c
            refine ⟨_, rfl, _, rfl, D, e.2.1, es, e.1, e.2.2, rfl, rfl, ⟨.inr ⟨od2, s1820 _ _ l18⟩, fun e' h' => (b18.tn D13.1 (D13.2 e' h')).same s1820⟩, tE.same s20, val_of_mem hnd he, _, s20 _ _ h19, ?_, ?_, ?_⟩
            · rw [List.length_map]
              refine small1000 (Nat.le_trans (begD_len _ _ _) ?_)
              rw [List.length_take, List.length_map]
              omega
            · intro b y z
              rw [upd_ne (ne_of_none z nC)]
              exact s1820 _ _ z
            · rw [upd_same, etk, begD_snoc, if_pos c', List.map_append, num_dN hon opos hlk, hkk]
              rfl
          · have c' : ¬ e.1.take tp.length = tp := fun z => c (decide_eq_true z)
            refine ⟨s1820, ?_⟩
            rw [etk, begD_snoc, if_neg c', List.append_nil]
            exact s20 _ _ h19
        · rintro H19 ⟨s19, h19⟩
          rw [List.take_of_length_le (by rw [List.length_map]; exact Nat.le_refl _)] at h19
          refine ⟨C, begD os tp (rowsE es), rfl, SqL.of h19, begL_some rowsI hon tpn tpin, fun m' hmem hle => ?_⟩
          rw [begL_least rowsI hon tpn tpin opos hq hmin hmem hle]
          refine ⟨rfl, _, rfl, ite2 (fun z => absurd z (by simp)) (fun _ => ?_)⟩
          refine ⟨s19 _ _ l18, ⟨_, _, rfl, (b18.same s19).open_ D13.1, tabs_unlock (T18.ext s19) (s19 _ _ l18)⟩⟩
      · rintro σ H14 ⟨y6, y7, rfl, e14, T14⟩
        -- pairs
        refine ⟨_, rfl, 60, rfl, d, _, rfl, SqL.of (lst_ext hd13 e14), fun a2 H20 s20 n20 h20 => ?_⟩
        rw [show (60 : Int) = ((60 : Nat) : Int) from rfl, cut_from, ← List.map_drop] at h20
        have e20 := e14.trans (ext_of s20)
        refine ⟨_, rfl, a2, o, ds.drop 60, os, rfl, SqL.of h20, .inr (hO13.ext e20).sq, oks, by rw [List.length_drop]; omega, by omega, fun mx mA H21 s21 h21 pm => ?_⟩
        have ml6 : mx.length = 6 := by rw [pm.length_eq]; exact o6
        have mxn : mx.Nodup := pm.nodup_iff.mpr hon
        match mx, ml6, mxn, pm, h21 with
        | [m0, m1, m2, m3, m4, m5], _, mxn, pm, h21 =>
          have e21 := e20.trans (ext_of s21)
          refine ⟨_, rfl, mA, _, _, _, rfl, rfl, h21.sq, atI_nat (j := 0) rfl, _, rfl, mA, _, _, _, rfl, rfl, h21.sq, atI_nat (j := 1) rfl, sz2, fun p1 H22 s22 n22 h22 => ?_⟩
          have g22 := h21.same s22
          refine ⟨_, rfl, mA, _, _, _, rfl, rfl, g22.sq, atI_nat (j := 2) rfl, _, rfl, mA, _, _, _, rfl, rfl, g22.sq, atI_nat (j := 3) rfl, sz2, fun p2 H23 s23 n23 h23 => ?_⟩
          have g23 := g22.same s23
          refine ⟨_, rfl, mA, _, _, _, rfl, rfl, g23.sq, atI_nat (j := 0) rfl, _, rfl, mA, _, _, _, rfl, rfl, g23.sq, atI_nat (j := 4) rfl, sz2, fun p3 H24 s24 n24 h24 => ?_⟩
          have g24 := g23.same s24
          refine ⟨_, rfl, mA, _, _, _, rfl, rfl, g24.sq, atI_nat (j := 4) rfl, _, rfl, mA, _, _, _, rfl, rfl, g24.sq, atI_nat (j := 5) rfl, sz2, fun p4 H25 s25 n25 h25 => ?_⟩
          refine ⟨sz4, fun pp H26 s26 n26 h26 => ?_⟩
          have s2426 := s25.trans s26
          have s2326 := s24.trans s2426
          have s2226 := s23.trans s2326
          have c26 : Cmds H26 [p1, p2, p3, p4] [(m0, m1), (m2, m3), (m0, m4), (m4, m5)] := ⟨h22.same s2226, h23.same s2326, h24.same s2426, h25.same s26, trivial⟩
          have e26 := e21.trans (ext_of (s22.trans s2226))
          have T26 : Tabs T H26 := ((T14.ext s20).ext s21).ext (s22.trans s2226)
          have D26 := D13.ext e26
          have hO26 := hO13.ext e26
          have st : stands [m0, m1, m2, m3, m4, m5] [(m0, m1), (m2, m3), (m0, m4), (m4, m5)] = true := by
            have all := stands_self (A := []) (ts := [m0, m1, m2, m3, m4, m5]) mxn
            unfold stands at all ⊢
            rw [List.all_eq_true] at all ⊢
            intro c hc
            refine all c ?_
            simp only [List.mem_cons, List.not_mem_nil, or_false] at hc
            rcases hc with rfl | rfl | rfl | rfl <;> simp [tpairs]
          have inP : InPs os [(m0, m1), (m2, m3), (m0, m4), (m4, m5)] := fun c hc => by
            simp only [List.mem_cons, List.not_mem_nil, or_false] at hc
            rcases hc with rfl | rfl | rfl | rfl <;> exact ⟨pm.mem_iff.mp (by simp), pm.mem_iff.mp (by simp)⟩
          have neP : ∀ c, c ∈ ([(m0, m1), (m2, m3), (m0, m4), (m4, m5)] : List (Str × Str)) → c.1 ≠ c.2 := fun c hc => by
            have h1 := mxn
            simp only [List.nodup_cons, List.mem_cons, List.not_mem_nil, or_false, not_or] at h1
            simp only [List.mem_cons, List.not_mem_nil, or_false] at hc
            obtain ⟨⟨a1, a2, a3, a4, a5⟩, ⟨b2, b3, b4, b5⟩, ⟨c3, c4, c5⟩, ⟨d4, d5⟩, e5, _⟩ := h1
            rcases hc with rfl | rfl | rfl | rfl <;> assumption
          clear h22 h23 h24 h25 h21 g22 g23 g24
          generalize hps : ([(m0, m1), (m2, m3), (m0, m4), (m4, m5)] : List (Str × Str)) = ps at c26 st inP neP
          have psl : ps.length = 4 := by rw [← hps]; rfl
          have c26' : ∃ as : List Addr, [p1, p2, p3, p4] = as := ⟨_, rfl⟩
          obtain ⟨as, has⟩ := c26'
          have h26' : Tn H26 pp (as.map V.ref) := by rw [← has]; exact h26
          rw [has] at c26
          refine ⟨Nat.zero_le _, fun cl H27 s27 n27 h27 => ?_⟩
          have D27 := D26.same s27
          have necD : cl ≠ D := fun z => by rw [z, D26.1] at n27; cases n27
          refine ⟨D, DicO P w D es, D27.1, trivial, fun od3 => ?_⟩
          have hL : (upd H27 D (.frz od3 (DicO P w D es))) D = some (.frz od3 (DicO P w D es)) := upd_same
          have bL : ButN D H26 (upd H27 D (.frz od3 (DicO P w D es))) := ButN.lock (ext_of s27)
          have cL : (upd H27 D (.frz od3 (DicO P w D es))) cl = some (.lst []) := upd_keep cl _ necD h27
          have TL : Tabs T (upd H27 D (.frz od3 (DicO P w D es))) := tabs_updD (T26.ext s27) D27.1
          generalize upd H27 D (.frz od3 (DicO P w D es)) = HL at hL bL cL TL
          refine ⟨_, rfl, D, od3, es, rfl, hL, ?_⟩
          refine for_it walk_keysR (fun j σ H9 => ∃ (y5 : Option V), σ = [some (.ref a), some (.ref d), some (.ref o), some (.ref D), some (.ref S), y5, y6, y7, some (.ref mA), some (.ref pp), some (.ref cl), none, none] ∧ H9 D = some (.frz od3 (DicO P w D es)) ∧ ButN D H26 H9 ∧ Tabs T H9 ∧ H9 cl = some (.lst ((selE (es.take j) ps).map V.int)))
            ⟨_, rfl, hL, bL, TL, cL⟩ (fun j σ H9 _ ⟨_, _, l9, _⟩ => l9) ?_ ?_
          · rintro j x σ H9' H9 hj ⟨y5', rfl, l9, b9, T9, c9⟩ ⟨rfl, e, hje, rfl⟩
            have he := List.mem_of_getElem? hje
            obtain ⟨kk, hkk, hlk⟩ := hlv e he
            have pe' := hlk.perm
            have tE := b9.tn D26.1 (D26.2 e he)
            have tP := b9.tn D26.1 h26'
            have inE : InPs e.1 ps := fun c hc => ⟨pe'.mem_iff.mpr (inP c hc).1, pe'.mem_iff.mpr (inP c hc).2⟩
            have ckeep : Cmds H9 as ps := by
              have key : ∀ {as : List Addr} {cs : List (Str × Str)}, Cmds H26 as cs → Cmds H9 as cs := fun {as} => by
                induction as with
                | nil => exact fun {cs} h => by cases cs with
                  | nil => trivial
                  | cons _ _ => exact h.elim
                | cons x as ih => exact fun {cs} h => by cases cs with
                  | nil => exact h.elim
                  | cons c cs => exact ⟨b9.tn D26.1 h.1, ih h.2⟩
              exact key c26
            refine ⟨_, rfl, pp, rfl, ⟨_, tP.sq⟩, fun C nC => ?_⟩
            refine lc_it (walk_tup (xs := as.map V.ref)) (fun m H10 => Same H9 H10 ∧ H10 C = some (.lst ((offs e.1 (ps.take m)).map V.int))) ⟨same_new nC, upd_same⟩ (fun m H10 _ ⟨s10, _⟩ => (tP.same s10).sq) ?_ ?_
            · rintro m x H10' H10 hm ⟨s10, h10⟩ ⟨rfl, hx⟩
              rw [List.length_map, ckeep.len] at hm
              have gc : ps[m]? = some ps[m] := List.getElem?_eq_getElem hm
              obtain ⟨b, eb, hb⟩ := ckeep.get gc
              have ex : x = .ref b := by
                rw [List.getElem?_map, eb] at hx
                exact (Option.some.inj hx).symm
              subst ex
              have gg := inE _ (List.getElem_mem hm)
              have etk : ps.take (m + 1) = ps.take m ++ [ps[m]] := by
                rw [List.take_add_one, gc]
                rfl
              generalize ps[m] = pr at hb gg etk
              have tE10 := tE.same s10
              refine ⟨b, _, rfl, (hb.same s10).sq, rfl, _, _, rfl, _, _, rfl, rfl, ?_⟩
              refine ⟨rfl, ?_⟩
              refine ⟨_, rfl, ⟨e.2.1, _, rfl, tE10⟩, _, rfl, e.2.1, e.1, _, idx e.1 pr.1, rfl, rfl, tE10.sq, idx_at gg.1, (fun m h => idx_first m h), ?_⟩
              refine ⟨_, rfl, ⟨e.2.1, _, rfl, tE10⟩, _, rfl, e.2.1, e.1, _, idx e.1 pr.2, rfl, rfl, tE10.sq, idx_at gg.2, (fun m h => idx_first m h), _, _, rfl, rfl, _, rfl, ite2 (fun z => ?_) (fun z => ?_)⟩
              · have c1 : idx e.1 pr.2 < idx e.1 pr.1 := by
                  have := of_decide_eq_true z
                  omega
                refine ⟨_, h10, ?_, same_upd s10 nC, ?_⟩
                · rw [List.length_map]
                  have := offs_len e.1 (ps.take m)
                  rw [List.length_take] at this
                  exact small1000 (by omega)
                · rw [upd_same, etk, offs_yes c1, List.map_append]
                  rfl
              · have c1 : ¬ idx e.1 pr.2 < idx e.1 pr.1 := fun c => z (decide_eq_true (by omega))
                refine ⟨s10, ?_⟩
                rw [etk, offs_no c1]
                exact h10
            · rintro H10 ⟨s10, h10⟩
              rw [List.length_map, ckeep.len, List.take_of_length_le (Nat.le_refl _)] at h10
              refine ⟨Nat.zero_le _, fun l2 H11 s11 n11 h11 => ?_⟩
              have s911 := s10.trans s11
              refine ⟨C, l2, offs e.1 ps, [], rfl, rfl, SqL.of (s11 _ _ h10), SqL.of h11, _, rfl, ?_⟩
              rw [if_neg Bool.false_ne_true, offs_none, noneOff_eq inE neP]
              have b11 := b9.same s911
              have l11 := s911 _ _ l9
              have c11 := s911 _ _ c9
              cases sb : stands e.1 ps with
              | true =>
                refine iteT ?_
                have tE11 := tE.same s911
                refine ⟨_, rfl, .inl ⟨rfl, _, SqL.of c11⟩, _, rfl, _, rfl, D, e.2.1, es, e.1, e.2.2, rfl, rfl, ⟨.inr ⟨od3, l11⟩, fun e' h' => b11.tn D26.1 (D26.2 e' h')⟩, tE11, val_of_mem hnd he, ?_⟩
                refine ⟨cl, _, _, rfl, rfl, c11, ?_, ?_⟩
                · rw [List.length_map]
                  refine small1000 (Nat.le_trans (selE_len _ _) ?_)
                  rw [List.length_take]
                  omega
                · refine ⟨_, rfl, upd_keep D _ (Ne.symm necD) l11, b11.upd n27, tabs_updL (T9.ext s911) c11, ?_⟩
                  rw [upd_same, selE_succ hje, if_pos sb, List.map_append]
                  congr 3
                  unfold numE
                  rw [hkk]
                  rfl
              | false =>
                refine iteF ?_
                refine ⟨_, rfl, l11, b11, T9.ext s911, ?_⟩
                rw [selE_succ hje, if_neg (by rw [sb]; exact Bool.false_ne_true), List.append_nil]
                exact c11
          · rintro σ H9 ⟨y5', rfl, l9, b9, T9, c9⟩
            rw [List.take_of_length_le (Nat.le_refl _)] at c9
            refine ⟨l9, ?_⟩
            have e29 : ExtN H26 (upd H9 D (DicO P w D es)) := b9.open_ D26.1
            have c29 : (upd H9 D (DicO P w D es)) cl = some (.lst ((selE es ps).map V.int)) := upd_keep cl _ necD c9
            have T29 : Tabs T (upd H9 D (DicO P w D es)) := tabs_unlock T9 l9
            generalize upd H9 D (DicO P w D es) = H29 at e29 c29 T29
            refine ⟨_, rfl, _, rfl, o, pp, os, as, ps, rfl, hO26.ext e29, h26'.ext e29, c26.extR e29, inP, hon, opos, by omega, T29, fun r H30 e30 T30 hr' => ?_⟩
            obtain ⟨pdN, pdS⟩ := pd_levels (ps := ps) hlv hall
            have some1 : 0 < (selE es ps).length := by
              rcases Nat.eq_zero_or_pos (selE es ps).length with z | z
              · have := pdN (List.eq_nil_of_length_eq_zero z) _ pm
                rw [st] at this
                cases this
              · exact z
            refine ⟨_, rfl, cl, selE es ps, rfl, SqL.of (lst_ext c29 e30), some1, fun m' hmem hle => ?_⟩
            obtain ⟨dd, rfl, hpd⟩ := pdS m' hmem hle
            have er := pd_uniq hr' hpd
            subst er
            refine ⟨rfl, ?_⟩
            rw [show decide (optV (some dd) = V.int ((dd : Nat) : Int)) = true from decide_eq_true rfl]
            exact q _
end
section
open LamX
variable {K : PySem.W.Frag} {mg : Str → Option Value} {P : Program} {w : World} {base : Heap}
theorem ok_law {f fWr fCo fAl fBe fDi fNx fAf fAC fFS fSp fSz fWo fNe fDT fHP fDP fC fD fM fN fX fNr fLC fLv cBe PBe cWo PWo cNe PNe cHP PHP cDP PDP wa : Addr} {fd dWr dCo dAl dBe dDi dNx dAf dAC dFS dSp dSz dWo dNe dDT dHP dDP dC dD dM dN dX dNr dLC dLv : FuncData} (F : Fun K "law" "law" sLaw f fd)
    (aWr : At K mg "wrong_pairs" sWrong ["order", "layers"] fWr dWr)
    (aCo : At K mg "stretch_cost" sCost ["order", "target", "start", "end"] fCo dCo)
    (aAl : At K mg "all_stretches" sAll ["size"] fAl dAl)
    (FBe : FunC K "best_stretch" "best_stretch" sBest fBe dBe cBe) (bBe : Binds K dBe ["order", "target"] []) (gBe : mg "best_stretch" = some (.ref fBe))
    (aDi : At K mg "distance" sDistance ["order", "target"] fDi dDi)
    (aNx : At K mg "new_index" sNewIx ["word", "at", "last"] fNx dNx)
    (aAf : At K mg "after_command" sAfter ["order", "command"] fAf dAf)
    (aAC : At K mg "all_commands" sAllC ["order"] fAC dAC)
    (aFS : At K mg "following_sphere" sFSph ["sphere", "seen"] fFS dFS)
    (aSp : At K mg "spheres" sSpheres ["order"] fSp dSp)
    (aSz : At K mg "sphere_sizes" sSizes ["order"] fSz dSz)
    (FWo : FunC K "without" "without" sWout fWo dWo cWo) (bWo : Binds K dWo ["layers", "left_out"] []) (gWo : mg "without" = some (.ref fWo))
    (FNe : FunC K "nearest_with_top" "nearest_with_top" sNear1 fNe dNe cNe) (bNe : Binds K dNe ["order", "top"] []) (gNe : mg "nearest_with_top" = some (.ref fNe))
    (aDT : At K mg "distance_to_top" sDTop ["order", "top"] fDT dDT)
    (FHP : FunC K "has_pairs" "has_pairs" sHasP fHP dHP cHP) (bHP : Binds K dHP ["order", "pairs"] []) (gHP : mg "has_pairs" = some (.ref fHP))
    (FDP : FunC K "distance_to_pairs" "distance_to_pairs" sDPairs fDP dDP cDP) (bDP : Binds K dDP ["order", "pairs"] []) (gDP : mg "distance_to_pairs" = some (.ref fDP))
    (aC : At K mg "_law_cell" sCell ["script", "index"] fC dC)
    (aD : At K mg "_law_digits" sDigits ["script", "index", "count", "base"] fD dD)
    (aM : At K mg "_law_moved" sMoved ["order", "command"] fM dM)
    (aN : At K mg "_law_names" sNames ["digits", "count"] fN dN)
    (aX : At K mg "_law_mixed" sMixed ["digits", "names"] fX dX)
    (aNr : At K mg "_law_near" sNear ["digits", "order"] fNr dNr)
    (aLC : At K mg "_law_commands" sLCmds ["names"] fLC dLC)
    (aLv : At K mg "_law_levels" sLevels ["order"] fLv dLv)
    (TBBe : TabB base mg cBe PBe)
    (TBWo : TabB base mg cWo PWo)
    (TBNe : TabB base mg cNe PNe)
    (TBHP : TabB base mg cHP PHP)
    (TBDP : TabB base mg cDP PDP)
    (ml : mg "len" = none)
    (mM : mg "max" = none)
    (mm : mg "min" = none)
    (mr : mg "range" = none)
    (mt : mg "tuple" = none)
    (mi : mg "list" = none)
    (me : mg "enumerate" = none)
    (mS : mg "sorted" = none)
    (my : mg "any" = none)
    (ma : mg "all" = none)
    (W : TupAt K mg "WORDS" fourWords wa) (hnd : [PBe, PWo, PNe, PHP, PDP].Nodup) :
    FnOk P w K mg base CX0 12 f fd ["script"] (spLawT K [(PBe, lamQ), (PWo, genQw), (PNe, lamQn), (PHP, genQh), (PDP, genQd)]) := by
  have hnd2 : (([(PBe, lamQ), (PWo, genQw), (PNe, lamQn), (PHP, genQh), (PDP, genQd)] : List (Addr × Str)).map Prod.fst).Nodup := hnd
  have mBe : (PBe, lamQ) ∈ ([(PBe, lamQ), (PWo, genQw), (PNe, lamQn), (PHP, genQh), (PDP, genQd)] : List (Addr × Str)) := by simp
  have mWo : (PWo, genQw) ∈ ([(PBe, lamQ), (PWo, genQw), (PNe, lamQn), (PHP, genQh), (PDP, genQd)] : List (Addr × Str)) := by simp
  have mNe : (PNe, lamQn) ∈ ([(PBe, lamQ), (PWo, genQw), (PNe, lamQn), (PHP, genQh), (PDP, genQd)] : List (Addr × Str)) := by simp
  have mHP : (PHP, genQh) ∈ ([(PBe, lamQ), (PWo, genQw), (PNe, lamQn), (PHP, genQh), (PDP, genQd)] : List (Addr × Str)) := by simp
  have mDP : (PDP, genQd) ∈ ([(PBe, lamQ), (PWo, genQw), (PNe, lamQn), (PHP, genQh), (PDP, genQd)] : List (Addr × Str)) := by simp
  generalize [(PBe, lamQ), (PWo, genQw), (PNe, lamQn), (PHP, genQh), (PDP, genQd)] = T at hnd2 mBe mWo mNe mHP mDP
  have uBe := tab_u hnd2 mBe
  have uWo := tab_u hnd2 mWo
  have uNe := tab_u hnd2 mNe
  have uHP := tab_u hnd2 mHP
  have uDP := tab_u hnd2 mDP
  have AT : AfterAt K mg fAf dAf fNx dNx := ⟨aAf.F, aNx.F, aAf.b, aNx.b, aAf.g, aNx.g, ml, mM, mm⟩
  have NA : NearAt K mg base T fNe cNe PNe fWo cWo PWo fBe cBe PBe fDi fWr fCo fAl dNe dWo dBe dDi dWr dCo dAl := ⟨mNe, uNe, mWo, uWo, mBe, uBe, FNe, bNe, gNe, TBNe, FWo, bWo, gWo, TBWo, FBe, bBe, gBe, TBBe, aDi, aWr, aCo, aAl, ml, me, mr, mm, mt⟩
  have oDi : Ok1 P w K mg base 11 "distance" ["order", "target"] (spDistance T) fDi dDi := ⟨NA.di, aDi.g, aDi.F.kp, aDi.b⟩
  have oDT : Ok1 P w K mg base 11 "distance_to_top" ["order", "top"] (spDTop T) fDT dDT := ⟨ok_dtop aDT.F NA, aDT.g, aDT.F.kp, aDT.b⟩
  have oDP : Ok1 P w K mg base 11 "distance_to_pairs" ["order", "pairs"] (spDPairs T) fDP dDP := ⟨ok_dpairs mDP uDP mHP uHP FDP TBDP FHP bHP gHP TBHP aSp aFS AT aAC W me my ma, gDP, FDP.keep, bDP⟩
  have oSz : Ok1 P w K mg base 11 "sphere_sizes" ["order"] spSizes fSz dSz := ⟨ok_sizes aSz.F aSp aFS AT aAC W ml, aSz.g, aSz.F.kp, aSz.b⟩
  have oD : Ok1 P w K mg base 11 "_law_digits" ["script", "index", "count", "base"] (spDigits K) fD dD := ⟨ok_digits aD.F aC.F aC.b aC.g ml mr, aD.g, aD.F.kp, aD.b⟩
  have oN : Ok1 P w K mg base 11 "_law_names" ["digits", "count"] (spNames K) fN dN := ⟨ok_names aN.F aX.F aX.b aX.g ml mi, aN.g, aN.F.kp, aN.b⟩
  have oNr : Ok1 P w K mg base 11 "_law_near" ["digits", "order"] (spNear K) fNr dNr := ⟨ok_near aNr.F aX aM ml mM mm mr mt mi, aNr.g, aNr.F.kp, aNr.b⟩
  have oX : Ok1 P w K mg base 11 "_law_mixed" ["digits", "names"] (spMixed K) fX dX := ⟨ok_mixed aX.F ml mi, aX.g, aX.F.kp, aX.b⟩
  have oLv : Ok1 P w K mg base 11 "_law_levels" ["order"] (spLevels P w) fLv dLv := ⟨ok_levels aLv.F aLC aM ml mM mm mt mS, aLv.g, aLv.F.kp, aLv.b⟩
  exact ok_law0 F oDi oDT oDP oSz oD oN oNr oX oLv ml mm mr
end
end K20
set_option maxHeartbeats 0
namespace K20
open PySem L2 LS PySem.Spec PyProof.Rows LamX
def fnL : List He.DefD := [mkD "wrong_pairs" sWrong, mkD "stretch_cost" sCost, mkD "all_stretches" sAll, mkD "best_stretch" sBest, mkD "distance" sDistance, mkD "new_index" sNewIx, mkD "after_command" sAfter, mkD "all_commands" sAllC, mkD "following_sphere" sFSph, mkD "spheres" sSpheres, mkD "sphere_sizes" sSizes, mkD "without" sWout, mkD "nearest_with_top" sNear1, mkD "distance_to_top" sDTop, mkD "has_pairs" sHasP, mkD "distance_to_pairs" sDPairs, mkD "_law_cell" sCell, mkD "_law_digits" sDigits, mkD "_law_moved" sMoved, mkD "_law_names" sNames, mkD "_law_mixed" sMixed, mkD "_law_near" sNear, mkD "_law_commands" sLCmds, mkD "_law_levels" sLevels, mkD "law" sLaw]
def faL : List He.Fa := [.glo "wrong_pairs", .glo "stretch_cost", .glo "all_stretches", .glo "best_stretch", .glo "distance", .glo "new_index", .glo "after_command", .glo "all_commands", .glo "following_sphere", .glo "spheres", .glo "sphere_sizes", .glo "without", .glo "nearest_with_top", .glo "distance_to_top", .glo "has_pairs", .glo "distance_to_pairs", .glo "_law_cell", .glo "_law_digits", .glo "_law_moved", .glo "_law_names", .glo "_law_mixed", .glo "_law_near", .glo "_law_commands", .glo "_law_levels", .glo "law", .free "len", .free "max", .free "min", .free "range", .free "tuple", .free "list", .free "enumerate", .free "sorted", .free "any", .free "all"]
def tfL : List (He.Defn × Str) := [(("best_stretch", none), lamQ), (("without", none), genQw), (("nearest_with_top", none), lamQn), (("has_pairs", none), genQh), (("distance_to_pairs", none), genQd)]
abbrev rowL : PySem.W.OpenRow := PySem.W.OpenLaw.row PySem.Challenge.rw_layersteps_k20_whole_six_layers_by_searc
abbrev hkL : PySem.W.Hook := He.hookX 4 faL fnL [] (tfL.map (·.1)) (fun K => tupB "WORDS" fourWords K && nodB [("best_stretch", none), ("without", none), ("nearest_with_top", none), ("has_pairs", none), ("distance_to_pairs", none)] K)
def obL (s : PySem.W.SharedT) : He.AlX := He.obsX 4 faL fnL [] (tfL.map (·.1)) (fun K => tupB "WORDS" fourWords K && nodB [("best_stretch", none), ("without", none), ("nearest_with_top", none), ("has_pairs", none), ("distance_to_pairs", none)] K) (HandSHeadRun.getT s)
theorem obL_eq (s : PySem.W.SharedT) : obL s = hkL.obs s.abs := He.obsX_eq (HandSHeadRun.getT_eq s)
theorem runL (w : World) : HandSHeadRun.RunEq rowL (PySem.W.view rowL.prog [30]) hkL obL 2000 ["wrong_pairs", "stretch_cost", "all_stretches", "best_stretch", "distance", "new_index", "after_command", "WORDS", "all_commands", "following_sphere", "spheres", "sphere_sizes", "without", "nearest_with_top", "distance_to_top", "has_pairs", "distance_to_pairs", "_law_cell", "_law_digits", "_law_moved", "_law_names", "_law_mixed", "_law_near", "_law_commands", "_law_levels"] w := by
  intro os
  kernel_rfl
theorem factsL {w : World} {K : PySem.W.Frag} {h : Heap} {mg : Str → Option Value} {f : Addr} (X : K.In h) (G : h.Ns mainGlobals mg) (hfa : mg ("law" : Str) = some (.ref f)) (c : He.SaysX faL fnL [] (tfL.map (·.1)) (fun K => tupB "WORDS" fourWords K && nodB [("best_stretch", none), ("without", none), ("nearest_with_top", none), ("has_pairs", none), ("distance_to_pairs", none)] K) w h K) : LawAtS PySem.Challenge.rw_layersteps_k20_whole_six_layers_by_searc w K CX0 12 63 "script" mg f h := by
  have cd : He.SaysD faL fnL K := c.t.d
  obtain ⟨d0, F0⟩ := cd.def_ 0 (d := mkD "wrong_pairs" sWrong) rfl
  have a0 := at_of (st := sWrong) (ps := ["order", "layers"]) X G F0 (cd.fact 0 (f := .glo "wrong_pairs") rfl) fun _ _ _ _ _ _ us hl => match us, hl with | [_, _], _ => rfl
  obtain ⟨d1, F1⟩ := cd.def_ 1 (d := mkD "stretch_cost" sCost) rfl
  have a1 := at_of (st := sCost) (ps := ["order", "target", "start", "end"]) X G F1 (cd.fact 1 (f := .glo "stretch_cost") rfl) fun _ _ _ _ _ _ us hl => match us, hl with | [_, _, _, _], _ => rfl
  obtain ⟨d2, F2⟩ := cd.def_ 2 (d := mkD "all_stretches" sAll) rfl
  have a2 := at_of (st := sAll) (ps := ["size"]) X G F2 (cd.fact 2 (f := .glo "all_stretches") rfl) fun _ _ _ _ _ _ us hl => match us, hl with | [_], _ => rfl
  obtain ⟨d3, F3⟩ := cd.def_ 3 (d := mkD "best_stretch" sBest) rfl
  have b3 : Binds K d3 ["order", "target"] [] := FunD.bindsN F3 fun _ _ _ _ _ _ us hl => match us, hl with | [_, _], _ => rfl
  obtain ⟨d4, F4⟩ := cd.def_ 4 (d := mkD "distance" sDistance) rfl
  have a4 := at_of (st := sDistance) (ps := ["order", "target"]) X G F4 (cd.fact 4 (f := .glo "distance") rfl) fun _ _ _ _ _ _ us hl => match us, hl with | [_, _], _ => rfl
  obtain ⟨d5, F5⟩ := cd.def_ 5 (d := mkD "new_index" sNewIx) rfl
  have a5 := at_of (st := sNewIx) (ps := ["word", "at", "last"]) X G F5 (cd.fact 5 (f := .glo "new_index") rfl) fun _ _ _ _ _ _ us hl => match us, hl with | [_, _, _], _ => rfl
  obtain ⟨d6, F6⟩ := cd.def_ 6 (d := mkD "after_command" sAfter) rfl
  have a6 := at_of (st := sAfter) (ps := ["order", "command"]) X G F6 (cd.fact 6 (f := .glo "after_command") rfl) fun _ _ _ _ _ _ us hl => match us, hl with | [_, _], _ => rfl
  obtain ⟨d7, F7⟩ := cd.def_ 7 (d := mkD "all_commands" sAllC) rfl
  have a7 := at_of (st := sAllC) (ps := ["order"]) X G F7 (cd.fact 7 (f := .glo "all_commands") rfl) fun _ _ _ _ _ _ us hl => match us, hl with | [_], _ => rfl
  obtain ⟨d8, F8⟩ := cd.def_ 8 (d := mkD "following_sphere" sFSph) rfl
  have a8 := at_of (st := sFSph) (ps := ["sphere", "seen"]) X G F8 (cd.fact 8 (f := .glo "following_sphere") rfl) fun _ _ _ _ _ _ us hl => match us, hl with | [_, _], _ => rfl
  obtain ⟨d9, F9⟩ := cd.def_ 9 (d := mkD "spheres" sSpheres) rfl
  have a9 := at_of (st := sSpheres) (ps := ["order"]) X G F9 (cd.fact 9 (f := .glo "spheres") rfl) fun _ _ _ _ _ _ us hl => match us, hl with | [_], _ => rfl
  obtain ⟨d10, F10⟩ := cd.def_ 10 (d := mkD "sphere_sizes" sSizes) rfl
  have a10 := at_of (st := sSizes) (ps := ["order"]) X G F10 (cd.fact 10 (f := .glo "sphere_sizes") rfl) fun _ _ _ _ _ _ us hl => match us, hl with | [_], _ => rfl
  obtain ⟨d11, F11⟩ := cd.def_ 11 (d := mkD "without" sWout) rfl
  have b11 : Binds K d11 ["layers", "left_out"] [] := FunD.bindsN F11 fun _ _ _ _ _ _ us hl => match us, hl with | [_, _], _ => rfl
  obtain ⟨d12, F12⟩ := cd.def_ 12 (d := mkD "nearest_with_top" sNear1) rfl
  have b12 : Binds K d12 ["order", "top"] [] := FunD.bindsN F12 fun _ _ _ _ _ _ us hl => match us, hl with | [_, _], _ => rfl
  obtain ⟨d13, F13⟩ := cd.def_ 13 (d := mkD "distance_to_top" sDTop) rfl
  have a13 := at_of (st := sDTop) (ps := ["order", "top"]) X G F13 (cd.fact 13 (f := .glo "distance_to_top") rfl) fun _ _ _ _ _ _ us hl => match us, hl with | [_, _], _ => rfl
  obtain ⟨d14, F14⟩ := cd.def_ 14 (d := mkD "has_pairs" sHasP) rfl
  have b14 : Binds K d14 ["order", "pairs"] [] := FunD.bindsN F14 fun _ _ _ _ _ _ us hl => match us, hl with | [_, _], _ => rfl
  obtain ⟨d15, F15⟩ := cd.def_ 15 (d := mkD "distance_to_pairs" sDPairs) rfl
  have b15 : Binds K d15 ["order", "pairs"] [] := FunD.bindsN F15 fun _ _ _ _ _ _ us hl => match us, hl with | [_, _], _ => rfl
  obtain ⟨d16, F16⟩ := cd.def_ 16 (d := mkD "_law_cell" sCell) rfl
  have a16 := at_of (st := sCell) (ps := ["script", "index"]) X G F16 (cd.fact 16 (f := .glo "_law_cell") rfl) fun _ _ _ _ _ _ us hl => match us, hl with | [_, _], _ => rfl
  obtain ⟨d17, F17⟩ := cd.def_ 17 (d := mkD "_law_digits" sDigits) rfl
  have a17 := at_of (st := sDigits) (ps := ["script", "index", "count", "base"]) X G F17 (cd.fact 17 (f := .glo "_law_digits") rfl) fun _ _ _ _ _ _ us hl => match us, hl with | [_, _, _, _], _ => rfl
  obtain ⟨d18, F18⟩ := cd.def_ 18 (d := mkD "_law_moved" sMoved) rfl
  have a18 := at_of (st := sMoved) (ps := ["order", "command"]) X G F18 (cd.fact 18 (f := .glo "_law_moved") rfl) fun _ _ _ _ _ _ us hl => match us, hl with | [_, _], _ => rfl
  obtain ⟨d19, F19⟩ := cd.def_ 19 (d := mkD "_law_names" sNames) rfl
  have a19 := at_of (st := sNames) (ps := ["digits", "count"]) X G F19 (cd.fact 19 (f := .glo "_law_names") rfl) fun _ _ _ _ _ _ us hl => match us, hl with | [_, _], _ => rfl
  obtain ⟨d20, F20⟩ := cd.def_ 20 (d := mkD "_law_mixed" sMixed) rfl
  have a20 := at_of (st := sMixed) (ps := ["digits", "names"]) X G F20 (cd.fact 20 (f := .glo "_law_mixed") rfl) fun _ _ _ _ _ _ us hl => match us, hl with | [_, _], _ => rfl
  obtain ⟨d21, F21⟩ := cd.def_ 21 (d := mkD "_law_near" sNear) rfl
  have a21 := at_of (st := sNear) (ps := ["digits", "order"]) X G F21 (cd.fact 21 (f := .glo "_law_near") rfl) fun _ _ _ _ _ _ us hl => match us, hl with | [_, _], _ => rfl
  obtain ⟨d22, F22⟩ := cd.def_ 22 (d := mkD "_law_commands" sLCmds) rfl
  have a22 := at_of (st := sLCmds) (ps := ["names"]) X G F22 (cd.fact 22 (f := .glo "_law_commands") rfl) fun _ _ _ _ _ _ us hl => match us, hl with | [_], _ => rfl
  obtain ⟨d23, F23⟩ := cd.def_ 23 (d := mkD "_law_levels" sLevels) rfl
  have a23 := at_of (st := sLevels) (ps := ["order"]) X G F23 (cd.fact 23 (f := .glo "_law_levels") rfl) fun _ _ _ _ _ _ us hl => match us, hl with | [_], _ => rfl
  obtain ⟨dL, FL⟩ := cd.def_ 24 (d := mkD "law" sLaw) rfl
  have e := hfa.symm.trans (He.glo_ok X G (cd.fact 24 (f := .glo "law") rfl))
  cases e
  have bL := FunD.bindsA (ps := ["script"]) FL fun _ _ _ _ _ _ us hl => match us, hl with | [_], _ => rfl
  exact lawAt_of (tf := tfL) X c (fun s v => bL s [v] rfl) fun base TB => ok_law (fun_of (st := sLaw) FL) a0 a1 a2 (funC_of (st := sBest) F3) b3 (He.glo_ok X G (cd.fact 3 (f := .glo "best_stretch") rfl)) a4 a5 a6 a7 a8 a9 a10 (funC_of (st := sWout) F11) b11 (He.glo_ok X G (cd.fact 11 (f := .glo "without") rfl)) (funC_of (st := sNear1) F12) b12 (He.glo_ok X G (cd.fact 12 (f := .glo "nearest_with_top") rfl)) a13 (funC_of (st := sHasP) F14) b14 (He.glo_ok X G (cd.fact 14 (f := .glo "has_pairs") rfl)) (funC_of (st := sDPairs) F15) b15 (He.glo_ok X G (cd.fact 15 (f := .glo "distance_to_pairs") rfl)) a16 a17 a18 a19 a20 a21 a22 a23 (TB ("best_stretch", none) _ List.mem_cons_self) (TB ("without", none) _ (List.mem_cons_of_mem _ List.mem_cons_self)) (TB ("nearest_with_top", none) _ (List.mem_cons_of_mem _ (List.mem_cons_of_mem _ List.mem_cons_self))) (TB ("has_pairs", none) _ (List.mem_cons_of_mem _ (List.mem_cons_of_mem _ (List.mem_cons_of_mem _ List.mem_cons_self)))) (TB ("distance_to_pairs", none) _ (List.mem_cons_of_mem _ (List.mem_cons_of_mem _ (List.mem_cons_of_mem _ (List.mem_cons_of_mem _ List.mem_cons_self))))) (He.free_ok X G (cd.fact 25 (f := .free "len") rfl)) (He.free_ok X G (cd.fact 26 (f := .free "max") rfl)) (He.free_ok X G (cd.fact 27 (f := .free "min") rfl)) (He.free_ok X G (cd.fact 28 (f := .free "range") rfl)) (He.free_ok X G (cd.fact 29 (f := .free "tuple") rfl)) (He.free_ok X G (cd.fact 30 (f := .free "list") rfl)) (He.free_ok X G (cd.fact 31 (f := .free "enumerate") rfl)) (He.free_ok X G (cd.fact 32 (f := .free "sorted") rfl)) (He.free_ok X G (cd.fact 33 (f := .free "any") rfl)) (He.free_ok X G (cd.fact 34 (f := .free "all") rfl)) (tupAt_of X G (and1 c.more)) (nod_of (and2 c.more))
end K20
open PySem PyProof.Rows PySem.W PySem.Calls
set_option maxHeartbeats 0 in
theorem PySem.Challenge.cw_layersteps_k20_whole_six_layers_by_searc_holds : PySem.Challenge.rw_layersteps_k20_whole_six_layers_by_searc.Holds := by
  w_on; o_law
  refine HandSHeadRun.head_any (r := K20.rowL) (q := view K20.rowL.prog [30]) (H := K20.hkL) (ob := K20.obL) (M := 2000) (loose := ["wrong_pairs", "stretch_cost", "all_stretches", "best_stretch", "distance", "new_index", "after_command", "WORDS", "all_commands", "following_sphere", "spheres", "sphere_sizes", "without", "nearest_with_top", "distance_to_top", "has_pairs", "distance_to_pairs", "_law_cell", "_law_digits", "_law_moved", "_law_names", "_law_mixed", "_law_near", "_law_commands", "_law_levels"]) (d := HandSHeadRun.topDef K20.rowL.prog 30) (kwd := []) K20.obL_eq
    (by kernel_rfl) (fun s => by kernel_rfl) K20.runL (by kernel_rfl) (by kernel_rfl) (by kernel_rfl) (by rfl) (by first | assumption | decide +kernel) (by decide +kernel) ⟨rfl, rfl, rfl, rfl, rfl, by decide +kernel⟩ ?hw ?hc
  case hw => w_witness2
  case hc =>
    refine LamX.walk_ofTsE (l := PySem.Challenge.rw_layersteps_k20_whole_six_layers_by_searc) (n := 63) (k := 12) (x := "script") (CX := fun _ => L2.CX0) rfl (by decide) (by kernel_rfl) ⟨rfl, by decide, by decide⟩ ?F (fun _ _ _ _ _ z => z)
    intro w mg fa h Y G hmg0
    obtain ⟨K, KX, c⟩ := Y
    have nm : (HandSHeadRun.topDef K20.rowL.prog 30).name = ("law" : PySem.Str) := by kernel_rfl
    rw [nm] at hmg0
    exact ⟨K, KX, K20.factsL KX G hmg0 c⟩
