import PyProof.Rows.All
import Wide.All
import OpenK.AllK
import Wide.FinOn
import HandS.ForMost
import HandS.Walk
import HandS.TupAny
import HandS.Strs
import KE.GoesEnum
import HandS.Zip0
import HandS.Style
import KE.KRevSl
import HandS.TupMul
import HandS.Conv
import HandS.Codes
import HandS.IsInst
import PySem.Challenge.RW_layersteps_k02_commands_applied
set_option Elab.async false
set_option linter.all false
set_option maxRecDepth 100000
/-! enumerate over a tuple, as a rule of the hand layer -/
namespace LS
open PySem L2 PySem.Spec PyProof.Rows
set_option maxHeartbeats 1200000 in
theorem meets_enumT (l : Addr) (items : Array Value) :
    Meets (Builtin.«enumerate.__new__» ⟨[.type "enumerate", .ref l], []⟩) (fun _ R s => s.heap.IsTuple l items ∧
      R (.ok (.ret (.ref (s.heap.push { cls := .type "tuple_iterator", data := .fields #[.ref l, .int 0 0] }).objs.size)))
        { s with heap := (s.heap.push { cls := .type "tuple_iterator", data := .fields #[.ref l, .int 0 0] }).push { cls := .type "enumerate", data := .fields #[.none, .bool false, .ref s.heap.objs.size, rawInt 0, .none, .none] } }) :=
  .of_wp fun prog w A R s hh => by
    obtain ⟨hp, gg, dd, tk, os⟩ := s
    obtain ⟨ht, hr⟩ := hh
    have sub1 := sub_enumerate
    have tt : Heap.IsTuple (Shared.heap ⟨hp, gg, dd, tk, os⟩) l items := ht
    wp_walk using wpAny_pyIter_tuple tt
    refine wpAny_stack_any fun fr => wpAny_pure ?_
    split
    · rename_i cc _ _ _ _ _
      cases (cc == Value.type "enumerate") <;> (wp_walk using wpAny_pyIter_tuple tt; exact ⟨_, rfl, hr⟩)
    · wp_walk using wpAny_pyIter_tuple tt
      exact ⟨_, rfl, hr⟩
section
variable {A : Around} {s : Shared} {prog : Program} {w : World} {E : Value → Shared → Prop}
theorem call_enumT {l : Addr} {items : Array Value} {Q : Value → Shared → Prop} (ht : s.heap.IsTuple l items)
    (hq : ∀ g, IsEnum g (s.heap.objs.size + 1) s.heap.objs.size 0 .none → g.IsTupleIter s.heap.objs.size l 0 → g.objs.size = s.heap.objs.size + 2 →
      (∀ b o, s.heap.get? b = some o → g.get? b = some o) → Q (.ref (s.heap.objs.size + 1)) { s with heap := g }) : wpAny (model prog w) A (call (.type "enumerate") [.ref l]) Q E s := by
  refine callType_new F.called_enumerate (by decide) (F.typeCall_enumerate_1 _) (F.newCall_enumerate_1 _)
    (fun ob => F.args_object_init_2 ob _) F.entry_enumerate_new (meets_enumT l items) ⟨ht, ?_⟩
  have z1 : (s.heap.push { cls := .type "tuple_iterator", data := .fields #[.ref l, .int 0 0] }).objs.size = s.heap.objs.size + 1 := Heap.size_push ..
  show _ ∧ _
  rw [z1]
  have en : IsEnum ((s.heap.push { cls := .type "tuple_iterator", data := .fields #[.ref l, .int 0 0] }).push { cls := .type "enumerate", data := .fields #[.none, .bool false, .ref s.heap.objs.size, rawInt 0, .none, .none] }) (s.heap.objs.size + 1) s.heap.objs.size 0 .none := by
    have q0 := Heap.get?_push_size (s.heap.push { cls := .type "tuple_iterator", data := .fields #[.ref l, .int 0 0] }) (o := { cls := .type "enumerate", data := .fields #[.none, .bool false, .ref s.heap.objs.size, rawInt 0, .none, .none] }) rfl
    rw [z1] at q0
    exact q0
  exact ⟨⟨_, en, rfl⟩, hq _ en ⟨_, Heap.get?_push_of_some _ (Heap.get?_push_size _ rfl), rfl, rfl⟩ (by rw [Heap.size_push, z1])
    fun b o x => Heap.get?_push_of_some _ (Heap.get?_push_of_some _ x)⟩
theorem next_enumT_end {e it l : Addr} {i : Nat} {c : Int} {items : Array Value} {old : Value} {Q : Option Value → Shared → Prop} (hh : A.in1.handled = none) (g1 : IsEnum s.heap e it c old)
    (g2 : s.heap.IsTupleIter it l i) (ht : s.heap.IsTuple l items) (hx : items[i]? = none) (hq : ∀ g, Heap.ExtBut it s.heap g → Q none { s with heap := g }) : wpAny (model prog w) A (pyNext (.ref e)) Q E s := by
  have ty : s.TypeIs (.ref e) "enumerate" := ⟨_, g1, rfl⟩
  unfold pyNext
  refine wpAny_bind (wpAny_attempt (wpAny_callSpecial?_slot (name := Str.ofString "__next__") ty F.slot_enumerate_next (wpAny_call_entry F.slot_enumerate_next ty F.entry_enumerate_next ?_ (F.args_enumerate_next_1 _))))
  show wpAny (model prog w) _ (field (.ref e) 2 >>= _) _ _ s
  refine wpAny_bind (wpAny_field g1 rfl (x := .ref it) rfl (wpAny_bind (RZ.nextOf_tuple_end hh g2 ht hx fun g x k q => ?_)))
  obtain ⟨o, q1, q2⟩ := q
  exact wpAny_bind (wpAny_isInstance (T := "StopIteration") (b := true) ⟨o, q1, q2⟩ isSubtype_stop (wpAny_pure (hq _ k)))
end
/-- enumerate(tuple): the tuple at a, each item in a new pair -/
def ItE (K : PySem.W.Frag) (a : Addr) : It :=
  ⟨fun i H => ∃ (xs : List V) (x : V), SqT K H a xs ∧ xs[i]? = some x,
   fun i H v H' => ∃ T x, v = .ref T ∧ H T = none ∧ H' = upd H T (.tup [.int (i : Nat), x]) ∧ ∀ xs, SqT K H a xs → xs[i]? = some x,
   fun i H => ∃ xs : List V, SqT K H a xs ∧ xs.length ≤ i⟩
theorem turn_enumT {P : Program} {w : World} {K : PySem.W.Frag} {elts : List Expr} {kk : Nat} {tpos : Pos} (a e it : Addr) (nai : a ≠ it) (nea : e ≠ a) :
    Turn P w K (.Tuple elts kk tpos) (ItE K a) [e, it] e (fun i h => (∃ old, IsEnum h e it ((i : Nat) : Int) old) ∧ h.IsTupleIter it a i ∧ e ≠ it) where
  mem := List.mem_cons_self
  obj := fun i h st b hb => by
    obtain ⟨⟨old, g1⟩, ⟨o, g2, gc, gd⟩, _⟩ := st
    rcases (show b = e ∨ b = it by simpa using hb) with z | z
    · subst z
      exact ⟨_, g1, fun v q => nomatch q⟩
    · subst z
      exact ⟨o, g2, fun v q => by rw [gd] at q; cases q⟩
  keep := fun i h h' st k => by
    obtain ⟨⟨old, g1⟩, g2, g3⟩ := st
    exact ⟨⟨old, k e (by simp) _ g1⟩, g2.at fun o q => k it (by simp) o q, g3⟩
  item := by
    intro X x1 x2 x3 hc i pins s σ H E I hf st hg
    subst x1 x2 x3
    obtain ⟨⟨old, g1⟩, g2, g3⟩ := st
    obtain ⟨xs, x, hq, hx⟩ := hg
    obtain ⟨its, rv, p, zl⟩ := I.tuple hq
    obtain ⟨u, hu, vu⟩ := rv.get hx
    have le : e < s.heap.objs.size := Heap.lt_size g1
    have li : it < s.heap.objs.size := by
      obtain ⟨_, q, _⟩ := g2
      exact Heap.lt_size q
    have hi : i < its.toArray.size := by
      rw [List.size_toArray]
      exact (List.getElem?_eq_some_iff.mp hu).1
    have hA : X.A.in1.handled = none := I.ok.hd hc
    have ms : e ∉ [it, a] := by
      intro m
      rcases (show e = it ∨ e = a by simpa using m) with z | z
      · exact g3 z
      · exact nea z
    refine wpAny_pyNext_enum_itemC (c := ((i : Nat) : Int)) (Draws.tuple hA it a nai its.toArray) g1 ⟨g2, p⟩ hi g3 ms fun u' h' tk hu' ho st' hT hsz hk => ?_
    have eu : u' = u := by
      have e1 : its[i]? = some u' := by simpa using hu'
      exact Option.some.inj (e1.symm.trans hu)
    subst eu
    refine ⟨_, rfl, wpAny_letOwnedTupleGo_enum (s := { s with heap := h', toks := tk + 1 }) ho fun h2 he2 sb => ?_⟩
    have hT2 : h2.get? s.heap.objs.size = some { cls := .type "tuple", data := .seq #[.int ((i : Nat) : Int) tk, u'] } := (sb.2 _ (Nat.ne_of_gt le)).trans hT
    have ok : ObjOk X.prog X.w (upd H s.heap.objs.size (.tup [.int (i : Nat), x])) h2 s.heap.objs.size (.tup [.int (i : Nat), x]) :=
      ⟨by show 2 ≤ sizeLine; decide, [.int ((i : Nat) : Int) tk, u'], .cons ⟨_, rfl⟩ (.cons vu .nil), ⟨_, hT2, rfl, _, rfl⟩⟩
    have J : Inv X pins σ (upd H s.heap.objs.size (.tup [.int (i : Nat), x])) { s with heap := h2, toks := tk + 1 } :=
      I.turnedNew (ch := [e, it]) (fun b ob hb q => (sb.2 b (fun z => hb (by simp [z]))).trans (hk b ob (fun z => hb (by simp [z])) (fun z => hb (by simp [z])) q)) hf (Nat.le_refl _) ok
    refine ⟨.ref s.heap.objs.size, _, J, rfl, ⟨_, x, rfl, I.hok.fresh (Nat.le_refl _), rfl, fun ys hy => by rw [I.tuple_inj hy hq]; exact hx⟩, ⟨⟨u', ?_⟩, st'.1.at fun o q => (sb.2 it (Ne.symm g3)).trans q, g3⟩, fun b hb => ?_⟩
    · rw [show ((i + 1 : Nat) : Int) = (i : Int) + 1 by omega]
      exact he2
    · have lb : b < s.heap.objs.size := by
        rcases (show b = e ∨ b = it by simpa using hb) with z | z
        · rw [z]
          exact le
        · rw [z]
          exact li
      rw [upd_ne (Nat.ne_of_lt lb)]
      exact (hf b hb).1
  done := by
    intro X x1 x2 x3 hc i pins s σ H E I hf st hg
    subst x1 x2 x3
    obtain ⟨⟨old, g1⟩, g2, g3⟩ := st
    obtain ⟨xs, hq, hx⟩ := hg
    obtain ⟨its, rv, p, zl⟩ := I.tuple hq
    obtain ⟨k0, k1, k2, k3, k4, k5⟩ := hf it (by simp)
    have hl := rv.length
    exact next_enumT_end (I.ok.hd hc) g1 g2 p (by simp; omega) fun g eb => ⟨rfl, I.turned (t' := s.toks) (fun b o hb q => eb b o hb q) k0 k1 k3 k4 k5⟩
  self := fun A' i s' Q' E' st h => by
    obtain ⟨⟨_, g1⟩, _⟩ := st
    exact wpAny_pyIter_enum g1 h
def iEnumT (K : PySem.W.Frag) (ta : TA) : TI := fun σ H R => ta σ H fun vs H1 => ∃ a xs, vs = [.ref a] ∧ SqT K H1 a xs ∧ R (ItE K a) H1
theorem pi_enumT {X : Cx} {e : Expr} {ta : TA} {p pos tpos : Pos} {elts : List Expr} {kk : Nat} (hg : Gl X "enumerate") (hm : X.mg "enumerate" = none) (ha : PA X [e] ta) (hs : starEach [e] X.env = [(false, eval e X.env)] := by rfl) :
    PI X (.Tuple elts kk tpos) (.Call (.Name "enumerate" p) [e] [] pos) (iEnumT X.K ta) := by
  refine ⟨fun pins s σ H R I h => Call_ (ld_blt I hg hm boot_enumerate (callWith_type1 (thn (ha.run pos pins s σ H _ I h) fun us s1 ⟨vs, H1, I1, r1, a, xs, ex, hq, q⟩ => ?_) hs rfl))⟩
  subst ex
  cases r1 with
  | cons r rr =>
    cases rr
    cases r
    obtain ⟨its, rv, p', hz⟩ := I1.tuple hq
    have la : a < s1.heap.objs.size := by
      obtain ⟨o, ho, _⟩ := p'
      exact Heap.lt_size ho
    refine call_enumT p' fun g en it sz k => wpAny_pyIter_enum en ?_
    have I2 : Inv X pins σ H1 { s1 with heap := g } := I1.kept (t' := s1.toks) k
    refine ⟨s1.heap.objs.size + 1, [s1.heap.objs.size + 1, s1.heap.objs.size], _, _, H1, rfl, I2, turn_enumT a (s1.heap.objs.size + 1) s1.heap.objs.size (Nat.ne_of_lt la) (Nat.ne_of_gt (Nat.lt_succ_of_lt la)), ⟨⟨.none, en⟩, it, Nat.succ_ne_self _⟩, fun b hb => ?_, q⟩
    have lb : s1.heap.objs.size ≤ b := by
      rcases (show b = s1.heap.objs.size + 1 ∨ b = s1.heap.objs.size by simpa using hb) with z | z <;> rw [z]
      · exact Nat.le_succ _
      · exact Nat.le_refl _
    exact I1.fpOk lb (I1.hok.fresh lb)
theorem walk_enumT {K : PySem.W.Frag} {a : Addr} {xs : List V} : Walk (ItE K a) xs.length (fun H => SqT K H a xs) (YPair (fun i => some (.int (i : Nat))) (fun i => xs[i]?)) :=
  ⟨fun i _ hi q => ⟨xs, xs[i], q, by simp [hi]⟩, fun _ q => ⟨xs, q, Nat.le_refl _⟩, fun i H v H' _ q y => by
    obtain ⟨T, x, e1, e2, e3, e4⟩ := y
    exact ⟨T, _, x, e1, e2, e3, rfl, e4 xs q⟩⟩
end LS
/-! t[::-1] of a tuple, as a rule of the hand layer -/
namespace LS
open PySem PySem.Spec PyProof.Rows L2 HT
section
variable {A : Around} {s : Shared} {prog : Program} {w : World} {E : Value → Shared → Prop}
theorem adj_rev (n : Nat) : Builtin.Slice.sliceAdjust none none (-1) (n : Int) = ((n : Int) - 1, -1) := by
  rfl
theorem places_rev (n : Nat) : Builtin.Slice.slicePlaces ((n : Int) - 1) (-1) (-1) = n := by
  delta Builtin.Slice.slicePlaces
  simp only [show ¬ ((-1 : Int) > 0) by decide, if_false, show (- -1 : Int) = 1 by decide, Int.ediv_one]
  split <;> omega
theorem applied_rev {sl : Addr} {vs : Value} {n : Nat} {Q : Int × Int × Nat → Shared → Prop} (hs : s.heap.IsSliceOf sl .none .none vs) (ps : IsPart vs (some (-1)))
    (h : Q ((n : Int) - 1, -1, n) s) : wpAny (model prog w) A (Builtin.Slice.sliceApplied (.ref sl) (pure (n : Int))) Q E s := by
  obtain ⟨ob, h1, h2, h3⟩ := id hs
  unfold Builtin.Slice.sliceApplied; unfold Builtin.Slice.sliceFields
  refine wpAny_bind (wpAny_bind (wpAny_field h1 h3 (x := .none) rfl (wpAny_bind (wpAny_field h1 h3 (x := .none) rfl (wpAny_bind (wpAny_field h1 h3 (x := vs) rfl (wpAny_pure ?_)))))))
  refine wpAny_bind (slicePart_ ps ?_)
  show wpAny _ _ (if ((-1 : Int) == 0) = true then _ else _) _ _ s
  rw [if_neg (by decide)]
  refine wpAny_bind (slicePart_none (wpAny_bind (slicePart_none (wpAny_bind (wpAny_pure ?_)))))
  show wpAny _ _ (match Builtin.Slice.sliceAdjust none none (-1) (n : Int) with | (a, b) => pure (a, (-1 : Int), Builtin.Slice.slicePlaces a b (-1))) _ _ s
  rw [adj_rev n]
  show wpAny _ _ (pure ((n : Int) - 1, (-1 : Int), Builtin.Slice.slicePlaces ((n : Int) - 1) (-1) (-1))) _ _ s
  rw [places_rev]
  exact wpAny_pure h
theorem fm_congr {α β : Type} {f g : α → Option β} : ∀ {l : List α}, (∀ x, x ∈ l → f x = g x) → l.filterMap f = l.filterMap g
  | [], _ => rfl
  | a :: l, h => by
    have ih := fm_congr (l := l) fun x hx => h x (List.mem_cons_of_mem _ hx)
    rw [List.filterMap_cons, List.filterMap_cons, h a List.mem_cons_self, ih]
theorem pick_rev (xs : Array Value) : ((List.range xs.size).filterMap fun (m : Nat) => xs[((xs.size : Int) - 1 + (m : Int) * (-1)).toNat]?).toArray = xs.toList.reverse.toArray := by
  have e : (List.range xs.size).filterMap (fun (m : Nat) => xs[((xs.size : Int) - 1 + (m : Int) * (-1)).toNat]?) = ((List.range xs.size).map fun k => xs.size - 1 - k).filterMap (xs[·]?) := by
    rw [List.filterMap_map]
    refine fm_congr fun m hm => ?_
    have := List.mem_range.mp hm
    show xs[((xs.size : Int) - 1 + (m : Int) * (-1)).toNat]? = xs[xs.size - 1 - m]?
    rw [show ((xs.size : Int) - 1 + (m : Int) * (-1)).toNat = xs.size - 1 - m by omega]
  rw [e, PySem.W.krv_range, List.filterMap_reverse, PySem.W.krv_all]
theorem getItem_tuple_rev {t sl : Addr} {items : Array Value} {vs : Value} {Q : Value → Shared → Prop} (ht : IsTup s.heap t items) (hs : s.heap.IsSliceOf sl .none .none vs) (ps : IsPart vs (some (-1)))
    (h : Q (.ref s.heap.objs.size) { s with heap := s.heap.push { cls := .type "tuple", data := .seq items.toList.reverse.toArray } }) (hsz : items.size ≤ sizeLine) : wpAny (model prog w) A (getItem (.ref t) (.ref sl)) Q E s := by
  have fits : sizeOk (.seq items.toList.reverse.toArray) := by
    show items.toList.reverse.toArray.size ≤ sizeLine
    rw [List.size_toArray, List.length_reverse, Array.length_toList]
    exact hsz
  obtain ⟨ob, h1, h2, h3⟩ := id hs
  have ty : s.TypeIs (.ref sl) "slice" := ⟨ob, h1, h2⟩
  unfold getItem
  (try with_reducible refine wpAny_holding ?_); (first | refine wpAny_bind (wpAny_pure ?_) | skip); refine wpAny_bind (wpAny_sequenceKey ht.typeIs (by decide) ?_)
  refine wpAny_bind (wpAny_callSpecial?_slot (name := Str.ofString "__getitem__") ht.typeIs PyProof.Rows.slot_tuple_getitem (wpAny_call_entry PyProof.Rows.slot_tuple_getitem ht.typeIs entry_tuple_getitem ?_ (args_tuple_getitem _ _)))
  show wpAny (model prog w) _ (Builtin.Tuple.tupleItemsOf (.ref t) >>= _) _ _ s
  refine wpAny_bind (tupleItemsOf_ ht (wpAny_bind (wpAny_typeOf ty ?_)))
  rw [if_pos (by decide)]
  refine wpAny_bind (applied_rev hs ps ?_)
  have no : ¬ (((items.size : Int) - 1 == 0 && (-1 : Int) == 1 && items.size == items.size) = true) := by
    intro q
    simp only [Bool.and_eq_true] at q
    exact absurd (eq_of_beq q.1.2) (by decide)
  show wpAny _ _ (if ((items.size : Int) - 1 == 0 && (-1 : Int) == 1 && items.size == items.size) = true then _ else _) _ _ s
  rw [if_neg no, pick_rev]
  first
    | exact wpAny_bind (m := Builtin.Tuple.tupleExact _) (wpAny_newObj_type (wpAny_pure ⟨_, rfl, wpAny_pure h⟩) fits)
    | exact wpAny_bind (m := Builtin.Tuple.tupleExact _) (wpAny_newObj_type (wpAny_bind (wpAny_pure (wpAny_pure ⟨_, rfl, wpAny_pure h⟩))) fits)
    | exact wpAny_bind (wpAny_bind (m := Builtin.Tuple.tupleExact _) (wpAny_newObj_type (wpAny_pure (wpAny_pure ⟨_, rfl, wpAny_pure h⟩)) fits))
    | exact wpAny_bind (wpAny_bind (m := Builtin.Tuple.tupleExact _) (wpAny_newObj_type (wpAny_pure ⟨_, rfl, wpAny_pure h⟩) fits))
end
section
variable {X : Cx}
def tRevT (K : PySem.W.Frag) (te : TE) : TE := fun σ H Q => te σ H fun x H1 => ∃ a xs, x = .ref a ∧ SqT K H1 a xs ∧ ∀ p, H1 p = none → Q (.ref p) (upd H1 p (.tup xs.reverse))
theorem pe_revT {e : Expr} {te : TE} {k : Nat} {p1 p2 p3 pos : Pos} (he : PE X e te) : PE X (.Subscript e (.Slice none none (some (.UnaryOp .USub (.Constant (.int 1) k p1) p2)) p3) pos) (tRevT X.K te) := by
  refine ⟨fun pins s σ H Q I h => Subscript_ (thn (he.run pins s σ H _ I h) fun v s1 ⟨x, H1, I1, r1, a, xs, ex, hx, q⟩ => ?_)⟩
  subst ex
  cases r1
  have st : PO X (some (.UnaryOp .USub (.Constant (.int 1) k p1) p2)) (tPart (tUn (rU fun i => .int (-i)) (tC (.int 1)))) := po_some (pe_un un_neg pe_int)
  refine wpAny_Slice (thn (po_none.run pins s1 σ H1 (fun o H2 => o = none ∧ H2 = H1) I1 ⟨rfl, rfl⟩) fun vl s2 ⟨l, H2, I2, pl, el, eq2⟩ => ?_)
  subst el eq2
  cases pl
  refine thn (po_none.run pins s2 σ H2 (fun o H3 => o = none ∧ H3 = H2) I2 ⟨rfl, rfl⟩) fun vu s3 ⟨u, H3, I3, pu, eu, eq3⟩ => ?_
  subst eu eq3
  cases pu
  refine thn (st.run pins s3 σ H3 (fun o H4 => o = some (-1) ∧ H4 = H3) I3 ⟨1, rfl, -1, rfl, rfl, rfl⟩) fun vs s4 ⟨o, H4, I4, ps, eo, e4⟩ => ?_
  subst eo e4
  have I5 : Inv X pins σ H4 { s4 with heap := s4.heap.push { cls := .type "slice", data := .fields #[.none, .none, vs] } } := I4.kept (t' := s4.toks) fun b ob z => Heap.get?_push_of_some _ z
  obtain ⟨its, r, ht, hz⟩ := I5.tuple hx
  have hlen := r.length
  show wpAny (model X.prog X.w) X.A (subscriptTail e (.Slice none none (some (.UnaryOp .USub (.Constant (.int 1) k p1) p2)) p3) (.ref a) (.ref s4.heap.objs.size)) (EP X pins σ Q) X.xe { s4 with heap := s4.heap.push { cls := .type "slice", data := .fields #[.none, .none, vs] } }
  refine tail_any (ops := [.ref a, .ref s4.heap.objs.size]) ht.typeIs (PyProof.Rows.slot_tuple_getitem.lookup) ?_ (by with_unfolding_all rfl)
  refine getItem_tuple_rev ht (Heap.IsSliceOf.new _ .none .none vs) ps ?_ (by rw [List.size_toArray]; omega)
  refine ⟨.ref _, _, I5.laid (t' := s4.toks) (o := .tup xs.reverse) (fun b ob z => Heap.get?_push_of_some _ z) (Nat.le_refl _) ?_, rfl, q _ (I5.hok.fresh (Nat.le_refl _))⟩
  exact ⟨by rw [List.length_reverse]; exact hz, _, r.reverse, IsTup.new _ _⟩
end
end LS
/-! the rules of new objects, told by «all that was tracked is as it was» -/
namespace LS
open PySem L2 PySem.Spec PyProof.Rows
theorem same_new {H : Hp} {p : Addr} {o : HO} (h : H p = none) : Same H (upd H p o) := fun b x e => by
  rw [upd_ne (ne_of_none e h)]
  exact e
theorem sameT {K : PySem.W.Frag} {H H' : Hp} {a : Addr} {xs : List V} (e : Same H H') (h : SqT K H a xs) : SqT K H' a xs := by
  rcases h with (g | ⟨ob, g⟩) | g
  · exact .inl (.inl (e _ _ g))
  · exact .inl (.inr ⟨ob, e _ _ g⟩)
  · exact .inr g
/-- at a a tuple of xs that has no dict of its own (so that its methods are read) -/
def Tn (H : Hp) (a : Addr) (xs : List V) : Prop := ∃ ob : Obj, H a = some (.frz ob (.tup xs)) ∧ ob.dict = none
theorem Tn.sq {K : PySem.W.Frag} {H : Hp} {a : Addr} {xs : List V} (h : Tn H a xs) : SqT K H a xs := by
  obtain ⟨ob, h, _⟩ := h
  exact .inl (.inr ⟨ob, h⟩)
theorem Tn.same {H H' : Hp} {a : Addr} {xs : List V} (h : Tn H a xs) (e : Same H H') : Tn H' a xs := by
  obtain ⟨ob, h, d⟩ := h
  exact ⟨ob, e _ _ h, d⟩
theorem Tn.ne {H : Hp} {a b : Addr} {xs : List V} (h : Tn H a xs) (n : H b = none) : a ≠ b := by
  obtain ⟨ob, h, d⟩ := h
  exact ne_of_none h n
abbrev tupOb (its : List Value) : Obj := { cls := .type "tuple", data := .seq its.toArray }
theorem Tn.new {H : Hp} {a : Addr} {xs : List V} {its : List Value} : Tn (upd H a (.frz (tupOb its) (.tup xs))) a xs := ⟨tupOb its, upd_same, rfl⟩
theorem ok_tup {P : Program} {w : World} {H : Hp} {h : Heap} {a : Addr} {xs : List V} {its : List Value} (e : h.get? a = some (tupOb its)) (z : xs.length ≤ sizeLine) (r : Vals xs its) : ObjOk P w H h a (.frz (tupOb its) (.tup xs)) :=
  ⟨e, z, its, r, ⟨_, e, rfl, _, rfl⟩⟩
section
variable {X : Cx} {es : List Expr} {e : Expr} {t : TA} {te : TE} {pos : Pos}
/-- whatever is told of a value may be told less of -/
def tMono (t : TE) : TE := fun σ H Q => ∃ R : V → Hp → Prop, t σ H R ∧ ∀ v H', R v H' → Q v H'
theorem pe_mono (h : PE X e te) : PE X e (tMono te) := ⟨fun pins s σ H Q I hq => by
  obtain ⟨R, h1, h2⟩ := hq
  exact thn (h.run pins s σ H R I h1) fun u s1 ⟨x, H1, I1, r, q⟩ => ⟨x, H1, I1, r, h2 x H1 q⟩⟩
def tTupS (t : TA) : TE := fun σ H Q => t σ H fun xs H1 => xs.length ≤ sizeLine ∧ ∀ p H2, Same H1 H2 → H1 p = none → Tn H2 p xs → Q (.ref p) H2
def tLstS (t : TA) : TE := fun σ H Q => t σ H fun xs H1 => xs.length ≤ sizeLine ∧ ∀ p H2, Same H1 H2 → H1 p = none → H2 p = some (.lst xs) → Q (.ref p) H2
theorem pe_tupS {x1} (h : PA X es t) : PE X (.Tuple es x1 pos) (tTupS t) := by
  refine ⟨fun pins s σ H Q I hq => wpAny_Tuple_spliced (thn (h.run pos pins s σ H _ I hq) fun us s1 ⟨xs, H1, I1, r, z, q⟩ => ⟨by rw [← r.length]; exact z, ?_⟩)⟩
  have nf : H1 s1.heap.objs.size = none := I1.hok.fresh (Nat.le_refl _)
  exact ⟨.ref s1.heap.objs.size, upd H1 s1.heap.objs.size (.frz (tupOb us) (.tup xs)), I1.laid (t' := s1.toks) (fun b u e => Heap.get?_push_of_some _ e) (Nat.le_refl _) (ok_tup (Heap.get?_push_size _ rfl) z r), rfl, q _ _ (same_new nf) nf Tn.new⟩
theorem pe_lstS (h : PA X es t) : PE X (.List es pos) (tLstS t) := by
  refine ⟨fun pins s σ H Q I hq => wpAny_List_spliced (thn (h.run pos pins s σ H _ I hq) fun us s1 ⟨xs, H1, I1, r, z, q⟩ => ⟨by rw [← r.length]; exact z, ?_⟩)⟩
  have nf : H1 s1.heap.objs.size = none := I1.hok.fresh (Nat.le_refl _)
  exact ⟨.ref s1.heap.objs.size, upd H1 s1.heap.objs.size (.lst xs), I1.laid (t' := s1.toks) (fun b u e => Heap.get?_push_of_some _ e) (Nat.le_refl _) ⟨z, us, 0, r, Heap.get?_push_size _ rfl⟩, rfl, q _ _ (same_new nf) nf upd_same⟩
end
section
variable {X : Cx}
/-- t + u of tuples -/
def rCatS : R2 := fun x y H Q => ∃ a b xs ys, x = .ref a ∧ y = .ref b ∧ Tn H a xs ∧ Tn H b ys ∧ xs.length + ys.length ≤ sizeLine ∧ ∀ p H', Same H H' → Tn H' p (xs ++ ys) → Q (.ref p) H'
theorem op_catS : OpR X (binaryOp .Add) rCatS := by
  intro pi s σ H x y v u Q I rx ry h
  obtain ⟨a, b, xs, ys, rfl, rfl, ha, hb, hz, q⟩ := h
  cases rx
  cases ry
  obtain ⟨its, r1, p1, _⟩ := I.tuple ha.sq
  obtain ⟨its2, r2, p2, _⟩ := I.tuple hb.sq
  by_cases e : xs = []
  · subst e
    cases r1
    exact cat_tup0 p1 p2 ⟨.ref b, H, I, rfl, q b H (Same.refl H) hb⟩
  · refine HT.cat_tup p1 p2 (fun z => e (r1.nil_iff.mp z)) (fun z => ⟨.ref a, H, I, rfl, q a H (Same.refl H) ?_⟩) (fun z => ?_) (by rw [← r1.length, ← r2.length]; exact hz)
    · rw [r2.nil_iff.mp z, List.append_nil]
      exact ha
    · have nf : H s.heap.objs.size = none := I.hok.fresh (Nat.le_refl _)
      exact ⟨.ref s.heap.objs.size, _, I.laid (t' := s.toks) (o := .frz (tupOb (its ++ its2)) (.tup (xs ++ ys))) (fun b ob q => Heap.get?_push_of_some _ q) (Nat.le_refl _) (ok_tup (Heap.get?_push_size _ rfl) (by rw [List.length_append]; exact hz) (r1.append r2)), rfl, q _ _ (same_new nf) Tn.new⟩
/-- a + b of lists -/
def rCatLS : R2 := fun x y H Q => ∃ l b xs zs, x = .ref l ∧ y = .ref b ∧ H l = some (.lst xs) ∧ H b = some (.lst zs) ∧ xs.length + zs.length ≤ sizeLine ∧ ∀ p H', Same H H' → H p = none → H' p = some (.lst (xs ++ zs)) → Q (.ref p) H'
theorem op_catLS : OpR X (binaryOp .Add) rCatLS := by
  intro pi s σ H x y v u Q I rx ry h
  obtain ⟨a, b, xs, ys, rfl, rfl, ha, hb, hz, q⟩ := h
  exact op_cat pi s σ H _ _ v u Q I rx ry ⟨a, b, xs, ys, rfl, rfl, ha, hb, hz, fun p np => q p _ (same_new np) np upd_same⟩
/-- a list times an int -/
def rRepS : R2 := fun x y H Q => ∃ l k xs, x = .ref l ∧ y = .int k ∧ H l = some (.lst xs) ∧ -(2 ^ 63) ≤ k ∧ k < 2 ^ 63 ∧ xs.length * k.toNat ≤ sizeLine ∧ ∀ p H', Same H H' → H p = none → H' p = some (.lst (List.replicate k.toNat xs).flatten) → Q (.ref p) H'
theorem op_repS : OpR X (binaryOp .Mult) rRepS := by
  intro pi s σ H x y v u Q I rx ry h
  obtain ⟨a, k, xs, rfl, rfl, ha, h1, h2, hz, q⟩ := h
  exact op_rep pi s σ H _ _ v u Q I rx ry ⟨a, k, xs, rfl, rfl, ha, h1, h2, hz, fun p np => q p _ (same_new np) np upd_same⟩
/-- t[lo:hi] of a tuple -/
def rSlTS : V → Option Int → Option Int → Hp → VK → Prop := fun x lo hi H Q => ∃ a xs, x = .ref a ∧ Tn H a xs ∧ ∀ p H', Same H H' → Tn H' p (cutV xs lo hi) → Q (.ref p) H'
theorem sl_tupS : SlR X rSlTS := by
  intro pi s σ H x v vl vu lo hi sl Q I rx hs pl pu ⟨a, xs, ea, hx, q⟩
  subst ea
  cases rx
  obtain ⟨its, r, ht, hz⟩ := I.tuple hx.sq
  have hlen : its.toArray.size = xs.length := by
    rw [List.size_toArray]
    exact r.length.symm
  refine ⟨"tuple", _, slot_tuple_getitem.lookup, ht.typeIs, ?_⟩
  by_cases hw : (HT.sIx xs.length 0 lo = 0 ∧ HT.sIx xs.length xs.length hi = xs.length)
  · refine getItem_tuple_whole ht hs pl pu (by rw [hlen]; exact hw) ⟨.ref a, H, I, rfl, q a H (Same.refl H) ?_⟩
    have e2 : cutV xs lo hi = xs := by
      unfold cutV
      rw [hw.1, hw.2]
      simp
    rw [e2]
    exact hx
  · refine HT.getItem_tuple_cut ht hs pl pu (by rw [hlen]; exact hw) ?_ (by rw [hlen]; exact hz)
    rw [hlen]
    have nf : H s.heap.objs.size = none := I.hok.fresh (Nat.le_refl _)
    exact ⟨.ref s.heap.objs.size, _, I.laid (t' := s.toks) (o := .frz (tupOb _) (.tup (cutV xs lo hi))) (fun b ob q => Heap.get?_push_of_some _ q) (Nat.le_refl _) (ok_tup (Heap.get?_push_size _ rfl) (Nat.le_trans (cutV_length xs lo hi) hz) ((r.drop (HT.sIx xs.length 0 lo)).take (HT.sIx xs.length xs.length hi - HT.sIx xs.length 0 lo))), rfl, q _ _ (same_new nf) Tn.new⟩
/-- xs[lo:hi] of a list -/
def rSlLS (K : PySem.W.Frag) : V → Option Int → Option Int → Hp → VK → Prop := fun x lo hi H Q => ∃ a xs, x = .ref a ∧ SqL K H a xs ∧ ∀ p H', Same H H' → H p = none → H' p = some (.lst (cutV xs lo hi)) → Q (.ref p) H'
theorem sl_listS : SlR X (rSlLS X.K) := by
  intro pi s σ H x v vl vu lo hi sl Q I rx hs pl pu ⟨a, xs, ea, hx, q⟩
  subst ea
  exact sl_list pi s σ H _ v vl vu lo hi sl Q I rx hs pl pu ⟨a, xs, rfl, hx, fun p np => q p _ (same_new np) np upd_same⟩
/-- tuple(x) of a list or a tuple -/
def rTupOf (K : PySem.W.Frag) : List V → Hp → VK → Prop := fun vs H Q => ∃ p ys, vs = [.ref p] ∧ (SqL K H p ys ∨ Tn H p ys) ∧ ∀ l H', Same H H' → Tn H' l ys → Q (.ref l) H'
theorem call_tupleS : CallR X (.type "tuple") (rTupOf X.K) := by
  intro pi s σ H xs us Q I r ⟨p, ys, e0, hq, q⟩
  subst e0
  obtain ⟨u, e1, rx⟩ := vals1 r
  subst e1
  cases rx
  rcases hq with hq | hq
  · obtain ⟨its, r', pl, zl⟩ := I.list hq
    refine call_tuple_list pl.isList (fun h' kp => ?_) (by have := r'.length; simp only [List.size_toArray] <;> omega)
    have I1 : Inv X pi σ H { s with heap := h' } := I.kept (t' := s.toks) kp
    have nf : H h'.objs.size = none := I1.hok.fresh (Nat.le_refl _)
    exact ⟨.ref h'.objs.size, _, I1.laid (t' := s.toks) (o := .frz (tupOb its) (.tup ys)) (fun b o e => Heap.get?_push_of_some _ e) (Nat.le_refl _) (ok_tup (Heap.get?_push_size _ rfl) zl r'), rfl, q _ _ (same_new nf) Tn.new⟩
  · obtain ⟨its, r', pl, hz⟩ := I.tuple hq.sq
    exact call_tuple_same pl ⟨.ref p, H, I, rfl, q p H (Same.refl H) hq⟩
/-- t.index(x): the first place of a text -/
def rTIx (K : PySem.W.Frag) : V → List V → Hp → VK → Prop := fun x vs H Q => ∃ p, ∃ ys : List Str, ∃ z j, x = .ref p ∧ vs = [.str z] ∧ SqT K H p (ys.map V.str) ∧ ys[j]? = some z ∧ (∀ m, m < j → ys[m]? ≠ some z) ∧ Q (.int (j : Nat)) H
def tTIx (K : PySem.W.Frag) (to : TE) (t : TA) : TE := fun σ H Q => to σ H fun x H1 => (∃ a xs, x = V.ref a ∧ Tn H1 a xs) ∧ t σ H1 fun vs H2 => rTIx K x vs H2 Q
theorem pe_tindex {o e : Expr} {es : List Expr} {to : TE} {t : TA} {apos cpos : Pos} (ho : PE X o to) (ha : PA X (e :: es) t)
    (hbase : attributeBase o "index" X.env (eval o X.env) = eval o X.env := by rfl)
    (hfew : ((backTo cpos (starEach (e :: es) X.env)).all (fun x => !x.1) && (backToKw cpos (keywordEach [] X.env)).all (fun x => x.1.isSome) && decide ((e :: es).length + ([] : List Keyword).length + (if ([] : List Keyword).isEmpty then 0 else 1) < 30)) = true := by rfl)
    (hline : (apos.endLine == cpos.line) = true := by rfl) (hs : starEach (e :: es) X.env = (false, eval e X.env) :: starEach es X.env := by rfl) (hplain : (backTo cpos (starEach es X.env)).any (·.1) = false := by rfl) : PE X (.Call (.Attribute o "index" apos) (e :: es) [] cpos) (tTIx X.K to t) := by
  refine ⟨fun pi s σ H Q I h => wpAny_Call_method_late hbase hfew hline rfl (thn (ho.run pi s σ H _ I h) fun v s1 ⟨x, H1, I1, r1, ty, q1⟩ => ?_)⟩
  obtain ⟨a, xs, rfl, ob, hka, hd⟩ := ty
  cases r1
  obtain ⟨g1, _, its, _, p1⟩ := I1.hok a _ hka
  have ty1 : s1.TypeIs (.ref a) "tuple" := p1.typeIs
  refine ⟨"tuple", "tuple.index", F.plainAttrs_tuple, F.slot_tuple_index, F.type_tuple_index, ty1, (fun b z => by cases z; exact ⟨ob, g1, hd⟩), ?_⟩
  have hA := ha.run cpos pi s1 σ H1 _ I1 q1
  rw [hs] at hA ⊢
  refine Calls.callWith_builtin (by show (false || (backTo cpos (starEach es X.env)).any (·.1)) = false; rw [hplain]; rfl) (Calls.evalArgs_plain ?_)
  exact thn hA fun us s2 ⟨vs, H2, I2, r2, q2⟩ => mt_tup_index pi s2 σ H2 (.ref a) vs (.ref a) us Q I2 rfl r2 q2
def rLstOf (K : PySem.W.Frag) : List V → Hp → VK → Prop := fun vs H Q => ∃ p ys, vs = [.ref p] ∧ (SqL K H p ys ∨ SqT K H p ys) ∧ ∀ l H', Same H H' → H l = none → H' l = some (.lst ys) → Q (.ref l) H'
theorem call_listS : CallR X (.type "list") (rLstOf X.K) := by
  intro pi s σ H xs us Q I r ⟨p, ys, e0, hq, q⟩
  subst e0
  exact call_list_of pi s σ H _ us Q I r ⟨p, ys, rfl, hq, fun l nl => q l _ (same_new nl) nl upd_same⟩
/-! ### == over data -/
def strD (ss : List Str) : List PyData := ss.map PyData.str
def intD (ns : List Int) : List PyData := ns.map PyData.int
theorem dpAll_str {K : PySem.W.Frag} {H : Hp} : ∀ ss : List Str, DpAll K H (ss.map V.str) (strD ss)
  | [] => .nil
  | s :: ss => .cons (.str s) (dpAll_str ss)
theorem dpAll_int {K : PySem.W.Frag} {H : Hp} : ∀ ns : List Int, DpAll K H (ns.map V.int) (intD ns)
  | [] => .nil
  | n :: ns => .cons (.int n) (dpAll_int ns)
theorem eqvAll_str : ∀ ss ts : List Str, PyData.eqvAll (strD ss) (strD ts) = decide (ss = ts)
  | [], [] => rfl
  | [], _ :: _ => rfl
  | _ :: _, [] => rfl
  | s :: ss, t :: ts => by
    show (s == t && PyData.eqvAll (strD ss) (strD ts)) = _
    rw [eqvAll_str ss ts]
    by_cases h : s = t
    · subst h
      simp
    · simp [h]
theorem eqvAll_int : ∀ ss ts : List Int, PyData.eqvAll (intD ss) (intD ts) = decide (ss = ts)
  | [], [] => rfl
  | [], _ :: _ => rfl
  | _ :: _, [] => rfl
  | s :: ss, t :: ts => by
    show (s == t && PyData.eqvAll (intD ss) (intD ts)) = _
    rw [eqvAll_int ss ts]
    by_cases h : s = t
    · subst h
      simp
    · simp [h]
theorem lay_str : ∀ {ss : List Str}, (∀ z, z ∈ ss → PyData.strOk z = true) → PyData.canLayAll0 (strD ss) = true
  | [], _ => rfl
  | s :: ss, h => by
    show (PyData.strOk s && PyData.canLayAll0 (strD ss)) = true
    rw [h s List.mem_cons_self, lay_str fun z hz => h z (List.mem_cons_of_mem _ hz)]
    rfl
theorem lay_int : ∀ (ns : List Int), PyData.canLayAll0 (intD ns) = true
  | [] => rfl
  | n :: ns => by
    show (true && PyData.canLayAll0 (intD ns)) = true
    rw [lay_int ns]
    rfl
theorem depth_str : ∀ ss : List Str, PyData.depthAll (strD ss) ≤ 1
  | [] => by decide
  | s :: ss => by
    have := depth_str ss
    simp only [strD, List.map_cons, PyData.depthAll, PyData.depth] at this ⊢
    omega
theorem depth_int : ∀ ss : List Int, PyData.depthAll (intD ss) ≤ 1
  | [] => by decide
  | s :: ss => by
    have := depth_int ss
    simp only [intD, List.map_cons, PyData.depthAll, PyData.depth] at this ⊢
    omega
theorem shaped_tstr {ss : List Str} (h : ∀ z, z ∈ ss → PyData.strOk z = true) : SeqAt.shaped (.tuple (strD ss)) = true := by
  unfold SeqAt.shaped
  have := depth_str ss
  rw [show PyData.canLay0 (.tuple (strD ss)) = true from lay_str h, decide_eq_true (by simp only [PyData.depth]; omega)]
  rfl
theorem shaped_lstr {ss : List Str} (h : ∀ z, z ∈ ss → PyData.strOk z = true) : SeqAt.shaped (.list (strD ss)) = true := by
  unfold SeqAt.shaped
  have := depth_str ss
  rw [show PyData.canLay0 (.list (strD ss)) = true from lay_str h, decide_eq_true (by simp only [PyData.depth]; omega)]
  rfl
theorem shaped_lint (ns : List Int) : SeqAt.shaped (.list (intD ns)) = true := by
  unfold SeqAt.shaped
  have := depth_int ns
  rw [show PyData.canLay0 (.list (intD ns)) = true from lay_int ns, decide_eq_true (by simp only [PyData.depth]; omega)]
  rfl
/-- == of tuples of texts; of lists of ints; of lists of texts -/
def rEqTs (K : PySem.W.Frag) (neg : Bool) : R2 := fun x y H Q => ∃ (a b : Addr) (ss ts : List Str), x = .ref a ∧ y = .ref b ∧ SqT K H a (ss.map V.str) ∧ SqT K H b (ts.map V.str) ∧ (∀ z, z ∈ ss → PyData.strOk z = true) ∧ (∀ z, z ∈ ts → PyData.strOk z = true) ∧ Q (.bl (if neg then !decide (ss = ts) else decide (ss = ts))) H
def rEqLi (K : PySem.W.Frag) (neg : Bool) : R2 := fun x y H Q => ∃ (a b : Addr) (ss ts : List Int), x = .ref a ∧ y = .ref b ∧ SqL K H a (ss.map V.int) ∧ SqL K H b (ts.map V.int) ∧ Q (.bl (if neg then !decide (ss = ts) else decide (ss = ts))) H
def rEqLs (K : PySem.W.Frag) (neg : Bool) : R2 := fun x y H Q => ∃ (a b : Addr) (ss ts : List Str), x = .ref a ∧ y = .ref b ∧ SqL K H a (ss.map V.str) ∧ SqL K H b (ts.map V.str) ∧ (∀ z, z ∈ ss → PyData.strOk z = true) ∧ (∀ z, z ∈ ts → PyData.strOk z = true) ∧ Q (.bl (if neg then !decide (ss = ts) else decide (ss = ts))) H
theorem op_eqTs (hu : X.A.units + 64 < cLine) : OpR X (compareOp .Eq) (rEqTs X.K false) := by
  intro pi s σ H x y v u Q I rx ry h
  obtain ⟨a, b, ss, ts, rfl, rfl, ha, hb, h1, h2, q⟩ := h
  refine op_eqD hu pi s σ H _ _ v u Q I rx ry ⟨.tuple (strD ss), .tuple (strD ts), .tup ha (dpAll_str ss), .tup hb (dpAll_str ts), shaped_tstr h1, shaped_tstr h2, ?_⟩
  show Q (.bl (PyData.eqvAll (strD ss) (strD ts))) H
  rw [eqvAll_str]
  exact q
theorem op_neTs (hu : X.A.units + 64 < cLine) : OpR X (compareOp .NotEq) (rEqTs X.K true) := by
  intro pi s σ H x y v u Q I rx ry h
  obtain ⟨a, b, ss, ts, rfl, rfl, ha, hb, h1, h2, q⟩ := h
  refine op_neD hu pi s σ H _ _ v u Q I rx ry ⟨.tuple (strD ss), .tuple (strD ts), .tup ha (dpAll_str ss), .tup hb (dpAll_str ts), shaped_tstr h1, shaped_tstr h2, ?_⟩
  show Q (.bl (!PyData.eqvAll (strD ss) (strD ts))) H
  rw [eqvAll_str]
  exact q
theorem op_neLi (hu : X.A.units + 64 < cLine) : OpR X (compareOp .NotEq) (rEqLi X.K true) := by
  intro pi s σ H x y v u Q I rx ry h
  obtain ⟨a, b, ss, ts, rfl, rfl, ha, hb, q⟩ := h
  refine op_neD hu pi s σ H _ _ v u Q I rx ry ⟨.list (intD ss), .list (intD ts), .lst ha (dpAll_int ss), .lst hb (dpAll_int ts), shaped_lint ss, shaped_lint ts, ?_⟩
  show Q (.bl (!PyData.eqvAll (intD ss) (intD ts))) H
  rw [eqvAll_int]
  exact q
theorem op_eqLi (hu : X.A.units + 64 < cLine) : OpR X (compareOp .Eq) (rEqLi X.K false) := by
  intro pi s σ H x y v u Q I rx ry h
  obtain ⟨a, b, ss, ts, rfl, rfl, ha, hb, q⟩ := h
  refine op_eqD hu pi s σ H _ _ v u Q I rx ry ⟨.list (intD ss), .list (intD ts), .lst ha (dpAll_int ss), .lst hb (dpAll_int ts), shaped_lint ss, shaped_lint ts, ?_⟩
  show Q (.bl (PyData.eqvAll (intD ss) (intD ts))) H
  rw [eqvAll_int]
  exact q
theorem op_neLs (hu : X.A.units + 64 < cLine) : OpR X (compareOp .NotEq) (rEqLs X.K true) := by
  intro pi s σ H x y v u Q I rx ry h
  obtain ⟨a, b, ss, ts, rfl, rfl, ha, hb, h1, h2, q⟩ := h
  refine op_neD hu pi s σ H _ _ v u Q I rx ry ⟨.list (strD ss), .list (strD ts), .lst ha (dpAll_str ss), .lst hb (dpAll_str ts), shaped_lstr h1, shaped_lstr h2, ?_⟩
  show Q (.bl (!PyData.eqvAll (strD ss) (strD ts))) H
  rw [eqvAll_str]
  exact q
end
/-! ### cuts -/
theorem cut_to (xs : List V) (n : Nat) : cutV xs none (some (n : Int)) = xs.take n := by
  unfold cutV
  rw [HT.sIx_none, HT.sIx_nat]
  rw [List.drop_zero, Nat.sub_zero]
  by_cases h : n ≤ xs.length
  · rw [Nat.min_eq_left h]
  · rw [Nat.min_eq_right (by omega), List.take_of_length_le (Nat.le_refl xs.length), List.take_of_length_le (by omega)]
theorem cut_from (xs : List V) (n : Nat) : cutV xs (some (n : Int)) none = xs.drop n := by
  unfold cutV
  rw [HT.sIx_none, HT.sIx_nat]
  by_cases h : n ≤ xs.length
  · rw [Nat.min_eq_left h, List.take_of_length_le (by rw [List.length_drop]; omega)]
  · rw [Nat.min_eq_right (by omega), List.drop_eq_nil_of_le (Nat.le_refl _), List.drop_eq_nil_of_le (by omega), List.take_nil]
theorem cut_mid (xs : List V) (m n : Nat) (h : m ≤ xs.length) : cutV xs (some (m : Int)) (some (n : Int)) = (xs.drop m).take (n - m) := by
  unfold cutV
  rw [HT.sIx_nat, HT.sIx_nat, Nat.min_eq_left h]
  by_cases h2 : n ≤ xs.length
  · rw [Nat.min_eq_left h2]
  · rw [Nat.min_eq_right (by omega), List.take_of_length_le (by rw [List.length_drop]; omega), List.take_of_length_le (by rw [List.length_drop]; omega)]
end LS
namespace K2
open PySem PySem.Spec PyProof.Rows L2 LS
def topS (i : Nat) : Stmt := PySem.Challenge.pw_layersteps_k02_commands_applied.main.body.getD i (.Pass ⟨0, 0, 0, 0⟩)
abbrev sCell : Stmt := topS 6
abbrev sDigits : Stmt := topS 7
theorem scCell : FnScope ["script", "index"] ["script", "index"] (defScope sCell) := ⟨rfl, rfl, rfl, by decide +kernel, rfl, by decide +kernel, by decide +kernel⟩
theorem scDigits : FnScope ["script", "index", "count", "base", "primes", "cell", "rest", "digits", "k", "mixed"] ["script", "index", "count", "base"] (defScope sDigits) := ⟨rfl, rfl, rfl, by decide +kernel, rfl, by decide +kernel, by decide +kernel⟩
section
variable {K : PySem.W.Frag} {mg : Str → Option Value} {P : Program} {w : World} {base : Heap}
def spCell (K : PySem.W.Frag) : Sp := fun vs H Q _ => ∃ (a : Addr) (ns : List Int) (j : Nat), vs = [.ref a, .int (j : Int)] ∧ SqL K H a (ns.map V.int) ∧ ∀ c, Q (.int c) H
theorem ok_cell {f : Addr} {fd : FuncData} {k : Nat} (F : Fun K "_law_cell" "_law_cell" sCell f fd) (ml : mg "len" = none) : FnOk P w K mg base CX0 (k + 1) f fd ["script", "index"] (spCell K) := by
  refine F.ok scCell (fun vs H Q E h => ?_) (fun cdv A outer s H vs Q E hr h => ?_)
  · obtain ⟨a, ns, j, rfl, _⟩ := h
    rfl
  · obtain ⟨a, ns, j, rfl, hS, q⟩ := h
    refine ⟨_, pss_cons (ps_if (pt_cmpR op_lt (pv 1) (pe_callB call_len_seq (by rfl) ml PySem.boot_len (pa_cons (pv 0) pa_nil)) (nomark _)) (pss_one (ps_ret (pe_ix ix_list (pv 0) (pv 1) (fun _ _ => rfl)))) pss_nil)
      (pss_cons (ps_if (pt_cmpR op_eq (pe_callB call_len_seq (by rfl) ml PySem.boot_len (pa_cons (pv 0) pa_nil)) pe_int (nomark _)) (pss_one (ps_ret (pe_op op_add (pe_op op_mul pe_int (pv 1)) pe_int))) pss_nil)
      (pss_one (ps_ret (pe_op op_add (pe_op op_mod (pe_ix ix_list (pv 0) (pe_op op_mod (pv 1) (pe_callB call_len_seq (by rfl) ml PySem.boot_len (pa_cons (pv 0) pa_nil))) (fun _ _ => rfl)) pe_int) (pe_op op_mul pe_int (pv 1)))))), ?_⟩
    refine ⟨_, rfl, _, rfl, a, _, rfl, .inl hS, _, _, rfl, rfl, _, rfl, ite2 (fun e => ?_) (fun e => ?_)⟩
    · have e1 := of_decide_eq_true e
      have h1 : j < ns.length := by
        rw [List.length_map] at e1
        omega
      refine ⟨_, rfl, _, rfl, a, _, _, .int ns[j], rfl, rfl, hS, atI_nat (j := j) ?_, q _⟩
      rw [List.getElem?_map, List.getElem?_eq_getElem h1]
      rfl
    · refine ⟨_, rfl, a, _, rfl, .inl hS, rfl, _, rfl, ite2 (fun e2 => ?_) (fun e2 => ?_)⟩
      · exact ⟨_, rfl, _, _, rfl, rfl, .inl ⟨by decide, by decide⟩, _, _, rfl, rfl, q _⟩
      · have hn : 0 < (ns.map V.int).length := by
          rcases Nat.eq_zero_or_pos (ns.map V.int).length with z | z
          · exact absurd (decide_eq_true (by rw [z]; rfl)) e2
          · exact z
        have hm1 := Int.emod_nonneg (j : Int) (show (((ns.map V.int).length : Nat) : Int) ≠ 0 by omega)
        have hm2 := Int.emod_lt_of_pos (j : Int) (show 0 < (((ns.map V.int).length : Nat) : Int) by omega)
        have hm : ((j : Int) % (((ns.map V.int).length : Nat) : Int)).toNat < ns.length := by
          rw [List.length_map] at hm2 hm1 ⊢
          omega
        refine ⟨_, rfl, _, rfl, _, rfl, a, _, rfl, .inl hS, _, _, rfl, rfl, by omega, a, _, _, .int (ns[((j : Int) % (((ns.map V.int).length : Nat) : Int)).toNat]), rfl, rfl, hS, at_of (j := ((j : Int) % (((ns.map V.int).length : Nat) : Int)).toNat) (by omega) ?_, _, _, rfl, rfl, (by show (0 : Int) < 1000003; decide), _, rfl, _, _, rfl, rfl, .inl ⟨by decide, by decide⟩, _, _, rfl, rfl, q _⟩
        rw [List.getElem?_map, List.getElem?_eq_getElem hm]
        rfl
def primes : List Int := [2147483647, 2147483629, 2147483587, 2147483579, 2147483563, 2147483549, 2147483543, 2147483497]
theorem prime_at (z : Int) : ∃ q : Int, atI (primes.map V.int) (z % 8) = some (.int q) ∧ 0 < q ∧ q < 2147483648 := by
  have h0 := Int.emod_nonneg z (show (8 : Int) ≠ 0 by decide)
  have h1 := Int.emod_lt_of_pos z (show (0 : Int) < 8 by decide)
  obtain ⟨j, ej⟩ : ∃ j : Nat, z % 8 = (j : Int) := ⟨(z % 8).toNat, by omega⟩
  have hj : j < primes.length := by
    show j < 8
    omega
  refine ⟨primes[j], at_of ej ?_, ?_⟩
  · rw [List.getElem?_map, List.getElem?_eq_getElem hj]
    rfl
  · have all : ∀ q ∈ primes, 0 < q ∧ q < 2147483648 := by decide
    exact all _ (List.getElem_mem hj)
/-- a list of count ints from 0 to base - 1, new -/
def spDigits (K : PySem.W.Frag) : Sp := fun vs H Q _ => ∃ (a : Addr) (ns : List Int) (j n : Nat) (b : Int), vs = [.ref a, .int (j : Int), .int (n : Int), .int b] ∧ SqL K H a (ns.map V.int) ∧ j ≤ 1000 ∧ n ≤ 1000 ∧ 0 < b ∧ b < 1073741824 ∧
  ∀ (ds : List Int) p H', Same H H' → H p = none → H' p = some (.lst (ds.map V.int)) → ds.length = n → (∀ d, d ∈ ds → 0 ≤ d ∧ d < b) → Q (.ref p) H'
theorem ok_digits {f fC : Addr} {fd fdC : FuncData} {k : Nat} (F : Fun K "_law_digits" "_law_digits" sDigits f fd) (FC : Fun K "_law_cell" "_law_cell" sCell fC fdC) (bC : Binds K fdC ["script", "index"] []) (gC : mg "_law_cell" = some (.ref fC)) (ml : mg "len" = none) (mr : mg "range" = none) :
    FnOk P w K mg base CX0 (k + 2) f fd ["script", "index", "count", "base"] (spDigits K) := by
  have GC : FnOk P w K mg base CX0 (k + 1) fC fdC ["script", "index"] (spCell K) := ok_cell FC ml
  refine F.ok scDigits (fun vs H Q E h => ?_) (fun cdv A outer s H vs Q E hr h => ?_)
  · obtain ⟨a, ns, j, n, b, rfl, _⟩ := h
    rfl
  · obtain ⟨a, ns, j, n, b, rfl, hS, hj, hn, hb0, hb1, q⟩ := h
    have nd := scDigits.nd
    refine ⟨_, pss_cons (ps_set (i := 4) nd rfl (.inl rfl) (pe_tupS (pa_cons pe_int (pa_cons pe_int (pa_cons pe_int (pa_cons pe_int (pa_cons pe_int (pa_cons pe_int (pa_cons pe_int (pa_cons pe_int pa_nil))))))))))
      (pss_cons (ps_set (i := 5) nd rfl (.inl rfl) (pe_call GC hr (by rfl) gC FC.kp bC .nil pass0 (pa_cons (pv 0) (pa_cons (pv 1) pa_nil))))
      (pss_cons (ps_set (i := 6) nd rfl (.inl rfl) (pe_mono (pe_ifExp (pt_cmpR op_ge (pv 5) (pe_op op_pow pe_int pe_int) (nomark _)) (pv 5) pe_int)))
      (pss_cons (ps_set (i := 7) nd rfl (.inl rfl) (pe_lstS pa_nil))
      (pss_cons (ps_for PassesOwn.never rfl (pi_range1 (by rfl) mr (pa_cons (pv 2) pa_nil)) (pg_name (i := 8) nd rfl (.inl rfl))
        (pss_cons (ps_set (i := 9) nd rfl (.inl rfl) (pe_op op_mul (pe_op op_mod (pv 5) (pe_ix ix_tup (pv 4) (pe_op op_mod (pv 8) pe_int) (fun _ _ => rfl))) (pe_op op_add pe_int (pe_op op_mul (pe_op op_mul pe_int (pv 8)) (pv 8)))))
        (C8.pss_cut (ps_set (i := 9) nd rfl (.inl rfl) (pe_op op_add (pe_op op_add (pv 9) (pe_op op_mul (pe_op op_mul pe_int (pe_op op_add (pv 8) pe_int)) (pe_op op_add (pv 8) pe_int))) (pe_op op_mul pe_int (pv 1))))
        (C8.pss_cut (ps_set (i := 9) nd rfl (.inl rfl) (pe_op op_mod (pv 9) (pe_ix ix_tup (pv 4) (pe_op op_mod (pe_op op_add (pe_op op_mul pe_int (pv 8)) (pv 1)) pe_int) (fun _ _ => rfl))))
        (C8.pss_cut (ps_set (i := 9) nd rfl (.inl rfl) (pe_op op_mod (pe_op op_mul (pe_op op_mul (pv 9) (pv 9)) (pv 9)) (pe_ix ix_tup (pv 4) (pe_op op_mod (pe_op op_add (pv 8) pe_int) pe_int) (fun _ _ => rfl))))
        (C8.pss_cut (ps_if (pt_cmpR op_gt (pv 6) pe_int (nomark _)) (pss_one (ps_set (i := 9) nd rfl (.inl rfl) (pv 6))) pss_nil)
        (pss_cons (ps_expr (pe_bm PySem.F.plainAttrs_list PySem.F.slot_list_append PySem.F.type_list_append mt_append (pv 7) (pa_cons (pe_op op_mod (pv 9) (pv 3)) pa_nil)))
        (pss_one (ps_set (i := 6) nd rfl (.inl rfl) (pe_op op_fdiv (pv 6) (pv 3)))))))))))
      (pss_one (ps_ret (pv 7))))))), ?_⟩
    refine ⟨(by show 8 ≤ sizeLine; decide), fun t H1 s1 nt ht => ?_⟩
    refine ⟨_, rfl, _, rfl, a, ns, j, rfl, s1.seq hS, fun c => ?_⟩
    refine ⟨fun v H' => ∃ r : Int, v = .int r ∧ H1 = H', ⟨_, rfl, _, _, rfl, rfl, ⟨by decide, by decide, by decide⟩, _, _, rfl, rfl, _, rfl, ite2 (fun _ => ⟨_, rfl, c, rfl, rfl⟩) (fun _ => ⟨0, rfl, rfl⟩)⟩, ?_⟩
    rintro v H' ⟨r, rfl, rfl⟩
    refine ⟨Nat.zero_le _, fun o H2 s2 no ho => ?_⟩
    refine ⟨_, rfl, (n : Int), rfl, by omega, by omega, ?_⟩
    have ht2 : SqT K H2 t (primes.map V.int) := (ht.same s2).sq
    rw [show ((n : Int)).toNat = n by omega]
    refine for_range (n := n) (fun i σ H3 => ∃ (ds : List Int) (rs : Int) (y8 y9 : Option V), σ = [some (.ref a), some (.int (j : Int)), some (.int (n : Int)), some (.int b), some (.ref t), some (.int c), some (.int rs), some (.ref o), y8, y9] ∧ ds.length = i ∧ (∀ d, d ∈ ds → 0 ≤ d ∧ d < b) ∧ Same H1 H3 ∧ H3 o = some (.lst (ds.map V.int)))
      ⟨[], r, none, none, rfl, rfl, (fun d h => nomatch h), s2, ho⟩ ?_ ?_
    · rintro i σ H3 hi ⟨ds, rs, y8, y9, rfl, hl, hd, s3, ho3⟩
      have hT : SqT K H3 t (primes.map V.int) := (ht.same s3).sq
      obtain ⟨q1, g1, p1, l1⟩ := prime_at ((0 : Int) + (i : Int))
      obtain ⟨q2, g2, p2, l2⟩ := prime_at (3 * ((0 : Int) + (i : Int)) + (j : Int))
      obtain ⟨q3, g3, p3, l3⟩ := prime_at (((0 : Int) + (i : Int)) + 5)
      have m0 := Int.emod_nonneg c (show q1 ≠ 0 by omega)
      have m1 := Int.emod_lt_of_pos c p1
      refine ⟨_, rfl, _, rfl, _, rfl, _, _, rfl, rfl, (by show (0 : Int) < 8; decide), t, _, _, _, rfl, rfl, hT, g1, _, _, rfl, rfl, p1, _, rfl, _, _, rfl, rfl, .inl ⟨by decide, by decide⟩, _, rfl, _, _, rfl, rfl, .inr ⟨by omega, by omega⟩, _, _, rfl, rfl, _, _, rfl, rfl, .inl ⟨by omega, by omega⟩, ?_⟩
      let fr : Int → L2.St := fun m => [some (.ref a), some (.int (j : Int)), some (.int (n : Int)), some (.int b), some (.ref t), some (.int c), some (.int rs), some (.ref o), some (.int (0 + (i : Int))), some (.int m)]
      refine ⟨fun σ' H' => ∃ m : Int, σ' = fr m ∧ H3 = H', ⟨_, rfl, _, rfl, _, _, rfl, rfl, _, _, rfl, rfl, .inl ⟨by decide, by decide⟩, _, rfl, _, _, rfl, rfl, _, _, rfl, rfl, .inr ⟨by omega, by omega⟩, _, _, rfl, rfl, _, rfl, _, _, rfl, rfl, .inl ⟨by decide, by decide⟩, _, _, rfl, rfl, _, rfl, rfl⟩, ?_⟩
      rintro σ' H' ⟨m2, rfl, rfl⟩
      have n0 := Int.emod_nonneg m2 (show q2 ≠ 0 by omega)
      have n1 := Int.emod_lt_of_pos m2 p2
      refine ⟨fun σ' H' => ∃ m : Int, (0 ≤ m ∧ m < 2147483648) ∧ σ' = fr m ∧ H3 = H', ⟨_, rfl, _, rfl, _, rfl, _, _, rfl, rfl, .inl ⟨by decide, by decide⟩, _, rfl, _, _, rfl, rfl, _, _, rfl, rfl, (by show (0 : Int) < 8; decide), t, _, _, _, rfl, rfl, hT, g2, _, _, rfl, rfl, p2, m2 % q2, ⟨n0, by omega⟩, rfl, rfl⟩, ?_⟩
      rintro σ' H' ⟨m3, ⟨k0, k1⟩, rfl, rfl⟩
      refine ⟨fun σ' H' => ∃ m : Int, σ' = fr m ∧ H3 = H', ⟨_, rfl, _, rfl, _, _, rfl, rfl, .inl ⟨by omega, by omega⟩, _, rfl, _, _, rfl, rfl, .inr ⟨by omega, by omega⟩, _, rfl, _, rfl, _, _, rfl, rfl, _, _, rfl, rfl, (by show (0 : Int) < 8; decide), t, _, _, _, rfl, rfl, hT, g3, _, _, rfl, rfl, p3, _, rfl, rfl⟩, ?_⟩
      rintro σ' H' ⟨m4, rfl, rfl⟩
      refine ⟨fun σ' H' => ∃ m : Int, σ' = fr m ∧ H3 = H', ?_, ?_⟩
      · exact ⟨_, rfl, _, _, rfl, rfl, _, rfl, ite2 (fun _ => ⟨_, rfl, rs, rfl, rfl⟩) (fun _ => ⟨m4, rfl, rfl⟩)⟩
      · rintro σ' H' ⟨m5, rfl, rfl⟩
        have e0 := Int.emod_nonneg m5 (show b ≠ 0 by omega)
        have e1 := Int.emod_lt_of_pos m5 hb0
        refine ⟨_, rfl, .inl ⟨rfl, _, SqL.of ho3⟩, _, rfl, _, rfl, _, _, rfl, rfl, hb0, o, _, _, rfl, rfl, ho3, ?_, ?_⟩
        · rw [List.length_map]
          exact small1000 (by omega)
        · refine ⟨_, rfl, _, rfl, _, _, rfl, rfl, ⟨hb0, hb1⟩, ds ++ [m5 % b], rs / b, _, _, rfl, ?_, ?_, ?_, ?_⟩
          · rw [List.length_append]
            show ds.length + 1 = i + 1
            omega
          · intro d hm
            rcases List.mem_append.mp hm with z | z
            · exact hd d z
            · rw [show _ = _ from List.mem_singleton.mp z]
              exact ⟨e0, e1⟩
          · intro x y z
            rw [upd_ne (ne_of_none z no)]
            exact s3 _ _ z
          · rw [upd_same, List.map_append]
            rfl
    · rintro σ H3 ⟨ds, rs, y8, y9, rfl, hl, hd, s3, ho3⟩
      exact ⟨_, rfl, q ds o H3 (s1.trans s3) (s1.free no) ho3 hl hd⟩
end
end K2
namespace K2
open PySem PySem.Spec PyProof.Rows L2 LS
abbrev sNames : Stmt := topS 9
abbrev sMixed : Stmt := topS 10
abbrev sCommand : Stmt := topS 11
abbrev sScript : Stmt := topS 12
theorem scMixed : FnScope ["digits", "names", "order", "rest", "at"] ["digits", "names"] (defScope sMixed) := ⟨rfl, rfl, rfl, by decide +kernel, rfl, by decide +kernel, by decide +kernel⟩
section
variable {K : PySem.W.Frag} {mg : Str → Option Value} {P : Program} {w : World} {base : Heap}
abbrev StrsOk (ss : List Str) : Prop := ∀ z, z ∈ ss → PyData.strOk z = true
theorem take_drop_perm {α : Type} : ∀ (l : List α) (i : Nat) (h : i < l.length), List.Perm (l[i] :: (l.take i ++ l.drop (i + 1))) l
  | a :: l, 0, _ => List.Perm.refl _
  | a :: l, i + 1, h => by
    have h' : i < l.length := Nat.lt_of_succ_lt_succ h
    have ih := take_drop_perm l i h'
    show List.Perm (l[i] :: a :: (l.take i ++ l.drop (i + 1))) (a :: l)
    exact (List.Perm.swap a l[i] _).trans (ih.cons a)
/-- some order of the names -/
def spMixed (K : PySem.W.Frag) : Sp := fun vs H Q _ => ∃ (d n : Addr) (ds : List Int) (ss : List Str), vs = [.ref d, .ref n] ∧ SqL K H d (ds.map V.int) ∧ SqL K H n (ss.map V.str) ∧ StrsOk ss ∧ ss.length ≤ ds.length ∧ ss.length ≤ 100 ∧
  ∀ (os : List Str) p H', Same H H' → Tn H' p (os.map V.str) → os.Perm ss → Q (.ref p) H'
theorem ok_mixed {f : Addr} {fd : FuncData} {k : Nat} (F : Fun K "_law_mixed" "_law_mixed" sMixed f fd) (ml : mg "len" = none) (mi : mg "list" = none) : FnOk P w K mg base CX0 (k + 1) f fd ["digits", "names"] (spMixed K) := by
  refine F.ok scMixed (fun vs H Q E h => ?_) (fun cdv A outer s H vs Q E hr h => ?_)
  · obtain ⟨d, n, ds, ss, rfl, _⟩ := h
    rfl
  · obtain ⟨d, n, ds, ss, rfl, hD, hN, hok, hl, hl2, q⟩ := h
    have nd := scMixed.nd
    refine ⟨_, pss_cons (ps_par (i := 2) (j := 3) rfl nd rfl rfl (by decide) rfl rfl (pa_cons (pe_tupS pa_nil) (pa_cons (pe_callTy call_listS (by rfl) mi (by decide +kernel) (pa_cons (pv 1) pa_nil)) pa_nil)) rfl)
      (pss_cons (ps_while PassesOwn.never (pt_cmpR (op_neLs hr.units) (pv 3) (pe_lstS pa_nil) (nomark _))
        (pss_cons (ps_set (i := 4) nd rfl (.inl rfl) (pe_op op_mod (pe_ix ix_list (pv 0) (pe_callB call_len_seq (by rfl) ml PySem.boot_len (pa_cons (pv 2) pa_nil)) (fun _ _ => rfl)) (pe_callB call_len_seq (by rfl) ml PySem.boot_len (pa_cons (pv 3) pa_nil))))
        (pss_cons (ps_set (i := 2) nd rfl (.inl rfl) (pe_op op_catS (pv 2) (pe_tupS (pa_cons (pe_ix ix_list (pv 3) (pv 4) (fun _ _ => rfl)) pa_nil))))
        (pss_one (ps_set (i := 3) nd rfl (.inl rfl) (pe_op op_catLS (pe_slice sl_listS (pv 3) po_none (po_some (pv 4))) (pe_slice sl_listS (pv 3) (po_some (pe_op op_add (pv 4) pe_int)) po_none)))))))
      (pss_one (ps_ret (pv 2)))), ?_⟩
    refine ⟨Nat.zero_le _, fun t H1 s1 nt ht => ?_⟩
    refine ⟨_, rfl, n, _, rfl, .inl (s1.seq hN), fun l H2 s2 nl hl' => ?_⟩
    refine ⟨_, _, rfl, ?_⟩
    let W : Nat → L2.St → Hp → Prop := fun m σ H3 => ∃ (os rs : List Str) (o r : Addr) (y4 : Option V), σ = [some (.ref d), some (.ref n), some (.ref o), some (.ref r), y4] ∧ Same H H3 ∧ Tn H3 o (os.map V.str) ∧ H3 r = some (.lst (rs.map V.str)) ∧ (os ++ rs).Perm ss ∧ m = rs.length
    refine ⟨W, ⟨ss.length, [], ss, t, l, none, rfl, s1.trans s2, ht.same s2, hl', List.Perm.refl _, rfl⟩, ?_⟩
    rintro m σ H3 ⟨os, rs, o, r, y4, rfl, s3, ho, hr3, hp, rfl⟩
    have hlen : os.length + rs.length = ss.length := by
      rw [← List.length_append]
      exact hp.length_eq
    have okr : StrsOk rs := fun z hz => hok z (hp.mem_iff.mp (List.mem_append_right _ hz))
    refine ⟨_, rfl, Nat.zero_le _, fun e H4 s4 ne he => ?_⟩
    refine ⟨r, e, rs, [], rfl, rfl, SqL.of (s4 _ _ hr3), SqL.of he, okr, (fun z hz => nomatch hz), _, rfl, ite2 (fun c => ?_) (fun c => ?_)⟩
    · have hrs : rs ≠ [] := by
        intro z
        subst z
        exact absurd c (by decide)
      have hpos : 0 < rs.length := List.length_pos_iff.mpr hrs
      have hd4 : SqL K H4 d (ds.map V.int) := (s3.trans s4).seq hD
      have hor : os.length < ds.length := by omega
      have m0 := Int.emod_nonneg ds[os.length] (show ((rs.map V.str).length : Int) ≠ 0 by rw [List.length_map]; omega)
      have m1 := Int.emod_lt_of_pos ds[os.length] (show 0 < ((rs.map V.str).length : Int) by rw [List.length_map]; omega)
      obtain ⟨i, ei⟩ : ∃ i : Nat, ds[os.length] % ((rs.map V.str).length : Int) = (i : Int) := ⟨_, (Int.toNat_of_nonneg m0).symm⟩
      have hi : i < rs.length := by
        rw [List.length_map] at m1 ei
        omega
      refine ⟨fun σ' H' => ∃ m', m' < rs.length ∧ W m' σ' H', fun _ _ z => z, ?_⟩
      refine ⟨_, rfl, _, rfl, o, _, rfl, .inr (ho.same s4).sq, d, _, _, .int ds[os.length], rfl, rfl, hd4, at_of (j := os.length) (by rw [List.length_map]) ?_, _, rfl, r, _, rfl, .inl (SqL.of (s4 _ _ hr3)), _, _, rfl, rfl, (by show (0 : Int) < ((rs.map V.str).length : Int); rw [List.length_map]; omega), ?_⟩
      · rw [List.getElem?_map, List.getElem?_eq_getElem hor]
        rfl
      · have hr4 := s4 _ _ hr3
        have gi : (rs.map V.str)[i]? = some (.str rs[i]) := by
          rw [List.getElem?_map, List.getElem?_eq_getElem hi]
          rfl
        refine ⟨_, rfl, _, rfl, _, rfl, r, _, _, _, rfl, rfl, SqL.of hr4, at_of ei gi, (by show 1 ≤ sizeLine; decide), fun t2 H5 s5 nt2 ht2 => ?_⟩
        refine ⟨o, t2, _, _, rfl, rfl, (ho.same s4).same s5, ht2, ?_, fun o2 H6 s6 ho2 => ?_⟩
        · rw [List.length_map]
          show os.length + 1 ≤ sizeLine
          exact Nat.le_of_lt (small1000 (by omega))
        · have hr6 := s6 _ _ (s5 _ _ hr4)
          refine ⟨_, rfl, _, rfl, _, rfl, r, _, rfl, SqL.of hr6, fun l1 H7 s7 nl1 hl1 => ?_⟩
          have hr7 := s7 _ _ hr6
          refine ⟨_, rfl, _, rfl, _, _, rfl, rfl, _, rfl, r, _, rfl, SqL.of hr7, fun l2 H8 s8 nl2 hl2 => ?_⟩
          rw [ei, cut_to] at hl1
          rw [ei, show ((i : Int) + 1) = ((i + 1 : Nat) : Int) by omega, cut_from] at hl2
          refine ⟨l1, l2, _, _, rfl, rfl, s8 _ _ hl1, hl2, ?_, fun l3 H9 s9 nl3 hl3 => ?_⟩
          · rw [← List.length_append, List.length_append, List.length_take, List.length_drop, List.length_map]
            exact Nat.le_of_lt (small1000 (by omega))
          · refine ⟨rs.length - 1, by omega, os ++ [rs[i]], rs.take i ++ rs.drop (i + 1), o2, l3, _, rfl, ?_, ?_, ?_, ?_, ?_⟩
            · exact ((((((s3.trans s4).trans s5).trans s6).trans s7).trans s8).trans s9)
            · rw [List.map_append]
              exact ((ho2.same s7).same s8).same s9
            · rw [hl3, ← List.map_take, ← List.map_drop, ← List.map_append]
            · refine List.Perm.trans ?_ hp
              rw [List.append_assoc]
              exact (take_drop_perm rs i hi).append_left os
            · rw [List.length_append, List.length_take, List.length_drop]
              omega
    · have hrs : rs = [] := by
        cases rs with
        | nil => rfl
        | cons x y => exact absurd (by simp) c
      subst hrs
      rw [List.append_nil] at hp
      exact ⟨_, rfl, q os o H4 (s3.trans s4) (ho.same s4) hp⟩
end
end K2
namespace K2
open PySem PySem.Spec PyProof.Rows L2 LS
theorem scNames : FnScope ["digits", "count", "names", "start"] ["digits", "count"] (defScope sNames) := ⟨rfl, rfl, rfl, by decide +kernel, rfl, by decide +kernel, by decide +kernel⟩
theorem scCommand : FnScope ["digits", "order"] ["digits", "order"] (defScope sCommand) := ⟨rfl, rfl, rfl, by decide +kernel, rfl, by decide +kernel, by decide +kernel⟩
theorem scScript : FnScope ["digits", "order", "size", "k"] ["digits", "order", "size"] (defScope sScript) := ⟨rfl, rfl, rfl, by decide +kernel, rfl, by decide +kernel, by decide +kernel⟩
section
variable {K : PySem.W.Frag} {mg : Str → Option Value} {P : Program} {w : World} {base : Heap}
def tenNames : List Str := ["a", "b", "c", "dd", "e", "fig", "zz", "h", "back", "up"]
def fourWords : List Str := ["front", "back", "up", "down"]
theorem ten_ok : StrsOk tenNames := by
  intro z hz
  have all : ∀ z ∈ tenNames, PyData.strOk z = true := by decide +kernel
  exact all z hz
theorem ten_nd : tenNames.Nodup := by decide +kernel
/-- a list at a place that is told by % -/
theorem at_mod {xs : List V} {z : Int} {n : Nat} (hn : xs.length = n) (h0 : 0 < n) : ∃ j : Nat, z % (n : Int) = (j : Int) ∧ ∃ h : j < xs.length, atI xs (z % (n : Int)) = some xs[j] := by
  have m0 := Int.emod_nonneg z (show (n : Int) ≠ 0 by omega)
  have m1 := Int.emod_lt_of_pos z (show 0 < (n : Int) by omega)
  obtain ⟨j, ej⟩ : ∃ j : Nat, z % (n : Int) = (j : Int) := ⟨_, (Int.toNat_of_nonneg m0).symm⟩
  have hj : j < xs.length := by omega
  exact ⟨j, ej, hj, at_of ej (List.getElem?_eq_getElem hj)⟩
theorem rot_perm {α : Type} (l : List α) (i : Nat) : (l.drop i ++ l.take i).Perm l := by
  refine List.perm_append_comm.trans ?_
  rw [List.take_append_drop]
/-- n of the names, none twice -/
def spNames (K : PySem.W.Frag) : Sp := fun vs H Q _ => ∃ (d : Addr) (n : Nat) (ds : List Int), vs = [.ref d, .int (n : Int)] ∧ SqL K H d (ds.map V.int) ∧ 11 ≤ ds.length ∧ ds.length ≤ 1000 ∧ n ≤ 10 ∧
  ∀ (os : List Str) p H', Same H H' → Tn H' p (os.map V.str) → os.Nodup → os.length = n → (∀ z, z ∈ os → z ∈ tenNames) → Q (.ref p) H'
theorem ok_names {f fM : Addr} {fd fdM : FuncData} {k : Nat} (F : Fun K "_law_names" "_law_names" sNames f fd) (FM : Fun K "_law_mixed" "_law_mixed" sMixed fM fdM) (bM : Binds K fdM ["digits", "names"] []) (gM : mg "_law_mixed" = some (.ref fM)) (ml : mg "len" = none) (mi : mg "list" = none) :
    FnOk P w K mg base CX0 (k + 2) f fd ["digits", "count"] (spNames K) := by
  have GM : FnOk P w K mg base CX0 (k + 1) fM fdM ["digits", "names"] (spMixed K) := ok_mixed FM ml mi
  refine F.ok scNames (fun vs H Q E h => ?_) (fun cdv A outer s H vs Q E hr h => ?_)
  · obtain ⟨d, n, ds, rfl, _⟩ := h
    rfl
  · obtain ⟨d, n, ds, rfl, hD, hl, hl2, hn, q⟩ := h
    have nd := scNames.nd
    refine ⟨_, pss_cons (ps_set (i := 2) nd rfl (.inl rfl) (pe_lstS (pa_cons pe_str (pa_cons pe_str (pa_cons pe_str (pa_cons pe_str (pa_cons pe_str (pa_cons pe_str (pa_cons pe_str (pa_cons pe_str (pa_cons pe_str (pa_cons pe_str pa_nil))))))))))))
      (pss_cons (ps_set (i := 3) nd rfl (.inl rfl) (pe_op op_mod (pe_ix ix_list (pv 0) pe_int (fun _ _ => rfl)) pe_int))
      (pss_cons (ps_set (i := 2) nd rfl (.inl rfl) (pe_slice sl_listS (pe_op op_catLS (pe_slice sl_listS (pv 2) (po_some (pv 3)) po_none) (pe_slice sl_listS (pv 2) po_none (po_some (pv 3)))) po_none (po_some (pv 1))))
      (pss_one (ps_ret (pe_call GM hr (by rfl) gM FM.kp bM .nil pass0 (pa_cons (pe_slice sl_listS (pv 0) (po_some pe_int) po_none) (pa_cons (pv 2) pa_nil))))))), ?_⟩
    refine ⟨(by show 10 ≤ sizeLine; decide), fun a1 H1 s1 n1 h1 => ?_⟩
    replace h1 : H1 a1 = some (.lst (tenNames.map V.str)) := h1
    have g0 : (ds.map V.int)[0]? = some (.int (ds[0]'(by omega))) := by
      rw [List.getElem?_map, List.getElem?_eq_getElem (by omega)]
      rfl
    obtain ⟨i, ei⟩ : ∃ i : Nat, (ds[0]'(by omega)) % 10 = (i : Int) := ⟨_, (Int.toNat_of_nonneg (Int.emod_nonneg _ (show (10 : Int) ≠ 0 by decide))).symm⟩
    refine ⟨_, rfl, d, _, _, _, rfl, rfl, s1.seq hD, atI_nat (j := 0) g0, _, _, rfl, rfl, (by show (0 : Int) < 10; decide), ?_⟩
    refine ⟨_, rfl, _, rfl, _, rfl, a1, _, rfl, SqL.of h1, fun a2 H2 s2 n2 h2 => ?_⟩
    refine ⟨_, rfl, _, rfl, _, rfl, a1, _, rfl, SqL.of (s2 _ _ h1), fun a3 H3 s3 n3 h3 => ?_⟩
    rw [ei, cut_from] at h2
    rw [ei, cut_to] at h3
    refine ⟨a2, a3, _, _, rfl, rfl, s3 _ _ h2, h3, ?_, fun a4 H4 s4 n4 h4 => ?_⟩
    · rw [← List.length_append, List.length_append, List.length_take, List.length_drop, List.length_map]
      exact Nat.le_of_lt (small1000 (by show 10 - i + min i 10 ≤ 1000; omega))
    · rw [← List.map_take, ← List.map_drop, ← List.map_append] at h4
      refine ⟨_, rfl, _, rfl, a4, _, rfl, SqL.of h4, fun a5 H5 s5 n5 h5 => ?_⟩
      rw [cut_to, ← List.map_take] at h5
      have sA : Same H H5 := (((s1.trans s2).trans s3).trans s4).trans s5
      refine ⟨_, rfl, 1, rfl, d, _, rfl, sA.seq hD, fun a6 H6 s6 n6 h6 => ?_⟩
      rw [show (1 : Int) = ((1 : Nat) : Int) from rfl, cut_from, ← List.map_drop] at h6
      have pr := rot_perm tenNames i
      have ln : (tenNames.drop i ++ tenNames.take i).length = 10 := pr.length_eq
      refine ⟨_, rfl, a6, a5, ds.drop 1, _, rfl, SqL.of h6, SqL.of (s6 _ _ h5), ?_, ?_, ?_, fun os p H7 s7 hp hP => ?_⟩
      · exact fun z hz => ten_ok z (pr.mem_iff.mp (List.mem_of_mem_take hz))
      · rw [List.length_take, List.length_drop, ln]
        omega
      · rw [List.length_take, ln]
        omega
      · refine q os p H7 ((sA.trans s6).trans s7) hp ?_ ?_ fun z hz => ?_
        · exact hP.nodup_iff.mpr (((pr.nodup_iff.mpr ten_nd).sublist (List.take_sublist _ _)))
        · rw [hP.length_eq, List.length_take, ln]
          omega
        · exact pr.mem_iff.mp (List.mem_of_mem_take (hP.mem_iff.mp hz))
/-- a command of the order, new -/
def spCommand (K : PySem.W.Frag) : Sp := fun vs H Q _ => ∃ (d o : Addr) (ds : List Int) (os : List Str), vs = [.ref d, .ref o] ∧ SqL K H d (ds.map V.int) ∧ SqT K H o (os.map V.str) ∧ 2 ≤ ds.length ∧ os ≠ [] ∧
  ∀ (wd ly : Str) p H', Same H H' → H p = none → Tn H' p [.str wd, .str ly] → wd ∈ fourWords → ly ∈ os → Q (.ref p) H'
theorem ok_command {f : Addr} {fd : FuncData} {k : Nat} (F : Fun K "_law_command" "_law_command" sCommand f fd) (ml : mg "len" = none) : FnOk P w K mg base CX0 (k + 1) f fd ["digits", "order"] (spCommand K) := by
  refine F.ok scCommand (fun vs H Q E h => ?_) (fun cdv A outer s H vs Q E hr h => ?_)
  · obtain ⟨d, o, ds, os, rfl, _⟩ := h
    rfl
  · obtain ⟨d, o, ds, os, rfl, hD, hO, hl, hne, q⟩ := h
    refine ⟨_, pss_one (ps_ret (pe_tupS (pa_cons (pe_ix ix_list (pe_lstS (pa_cons pe_str (pa_cons pe_str (pa_cons pe_str (pa_cons pe_str pa_nil))))) (pe_op op_mod (pe_ix ix_list (pv 0) pe_int (fun _ _ => rfl)) pe_int) (fun _ _ => rfl))
      (pa_cons (pe_ix ix_tup (pv 1) (pe_op op_mod (pe_ix ix_list (pv 0) pe_int (fun _ _ => rfl)) (pe_callB call_len_seq (by rfl) ml PySem.boot_len (pa_cons (pv 1) pa_nil))) (fun _ _ => rfl)) pa_nil)))), ?_⟩
    have g0 : (ds.map V.int)[0]? = some (.int (ds[0]'(by omega))) := by
      rw [List.getElem?_map, List.getElem?_eq_getElem (by omega)]
      rfl
    have g1 : (ds.map V.int)[1]? = some (.int (ds[1]'(by omega))) := by
      rw [List.getElem?_map, List.getElem?_eq_getElem (by omega)]
      rfl
    refine ⟨(by show 4 ≤ sizeLine; decide), fun a1 H1 s1 n1 h1 => ?_⟩
    replace h1 : H1 a1 = some (.lst (fourWords.map V.str)) := h1
    obtain ⟨i, ei, hi, gi⟩ := at_mod (z := ds[0]'(by omega)) (show (fourWords.map V.str).length = 4 from rfl) (by decide)
    have hlo : 0 < os.length := List.length_pos_iff.mpr hne
    obtain ⟨j, ej, hj, gj⟩ := at_mod (xs := os.map V.str) (z := ds[1]'(by omega)) rfl (by rw [List.length_map]; exact hlo)
    refine ⟨_, rfl, d, _, _, _, rfl, rfl, s1.seq hD, atI_nat (j := 0) g0, _, _, rfl, rfl, (by show (0 : Int) < 4; decide), a1, _, _, _, rfl, rfl, SqL.of h1, gi, ?_⟩
    refine ⟨_, rfl, _, rfl, d, _, _, _, rfl, rfl, s1.seq hD, atI_nat (j := 1) g1, _, rfl, o, _, rfl, .inr (sameT s1 hO), _, _, rfl, rfl, ?_, o, _, _, _, rfl, rfl, sameT s1 hO, gj, (by show 2 ≤ sizeLine; decide), fun p H2 s2 np hp => ?_⟩
    · show (0 : Int) < ((os.map V.str).length : Int)
      rw [List.length_map]
      omega
    · refine q (fourWords[i]'(by rw [List.length_map] at hi; exact hi)) (os[j]'(by rw [List.length_map] at hj; exact hj)) p H2 (s1.trans s2) (s1.free np) ?_ (List.getElem_mem _) (List.getElem_mem _)
      rw [List.getElem_map, List.getElem_map] at hp
      exact hp
/-- the commands cs stand at the addresses as -/
def Cmds (H : Hp) : List Addr → List (Str × Str) → Prop
  | [], [] => True
  | a :: as, c :: cs => Tn H a [.str c.1, .str c.2] ∧ Cmds H as cs
  | _, _ => False
theorem Cmds.same {H H' : Hp} (e : Same H H') : ∀ {as : List Addr} {cs : List (Str × Str)}, Cmds H as cs → Cmds H' as cs
  | [], [], _ => trivial
  | _ :: _, _ :: _, h => ⟨h.1.same e, Cmds.same e h.2⟩
theorem Cmds.len {H : Hp} : ∀ {as : List Addr} {cs : List (Str × Str)}, Cmds H as cs → as.length = cs.length
  | [], [], _ => rfl
  | _ :: as, _ :: cs, h => by
    show as.length + 1 = cs.length + 1
    rw [Cmds.len h.2]
theorem Cmds.snoc {H : Hp} {a : Addr} {c : Str × Str} (hc : Tn H a [.str c.1, .str c.2]) : ∀ {as : List Addr} {cs : List (Str × Str)}, Cmds H as cs → Cmds H (as ++ [a]) (cs ++ [c])
  | [], [], _ => ⟨hc, trivial⟩
  | _ :: _, _ :: _, h => ⟨h.1, Cmds.snoc hc h.2⟩
theorem Cmds.get {H : Hp} : ∀ {as : List Addr} {cs : List (Str × Str)}, Cmds H as cs → ∀ {i : Nat} {c : Str × Str}, cs[i]? = some c → ∃ a, as[i]? = some a ∧ Tn H a [.str c.1, .str c.2]
  | [], [], _, i, c, h => by simp at h
  | a :: as, c :: cs, h, 0, x, e => by
    have e1 : c = x := Option.some.inj e
    subst e1
    exact ⟨a, rfl, h.1⟩
  | a :: as, c :: cs, h, i + 1, x, e => Cmds.get h.2 (i := i) e
/-- a write to a list leaves the tuples as they were -/
theorem tn_keep {H H' : Hp} {D : Addr} {zs : List V} (hD : H D = some (.lst zs)) (k : ∀ b x, b ≠ D → H b = some x → H' b = some x) {a : Addr} {xs : List V} (h : Tn H a xs) : Tn H' a xs := by
  obtain ⟨ob, e1, e2⟩ := h
  exact ⟨ob, k _ _ (ne_of e1 hD (by intro z; cases z)) e1, e2⟩
theorem Cmds.keep {H H' : Hp} {D : Addr} {zs : List V} (hD : H D = some (.lst zs)) (k : ∀ b x, b ≠ D → H b = some x → H' b = some x) : ∀ {as : List Addr} {cs : List (Str × Str)}, Cmds H as cs → Cmds H' as cs
  | [], [], _ => trivial
  | _ :: _, _ :: _, h => ⟨tn_keep hD k h.1, Cmds.keep hD k h.2⟩
/-- at p the script cs -/
def Scr (K : PySem.W.Frag) (H : Hp) (p : Addr) (cs : List (Str × Str)) : Prop := ∃ as : List Addr, SqT K H p (as.map V.ref) ∧ Cmds H as cs
theorem Scr.same {H H' : Hp} {p : Addr} {cs : List (Str × Str)} (h : Scr K H p cs) (e : Same H H') : Scr K H' p cs := by
  obtain ⟨as, h1, h2⟩ := h
  exact ⟨as, sameT e h1, h2.same e⟩
abbrev GoodCs (os : List Str) (cs : List (Str × Str)) : Prop := ∀ c, c ∈ cs → c.1 ∈ fourWords ∧ c.2 ∈ os
def spScript (K : PySem.W.Frag) : Sp := fun vs H Q _ => ∃ (d o : Addr) (n : Nat) (ds : List Int) (os : List Str), vs = [.ref d, .ref o, .int (n : Int)] ∧ SqL K H d (ds.map V.int) ∧ SqT K H o (os.map V.str) ∧ 1 + 2 * n ≤ ds.length ∧ n ≤ 100 ∧ os ≠ [] ∧
  ∀ (cs : List (Str × Str)) p H', Same H H' → Scr K H' p cs → cs.length ≤ n → GoodCs os cs → Q (.ref p) H'
theorem ok_script {f fC : Addr} {fd fdC : FuncData} {k : Nat} (F : Fun K "_law_script" "_law_script" sScript f fd) (FC : Fun K "_law_command" "_law_command" sCommand fC fdC) (bC : Binds K fdC ["digits", "order"] []) (gC : mg "_law_command" = some (.ref fC)) (ml : mg "len" = none) (mr : mg "range" = none) (mt : mg "tuple" = none) :
    FnOk P w K mg base CX0 (k + 2) f fd ["digits", "order", "size"] (spScript K) := by
  have GC : FnOk P w K mg base CX0 (k + 1) fC fdC ["digits", "order"] (spCommand K) := ok_command FC ml
  refine F.ok scScript (fun vs H Q E h => ?_) (fun cdv A outer s H vs Q E hr h => ?_)
  · obtain ⟨d, o, n, ds, os, rfl, _⟩ := h
    rfl
  · obtain ⟨d, o, n, ds, os, rfl, hD, hO, hl, hn, hne, q⟩ := h
    have nd := scScript.nd
    refine ⟨_, pss_one (ps_ret (pe_callTy call_tupleS (by rfl) mt (by decide +kernel) (pa_cons (pe_lc (own := [("k", 3)]) (g := gName 3) (tt := tYes) rfl nd (pi_range1 (by rfl) mr (pa_cons (pe_op op_mod (pe_ix ix_list (pv 0) pe_int (fun _ _ => rfl)) (pe_op op_add (pv 2) pe_int)) pa_nil)) (blkOk_by (N := ["digits", "order", "size", "k"]) (sc := defScope sScript) (by decide +kernel)) (fun _ _ _ _ _ => pg_name (i := 3) nd rfl (Or.inl rfl)) (fun _ _ _ _ _ => pts_nil)
      (fun _ _ _ _ _ => pe_call GC hr (by rfl) gC FC.kp bC .nil pass0 (pa_cons (pe_slice (r := rSlLS K) sl_listS (pv 0) (po_some (pe_op op_add pe_int (pe_op op_mul pe_int (pv 3)))) (po_some (pe_op op_add pe_int (pe_op op_mul pe_int (pv 3))))) (pa_cons (pv 1) pa_nil)))) pa_nil))), ?_⟩
    have g0 : (ds.map V.int)[0]? = some (.int (ds[0]'(by omega))) := by
      rw [List.getElem?_map, List.getElem?_eq_getElem (by omega)]
      rfl
    have m0 := Int.emod_nonneg (ds[0]'(by omega)) (show ((n : Int) + 1) ≠ 0 by omega)
    have m1 := Int.emod_lt_of_pos (ds[0]'(by omega)) (show 0 < ((n : Int) + 1) by omega)
    refine ⟨_, rfl, d, _, _, _, rfl, rfl, hD, atI_nat (j := 0) g0, _, rfl, _, _, rfl, rfl, _, _, rfl, rfl, (by show (0 : Int) < (n : Int) + 1; omega), _, rfl, by omega, by omega, fun D nD => ?_⟩
    obtain ⟨m, em⟩ : ∃ m : Nat, (ds[0]'(by omega)) % ((n : Int) + 1) = (m : Int) := ⟨_, (Int.toNat_of_nonneg m0).symm⟩
    rw [em] at m0 m1 ⊢
    rw [show ((m : Int)).toNat = m by omega]
    refine lc_range (fun i H3 => ∃ (as : List Addr) (cs : List (Str × Str)), Same H H3 ∧ H3 D = some (.lst (as.map V.ref)) ∧ Cmds H3 as cs ∧ cs.length = i ∧ GoodCs os cs)
      ⟨[], [], same_new nD, upd_same, trivial, rfl, fun c hc => nomatch hc⟩ ?_ ?_
    · rintro i H3 hi ⟨as, cs, s3, hD3, hC, hci, hg⟩
      refine ⟨rfl, ?_⟩
      unfold tYes
      dsimp only
      rw [if_pos rfl]
      refine ⟨_, rfl, _, rfl, _, _, rfl, rfl, .inl ⟨by decide, by decide⟩, _, _, rfl, rfl, _, rfl, _, rfl, _, _, rfl, rfl, .inl ⟨by decide, by decide⟩, _, _, rfl, rfl, _, rfl, d, _, rfl, s3.seq hD, fun a1 H4 s4 n4 h4 => ?_⟩
      rw [show (1 : Int) + 2 * (0 + (i : Int)) = ((1 + 2 * i : Nat) : Int) by omega, show (3 : Int) + 2 * (0 + (i : Int)) = ((3 + 2 * i : Nat) : Int) by omega, cut_mid _ _ _ (by rw [List.length_map]; omega), ← List.map_drop, ← List.map_take] at h4
      refine ⟨_, rfl, a1, o, _, os, rfl, SqL.of h4, sameT (s3.trans s4) hO, ?_, hne, fun wd ly p H5 s5 np hp hw hly => ?_⟩
      · rw [List.length_take, List.length_drop]
        omega
      · have hD5 := s5 _ _ (s4 _ _ hD3)
        refine ⟨_, hD5, ?_, ?_⟩
        · rw [List.length_map, hC.len]
          exact small1000 (by omega)
        · have s6 : Same H (upd H5 D (.lst (as.map V.ref ++ [.ref p]))) := fun b x z => by
            rw [upd_ne (ne_of_none z nD)]
            exact s5 _ _ (s4 _ _ (s3 _ _ z))
          have kp : ∀ b x, b ≠ D → H5 b = some x → (upd H5 D (.lst (as.map V.ref ++ [.ref p]))) b = some x := fun b x nb z => by
            rw [upd_ne nb]
            exact z
          refine ⟨as ++ [p], cs ++ [(wd, ly)], s6, ?_, ?_, ?_, ?_⟩
          · rw [upd_same, List.map_append]
            rfl
          · exact Cmds.snoc (tn_keep hD5 kp hp) (Cmds.keep hD5 kp (hC.same (s4.trans s5)))
          · rw [List.length_append, hci]
            rfl
          · intro c hc
            rcases List.mem_append.mp hc with z | z
            · exact hg c z
            · rw [show _ = _ from List.mem_singleton.mp z]
              exact ⟨hw, hly⟩
    · rintro H3 ⟨as, cs, s3, hD3, hC, hci, hg⟩
      refine ⟨D, _, rfl, .inl (SqL.of hD3), fun l H4 s4 hl4 => ?_⟩
      exact q cs l H4 (s3.trans s4) ⟨as, hl4.sq, hC.same s4⟩ (by omega) hg
end
end K2
namespace K2
open PySem PySem.Spec PyProof.Rows L2 LS
abbrev sNewIx : Stmt := topS 1
abbrev sAfter : Stmt := topS 2
abbrev sApply : Stmt := topS 3
abbrev sIdle : Stmt := topS 4
theorem scNewIx : FnScope ["word", "at", "last"] ["word", "at", "last"] (defScope sNewIx) := ⟨rfl, rfl, rfl, by decide +kernel, rfl, by decide +kernel, by decide +kernel⟩
theorem scAfter : FnScope ["order", "command", "word", "layer", "at", "others", "to"] ["order", "command"] (defScope sAfter) := ⟨rfl, rfl, rfl, by decide +kernel, rfl, by decide +kernel, by decide +kernel⟩
theorem scApply : FnScope ["order", "script", "current", "command"] ["order", "script"] (defScope sApply) := ⟨rfl, rfl, rfl, by decide +kernel, rfl, by decide +kernel, by decide +kernel⟩
theorem scIdle : FnScope ["order", "script", "found", "current", "at", "command", "following"] ["order", "script"] (defScope sIdle) := ⟨rfl, rfl, rfl, by decide +kernel, rfl, by decide +kernel, by decide +kernel⟩
/-! ### what a command does -/
def newIx (w : Str) (a last : Nat) : Nat := if w = "front" then 0 else if w = "back" then last else if w = "up" then a - 1 else min (a + 1) last
def idx (o : List Str) (l : Str) : Nat := o.findIdx fun x => decide (x = l)
theorem idx_lt {o : List Str} {l : Str} (h : l ∈ o) : idx o l < o.length := List.findIdx_lt_length_of_exists ⟨l, h, by simp⟩
theorem idx_at {o : List Str} {l : Str} (h : l ∈ o) : o[idx o l]? = some l := by
  have h1 := idx_lt h
  rw [List.getElem?_eq_getElem h1]
  have h2 : decide (o[idx o l] = l) = true := List.findIdx_getElem (w := h1)
  rw [of_decide_eq_true h2]
theorem idx_first {o : List Str} {l : Str} (m : Nat) (h : m < idx o l) : o[m]? ≠ some l := by
  intro e
  obtain ⟨h1, h2⟩ := List.getElem?_eq_some_iff.mp e
  have := List.not_of_lt_findIdx h
  rw [h2] at this
  simp at this
def outOf (o : List Str) (l : Str) : List Str := o.take (idx o l) ++ o.drop (idx o l + 1)
def putAt (r : List Str) (l : Str) (t : Nat) : List Str := r.take t ++ [l] ++ r.drop t
def moved (o : List Str) (c : Str × Str) : List Str := putAt (outOf o c.2) c.2 (newIx c.1 (idx o c.2) (outOf o c.2).length)
theorem out_perm {o : List Str} {l : Str} (h : l ∈ o) : (l :: outOf o l).Perm o := by
  have h1 := idx_lt h
  have h2 : o[idx o l] = l := by
    have := idx_at h
    rw [List.getElem?_eq_getElem h1] at this
    exact Option.some.inj this
  have := take_drop_perm o (idx o l) h1
  rw [h2] at this
  exact this
theorem put_perm (r : List Str) (l : Str) (t : Nat) : (putAt r l t).Perm (l :: r) := by
  unfold putAt
  rw [List.append_assoc]
  refine (List.perm_middle (l₁ := r.take t) (l₂ := r.drop t) (a := l)).trans ?_
  rw [List.take_append_drop]
theorem moved_perm {o : List Str} {c : Str × Str} (h : c.2 ∈ o) : (moved o c).Perm o := (put_perm _ _ _).trans (out_perm h)
theorem out_len {o : List Str} {l : Str} (h : l ∈ o) : (outOf o l).length + 1 = o.length := (out_perm h).length_eq
/-- the order after the first i commands -/
def runTo (o : List Str) (cs : List (Str × Str)) (i : Nat) : List Str := (cs.take i).foldl moved o
theorem run_succ {o : List Str} {cs : List (Str × Str)} {i : Nat} {c : Str × Str} (h : cs[i]? = some c) : runTo o cs (i + 1) = moved (runTo o cs i) c := by
  unfold runTo
  rw [List.take_add_one, List.foldl_append, h]
  rfl
theorem run_perm {o : List Str} {cs : List (Str × Str)} (h : ∀ c, c ∈ cs → c.2 ∈ o) : ∀ i, (runTo o cs i).Perm o
  | 0 => List.Perm.refl _
  | i + 1 => by
    by_cases hi : i < cs.length
    · have e : cs[i]? = some cs[i] := List.getElem?_eq_getElem hi
      rw [run_succ e]
      have ih := run_perm h i
      exact (moved_perm (ih.mem_iff.mpr (h _ (List.getElem_mem hi)))).trans ih
    · have e : runTo o cs (i + 1) = runTo o cs i := by
        unfold runTo
        rw [List.take_of_length_le (by omega), List.take_of_length_le (by omega)]
      rw [e]
      exact run_perm h i
/-- the places of the first i commands that change nothing -/
def idl (o : List Str) (cs : List (Str × Str)) : Nat → List Int
  | 0 => []
  | i + 1 => idl o cs i ++ if runTo o cs (i + 1) = runTo o cs i then [(i : Int)] else []
theorem idl_len (o : List Str) (cs : List (Str × Str)) : ∀ i, (idl o cs i).length ≤ i
  | 0 => Nat.le_refl _
  | i + 1 => by
    have := idl_len o cs i
    unfold idl
    rw [List.length_append]
    split
    · show (idl o cs i).length + 1 ≤ i + 1
      omega
    · show (idl o cs i).length + 0 ≤ i + 1
      omega
section
variable {K : PySem.W.Frag} {mg : Str → Option Value} {P : Program} {w : World} {base : Heap}
def spNewIx : Sp := fun vs H Q _ => ∃ (wd : Str) (a l : Nat), vs = [.str wd, .int (a : Int), .int (l : Int)] ∧ Q (.int (newIx wd a l : Int)) H
theorem ok_newIx {f : Addr} {fd : FuncData} {k : Nat} (F : Fun K "new_index" "new_index" sNewIx f fd) (mM : mg "max" = none) (mm : mg "min" = none) : FnOk P w K mg base CX0 (k + 1) f fd ["word", "at", "last"] spNewIx := by
  refine F.ok scNewIx (fun vs H Q E h => ?_) (fun cdv A outer s H vs Q E hr h => ?_)
  · obtain ⟨wd, a, l, rfl, _⟩ := h
    rfl
  · obtain ⟨wd, a, l, rfl, q⟩ := h
    refine ⟨_, pss_cons (ps_if (pt_cmpR op_eq (pv 0) pe_str (nomark _)) (pss_one (ps_ret pe_int)) pss_nil)
      (pss_cons (ps_if (pt_cmpR op_eq (pv 0) pe_str (nomark _)) (pss_one (ps_ret (pv 2))) pss_nil)
      (pss_cons (ps_if (pt_cmpR op_eq (pv 0) pe_str (nomark _)) (pss_one (ps_ret (pe_callB (call_max2 rfl) (by rfl) mM boot_max (pa_cons (pe_op op_sub (pv 1) pe_int) (pa_cons pe_int pa_nil))))) pss_nil)
      (pss_one (ps_ret (pe_callB (call_min2 rfl) (by rfl) mm boot_min (pa_cons (pe_op op_add (pv 1) pe_int) (pa_cons (pv 2) pa_nil))))))), ?_⟩
    unfold newIx at q
    refine ⟨_, rfl, rfl, _, rfl, ite2 (fun e => ?_) (fun e => ?_)⟩
    · rw [if_pos (V.str.inj (of_decide_eq_true e))] at q
      exact q
    · rw [if_neg (fun z => e (decide_eq_true (congrArg V.str z)))] at q
      refine ⟨_, rfl, rfl, _, rfl, ite2 (fun e2 => ?_) (fun e2 => ?_)⟩
      · rw [if_pos (V.str.inj (of_decide_eq_true e2))] at q
        exact ⟨_, rfl, q⟩
      · rw [if_neg (fun z => e2 (decide_eq_true (congrArg V.str z)))] at q
        refine ⟨_, rfl, rfl, _, rfl, ite2 (fun e3 => ?_) (fun e3 => ?_)⟩
        · rw [if_pos (V.str.inj (of_decide_eq_true e3))] at q
          refine ⟨_, rfl, _, _, rfl, rfl, _, _, rfl, ?_⟩
          have e4 : (if (0 : Int) > (a : Int) - 1 then (0 : Int) else (a : Int) - 1) = ((a - 1 : Nat) : Int) := by
            split <;> omega
          rw [e4]
          exact q
        · rw [if_neg (fun z => e3 (decide_eq_true (congrArg V.str z)))] at q
          refine ⟨_, rfl, _, _, rfl, rfl, _, rfl, _, _, rfl, ?_⟩
          have e4 : (if (l : Int) < (a : Int) + 1 then (l : Int) else (a : Int) + 1) = ((min (a + 1) l : Nat) : Int) := by
            split <;> omega
          rw [e4]
          exact q
def spAfter (K : PySem.W.Frag) : Sp := fun vs H Q _ => ∃ (o c : Addr) (os : List Str) (wd ly : Str), vs = [.ref o, .ref c] ∧ Tn H o (os.map V.str) ∧ SqT K H c [.str wd, .str ly] ∧ ly ∈ os ∧ os.length ≤ 1000 ∧
  ∀ p H', Same H H' → Tn H' p ((moved os (wd, ly)).map V.str) → Q (.ref p) H'
theorem ok_after {f fN : Addr} {fd fdN : FuncData} {k : Nat} (F : Fun K "after_command" "after_command" sAfter f fd) (FN : Fun K "new_index" "new_index" sNewIx fN fdN) (bN : Binds K fdN ["word", "at", "last"] []) (gN : mg "new_index" = some (.ref fN)) (ml : mg "len" = none) (mM : mg "max" = none) (mm : mg "min" = none) :
    FnOk P w K mg base CX0 (k + 2) f fd ["order", "command"] (spAfter K) := by
  have GN : FnOk P w K mg base CX0 (k + 1) fN fdN ["word", "at", "last"] spNewIx := ok_newIx FN mM mm
  refine F.ok scAfter (fun vs H Q E h => ?_) (fun cdv A outer s H vs Q E hr h => ?_)
  · obtain ⟨o, c, os, wd, ly, rfl, _⟩ := h
    rfl
  · obtain ⟨o, c, os, wd, ly, rfl, hO, hC, hm, hl, q⟩ := h
    have nd := scAfter.nd
    refine ⟨_, pss_cons (ps_asg (pv 1) (pg_tup rfl (pgs_cons (pg_name (i := 2) nd rfl (.inl rfl)) (pgs_cons (pg_name (i := 3) nd rfl (.inl rfl)) pgs_nil))))
      (pss_cons (ps_set (i := 4) nd rfl (.inl rfl) (pe_tindex (pv 0) (pa_cons (pv 3) pa_nil)))
      (pss_cons (ps_set (i := 5) nd rfl (.inl rfl) (pe_op op_catS (pe_slice sl_tupS (pv 0) po_none (po_some (pv 4))) (pe_slice sl_tupS (pv 0) (po_some (pe_op op_add (pv 4) pe_int)) po_none)))
      (pss_cons (ps_set (i := 6) nd rfl (.inl rfl) (pe_call GN hr (by rfl) gN FN.kp bN .nil pass0 (pa_cons (pv 2) (pa_cons (pv 4) (pa_cons (pe_callB call_len_seq (by rfl) ml PySem.boot_len (pa_cons (pv 5) pa_nil)) pa_nil)))))
      (pss_one (ps_ret (pe_op op_catS (pe_op op_catS (pe_slice sl_tupS (pv 5) po_none (po_some (pv 6))) (pe_tupS (pa_cons (pv 3) pa_nil))) (pe_slice sl_tupS (pv 5) (po_some (pv 6)) po_none))))))), ?_⟩
    refine ⟨_, rfl, c, _, rfl, hC, rfl, _, _, rfl, _, _, rfl, rfl, ?_⟩
    refine ⟨_, rfl, ⟨o, _, rfl, hO⟩, _, rfl, o, os, ly, idx os ly, rfl, rfl, hO.sq, idx_at hm, fun m h => idx_first m h, ?_⟩
    refine ⟨_, rfl, _, rfl, _, rfl, o, _, rfl, hO, fun a1 H1 s1 h1 => ?_⟩
    refine ⟨_, rfl, _, rfl, _, _, rfl, rfl, _, rfl, o, _, rfl, hO.same s1, fun a2 H2 s2 h2 => ?_⟩
    rw [cut_to] at h1
    rw [show ((idx os ly : Nat) : Int) + 1 = ((idx os ly + 1 : Nat) : Int) by omega, cut_from] at h2
    have ho := out_len hm
    refine ⟨a1, a2, _, _, rfl, rfl, h1.same s2, h2, ?_, fun a3 H3 s3 h3 => ?_⟩
    · rw [← List.length_append, ← List.map_take, ← List.map_drop, ← List.map_append, List.length_map]
      exact Nat.le_of_lt (small1000 (show (outOf os ly).length ≤ 1000 by omega))
    · rw [← List.map_take, ← List.map_drop, ← List.map_append] at h3
      replace h3 : Tn H3 a3 ((outOf os ly).map V.str) := h3
      refine ⟨_, rfl, _, rfl, _, rfl, a3, _, rfl, .inr h3.sq, wd, idx os ly, ((outOf os ly).map V.str).length, rfl, ?_⟩
      rw [List.length_map]
      generalize et : newIx wd (idx os ly) (outOf os ly).length = t
      refine ⟨_, rfl, _, rfl, _, rfl, a3, _, rfl, h3, fun a4 H4 s4 h4 => ?_⟩
      refine ⟨_, rfl, (by show 1 ≤ sizeLine; decide), fun a5 H5 s5 n5 h5 => ?_⟩
      rw [cut_to] at h4
      refine ⟨a4, a5, _, _, rfl, rfl, h4.same s5, h5, ?_, fun a6 H6 s6 h6 => ?_⟩
      · rw [List.length_take, List.length_map]
        exact Nat.le_of_lt (small1000 (show min t (outOf os ly).length + 1 ≤ 1000 by omega))
      · refine ⟨_, rfl, _, rfl, _, rfl, a3, _, rfl, ((h3.same s4).same s5).same s6, fun a7 H7 s7 h7 => ?_⟩
        rw [cut_from] at h7
        refine ⟨a6, a7, _, _, rfl, rfl, h6.same s7, h7, ?_, fun a8 H8 s8 h8 => ?_⟩
        · rw [List.length_append, List.length_take, List.length_map, List.length_drop, List.length_map]
          exact Nat.le_of_lt (small1000 (show min t (outOf os ly).length + 1 + ((outOf os ly).length - t) ≤ 1000 by omega))
        · refine q a8 H8 (((((((s1.trans s2).trans s3).trans s4).trans s5).trans s6).trans s7).trans s8) ?_
          have e : (moved os (wd, ly)).map V.str = ((outOf os ly).map V.str).take t ++ [V.str ly] ++ ((outOf os ly).map V.str).drop t := by
            show (putAt (outOf os ly) ly (newIx wd (idx os ly) (outOf os ly).length)).map V.str = _
            rw [et]
            unfold putAt
            rw [List.map_append, List.map_append, List.map_take, List.map_drop]
            rfl
          rw [e]
          exact h8
end
end K2
namespace K2
open PySem PySem.Spec PyProof.Rows L2 LS
section
variable {K : PySem.W.Frag} {mg : Str → Option Value} {P : Program} {w : World} {base : Heap}
theorem idl_yes {o : List Str} {cs : List (Str × Str)} {i : Nat} (h : runTo o cs (i + 1) = runTo o cs i) : idl o cs (i + 1) = idl o cs i ++ [(i : Int)] := by
  show idl o cs i ++ (if runTo o cs (i + 1) = runTo o cs i then [(i : Int)] else []) = _
  rw [if_pos h]
theorem idl_no {o : List Str} {cs : List (Str × Str)} {i : Nat} (h : ¬ runTo o cs (i + 1) = runTo o cs i) : idl o cs (i + 1) = idl o cs i := by
  show idl o cs i ++ (if runTo o cs (i + 1) = runTo o cs i then [(i : Int)] else []) = _
  rw [if_neg h, List.append_nil]
/-- after_command, where it stands -/
structure AfterAt (K : PySem.W.Frag) (mg : Str → Option Value) (fA : Addr) (fdA : FuncData) (fN : Addr) (fdN : FuncData) : Prop where
  FA : Fun K "after_command" "after_command" sAfter fA fdA
  FN : Fun K "new_index" "new_index" sNewIx fN fdN
  bA : Binds K fdA ["order", "command"] []
  bN : Binds K fdN ["word", "at", "last"] []
  gA : mg "after_command" = some (.ref fA)
  gN : mg "new_index" = some (.ref fN)
  ml : mg "len" = none
  mM : mg "max" = none
  mm : mg "min" = none
theorem AfterAt.ok {fA fN : Addr} {fdA fdN : FuncData} {k : Nat} (T : AfterAt K mg fA fdA fN fdN) : FnOk P w K mg base CX0 (k + 2) fA fdA ["order", "command"] (spAfter K) := ok_after T.FA T.FN T.bN T.gN T.ml T.mM T.mm
def spApply (K : PySem.W.Frag) : Sp := fun vs H Q _ => ∃ (o p : Addr) (os : List Str) (cs : List (Str × Str)), vs = [.ref o, .ref p] ∧ Tn H o (os.map V.str) ∧ Scr K H p cs ∧ (∀ c, c ∈ cs → c.2 ∈ os) ∧ os.length ≤ 1000 ∧
  ∀ r H', Same H H' → Tn H' r ((runTo os cs cs.length).map V.str) → Q (.ref r) H'
theorem ok_apply {f fA fN : Addr} {fd fdA fdN : FuncData} {k : Nat} (F : Fun K "apply" "apply" sApply f fd) (T : AfterAt K mg fA fdA fN fdN) : FnOk P w K mg base CX0 (k + 3) f fd ["order", "script"] (spApply K) := by
  have GA : FnOk P w K mg base CX0 (k + 2) fA fdA ["order", "command"] (spAfter K) := T.ok
  refine F.ok scApply (fun vs H Q E h => ?_) (fun cdv A outer s H vs Q E hr h => ?_)
  · obtain ⟨o, p, os, cs, rfl, _⟩ := h
    rfl
  · obtain ⟨o, p, os, cs, rfl, hO, hP, hg, hl, q⟩ := h
    have nd := scApply.nd
    obtain ⟨as, hS, hC⟩ := id hP
    refine ⟨_, pss_cons (ps_set (i := 2) nd rfl (.inl rfl) (pv 0))
      (pss_cons (ps_for PassesOwn.never rfl (pi_tup (pv 1)) (pg_name (i := 3) nd rfl (.inl rfl)) (pss_one (ps_set (i := 2) nd rfl (.inl rfl) (pe_call GA hr (by rfl) T.gA T.FA.kp T.bA .nil pass0 (pa_cons (pv 2) (pa_cons (pv 3) pa_nil))))))
      (pss_one (ps_ret (pv 2)))), ?_⟩
    refine ⟨_, rfl, _, rfl, p, rfl, ⟨_, hS⟩, ?_⟩
    refine for_it (walk_tup (xs := as.map V.ref)) (fun i σ H3 => ∃ (c : Addr) (y : Option V), σ = [some (.ref o), some (.ref p), some (.ref c), y] ∧ Same H H3 ∧ Tn H3 c ((runTo os cs i).map V.str)) ⟨o, none, rfl, Same.refl H, hO⟩ (fun i σ H3 _ ⟨_, _, _, s3, _⟩ => sameT s3 hS) ?_ ?_
    · rintro i x σ H3 H' hi ⟨c, y, rfl, s3, hc⟩ ⟨rfl, hx⟩
      rw [List.length_map, hC.len] at hi
      have e : cs[i]? = some cs[i] := List.getElem?_eq_getElem hi
      obtain ⟨a, ea, ha⟩ := hC.get e
      have ex : x = .ref a := by
        rw [List.getElem?_map, ea] at hx
        exact (Option.some.inj hx).symm
      subst ex
      have pm := run_perm hg i
      refine ⟨_, rfl, _, rfl, c, a, runTo os cs i, cs[i].1, cs[i].2, rfl, hc, (ha.same s3).sq, pm.mem_iff.mpr (hg _ (List.getElem_mem hi)), by rw [pm.length_eq]; exact hl, fun r H4 s4 h4 => ?_⟩
      refine ⟨r, _, rfl, s3.trans s4, ?_⟩
      rw [run_succ e]
      exact h4
    · rintro σ H3 ⟨c, y, rfl, s3, hc⟩
      rw [List.length_map, hC.len] at hc
      exact ⟨_, rfl, q c H3 s3 hc⟩
def spIdle (K : PySem.W.Frag) : Sp := fun vs H Q _ => ∃ (o p : Addr) (os : List Str) (cs : List (Str × Str)), vs = [.ref o, .ref p] ∧ Tn H o (os.map V.str) ∧ Scr K H p cs ∧ (∀ c, c ∈ cs → c.2 ∈ os) ∧ os.length ≤ 1000 ∧ cs.length ≤ 900 ∧ StrsOk os ∧
  ∀ r H', Same H H' → H r = none → H' r = some (.lst ((idl os cs cs.length).map V.int)) → Q (.ref r) H'
theorem ok_idle {f fA fN : Addr} {fd fdA fdN : FuncData} {k : Nat} (F : Fun K "idle" "idle" sIdle f fd) (T : AfterAt K mg fA fdA fN fdN) (me : mg "enumerate" = none) : FnOk P w K mg base CX0 (k + 3) f fd ["order", "script"] (spIdle K) := by
  have GA : FnOk P w K mg base CX0 (k + 2) fA fdA ["order", "command"] (spAfter K) := T.ok
  refine F.ok scIdle (fun vs H Q E h => ?_) (fun cdv A outer s H vs Q E hr h => ?_)
  · obtain ⟨o, p, os, cs, rfl, _⟩ := h
    rfl
  · obtain ⟨o, p, os, cs, rfl, hO, hP, hg, hl, hcl, hok, q⟩ := h
    have nd := scIdle.nd
    obtain ⟨as, hS, hC⟩ := id hP
    refine ⟨_, pss_cons (ps_set (i := 2) nd rfl (.inl rfl) (pe_lstS pa_nil))
      (pss_cons (ps_set (i := 3) nd rfl (.inl rfl) (pv 0))
      (pss_cons (ps_for PassesOwn.never rfl (pi_enumT (by rfl) me (pa_cons (pv 1) pa_nil)) (pg_tup rfl (pgs_cons (pg_name (i := 4) nd rfl (.inl rfl)) (pgs_cons (pg_name (i := 5) nd rfl (.inl rfl)) pgs_nil)))
        (pss_cons (ps_set (i := 6) nd rfl (.inl rfl) (pe_call GA hr (by rfl) T.gA T.FA.kp T.bA .nil pass0 (pa_cons (pv 3) (pa_cons (pv 5) pa_nil))))
        (C8.pss_cut (ps_if (pt_cmpR (op_eqTs hr.units) (pv 6) (pv 3) (nomark _)) (pss_one (ps_expr (pe_bm PySem.F.plainAttrs_list PySem.F.slot_list_append PySem.F.type_list_append mt_append (pv 2) (pa_cons (pv 4) pa_nil)))) pss_nil)
        (pss_one (ps_set (i := 3) nd rfl (.inl rfl) (pv 6))))))
      (pss_one (ps_ret (pv 2))))), ?_⟩
    refine ⟨Nat.zero_le _, fun l H1 s1 nl h1 => ?_⟩
    refine ⟨_, rfl, _, rfl, p, _, rfl, sameT s1 hS, ?_⟩
    refine for_it (walk_enumT (xs := as.map V.ref)) (fun i σ H3 => ∃ (c : Addr) (y4 y5 y6 : Option V), σ = [some (.ref o), some (.ref p), some (.ref l), some (.ref c), y4, y5, y6] ∧ Same H H3 ∧ Tn H3 c ((runTo os cs i).map V.str) ∧ H3 l = some (.lst ((idl os cs i).map V.int))) ⟨o, none, none, none, rfl, s1, hO.same s1, h1⟩ (fun i σ H3 _ ⟨_, _, _, _, _, s3, _⟩ => sameT s3 hS) ?_ ?_
    · rintro i x σ H3 H' hi ⟨c, y4, y5, y6, rfl, s3, hc, hl3⟩ ⟨T', x1, x2, rfl, nT, rfl, e1, e2⟩
      rw [List.length_map, hC.len] at hi
      have e : cs[i]? = some cs[i] := List.getElem?_eq_getElem hi
      obtain ⟨a, ea, ha⟩ := hC.get e
      have ex : x2 = .ref a := by
        dsimp only at e2
        rw [List.getElem?_map, ea] at e2
        exact (Option.some.inj e2).symm
      subst ex
      have ex1 : x1 = .int (i : Nat) := (Option.some.inj e1).symm
      subst ex1
      have sT : Same H3 (upd H3 T' (.tup [.int (i : Nat), .ref a])) := same_new nT
      refine ⟨T', _, rfl, SqT.of upd_same, rfl, _, _, rfl, _, _, rfl, rfl, ?_⟩
      have pm := run_perm hg i
      refine ⟨_, rfl, _, rfl, c, a, runTo os cs i, cs[i].1, cs[i].2, rfl, hc.same sT, ((ha.same s3).same sT).sq, pm.mem_iff.mpr (hg _ (List.getElem_mem hi)), by rw [pm.length_eq]; exact hl, fun r H4 s4 h4 => ?_⟩
      replace h4 : Tn H4 r ((runTo os cs (i + 1)).map V.str) := by
        rw [run_succ e]
        exact h4
      have sA : Same H H4 := (s3.trans sT).trans s4
      have hl4 : H4 l = some (.lst ((idl os cs i).map V.int)) := s4 _ _ (sT _ _ hl3)
      have pm1 := run_perm hg (i + 1)
      refine ⟨fun σ' H' => σ' = [some (.ref o), some (.ref p), some (.ref l), some (.ref c), some (.int (i : Nat)), some (.ref a), some (.ref r)] ∧ Same H H' ∧ Tn H' r ((runTo os cs (i + 1)).map V.str) ∧ H' l = some (.lst ((idl os cs (i + 1)).map V.int)), ?_, ?_⟩
      · refine ⟨_, rfl, _, rfl, r, c, runTo os cs (i + 1), runTo os cs i, rfl, rfl, h4.sq, ((hc.same sT).same s4).sq, (fun z hz => hok z (pm1.mem_iff.mp hz)), (fun z hz => hok z (pm.mem_iff.mp hz)), _, rfl, ite2 (fun c1 => ?_) (fun c1 => ?_)⟩
        · have c2 : runTo os cs (i + 1) = runTo os cs i := of_decide_eq_true c1
          refine ⟨_, rfl, .inl ⟨rfl, _, SqL.of hl4⟩, _, rfl, l, _, _, rfl, rfl, hl4, ?_, rfl, ?_, ?_, ?_⟩
          · rw [List.length_map]
            have := idl_len os cs i
            exact small1000 (by omega)
          · intro b y z
            rw [upd_ne (ne_of_none z nl)]
            exact sA _ _ z
          · exact tn_keep hl4 (fun b y nb z => by rw [upd_ne nb]; exact z) h4
          · rw [upd_same, idl_yes c2, List.map_append]
            rfl
        · have c2 : ¬ runTo os cs (i + 1) = runTo os cs i := fun z => c1 (decide_eq_true z)
          refine ⟨rfl, sA, h4, ?_⟩
          rw [hl4, idl_no c2]
      · rintro σ' H' ⟨rfl, s5, h5, l5⟩
        exact ⟨_, rfl, r, _, _, _, rfl, s5, h5, l5⟩
    · rintro σ H3 ⟨c, y4, y5, y6, rfl, s3, hc, hl3⟩
      rw [List.length_map, hC.len] at hl3
      exact ⟨_, rfl, q l H3 s3 nl hl3⟩
end
end K2
namespace K2
open PySem PySem.Spec PyProof.Rows L2 LS
abbrev sMoved : Stmt := topS 8
theorem scMoved : FnScope ["order", "command", "name", "layer", "rest", "at", "other"] ["order", "command"] (defScope sMoved) := ⟨rfl, rfl, rfl, by decide +kernel, rfl, by decide +kernel, by decide +kernel⟩
theorem filter_out : ∀ {os : List Str} {ly : Str}, os.Nodup → ly ∈ os → os.filter (fun x => !decide (V.str x = V.str ly)) = outOf os ly
  | x :: xs, ly, hn, hm => by
    have hn' := List.nodup_cons.mp (id hn)
    by_cases e : x = ly
    · subst e
      have e1 : idx (x :: xs) x = 0 := by
        unfold idx
        rw [List.findIdx_cons, decide_eq_true rfl]
        rfl
      unfold outOf
      rw [e1, List.filter_cons]
      simp
      intro a ha z
      rw [z] at ha
      exact hn'.1 ha
    · have e1 : idx (x :: xs) ly = idx xs ly + 1 := by
        unfold idx
        rw [List.findIdx_cons, decide_eq_false e]
        rfl
      have hm' : ly ∈ xs := by
        rcases List.mem_cons.mp hm with z | z
        · exact absurd z.symm e
        · exact z
      have ih := filter_out hn'.2 hm'
      have e2 : outOf (x :: xs) ly = x :: outOf xs ly := by
        unfold outOf
        rw [e1]
        rfl
      rw [e2, List.filter_cons, if_pos (by simp [e]), ih]
section
variable {K : PySem.W.Frag} {mg : Str → Option Value} {P : Program} {w : World} {base : Heap}
def spMoved (K : PySem.W.Frag) : Sp := fun vs H Q _ => ∃ (o c : Addr) (os : List Str) (wd ly : Str), vs = [.ref o, .ref c] ∧ Tn H o (os.map V.str) ∧ SqT K H c [.str wd, .str ly] ∧ ly ∈ os ∧ os.Nodup ∧ os.length ≤ 900 ∧
  ∀ p H', Same H H' → Tn H' p ((moved os (wd, ly)).map V.str) → Q (.ref p) H'
theorem ok_moved {f : Addr} {fd : FuncData} {k : Nat} (F : Fun K "_law_moved" "_law_moved" sMoved f fd) (ml : mg "len" = none) (mM : mg "max" = none) (mm : mg "min" = none) (mt : mg "tuple" = none) : FnOk P w K mg base CX0 (k + 1) f fd ["order", "command"] (spMoved K) := by
  refine F.ok scMoved (fun vs H Q E h => ?_) (fun cdv A outer s H vs Q E hr h => ?_)
  · obtain ⟨o, c, os, wd, ly, rfl, _⟩ := h
    rfl
  · obtain ⟨o, c, os, wd, ly, rfl, hO, hC, hm, hnd, hl, q⟩ := h
    have nd := scMoved.nd
    refine ⟨_, pss_cons (ps_asg (pv 1) (pg_tup rfl (pgs_cons (pg_name (i := 2) nd rfl (.inl rfl)) (pgs_cons (pg_name (i := 3) nd rfl (.inr rfl)) pgs_nil))))
      (pss_cons (ps_setLc (i := 4) (own := [("other", 6)]) (g := gName 6) rfl nd rfl rfl (sw_true rfl rfl rfl (by decide +kernel)) (pi_tup (pv 0)) (blkOk_by (N := ["order", "command", "name", "layer", "rest", "at", "other"]) (sc := defScope sMoved) (by decide +kernel)) (fun _ _ _ _ _ => pg_name (i := 6) nd rfl (Or.inl rfl)) (fun _ _ _ _ _ => pts_one (pt_cmpR op_ne (pv 6) (pv 3) (nomark _))) (fun _ _ _ _ _ => pv 6))
      (pss_cons (ps_set (i := 5) nd rfl (.inl rfl) (pe_tindex (pv 0) (pa_cons (pv 3) pa_nil)))
      (C8.pss_cut (ps_if (pt_cmpR op_eq (pv 2) pe_str (nomark _)) (pss_one (ps_set (i := 5) nd rfl (.inl rfl) pe_int))
        (pss_one (ps_if (pt_cmpR op_eq (pv 2) pe_str (nomark _)) (pss_one (ps_set (i := 5) nd rfl (.inl rfl) (pe_callB call_len_seq (by rfl) ml PySem.boot_len (pa_cons (pv 4) pa_nil))))
          (pss_one (ps_set (i := 5) nd rfl (.inl rfl) (pe_ifExp (pt_cmpR op_eq (pv 2) pe_str (nomark _)) (pe_callB (call_max2 rfl) (by rfl) mM boot_max (pa_cons pe_int (pa_cons (pe_op op_sub (pv 5) pe_int) pa_nil))) (pe_callB (call_min2 rfl) (by rfl) mm boot_min (pa_cons (pe_callB call_len_seq (by rfl) ml PySem.boot_len (pa_cons (pv 4) pa_nil)) (pa_cons (pe_op op_add (pv 5) pe_int) pa_nil)))))))))
      (pss_one (ps_ret (pe_callTy call_tupleS (by rfl) mt (by decide +kernel) (pa_cons (pe_op op_catLS (pe_op op_catLS (pe_slice sl_listS (pv 4) po_none (po_some (pv 5))) (pe_lstS (pa_cons (pv 3) pa_nil))) (pe_slice sl_listS (pv 4) (po_some (pv 5)) po_none)) pa_nil))))))), ?_⟩
    refine ⟨_, rfl, c, _, rfl, hC, rfl, _, _, rfl, _, _, rfl, rfl, ?_⟩
    refine ⟨_, rfl, o, rfl, ⟨_, hO.sq⟩, fun D nD => ?_⟩
    refine lc_it (walk_tup (xs := os.map V.str)) (fun i H3 => Same H H3 ∧ H3 D = some (.lst (((os.take i).filter (fun x => !decide (V.str x = V.str ly))).map V.str))) ⟨same_new nD, upd_same⟩ (fun i H3 _ ⟨s3, _⟩ => sameT s3 hO.sq) ?_ ?_
    · rintro i x H3 H' hi ⟨s3, h3⟩ ⟨rfl, hx⟩
      rw [List.length_map] at hi
      have ex : x = .str os[i] := by
        rw [List.getElem?_map, List.getElem?_eq_getElem hi] at hx
        exact (Option.some.inj hx).symm
      subst ex
      have et : os.take (i + 1) = os.take i ++ [os[i]] := by
        rw [List.take_add_one, List.getElem?_eq_getElem hi]
        rfl
      refine ⟨rfl, ?_⟩
      refine ⟨_, rfl, _, rfl, rfl, _, rfl, ite2 (fun e => ?_) (fun e => ?_)⟩
      · refine ⟨_, rfl, _, h3, ?_, ?_, ?_⟩
        · rw [List.length_map]
          exact small1000 (Nat.le_trans (List.length_filter_le _ _) (by rw [List.length_take]; omega))
        · intro b y z
          rw [upd_ne (ne_of_none z nD)]
          exact s3 _ _ z
        · rw [upd_same, et, List.filter_append, List.map_append]
          congr 3
          rw [List.filter_cons, if_pos e]
          rfl
      · refine ⟨s3, ?_⟩
        rw [h3, et, List.filter_append, List.filter_cons, if_neg e, List.filter_nil, List.append_nil]
    · rintro H3 ⟨s3, h3⟩
      rw [List.length_map, List.take_of_length_le (Nat.le_refl _), filter_out hnd hm] at h3
      have ho := out_len hm
      refine ⟨_, rfl, ⟨o, _, rfl, hO.same s3⟩, _, rfl, o, os, ly, idx os ly, rfl, rfl, (hO.same s3).sq, idx_at hm, fun m h => idx_first m h, ?_⟩
      generalize et : newIx wd (idx os ly) (outOf os ly).length = t
      refine ⟨fun σ' H' => σ' = [some (.ref o), some (.ref c), some (.str wd), some (.str ly), some (.ref D), some (.int (t : Int)), none] ∧ H3 = H', ?_, ?_⟩
      · unfold newIx at et
        refine ⟨_, rfl, rfl, _, rfl, ite2 (fun e => ?_) (fun e => ?_)⟩
        · rw [if_pos (V.str.inj (of_decide_eq_true e))] at et
          subst et
          exact ⟨rfl, rfl⟩
        · rw [if_neg (fun z => e (decide_eq_true (congrArg V.str z)))] at et
          refine ⟨_, rfl, rfl, _, rfl, ite2 (fun e2 => ?_) (fun e2 => ?_)⟩
          · rw [if_pos (V.str.inj (of_decide_eq_true e2))] at et
            subst et
            refine ⟨_, rfl, D, _, rfl, .inl (SqL.of h3), ?_, rfl⟩
            rw [List.length_map]
            rfl
          · rw [if_neg (fun z => e2 (decide_eq_true (congrArg V.str z)))] at et
            refine ⟨_, rfl, rfl, _, rfl, ite2 (fun e3 => ?_) (fun e3 => ?_)⟩
            · rw [if_pos (V.str.inj (of_decide_eq_true e3))] at et
              refine ⟨_, rfl, _, _, rfl, rfl, _, _, rfl, ?_, rfl⟩
              have e4 : (if (idx os ly : Int) - 1 > 0 then (idx os ly : Int) - 1 else 0) = (t : Int) := by
                rw [← et]
                split <;> omega
              rw [e4]
              rfl
            · rw [if_neg (fun z => e3 (decide_eq_true (congrArg V.str z)))] at et
              refine ⟨_, rfl, D, _, rfl, .inl (SqL.of h3), _, rfl, _, _, rfl, rfl, _, _, rfl, ?_, rfl⟩
              have e4 : (if (idx os ly : Int) + 1 < ((((outOf os ly).map V.str).length : Nat) : Int) then (idx os ly : Int) + 1 else ((((outOf os ly).map V.str).length : Nat) : Int)) = (t : Int) := by
                rw [← et, List.length_map]
                split <;> omega
              rw [e4]
              rfl
      · rintro σ' H' ⟨rfl, rfl⟩
        refine ⟨_, rfl, _, rfl, _, rfl, D, _, rfl, SqL.of h3, fun a4 H4 s4 n4 h4 => ?_⟩
        refine ⟨_, rfl, (by show 1 ≤ sizeLine; decide), fun a5 H5 s5 n5 h5 => ?_⟩
        rw [cut_to] at h4
        refine ⟨a4, a5, _, _, rfl, rfl, s5 _ _ h4, h5, ?_, fun a6 H6 s6 n6 h6 => ?_⟩
        · rw [List.length_take, List.length_map]
          exact Nat.le_of_lt (small1000 (show min t (outOf os ly).length + 1 ≤ 1000 by omega))
        · refine ⟨_, rfl, _, rfl, _, rfl, D, _, rfl, SqL.of (s6 _ _ (s5 _ _ (s4 _ _ h3))), fun a7 H7 s7 n7 h7 => ?_⟩
          rw [cut_from] at h7
          refine ⟨a6, a7, _, _, rfl, rfl, s7 _ _ h6, h7, ?_, fun a8 H8 s8 n8 h8 => ?_⟩
          · rw [List.length_append, List.length_take, List.length_map, List.length_drop, List.length_map]
            exact Nat.le_of_lt (small1000 (show min t (outOf os ly).length + 1 + ((outOf os ly).length - t) ≤ 1000 by omega))
          · refine ⟨a8, _, rfl, .inl (SqL.of h8), fun p H9 s9 h9 => ?_⟩
            refine q p H9 ((((((s3.trans s4).trans s5).trans s6).trans s7).trans s8).trans s9) ?_
            have e : (moved os (wd, ly)).map V.str = ((outOf os ly).map V.str).take t ++ [V.str ly] ++ ((outOf os ly).map V.str).drop t := by
              show (putAt (outOf os ly) ly (newIx wd (idx os ly) (outOf os ly).length)).map V.str = _
              rw [et]
              unfold putAt
              rw [List.map_append, List.map_append, List.map_take, List.map_drop]
              rfl
            rw [e]
            exact h9
end
end K2
namespace K2
open PySem PySem.Spec PyProof.Rows L2 LS
abbrev sLaw : Stmt := topS 13
theorem scLaw : FnScope ["script", "index", "digits", "order", "ends", "steps", "now", "expected", "place", "command", "later", "found"] ["script"] (defScope sLaw) := ⟨rfl, rfl, rfl, by decide +kernel, rfl, by decide +kernel, by decide +kernel⟩
theorem at_last {os : List Str} (h : os ≠ []) : ∃ l, l ∈ os ∧ atI (os.map V.str) (-1) = some (.str l) := by
  refine ⟨os.getLast h, List.getLast_mem h, ?_⟩
  have e : os.map V.str = os.dropLast.map V.str ++ [.str (os.getLast h)] := by
    rw [← List.map_singleton, ← List.map_append, List.dropLast_concat_getLast]
  rw [e]
  exact atI_last _ _
theorem at_first {os : List Str} (h : os ≠ []) : ∃ l, l ∈ os ∧ atI (os.map V.str) 0 = some (.str l) := by
  have hp : 0 < os.length := List.length_pos_iff.mpr h
  refine ⟨os[0], List.getElem_mem hp, atI_nat (j := 0) ?_⟩
  rw [List.getElem?_map, List.getElem?_eq_getElem hp]
  rfl
/-- a def of the top, where it stands and how it is called -/
structure At (K : PySem.W.Frag) (mg : Str → Option Value) (x : Str) (st : Stmt) (ps : List Str) (f : Addr) (fd : FuncData) : Prop where
  F : Fun K x x st f fd
  b : Binds K fd ps []
  g : mg x = some (.ref f)
section
variable {K : PySem.W.Frag} {mg : Str → Option Value} {P : Program} {w : World} {base : Heap}
def spLaw (K : PySem.W.Frag) : Sp := fun vs H Q _ => ∃ (a : Addr) (ns : List Int), vs = [.ref a] ∧ SqL K H a (ns.map V.int) ∧ ns.length ≤ 63 ∧ ∀ H', Q (.bl true) H'
theorem ok_law {f fNI fAC fAp fId fC fD fM fN fX fO fS : Addr} {fd dNI dAC dAp dId dC dD dM dN dX dO dS : FuncData} (F : Fun K "law" "law" sLaw f fd)
    (aNI : At K mg "new_index" sNewIx ["word", "at", "last"] fNI dNI) (aAC : At K mg "after_command" sAfter ["order", "command"] fAC dAC) (aAp : At K mg "apply" sApply ["order", "script"] fAp dAp) (aId : At K mg "idle" sIdle ["order", "script"] fId dId)
    (aC : At K mg "_law_cell" sCell ["script", "index"] fC dC) (aD : At K mg "_law_digits" sDigits ["script", "index", "count", "base"] fD dD) (aM : At K mg "_law_moved" sMoved ["order", "command"] fM dM) (aN : At K mg "_law_names" sNames ["digits", "count"] fN dN)
    (aX : At K mg "_law_mixed" sMixed ["digits", "names"] fX dX) (aO : At K mg "_law_command" sCommand ["digits", "order"] fO dO) (aS : At K mg "_law_script" sScript ["digits", "order", "size"] fS dS)
    (ml : mg "len" = none) (mM : mg "max" = none) (mm : mg "min" = none) (mr : mg "range" = none) (mt : mg "tuple" = none) (mi : mg "list" = none) (me : mg "enumerate" = none) (mI : mg "int" = none) (ms : mg "isinstance" = none) :
    FnOk P w K mg base CX0 4 f fd ["script"] (spLaw K) := by
  have T : AfterAt K mg fAC dAC fNI dNI := ⟨aAC.F, aNI.F, aAC.b, aNI.b, aAC.g, aNI.g, ml, mM, mm⟩
  have GD : FnOk P w K mg base CX0 3 fD dD ["script", "index", "count", "base"] (spDigits K) := ok_digits aD.F aC.F aC.b aC.g ml mr
  have GN : FnOk P w K mg base CX0 3 fN dN ["digits", "count"] (spNames K) := ok_names aN.F aX.F aX.b aX.g ml mi
  have GS : FnOk P w K mg base CX0 3 fS dS ["digits", "order", "size"] (spScript K) := ok_script aS.F aO.F aO.b aO.g ml mr mt
  have GM : FnOk P w K mg base CX0 3 fM dM ["order", "command"] (spMoved K) := ok_moved aM.F ml mM mm mt
  have GP : FnOk P w K mg base CX0 3 fAp dAp ["order", "script"] (spApply K) := ok_apply aAp.F T
  have GI : FnOk P w K mg base CX0 3 fId dId ["order", "script"] (spIdle K) := ok_idle aId.F T me
  refine F.ok scLaw (fun vs H Q E h => ?_) (fun cdv A outer s H vs Q E hr h => ?_)
  · obtain ⟨a, ns, rfl, _⟩ := h
    rfl
  · obtain ⟨a, ns, rfl, hS, hlen, q⟩ := h
    have nd := scLaw.nd
    refine ⟨_, pss_cons (ps_for PassesOwn.never rfl (pi_range1 (by rfl) mr (pa_cons pe_int pa_nil)) (pg_name (i := 1) nd rfl (.inl rfl))
        (pss_cons (ps_set (i := 2) nd rfl (.inl rfl) (pe_call GD hr (by rfl) aD.g aD.F.kp aD.b .nil pass0 (pa_cons (pv 0) (pa_cons (pv 1) (pa_cons pe_int (pa_cons pe_int pa_nil))))))
        (pss_cons (ps_set (i := 3) nd rfl (.inl rfl) (pe_call GN hr (by rfl) aN.g aN.F.kp aN.b .nil pass0 (pa_cons (pv 2) (pa_cons (pe_op op_add pe_int (pe_op op_mod (pe_ix ix_list (pv 2) pe_int (fun _ _ => rfl)) pe_int)) pa_nil))))
        (pss_cons (ps_set (i := 4) nd rfl (.inl rfl) (pe_tupS (pa_cons (pe_tupS (pa_cons pe_str (pa_cons (pe_ix ix_tup (pv 3) pe_int (fun _ _ => rfl)) pa_nil))) (pa_cons (pe_tupS (pa_cons pe_str (pa_cons (pe_ix ix_tup (pv 3) pe_int (fun _ _ => rfl)) pa_nil))) (pa_cons (pe_tupS (pa_cons pe_str (pa_cons (pe_ix ix_tup (pv 3) (pe_un un_neg pe_int) (fun _ _ => rfl)) pa_nil))) (pa_cons (pe_tupS (pa_cons pe_str (pa_cons (pe_ix ix_tup (pv 3) (pe_un un_neg pe_int) (fun _ _ => rfl)) pa_nil))) pa_nil))))))
        (pss_one (ps_for PassesOwn.never rfl (pi_tup (pe_tupS (pa_cons (pe_call GS hr (by rfl) aS.g aS.F.kp aS.b .nil pass0 (pa_cons (pe_slice sl_listS (pv 2) (po_some pe_int) po_none) (pa_cons (pv 3) (pa_cons pe_int pa_nil)))) (pa_cons (pe_tupS pa_nil) (pa_cons (pv 4) (pa_cons (pe_op op_repT (pe_revT (pv 4)) pe_int) pa_nil)))))) (pg_name (i := 5) nd rfl (.inl rfl))
          (pss_cons (ps_par (i := 6) (j := 7) rfl nd rfl rfl (by decide) rfl rfl (pa_cons (pv 3) (pa_cons (pe_lstS pa_nil) pa_nil)) rfl)
          (pss_cons (ps_for PassesOwn.never rfl (pi_enumT (by rfl) me (pa_cons (pv 5) pa_nil)) (pg_tup rfl (pgs_cons (pg_name (i := 8) nd rfl (.inl rfl)) (pgs_cons (pg_name (i := 9) nd rfl (.inl rfl)) pgs_nil)))
            (pss_cons (ps_set (i := 10) nd rfl (.inl rfl) (pe_call GM hr (by rfl) aM.g aM.F.kp aM.b .nil pass0 (pa_cons (pv 6) (pa_cons (pv 9) pa_nil))))
            (pss_cons (ps_set (i := 7) nd rfl (.inl rfl) (pe_op op_catLS (pv 7) (pe_op op_repS (pe_lstS (pa_cons (pv 8) pa_nil)) (pe_callTy call_int1 (by rfl) mI (by decide +kernel) (pa_cons (pe_cmpR (op_eqTs hr.units) (pv 10) (pv 6) (nomark _)) pa_nil)))))
            (pss_one (ps_set (i := 6) nd rfl (.inl rfl) (pv 10))))))
          (pss_cons (ps_set (i := 11) nd rfl (.inl rfl) (pe_call GI hr (by rfl) aId.g aId.F.kp aId.b .nil pass0 (pa_cons (pv 3) (pa_cons (pv 5) pa_nil))))
          (pss_cons (ps_if (PW.pt (pw_or (pt_cmpR (op_neTs hr.units) (pe_call GP hr (by rfl) aAp.g aAp.F.kp aAp.b .nil pass0 (pa_cons (pv 3) (pa_cons (pv 5) pa_nil))) (pv 6) (nomark _)) (pw_or (pt_cmpR (op_neLi hr.units) (pv 11) (pv 7) (nomark _)) (pw_or1 (pt_not (pt_val (pe_callB call_isi (by rfl) ms boot_isinstance (pa_cons (pv 11) (pa_cons (pe_bltn (v := .ty "list") (by rfl) mi (by decide +kernel) rfl) pa_nil))))))))) (pss_one (ps_ret pe_bl)) pss_nil)
          (pss_cons (ps_expr (pe_bm PySem.F.plainAttrs_list PySem.F.slot_list_append PySem.F.type_list_append mt_append (pv 11) (pa_cons pe_int pa_nil)))
          (pss_one (ps_if (pt_cmpR (op_neLi hr.units) (pe_call GI hr (by rfl) aId.g aId.F.kp aId.b .nil pass0 (pa_cons (pv 3) (pa_cons (pv 5) pa_nil))) (pv 7) (nomark _)) (pss_one (ps_ret pe_bl)) pss_nil)))))))))))))
      (pss_one (ps_ret (pe_cmpR (op_eqTs hr.units) (pe_call GP hr (by rfl) aAp.g aAp.F.kp aAp.b .nil pass0 (pa_cons (pe_tupS (pa_cons pe_str (pa_cons pe_str (pa_cons pe_str (pa_cons pe_str pa_nil))))) (pa_cons (pe_tupS (pa_cons (pe_tupS (pa_cons pe_str (pa_cons pe_str pa_nil))) (pa_cons (pe_tupS (pa_cons pe_str (pa_cons pe_str pa_nil))) pa_nil))) pa_nil))) (pe_tupS (pa_cons pe_str (pa_cons pe_str (pa_cons pe_str (pa_cons pe_str pa_nil))))) (nomark _)))), ?_⟩
    refine ⟨8, rfl, by decide, by decide, ?_⟩
    refine for_range (n := 8) (fun i σ H3 => ∃ (y1 y2 y3 y4 y5 y6 y7 y8 y9 y10 y11 : Option V), σ = [some (.ref a), y1, y2, y3, y4, y5, y6, y7, y8, y9, y10, y11] ∧ SqL K H3 a (ns.map V.int)) ⟨none, none, none, none, none, none, none, none, none, none, none, rfl, hS⟩ ?_ ?_
    · rintro i σ H3 hi ⟨y1, y2, y3, y4, y5, y6, y7, y8, y9, y10, y11, rfl, hA3⟩
      refine ⟨_, rfl, _, rfl, a, ns, i, 120, 27720, (by rw [Int.zero_add]; rfl), hA3, by omega, by decide, by decide, by decide, fun ds d H4 s4 nd4 hd4 hdl hdb => ?_⟩
      have hD4 : SqL K H4 d (ds.map V.int) := SqL.of hd4
      have g100 : (ds.map V.int)[100]? = some (.int (ds[100]'(by omega))) := by
        rw [List.getElem?_map, List.getElem?_eq_getElem (by omega)]
        rfl
      have m0 := Int.emod_nonneg (ds[100]'(by omega)) (show (10 : Int) ≠ 0 by decide)
      have m1 := Int.emod_lt_of_pos (ds[100]'(by omega)) (show (0 : Int) < 10 by decide)
      obtain ⟨n, en⟩ : ∃ n : Nat, (1 : Int) + (ds[100]'(by omega)) % 10 = (n : Int) := ⟨(1 + (ds[100]'(by omega)) % 10).toNat, by omega⟩
      refine ⟨_, rfl, _, rfl, d, _, _, _, rfl, rfl, hD4, atI_nat (j := 100) g100, _, _, rfl, rfl, (by show (0 : Int) < 10; decide), _, _, rfl, rfl, d, n, ds, (by rw [← en]; rfl), hD4, by omega, by omega, by omega, fun os o H5 s5 ho5 hon hol hot => ?_⟩
      have one : os ≠ [] := by
        intro z
        rw [z] at hol
        simp at hol
        omega
      have oks : StrsOk os := fun z hz => ten_ok z (hot z hz)
      obtain ⟨f1, mf1, gf1⟩ := at_first one
      obtain ⟨l1, ml1, gl1⟩ := at_last one
      have s45 : Same H3 H5 := s4.trans s5
      -- ends
      refine ⟨_, rfl, o, _, _, _, rfl, rfl, ho5.sq, gf1, (by show 2 ≤ sizeLine; decide), fun e1 H6 s6 n6 h6 => ?_⟩
      refine ⟨_, rfl, o, _, _, _, rfl, rfl, (ho5.same s6).sq, gf1, (by show 2 ≤ sizeLine; decide), fun e2 H7 s7 n7 h7 => ?_⟩
      refine ⟨_, rfl, 1, rfl, o, _, _, _, rfl, rfl, ((ho5.same s6).same s7).sq, gl1, (by show 2 ≤ sizeLine; decide), fun e3 H8 s8 n8 h8 => ?_⟩
      refine ⟨_, rfl, 1, rfl, o, _, _, _, rfl, rfl, (((ho5.same s6).same s7).same s8).sq, gl1, (by show 2 ≤ sizeLine; decide), fun e4 H9 s9 n9 h9 => ?_⟩
      refine ⟨(by show 4 ≤ sizeLine; decide), fun en' H10 s10 n10 h10 => ?_⟩
      have s9' : Same H9 H10 := s10
      have sE : Same H5 H10 := (((s6.trans s7).trans s8).trans s9).trans s10
      have t1 : Tn H10 e1 [.str "up", .str f1] := (((h6.same s7).same s8).same s9).same s10
      have t2 : Tn H10 e2 [.str "front", .str f1] := ((h7.same s8).same s9).same s10
      have t3 : Tn H10 e3 [.str "down", .str l1] := (h8.same s9).same s10
      have t4 : Tn H10 e4 [.str "back", .str l1] := h9.same s10
      -- the four scripts
      refine ⟨_, rfl, 15, rfl, d, _, rfl, SqL.of (sE _ _ (s5 _ _ hd4)), fun a1 H11 s11 n11 h11 => ?_⟩
      rw [show (15 : Int) = ((15 : Nat) : Int) from rfl, cut_from, ← List.map_drop] at h11
      refine ⟨_, rfl, a1, o, 30, ds.drop 15, os, rfl, SqL.of h11, ((ho5.same sE).same s11).sq, (by rw [List.length_drop]; omega), by decide, one, fun cs1 p1 H12 s12 sc1 cl1 cg1 => ?_⟩
      refine ⟨Nat.zero_le _, fun p2 H13 s13 n13 h13 => ?_⟩
      have sF : Same H10 H13 := (s11.trans s12).trans s13
      refine ⟨_, rfl, _, rfl, en', _, rfl, (h10.same sF).sq, fun r1 nr1 => ?_⟩
      refine ⟨r1, 3, _, rfl, rfl, SqT.of upd_same, (by intro z; cases z), by decide, by decide, (by show 4 ≤ 1000; decide), fun p4 np4 => ?_⟩
      have sR : Same H13 (upd H13 r1 (.tup [.ref e4, .ref e3, .ref e2, .ref e1])) := same_new nr1
      refine ⟨(by show 4 ≤ sizeLine; decide), fun tp H16 s16 n16 h16 => ?_⟩
      have s4' : Same H13 H16 := (sR.trans (same_new np4)).trans s16
      have s10' : Same H10 H16 := sF.trans s4'
      have hp4 : SqT K H16 p4 ([e4, e3, e2, e1, e4, e3, e2, e1, e4, e3, e2, e1].map V.ref) := sameT s16 (SqT.of upd_same)
      have u1 := t1.same s10'
      have u2 := t2.same s10'
      have u3 := t3.same s10'
      have u4 := t4.same s10'
      have gup : GoodCs os [("up", f1), ("front", f1), ("down", l1), ("back", l1)] := by
        have k1 : ("up" : Str) ∈ fourWords := by decide +kernel
        have k2 : ("front" : Str) ∈ fourWords := by decide +kernel
        have k3 : ("down" : Str) ∈ fourWords := by decide +kernel
        have k4 : ("back" : Str) ∈ fourWords := by decide +kernel
        intro c hc
        simp only [List.mem_cons, List.not_mem_nil, or_false] at hc
        rcases hc with rfl | rfl | rfl | rfl
        · exact ⟨k1, mf1⟩
        · exact ⟨k2, mf1⟩
        · exact ⟨k3, ml1⟩
        · exact ⟨k4, ml1⟩
      have items : ∀ (j : Nat) (x : V), ([.ref p1, .ref p2, .ref en', .ref p4] : List V)[j]? = some x → ∃ p cs, x = .ref p ∧ Scr K H16 p cs ∧ GoodCs os cs ∧ cs.length ≤ 30 := by
        intro j x hx
        match j, hx with
        | 0, hx => exact ⟨p1, cs1, (Option.some.inj hx).symm, sc1.same (s13.trans s4'), cg1, cl1⟩
        | 1, hx => exact ⟨p2, [], (Option.some.inj hx).symm, ⟨[], (h13.same s4').sq, trivial⟩, (fun c hc => nomatch hc), by decide⟩
        | 2, hx => exact ⟨en', [("up", f1), ("front", f1), ("down", l1), ("back", l1)], (Option.some.inj hx).symm, ⟨[e1, e2, e3, e4], (h10.same s10').sq, u1, u2, u3, u4, trivial⟩, gup, (by show 4 ≤ 30; decide)⟩
        | 3, hx => exact ⟨p4, [("back", l1), ("down", l1), ("front", f1), ("up", f1), ("back", l1), ("down", l1), ("front", f1), ("up", f1), ("back", l1), ("down", l1), ("front", f1), ("up", f1)], (Option.some.inj hx).symm, ⟨_, hp4, u4, u3, u2, u1, u4, u3, u2, u1, u4, u3, u2, u1, trivial⟩, (fun c hc => gup c (by simp only [List.mem_cons, List.not_mem_nil, or_false] at hc ⊢; rcases hc with z | z | z | z | z | z | z | z | z | z | z | z <;> simp [z])), (by show 12 ≤ 30; decide)⟩
        | j + 4, hx => simp at hx
      have hA16 : SqL K H16 a (ns.map V.int) := (((s4.trans s5).trans sE).trans s10').seq hA3
      have hO16 : Tn H16 o (os.map V.str) := (ho5.same sE).same s10'
      refine ⟨tp, rfl, ⟨_, h16.sq⟩, ?_⟩
      refine for_it (walk_tup (xs := [.ref p1, .ref p2, .ref en', .ref p4])) (fun j σ H17 => ∃ (y5 y6 y7 y8 y9 y10 y11 : Option V), σ = [some (.ref a), some (.int (0 + (i : Int))), some (.ref d), some (.ref o), some (.ref en'), y5, y6, y7, y8, y9, y10, y11] ∧ Same H16 H17) ⟨_, _, _, _, _, _, _, rfl, Same.refl _⟩ (fun j σ H17 _ ⟨_, _, _, _, _, _, _, _, s17⟩ => sameT s17 h16.sq) ?_ ?_
      · rintro j x σ H17 H17' hj ⟨y5, y6, y7, y8, y9, y10, y11, rfl, s17⟩ ⟨rfl, hx⟩
        obtain ⟨p, cs, rfl, sc, gc, lc⟩ := items j x hx
        obtain ⟨as, hS', hC'⟩ := id sc
        have gm : ∀ c, c ∈ cs → c.2 ∈ os := fun c hc => (gc c hc).2
        refine ⟨_, rfl, Nat.zero_le _, fun x7 H18 s18 n18 h18 => ⟨_, _, rfl, ?_⟩⟩
        have sG : Same H16 H18 := s17.trans s18
        refine ⟨_, rfl, p, _, rfl, sameT sG hS', ?_⟩
        refine for_it (walk_enumT (xs := as.map V.ref)) (fun m σ H19 => ∃ (nw ex : Addr) (y8 y9 y10 : Option V), σ = [some (.ref a), some (.int (0 + (i : Int))), some (.ref d), some (.ref o), some (.ref en'), some (.ref p), some (.ref nw), some (.ref ex), y8, y9, y10, y11] ∧ Same H16 H19 ∧ Tn H19 nw ((runTo os cs m).map V.str) ∧ H19 ex = some (.lst ((idl os cs m).map V.int))) ⟨o, x7, _, _, _, rfl, sG, hO16.same sG, h18⟩ (fun m σ H19 _ ⟨_, _, _, _, _, _, s19, _⟩ => sameT s19 hS') ?_ ?_
        · rintro m x σ H19 H19' hm ⟨nw, ex, z8, z9, z10, rfl, s19, hnw, hex⟩ ⟨T', x1, x2, rfl, nT, rfl, e1', e2'⟩
          rw [List.length_map, hC'.len] at hm
          have e : cs[m]? = some cs[m] := List.getElem?_eq_getElem hm
          obtain ⟨b, eb, hb⟩ := hC'.get e
          have ex2 : x2 = .ref b := by
            dsimp only at e2'
            rw [List.getElem?_map, eb] at e2'
            exact (Option.some.inj e2').symm
          subst ex2
          have ex1 : x1 = .int (m : Nat) := (Option.some.inj e1').symm
          subst ex1
          have sT : Same H19 (upd H19 T' (.tup [.int (m : Nat), .ref b])) := same_new nT
          refine ⟨T', _, rfl, SqT.of upd_same, rfl, _, _, rfl, _, _, rfl, rfl, ?_⟩
          have pm := run_perm gm m
          have pm1 := run_perm gm (m + 1)
          refine ⟨_, rfl, _, rfl, nw, b, runTo os cs m, cs[m].1, cs[m].2, rfl, hnw.same sT, ((hb.same s19).same sT).sq, pm.mem_iff.mpr (gm _ (List.getElem_mem hm)), pm.nodup_iff.mpr hon, by rw [pm.length_eq]; omega, fun r H20 s20 h20 => ?_⟩
          replace h20 : Tn H20 r ((runTo os cs (m + 1)).map V.str) := by
            rw [run_succ e]
            exact h20
          have hex20 := s20 _ _ (sT _ _ hex)
          have hnw20 := (hnw.same sT).same s20
          refine ⟨_, rfl, _, rfl, (by show 1 ≤ sizeLine; decide), fun lx H21 s21 n21 h21 => ?_⟩
          refine ⟨_, rfl, _, rfl, r, nw, runTo os cs (m + 1), runTo os cs m, rfl, rfl, (h20.same s21).sq, (hnw20.same s21).sq, (fun z hz => oks z (pm1.mem_iff.mp hz)), (fun z hz => oks z (pm.mem_iff.mp hz)), .inr ⟨_, rfl, ?_⟩⟩
          have hrep : ∀ k : Bool, -(2 ^ 63) ≤ (if k then (1 : Int) else 0) ∧ (if k then (1 : Int) else 0) < 2 ^ 63 ∧ (1 : Nat) * (if k then (1 : Int) else 0).toNat ≤ sizeLine := by decide
          refine ⟨lx, _, _, rfl, rfl, h21, (hrep _).1, (hrep _).2.1, (hrep _).2.2, fun ly H22 s22 n22 h22 => ?_⟩
          have dl := idl_len os cs m
          refine ⟨ex, ly, _, _, rfl, rfl, s22 _ _ (s21 _ _ hex20), h22, ?_, fun lz H23 s23 n23 h23 => ?_⟩
          · have : ∀ k : Bool, (List.replicate (if k then (1 : Int) else 0).toNat [V.int (m : Nat)]).flatten.length ≤ 1 := by
              intro k
              cases k <;> simp
            have h1 := this (decide (runTo os cs (m + 1) = runTo os cs m))
            rw [List.length_map]
            refine Nat.le_of_lt (small1000 ?_)
            refine Nat.le_trans (Nat.add_le_add_left h1 _) ?_
            omega
          · refine ⟨_, rfl, r, lz, _, _, _, rfl, ((((s19.trans sT).trans s20).trans s21).trans s22).trans s23, ((h20.same s21).same s22).same s23, ?_⟩
            rw [h23]
            by_cases c : runTo os cs (m + 1) = runTo os cs m
            · rw [idl_yes c]
              simp [c]
            · rw [idl_no c]
              simp [c]
        · rintro σ H19 ⟨nw, ex, z8, z9, z10, rfl, s19, hnw, hex⟩
          rw [List.length_map, hC'.len] at hnw hex
          have pm := run_perm gm cs.length
          have okr : StrsOk (runTo os cs cs.length) := fun z hz => oks z (pm.mem_iff.mp hz)
          refine ⟨_, rfl, _, rfl, o, p, os, cs, rfl, hO16.same s19, sc.same s19, gm, by omega, by omega, oks, fun fo H24 s24 n24 h24 => ?_⟩
          have s24' : Same H16 H24 := s19.trans s24
          refine ⟨_, rfl, _, rfl, o, p, os, cs, rfl, hO16.same s24', sc.same s24', gm, by omega, fun ap H25 s25 h25 => ?_⟩
          have hex25 := s25 _ _ (s24 _ _ hex)
          refine ⟨_, rfl, ap, nw, _, _, rfl, rfl, h25.sq, ((hnw.same s24).same s25).sq, okr, okr, _, rfl, ite2 (fun z => absurd z (by simp)) (fun _ => ?_)⟩
          have hfo := s25 _ _ h24
          refine ⟨_, rfl, _, rfl, fo, ex, _, _, rfl, rfl, SqL.of hfo, SqL.of hex25, _, rfl, ite2 (fun z => absurd z (by simp)) (fun _ => ?_)⟩
          refine ⟨_, rfl, _, _, _, _, true, rfl, .ty "list", .base (.lst hfo), kit_ty (by decide +kernel), true, rfl, iteF ?_⟩
          have dl := idl_len os cs cs.length
          refine ⟨_, rfl, .inl ⟨rfl, _, SqL.of hfo⟩, fo, _, _, rfl, rfl, hfo, (by rw [List.length_map]; exact small1000 (by omega)), ?_⟩
          have s26 : Same H19 (upd H25 fo (.lst ((idl os cs cs.length).map V.int ++ [.int 0]))) := fun b y z => by
            rw [upd_ne (ne_of_none z n24)]
            exact s25 _ _ (s24 _ _ z)
          have s26' := s19.trans s26
          refine ⟨_, rfl, _, rfl, o, p, os, cs, rfl, hO16.same s26', sc.same s26', gm, by omega, by omega, oks, fun fo2 H27 s27 n27 h27 => ?_⟩
          refine ⟨_, rfl, fo2, ex, _, _, rfl, rfl, SqL.of h27, SqL.of (s27 _ _ (s26 _ _ hex)), _, rfl, ite2 (fun z => absurd z (by simp)) (fun _ => ?_)⟩
          exact ⟨_, _, _, _, _, _, _, rfl, s26'.trans s27⟩
      · rintro σ H17 ⟨y5, y6, y7, y8, y9, y10, y11, rfl, s17⟩
        exact ⟨_, _, _, _, _, _, _, _, _, _, _, rfl, s17.seq hA16⟩
    · rintro σ H3 ⟨y1, y2, y3, y4, y5, y6, y7, y8, y9, y10, y11, rfl, hA3⟩
      refine ⟨(by show 4 ≤ sizeLine; decide), fun t1 H4 s4 n4 h4 => ?_⟩
      refine ⟨(by show 2 ≤ sizeLine; decide), fun c1 H5 s5 n5 h5 => ?_⟩
      refine ⟨(by show 2 ≤ sizeLine; decide), fun c2 H6 s6 n6 h6 => ?_⟩
      refine ⟨(by show 2 ≤ sizeLine; decide), fun sc H7 s7 n7 h7 => ?_⟩
      refine ⟨t1, sc, ["a", "b", "c", "d"], [("front", "c"), ("down", "a")], rfl, ((h4.same s5).same s6).same s7, ⟨[c1, c2], h7.sq, (h5.same s6).same s7, h6.same s7, trivial⟩, (by decide +kernel), by decide, fun r H8 s8 h8 => ?_⟩
      refine ⟨(by show 4 ≤ sizeLine; decide), fun t2 H9 s9 n9 h9 => ?_⟩
      refine ⟨r, t2, _, ["c", "b", "a", "d"], rfl, rfl, (h8.same s9).sq, h9.sq, (by decide +kernel), (by decide +kernel), ?_⟩
      have e : decide (runTo ["a", "b", "c", "d"] [("front", "c"), ("down", "a")] 2 = (["c", "b", "a", "d"] : List Str)) = true := by decide +kernel
      show Q (.bl (decide (runTo ["a", "b", "c", "d"] [("front", "c"), ("down", "a")] 2 = (["c", "b", "a", "d"] : List Str)))) H9
      rw [e]
      exact q _
end
end K2
namespace K2
open PySem PySem.Spec PyProof.Rows L2 LS
theorem all_mk {l : PySem.W.OpenLaw} {w : World} {K : PySem.W.Frag} {h : Heap} {mg : Str → Option Value} {fa f0 f1 f2 f3 f4 f5 f6 f7 f8 f9 f10 f11 : Addr} (X : K.In h) (G : h.Ns mainGlobals mg) (hfa : mg "law" = some (.ref fa))
    {od0 an0 od1 an1 od2 an2 od3 an3 od4 an4 od5 an5 od6 an6 od7 an7 od8 an8 od9 an9 od10 an10 od11 an11 : Option Addr} {sl0 sl1 sl2 sl3 sl4 sl5 sl6 sl7 sl8 sl9 sl10 sl11 : Array (Option Value)} {oc0 kV0 dc0 pm0 cd0 ct0 oc1 kV1 dc1 pm1 cd1 ct1 oc2 kV2 dc2 pm2 cd2 ct2 oc3 kV3 dc3 pm3 cd3 ct3 oc4 kV4 dc4 pm4 cd4 ct4 oc5 kV5 dc5 pm5 cd5 ct5 oc6 kV6 dc6 pm6 cd6 ct6 oc7 kV7 dc7 pm7 cd7 ct7 oc8 kV8 dc8 pm8 cd8 ct8 oc9 kV9 dc9 pm9 cd9 ct9 oc10 kV10 dc10 pm10 cd10 ct10 oc11 kV11 dc11 pm11 cd11 ct11 : Value}
    (a0 : PySem.W.nsIn K mainGlobals "new_index" = some (some (.ref f0))) (l0 : K.lookup f0 = some ⟨oc0, od0, .func (PySem.W.fnOf "new_index" "new_index" (defArgs sNewIx) (defBody sNewIx) (defScope sNewIx) .none kV0 dc0 pm0 an0 cd0 ct0), sl0⟩) (c0 : PySem.W.codeIn K cd0 "new_index" = true) (k0 : PySem.W.keepIn K (.ref f0) = true)
    (a1 : PySem.W.nsIn K mainGlobals "after_command" = some (some (.ref f1))) (l1 : K.lookup f1 = some ⟨oc1, od1, .func (PySem.W.fnOf "after_command" "after_command" (defArgs sAfter) (defBody sAfter) (defScope sAfter) .none kV1 dc1 pm1 an1 cd1 ct1), sl1⟩) (c1 : PySem.W.codeIn K cd1 "after_command" = true) (k1 : PySem.W.keepIn K (.ref f1) = true)
    (a2 : PySem.W.nsIn K mainGlobals "apply" = some (some (.ref f2))) (l2 : K.lookup f2 = some ⟨oc2, od2, .func (PySem.W.fnOf "apply" "apply" (defArgs sApply) (defBody sApply) (defScope sApply) .none kV2 dc2 pm2 an2 cd2 ct2), sl2⟩) (c2 : PySem.W.codeIn K cd2 "apply" = true) (k2 : PySem.W.keepIn K (.ref f2) = true)
    (a3 : PySem.W.nsIn K mainGlobals "idle" = some (some (.ref f3))) (l3 : K.lookup f3 = some ⟨oc3, od3, .func (PySem.W.fnOf "idle" "idle" (defArgs sIdle) (defBody sIdle) (defScope sIdle) .none kV3 dc3 pm3 an3 cd3 ct3), sl3⟩) (c3 : PySem.W.codeIn K cd3 "idle" = true) (k3 : PySem.W.keepIn K (.ref f3) = true)
    (a4 : PySem.W.nsIn K mainGlobals "_law_cell" = some (some (.ref f4))) (l4 : K.lookup f4 = some ⟨oc4, od4, .func (PySem.W.fnOf "_law_cell" "_law_cell" (defArgs sCell) (defBody sCell) (defScope sCell) .none kV4 dc4 pm4 an4 cd4 ct4), sl4⟩) (c4 : PySem.W.codeIn K cd4 "_law_cell" = true) (k4 : PySem.W.keepIn K (.ref f4) = true)
    (a5 : PySem.W.nsIn K mainGlobals "_law_digits" = some (some (.ref f5))) (l5 : K.lookup f5 = some ⟨oc5, od5, .func (PySem.W.fnOf "_law_digits" "_law_digits" (defArgs sDigits) (defBody sDigits) (defScope sDigits) .none kV5 dc5 pm5 an5 cd5 ct5), sl5⟩) (c5 : PySem.W.codeIn K cd5 "_law_digits" = true) (k5 : PySem.W.keepIn K (.ref f5) = true)
    (a6 : PySem.W.nsIn K mainGlobals "_law_moved" = some (some (.ref f6))) (l6 : K.lookup f6 = some ⟨oc6, od6, .func (PySem.W.fnOf "_law_moved" "_law_moved" (defArgs sMoved) (defBody sMoved) (defScope sMoved) .none kV6 dc6 pm6 an6 cd6 ct6), sl6⟩) (c6 : PySem.W.codeIn K cd6 "_law_moved" = true) (k6 : PySem.W.keepIn K (.ref f6) = true)
    (a7 : PySem.W.nsIn K mainGlobals "_law_names" = some (some (.ref f7))) (l7 : K.lookup f7 = some ⟨oc7, od7, .func (PySem.W.fnOf "_law_names" "_law_names" (defArgs sNames) (defBody sNames) (defScope sNames) .none kV7 dc7 pm7 an7 cd7 ct7), sl7⟩) (c7 : PySem.W.codeIn K cd7 "_law_names" = true) (k7 : PySem.W.keepIn K (.ref f7) = true)
    (a8 : PySem.W.nsIn K mainGlobals "_law_mixed" = some (some (.ref f8))) (l8 : K.lookup f8 = some ⟨oc8, od8, .func (PySem.W.fnOf "_law_mixed" "_law_mixed" (defArgs sMixed) (defBody sMixed) (defScope sMixed) .none kV8 dc8 pm8 an8 cd8 ct8), sl8⟩) (c8 : PySem.W.codeIn K cd8 "_law_mixed" = true) (k8 : PySem.W.keepIn K (.ref f8) = true)
    (a9 : PySem.W.nsIn K mainGlobals "_law_command" = some (some (.ref f9))) (l9 : K.lookup f9 = some ⟨oc9, od9, .func (PySem.W.fnOf "_law_command" "_law_command" (defArgs sCommand) (defBody sCommand) (defScope sCommand) .none kV9 dc9 pm9 an9 cd9 ct9), sl9⟩) (c9 : PySem.W.codeIn K cd9 "_law_command" = true) (k9 : PySem.W.keepIn K (.ref f9) = true)
    (a10 : PySem.W.nsIn K mainGlobals "_law_script" = some (some (.ref f10))) (l10 : K.lookup f10 = some ⟨oc10, od10, .func (PySem.W.fnOf "_law_script" "_law_script" (defArgs sScript) (defBody sScript) (defScope sScript) .none kV10 dc10 pm10 an10 cd10 ct10), sl10⟩) (c10 : PySem.W.codeIn K cd10 "_law_script" = true) (k10 : PySem.W.keepIn K (.ref f10) = true)
    (a11 : PySem.W.nsIn K mainGlobals "law" = some (some (.ref f11))) (l11 : K.lookup f11 = some ⟨oc11, od11, .func (PySem.W.fnOf "law" "law" (defArgs sLaw) (defBody sLaw) (defScope sLaw) .none kV11 dc11 pm11 an11 cd11 ct11), sl11⟩) (c11 : PySem.W.codeIn K cd11 "law" = true) (k11 : PySem.W.keepIn K (.ref f11) = true)
    (z0 : PySem.W.nsIn K mainGlobals "len" = some none) (z1 : PySem.W.nsIn K mainGlobals "max" = some none) (z2 : PySem.W.nsIn K mainGlobals "min" = some none) (z3 : PySem.W.nsIn K mainGlobals "range" = some none) (z4 : PySem.W.nsIn K mainGlobals "tuple" = some none) (z5 : PySem.W.nsIn K mainGlobals "list" = some none) (z6 : PySem.W.nsIn K mainGlobals "enumerate" = some none) (z7 : PySem.W.nsIn K mainGlobals "int" = some none) (z8 : PySem.W.nsIn K mainGlobals "isinstance" = some none) :
    ∃ fd : FuncData, (∀ (s : Shared) (v : Value), BindsTo s fd ⟨[v], []⟩ [("script", v)]) ∧ ∀ bs : Heap, K.In bs → bs.Ns mainGlobals mg → FnOk l.prog w K mg bs CX0 4 fa fd ["script"] (spLaw K) := by
  have e := hfa.symm.trans (PySem.W.mg_of X G a11)
  cases e
  have F0 := fun_mk (st := sNewIx) l0 c0 k0
  have F1 := fun_mk (st := sAfter) l1 c1 k1
  have F2 := fun_mk (st := sApply) l2 c2 k2
  have F3 := fun_mk (st := sIdle) l3 c3 k3
  have F4 := fun_mk (st := sCell) l4 c4 k4
  have F5 := fun_mk (st := sDigits) l5 c5 k5
  have F6 := fun_mk (st := sMoved) l6 c6 k6
  have F7 := fun_mk (st := sNames) l7 c7 k7
  have F8 := fun_mk (st := sMixed) l8 c8 k8
  have F9 := fun_mk (st := sCommand) l9 c9 k9
  have F10 := fun_mk (st := sScript) l10 c10 k10
  have F11 := fun_mk (st := sLaw) l11 c11 k11
  have b0 := F0.binds (ps := ["word", "at", "last"]) fun _ _ _ _ _ _ us hl => match us, hl with | [_, _, _], _ => rfl
  have b1 := F1.binds (ps := ["order", "command"]) fun _ _ _ _ _ _ us hl => match us, hl with | [_, _], _ => rfl
  have b2 := F2.binds (ps := ["order", "script"]) fun _ _ _ _ _ _ us hl => match us, hl with | [_, _], _ => rfl
  have b3 := F3.binds (ps := ["order", "script"]) fun _ _ _ _ _ _ us hl => match us, hl with | [_, _], _ => rfl
  have b4 := F4.binds (ps := ["script", "index"]) fun _ _ _ _ _ _ us hl => match us, hl with | [_, _], _ => rfl
  have b5 := F5.binds (ps := ["script", "index", "count", "base"]) fun _ _ _ _ _ _ us hl => match us, hl with | [_, _, _, _], _ => rfl
  have b6 := F6.binds (ps := ["order", "command"]) fun _ _ _ _ _ _ us hl => match us, hl with | [_, _], _ => rfl
  have b7 := F7.binds (ps := ["digits", "count"]) fun _ _ _ _ _ _ us hl => match us, hl with | [_, _], _ => rfl
  have b8 := F8.binds (ps := ["digits", "names"]) fun _ _ _ _ _ _ us hl => match us, hl with | [_, _], _ => rfl
  have b9 := F9.binds (ps := ["digits", "order"]) fun _ _ _ _ _ _ us hl => match us, hl with | [_, _], _ => rfl
  have b10 := F10.binds (ps := ["digits", "order", "size"]) fun _ _ _ _ _ _ us hl => match us, hl with | [_, _, _], _ => rfl
  exact ⟨PySem.W.fnOf "law" "law" (defArgs sLaw) (defBody sLaw) (defScope sLaw) .none kV11 dc11 pm11 an11 cd11 ct11, fun s v => .of_eq rfl, fun bs _ _ => ok_law F11 ⟨F0, b0, PySem.W.mg_of X G a0⟩ ⟨F1, b1, PySem.W.mg_of X G a1⟩ ⟨F2, b2, PySem.W.mg_of X G a2⟩ ⟨F3, b3, PySem.W.mg_of X G a3⟩ ⟨F4, b4, PySem.W.mg_of X G a4⟩ ⟨F5, b5, PySem.W.mg_of X G a5⟩ ⟨F6, b6, PySem.W.mg_of X G a6⟩ ⟨F7, b7, PySem.W.mg_of X G a7⟩ ⟨F8, b8, PySem.W.mg_of X G a8⟩ ⟨F9, b9, PySem.W.mg_of X G a9⟩ ⟨F10, b10, PySem.W.mg_of X G a10⟩ (PySem.W.mg_none_of X G z0) (PySem.W.mg_none_of X G z1) (PySem.W.mg_none_of X G z2) (PySem.W.mg_none_of X G z3) (PySem.W.mg_none_of X G z4) (PySem.W.mg_none_of X G z5) (PySem.W.mg_none_of X G z6) (PySem.W.mg_none_of X G z7) (PySem.W.mg_none_of X G z8)⟩
end K2
open PySem PySem.W PyProof.Rows
set_option maxHeartbeats 0 in
theorem PySem.Challenge.cw_layersteps_k02_commands_applied_holds : PySem.Challenge.rw_layersteps_k02_commands_applied.Holds := by
  w_on; o_law; k_head; (case hw => w_witness2)
  k_fill
  refine L2.walk_of (l := PySem.Challenge.rw_layersteps_k02_commands_applied) (n := 63) (k := 4) (x := "script") (CX := fun _ => L2.CX0) (sp := fun w => K2.spLaw _) rfl (by decide) rfl ⟨rfl, by decide, by decide⟩ (fun w h Y => PySem.W.kIn_of Y) ?F (fun _ _ a ns hl _ hS => ⟨a, ns, rfl, hS, hl, fun _ => rfl⟩) (fun _ _ _ _ _ h => h)
  case F =>
    intro w mg fa h KX G hmg
    refine' K2.all_mk KX G hmg ?a0 ?l0 ?c0 ?k0 ?a1 ?l1 ?c1 ?k1 ?a2 ?l2 ?c2 ?k2 ?a3 ?l3 ?c3 ?k3 ?a4 ?l4 ?c4 ?k4 ?a5 ?l5 ?c5 ?k5 ?a6 ?l6 ?c6 ?k6 ?a7 ?l7 ?c7 ?k7 ?a8 ?l8 ?c8 ?k8 ?a9 ?l9 ?c9 ?k9 ?a10 ?l10 ?c10 ?k10 ?a11 ?l11 ?c11 ?k11 ?z0 ?z1 ?z2 ?z3 ?z4 ?z5 ?z6 ?z7 ?z8
    (case a0 => k_is); (case l0 => k_is); (case c0 => k_is); (case k0 => k_is); (case a1 => k_is); (case l1 => k_is); (case c1 => k_is); (case k1 => k_is); (case a2 => k_is); (case l2 => k_is); (case c2 => k_is); (case k2 => k_is); (case a3 => k_is); (case l3 => k_is); (case c3 => k_is); (case k3 => k_is); (case a4 => k_is); (case l4 => k_is); (case c4 => k_is); (case k4 => k_is); (case a5 => k_is); (case l5 => k_is); (case c5 => k_is); (case k5 => k_is); (case a6 => k_is); (case l6 => k_is); (case c6 => k_is); (case k6 => k_is); (case a7 => k_is); (case l7 => k_is); (case c7 => k_is); (case k7 => k_is); (case a8 => k_is); (case l8 => k_is); (case c8 => k_is); (case k8 => k_is); (case a9 => k_is); (case l9 => k_is); (case c9 => k_is); (case k9 => k_is); (case a10 => k_is); (case l10 => k_is); (case c10 => k_is); (case k10 => k_is); (case a11 => k_is); (case l11 => k_is); (case c11 => k_is); (case k11 => k_is); (case z0 => k_is); (case z1 => k_is); (case z2 => k_is); (case z3 => k_is); (case z4 => k_is); (case z5 => k_is); (case z6 => k_is); (case z7 => k_is); (case z8 => k_is)
