import PyProof.Rows.All
import Wide.All
import OpenK.AllK
import Wide.FinOn
import PyProof.EqAt
import PyProof.EqKinds
import PyProof.TupleCall
import PyProof.StationsW
import PyProof.ExcArgs
import PyProof.Seq
import PyProof.TupleIter
import PyProof.RangeIter
import PyProof.WalkInts
import PyProof.SumWalkG
import PyProof.ListRange
import PyProof.Rows.Range3
import OpenK.KDescr
import PyProof.ExcAttrAll.ValueError
import PyProof.Draws
import PyProof.EnumFor
import PyProof.EnumMake
import PyProof.LayNew
import PyProof.Rows.EnumRows
import PyProof.MinMaxWalk
import Lean
import PySem.Challenge.RW_cheapcovers_k52_fewest_hits
set_option Elab.async false
set_option linter.all false
set_option maxRecDepth 100000
set_option compiler.extract_closed false
set_option bootstrap.genMatcherCode false
set_option genSizeOfSpec false
section
set_option maxHeartbeats 4000000
namespace L3
open PySem
noncomputable def ExcO (h : Heap) (e : Addr) (cls head : Value) : Prop := ∃ ob vs, h.get? e = some ob ∧ ob.cls = cls ∧ ob.dict = none ∧ ob.data = .fields vs ∧ vs[2]? = some .none ∧ vs[1]? = some head
noncomputable def TbAt (h B : Heap) (e : Addr) (head fl : Value) : Prop := ∃ T ot ts, head = .ref T ∧ B.get? T = none ∧ T ≠ e ∧ h.get? T = some ot ∧ ot.data = .fields ts ∧ ts[3]? = some fl
structure Fly (B : Heap) (l : List Env) (e : Addr) (cls fl : Value) (h : Heap) : Prop where
  stays : B.StaysIn h
  new : B.get? e = none
  frames : h.FunFrames B l
  exc : ∃ head, ExcO h e cls head ∧ TbAt h B e head fl
theorem dict_map (o : Obj) (f) : (o.mapFields f).dict = o.dict := by
  obtain ⟨c, d, t, z⟩ := o
  cases t <;> rfl
section
variable {M : Model} {A : Around} {E : Value → Shared → Prop} {s : Shared} {B : Heap} {env : Env} {outer l : List Env} {L e : Addr} {cls head fl : Value}
theorem entry_wp {hd0 : Value} {hadNext : Bool} {Q : Unit → Shared → Prop} (hfr : A.frames = some (env :: outer)) (hl : s.heap.FunFrames B (env :: outer)) (hf : env.frame = some L) (hx : ExcO s.heap e cls head)
    (hkb : B.StaysIn s.heap) (hen : B.get? e = none) (q : ∀ h', Fly B (env :: outer) e cls (rawInt L) h' → s.heap.UpToSlots h' → Q () { s with heap := h' }) :
    wpAny M A (do let a ← frameOf env; let pl ← entryPlaceOf L hadNext; let b ← EntryCells.newEntry hd0 a .none (rawInt L) .none pl; setField (.ref e) 1 b) Q E s := by
  obtain ⟨ob, vs, h1, h2, h3, h4, h5, h6⟩ := hx
  have hsz : 1 < vs.size := (Array.getElem?_eq_some_iff.mp h6).1
  have nfr : e ∉ (env :: outer).filterMap (·.frame) := fun z => by
    obtain ⟨_, o, ho, hn⟩ := hl.mem z
    rw [h1] at ho
    cases ho
    exact hn vs h4
  refine wpAny_bind (wpAny_frameOf_fun hfr hl hf fun g sg => ?_)
  refine wpAny_bind (wpAny_entryPlaceOf fun pl hpl => ?_)
  unfold EntryCells.newEntry newFields
  refine wpAny_bind (wpAny_newObj_type ?_ (hpl.sizeOk5 _ _ _ _ _))
  have e1 : g.get? e = some ob := (sg.2.1 e nfr).trans h1
  have kb : B.StaysIn g := fun b o z => (sg.2.1 b fun w => by rw [(hl.mem w).1] at z; cases z).trans (hkb b o z)
  generalize hob : ({ cls := .type "traceback", dict := none, data := .fields ([hd0, .ref L, .none, rawInt L, .none] ++ (if pl.isEmpty then List.replicate 6 Value.none else pl)).toArray } : Obj) = tb
  have e2 : (g.push tb).get? e = some ob := Heap.get?_push_of_some _ e1
  have ne : g.objs.size ≠ e := Nat.ne_of_gt (Heap.lt_size e1)
  have d3 := Obj.data_mapFields h4 (·.setIfInBounds 1 (Value.ref g.objs.size))
  have e3 := Heap.get?_update_self (Obj.mapFields (·.setIfInBounds 1 (Value.ref g.objs.size))) e2 (Obj.isFreed_of_fields d3)
  have ft : tb.isFreed = false := by rw [← hob]; rfl
  have t3 : ((g.push tb).update e (Obj.mapFields (·.setIfInBounds 1 (Value.ref g.objs.size)))).get? g.objs.size = some tb := (Heap.get?_update_other _ _ (Ne.symm ne)).trans (Heap.get?_push_size g ft)
  have stay : ∀ b o, b ≠ e → g.get? b = some o → ((g.push tb).update e (Obj.mapFields (·.setIfInBounds 1 (Value.ref g.objs.size)))).get? b = some o := fun b o hb z => by
    rw [Heap.get?_update_other _ _ (Ne.symm hb)]
    exact Heap.get?_push_of_some _ z
  have nrec : ∀ b o, s.heap.get? b = some o → (∀ ws, o.data ≠ .fields ws) → b ≠ e := fun b o z hn w => by
    rw [w, h1] at z
    cases z
    exact hn vs h4
  have ht : ∃ ts, tb.data = .fields ts ∧ ts[3]? = some (rawInt L) := ⟨_, by rw [← hob], by rcases hpl with rfl | ⟨_, _, _, _, _, _, _, rfl⟩ <;> simp⟩
  obtain ⟨ts, ht1, ht2⟩ := ht
  refine wpAny_setField e2 h4 hsz (q _ ⟨fun b o z => stay b o (fun w => by rw [w, hen] at z; cases z) (kb b o z), hen, hl.of_keeps fun b o z hn => ?_, .ref g.objs.size, ⟨_, _, e3, (Obj.cls_mapFields _ _).trans h2, (dict_map _ _).trans h3, d3, ?_, ?_⟩, g.objs.size, tb, ts, rfl, kb.fresh, ne, t3, ht1, ht2⟩ fun b o z hn => ?_)
  · obtain ⟨sl, hs⟩ := sg.2.2 b o z
    exact ⟨_, stay b _ (nrec b o z hn) hs, rfl⟩
  · rw [Array.getElem?_setIfInBounds_ne (by decide)]
    exact h5
  · simp [hsz]
  · obtain ⟨sl, hs⟩ := sg.2.2 b o z
    exact ⟨sl, stay b _ (nrec b o z hn) hs⟩
theorem note_first {Q : Unit → Shared → Prop} (hfr : A.frames = some (env :: outer)) (hl : s.heap.FunFrames B (env :: outer)) (hf : env.frame = some L) (hx : ExcO s.heap e cls .none)
    (hkb : B.StaysIn s.heap) (hen : B.get? e = none) (q : ∀ h', Fly B (env :: outer) e cls (rawInt L) h' → s.heap.UpToSlots h' → Q () { s with heap := h' }) : wpAny M A (noteFrame (.ref e) env) Q E s := by
  obtain ⟨ob, vs, h1, h2, h3, h4, h5, h6⟩ := id hx
  unfold noteFrame
  simp only [hf]
  refine wpAny_bind (wpAny_field h1 h4 h6 ?_)
  rw [if_neg (by decide)]
  exact entry_wp hfr hl hf hx hkb hen q
theorem flight_off {Q : Unit → Shared → Prop} (y : Fly B l e cls fl s.heap) (q : ∀ h', Fly B l e cls .none h' → (∀ b o, s.heap.get? b = some o → (∀ ws, o.data ≠ .fields ws) → h'.get? b = some o) → Q () { s with heap := h' }) :
    wpAny M A (setFlight (.ref e) none) Q E s := by
  obtain ⟨hkb, hen, hl, hd, ⟨ob, vs, h1, h2, h3, h4, h5, h6⟩, T, ot, ts, rfl, t1, t2, t3, t4, t5⟩ := y
  have hsz := (Array.getElem?_eq_some_iff.mp t5).1
  have oth : ∀ b, b ≠ T → (s.heap.update T (Obj.mapFields (·.setIfInBounds 3 ((none : Option Addr).elim Value.none fun f => rawInt f)))).get? b = s.heap.get? b := fun b hb => Heap.get?_update_other _ _ (Ne.symm hb)
  have nrec : ∀ b o, s.heap.get? b = some o → (∀ ws, o.data ≠ .fields ws) → b ≠ T := fun b o z hn w => by
    rw [w, t3] at z
    cases z
    exact hn ts t4
  unfold setFlight
  refine wpAny_bind (wpAny_field h1 h4 h6 ?_)
  rw [if_pos (show (Value.ref T != Value.none) = true by simp)]
  refine wpAny_setField t3 t4 hsz (q _ ⟨fun b o z => (oth b fun w => by rw [w, t1] at z; cases z).trans (hkb b o z), hen, hl.of_keeps fun b o z hn => ⟨o, (oth b (nrec b o z hn)).trans z, rfl⟩,
    .ref T, ⟨ob, vs, (oth e (Ne.symm t2)).trans h1, h2, h3, h4, h5, h6⟩, T, _, _, rfl, t1, t2, Heap.get?_update_self _ t3 (Obj.isFreed_of_fields (Obj.data_mapFields t4 _)), Obj.data_mapFields t4 _, by simp [hsz]⟩ fun b o z hn => (oth b (nrec b o z hn)).trans z)
theorem Fly.tail {h : Heap} (y : Fly B (env :: outer) e cls fl h) : Fly B outer e cls fl h := ⟨y.stays, y.new, y.frames.2.2, y.exc⟩
theorem leave_first {Q : Unit → Shared → Prop} (hfr : A.frames = some (env :: outer)) (hl : s.heap.FunFrames B (env :: outer)) (hf : env.frame = some L) (hx : ExcO s.heap e cls .none)
    (hkb : B.StaysIn s.heap) (hen : B.get? e = none) (q : ∀ h', Fly B outer e cls .none h' → s.heap.UpToSlots h' → Q () { s with heap := h' }) : wpAny M A (leaving env (.ref e)) Q E s := by
  unfold leaving
  refine wpAny_bind (note_first hfr hl hf hx hkb hen fun h1 y1 u1 => ?_)
  refine flight_off (s := { s with heap := h1 }) y1 fun h2 y2 k2 => q h2 y2.tail (u1.trans fun b o z hn => ⟨o.slots, k2 b o z hn⟩)
theorem exc_made {h h' : Heap} {args : List Value} (x : Heap.MadeExcOf h h' e cls args) : ExcO h' e cls .none := by
  obtain ⟨t, h1, _, _⟩ := x.there
  exact ⟨_, _, h1, rfl, rfl, rfl, rfl, rfl⟩
end
end L3
end
section
set_option maxHeartbeats 4000000
namespace L3
open PySem
theorem unchain_entry : entryFor table "proto.unchain" = some Builtin.«proto.unchain» := entryFor_of_tree (by kernel_rfl)
section
variable {prog : Program} {w : World} {A : Around} {E : Value → Shared → Prop} {s : Shared}
theorem raise_hand {α : Type} {a h : Addr} {o : Obj} {us : Array Value} {cls head : Value} {Q : α → Shared → Prop} (hh : A.handled = some (.ref h)) (hx : ExcO s.heap h cls head) (ho : s.heap.get? a = some o) (hd : o.data = .fields us) (hz : 2 < us.size) (hne : h ≠ a)
    (q : E (.ref a) { s with heap := s.heap.update a (Obj.mapFields (·.setIfInBounds 2 (.ref h))) }) : wpAny (model prog w) A (raiseNew (.ref a) : Sem α) Q E s := by
  obtain ⟨ob, vs, h1, h2, h3, h4, h5, h6⟩ := hx
  unfold raiseNew
  refine wpAny_bind (wpAny_handled ?_)
  rw [hh]
  dsimp only
  rw [if_pos (show (Value.ref h != Value.ref a) = true by simp [hne])]
  refine wpAny_bind (wpAny_holding (wpAny_runValue (codeAny_builtin unchain_entry ?_)))
  unfold Builtin.«proto.unchain»
  refine wpAny_bind (wpAny_field h1 h4 h5 ?_)
  rw [if_pos (show (Value.none == Value.none) = true from rfl)]
  refine wpAny_bind (wpAny_pure (wpAny_pure ?_))
  refine wpAny_bind ?_
  obtain ⟨c, d, dt, sl⟩ := o
  dsimp only at hd
  subst hd
  unfold updateField
  refine wpAny_bind (wpAny_load ho ?_)
  dsimp only
  rw [if_pos hz]
  exact wpAny_update ho (wpAny_throw q)
noncomputable def Hand (A : Around) (h : Heap) : Prop := A.handled = none ∨ ∃ a cls head, A.handled = some (.ref a) ∧ ExcO h a cls head
theorem list_end {it l : Addr} {i : Nat} {items : Array Value} {Q : Option Value → Shared → Prop} (hh : Hand A s.heap) (hit : s.heap.IsListIter it l i) (hl : s.heap.IsList l items) (hx : items[i]? = none)
    (k : ∀ h', Heap.ExtBut it s.heap h' → Q none { s with heap := h' }) : wpAny (model prog w) A (pyNext (.ref it)) Q E s := by
  rcases hh with hh | ⟨ha, cls, head, hh, hX⟩
  · exact wpAny_pyNext_list_end hh hit hl hx k
  obtain ⟨o, h1, h2, h3⟩ := id hit
  obtain ⟨ol, l1, _, nl, l2⟩ := hl
  unfold pyNext
  refine wpAny_bind (wpAny_attempt (wpAny_callSpecial?_slot (name := Str.ofString "__next__") hit.typeIs slot_listiter_next (wpAny_call_entry slot_listiter_next hit.typeIs entry_listiter_next ?_ (args_listiter_next _))))
  show wpAny _ _ (field (.ref it) 0 >>= _) _ _ s
  refine wpAny_bind (wpAny_field h1 h3 (x := .ref l) rfl ?_)
  show wpAny _ _ (if (Value.ref l == Value.none) = true then _ else _) _ _ s
  rw [if_neg (show ¬ (Value.ref l == Value.none) = true from nofun)]
  show wpAny _ _ (field (.ref it) 1 >>= _) _ _ s
  refine wpAny_bind (wpAny_field h1 h3 (x := .int i 0) rfl ?_)
  show wpAny _ _ (seqItems? (.ref l) >>= _) _ _ s
  refine wpAny_bind (wpAny_seqItems l1 l2 ?_)
  simp only [Int.toNat_natCast, hx]
  refine wpAny_bind (wpAny_rule (wpAny_bind (wpAny_setField h1 h3 (by simp) ?_)))
  have nit : ha ≠ it := fun z => by
    subst z
    obtain ⟨ob, vs, x1, _, _, x4, x5, x6⟩ := hX
    rw [h1] at x1
    cases x1
    rw [h3] at x4
    cases x4
    simp at x5
  have hX1 : ExcO (s.heap.update it (Obj.mapFields (·.setIfInBounds 0 Value.none))) ha cls head := by
    obtain ⟨ob, vs, x1, x2⟩ := hX
    exact ⟨ob, vs, (Heap.get?_update_other _ _ (Ne.symm nit)).trans x1, x2⟩
  show wpAny _ _ (newExc (.type "StopIteration") [] >>= _) _ _ _
  refine wpAny_bind ?_
  simp only [newExc, newTuple]
  refine wpAny_bind (wpAny_newObj_type ?_ (by size_fits))
  refine wpAny_bind (m := firstArgMember _ _) (wpAny_of_eq (a := Value.none) (by first | rfl | (simp only [firstArgMember]; rfl)) ?_)
  refine wpAny_newObj_type ?_ (by size_fits)
  obtain ⟨ob, vs, x1, x2⟩ := hX1
  have y1 := Heap.get?_push_of_some { cls := .type "tuple", dict := none, data := .seq [].toArray } x1
  refine raise_hand (h := ha) (cls := cls) (head := head) hh ⟨ob, vs, Heap.get?_push_of_some _ y1, x2⟩ (Heap.get?_push_size _ rfl) rfl (by simp; omega) (Nat.ne_of_lt (Heap.lt_size y1)) ?_
  refine wpAny_bind (wpAny_isInstance (T := "StopIteration") (b := true) ⟨_, Heap.get?_update_self _ (Heap.get?_push_size _ rfl) rfl, rfl⟩ isSubtype_stop ?_)
  refine wpAny_pure (k _ fun b o hb z => ?_)
  have z1 : (s.heap.update it (Obj.mapFields (·.setIfInBounds 0 Value.none))).get? b = some o := (Heap.get?_update_other _ _ (Ne.symm hb)).trans z
  have z2 := Heap.get?_push_of_some { cls := .type "tuple", dict := none, data := .seq [].toArray } z1
  rw [Heap.get?_update_other _ _ (Nat.ne_of_gt (Heap.lt_size z2))]
  exact Heap.get?_push_of_some _ z2
theorem tuple_end {it l : Addr} {i : Nat} {items : Array Value} {Q : Option Value → Shared → Prop} (hh : Hand A s.heap) (hit : s.heap.IsTupleIter it l i) (hl : s.heap.IsTuple l items) (hx : items[i]? = none)
    (k : ∀ h', Heap.ExtBut it s.heap h' → Q none { s with heap := h' }) : wpAny (model prog w) A (pyNext (.ref it)) Q E s := by
  rcases hh with hh | ⟨ha, cls, head, hh, hX⟩
  · exact wpAny_pyNext_tuple_end hh hit hl hx k
  obtain ⟨o, h1, h2, h3⟩ := id hit
  obtain ⟨ol, l1, _, nl, l2⟩ := hl
  unfold pyNext
  refine wpAny_bind (wpAny_attempt (wpAny_callSpecial?_slot (name := Str.ofString "__next__") hit.typeIs F.slot_tuple_iterator_next (wpAny_call_entry F.slot_tuple_iterator_next hit.typeIs F.entry_tuple_iterator_next ?_ (F.args_tuple_iterator_next_1 _))))
  show wpAny _ _ (field (.ref it) 0 >>= _) _ _ s
  refine wpAny_bind (wpAny_field h1 h3 (x := .ref l) rfl ?_)
  show wpAny _ _ (if (Value.ref l == Value.none) = true then _ else _) _ _ s
  rw [if_neg (show ¬ (Value.ref l == Value.none) = true from nofun)]
  show wpAny _ _ (field (.ref it) 1 >>= _) _ _ s
  refine wpAny_bind (wpAny_field h1 h3 (x := .int i 0) rfl ?_)
  show wpAny _ _ (seqItems? (.ref l) >>= _) _ _ s
  refine wpAny_bind (wpAny_seqItems l1 l2 ?_)
  simp only [Int.toNat_natCast, hx]
  refine wpAny_bind (wpAny_rule (wpAny_bind (wpAny_setField h1 h3 (by simp) ?_)))
  have nit : ha ≠ it := fun z => by
    subst z
    obtain ⟨ob, vs, x1, _, _, x4, x5, x6⟩ := hX
    rw [h1] at x1
    cases x1
    rw [h3] at x4
    cases x4
    simp at x5
  have hX1 : ExcO (s.heap.update it (Obj.mapFields (·.setIfInBounds 0 Value.none))) ha cls head := by
    obtain ⟨ob, vs, x1, x2⟩ := hX
    exact ⟨ob, vs, (Heap.get?_update_other _ _ (Ne.symm nit)).trans x1, x2⟩
  show wpAny _ _ (newExc (.type "StopIteration") [] >>= _) _ _ _
  refine wpAny_bind ?_
  simp only [newExc, newTuple]
  refine wpAny_bind (wpAny_newObj_type ?_ (by size_fits))
  refine wpAny_bind (m := firstArgMember _ _) (wpAny_of_eq (a := Value.none) (by first | rfl | (simp only [firstArgMember]; rfl)) ?_)
  refine wpAny_newObj_type ?_ (by size_fits)
  obtain ⟨ob, vs, x1, x2⟩ := hX1
  have y1 := Heap.get?_push_of_some { cls := .type "tuple", dict := none, data := .seq [].toArray } x1
  refine raise_hand (h := ha) (cls := cls) (head := head) hh ⟨ob, vs, Heap.get?_push_of_some _ y1, x2⟩ (Heap.get?_push_size _ rfl) rfl (by simp; omega) (Nat.ne_of_lt (Heap.lt_size y1)) ?_
  refine wpAny_bind (wpAny_isInstance (T := "StopIteration") (b := true) ⟨_, Heap.get?_update_self _ (Heap.get?_push_size _ rfl) rfl, rfl⟩ isSubtype_stop ?_)
  refine wpAny_pure (k _ fun b o hb z => ?_)
  have z1 : (s.heap.update it (Obj.mapFields (·.setIfInBounds 0 Value.none))).get? b = some o := (Heap.get?_update_other _ _ (Ne.symm hb)).trans z
  have z2 := Heap.get?_push_of_some { cls := .type "tuple", dict := none, data := .seq [].toArray } z1
  rw [Heap.get?_update_other _ _ (Nat.ne_of_gt (Heap.lt_size z2))]
  exact Heap.get?_push_of_some _ z2
theorem range_end {it : Addr} {x left step : Int} {Q : Option Value → Shared → Prop} (hh : Hand A s.heap) (hit : IsRangeIter s.heap it x left step) (hleft : left ≤ 0)
    (k : ∀ h', Heap.ExtBut it s.heap h' → Q none { s with heap := h' }) : wpAny (model prog w) A (pyNext (.ref it)) Q E s := by
  rcases hh with hh | ⟨ha, cls, head, hh, hX⟩
  · exact wpAny_pyNext_range_end hh hit hleft k
  have hT : s.TypeIs (.ref it) "range_iterator" := ⟨_, hit, rfl⟩
  unfold pyNext
  refine wpAny_bind (wpAny_attempt (wpAny_callSpecial?_slot (name := Str.ofString "__next__") hT F.slot_range_iterator_next (wpAny_call_entry F.slot_range_iterator_next hT F.entry_range_iterator_next ?_ (F.args_range_iterator_next_1 _))))
  show wpAny _ _ (field (.ref it) 0 >>= _) _ _ s
  refine wpAny_bind (wpAny_field hit rfl (x := rawInt x) rfl ?_)
  show wpAny _ _ (field (.ref it) 1 >>= _) _ _ s
  refine wpAny_bind (wpAny_field hit rfl (x := rawInt left) rfl ?_)
  show wpAny _ _ (field (.ref it) 2 >>= _) _ _ s
  refine wpAny_bind (wpAny_field hit rfl (x := rawInt step) rfl ?_)
  show wpAny _ _ (if left ≤ 0 then _ else _) _ _ s
  rw [if_pos hleft]
  refine wpAny_bind (wpAny_rule (wpAny_bind ?_))
  show wpAny _ _ (newExc (.type "StopIteration") [] >>= _) _ _ _
  refine wpAny_bind ?_
  simp only [newExc, newTuple]
  refine wpAny_bind (wpAny_newObj_type ?_ (by size_fits))
  refine wpAny_bind (m := firstArgMember _ _) (wpAny_of_eq (a := Value.none) (by first | rfl | (simp only [firstArgMember]; rfl)) ?_)
  refine wpAny_newObj_type ?_ (by size_fits)
  obtain ⟨ob, vs, x1, x2⟩ := hX
  have y1 := Heap.get?_push_of_some { cls := .type "tuple", dict := none, data := .seq [].toArray } x1
  refine raise_hand (h := ha) (cls := cls) (head := head) hh ⟨ob, vs, Heap.get?_push_of_some _ y1, x2⟩ (Heap.get?_push_size _ rfl) rfl (by simp; omega) (Nat.ne_of_lt (Heap.lt_size y1)) ?_
  refine wpAny_bind (wpAny_isInstance (T := "StopIteration") (b := true) ⟨_, Heap.get?_update_self _ (Heap.get?_push_size _ rfl) rfl, rfl⟩ isSubtype_stop ?_)
  refine wpAny_pure (k _ fun b o hb z => ?_)
  have z2 := Heap.get?_push_of_some { cls := .type "tuple", dict := none, data := .seq [].toArray } z
  rw [Heap.get?_update_other _ _ (Nat.ne_of_gt (Heap.lt_size z2))]
  exact Heap.get?_push_of_some _ z2
theorem ExcO.keep {h h' : Heap} {a : Addr} {cls head : Value} (x : ExcO h a cls head) (k : ∀ o, h.get? a = some o → h'.get? a = some o) : ExcO h' a cls head := by
  obtain ⟨ob, vs, x1, x2⟩ := x
  exact ⟨ob, vs, k _ x1, x2⟩
theorem walks_hand {ha : Addr} {cls head : Value} (hh : A.handled = some (.ref ha)) (I ax : Addr) (hne : ax ≠ I) (hn2 : ha ≠ I) (items : Array Value) :
    Walks prog w A I [I, ax, ha] [I] items.size (fun i v => items[i]? = some v) (fun i h => h.IsListIter I ax i ∧ h.IsList ax items ∧ ExcO h ha cls head) where
  sub := fun b hb => by simp at hb; simp [hb]
  frame := fun _ _ _ st hk => ⟨st.1.at fun o e => hk I (by simp) o e, st.2.1.at fun o e => hk ax (by simp) o e, st.2.2.keep fun o e => hk ha (by simp) o e⟩
  item := fun i s Q E hi st hQ => by
    refine wpAny_pyNext_list_item st.1 st.2.1 (x := items[i]) (by simp [hi]) fun h' hit' hs' => ?_
    exact hQ _ h' s.toks (by simp [hi]) ⟨hit', st.2.1.extBut hs'.extBut hne, st.2.2.keep fun o e => hs'.extBut ha o hn2 e⟩ fun b o hb e => hs'.extBut b o (fun h => hb (by simp [h])) e
  done := fun s Q E st hQ => list_end (.inr ⟨ha, cls, head, hh, st.2.2⟩) st.1 st.2.1 (by simp) fun h' he' => hQ h' s.toks fun b o hb e => he' b o (fun h => hb (by simp [h])) e
  self := fun _ _ _ _ st hQ => wpAny_pyIter_listiter st.1 hQ
end
end L3
end
namespace L2
open PySem PySem.Spec PyProof.Rows
noncomputable abbrev Key := Sum Int Str
noncomputable def keyIs : Key → Value → Bool
  | .inl k, v => Value.isInt k v
  | .inr x, v => Value.isStrOf x v
noncomputable def keyH (w : World) : Key → Int
  | .inl k => hashInt k
  | .inr x => hashStr w x
theorem keyIs_shape : ∀ {k : Key} {v : Value}, keyIs k v = true → (∃ i t, k = Sum.inl i ∧ v = Value.int i t) ∨ (∃ x t, k = Sum.inr x ∧ v = Value.str x t)
  | .inl i, v, h => by
    obtain ⟨t, e⟩ := Value.isInt_shape (k := i) (v := v) h
    exact .inl ⟨i, t, rfl, e⟩
  | .inr x, v, h => by
    obtain ⟨t, e⟩ := Value.isStrOf_shape (x := x) (v := v) h
    exact .inr ⟨x, t, rfl, e⟩
theorem key_ll (a b : Int) : decide ((Sum.inl a : Key) = Sum.inl b) = (a == b) := by
  by_cases e : a = b
  · subst e; simp
  · have h : ¬ (Sum.inl a : Key) = Sum.inl b := fun q => e (Sum.inl.inj q)
    rw [decide_eq_false h]
    exact (beq_eq_false_iff_ne.mpr e).symm
theorem key_rr (a b : Str) : decide ((Sum.inr a : Key) = Sum.inr b) = decide (a = b) := by
  by_cases e : a = b
  · subst e; simp
  · have h : ¬ (Sum.inr a : Key) = Sum.inr b := fun q => e (Sum.inr.inj q)
    rw [decide_eq_false h, decide_eq_false e]
theorem key_lr (a : Int) (b : Str) : decide ((Sum.inl a : Key) = Sum.inr b) = false := decide_eq_false (fun q => nomatch q)
theorem key_rl (a : Str) (b : Int) : decide ((Sum.inr a : Key) = Sum.inl b) = false := decide_eq_false (fun q => nomatch q)
noncomputable def mixKind (prog : Program) (w : World) : PySem.KeyKind prog w Key where
  is := keyIs
  hash := keyH w
  inj := fun v a b ha hb => by
    rcases keyIs_shape ha with ⟨i, t, rfl, rfl⟩ | ⟨x, t, rfl, rfl⟩
    · rcases keyIs_shape hb with ⟨j, u, rfl, e⟩ | ⟨y, u, rfl, e⟩
      · injection e with e1 _; rw [e1]
      · exact nomatch e
    · rcases keyIs_shape hb with ⟨j, u, rfl, e⟩ | ⟨y, u, rfl, e⟩
      · exact nomatch e
      · injection e with e1 _; rw [e1]
  byValue := fun k v h => by
    rcases keyIs_shape h with ⟨i, t, rfl, rfl⟩ | ⟨x, t, rfl, rfl⟩ <;> rfl
  pyHash := fun hv h => by
    rcases keyIs_shape hv with ⟨i, t, rfl, rfl⟩ | ⟨x, t, rfl, rfl⟩
    · exact wpAny_pyHash_int h
    · exact wpAny_pyHash_str h
  eqBool := fun hu hv h => by
    rcases keyIs_shape hu with ⟨i, t, rfl, rfl⟩ | ⟨x, t, rfl, rfl⟩
    · rcases keyIs_shape hv with ⟨j, u, rfl, rfl⟩ | ⟨y, u, rfl, rfl⟩
      · rw [key_ll] at h; exact wpAny_eqBool_int h
      · rw [key_lr] at h; exact SeqAt.EqAt.int_str i t y u _ _ _ _ h
    · rcases keyIs_shape hv with ⟨j, u, rfl, rfl⟩ | ⟨y, u, rfl, rfl⟩
      · rw [key_rl] at h; exact SeqAt.EqAt.str_int x t j u _ _ _ _ h
      · rw [key_rr] at h; exact wpAny_eqBool_str h
  «strs» := fun k x t v h => by
    rcases keyIs_shape h with ⟨i, u, rfl, e⟩ | ⟨y, u, rfl, e⟩
    · exact nomatch e
    · injection e with e1 _
      subst e1
      cases v <;> rfl
end L2
namespace L2
open PySem PySem.Spec PyProof.Rows
inductive V where
  | non | bl (b : Bool) | int (i : Int) | str (x : Str) | byt (b : Array UInt8) | flt (b : UInt64) | ref (a : Addr) | ty (n : String)
  deriving DecidableEq
noncomputable def RelV : V → Value → Prop
  | .non, u => u = Value.none
  | .bl b, u => u = Value.bool b
  | .int i, u => ∃ t, u = Value.int i t
  | .str x, u => ∃ t, u = Value.str x t
  | .byt b, u => ∃ t, u = Value.bytes b t
  | .flt b, u => ∃ t, u = Value.float b t
  | .ref a, u => u = Value.ref a
  | .ty n, u => u = Value.type n
noncomputable abbrev Vals : List V → List Value → Prop := Paired RelV
theorem Vals.length {xs : List V} {us : List Value} (r : Vals xs us) : xs.length = us.length := Paired.length r
theorem Vals.get : ∀ {xs : List V} {us : List Value} {i : Nat} {x : V}, Vals xs us → xs[i]? = some x → ∃ u, us[i]? = some u ∧ RelV x u
  | _, _, _, _, .nil, e => by simp at e
  | _, _, 0, _, .cons r _, e => by simp at e; subst e; exact ⟨_, rfl, r⟩
  | _, _, i + 1, x, .cons _ t, e => by
    obtain ⟨u, h1, h2⟩ := Vals.get (i := i) (x := x) t (by simpa using e)
    exact ⟨u, by simpa using h1, h2⟩
theorem Vals.set {x : V} {u : Value} (r : RelV x u) : ∀ {xs : List V} {us : List Value} (i : Nat), Vals xs us → Vals (xs.set i x) (us.set i u)
  | _, _, _, .nil => .nil
  | _, _, 0, .cons _ t => .cons r t
  | _, _, i + 1, .cons q t => .cons q (Vals.set r i t)
theorem Vals.append : ∀ {xs ys : List V} {us ws : List Value}, Vals xs us → Vals ys ws → Vals (xs ++ ys) (us ++ ws)
  | _, _, _, _, .nil, s => s
  | _, _, _, _, .cons r t, s => .cons r (Vals.append t s)
theorem Vals.take : ∀ {xs : List V} {us : List Value} (n : Nat), Vals xs us → Vals (xs.take n) (us.take n)
  | _, _, 0, _ => .nil
  | _, _, _ + 1, .nil => .nil
  | _, _, n + 1, .cons r t => .cons r (Vals.take n t)
theorem Vals.drop : ∀ {xs : List V} {us : List Value} (n : Nat), Vals xs us → Vals (xs.drop n) (us.drop n)
  | _, _, 0, r => r
  | _, _, _ + 1, .nil => .nil
  | _, _, n + 1, .cons _ t => Vals.drop n t
noncomputable def RelO : Option V → Option Value → Prop
  | some v, some u => RelV v u
  | none, none => True
  | _, _ => False
noncomputable def KV {κ : Type} : List (κ × V) → List (κ × Value) → Prop := Paired fun (p : κ × V) (q : κ × Value) => p.1 = q.1 ∧ RelV p.2 q.2
noncomputable def kV : Key → V
  | .inl i => .int i
  | .inr x => .str x
inductive HO where
  | lst (xs : List V)
  | tup (xs : List V)
  | dK (kvs : List (Key × V)) | dT (kvs : List (List Key × V))
  | set (S : Int → Bool) (n : Nat)
  | ins (C dx : Addr) (fs : List (Str × V))
  | own (x : Addr)
  | xd (fs : List (Str × V))
  | met (f x : Addr)
  | rng (lo hi : Int)
  | frz (o : Obj) (u : HO)
  | tbl (ps : Array Value)
  | ext (φ : Heap → Prop)
noncomputable abbrev Hp := Addr → Option HO
noncomputable def upd (H : Hp) (a : Addr) (o : HO) : Hp := fun b => if b = a then some o else H b
theorem upd_same {H : Hp} {a : Addr} {o : HO} : upd H a o a = some o := by unfold upd; rw [if_pos rfl]
theorem upd_ne {H : Hp} {a b : Addr} {o : HO} (h : b ≠ a) : upd H a o b = H b := by unfold upd; rw [if_neg h]
theorem ne_of_none {H : Hp} {a b : Addr} {o : HO} (h : H a = some o) (h' : H b = none) : a ≠ b := by
  intro e; subst e; rw [h] at h'; cases h'
section
variable (P : Program) (w : World)
noncomputable def ObjOk (H : Hp) (h : Heap) (a : Addr) : HO → Prop
  | .lst xs => xs.length ≤ sizeLine ∧ ∃ (its : List Value) (n : Nat), Vals xs its ∧ h.get? a = some { cls := .type "list", data := .seq its.toArray n }
  | .tup xs => xs.length ≤ sizeLine ∧ ∃ its : List Value, Vals xs its ∧ IsTup h a its.toArray
  | .dK kvs => kvs.length ≤ sizeLine ∧ (a == sysModules) = false ∧ ∃ vs, KV kvs vs ∧ h.DictOf (mixKind P w) a vs
  | .dT kvs => kvs.length ≤ sizeLine ∧ (a == sysModules) = false ∧ ∃ xs : List (List Key × Addr × Value),
      Paired (fun (p : List Key × V) (q : List Key × Addr × Value) => p.1 = q.1 ∧ H q.2.1 = some (.tup (p.1.map kV)) ∧ RelV p.2 q.2.2) kvs xs ∧
      ∃ o es ep, h.get? a = some o ∧ o.ExactDict ∧ o.data = .dict es ep ∧ es.toList = xs.map (entryOfKey (tupleKind (mixKind P w))) ∧ (xs.map (·.1)).Nodup
  | .set S n => h.SetOf (intKind P w) a S n
  | .ins C dx fs => H dx = some (.own a) ∧ fs.length ≤ 1000 ∧ dx ≠ a ∧ h.get? a = some (W.instObj C dx) ∧
      ∃ mA, h.Ns1 dx mA ∧ (∀ f, RelO (fs.lookup f) (mA f)) ∧ PySem.Within mA (fs.map (·.1))
  | .own _ => ∃ o, h.get? a = some o
  | .xd fs => ∃ mA, h.Ns1 a mA ∧ ∀ f, RelO (fs.lookup f) (mA f)
  | .rng lo hi => ∃ t u v, h.get? a = some { cls := .type "range", data := .fields #[.int lo t, .int hi u, .int 1 v] }
  | .frz o u => h.get? a = some o ∧ ObjOk H h a u
  | .tbl ps => h.get? a = some { cls := .none, data := .fields ps }
  | .met f x => h.get? a = some (W.methodObj (.ref f) (.ref x))
  | .ext φ => φ h ∧ (∃ o, h.get? a = some o) ∧ ∀ h1 h2 : Heap, φ h1 → (∀ o, h1.get? a = some o → h2.get? a = some o) → φ h2
noncomputable def HOk (H : Hp) (h : Heap) : Prop := ∀ a o, H a = some o → ObjOk P w H h a o
end
section
variable {P : Program} {w : World} {H H' : Hp} {h h' : Heap} {a : Addr} {o : HO}
theorem ObjOk.lt (x : ObjOk P w H h a o) : a < h.objs.size := by
  cases o with
  | lst xs => obtain ⟨_, _, _, _, e⟩ := x; exact Heap.lt_size e
  | tup xs => obtain ⟨_, _, _, p⟩ := x; exact p.lt
  | dK kvs => obtain ⟨_, _, _, _, o, _, _, e, _⟩ := x; exact Heap.lt_size e
  | dT kvs => obtain ⟨_, _, _, _, o, _, _, e, _⟩ := x; exact Heap.lt_size e
  | set S n => obtain ⟨o, _, _, _, e, _⟩ := x; exact Heap.lt_size e
  | ins C dx fs => obtain ⟨_, _, _, e, _⟩ := x; exact Heap.lt_size e
  | own y => obtain ⟨_, e⟩ := x; exact Heap.lt_size e
  | xd fs => obtain ⟨_, ⟨_, _, _, e, _⟩, _⟩ := x; exact Heap.lt_size e
  | rng lo hi => obtain ⟨_, _, _, e⟩ := x; exact Heap.lt_size e
  | frz ob u => obtain ⟨e, _⟩ := x; exact Heap.lt_size e
  | tbl ps => exact Heap.lt_size (show h.get? a = some _ from x)
  | met f y => exact Heap.lt_size (show h.get? a = some _ from x)
  | ext φ => obtain ⟨_, ⟨_, e⟩, _⟩ := x; exact Heap.lt_size e
theorem Paired.mapP {α β : Type} {F G : α → β → Prop} : ∀ {l₁ : List α} {l₂ : List β}, Paired F l₁ l₂ → (∀ a b, F a b → G a b) → Paired G l₁ l₂
  | _, _, .nil, _ => .nil
  | _, _, .cons r t, f => .cons (f _ _ r) (Paired.mapP t f)
theorem ObjOk.stay (x : ObjOk P w H h a o) (k : ∀ b u, (b = a ∨ H b = some (.own a)) → h.get? b = some u → h'.get? b = some u)
    (ho : ∀ b, H b = some (.own a) → H' b = some (.own a)) (ht : ∀ b xs, H b = some (.tup xs) → H' b = some (.tup xs)) : ObjOk P w H' h' a o := by
  induction o with
  | lst xs => obtain ⟨z, its, n, r, e⟩ := x; exact ⟨z, its, n, r, k _ _ (.inl rfl) e⟩
  | tup xs => obtain ⟨z, its, r, ob, e, c⟩ := x; exact ⟨z, its, r, ob, k _ _ (.inl rfl) e, c⟩
  | dK kvs => obtain ⟨z, y, vs, r, ob, es, ep, e, c⟩ := x; exact ⟨z, y, vs, r, ob, es, ep, k _ _ (.inl rfl) e, c⟩
  | dT kvs =>
    obtain ⟨z, y, xs, r, ob, es, ep, e, c⟩ := x
    exact ⟨z, y, xs, Paired.mapP r fun p q z => ⟨z.1, ht _ _ z.2.1, z.2.2⟩, ob, es, ep, k _ _ (.inl rfl) e, c⟩
  | set S n => obtain ⟨ob, es, ep, t, e, c⟩ := x; exact ⟨ob, es, ep, t, k _ _ (.inl rfl) e, c⟩
  | ins C dx fs =>
    obtain ⟨d, z, ne, e, mA, ⟨od, es, ep, e2, c⟩, r⟩ := x
    exact ⟨ho _ d, z, ne, k _ _ (.inl rfl) e, mA, ⟨od, es, ep, k _ _ (.inr d) e2, c⟩, r⟩
  | own y => obtain ⟨ob, e⟩ := x; exact ⟨ob, k _ _ (.inl rfl) e⟩
  | xd fs => obtain ⟨mA, ⟨od, es, ep, e, c⟩, r⟩ := x; exact ⟨mA, ⟨od, es, ep, k _ _ (.inl rfl) e, c⟩, r⟩
  | rng lo hi => obtain ⟨t, u, v, e⟩ := x; exact ⟨t, u, v, k _ _ (.inl rfl) e⟩
  | frz ob u ih => obtain ⟨e, q⟩ := x; exact ⟨k _ _ (.inl rfl) e, ih q⟩
  | tbl ps =>
    have e : h.get? a = some { cls := .none, data := .fields ps } := x
    show h'.get? a = some { cls := .none, data := .fields ps }
    exact k a _ (.inl rfl) e
  | met f y =>
    have e : h.get? a = some (W.methodObj (.ref f) (.ref y)) := x
    show h'.get? a = some (W.methodObj (.ref f) (.ref y))
    exact k a _ (.inl rfl) e
  | ext φ => obtain ⟨p, ⟨o, e⟩, st⟩ := x; exact ⟨st _ _ p fun o q => k _ _ (.inl rfl) q, ⟨o, k _ _ (.inl rfl) e⟩, st⟩
theorem HOk.lt (x : HOk P w H h) (e : H a = some o) : a < h.objs.size := (x a o e).lt
theorem HOk.fresh (x : HOk P w H h) (e : h.objs.size ≤ a) : H a = none := by
  cases q : H a with
  | none => rfl
  | some u => exact absurd (Nat.lt_of_lt_of_le (x.lt q) e) (Nat.lt_irrefl _)
theorem HOk.kept (x : HOk P w H h) (k : ∀ b u, h.get? b = some u → h'.get? b = some u) : HOk P w H h' := fun a o e =>
  (x a o e).stay (fun b u _ q => k b u q) (fun _ q => q) fun _ _ q => q
theorem HOk.laid (x : HOk P w H h) (k : ∀ b u, h.get? b = some u → h'.get? b = some u) (hp : h.objs.size ≤ a) (new : ObjOk P w (upd H a o) h' a o) : HOk P w (upd H a o) h' := fun b u e => by
  have hn := x.fresh hp
  by_cases hb : b = a
  · subst hb; rw [upd_same] at e; cases e; exact new
  · rw [upd_ne hb] at e
    exact (x b u e).stay (fun c v _ q => k c v q) (fun c q => by rw [upd_ne (ne_of_none q hn)]; exact q) fun c xs q => by rw [upd_ne (ne_of_none q hn)]; exact q
end
noncomputable def Rd (H : Hp) (a : Addr) (u : HO) : Prop := H a = some u ∨ ∃ o, H a = some (.frz o u)
theorem Rd.of {H : Hp} {a : Addr} {u : HO} (h : H a = some u) : Rd H a u := .inl h
theorem Rd.ok {P : Program} {w : World} {H : Hp} {h : Heap} {a : Addr} {u : HO} (r : Rd H a u) (x : HOk P w H h) : ObjOk P w H h a u := by
  rcases r with r | ⟨o, r⟩
  · exact x a u r
  · obtain ⟨_, q⟩ := x a _ r
    exact q
noncomputable def Mut : Option HO → Prop
  | some (.lst _) => True
  | some (.dK _) => True
  | some (.dT _) => True
  | some (.set _ _) => True
  | some (.ins _ _ _) => True
  | some (.ext _) => True
  | _ => False
section
variable {P : Program} {w : World} {H : Hp} {h h' : Heap} {x e : Addr} {o' : HO}
theorem HOk.write (ok : HOk P w H h) (mu : Mut (H x)) (he : e = x ∨ H e = some (.own x)) (k : ∀ b u, b ≠ e → h.get? b = some u → h'.get? b = some u) (heo : ∃ u, h'.get? e = some u)
    (new : ObjOk P w (upd H x o') h' x o') : HOk P w (upd H x o') h' := fun b u q => by
  have nown : ∀ c y, H c = some (.own y) → c ≠ x := fun c y r z => by subst z; rw [r] at mu; exact mu
  have ntup : ∀ c xs, H c = some (.tup xs) → c ≠ x := fun c xs r z => by subst z; rw [r] at mu; exact mu
  by_cases hb : b = x
  · subst hb; rw [upd_same] at q; cases q; exact new
  · rw [upd_ne hb] at q
    by_cases hbe : b = e
    · have q' : H b = some (.own x) := by
        rcases he with z | z
        · exact absurd (hbe.trans z) hb
        · rw [hbe]; exact z
      rw [q] at q'; cases q'
      obtain ⟨v, hv⟩ := heo
      exact ⟨v, by rw [hbe]; exact hv⟩
    · refine (ok b u q).stay (fun c v hc r => k c v ?_ r) (fun c r => by rw [upd_ne (nown c b r)]; exact r) fun c xs r => by rw [upd_ne (ntup c xs r)]; exact r
      rcases hc with rfl | hc
      · exact hbe
      · rintro rfl
        rcases he with z | z
        · exact nown c b hc z
        · rw [hc] at z; cases z; exact hb rfl
end
structure Un (fs ex : List Addr) (H H' : Hp) (h h' : Heap) : Prop where
  keep : ∀ b o, h.get? b = some o → H b = none → b ∉ fs → b ∉ ex → h'.get? b = some o
  slot : ∀ b o, h.get? b = some o → H b = none → b ∈ fs → b ∉ ex → ∃ sl, h'.get? b = some { o with slots := sl }
  free : ∀ b o, h.get? b = some o → H b = none → b ∉ ex → H' b = none
  there : ∀ b o, h.get? b = some o → b ∉ ex → ∃ o', h'.get? b = some o'
  tups : ∀ b xs, H b = some (.tup xs) → H' b = some (.tup xs)
  frzs : ∀ b o u, H b = some (.frz o u) → H' b = some (.frz o u)
  tbls : ∀ b ps, H b = some (.tbl ps) → ∃ more, H' b = some (.tbl (ps ++ more))
section
variable {fs fs' ex ex' : List Addr} {H H1 H2 : Hp} {h h1 h2 h' : Heap} {a x e : Addr} {o : HO}
theorem Un.any (u : Un fs ex H H1 h h1) {b : Addr} {ob : Obj} (q : h.get? b = some ob) (n : H b = none) (hx : b ∉ ex) : ∃ sl, h1.get? b = some { ob with slots := sl } := by
  by_cases hb : b ∈ fs
  · exact u.slot b ob q n hb hx
  · exact ⟨ob.slots, u.keep b ob q n hb hx⟩
theorem Un.trans (a : Un fs ex H H1 h h1) (b : Un fs ex H1 H2 h1 h2) : Un fs ex H H2 h h2 where
  keep := fun c ob q n hc hx => b.keep c ob (a.keep c ob q n hc hx) (a.free c ob q n hx) hc hx
  slot := fun c ob q n hc hx => by
    obtain ⟨sl, e1⟩ := a.slot c ob q n hc hx
    obtain ⟨sl', e2⟩ := b.slot c _ e1 (a.free c ob q n hx) hc hx
    exact ⟨sl', e2⟩
  free := fun c ob q n hx => by
    obtain ⟨o', e1⟩ := a.there c ob q hx
    exact b.free c o' e1 (a.free c ob q n hx) hx
  there := fun c ob q hx => by
    obtain ⟨o', e1⟩ := a.there c ob q hx
    exact b.there c o' e1 hx
  tups := fun c xs q => b.tups c xs (a.tups c xs q)
  frzs := fun c ob xs q => b.frzs c ob xs (a.frzs c ob xs q)
  tbls := fun c ps q => by
    obtain ⟨m1, e1⟩ := a.tbls c ps q
    obtain ⟨m2, e2⟩ := b.tbls c _ e1
    exact ⟨m1 ++ m2, by rw [e2, Array.append_assoc]⟩
theorem Un.kept (k : ∀ b u, h.get? b = some u → h'.get? b = some u) : Un fs ex H H h h' :=
  ⟨fun b ob q _ _ _ => k b ob q, fun b ob q _ _ _ => ⟨ob.slots, k b ob q⟩, fun _ _ _ n _ => n, fun b ob q _ => ⟨ob, k b ob q⟩, fun _ _ q => q, fun _ _ _ q => q, fun _ ps q => ⟨#[], by rw [q]; simp⟩⟩
theorem Un.refl : Un fs ex H H h h := Un.kept fun _ _ q => q
theorem Un.laid (k : ∀ b u, h.get? b = some u → h'.get? b = some u) (hp : h.objs.size ≤ a) (hn : H a = none) : Un fs ex H (upd H a o) h h' where
  keep := fun b u q _ _ _ => k b u q
  slot := fun b u q _ _ _ => ⟨u.slots, k b u q⟩
  free := fun b u q n _ => by rw [upd_ne (Nat.ne_of_lt (Nat.lt_of_lt_of_le (Heap.lt_size q) hp))]; exact n
  there := fun b u q _ => ⟨u, k b u q⟩
  tups := fun b xs q => by rw [upd_ne (ne_of_none q hn)]; exact q
  frzs := fun b u xs q => by rw [upd_ne (ne_of_none q hn)]; exact q
  tbls := fun b ps q => ⟨#[], by rw [upd_ne (ne_of_none q hn), q]; simp⟩
theorem Un.write (mu : Mut (H x)) (he : e = x ∨ H e = some (.own x)) (k : ∀ b u, b ≠ e → h.get? b = some u → h'.get? b = some u) (heo : ∃ u, h'.get? e = some u) : Un fs ex H (upd H x o) h h' := by
  have hx : ∀ b, H b = none → b ≠ x := fun b n z => by subst z; rw [n] at mu; exact mu
  have hb : ∀ b, H b = none → b ≠ e := fun b n z => by
    subst z
    rcases he with r | r
    · exact hx b n r
    · rw [n] at r; cases r
  have hm : ∀ b u, H b = some u → ¬ Mut (some u) → b ≠ x := fun b u q nm z => by subst z; rw [q] at mu; exact nm mu
  refine ⟨fun b u q n _ _ => k b u (hb b n) q, fun b u q n _ _ => ⟨u.slots, k b u (hb b n) q⟩, fun b u q n _ => by rw [upd_ne (hx b n)]; exact n, fun b u q _ => ?_,
    fun b xs q => by rw [upd_ne (hm b _ q fun z => z)]; exact q, fun b u xs q => by rw [upd_ne (hm b _ q fun z => z)]; exact q, fun b ps q => ⟨#[], by rw [upd_ne (hm b _ q fun z => z), q]; simp⟩⟩
  by_cases hbe : b = e
  · subst hbe; exact heo
  · exact ⟨u, k b u hbe q⟩
theorem Un.mono (u : Un fs ex H H1 h h1) (hs : ∀ b ∈ fs, b ∈ fs') (hx : ∀ b ∈ ex, b ∈ ex') : Un fs' ex' H H1 h h1 :=
  ⟨fun b ob q n hb he => u.keep b ob q n (fun z => hb (hs b z)) fun z => he (hx b z), fun _ _ q n _ he => u.any q n fun z => he (hx _ z), fun b ob q n he => u.free b ob q n fun z => he (hx b z), fun b ob q he => u.there b ob q fun z => he (hx b z), u.tups, u.frzs, u.tbls⟩
end
noncomputable def trk (h : Heap) (H : Hp) : List Addr := (List.range h.objs.size).filter fun a => (H a).isSome
noncomputable def hidT (h : Heap) (H : Hp) : Heap := W.hideAll h (trk h H)
theorem hidT_size (h : Heap) (H : Hp) : (hidT h H).objs.size = h.objs.size := W.hideAll_size _ _
theorem hidT_get {h : Heap} {H : Hp} {b : Addr} {o : Obj} (e : h.get? b = some o) (n : H b = none) : (hidT h H).get? b = some o :=
  W.hideAll_get _ e fun hm => by
    have q : (H b).isSome = true := (List.mem_filter.mp hm).2
    rw [n] at q; simp at q
theorem of_hidT {h : Heap} {H : Hp} {b : Addr} {o : Obj} (e : (hidT h H).get? b = some o) : h.get? b = some o ∧ H b = none := by
  have e' : h.get? b = some o := W.of_hideAll (trk h H) e
  refine ⟨e', ?_⟩
  cases q : H b with
  | none => rfl
  | some x =>
    have hm : b ∈ trk h H := List.mem_filter.mpr ⟨List.mem_range.mpr (Heap.lt_size e'), by simp [q]⟩
    have z : (hidT h H).get? b = none := W.hideAll_none (trk h H) hm
    rw [z] at e; cases e
noncomputable def allNews (g h : Heap) (L : Addr) : List (Addr × Obj) := (List.range h.objs.size).filterMap fun a => if a = L ∨ (g.get? a).isSome = true then none else (h.get? a).map fun o => (a, o)
noncomputable def rest (g h : Heap) (L d : Addr) : List (Addr × Obj) := (allNews g h L).filter fun p => decide (p.1 ≠ d)
end L2
namespace L2
open PySem PySem.Spec PyProof.Rows
structure Mod (K : W.Frag) (mg : Str → Option Value) (base : Heap) : Prop where
  kin : K.In base
  glob : base.Ns mainGlobals mg
  blt : ∃ mb, base.Ns builtinsNs mb ∧ ∀ x : Str, x ≠ "__name__" → mb x = bootBuiltins x
  nolimit : base.NoLimit
structure Cx where
  prog : Program
  w : World
  K : W.Frag
  mg : Str → Option Value
  base : Heap
  A : Around
  N : List Str
  s₀ : Shared
  H₀ : Hp
  env : Env
  outer : List Env
  stack : List Env
  ex : List Addr
  fn : Str → Bool
  calm : Bool
  pn : List (Addr × Obj)
  xe : Value → Shared → Prop
noncomputable def frs (l : List Env) : List Addr := l.filterMap (·.frame)
noncomputable abbrev Cx.fs (X : Cx) : List Addr := frs X.outer
noncomputable def Vis (sc : Scope) (x : Str) : Prop := sc.names.lookup x = some .local ∨ sc.names.lookup x = some .cell ∨ sc.names.lookup x = some .free
noncomputable def Loc (sc : Scope) (x : Str) : Prop := sc.names.lookup x = some .local ∨ sc.names.lookup x = some .cell
noncomputable def Look (env : Env) (h : Heap) (m : Str → Option Value) (x : Str) (u : Value) : Prop :=
  (env.kindOf x = some .local ∧ m x = some u) ∨ ((env.kindOf x = some .cell ∨ env.kindOf x = some .free) ∧ ∃ c, env.cells.lookup x = some c ∧ h.IsCell c (some u))
noncomputable def HandA (A : Around) (H : Hp) : Prop := A.handled = none ∨ ∃ a o cls head vs, A.handled = some (.ref a) ∧ H a = some (.frz o (.own 0)) ∧ o.cls = cls ∧ o.dict = none ∧ o.data = .fields vs ∧ vs[2]? = some .none ∧ vs[1]? = some head
structure Cx.Ok (X : Cx) : Prop where
  mod : Mod X.K X.mg X.base
  kind : X.env.scope.kind = .function
  glob : X.env.globals = mainGlobals
  blt : X.env.builtins = builtinsNs
  above : X.s₀.heap.objs.size ≤ X.env.locals
  inj : ∀ x y c, X.env.cells.lookup x = some c → X.env.cells.lookup y = some c → x = y
  has : ∀ x, (X.env.kindOf x = some .cell ∨ X.env.kindOf x = some .free) → ∃ c, X.env.cells.lookup x = some c
  cab : ∀ x c, X.fn x = true → X.env.cells.lookup x = some c → X.s₀.heap.objs.size ≤ c
  hd : X.calm = true → X.A.handled = none
  hx : HandA X.A X.H₀
  frames : X.A.frames = some X.stack
  stk : X.stack = X.outer ∨ (X.stack = X.env :: X.outer ∧ X.env.frame = some X.env.locals)
  exf : ∀ b ∈ X.ex, b ≠ X.env.locals ∧ ∀ x c, X.env.cells.lookup x = some c → c ≠ b
  bs : ∀ b o, X.base.get? b = some o → X.s₀.heap.get? b = some o ∧ X.H₀ b = none
  bsz : X.base.objs.size ≤ X.s₀.heap.objs.size
  noex : ∀ b o, X.base.get? b = some o → b ∉ X.ex
  exfs : ∀ b ∈ X.ex, b ∉ X.fs
  funs : X.s₀.heap.FunFrames X.base X.outer
  frf : ∀ b ∈ X.fs, X.H₀ b = none
structure Inv (X : Cx) (pins : List (Addr × Obj)) (σ : List (Option V)) (H : Hp) (s : Shared) : Prop where
  ok : X.Ok
  os : s.os = X.s₀.os
  bare : AllBare s.gens
  base : Un X.fs X.ex X.H₀ H X.s₀.heap s.heap
  loc : ∃ m, s.heap.Ns X.env.locals m ∧ ∀ (i : Nat) (x : Str) (v : V), X.N[i]? = some x → σ[i]? = some (some v) → Vis X.env.scope x → ∃ u, RelV v u ∧ Look X.env s.heap m x u
  cell : ∀ x c, X.env.cells.lookup x = some c → ∃ v, s.heap.IsCell c v
  free : H X.env.locals = none
  freeC : ∀ x c, X.env.cells.lookup x = some c → H c = none
  pin : ∀ p ∈ X.pn ++ pins, s.heap.get? p.1 = some p.2 ∧ H p.1 = none ∧ p.1 ≠ X.env.locals ∧ p.1 ∉ X.fs ∧ ∀ v, p.2.data ≠ .cell v
  hok : HOk X.prog X.w H s.heap
  len : σ.length = X.N.length
section
variable {X : Cx} {pins : List (Addr × Obj)} {σ : List (Option V)} {H H' : Hp} {s : Shared} {h' : Heap}
theorem Cx.Ok.nofr (ok : X.Ok) {b : Addr} {o : Obj} (e : X.base.get? b = some o) : b ∉ X.fs := fun hb => by
  have := (ok.funs.mem hb).1
  rw [e] at this; cases this
theorem Inv.bs (I : Inv X pins σ H s) : ∀ b o, X.base.get? b = some o → s.heap.get? b = some o ∧ H b = none := fun b o e =>
  ⟨I.base.keep b o (I.ok.bs b o e).1 (I.ok.bs b o e).2 (I.ok.nofr e) (I.ok.noex b o e), I.base.free b o (I.ok.bs b o e).1 (I.ok.bs b o e).2 (I.ok.noex b o e)⟩
theorem Inv.bk (I : Inv X pins σ H s) : ∀ b o, X.base.get? b = some o → s.heap.get? b = some o := fun b o e => (I.bs b o e).1
theorem Inv.mod (I : Inv X pins σ H s) : Mod X.K X.mg X.base := I.ok.mod
theorem Inv.kIn (I : Inv X pins σ H s) : X.K.In s.heap := I.ok.mod.kin.keeps I.bk
theorem Inv.nolimit (I : Inv X pins σ H s) : s.heap.NoLimit := I.ok.mod.nolimit.keeps I.bk
theorem Inv.fr (I : Inv X pins σ H s) : ∃ m, Fr X.base X.env.locals s.heap m :=
  let ⟨m, hn, _⟩ := I.loc
  ⟨m, hn, I.bk, Nat.le_trans I.ok.bsz I.ok.above⟩
theorem Inv.lt (I : Inv X pins σ H s) : X.env.locals < s.heap.objs.size := let ⟨_, hn, _⟩ := I.loc; hn.lt
theorem Inv.sz (I : Inv X pins σ H s) : X.s₀.heap.objs.size ≤ s.heap.objs.size := Nat.le_trans I.ok.above (Nat.le_of_lt I.lt)
theorem Inv.nofs (I : Inv X pins σ H s) {a : Addr} (h : s.heap.objs.size ≤ a) : a ∉ X.fs := fun hb => by
  obtain ⟨_, o, ho, _⟩ := I.ok.funs.mem hb
  exact absurd (Nat.lt_of_lt_of_le (Heap.lt_size ho) (Nat.le_trans I.sz h)) (Nat.lt_irrefl _)
theorem Inv.cne (I : Inv X pins σ H s) : ∀ x c, X.env.cells.lookup x = some c → c ≠ X.env.locals := fun x c e z => by
  obtain ⟨v, o, ho, hd⟩ := I.cell x c e
  obtain ⟨m, ⟨o', es, ep, ho', hd', _⟩, _⟩ := I.loc
  rw [z, ho'] at ho; cases ho; rw [hd'] at hd; cases hd
theorem Inv.funs (I : Inv X pins σ H s) : s.heap.FunFrames X.base X.outer := by
  have all : ∀ (l : List Env), (∀ b ∈ frs l, b ∈ X.fs) → X.s₀.heap.FunFrames X.base l → s.heap.FunFrames X.base l := by
    intro l
    induction l with
    | nil => intro _ _; trivial
    | cons env r ih =>
      intro hs hl
      obtain ⟨hk, ⟨L, o, hf, hn, ho, hd⟩, hr⟩ := hl
      have hL : L ∈ X.fs := hs L (by unfold frs; rw [List.filterMap_cons, hf]; exact List.mem_cons_self)
      obtain ⟨sl, e⟩ := I.base.slot L o ho (I.ok.frf L hL) hL fun z => I.ok.exfs L z hL
      exact ⟨hk, ⟨L, _, hf, hn, e, hd⟩, ih (fun b hb => hs b (by unfold frs; rw [List.filterMap_cons, hf]; exact List.mem_cons_of_mem _ hb)) hr⟩
  exact all X.outer (fun _ hb => hb) I.ok.funs
theorem Inv.stack (I : Inv X pins σ H s) : s.heap.FunFrames X.base X.stack := by
  rcases I.ok.stk with e | ⟨e, hf⟩
  · rw [e]; exact I.funs
  · rw [e]
    obtain ⟨m, hn, _⟩ := I.loc
    refine .cons (by rw [I.ok.kind]; decide) hf hn ?_ I.funs
    exact Heap.get?_none_of_le (Nat.le_trans I.ok.bsz I.ok.above)
theorem Inv.stkSub (I : Inv X pins σ H s) : ∀ b ∈ frs X.stack, b ∈ X.env.locals :: X.fs := fun b hb => by
  rcases I.ok.stk with e | ⟨e, hf⟩
  · rw [e] at hb; exact List.mem_cons_of_mem _ hb
  · rw [e] at hb
    unfold frs at hb
    rw [List.filterMap_cons, hf] at hb
    exact hb
theorem Inv.stkFree (I : Inv X pins σ H s) : ∀ b ∈ frs X.stack, H b = none := fun b hb => by
  rcases List.mem_cons.mp (I.stkSub b hb) with e | hb
  · rw [e]; exact I.free
  · obtain ⟨_, o, ho, _⟩ := I.ok.funs.mem hb
    exact I.base.free b o ho (I.ok.frf b hb) fun z => I.ok.exfs b z hb
theorem Inv.step {g' : Array GenState} {t' : Nat} {d' : Drawn} {ch : List Addr} (I : Inv X pins σ H s)
    (hch : ∀ b ∈ ch, (b ∈ X.ex ∨ X.s₀.heap.objs.size ≤ b) ∧ b ≠ X.env.locals ∧ (∀ x c, X.env.cells.lookup x = some c → c ≠ b) ∧ ∀ p ∈ X.pn ++ pins, p.1 ≠ b)
    (keep : ∀ b o, b ≠ X.env.locals → b ∉ X.fs → b ∉ ch → s.heap.get? b = some o → H b = none → h'.get? b = some o)
    (slot : ∀ b o, b ≠ X.env.locals → b ∈ X.fs → b ∉ ch → s.heap.get? b = some o → H b = none → ∃ sl, h'.get? b = some { o with slots := sl }) (free : ∀ b o, b ∉ ch → s.heap.get? b = some o → H b = none → H' b = none)
    (there : ∀ b o, b ∉ ch → s.heap.get? b = some o → ∃ o', h'.get? b = some o')
    (tups : ∀ b xs, H b = some (.tup xs) → H' b = some (.tup xs)) (frzs : ∀ b o u, H b = some (.frz o u) → H' b = some (.frz o u)) (tbls : ∀ b ps, H b = some (.tbl ps) → ∃ more, H' b = some (.tbl (ps ++ more)))
    (ns : ∀ m, s.heap.Ns X.env.locals m → h'.Ns X.env.locals m) (hok : HOk X.prog X.w H' h') (hg : AllBare g') :
    Inv X pins σ H' { s with heap := h', gens := g', drawn := d', toks := t' } := by
  have neL : ∀ b o, X.s₀.heap.get? b = some o → b ≠ X.env.locals := fun b o e => Nat.ne_of_lt (Nat.lt_of_lt_of_le (Heap.lt_size e) I.ok.above)
  have neC : ∀ b o, X.s₀.heap.get? b = some o → b ∉ X.ex → b ∉ ch := fun b o e hx hb => by
    rcases (hch b hb).1 with z | z
    · exact hx z
    · exact absurd (Nat.lt_of_lt_of_le (Heap.lt_size e) z) (Nat.lt_irrefl _)
  have cellK : ∀ x c, X.env.cells.lookup x = some c → ∀ v, s.heap.IsCell c v → h'.IsCell c v := fun x c e v ⟨o, ho, hd⟩ => by
    have nch : c ∉ ch := fun z => (hch c z).2.2.1 x c e rfl
    by_cases hc : c ∈ X.fs
    · obtain ⟨sl, q⟩ := slot c o (I.cne x c e) hc nch ho (I.freeC x c e)
      exact ⟨_, q, hd⟩
    · exact ⟨o, keep c o (I.cne x c e) hc nch ho (I.freeC x c e), hd⟩
  refine ⟨I.ok, I.os, hg, ⟨fun b o e n hb hx => ?_, fun b o e n hb hx => ?_, fun b o e n hx => ?_, fun b o e hx => ?_, fun b xs e => tups b xs (I.base.tups b xs e), fun b o xs e => frzs b o xs (I.base.frzs b o xs e), fun b ps e => ?_⟩, ?_, fun x c e => ?_, ?_, fun x c e => ?_, fun p hp => ?_, hok, I.len⟩
  · exact keep b o (neL b o e) hb (neC b o e hx) (I.base.keep b o e n hb hx) (I.base.free b o e n hx)
  · obtain ⟨sl, e1⟩ := I.base.slot b o e n hb hx
    obtain ⟨sl', e2⟩ := slot b _ (neL b o e) hb (neC b o e hx) e1 (I.base.free b o e n hx)
    exact ⟨sl', e2⟩
  · obtain ⟨o', e1⟩ := I.base.there b o e hx
    exact free b o' (neC b o e hx) e1 (I.base.free b o e n hx)
  · obtain ⟨o', e1⟩ := I.base.there b o e hx
    exact there b o' (neC b o e hx) e1
  · obtain ⟨m1, e1⟩ := I.base.tbls b ps e
    obtain ⟨m2, e2⟩ := tbls b _ e1
    exact ⟨m1 ++ m2, by rw [e2, Array.append_assoc]⟩
  · obtain ⟨m, hn, hl⟩ := I.loc
    refine ⟨m, ns m hn, fun i x v e1 e2 e3 => ?_⟩
    obtain ⟨u, r, l⟩ := hl i x v e1 e2 e3
    refine ⟨u, r, ?_⟩
    rcases l with l | ⟨k, c, e, z⟩
    · exact .inl l
    · exact .inr ⟨k, c, e, cellK x c e _ z⟩
  · obtain ⟨v, z⟩ := I.cell x c e
    exact ⟨v, cellK x c e v z⟩
  · obtain ⟨m, ⟨o, _, _, ho, _⟩, _⟩ := I.loc
    exact free _ o (fun z => (hch _ z).2.1 rfl) ho I.free
  · obtain ⟨v, o, ho, hd⟩ := I.cell x c e
    exact free c o (fun z => (hch c z).2.2.1 x c e rfl) ho (I.freeC x c e)
  · obtain ⟨e, n, ne, nf, d⟩ := I.pin p hp
    have nch : p.1 ∉ ch := fun z => (hch p.1 z).2.2.2 p hp rfl
    exact ⟨keep p.1 p.2 ne nf nch e n, free p.1 p.2 nch e n, ne, nf, d⟩
theorem Inv.un {t' : Nat} (I : Inv X pins σ H s) (u : Un X.fs [] H H' s.heap h') (hok : HOk X.prog X.w H' h') : Inv X pins σ H' { s with heap := h', toks := t' } := by
  obtain ⟨m, ⟨o, es, ep, ho, r⟩, _⟩ := id I.loc
  obtain ⟨sl, hL⟩ := u.any ho I.free (by simp)
  exact I.step (g' := s.gens) (d' := s.drawn) (ch := []) (fun _ z => nomatch z) (fun b o _ hb _ e n => u.keep b o e n hb (by simp)) (fun b o _ hb _ e n => u.slot b o e n hb (by simp)) (fun b o _ e n => u.free b o e n (by simp)) (fun b o _ e => u.there b o e (by simp)) u.tups u.frzs u.tbls (fun m' hm => by
    obtain ⟨o', es', ep', ho', r'⟩ := hm
    rw [ho] at ho'; cases ho'
    exact ⟨_, es', ep', hL, r'⟩) hok I.bare
theorem Inv.call {g' : Array GenState} {t' : Nat} {d' : Drawn} {ch : List Addr} (I : Inv X pins σ H s) (u : Un (frs X.stack) ch H H' s.heap h') (hok : HOk X.prog X.w H' h') (hg : AllBare g')
    (hch : ∀ b ∈ ch, (b ∈ X.ex ∨ X.s₀.heap.objs.size ≤ b) ∧ b ≠ X.env.locals ∧ (∀ x c, X.env.cells.lookup x = some c → c ≠ b) ∧ ∀ p ∈ X.pn ++ pins, p.1 ≠ b) :
    Inv X pins σ H' { s with heap := h', gens := g', drawn := d', toks := t' } := by
  obtain ⟨m, ⟨o, es, ep, ho, r⟩, _⟩ := id I.loc
  obtain ⟨sl, hL⟩ := u.any ho I.free fun z => (hch _ z).2.1 rfl
  exact I.step (ch := ch) hch (fun b o hL hb hc e n => u.keep b o e n (fun z => (List.mem_cons.mp (I.stkSub b z)).elim hL hb) hc) (fun b o _ _ hc e n => u.any e n hc) (fun b o hc e n => u.free b o e n hc) (fun b o hc e => u.there b o e hc) u.tups u.frzs u.tbls (fun m' hm => by
    obtain ⟨o', es', ep', ho', r'⟩ := hm
    rw [ho] at ho'; cases ho'
    exact ⟨_, es', ep', hL, r'⟩) hok hg
theorem Inv.turned {t' : Nat} {it : Addr} (I : Inv X pins σ H s) (k : ∀ b o, b ≠ it → s.heap.get? b = some o → h'.get? b = some o) (hn : H it = none) (hL : it ≠ X.env.locals)
    (h1 : it ∈ X.ex ∨ X.s₀.heap.objs.size ≤ it) (h2 : ∀ x c, X.env.cells.lookup x = some c → c ≠ it) (h3 : ∀ p ∈ X.pn ++ pins, p.1 ≠ it) : Inv X pins σ H { s with heap := h', toks := t' } := by
  have nit : ∀ b u, H b = some u → b ≠ it := fun b u e z => by rw [z, hn] at e; cases e
  refine I.step (g' := s.gens) (d' := s.drawn) (ch := [it]) (fun b hb => ?_) (fun b o _ _ hc e _ => k b o (fun z => hc (by simp [z])) e) (fun b o _ _ hc e _ => ⟨o.slots, k b o (fun z => hc (by simp [z])) e⟩) (fun _ _ _ _ n => n)
    (fun b o hc e => ⟨o, k b o (fun z => hc (by simp [z])) e⟩) (fun _ _ e => e) (fun _ _ _ e => e) (fun b ps e => ⟨#[], by rw [e]; simp⟩) (fun m hm => ?_) (fun b u e => ?_) I.bare
  · have e : b = it := by simpa using hb
    subst e
    exact ⟨h1, hL, h2, h3⟩
  · obtain ⟨o, es, ep, ho, r⟩ := hm
    exact ⟨o, es, ep, k _ o (Ne.symm hL) ho, r⟩
  · refine (I.hok b u e).stay (fun c v hc q => k c v ?_ q) (fun _ q => q) fun _ _ q => q
    rcases hc with z | z
    · rw [z]; exact nit b u e
    · exact nit c _ z
theorem Inv.tok (I : Inv X pins σ H s) (t : Nat) : Inv X pins σ H { s with toks := t } := I.un (h' := s.heap) (t' := t) Un.refl I.hok
theorem Inv.kept {t' : Nat} (I : Inv X pins σ H s) (k : ∀ b u, s.heap.get? b = some u → h'.get? b = some u) : Inv X pins σ H { s with heap := h', toks := t' } := I.un (Un.kept k) (I.hok.kept k)
theorem Inv.laid {a : Addr} {o : HO} {t' : Nat} (I : Inv X pins σ H s) (k : ∀ b u, s.heap.get? b = some u → h'.get? b = some u) (hp : s.heap.objs.size ≤ a) (new : ObjOk X.prog X.w (upd H a o) h' a o) :
    Inv X pins σ (upd H a o) { s with heap := h', toks := t' } := I.un (Un.laid k hp (I.hok.fresh hp)) (I.hok.laid k hp new)
theorem Inv.write {x e : Addr} {o : HO} {t' : Nat} (I : Inv X pins σ H s) (mu : Mut (H x)) (he : e = x ∨ H e = some (.own x)) (k : ∀ b u, b ≠ e → s.heap.get? b = some u → h'.get? b = some u) (heo : ∃ u, h'.get? e = some u)
    (new : ObjOk X.prog X.w (upd H x o) h' x o) : Inv X pins σ (upd H x o) { s with heap := h', toks := t' } := I.un (Un.write mu he k heo) (I.hok.write mu he k heo new)
theorem Inv.pins_of {pins' : List (Addr × Obj)} (I : Inv X pins σ H s) (h : ∀ p ∈ pins', s.heap.get? p.1 = some p.2 ∧ H p.1 = none ∧ p.1 ≠ X.env.locals ∧ p.1 ∉ X.fs ∧ ∀ v, p.2.data ≠ .cell v) : Inv X pins' σ H s :=
  ⟨I.ok, I.os, I.bare, I.base, I.loc, I.cell, I.free, I.freeC, fun p hp => (List.mem_append.mp hp).elim (fun z => I.pin p (List.mem_append_left _ z)) (h p), I.hok, I.len⟩
theorem nodup_ix {N : List Str} (hN : N.Nodup) {i j : Nat} {x : Str} (a : N[i]? = some x) (b : N[j]? = some x) : i = j := by
  obtain ⟨h1, e1⟩ := List.getElem?_eq_some_iff.mp a
  obtain ⟨h2, e2⟩ := List.getElem?_eq_some_iff.mp b
  exact (List.getElem_inj hN).mp (e1.trans e2.symm)
theorem store_ok2 {M : Model} {A : Around} {E : Value → Shared → Prop} {i : Nat} {x : Str} {v : V} {u : Value} {Q : Unit → Shared → Prop} (I : Inv X pins σ H s) (hN : X.N.Nodup) (hi : X.N[i]? = some x) (hx : Loc X.env.scope x) (r : RelV v u)
    (h : ∀ s', Inv X pins (σ.set i (some v)) H s' → (∃ a, Heap.SameBut a s.heap s'.heap ∧ (a = X.env.locals ∨ X.env.cells.lookup x = some a)) → Q () s') (hf : X.fn x = true ∨ X.env.scope.names.lookup x = some .local := by first | exact .inl rfl | exact .inr rfl | assumption) : wpAny M A (storeName X.env x u) Q E s := by
  obtain ⟨m, hn, hl⟩ := id I.loc
  have hcls : (X.env.scope.kind == .class || (X.env.scope.kind == .module && X.env.locals != X.env.globals)) = false := by rw [I.ok.kind]; rfl
  have hiσ : i < σ.length := by rw [I.len]; exact (List.getElem?_eq_some_iff.mp hi).1
  have cne := I.cne
  have tracked : ∀ {a : Addr} {h' : Heap}, (∃ o, s.heap.get? a = some o ∧ H a = none) → Heap.SameBut a s.heap h' → HOk X.prog X.w H h' := fun {a h'} ha hs b ob e => by
    obtain ⟨_, _, hfree⟩ := ha
    refine (I.hok b ob e).stay (fun c w' hc q => (hs.2 c ?_).trans q) (fun _ q => q) fun _ _ q => q
    rintro rfl
    rcases hc with rfl | hc
    · rw [hfree] at e; cases e
    · rw [hfree] at hc; cases hc
  rcases hx with hk | hk
  · refine wpAny_storeName_local hk hn (fun h' hn' hs => ?_) hcls
    obtain ⟨oL, _, _, hoL, _⟩ := id hn
    refine h _ ⟨I.ok, I.os, I.bare, ⟨fun b o e n hb hx => ?_, fun b o e n hb hx => ?_, I.base.free, fun b o e hx => ?_, I.base.tups, I.base.frzs, I.base.tbls⟩, ⟨_, hn', fun j y v' e1 e2 e3 => ?_⟩, fun y c e => ?_, I.free, I.freeC, fun p hp => ?_, tracked ⟨oL, hoL, I.free⟩ hs, by simpa using I.len⟩ ⟨_, hs, .inl rfl⟩
    · exact (hs.2 b (Nat.ne_of_lt (Nat.lt_of_lt_of_le (Heap.lt_size e) I.ok.above))).trans (I.base.keep b o e n hb hx)
    · obtain ⟨sl, e1⟩ := I.base.slot b o e n hb hx
      exact ⟨sl, (hs.2 b (Nat.ne_of_lt (Nat.lt_of_lt_of_le (Heap.lt_size e) I.ok.above))).trans e1⟩
    · obtain ⟨o', e1⟩ := I.base.there b o e hx
      exact ⟨o', (hs.2 b (Nat.ne_of_lt (Nat.lt_of_lt_of_le (Heap.lt_size e) I.ok.above))).trans e1⟩
    · by_cases hj : j = i
      · subst hj
        rw [hi] at e1; cases e1
        rw [List.getElem?_set_self hiσ] at e2
        cases e2
        exact ⟨u, r, .inl ⟨hk, by simp⟩⟩
      · rw [List.getElem?_set_ne (Ne.symm hj)] at e2
        obtain ⟨u', r', q⟩ := hl j y v' e1 e2 e3
        refine ⟨u', r', ?_⟩
        rcases q with ⟨k, e⟩ | ⟨k, c, e, z⟩
        · refine .inl ⟨k, ?_⟩
          have : y ≠ x := fun e => hj (nodup_ix hN e1 (e ▸ hi))
          simp [this, e]
        · exact .inr ⟨k, c, e, z.sameBut hs (cne y c e)⟩
    · obtain ⟨w', z⟩ := I.cell y c e
      exact ⟨w', z.sameBut hs (cne y c e)⟩
    · obtain ⟨e, n, ne, nf, d⟩ := I.pin p hp
      exact ⟨(hs.2 p.1 ne).trans e, n, ne, nf, d⟩
  · have hfn : X.fn x = true := by
      rcases hf with z | z
      · exact z
      · rw [z] at hk; cases hk
    obtain ⟨c, hc⟩ := I.ok.has x (.inl hk)
    obtain ⟨w', z⟩ := I.cell x c hc
    refine wpAny_storeName_cell I.ok.kind hk hc z (fun h' hc' hs => ?_)
    obtain ⟨oc, hoc, hocd⟩ := id z
    refine h { s with heap := h' } ⟨I.ok, I.os, I.bare, ⟨fun b o e n hb hx => ?_, fun b o e n hb hx => ?_, I.base.free, fun b o e hx => ?_, I.base.tups, I.base.frzs, I.base.tbls⟩, ⟨m, hn.sameBut hs (Ne.symm (cne x c hc)), fun j y v' e1 e2 e3 => ?_⟩, fun y c' e => ?_, I.free, I.freeC, fun p hp => ?_, tracked ⟨oc, hoc, I.freeC x c hc⟩ hs, by simpa using I.len⟩ ⟨c, hs, .inr hc⟩
    · exact (hs.2 b (Nat.ne_of_lt (Nat.lt_of_lt_of_le (Heap.lt_size e) (I.ok.cab x c hfn hc)))).trans (I.base.keep b o e n hb hx)
    · obtain ⟨sl, e1⟩ := I.base.slot b o e n hb hx
      exact ⟨sl, (hs.2 b (Nat.ne_of_lt (Nat.lt_of_lt_of_le (Heap.lt_size e) (I.ok.cab x c hfn hc)))).trans e1⟩
    · obtain ⟨o', e1⟩ := I.base.there b o e hx
      exact ⟨o', (hs.2 b (Nat.ne_of_lt (Nat.lt_of_lt_of_le (Heap.lt_size e) (I.ok.cab x c hfn hc)))).trans e1⟩
    · by_cases hj : j = i
      · subst hj
        rw [hi] at e1; cases e1
        rw [List.getElem?_set_self hiσ] at e2
        cases e2
        exact ⟨u, r, .inr ⟨.inl hk, c, hc, hc'⟩⟩
      · rw [List.getElem?_set_ne (Ne.symm hj)] at e2
        obtain ⟨u', r', q⟩ := hl j y v' e1 e2 e3
        refine ⟨u', r', ?_⟩
        rcases q with q | ⟨k, c', e, z'⟩
        · exact .inl q
        · refine .inr ⟨k, c', e, z'.sameBut hs ?_⟩
          rintro rfl
          exact hj (nodup_ix hN e1 (I.ok.inj _ _ _ e hc ▸ hi))
    · by_cases hcc : c' = c
      · subst hcc; exact ⟨_, hc'⟩
      · obtain ⟨w2, z2⟩ := I.cell y c' e
        exact ⟨w2, z2.sameBut hs hcc⟩
    · obtain ⟨e, n, ne, nf, d⟩ := I.pin p hp
      refine ⟨(hs.2 p.1 ?_).trans e, n, ne, nf, d⟩
      intro q
      rw [q, hoc] at e
      have q' : oc = p.2 := Option.some.inj e
      exact d w' (by rw [← q']; exact hocd)
theorem store_ok {M : Model} {A : Around} {E : Value → Shared → Prop} {i : Nat} {x : Str} {v : V} {u : Value} {Q : Unit → Shared → Prop} (I : Inv X pins σ H s) (hN : X.N.Nodup) (hi : X.N[i]? = some x) (hx : Loc X.env.scope x) (r : RelV v u)
    (h : ∀ s', Inv X pins (σ.set i (some v)) H s' → Q () s') (hf : X.fn x = true ∨ X.env.scope.names.lookup x = some .local := by first | exact .inl rfl | exact .inr rfl | assumption) : wpAny M A (storeName X.env x u) Q E s :=
  store_ok2 I hN hi hx r (fun s' I' _ => h s' I') hf
theorem Inv.call' {s' : Shared} {ch : List Addr} (I : Inv X pins σ H s) (ho : s'.os = s.os) (u : Un (frs X.stack) ch H H' s.heap s'.heap) (hok : HOk X.prog X.w H' s'.heap) (hg : AllBare s'.gens)
    (hch : ∀ b ∈ ch, (b ∈ X.ex ∨ X.s₀.heap.objs.size ≤ b) ∧ b ≠ X.env.locals ∧ (∀ x c, X.env.cells.lookup x = some c → c ≠ b) ∧ ∀ p ∈ X.pn ++ pins, p.1 ≠ b) : Inv X pins σ H' s' := by
  obtain ⟨h', g', d', t', o'⟩ := s'
  have e : o' = s.os := ho
  subst e
  exact I.call (g' := g') (t' := t') (d' := d') u hok hg hch
end
noncomputable abbrev XK := Value → Option Addr → Hp → Prop
noncomputable abbrev St := List (Option V)
noncomputable abbrev VK := V → Hp → Prop
noncomputable abbrev TE := St → Hp → VK → Prop
noncomputable abbrev TT := St → Hp → (Bool → Hp → Prop) → Prop
noncomputable abbrev TA := St → Hp → (List V → Hp → Prop) → Prop
structure Ends where
  nx : St → Hp → Prop
  rt : VK
  bk : St → Hp → Prop := fun _ _ => False
  ct : St → Hp → Prop := fun _ _ => False
noncomputable abbrev TS := Ends → St → Hp → Prop
noncomputable def EP (X : Cx) (pins : List (Addr × Obj)) (σ : St) (Q : VK) (u : Value) (s' : Shared) : Prop := ∃ v H', Inv X pins σ H' s' ∧ RelV v u ∧ Q v H'
noncomputable def TP (X : Cx) (pins : List (Addr × Obj)) (σ : St) (Q : Bool → Hp → Prop) (b : Bool) (s' : Shared) : Prop := ∃ H', Inv X pins σ H' s' ∧ Q b H'
noncomputable def AP (X : Cx) (pins : List (Addr × Obj)) (σ : St) (Q : List V → Hp → Prop) (us : List Value) (s' : Shared) : Prop := ∃ vs H', Inv X pins σ H' s' ∧ Vals vs us ∧ Q vs H'
noncomputable def SP (X : Cx) (pins : List (Addr × Obj)) (D : Ends) (f : Flow) (s' : Shared) : Prop :=
  match f with
  | .next => ∃ σ' H', Inv X pins σ' H' s' ∧ D.nx σ' H'
  | .brk => ∃ σ' H', Inv X pins σ' H' s' ∧ D.bk σ' H'
  | .cont => ∃ σ' H', Inv X pins σ' H' s' ∧ D.ct σ' H'
  | .ret u => ∃ v σ' H', Inv X pins σ' H' s' ∧ RelV v u ∧ D.rt v H'
noncomputable def PE (X : Cx) (e : Expr) (t : TE) : Prop :=
  ∀ (pins : List (Addr × Obj)) (s : Shared) (σ : St) (H : Hp) (Q : VK), Inv X pins σ H s → t σ H Q → wpAny (model X.prog X.w) X.A (eval e X.env) (EP X pins σ Q) X.xe s
noncomputable def PT (X : Cx) (e : Expr) (t : TT) : Prop :=
  ∀ (pins : List (Addr × Obj)) (s : Shared) (σ : St) (H : Hp) (Q : Bool → Hp → Prop), Inv X pins σ H s → t σ H Q → wpAny (model X.prog X.w) X.A (isTrue e X.env (eval e X.env)) (TP X pins σ Q) X.xe s
noncomputable def PW (X : Cx) (e : Expr) (t : TT) : Prop :=
  ∀ (whole : Sem Value) (pins : List (Addr × Obj)) (s : Shared) (σ : St) (H : Hp) (Q : Bool → Hp → Prop), Inv X pins σ H s → t σ H Q → wpAny (model X.prog X.w) X.A (isTrue e X.env whole) (TP X pins σ Q) X.xe s
theorem PW.pt {X : Cx} {e : Expr} {t : TT} (h : PW X e t) : PT X e t := h _
noncomputable def PA (X : Cx) (es : List Expr) (t : TA) : Prop :=
  ∀ (pos : Pos) (pins : List (Addr × Obj)) (s : Shared) (σ : St) (H : Hp) (Q : List V → Hp → Prop), Inv X pins σ H s → t σ H Q → wpAny (model X.prog X.w) X.A (spliced (backTo pos (starEach es X.env))) (AP X pins σ Q) X.xe s
noncomputable def PS (X : Cx) (st : Stmt) (t : TS) : Prop :=
  ∀ (pins : List (Addr × Obj)) (s : Shared) (σ : St) (H : Hp) (D : Ends), Inv X pins σ H s → t D σ H → wpAny (model X.prog X.w) X.A (exec st X.env) (SP X pins D) X.xe s
noncomputable def PSs (X : Cx) (st : List Stmt) (t : TS) : Prop :=
  ∀ (pins : List (Addr × Obj)) (s : Shared) (σ : St) (H : Hp) (D : Ends), Inv X pins σ H s → t D σ H → wpAny (model X.prog X.w) X.A (execs st X.env) (SP X pins D) X.xe s
theorem thn {α : Type} {t : Sem α} {Q Q' : α → Shared → Prop} {M : Model} {A : Around} {E : Value → Shared → Prop} {s : Shared} (h : wpAny M A t Q E s) (hQ : ∀ a s, Q a s → Q' a s) : wpAny M A t Q' E s := wpAny_mono h hQ fun _ _ x => x
end L2
namespace L2
open PySem PySem.Spec PyProof.Rows
section
variable {X : Cx}
noncomputable def tVar (i : Nat) : TE := fun σ H Q => ∃ v, σ[i]? = some (some v) ∧ Q v H
noncomputable def tC (v : V) : TE := fun _ H Q => Q v H
theorem pe_var {i : Nat} {x : Str} {pos : Pos} (hN : X.N[i]? = some x) (hv : Vis X.env.scope x) (hd : (x == ("__debug__" : Str)) = false := by decide) (hcd : (x == ("__classdict__" : Str)) = false := by decide) : PE X (.Name x pos) (tVar i) := by
  intro pins s σ H Q I h
  obtain ⟨v, e, h⟩ := h
  obtain ⟨m, hn, hl⟩ := I.loc
  obtain ⟨u, r, l⟩ := hl i x v hN e hv
  have fin : EP X pins σ Q u s := ⟨v, H, I, r, h⟩
  rcases l with ⟨hk, hm⟩ | ⟨hk, c, hc, hcell⟩
  · exact wpAny_Name (wpAny_loadName_local I.ok.kind hk hn hm fin) hd
  · rcases hk with hk | hk
    · exact wpAny_Name (wpAny_loadName_cell I.ok.kind hk hc hcell fin) hd
    · exact wpAny_Name (wpAny_loadName_free I.ok.kind hk hc hcell fin hcd) hd
theorem pe_int {i j pos} : PE X (.Constant (.int i) j pos) (tC (.int i)) := fun _ _ _ H _ I h => wpAny_Constant_int ⟨.int i, H, I.tok _, ⟨_, rfl⟩, h⟩
theorem pe_bl {b j pos} : PE X (.Constant (.bool b) j pos) (tC (.bl b)) := fun _ _ _ H _ I h => Constant_bool ⟨.bl b, H, I, rfl, h⟩
noncomputable def Gl (X : Cx) (x : Str) : Prop := X.env.kindOf x = some .globalImplicit
theorem ld_glob {E : Value → Shared → Prop} {pins : List (Addr × Obj)} {s : Shared} {σ : St} {H : Hp} {x : Str} {u : Value} {pos : Pos} {Q : Value → Shared → Prop} (I : Inv X pins σ H s) (hg : Gl X x) (hm : X.mg x = some u) (h : Q u s)
    (hd : (x == ("__debug__" : Str)) = false := by decide) : wpAny (model X.prog X.w) X.A (eval (.Name x pos) X.env) Q E s :=
  Calls.Name_function_global I.ok.kind hg (Calls.loadGlobal_global (by rw [I.ok.glob]; exact I.mod.glob.keeps I.bk) hm h) hd
theorem ld_blt {E : Value → Shared → Prop} {pins : List (Addr × Obj)} {s : Shared} {σ : St} {H : Hp} {x : Str} {u : Value} {pos : Pos} {Q : Value → Shared → Prop} (I : Inv X pins σ H s) (hg : Gl X x) (hm : X.mg x = none) (hv : bootBuiltins x = some u) (h : Q u s)
    (hn : x ≠ "__name__" := by decide) (hd : (x == ("__debug__" : Str)) = false := by decide) : wpAny (model X.prog X.w) X.A (eval (.Name x pos) X.env) Q E s := by
  obtain ⟨mb, h1, h2⟩ := I.mod.blt
  exact Calls.Name_function_global I.ok.kind hg (Calls.loadGlobal_builtin (by rw [I.ok.glob]; exact I.mod.glob.keeps I.bk) hm (by rw [I.ok.blt]; exact h1.keeps I.bk) ((h2 x hn).trans hv) h) hd
theorem pe_bltn {x : Str} {v : V} {u : Value} {pos : Pos} (hg : Gl X x) (hm : X.mg x = none) (hv : bootBuiltins x = some u) (r : RelV v u) (hn : x ≠ "__name__" := by decide) (hd : (x == ("__debug__" : Str)) = false := by decide) : PE X (.Name x pos) (tC v) :=
  fun _ _ _ H _ I h => ld_blt I hg hm hv ⟨v, H, I, r, h⟩ hn hd
noncomputable def t2I (ta tb : TE) (k : Int → Int → Hp → Prop) : St → Hp → Prop := fun σ H => ta σ H fun x H1 => tb σ H1 fun y H2 => ∃ i j, x = .int i ∧ y = .int j ∧ k i j H2
variable {a b : Expr} {ta tb : TE} {pos : Pos}
noncomputable def tCmp (p : Int → Int → Bool) (ta tb : TE) : TE := fun σ H Q => t2I ta tb (fun i j H2 => Q (.bl (p i j)) H2) σ H
noncomputable def tB (t : TE) : TT := fun σ H Q => t σ H fun x H1 => ∃ c, x = .bl c ∧ Q c H1
theorem pt_val {e : Expr} {t : TE} (h : PE X e t) (he : ∀ whole, isTrue e X.env whole = (do let v ← whole; standAt e.pos; holding [v] (truthy v)) := by intro _; rfl) : PT X e (tB t) := by
  intro pins s σ H Q I hw
  refine isTrue_plain (thn (h pins s σ H _ I hw) fun v s1 ⟨x, H1, I1, r1, q1⟩ => ?_) (he _)
  obtain ⟨d, rfl, q⟩ := q1
  cases r1
  exact wpAny_truthy_bool ⟨H1, I1, q⟩
variable {tA tB' : TT} {rest : List Expr}
noncomputable def tAnd (t u : TT) : TT := fun σ H Q => t σ H fun c H1 => if c = true then u σ H1 Q else Q false H1
noncomputable def tOr (t u : TT) : TT := fun σ H Q => t σ H fun c H1 => if c = true then Q true H1 else u σ H1 Q
noncomputable def tNot (t : TT) : TT := fun σ H Q => t σ H fun c H1 => Q (!c) H1
theorem pw_or1 (ha : PT X a tA) : PW X (.BoolOp .Or [a] pos) tA := by
  intro wh pins s σ H Q I h
  refine isTrue_or (thn (ha pins s σ H Q I h) fun c s1 e => ?_)
  cases c with
  | false => exact isTrue_or_nil e
  | true => exact e
theorem pw_or (ha : PT X a tA) (hb : PW X (.BoolOp .Or (b :: rest) pos) tB') : PW X (.BoolOp .Or (a :: b :: rest) pos) (tOr tA tB') := by
  intro wh pins s σ H Q I h
  refine isTrue_or (thn (ha pins s σ H _ I h) fun c s1 ⟨H1, I1, q1⟩ => ?_)
  cases c with
  | true => exact ⟨H1, I1, q1⟩
  | false => exact hb wh pins s1 σ H1 Q I1 q1
theorem pt_not (ha : PT X a tA) : PT X (.UnaryOp .Not a pos) (tNot tA) := by
  intro pins s σ H Q I h
  exact isTrue_not (ha pins s σ H (fun c H1 => Q (!c) H1) I h)
noncomputable def tAndV (ta tb : TE) : TE := fun σ H Q => ta σ H fun x H1 => ∃ c, x = .bl c ∧ if c = true then tb σ H1 Q else Q (.bl false) H1
noncomputable def tNotV (ta : TE) : TE := fun σ H Q => ta σ H fun x H1 => ∃ c, x = .bl c ∧ Q (.bl (!c)) H1
theorem pe_one {op} {t : TE} (h : PE X a t) : PE X (.BoolOp op [a] pos) t := fun pins s σ H Q I hw => BoolOp_one (h pins s σ H Q I hw)
theorem pe_and (ha : PE X a ta) (hb : PE X (.BoolOp .And (b :: rest) pos) tb) : PE X (.BoolOp .And (a :: b :: rest) pos) (tAndV ta tb) := by
  intro pins s σ H Q I h
  refine BoolOp_and (thn (ha pins s σ H _ I h) fun v s1 ⟨x, H1, I1, r1, q1⟩ => ?_)
  obtain ⟨c, rfl, q1⟩ := q1
  cases r1
  refine wpAny_truthy_bool ?_
  cases c with
  | true => exact hb pins s1 σ H1 Q I1 q1
  | false => exact ⟨.bl false, H1, I1, rfl, q1⟩
theorem pe_not (ha : PE X a ta) : PE X (.UnaryOp .Not a pos) (tNotV ta) := by
  intro pins s σ H Q I h
  refine UnaryOp_ (thn (ha pins s σ H _ I h) fun v s1 ⟨x, H1, I1, r1, q1⟩ => ?_)
  obtain ⟨c, rfl, q1⟩ := q1
  cases r1
  exact not_of (wpAny_truthy_bool ⟨.bl (!c), H1, I1, rfl, q1⟩)
end
end L2
namespace L2
open PySem PySem.Spec PyProof.Rows
noncomputable def SqL (K : W.Frag) (H : Hp) (a : Addr) (xs : List V) : Prop :=
  Rd H a (.lst xs) ∨
    ∃ (o : Obj) (its : Array Value) (n : Nat), K.lookup a = some o ∧ o.cls = .type "list" ∧ o.dict = none ∧ o.data = .seq its n ∧ its.size ≤ sizeLine ∧ Vals xs its.toList
noncomputable def SqT (K : W.Frag) (H : Hp) (a : Addr) (xs : List V) : Prop :=
  Rd H a (.tup xs) ∨
    ∃ (o : Obj) (its : Array Value) (n : Nat), K.lookup a = some o ∧ o.cls = .type "tuple" ∧ o.data = .seq its n ∧ its.size ≤ sizeLine ∧ Vals xs its.toList
noncomputable def absV : Value → Option V
  | .none => some .non
  | .bool b => some (.bl b)
  | .int i _ => some (.int i)
  | .str x _ => some (.str x)
  | .bytes b _ => some (.byt b)
  | .float b _ => some (.flt b)
  | .ref a => some (.ref a)
  | .type n => some (.ty n)
  | _ => none
theorem RelV.abs {x : V} {u : Value} (r : RelV x u) : absV u = some x := by
  cases x with
  | non => cases r; rfl
  | bl _ => cases r; rfl
  | int _ => obtain ⟨t, rfl⟩ := r; rfl
  | str _ => obtain ⟨t, rfl⟩ := r; rfl
  | byt _ => obtain ⟨t, rfl⟩ := r; rfl
  | flt _ => obtain ⟨t, rfl⟩ := r; rfl
  | ref _ => cases r; rfl
  | ty _ => cases r; rfl
theorem RelV.inj {x y : V} {u : Value} (r : RelV x u) (q : RelV y u) : x = y := Option.some.inj (r.abs.symm.trans q.abs)
theorem Vals.inj : ∀ {xs ys : List V} {us : List Value}, Vals xs us → Vals ys us → xs = ys
  | _, _, _, .nil, .nil => rfl
  | _, _, _, .cons r t, .cons r' t' => by rw [r.inj r', Vals.inj t t']
section
variable {X : Cx} {pins : List (Addr × Obj)} {σ : St} {H : Hp} {s : Shared} {a : Addr} {xs ys : List V}
theorem SqL.of {K : W.Frag} (h : H a = some (.lst xs)) : SqL K H a xs := .inl (.inl h)
theorem SqT.of {K : W.Frag} (h : H a = some (.tup xs)) : SqT K H a xs := .inl (.inl h)
theorem Inv.list (I : Inv X pins σ H s) (h : SqL X.K H a xs) : ∃ its : List Value, Vals xs its ∧ PlainL s.heap a its.toArray ∧ xs.length ≤ sizeLine := by
  rcases h with h | ⟨o, its, n, hk, hc, hd, hs, hz, r⟩
  · obtain ⟨z, its, n, r, e⟩ := h.ok I.hok
    exact ⟨its, r, ⟨_, n, e, rfl, rfl, rfl⟩, z⟩
  · refine ⟨its.toList, r, ⟨o, n, I.kIn a o hk, hc, hd, by simpa using hs⟩, ?_⟩
    have e := r.length
    simp only [Array.length_toList] at e
    omega
theorem Inv.tuple (I : Inv X pins σ H s) (h : SqT X.K H a xs) : ∃ its : List Value, Vals xs its ∧ IsTup s.heap a its.toArray ∧ xs.length ≤ sizeLine := by
  rcases h with h | ⟨o, its, n, hk, hc, hs, hz, r⟩
  · obtain ⟨z, its, r, p⟩ := h.ok I.hok
    exact ⟨its, r, p, z⟩
  · refine ⟨its.toList, r, ⟨o, I.kIn a o hk, hc, n, by simpa using hs⟩, ?_⟩
    have e := r.length
    simp only [Array.length_toList] at e
    omega
theorem Inv.list_inj (I : Inv X pins σ H s) (h : SqL X.K H a xs) (h' : SqL X.K H a ys) : xs = ys := by
  obtain ⟨its, r, ⟨o, n, e, _, _, d⟩, _⟩ := I.list h
  obtain ⟨its', r', ⟨o', n', e', _, _, d'⟩, _⟩ := I.list h'
  rw [e] at e'; cases e'
  rw [d] at d'
  injection d' with d1 _
  have : its = its' := by simpa using congrArg Array.toList d1
  subst this
  exact r.inj r'
theorem Inv.tuple_inj (I : Inv X pins σ H s) (h : SqT X.K H a xs) (h' : SqT X.K H a ys) : xs = ys := by
  obtain ⟨its, r, ⟨o, e, _, n, d⟩, _⟩ := I.tuple h
  obtain ⟨its', r', ⟨o', e', _, n', d'⟩, _⟩ := I.tuple h'
  rw [e] at e'; cases e'
  rw [d] at d'
  injection d' with d1 _
  have : its = its' := by simpa using congrArg Array.toList d1
  subst this
  exact r.inj r'
end
noncomputable abbrev Cx.wish (X : Cx) (E : Value → Shared → Prop) : Cx := { X with xe := E }
noncomputable abbrev Cx.nox (X : Cx) : Cx := X.wish fun _ _ => False
theorem Cx.Ok.wish {X : Cx} (ok : X.Ok) (E : Value → Shared → Prop) : (X.wish E).Ok :=
  ⟨ok.mod, ok.kind, ok.glob, ok.blt, ok.above, ok.inj, ok.has, ok.cab, ok.hd, ok.hx, ok.frames, ok.stk, ok.exf, ok.bs, ok.bsz, ok.noex, ok.exfs, ok.funs, ok.frf⟩
theorem Cx.Ok.unwish {X : Cx} {E : Value → Shared → Prop} (ok : (X.wish E).Ok) : X.Ok :=
  ⟨ok.mod, ok.kind, ok.glob, ok.blt, ok.above, ok.inj, ok.has, ok.cab, ok.hd, ok.hx, ok.frames, ok.stk, ok.exf, ok.bs, ok.bsz, ok.noex, ok.exfs, ok.funs, ok.frf⟩
section
variable {X : Cx} {pins : List (Addr × Obj)} {σ : St} {H : Hp} {s : Shared} {E : Value → Shared → Prop}
theorem Inv.wish (I : Inv X pins σ H s) (E : Value → Shared → Prop) : Inv (X.wish E) pins σ H s := ⟨I.ok.wish E, I.os, I.bare, I.base, I.loc, I.cell, I.free, I.freeC, I.pin, I.hok, I.len⟩
theorem Inv.unwish (I : Inv (X.wish E) pins σ H s) : Inv X pins σ H s := ⟨I.ok.unwish, I.os, I.bare, I.base, I.loc, I.cell, I.free, I.freeC, I.pin, I.hok, I.len⟩
theorem SP.unwish {D : Ends} {f : Flow} {s' : Shared} (h : SP (X.wish E) pins D f s') : SP X pins D f s' := by
  cases f with
  | next => obtain ⟨σ', H', I, q⟩ := h; exact ⟨σ', H', I.unwish, q⟩
  | brk => obtain ⟨σ', H', I, q⟩ := h; exact ⟨σ', H', I.unwish, q⟩
  | cont => obtain ⟨σ', H', I, q⟩ := h; exact ⟨σ', H', I.unwish, q⟩
  | ret u => obtain ⟨v, σ', H', I, r, q⟩ := h; exact ⟨v, σ', H', I.unwish, r, q⟩
theorem PE.nox {e : Expr} {t : TE} (h : PE X.nox e t) : PE X e t := fun pins s σ H Q I hw =>
  wpAny_mono (h pins s σ H Q (I.wish _) hw) (fun _ _ ⟨v, H', I', r, q⟩ => ⟨v, H', I'.unwish, r, q⟩) fun _ _ z => False.elim z
theorem PT.nox {e : Expr} {t : TT} (h : PT X.nox e t) : PT X e t := fun pins s σ H Q I hw =>
  wpAny_mono (h pins s σ H Q (I.wish _) hw) (fun _ _ ⟨H', I', q⟩ => ⟨H', I'.unwish, q⟩) fun _ _ z => False.elim z
theorem PSs.nox {st : List Stmt} {t : TS} (h : PSs X.nox st t) : PSs X st t := fun pins s σ H D I hw =>
  wpAny_mono (h pins s σ H D (I.wish _) hw) (fun _ _ q => q.unwish) fun _ _ z => False.elim z
end
section
variable {X : Cx} {st : Stmt} {rest : List Stmt} {t u : TS} {e : Expr} {te : TE} {pos : Pos}
noncomputable def tNext : TS := fun D σ H => D.nx σ H
noncomputable def tSeq (t u : TS) : TS := fun D σ H => t { D with nx := u D } σ H
theorem pss_nil : PSs X [] tNext := fun _ _ σ H _ I h => wpAny_execs_nil ⟨σ, H, I, h⟩
theorem pss_cons (h1 : PS X st t) (h2 : PSs X rest u) : PSs X (st :: rest) (tSeq t u) := by
  intro pins s σ H D I h
  refine wpAny_execs_cons (thn (h1 pins s σ H { D with nx := u D } I h) fun f s1 q => ?_)
  cases f with
  | next =>
    obtain ⟨σ', H', I', q⟩ := q
    exact h2 pins s1 σ' H' D I' q
  | ret v => exact q
  | brk => exact q
  | cont => exact q
theorem pss_one (h1 : PS X st t) : PSs X [st] t := by
  intro pins s σ H D I h
  refine wpAny_execs_cons (thn (h1 pins s σ H D I h) fun f s1 q => ?_)
  cases f with
  | next => exact wpAny_execs_nil q
  | ret v => exact q
  | brk => exact q
  | cont => exact q
theorem Inv.quiet {pins : List (Addr × Obj)} {σ : St} {H : Hp} {s : Shared} (I : Inv X pins σ H s) : interactive X.env = false := by simp [interactive, I.ok.kind]
noncomputable def tDrop (te : TE) : TS := fun D σ H => te σ H fun _ H1 => D.nx σ H1
theorem ps_expr (he : PE X e te) (hs : swapsWith e none pos.line X.env = pure false := by rfl) : PS X (.Expr e pos) (tDrop te) := by
  intro pins s σ H D I h
  exact wpAny_Expr_any (thn (he pins s σ H _ I h) fun v s1 ⟨x, H1, I1, r1, q1⟩ => ⟨σ, H1, I1, q1⟩) I.quiet hs
noncomputable def tRet (te : TE) : TS := fun D σ H => te σ H D.rt
theorem ps_ret (he : PE X e te) : PS X (.Return (some e) pos) (tRet te) := by
  intro pins s σ H D I h
  exact wpAny_Return_some (thn (he pins s σ H _ I h) fun v s1 ⟨x, H1, I1, r1, q1⟩ => ⟨x, σ, H1, I1, r1, q1⟩)
noncomputable def tIfS (c : TT) (t u : TS) : TS := fun D σ H => c σ H fun b H1 => if b = true then t D σ H1 else u D σ H1
theorem ps_if {c : Expr} {a b : List Stmt} {tc : TT} (hc : PT X c tc) (ha : PSs X a t) (hb : PSs X b u) : PS X (.If c a b pos) (tIfS tc t u) := by
  intro pins s σ H D I h
  refine wpAny_If (thn (hc pins s σ H _ I h) fun d s1 ⟨H1, I1, q1⟩ => ?_)
  cases d with
  | true => exact ha pins s1 σ H1 D I1 q1
  | false => exact hb pins s1 σ H1 D I1 q1
end
noncomputable abbrev TG := V → St → Hp → (St → Hp → Prop) → Prop
noncomputable abbrev TGs := List V → St → Hp → (St → Hp → Prop) → Prop
noncomputable def PG (X : Cx) (target : Expr) (t : TG) : Prop :=
  ∀ (pins : List (Addr × Obj)) (s : Shared) (σ : St) (H : Hp) (v : V) (u : Value) (Q : St → Hp → Prop), Inv X pins σ H s → RelV v u → t v σ H Q →
    wpAny (model X.prog X.w) X.A (assign target X.env u) (fun _ s' => ∃ σ' H', Inv X pins σ' H' s' ∧ Q σ' H') X.xe s
noncomputable def PGs (X : Cx) (ts : List Expr) (t : TGs) : Prop :=
  ∀ (pins : List (Addr × Obj)) (s : Shared) (σ : St) (H : Hp) (vs : List V) (us : List Value) (Q : St → Hp → Prop), Inv X pins σ H s → Vals vs us → t vs σ H Q →
    wpAny (model X.prog X.w) X.A (assignInOrder ((assignEach ts X.env).map (·.2)) us) (fun _ s' => ∃ σ' H', Inv X pins σ' H' s' ∧ Q σ' H') X.xe s
noncomputable abbrev TSet := V → V → V → Hp → (Hp → Prop) → Prop
noncomputable def PSet (X : Cx) (t : TSet) : Prop :=
  ∀ (pins : List (Addr × Obj)) (s : Shared) (σ : St) (H : Hp) (o i v : V) (ov iv u : Value) (Q : Hp → Prop), Inv X pins σ H s → RelV o ov → RelV i iv → RelV v u → t o i v H Q →
    wpAny (model X.prog X.w) X.A (setItem ov iv u) (fun _ s' => ∃ H', Inv X pins σ H' s' ∧ Q H') X.xe s
section
variable {X : Cx} {pos : Pos}
noncomputable def gName (i : Nat) : TG := fun v σ H Q => Q (σ.set i (some v)) H
theorem pg_name {i : Nat} {x : Str} (hN : X.N.Nodup) (hi : X.N[i]? = some x) (hx : Loc X.env.scope x) (hf : X.fn x = true ∨ X.env.scope.names.lookup x = some .local := by first | exact .inl rfl | exact .inr rfl | assumption) : PG X (.Name x pos) (gName i) := by
  intro pins s σ H v u Q I r h
  exact wpAny_assign_Name (store_ok I hN hi hx r (fun s' I' => ⟨_, H, I', h⟩) hf)
noncomputable def gNil : TGs := fun vs σ H Q => vs = [] ∧ Q σ H
noncomputable def gCons (t : TG) (u : TGs) : TGs := fun vs σ H Q => ∃ v r, vs = v :: r ∧ t v σ H fun σ' H' => u r σ' H' Q
theorem pgs_nil : PGs X [] gNil := by
  intro pins s σ H vs us Q I r h
  obtain ⟨e, h⟩ := h
  subst e
  cases r
  exact assignInOrder_nil ⟨σ, H, I, h⟩
theorem pgs_cons {e : Expr} {es : List Expr} {t : TG} {u : TGs} (h1 : PG X e t) (h2 : PGs X es u)
    (hs : (assignEach (e :: es) X.env).map (·.2) = assign e X.env :: (assignEach es X.env).map (·.2) := by rfl) : PGs X (e :: es) (gCons t u) := by
  intro pins s σ H vs us Q I r h
  obtain ⟨v, vr, e1, h⟩ := h
  subst e1
  cases r with
  | cons r rr =>
    rw [hs]
    refine assignInOrder_cons (thn (h1 pins s σ H _ _ _ I r h) fun _ s1 ⟨σ1, H1, I1, q1⟩ => ?_)
    exact h2 pins s1 σ1 H1 _ _ Q I1 rr q1
noncomputable def gTup (K : W.Frag) (n : Nat) (t : TGs) : TG := fun v σ H Q => ∃ a xs, v = .ref a ∧ SqT K H a xs ∧ xs.length = n ∧ t xs σ H Q
theorem pg_tup {es : List Expr} {k : Nat} {t : TGs} {n : Nat} (hc : X.calm = true) (h : PGs X es t)
    (hn : (assignEach es X.env).length = n := by rfl) (hst : (assignEach es X.env).findIdx? (·.1) = none := by rfl) : PG X (.Tuple es k pos) (gTup X.K n t) := by
  intro pins s σ H v u Q I r hw
  obtain ⟨a, xs, e1, hq, hl, hw⟩ := hw
  subst e1
  cases r
  obtain ⟨its, rv, ht, hz⟩ := I.tuple hq
  refine assign_Tuple_tuple (I.ok.hd hc) ht (by simp [hn, ← hl, rv.length]) hst fun h' hx => ?_
  have I1 : Inv X pins σ H { s with heap := h' } := I.kept (t' := s.toks) fun b o e => hx b o (Nat.ne_of_lt (Heap.lt_size e)) e
  exact h pins _ σ H xs _ Q I1 (by simpa using rv) hw
noncomputable def gSub (to ti : TE) (t : TSet) : TG := fun v σ H Q => to σ H fun o H1 => ti σ H1 fun i H2 => t o i v H2 fun H3 => Q σ H3
theorem pg_sub {o i : Expr} {to ti : TE} {t : TSet} (ho : PE X o to) (hi : PE X i ti) (hs : PSet X t)
    (ha : ∀ v, assign (.Subscript o i pos) X.env v = (do
      let ov ← holding [v] (eval o X.env)
      let iv ← holding [v, ov] (eval i X.env)
      standAt pos
      holding [v, ov, iv] (setItem ov iv v)
      release [v, ov, iv] []) := by intro _; rfl) : PG X (.Subscript o i pos) (gSub to ti t) := by
  intro pins s σ H v u Q I r h
  rw [ha]
  refine wpAny_bind (wpAny_holding (thn (ho pins s σ H _ I h) fun ov s1 ⟨x, H1, I1, r1, q1⟩ => ?_))
  refine wpAny_bind (wpAny_holding (thn (hi pins s1 σ H1 _ I1 q1) fun iv s2 ⟨y, H2, I2, r2, q2⟩ => ?_))
  refine wpAny_bind (wpAny_standAt (wpAny_bind (wpAny_holding (thn (hs pins s2 σ H2 x y v ov iv u _ I2 r1 r2 r q2) fun _ s3 ⟨H3, I3, q3⟩ => ?_))))
  exact wpAny_release ⟨σ, H3, I3, q3⟩
noncomputable def tAsg (te : TE) (g : TG) : TS := fun D σ H => te σ H fun x H1 => g x σ H1 D.nx
theorem ps_asg {tg e : Expr} {te : TE} {g : TG} (he : PE X e te) (hg : PG X tg g) (hs : swapsWithSole [tg] e pos.line X.env = pure false := by rfl) (hw : swappedStores [tg] e X.env = pure none := by rfl)
    (h1 : (assignEach [tg] X.env).map (·.2) = [assign tg X.env] := by rfl) : PS X (.Assign [tg] e pos) (tAsg te g) := by
  intro pins s σ H D I h
  refine wpAny_Assign_stores (thn (he pins s σ H _ I h) fun v s1 ⟨x, H1, I1, r1, q1⟩ => ?_) hs hw
  rw [h1]
  exact thn (hg pins s1 σ H1 x v _ I1 r1 q1) fun _ s2 q => q
theorem ps_set {i : Nat} {x : Str} {e : Expr} {te : TE} {pos' : Pos} (hN : X.N.Nodup) (hi : X.N[i]? = some x) (hx : Loc X.env.scope x) (he : PE X e te) (hs : swapsWith e (some (.Name x pos')) pos.line X.env = pure false := by rfl) (hf : X.fn x = true ∨ X.env.scope.names.lookup x = some .local := by first | exact .inl rfl | exact .inr rfl | assumption) :
    PS X (.Assign [.Name x pos'] e pos) (tAsg te (gName i)) := by
  intro pins s σ H D I h
  refine wpAny_Assign_Name (thn (he pins s σ H _ I h) fun v s1 ⟨y, H1, I1, r1, q1⟩ => ?_) hs
  exact store_ok I1 hN hi hx r1 (fun s2 I2 => ⟨_, H1, I2, q1⟩) hf
end
section
variable {X : Cx} {pos : Pos}
end
structure It where
  go : Nat → Hp → Prop
  yld : Nat → Hp → V → Hp → Prop
  stop : Nat → Hp → Prop
noncomputable def FpOk (X : Cx) (pins : List (Addr × Obj)) (H : Hp) (b : Addr) : Prop :=
  H b = none ∧ b ≠ X.env.locals ∧ b ∉ X.fs ∧ (b ∈ X.ex ∨ X.s₀.heap.objs.size ≤ b) ∧ (∀ x c, X.env.cells.lookup x = some c → c ≠ b) ∧ ∀ p ∈ X.pn ++ pins, p.1 ≠ b
theorem Inv.fpOk {X : Cx} {pins : List (Addr × Obj)} {σ : St} {H H' : Hp} {s : Shared} {b : Addr} (I : Inv X pins σ H s) (hb : s.heap.objs.size ≤ b) (hn : H' b = none) : FpOk X pins H' b := by
  refine ⟨hn, Nat.ne_of_gt (Nat.lt_of_lt_of_le I.lt hb), I.nofs hb, .inr (Nat.le_trans I.sz hb), fun x c e z => ?_, fun p hp z => ?_⟩
  · obtain ⟨v, q⟩ := I.cell x c e
    exact absurd (Nat.lt_of_lt_of_le q.lt (by rw [z]; exact hb)) (Nat.lt_irrefl _)
  · exact absurd (Nat.lt_of_lt_of_le (Heap.lt_size (I.pin p hp).1) (by rw [z]; exact hb)) (Nat.lt_irrefl _)
structure Turn (P : Program) (w : World) (K : W.Frag) (tg : Expr) (J : It) (fp : List Addr) (it : Addr) (tn : Nat → Heap → Prop) : Prop where
  mem : it ∈ fp
  obj : ∀ i h, tn i h → ∀ b ∈ fp, ∃ o, h.get? b = some o ∧ ∀ v, o.data ≠ .cell v
  keep : ∀ i h h', tn i h → (∀ b ∈ fp, ∀ o, h.get? b = some o → h'.get? b = some o) → tn i h'
  item : ∀ (X : Cx), X.prog = P → X.w = w → X.K = K → ∀ (i : Nat) (pins : List (Addr × Obj)) (s : Shared) (σ : St) (H : Hp) (E : Value → Shared → Prop), Inv X pins σ H s → (∀ b ∈ fp, FpOk X pins H b) → tn i s.heap → J.go i H →
    wpAny (model P w) X.A (pyNext (.ref it)) (fun r s1 => ∃ u, r = some u ∧
      wpAny (model P w) X.A (letOwnedTupleGo tg (.ref it) u) (fun _ s2 => ∃ x H', Inv X pins σ H' s2 ∧ RelV x u ∧ J.yld i H x H' ∧ tn (i + 1) s2.heap ∧ ∀ b ∈ fp, H' b = none) E s1) E s
  done : ∀ (X : Cx), X.prog = P → X.w = w → X.K = K → ∀ (i : Nat) (pins : List (Addr × Obj)) (s : Shared) (σ : St) (H : Hp) (E : Value → Shared → Prop), Inv X pins σ H s → (∀ b ∈ fp, FpOk X pins H b) → tn i s.heap → J.stop i H →
    wpAny (model P w) X.A (pyNext (.ref it)) (fun r s1 => r = none ∧ Inv X pins σ H s1) E s
  self : ∀ (A : Around) (i : Nat) (s : Shared) (Q : Value → Shared → Prop) (E : Value → Shared → Prop), tn i s.heap → Q (.ref it) s → wpAny (model P w) A (pyIter (.ref it)) Q E s
noncomputable abbrev TI := St → Hp → (It → Hp → Prop) → Prop
noncomputable def PIE (X : Cx) (pins : List (Addr × Obj)) (σ : St) (tg : Expr) (R : It → Hp → Prop) (itv : Value) (s2 : Shared) : Prop :=
  ∃ (it : Addr) (fp : List Addr) (tn : Nat → Heap → Prop) (J : It) (H' : Hp), itv = .ref it ∧ Inv X pins σ H' s2 ∧ Turn X.prog X.w X.K tg J fp it tn ∧ tn 0 s2.heap ∧ (∀ b ∈ fp, FpOk X pins H' b) ∧ R J H'
noncomputable def PI (X : Cx) (tg iter : Expr) (wi : TI) : Prop :=
  ∀ (pins : List (Addr × Obj)) (s : Shared) (σ : St) (H : Hp) (R : It → Hp → Prop), Inv X pins σ H s → wi σ H R →
    wpAny (model X.prog X.w) X.A (eval iter X.env) (fun v s1 => wpAny (model X.prog X.w) X.A (pyIter v) (PIE X pins σ tg R) X.xe s1) X.xe s
theorem go_of {M : Model} {A : Around} {E : Value → Shared → Prop} {s : Shared} {tg : Expr} {it : Addr} {u : Value} {o : Obj} {n : String} {vs : Array Value} {Q : Unit → Shared → Prop} (ho : s.heap.get? it = some o) (hc : o.cls = .type n) (hd : o.data = .fields vs)
    (hn : ["enumerate", "zip", "dict_itemiterator", "dict_reverseitemiterator", "odict_iterator", "itertools.zip_longest", "itertools.pairwise"].contains n = false) (hQ : Q () s) : wpAny M A (letOwnedTupleGo tg (.ref it) u) Q E s := by
  unfold letOwnedTupleGo
  cases tg <;> first
    | exact wpAny_pure hQ
    | (cases u <;> first
        | exact wpAny_pure hQ
        | (refine wpAny_bind (wpAny_load ho ?_)
           rw [hc, hd]
           show wpAny M A (if (["enumerate", "zip", "dict_itemiterator", "dict_reverseitemiterator", "odict_iterator", "itertools.zip_longest", "itertools.pairwise"].contains n && vs[0]? == some (rawInt _)) = true then _ else _) Q E s
           rw [if_neg (by intro h; rw [hn, Bool.false_and] at h; cases h)]
           exact wpAny_pure hQ))
noncomputable def Itl (K : W.Frag) (a : Addr) : It :=
  ⟨fun i H => ∃ xs x, SqL K H a xs ∧ xs[i]? = some x, fun i H x H' => H' = H ∧ ∀ xs, SqL K H a xs → xs[i]? = some x, fun i H => ∃ xs, SqL K H a xs ∧ xs.length ≤ i⟩
noncomputable def Itt (K : W.Frag) (a : Addr) : It :=
  ⟨fun i H => ∃ xs x, SqT K H a xs ∧ xs[i]? = some x, fun i H x H' => H' = H ∧ ∀ xs, SqT K H a xs → xs[i]? = some x, fun i H => ∃ xs, SqT K H a xs ∧ xs.length ≤ i⟩
noncomputable def Itr (lo : Int) (n : Nat) : It := ⟨fun i _ => i < n, fun i H x H' => H' = H ∧ x = .int (lo + i), fun i _ => n ≤ i⟩
theorem HandA.keep {A : Around} {H H' : Hp} (x : HandA A H) (k : ∀ b o u, H b = some (.frz o u) → H' b = some (.frz o u)) : HandA A H' := by
  rcases x with x | ⟨a, o, cls, head, vs, x1, x2, x3⟩
  · exact .inl x
  · exact .inr ⟨a, o, cls, head, vs, x1, k _ _ _ x2, x3⟩
theorem HandA.at_ {A : Around} {P : Program} {w : World} {H : Hp} {h : Heap} (x : HandA A H) (ok : HOk P w H h) : L3.Hand A h := by
  rcases x with x | ⟨a, o, cls, head, vs, x1, x2, x3⟩
  · exact .inl x
  · exact .inr ⟨a, cls, head, x1, o, vs, (ok a _ x2).1, x3⟩
theorem Inv.handA {X : Cx} {pins : List (Addr × Obj)} {σ : St} {H : Hp} {s : Shared} (I : Inv X pins σ H s) : HandA X.A H := I.ok.hx.keep I.base.frzs
theorem Inv.hand {X : Cx} {pins : List (Addr × Obj)} {σ : St} {H : Hp} {s : Shared} (I : Inv X pins σ H s) : L3.Hand X.A s.heap := I.handA.at_ I.hok
theorem turn_list {P : Program} {w : World} {K : W.Frag} {tg : Expr} (a it : Addr) : Turn P w K tg (Itl K a) [it] it (fun i h => h.IsListIter it a i) where
  mem := by simp
  obj := fun i h st b hb => by
    have e : b = it := by simpa using hb
    subst e
    obtain ⟨o, e, c, d⟩ := st
    exact ⟨o, e, fun v z => by rw [d] at z; cases z⟩
  keep := fun i h h' st k => st.at fun o e => k it (by simp) o e
  item := by
    intro X hP hw hK i pins s σ H E I hf st hg
    subst hP hw hK
    obtain ⟨xs, x, hq, hx⟩ := hg
    obtain ⟨its, rv, p, hz⟩ := I.list hq
    obtain ⟨u, hu, ru⟩ := rv.get hx
    obtain ⟨f0, f1, f2, f3, f4, f5⟩ := hf it (by simp)
    refine wpAny_pyNext_list_item st p.isList (x := u) (by simpa using hu) fun h' st' sb => ?_
    have I1 : Inv X pins σ H { s with heap := h' } := I.turned (t' := s.toks) (fun b o hb e => (sb.2 b hb).trans e) f0 f1 f3 f4 f5
    obtain ⟨o, e, c, d⟩ := id st'
    exact ⟨u, rfl, go_of (s := { s with heap := h' }) e c d (by decide) ⟨x, H, I1, ru, ⟨rfl, fun ys hy => by rw [I.list_inj hy hq]; exact hx⟩, st', fun b hb => (hf b hb).1⟩⟩
  done := by
    intro X hP hw hK i pins s σ H E I hf st hg
    subst hP hw hK
    obtain ⟨xs, hq, hx⟩ := hg
    obtain ⟨its, rv, p, hz⟩ := I.list hq
    obtain ⟨f0, f1, f2, f3, f4, f5⟩ := hf it (by simp)
    have hl := rv.length
    exact L3.list_end I.hand st p.isList (by simp; omega) fun h' eb => ⟨rfl, I.turned (t' := s.toks) (fun b o hb e => eb b o hb e) f0 f1 f3 f4 f5⟩
  self := fun _ _ _ _ _ st h => wpAny_pyIter_listiter st h
theorem turn_tuple {P : Program} {w : World} {K : W.Frag} {tg : Expr} (a it : Addr) : Turn P w K tg (Itt K a) [it] it (fun i h => h.IsTupleIter it a i) where
  mem := by simp
  obj := fun i h st b hb => by
    have e : b = it := by simpa using hb
    subst e
    obtain ⟨o, e, c, d⟩ := st
    exact ⟨o, e, fun v z => by rw [d] at z; cases z⟩
  keep := fun i h h' st k => st.at fun o e => k it (by simp) o e
  item := by
    intro X hP hw hK i pins s σ H E I hf st hg
    subst hP hw hK
    obtain ⟨xs, x, hq, hx⟩ := hg
    obtain ⟨its, rv, p, hz⟩ := I.tuple hq
    obtain ⟨u, hu, ru⟩ := rv.get hx
    obtain ⟨f0, f1, f2, f3, f4, f5⟩ := hf it (by simp)
    refine wpAny_pyNext_tuple_item st (show s.heap.IsTuple a its.toArray from p) (x := u) (by simpa using hu) fun h' st' sb => ?_
    have I1 : Inv X pins σ H { s with heap := h' } := I.turned (t' := s.toks) (fun b o hb e => (sb.2 b hb).trans e) f0 f1 f3 f4 f5
    obtain ⟨o, e, c, d⟩ := id st'
    exact ⟨u, rfl, go_of (s := { s with heap := h' }) e c d (by decide) ⟨x, H, I1, ru, ⟨rfl, fun ys hy => by rw [I.tuple_inj hy hq]; exact hx⟩, st', fun b hb => (hf b hb).1⟩⟩
  done := by
    intro X hP hw hK i pins s σ H E I hf st hg
    subst hP hw hK
    obtain ⟨xs, hq, hx⟩ := hg
    obtain ⟨its, rv, p, hz⟩ := I.tuple hq
    obtain ⟨f0, f1, f2, f3, f4, f5⟩ := hf it (by simp)
    have hl := rv.length
    exact L3.tuple_end I.hand st (show s.heap.IsTuple a its.toArray from p) (by simp; omega) fun h' eb => ⟨rfl, I.turned (t' := s.toks) (fun b o hb e => eb b o hb e) f0 f1 f3 f4 f5⟩
  self := fun _ _ _ _ _ st h => wpAny_pyIter_tupleiter st h
theorem turn_range {P : Program} {w : World} {K : W.Frag} {tg : Expr} (it : Addr) (lo : Int) (n : Nat) : Turn P w K tg (Itr lo n) [it] it (fun i h => IsRangeIter h it (lo + (i : Nat) * 1) ((n : Int) - (i : Nat)) 1) where
  mem := by simp
  obj := fun i h st b hb => by
    have e : b = it := by simpa using hb
    subst e
    exact ⟨_, st, fun v z => by
      have z' : Data.fields _ = Data.cell v := z
      cases z'⟩
  keep := fun i h h' st k => k it (by simp) _ st
  item := by
    intro X hP hw hK i pins s σ H E I hf st hg
    subst hP hw hK
    obtain ⟨f0, f1, f2, f3, f4, f5⟩ := hf it (by simp)
    refine wpAny_pyNext_range_item st (by have : i < n := hg; omega) fun h' st' kk => ?_
    have e1 : lo + (i : Nat) * 1 + 1 = lo + ((i + 1 : Nat) : Int) * 1 := by omega
    have e2 : (n : Int) - (i : Nat) - 1 = (n : Int) - ((i + 1 : Nat) : Int) := by omega
    rw [e1, e2] at st'
    have I1 : Inv X pins σ H { s with heap := h', toks := s.toks + 1 } := I.turned (fun b o hb e => (kk.2 b hb).trans e) f0 f1 f3 f4 f5
    refine ⟨_, rfl, go_of (s := { s with heap := h', toks := s.toks + 1 }) (n := "range_iterator") st' rfl rfl (by decide) ⟨.int (lo + i), H, I1, ⟨s.toks, ?_⟩, ⟨rfl, rfl⟩, st', fun b hb => (hf b hb).1⟩⟩
    rw [Int.mul_one]
  done := by
    intro X hP hw hK i pins s σ H E I hf st hg
    subst hP hw hK
    obtain ⟨f0, f1, f2, f3, f4, f5⟩ := hf it (by simp)
    exact L3.range_end I.hand st (by have : n ≤ i := hg; omega) fun h' eb => ⟨rfl, I.turned (t' := s.toks) (fun b o hb e => eb b o hb e) f0 f1 f3 f4 f5⟩
  self := fun _ _ _ _ _ st h => wpAny_pyIter_rangeiter st h
end L2
namespace L2
open PySem PySem.Spec PyProof.Rows
section
variable {X : Cx} {tg : Expr}
theorem range_it {pins : List (Addr × Obj)} {σ : St} {H : Hp} {s : Shared} {R : It → Hp → Prop} {E : Value → Shared → Prop} {lo hi : Int} {t u v : Tok} {tk : Nat} (I : Inv X pins σ H s) (h1 : -(2 ^ 62) ≤ lo) (h2 : lo < 2 ^ 62) (h3 : -(2 ^ 62) ≤ hi) (h4 : hi < 2 ^ 62)
    (q : R (Itr lo (hi - lo).toNat) H) : wpAny (model X.prog X.w) X.A (pyIter (.ref s.heap.objs.size)) (PIE X pins σ tg R) E { s with heap := s.heap.push { cls := .type "range", data := .fields #[.int lo t, .int hi u, .int 1 v] }, toks := tk } := by
  refine wpAny_pyIter_range (IsRange.new ..) (small_one h1 h2 h3 h4) ?_
  have I1 : Inv X pins σ H { s with heap := s.heap.push { cls := .type "range", data := .fields #[.int lo t, .int hi u, .int 1 v] }, toks := tk } := I.kept fun b o e => Heap.get?_push_of_some _ e
  refine ⟨(s.heap.push { cls := .type "range", data := .fields #[.int lo t, .int hi u, .int 1 v] }).objs.size, [(s.heap.push { cls := .type "range", data := .fields #[.int lo t, .int hi u, .int 1 v] }).objs.size], _, _, H, rfl,
    I1.kept (t' := tk) fun b o e => Heap.get?_push_of_some _ e, turn_range _ lo (hi - lo).toNat, ?_, fun b hb => ?_, q⟩
  · have e1 : lo + ((0 : Nat) : Int) * 1 = lo := by simp
    have e2 : (((hi - lo).toNat : Nat) : Int) - ((0 : Nat) : Int) = Builtin.Range.rangeSize lo hi 1 := by rw [rangeSize_one]; split <;> omega
    show IsRangeIter _ _ (lo + ((0 : Nat) : Int) * 1) ((((hi - lo).toNat : Nat) : Int) - ((0 : Nat) : Int)) 1
    rw [e1, e2]
    exact Heap.get?_push_size _ rfl
  · have e : b = (s.heap.push { cls := .type "range", data := .fields #[.int lo t, .int hi u, .int 1 v] }).objs.size := by simpa using hb
    subst e
    exact I1.fpOk (Nat.le_refl _) (I1.hok.fresh (Nat.le_refl _))
noncomputable def iRng1 (ta : TA) : TI := fun σ H R => ta σ H fun vs H1 => ∃ j : Int, vs = [.int j] ∧ -(2 ^ 62) ≤ j ∧ j < 2 ^ 62 ∧ R (Itr 0 j.toNat) H1
theorem pi_range1 {a : Expr} {ta : TA} {p pos : Pos} (hg : Gl X "range") (hm : X.mg "range" = none) (ha : PA X [a] ta) (hs : starEach [a] X.env = [(false, eval a X.env)] := by rfl) : PI X tg (.Call (.Name "range" p) [a] [] pos) (iRng1 ta) := by
  intro pins s σ H R I h
  refine Call_ (ld_blt I hg hm boot_range (PyProof.Rows.callWith_type1 (thn (ha pos pins s σ H _ I h) fun us s1 ⟨vs, H1, I1, r1, q1⟩ => ?_) hs rfl))
  obtain ⟨j, e, q1, q2, q⟩ := q1
  subst e
  cases r1 with
  | cons r rr =>
    cases rr
    obtain ⟨t, rfl⟩ := r
    exact call_range_1 (range_it I1 (by omega) (by omega) q1 q2 (by simpa using q))
noncomputable def tFor (wi : TI) (g : TG) (tb : TS) : TS := fun D σ H => wi σ H fun J H1 => ∃ W : Nat → Nat → St → Hp → Prop, (∃ m, W 0 m σ H1) ∧ ∀ i m σ H, W i m σ H →
  (J.stop i H ∧ D.nx σ H) ∨ (J.go i H ∧ ∃ N : St → Hp → Prop, (∀ σ' H', N σ' H' → ∃ m', m' < m ∧ W (i + 1) m' σ' H') ∧ ∀ x H', J.yld i H x H' → g x σ H' fun σ2 H2 => tb { D with nx := N, ct := N, bk := D.nx } σ2 H2)
noncomputable def pinsAt (fp : List Addr) (h : Heap) : List (Addr × Obj) := fp.filterMap fun b => (h.get? b).map fun o => (b, o)
theorem mem_pinsAt {fp : List Addr} {h : Heap} {b : Addr} {o : Obj} (hb : b ∈ fp) (e : h.get? b = some o) : (b, o) ∈ pinsAt fp h := List.mem_filterMap.mpr ⟨b, hb, by rw [e]; rfl⟩
theorem of_pinsAt {fp : List Addr} {h : Heap} {p : Addr × Obj} (hp : p ∈ pinsAt fp h) : p.1 ∈ fp ∧ h.get? p.1 = some p.2 := by
  obtain ⟨b, hb, e⟩ := List.mem_filterMap.mp hp
  cases q : h.get? b with
  | none => rw [q] at e; cases e
  | some o =>
    rw [q] at e
    have e' : (b, o) = p := Option.some.inj e
    subst e'
    exact ⟨hb, q⟩
theorem Inv.pinned {pins : List (Addr × Obj)} {σ : St} {H : Hp} {s : Shared} {fp : List Addr} (I : Inv X pins σ H s) (hf : ∀ b ∈ fp, FpOk X pins H b) (ho : ∀ b ∈ fp, ∃ o, s.heap.get? b = some o ∧ ∀ v, o.data ≠ .cell v) : Inv X (pins ++ pinsAt fp s.heap) σ H s :=
  I.pins_of fun p hp => (List.mem_append.mp hp).elim (fun z => I.pin p (List.mem_append_right _ z)) fun z => by
    obtain ⟨hb, e⟩ := of_pinsAt z
    obtain ⟨f0, f1, f2, _⟩ := hf p.1 hb
    obtain ⟨o, e', d⟩ := ho p.1 hb
    rw [e] at e'; cases e'
    exact ⟨e, f0, f1, f2, d⟩
theorem Inv.unpinned {pins pl : List (Addr × Obj)} {σ : St} {H : Hp} {s : Shared} (I : Inv X (pins ++ pl) σ H s) : Inv X pins σ H s := I.pins_of fun p hp => I.pin p (List.mem_append_right _ (List.mem_append_left _ hp))
theorem ps_for {iter : Expr} {body : List Stmt} {wi : TI} {g : TG} {tb : TS} {pos : Pos} (hp : PassesOwn (model X.prog X.w) X.A X.env X.xe) (hc : X.calm = true) (hi : PI X tg iter wi) (hg : PG X tg g) (hb : PSs X body tb)
    (hs : ∀ x, foldedSetIterable iter X.env x = pure x := by intro _; rfl) : PS X (.For tg iter body [] pos) (tFor wi g tb) := by
  intro pins s σ H D I h
  refine wpAny_For (thn (hi pins s σ H _ I h) fun v s1 h1 => thn h1 fun itv s2 h2 => ?_) hs
  obtain ⟨it, fp, tn, J, H2, e, I2, T, st2, f2, W, ⟨m0, w0⟩, turn⟩ := h2
  subst e
  have stat : ∀ {H' : Hp}, (∀ b ∈ fp, H' b = none) → ∀ b ∈ fp, FpOk X pins H' b := fun hn b hb => ⟨hn b hb, (f2 b hb).2⟩
  refine codeAny_forLoop_any (fun n s' => ∃ i σ' H', Inv X pins σ' H' s' ∧ tn i s'.heap ∧ (∀ b ∈ fp, H' b = none) ∧ W i n σ' H') ?_ m0 ⟨0, σ, H2, I2, st2, fun b hb => (f2 b hb).1, w0⟩
  rintro n s3 ⟨i, σ3, H3, I3, st3, fr3, w3⟩
  rcases turn i n σ3 H3 w3 with ⟨stop, qn⟩ | ⟨go, N, hN, step⟩
  · refine wpAny_passesOwn hp (thn (T.done X rfl rfl rfl i pins s3 σ3 H3 X.xe I3 (stat fr3) st3 stop) fun r s4 ⟨hr, I4⟩ => ?_)
    subst hr
    exact wpAny_execs_nil ⟨σ3, H3, I4, qn⟩
  · refine wpAny_passesOwn hp (thn (T.item X rfl rfl rfl i pins s3 σ3 H3 X.xe I3 (stat fr3) st3 go) fun r s4 ⟨u, hr, h4⟩ => ?_)
    subst hr
    refine wpAny_passesOwn hp (thn h4 fun _ s5 ⟨x, H5, I5, r5, y5, st5, fr5⟩ => ?_)
    have I5' := I5.pinned (stat fr5) (T.obj _ _ st5)
    refine wpAny_passesOwn hp (thn (hg _ s5 σ3 H5 x u _ I5' r5 (step x H5 y5)) fun _ s6 ⟨σ6, H6, I6, q6⟩ => ?_)
    refine wpAny_passesOwn hp (thn (hb _ s6 σ6 H6 _ I6 q6) fun f s7 q7 => ?_)
    have again : ∀ {σ7 : St} {H7 : Hp}, Inv X (pins ++ pinsAt fp s5.heap) σ7 H7 s7 → N σ7 H7 → ∃ m, m < n ∧ ∃ i σ' H', Inv X pins σ' H' s7 ∧ tn i s7.heap ∧ (∀ b ∈ fp, H' b = none) ∧ W i m σ' H' := fun {σ7 H7} I7 n7 => by
      obtain ⟨m', hm, w7⟩ := hN σ7 H7 n7
      refine ⟨m', hm, i + 1, σ7, H7, I7.unpinned, T.keep _ _ _ st5 fun b hb o e => (I7.pin (b, o) (List.mem_append_right _ (List.mem_append_right _ (mem_pinsAt hb e)))).1, fun b hb => ?_, w7⟩
      obtain ⟨o, e, d⟩ := T.obj _ _ st5 b hb
      exact (I7.pin (b, o) (List.mem_append_right _ (List.mem_append_right _ (mem_pinsAt hb e)))).2.1
    cases f with
    | next => obtain ⟨σ7, H7, I7, n7⟩ := q7; exact again I7 n7
    | cont => obtain ⟨σ7, H7, I7, n7⟩ := q7; exact again I7 n7
    | brk => obtain ⟨σ7, H7, I7, q7⟩ := q7; exact ⟨σ7, H7, I7.unpinned, q7⟩
    | ret v => obtain ⟨x7, σ7, H7, I7, r7, q7⟩ := q7; exact ⟨x7, σ7, H7, I7.unpinned, r7, q7⟩
end
end L2
namespace L2
open PySem PySem.Spec PyProof.Rows
noncomputable abbrev R2 := V → V → Hp → VK → Prop
noncomputable def OpR (X : Cx) (f : Value → Value → Sem Value) (r : R2) : Prop :=
  ∀ (pins : List (Addr × Obj)) (s : Shared) (σ : St) (H : Hp) (x y : V) (v u : Value) (Q : VK), Inv X pins σ H s → RelV x v → RelV y u → r x y H Q →
    wpAny (model X.prog X.w) X.A (f v u) (EP X pins σ Q) X.xe s
noncomputable def CallR (X : Cx) (f : Value) (r : List V → Hp → VK → Prop) : Prop :=
  ∀ (pins : List (Addr × Obj)) (s : Shared) (σ : St) (H : Hp) (xs : List V) (us : List Value) (Q : VK), Inv X pins σ H s → Vals xs us → r xs H Q →
    wpAny (model X.prog X.w) X.A (call f us) (EP X pins σ Q) X.xe s
noncomputable def tOp (r : R2) (ta tb : TE) : TE := fun σ H Q => ta σ H fun x H1 => tb σ H1 fun y H2 => r x y H2 Q
noncomputable def rI (C : Int → Int → Prop) (g : Int → Int → V) : R2 := fun x y H Q => ∃ i j, x = .int i ∧ y = .int j ∧ C i j ∧ Q (g i j) H
noncomputable def rI0 (g : Int → Int → V) : R2 := fun x y H Q => ∃ i j, x = .int i ∧ y = .int j ∧ Q (g i j) H
section
variable {X : Cx} {a b c : Expr} {ta tb tc : TE} {pos : Pos}
theorem binT (ha : PE X a ta) (hb : PE X b tb) {pins : List (Addr × Obj)} {s : Shared} {σ : St} {H : Hp} {R : V → V → Hp → Prop} (I : Inv X pins σ H s)
    (h : ta σ H fun x H1 => tb σ H1 fun y H2 => R x y H2) {Q : Value → Shared → Prop} {f : Value → Value → Sem Value}
    (hf : ∀ v u s2 x y H2, Inv X pins σ H2 s2 → RelV x v → RelV y u → R x y H2 → wpAny (model X.prog X.w) X.A (f v u) Q X.xe s2) :
    wpAny (model X.prog X.w) X.A (eval a X.env) (fun v s₁ => wpAny (model X.prog X.w) X.A (eval b X.env) (fun u s₂ => wpAny (model X.prog X.w) X.A (f v u) Q X.xe s₂) X.xe s₁) X.xe s := by
  refine thn (ha pins s σ H _ I h) fun v s1 ⟨x, H1, I1, r1, q1⟩ => ?_
  refine thn (hb pins s1 σ H1 _ I1 q1) fun u s2 ⟨y, H2, I2, r2, q2⟩ => ?_
  exact hf v u s2 x y H2 I2 r1 r2 q2
theorem pe_op {op : Operator} {r : R2} (ho : OpR X (binaryOp op) r) (ha : PE X a ta) (hb : PE X b tb) : PE X (.BinOp a op b pos) (tOp r ta tb) := by
  intro pins s σ H Q I h
  exact wpAny_BinOp (binT ha hb I h fun v u s2 x y H2 I2 rx ry q => ho pins s2 σ H2 x y v u Q I2 rx ry q)
theorem opI {f : Value → Value → Sem Value} {C : Int → Int → Prop} {g : Int → Int → Int}
    (rule : ∀ (i j : Int) (t u : Tok) (s : Shared) (Q : Value → Shared → Prop) (E : Value → Shared → Prop), C i j → Q (.int (g i j) s.toks) { s with toks := s.toks + 1 } → wpAny (model X.prog X.w) X.A (f (.int i t) (.int j u)) Q E s) :
    OpR X f (rI C fun i j => .int (g i j)) := by
  intro pins s σ H x y v u Q I rx ry h
  obtain ⟨i, j, rfl, rfl, hc, q⟩ := h
  obtain ⟨t, rfl⟩ := rx
  obtain ⟨t', rfl⟩ := ry
  exact rule i j t t' s _ _ hc ⟨.int (g i j), H, I.tok _, ⟨_, rfl⟩, q⟩
theorem opI0 {f : Value → Value → Sem Value} {g : Int → Int → Int}
    (rule : ∀ (i j : Int) (t u : Tok) (s : Shared) (Q : Value → Shared → Prop) (E : Value → Shared → Prop), Q (.int (g i j) s.toks) { s with toks := s.toks + 1 } → wpAny (model X.prog X.w) X.A (f (.int i t) (.int j u)) Q E s) :
    OpR X f (rI0 fun i j => .int (g i j)) := by
  intro pins s σ H x y v u Q I rx ry h
  obtain ⟨i, j, rfl, rfl, q⟩ := h
  obtain ⟨t, rfl⟩ := rx
  obtain ⟨t', rfl⟩ := ry
  exact rule i j t t' s _ _ ⟨.int (g i j), H, I.tok _, ⟨_, rfl⟩, q⟩
theorem opB0 {f : Value → Value → Sem Value} {g : Int → Int → Bool}
    (rule : ∀ (i j : Int) (t u : Tok) (s : Shared) (Q : Value → Shared → Prop) (E : Value → Shared → Prop), Q (.bool (g i j)) s → wpAny (model X.prog X.w) X.A (f (.int i t) (.int j u)) Q E s) :
    OpR X f (rI0 fun i j => .bl (g i j)) := by
  intro pins s σ H x y v u Q I rx ry h
  obtain ⟨i, j, rfl, rfl, q⟩ := h
  obtain ⟨t, rfl⟩ := rx
  obtain ⟨t', rfl⟩ := ry
  exact rule i j t t' s _ _ ⟨.bl (g i j), H, I, rfl, q⟩
noncomputable def CPow (i j : Int) : Prop := 0 ≤ j ∧ j ≤ 1000000 ∧ i.natAbs < 2 ^ 64
noncomputable def CMul (i j : Int) : Prop := (-(2 ^ 64) < i ∧ i < 2 ^ 64) ∨ (-(2 ^ 64) < j ∧ j < 2 ^ 64)
theorem CMul.ok {i j : Int} (h : CMul i j) : IntMulOk i j := by
  rcases h with ⟨h1, h2⟩ | ⟨h1, h2⟩
  · exact .of_left (intBits_le_64 h1 h2)
  · exact .of_right (intBits_le_64 h1 h2)
theorem two_pow_nn (k : Nat) : (0 : Int) ≤ 2 ^ k := by
  rw [two_pow_cast]
  exact Int.natCast_nonneg _
theorem op_add : OpR X (binaryOp .Add) (rI0 fun i j => .int (i + j)) := opI0 fun _ _ _ _ _ _ _ q => add_int q
theorem op_mul : OpR X (binaryOp .Mult) (rI CMul fun i j => .int (i * j)) := opI fun _ _ _ _ _ _ _ hc q => mul_int q hc.ok
theorem op_mod : OpR X (binaryOp .Mod) (rI (fun _ j => 0 < j) fun i j => .int (i % j)) := opI fun i j _ _ _ _ _ hc q => by
  have h1 : (0 : Int) < j := hc
  exact mod_int' (by omega) (by rw [Int.fmod_eq_emod_of_nonneg i (by omega)]; exact q)
theorem op_pow : OpR X (binaryOp .Pow) (rI CPow fun i j => .int (i ^ j.toNat)) := opI fun _ _ _ _ _ _ _ hc q => pow_int_small hc.1 hc.2.1 hc.2.2 q
theorem op_shl : OpR X (binaryOp .LShift) (rI CPow fun i j => .int (i * 2 ^ j.toNat)) := opI fun _ _ _ _ _ _ _ hc q => lshift_int_small hc.1 hc.2.1 hc.2.2 q
theorem op_shr : OpR X (binaryOp .RShift) (rI (fun _ j => 0 ≤ j) fun i j => .int (i / 2 ^ j.toNat)) := opI fun i j _ _ _ _ _ hc q =>
  rshift_int hc (by rw [Int.fdiv_eq_ediv_of_nonneg i (two_pow_nn _)]; exact q)
end
section
variable {X : Cx} {a b c : Expr} {ta tb tc : TE} {pos : Pos}
theorem op_lt : OpR X (compareOp .Lt) (rI0 fun i j => .bl (decide (i < j))) := opB0 fun _ _ _ _ _ _ _ q => lt_int q
theorem op_le : OpR X (compareOp .LtE) (rI0 fun i j => .bl (decide (i ≤ j))) := opB0 fun _ _ _ _ _ _ _ q => le_int q
theorem op_ge : OpR X (compareOp .GtE) (rI0 fun i j => .bl (decide (j ≤ i))) := opB0 fun _ _ _ _ _ _ _ q => ge_int q
theorem OpR.or {f : Value → Value → Sem Value} {r r' : R2} (h : OpR X f r) (h' : OpR X f r') : OpR X f (fun x y H Q => r x y H Q ∨ r' x y H Q) := by
  intro pins s σ H x y v u Q I rx ry q
  rcases q with q | q
  · exact h pins s σ H x y v u Q I rx ry q
  · exact h' pins s σ H x y v u Q I rx ry q
theorem pe_cmpR {op : CmpOp} {r : R2} (ho : OpR X (compareOp op) r) (ha : PE X a ta) (hb : PE X b tb) (hm : behindInMarks op b = false) : PE X (.Compare a [op] [b] pos) (tOp r ta tb) := by
  intro pins s σ H Q I h
  exact wpAny_Compare1 (binT ha hb I h fun v u s2 x y H2 I2 rx ry q => ho pins s2 σ H2 x y v u Q I2 rx ry q) hm
noncomputable def tTest (t : TE) : TT := fun σ H Q => t σ H fun x H' => ∃ k, x = .bl k ∧ Q k H'
theorem pt_cmpR {op : CmpOp} {r : R2} (ho : OpR X (compareOp op) r) (ha : PE X a ta) (hb : PE X b tb) (hm : behindInMarks op b = false) : PT X (.Compare a [op] [b] pos) (tTest (tOp r ta tb)) := by
  intro pins s σ H Q I h
  refine wpAny_isTrue_Compare1 (thn (ha pins s σ H _ I h) fun v s1 ⟨x, H1, I1, r1, q1⟩ => thn (hb pins s1 σ H1 _ I1 q1) fun u s2 ⟨y, H2, I2, r2, q2⟩ =>
    thn (ho pins s2 σ H2 x y v u _ I2 r1 r2 q2) fun c s3 ⟨z, H3, I3, r3, k, e, q3⟩ => ?_) hm
  subst e
  cases r3
  exact wpAny_truthy_bool ⟨H3, I3, q3⟩
noncomputable def tChain (r r' : R2) (ta tb tc : TE) : TE := fun σ H Q => ta σ H fun x H1 => tb σ H1 fun y H2 => r x y H2 fun z H3 => ∃ k, z = .bl k ∧
  (if k = true then tc σ H3 fun w' H4 => r' y w' H4 Q else Q (.bl false) H3)
theorem pe_chain {op op' : CmpOp} {r r' : R2} (ho : OpR X (compareOp op) r) (ho' : OpR X (compareOp op') r') (ha : PE X a ta) (hb : PE X b tb) (hc : PE X c tc)
    (hm : lastMarks [op, op'] [b, c] = false := by with_unfolding_all rfl) : PE X (.Compare a [op, op'] [b, c] pos) (tChain r r' ta tb tc) := by
  intro pins s σ H Q I h
  refine Compare_chain (thn (ha pins s σ H _ I h) fun v s1 ⟨x, H1, I1, r1, q1⟩ => chain_link (thn (hb pins s1 σ H1 _ I1 q1) fun u s2 ⟨y, H2, I2, r2, q2⟩ =>
    thn (ho pins s2 σ H2 x y v u _ I2 r1 r2 q2) fun d s3 ⟨z, H3, I3, r3, k, e, q3⟩ => ?_)) hm
  subst e
  cases r3
  refine wpAny_truthy_bool ?_
  cases k with
  | false => exact ite_ff ⟨.bl false, H3, I3, rfl, q3⟩
  | true => exact ite_tt (chain_last (thn (hc pins s3 σ H3 _ I3 q3) fun w' s4 ⟨z', H4, I4, r4, q4⟩ => ho' pins s4 σ H4 y z' u w' Q I4 r2 r4 q4))
theorem line63 : (sizeLine : Nat) < 2 ^ 63 := by rw [sizeLine_eq]; decide
theorem op_add_str : OpR X (binaryOp .Add) (fun x y H Q => ∃ i j, x = .str i ∧ y = .str j ∧ i.length + j.length ≤ sizeLine ∧ Q (.str (i ++ j)) H) := by
  intro pins s σ H x y v u Q I rx ry h
  obtain ⟨i, j, rfl, rfl, hz, q⟩ := h
  obtain ⟨t, rfl⟩ := rx
  obtain ⟨t', rfl⟩ := ry
  exact add_str (fun t' tk => ⟨.str (i ++ j), H, I.tok _, ⟨_, rfl⟩, q⟩) hz
theorem vals1 {x : V} {us : List Value} (r : Vals [x] us) : ∃ u, us = [u] ∧ RelV x u := by
  cases r with
  | cons r1 r2 => cases r2; exact ⟨_, rfl, r1⟩
theorem vals2 {x y : V} {us : List Value} (r : Vals [x, y] us) : ∃ u w', us = [u, w'] ∧ RelV x u ∧ RelV y w' := by
  cases r with
  | cons r1 r2 =>
    cases r2 with
    | cons r3 r4 => cases r4; exact ⟨_, _, rfl, r1, r3⟩
theorem call_max2 (hc : X.calm = true) : CallR X (.builtin "max") (fun xs H Q => ∃ i j, xs = [.int i, .int j] ∧ Q (.int (if j > i then j else i)) H) := by
  intro pins s σ H xs us Q I r h
  obtain ⟨i, j, rfl, q⟩ := h
  obtain ⟨u, w', rfl, ⟨t, rfl⟩, ⟨t', rfl⟩⟩ := vals2 r
  refine max_two_ints (I.ok.hd hc) fun h' tk k => ⟨_, H, I.kept k, ?_, q⟩
  by_cases hj : j > i
  · rw [if_pos hj, if_pos hj]; exact ⟨_, rfl⟩
  · rw [if_neg hj, if_neg hj]; exact ⟨_, rfl⟩
theorem call_min2 (hc : X.calm = true) : CallR X (.builtin "min") (fun xs H Q => ∃ i j, xs = [.int i, .int j] ∧ Q (.int (if j < i then j else i)) H) := by
  intro pins s σ H xs us Q I r h
  obtain ⟨i, j, rfl, q⟩ := h
  obtain ⟨u, w', rfl, ⟨t, rfl⟩, ⟨t', rfl⟩⟩ := vals2 r
  refine min_two_ints (I.ok.hd hc) fun h' tk k => ⟨_, H, I.kept k, ?_, q⟩
  by_cases hj : j < i
  · rw [if_pos hj, if_pos hj]; exact ⟨_, rfl⟩
  · rw [if_neg hj, if_neg hj]; exact ⟨_, rfl⟩
end
end L2
namespace L2
open PySem PySem.Spec PyProof.Rows
structure ObjM (h : Heap) (x dx C : Addr) (mA : Str → Option Value) : Prop where
  obj : h.get? x = some (W.instObj C dx)
  ns : h.Ns1 dx mA
  ne : dx ≠ x
theorem lookIn_ns {h : Heap} {dx : Addr} {mA : Str → Option Value} (n : h.Ns1 dx mA) : ∃ od, h.get? dx = some od ∧ ∀ name, W.lookIn name od = some (mA name) := by
  obtain ⟨o, es, ep, ho, hd, hk, _, hm⟩ := n
  refine ⟨o, ho, fun name => ?_⟩
  have e := hm name
  unfold nsFind findBy at e
  rw [← Array.find?_toList] at e
  unfold W.lookIn
  rw [hd]
  dsimp only
  split
  · rename_i y q
    rw [q] at e
    exact congrArg some e
  · rename_i q
    rw [q] at e
    have a : es.toList.any (·.refKey) = false := by
      rw [List.any_eq_false]
      intro y hy
      obtain ⟨z, t, hkey⟩ := hk y (Array.mem_toList_iff.mp hy)
      simp [DictEntry.refKey, hkey]
    have a' : ¬ es.toList.any (·.refKey) = true := by rw [a]; exact Bool.false_ne_true
    rw [if_neg a']
    exact congrArg some e
theorem ObjM.look {h : Heap} {x dx C : Addr} {mA : Str → Option Value} (I : ObjM h x dx C mA) : ∃ od, W.InstAt h x (W.instObj C dx) C (some od) ∧ ∀ name, W.lookIn name od = some (mA name) :=
  let ⟨od, ho, hl⟩ := lookIn_ns I.ns
  ⟨od, ⟨I.obj, rfl, rfl, ho⟩, hl⟩
section
variable {prog : Program} {w : World} {A : Around} {E : Value → Shared → Prop} {s : Shared} {K : W.Frag} {x dx C f : Addr} {mA : Str → Option Value} {name : Str} {v : Value}
end
section
variable {P : Program} {w : World} {H H' : Hp} {h h' : Heap} {a C dx : Addr} {fs fs' : List (Str × V)}
theorem ins_get (hok : HOk P w H h) (e : H a = some (.ins C dx fs)) : ∃ mA, ObjM h a dx C mA ∧ (∀ f, RelO (fs.lookup f) (mA f)) ∧ PySem.Within mA (fs.map (·.1)) ∧ fs.length ≤ 1000 ∧ H dx = some (.own a) := by
  obtain ⟨d, z, ne, ob, mA, n, r, q⟩ := (show ObjOk P w H h a (.ins C dx fs) from hok a _ e)
  exact ⟨mA, ⟨ob, n, ne⟩, r, q, z, d⟩
end
structure Cls (K : W.Frag) (C : Addr) : Prop where
  pg : W.plainGet K C Str.empty = true
  hd : W.hasDictIn K C = true
  po : W.plainOver K C = true
  sa : W.findIn K (.ref C) "__setattr__" = some (some (.builtin "object.__setattr__"))
theorem Cls.get {K : W.Frag} {C : Addr} (c : Cls K C) (f : Str) : W.plainGet K C f = true := c.pg
structure Con (K : W.Frag) (C : Addr) (f : Str) (v : V) (u : Value) : Prop where
  at_ : W.findIn K (.ref C) f = some (some u)
  rel : RelV v u
  get : W.specialIn K u "__get__" = some none
  cp : W.copiedNames.contains f = false
structure Meth (K : W.Frag) (C : Addr) (m : Str) (f : Addr) : Prop where
  at_ : W.findIn K (.ref C) m = some (some (.ref f))
  fn : W.isFn K (.ref f) = true
  kp : W.keepIn K (.ref f) = true
section
variable {X : Cx} {pins : List (Addr × Obj)} {σ : St} {H : Hp} {s : Shared} {a C dx : Addr} {fs : List (Str × V)} {f : Str} {v : V} {A : Around} {E : Value → Shared → Prop}
theorem Inv.made (I : Inv X pins σ H s) : Inv X pins σ (upd (upd H s.heap.objs.size (.own (s.heap.objs.size + 1))) (s.heap.objs.size + 1) (.ins C s.heap.objs.size []))
    { s with heap := (s.heap.push W.emptyDict).push (W.instObj C s.heap.objs.size) } := by
  have e1 : (s.heap.push W.emptyDict).get? s.heap.objs.size = some W.emptyDict := Heap.get?_push_size s.heap rfl
  have e2 : ((s.heap.push W.emptyDict).push (W.instObj C s.heap.objs.size)).get? (s.heap.objs.size + 1) = some (W.instObj C s.heap.objs.size) := by
    have := Heap.get?_push_size (s.heap.push W.emptyDict) (o := W.instObj C s.heap.objs.size) rfl
    rwa [Heap.size_push] at this
  have e3 : (s.heap.push W.emptyDict).Ns s.heap.objs.size (fun _ => none) := ⟨W.emptyDict, #[], _, e1, rfl, (fun e he => absurd he (by simp)), fun _ => rfl⟩
  have I1 := I.laid (a := s.heap.objs.size) (o := .own (s.heap.objs.size + 1)) (h' := s.heap.push W.emptyDict) (t' := s.toks) (fun b u q => Heap.get?_push_of_some _ q) (Nat.le_refl _) ⟨_, e1⟩
  refine I1.laid (a := s.heap.objs.size + 1) (o := .ins C s.heap.objs.size []) (t' := s.toks) (fun b u q => Heap.get?_push_of_some _ q) (Nat.le_of_eq (Heap.size_push _ _)) ?_
  have ne : s.heap.objs.size ≠ s.heap.objs.size + 1 := Nat.ne_of_lt (Nat.lt_succ_self _)
  refine ⟨by rw [upd_ne ne, upd_same], Nat.zero_le _, ne, e2, fun _ => none, (Heap.Ns1.of_empty e3).at fun o q => Heap.get?_push_of_some _ q, fun _ => True.intro, fun y hy => absurd rfl hy⟩
end
section
variable {X : Cx} {o e value : Expr} {f : Str} {pos pos' tpos : Pos} {ta tv : TE}
end
section
variable {X : Cx} {pins : List (Addr × Obj)} {σ : St} {H : Hp} {s : Shared} {A : Around} {E : Value → Shared → Prop} {Q : Value → Shared → Prop} {c : Value} {b : Bool}
inductive TyOf (K : W.Frag) (H : Hp) : V → Value → Prop where
  | non : TyOf K H .non (.type "NoneType")
  | bl (x : Bool) : TyOf K H (.bl x) (.type "bool")
  | int (i : Int) : TyOf K H (.int i) (.type "int")
  | str (x : Str) : TyOf K H (.str x) (.type "str")
  | flt (x : UInt64) : TyOf K H (.flt x) (.type "float")
  | lst {a : Addr} {xs : List V} (e : H a = some (.lst xs)) : TyOf K H (.ref a) (.type "list")
  | frz {a : Addr} {o : Obj} {xs : List V} (e : H a = some (.frz o (.lst xs))) : TyOf K H (.ref a) (.type "list")
  | tup {a : Addr} {xs : List V} (e : H a = some (.tup xs)) : TyOf K H (.ref a) (.type "tuple")
  | dK {a : Addr} {kvs : List (Key × V)} (e : H a = some (.dK kvs)) : TyOf K H (.ref a) (.type "dict")
  | dT {a : Addr} {kvs : List (List Key × V)} (e : H a = some (.dT kvs)) : TyOf K H (.ref a) (.type "dict")
  | ins {a C dx : Addr} {fs : List (Str × V)} (e : H a = some (.ins C dx fs)) (cl : Cls K C) (ha : W.findIn K (.ref C) "__class__" = some (some (.builtin "object.__class__")))
      (hn : W.specialIn K (.builtin "object.__class__") "__get__" = some (some (.builtin "getset_descriptor.__get__"))) (htk : W.takesIn K (.builtin "object.__class__") = some true)
      (hm : W.mroIn K C (.type "object") = some true) : TyOf K H (.ref a) (.ref C)
theorem isinst_ok {x : V} {u t : Value} (I : Inv X pins σ H s) (rx : RelV x u) (ty : TyOf X.K H x t) (e : W.kitOne X.K t c = some b) (h : ∀ tk, Q (.bool b) { s with toks := tk }) :
    wpAny (model X.prog X.w) A (call (.builtin "isinstance") [u, c]) Q E s := by
  cases ty with
  | non => cases (show u = Value.none from rx); exact W.kia_one W.kitx_none I.kIn True.intro e (fun z => nomatch z) h
  | bl y => cases (show u = Value.bool y from rx); exact W.kia_one W.kitx_bool I.kIn True.intro e (fun z => nomatch z) h
  | int i => obtain ⟨t, q⟩ := (show ∃ t, u = Value.int i t from rx); cases q; exact W.kia_one W.kitx_int I.kIn True.intro e (fun z => nomatch z) h
  | str y => obtain ⟨t, q⟩ := (show ∃ t, u = Value.str y t from rx); cases q; exact W.kia_one W.kitx_str I.kIn True.intro e (fun z => nomatch z) h
  | flt y => obtain ⟨t, q⟩ := (show ∃ t, u = Value.float y t from rx); cases q; exact W.kia_one W.kitx_float I.kIn True.intro e (fun z => nomatch z) h
  | @lst a xs ea =>
    cases (show u = Value.ref a from rx)
    obtain ⟨_, _, n, _, h1⟩ := (show ObjOk X.prog X.w H s.heap a (.lst xs) from I.hok a _ ea)
    exact W.kia_one W.kitx_list I.kIn ⟨_, h1, rfl⟩ e (fun z => nomatch z) h
  | @frz a ob xs ea =>
    cases (show u = Value.ref a from rx)
    obtain ⟨_, _, _, n, _, h1⟩ := (show ObjOk X.prog X.w H s.heap a (.frz ob (.lst xs)) from I.hok a _ ea)
    exact W.kia_one W.kitx_list I.kIn ⟨_, h1, rfl⟩ e (fun z => nomatch z) h
  | @tup a xs ea =>
    cases (show u = Value.ref a from rx)
    obtain ⟨_, _, _, p⟩ := (show ObjOk X.prog X.w H s.heap a (.tup xs) from I.hok a _ ea)
    obtain ⟨o, h1, h2, _⟩ := p
    exact W.kia_one W.kitx_tuple I.kIn ⟨o, h1, h2⟩ e (fun z => nomatch z) h
  | @dK a kvs ea =>
    cases (show u = Value.ref a from rx)
    obtain ⟨_, _, vs, _, p⟩ := (show ObjOk X.prog X.w H s.heap a (.dK kvs) from I.hok a _ ea)
    obtain ⟨o, es, ep, h1, h2, _⟩ := p
    exact W.kia_one W.kitx_dict I.kIn ⟨o, h1, h2.1⟩ e (fun z => nomatch z) h
  | @dT a kvs ea =>
    cases (show u = Value.ref a from rx)
    obtain ⟨_, _, xs, _, o, es, ep, h1, h2, _⟩ := (show ObjOk X.prog X.w H s.heap a (.dT kvs) from I.hok a _ ea)
    exact W.kia_one W.kitx_dict I.kIn ⟨o, h1, h2.1⟩ e (fun z => nomatch z) h
  | @ins a C dx fs ea cl ha hn htk hm =>
    cases (show u = Value.ref a from rx)
    obtain ⟨mA, O, _⟩ := ins_get I.hok ea
    obtain ⟨od, J, _⟩ := O.look
    exact W.kia_one (W.kitx_own (cl.get _) cl.hd ha hn htk hm) I.kIn J e (fun z => nomatch z) h
end
end L2
namespace L2
open PySem PySem.Spec PyProof.Rows
structure Room (k : Nat) (A : Around) : Prop where
  hd : A.handled = none
  dp : A.depth + 3 * k + 5 < recursionLimit
  un : A.units + 16 * k + 200 < cLine
theorem Room.mono {j k : Nat} {A : Around} (r : Room k A) (h : j ≤ k) : Room j A := ⟨r.hd, by have := r.dp; omega, by have := r.un; omega⟩
theorem Room.deeper {k : Nat} {A : Around} (r : Room (k + 1) A) (env : Env) : Room k (A.deeper env) :=
  ⟨r.hd, by have := r.dp; show A.depth + 1 + 3 * k + 5 < _; omega, by have := r.un; show A.units + 3 + 16 * k + 200 < _; omega⟩
theorem Room.in1 {k : Nat} {A : Around} (r : Room (k + 1) A) : Room k A.in1 :=
  ⟨r.hd, by have := r.dp; show A.depth + 3 * k + 5 < _; omega, by have := r.un; show A.units + 1 + 16 * k + 200 < _; omega⟩
theorem Room.depth {k : Nat} {A : Around} (r : Room k A) : A.depth < recursionLimit := by have := r.dp; omega
theorem Room.units {k : Nat} {A : Around} (r : Room k A) : A.units + 64 < cLine := by have := r.un; omega
noncomputable def tNil : TA := fun _ H Q => Q [] H
noncomputable def tCons (ta : TE) (tr : TA) : TA := fun σ H Q => ta σ H fun x H1 => tr σ H1 fun xs H2 => Q (x :: xs) H2
section
variable {X : Cx} {e : Expr} {es : List Expr} {te : TE} {t : TA} {pos : Pos}
theorem pa_nil : PA X [] tNil := fun _ _ _ _ H Q I h => Calls.spliced_nil ⟨[], H, I, .nil, h⟩
theorem pa_cons (ha : PE X e te) (hr : PA X es t) (hs : starEach (e :: es) X.env = (false, eval e X.env) :: starEach es X.env := by rfl) : PA X (e :: es) (tCons te t) := by
  intro pos pins s σ H Q I h
  rw [hs]
  show wpAny _ _ (spliced ((false, eval e X.env) :: backTo pos (starEach es X.env))) _ _ s
  refine Calls.spliced_cons (thn (ha pins s σ H _ I h) fun u s1 ⟨x, H1, I1, r1, q1⟩ => ?_)
  exact thn (hr pos pins s1 σ H1 _ I1 q1) fun us s2 ⟨xs, H2, I2, r2, q2⟩ => ⟨x :: xs, H2, I2, .cons r1 r2, q2⟩
noncomputable def tTup (t : TA) : TE := fun σ H Q => t σ H fun xs H1 => xs.length ≤ sizeLine ∧ ∀ p, H1 p = none → Q (.ref p) (upd H1 p (.tup xs))
noncomputable def tLst (t : TA) : TE := fun σ H Q => t σ H fun xs H1 => xs.length ≤ sizeLine ∧ ∀ p, H1 p = none → Q (.ref p) (upd H1 p (.lst xs))
theorem pe_tup {x1} (h : PA X es t) : PE X (.Tuple es x1 pos) (tTup t) := by
  intro pins s σ H Q I hq
  refine wpAny_Tuple_spliced (thn (h pos pins s σ H _ I hq) fun us s1 ⟨xs, H1, I1, r, z, q⟩ => ⟨by rw [← r.length]; exact z, ?_⟩)
  have hf : H1 s1.heap.objs.size = none := I1.hok.fresh (Nat.le_refl _)
  refine ⟨.ref s1.heap.objs.size, upd H1 s1.heap.objs.size (.tup xs), I1.laid (t' := s1.toks) (fun b u e => Heap.get?_push_of_some _ e) (Nat.le_refl _) ?_, rfl, q _ hf⟩
  exact ⟨z, us, r, ⟨_, Heap.get?_push_size _ rfl, rfl, _, rfl⟩⟩
theorem pe_lst (h : PA X es t) : PE X (.List es pos) (tLst t) := by
  intro pins s σ H Q I hq
  refine wpAny_List_spliced (thn (h pos pins s σ H _ I hq) fun us s1 ⟨xs, H1, I1, r, z, q⟩ => ⟨by rw [← r.length]; exact z, ?_⟩)
  have hf : H1 s1.heap.objs.size = none := I1.hok.fresh (Nat.le_refl _)
  refine ⟨.ref s1.heap.objs.size, upd H1 s1.heap.objs.size (.lst xs), I1.laid (t' := s1.toks) (fun b u e => Heap.get?_push_of_some _ e) (Nat.le_refl _) ?_, rfl, q _ hf⟩
  exact ⟨z, us, 0, r, Heap.get?_push_size _ rfl⟩
end
noncomputable abbrev Sp := List V → Hp → VK → XK → Prop
noncomputable abbrev CXT := List Env → Hp → Shared → XK → Value → Shared → Prop
structure Env0 (P : Program) (w : World) (K : W.Frag) (mg : Str → Option Value) (base : Heap) (A : Around) (outer : List Env) (s : Shared) (H : Hp) : Prop where
  frames : A.frames = some outer
  mod : Mod K mg base
  bs : ∀ b o, base.get? b = some o → s.heap.get? b = some o ∧ H b = none
  bsz : base.objs.size ≤ s.heap.objs.size
  funs : s.heap.FunFrames base outer
  frf : ∀ b ∈ frs outer, H b = none
  hok : HOk P w H s.heap
  bare : AllBare s.gens
  hand : HandA A H
noncomputable def CE (outer : List Env) (P : Program) (w : World) (H : Hp) (s : Shared) (Q : VK) (u : Value) (s' : Shared) : Prop :=
  ∃ v H', s'.os = s.os ∧ AllBare s'.gens ∧ Un (frs outer) [] H H' s.heap s'.heap ∧ HOk P w H' s'.heap ∧ RelV v u ∧ Q v H'
noncomputable def CR (CX : CXT) (outer : List Env) (P : Program) (w : World) (H : Hp) (s : Shared) (Q : VK) (E : XK) (r : Result) (s' : Shared) : Prop :=
  match r with
  | .ok (.ret u) => CE outer P w H s Q u s'
  | .ok _ => False
  | .error e => CX outer H s E e s'
structure FnOk (P : Program) (w : World) (K : W.Frag) (mg : Str → Option Value) (base : Heap) (CX : CXT) (k : Nat) (f : Addr) (fd : FuncData) (ps : List Str) (sp : Sp) : Prop where
  len : ∀ vs H Q E, sp vs H Q E → vs.length = ps.length
  run : ∀ (A : Around) (outer : List Env) (s : Shared) (H : Hp) (args : Args) (us : List Value) (vs : List V) (Q : VK) (E : XK), Room k A → Env0 P w K mg base A outer s H → BindsTo s fd args (ps.zip us) → Vals vs us → sp vs H Q E →
    codeAny (model P w) A (.call (.ref f) args) (CR CX outer P w H s Q E) s
theorem FnOk.mono {P : Program} {w : World} {K : W.Frag} {mg : Str → Option Value} {base : Heap} {CX : CXT} {j k : Nat} {f : Addr} {fd : FuncData} {ps : List Str} {sp : Sp} (F : FnOk P w K mg base CX j f fd ps sp) (h : j ≤ k) :
    FnOk P w K mg base CX k f fd ps sp := ⟨F.len, fun A outer s H args us vs Q E hr => F.run A outer s H args us vs Q E (hr.mono h)⟩
theorem FnOk.imp {P : Program} {w : World} {K : W.Frag} {mg : Str → Option Value} {base : Heap} {CX : CXT} {k : Nat} {f : Addr} {fd : FuncData} {ps : List Str} {sp sp' : Sp} (F : FnOk P w K mg base CX k f fd ps sp)
    (h : ∀ vs H Q E, sp' vs H Q E → sp vs H Q E) : FnOk P w K mg base CX k f fd ps sp' :=
  ⟨fun vs H Q E q => F.len vs H Q E (h _ _ _ _ q), fun A outer s H args us vs Q E hr he hb hv hs => F.run A outer s H args us vs Q E hr he hb hv (h _ _ _ _ hs)⟩
theorem Env0.in1 {P : Program} {w : World} {K : W.Frag} {mg : Str → Option Value} {base : Heap} {A : Around} {outer : List Env} {s : Shared} {H : Hp} (e : Env0 P w K mg base A outer s H) :
    Env0 P w K mg base A.in1 outer s H := ⟨e.frames, e.mod, e.bs, e.bsz, e.funs, e.frf, e.hok, e.bare, e.hand⟩
section
variable {X : Cx} {pins : List (Addr × Obj)} {σ : St} {H : Hp} {s s' : Shared}
theorem Inv.env0 (I : Inv X pins σ H s) : Env0 X.prog X.w X.K X.mg X.base X.A X.stack s H :=
  ⟨I.ok.frames, I.ok.mod, I.bs, Nat.le_trans I.ok.bsz I.sz, I.stack, I.stkFree, I.hok, I.bare, I.handA⟩
theorem Inv.after {Q : VK} {u : Value} (I : Inv X pins σ H s) (h : CE X.stack X.prog X.w H s Q u s') : EP X pins σ Q u s' := by
  obtain ⟨v, H', os, bare, un, hok, r, q⟩ := h
  obtain ⟨hh, g, d, t, os'⟩ := s'
  obtain rfl : os' = s.os := os
  exact ⟨v, H', I.call (h' := hh) (g' := g) (d' := d) (t' := t) (ch := []) un hok bare (fun b z => absurd z (by simp)), r, q⟩
end
noncomputable def tCall (sp : Sp) (dvs : List V) (E : XK) (t : TA) : TE := fun σ H Q => t σ H fun vs H1 => sp (vs ++ dvs) H1 Q E
noncomputable def Binds (K : W.Frag) (fd : FuncData) (ps : List Str) (ds : List Value) : Prop :=
  ∀ (s : Shared) (us : List Value), K.In s.heap → (us ++ ds).length = ps.length → BindsTo s fd ⟨us, []⟩ (ps.zip (us ++ ds))
theorem Binds.all {K : W.Frag} {fd : FuncData} {ps : List Str} (h : ∀ us : List Value, us.length = ps.length → bindArgs fd ⟨us, []⟩ = pure (ps.zip us)) : Binds K fd ps [] := fun s us _ hl => by
  rw [List.append_nil] at hl ⊢
  exact .of_eq (h us hl)
noncomputable def Passes (CX : CXT) (X : Cx) (E : XK) : Prop := ∀ (pins : List (Addr × Obj)) (σ : St) (H : Hp) (s : Shared) (e : Value) (s' : Shared), Inv X pins σ H s → CX X.stack H s E e s' → X.xe e s'
section
variable {X : Cx} {CX : CXT} {k : Nat} {f C : Addr} {fd : FuncData} {ps : List Str} {sp : Sp} {dvs : List V} {ds : List Value} {E : XK} {x m : Str} {p pos apos : Pos} {e o : Expr} {es : List Expr} {ta : TE} {t : TA}
theorem run_fn {pins : List (Addr × Obj)} {σ : St} {H : Hp} {s : Shared} {Q : VK} {us : List Value} {vs : List V} (F : FnOk X.prog X.w X.K X.mg X.base CX k f fd ps sp) (hr : Room k X.A) (hb : Binds X.K fd ps ds) (hd : Vals dvs ds) (hx : Passes CX X E)
    (I : Inv X pins σ H s) (r : Vals vs us) (h : sp (vs ++ dvs) H Q E) : wpAny (model X.prog X.w) X.A (call (.ref f) us) (EP X pins σ Q) X.xe s := by
  have r2 : Vals (vs ++ dvs) (us ++ ds) := r.append hd
  have hl : (us ++ ds).length = ps.length := by rw [← r2.length]; exact F.len _ _ _ _ h
  refine wpAny_call (codeAny_mono (F.run X.A X.stack s H ⟨us, []⟩ (us ++ ds) (vs ++ dvs) Q E hr I.env0 (hb s us I.kIn hl) r2 h) fun r s' hq => ?_)
  cases r with
  | error e => exact hx pins σ H s e s' I hq
  | ok fl =>
    cases fl with
    | ret u => exact I.after hq
    | next => exact False.elim hq
    | brk => exact False.elim hq
    | cont => exact False.elim hq
theorem pe_call (F : FnOk X.prog X.w X.K X.mg X.base CX k f fd ps sp) (hr : Room k X.A) (hg : Gl X x) (hm : X.mg x = some (.ref f)) (hk : W.keepIn X.K (.ref f) = true) (hb : Binds X.K fd ps ds) (hd : Vals dvs ds) (hx : Passes CX X E)
    (ha : PA X (e :: es) t) (hdb : (x == ("__debug__" : Str)) = false := by decide) (he : starEach (e :: es) X.env = (false, eval e X.env) :: starEach es X.env := by rfl) (hpl : (backTo pos (starEach es X.env)).any (·.1) = false := by rfl) :
    PE X (.Call (.Name x p) (e :: es) [] pos) (tCall sp dvs E t) := by
  intro pins s σ H Q I h
  refine wpAny_Call_Name_kw (ld_glob I hg hm ?_ hdb)
  refine W.callWith_K (h₀ := X.base) I.ok.mod.kin hk (thn (ha pos pins s σ H _ I h) fun us s1 ⟨vs, H1, I1, r, q⟩ => ⟨I1.kIn, ?_⟩) he hpl
  exact run_fn F hr hb hd hx I1 r q
structure Mk (K : W.Frag) (C f : Addr) : Prop where
  makes : W.makesIn K C = true
  init : W.findIn K (.ref C) "__init__" = some (some (.ref f))
  fn : W.isFn K (.ref f) = true
  kp : W.keepIn K (.ref C) = true
end
section
variable {X : Cx} {CX : CXT} {k : Nat} {f C : Addr} {fd : FuncData} {ps ks : List Str} {sp : Sp} {E : XK} {x m : Str} {p pos apos kpos : Pos} {e o : Expr} {es : List Expr} {kws : List Keyword} {te ta : TE} {t tk : TA} {nm : Option Str}
structure KBinds (K : W.Frag) (fd : FuncData) (ps ks : List Str) (g : List Value → List Value → List Value) (gV : List V → List V → List V) : Prop where
  to : ∀ (s : Shared) (us ws : List Value), K.In s.heap → (g us ws).length = ps.length → BindsTo s fd ⟨us, ks.zip ws⟩ (ps.zip (g us ws))
  rel : ∀ {vs : List V} {us : List Value} {zs : List V} {ws : List Value}, Vals vs us → Vals zs ws → Vals (gV vs zs) (g us ws)
variable {g : List Value → List Value → List Value} {gV : List V → List V → List V}
end
structure FnScope (N P : List Str) (sc : Scope) : Prop where
  kind : sc.kind = .function
  co : sc.isCoroutine = false
  gen : sc.isGenerator = false
  nd : N.Nodup
  pre : N.take P.length = P
  par : ∀ x ∈ P, sc.names.lookup x = some .local ∨ sc.names.lookup x = some .cell
  nofree : ∀ y ∈ sc.names, y.2 ≠ .free
theorem bindL_out {kindOf : Str → Option NameKind} {x : Str} : ∀ {binds : List (Str × Value)} {m : Str → Option Value}, (∀ v, (x, v) ∉ binds) → bindL kindOf binds m x = m x
  | [], _, _ => rfl
  | (n, v) :: r, m, h => by
    unfold bindL
    rw [bindL_out fun w hw => h w (List.mem_cons_of_mem _ hw)]
    split
    · have : x ≠ n := by rintro rfl; exact h v List.mem_cons_self
      simp [this]
    · rfl
theorem bindC_out {kindOf : Str → Option NameKind} {x : Str} : ∀ {binds : List (Str × Value)} {m : Str → Option Value}, (∀ v, (x, v) ∉ binds) → bindC kindOf binds m x = m x
  | [], _, _ => rfl
  | (n, v) :: r, m, h => by
    unfold bindC
    rw [bindC_out fun w hw => h w (List.mem_cons_of_mem _ hw)]
    split
    · rfl
    · have : x ≠ n := by rintro rfl; exact h v List.mem_cons_self
      simp [this]
theorem bindL_get {kindOf : Str → Option NameKind} {x : Str} {v : Value} : ∀ {P : List Str} {vs : List Value} {i : Nat} {m : Str → Option Value}, P.Nodup → P[i]? = some x → vs[i]? = some v → kindOf x = some .local →
    bindL kindOf (P.zip vs) m x = some v
  | [], _, _, _, _, h, _, _ => by simp at h
  | _ :: _, [], _, _, _, _, h, _ => by simp at h
  | p :: P, w :: vs, 0, m, nd, h1, h2, hk => by
    simp at h1 h2; subst h1; subst h2
    show bindL kindOf ((p, w) :: P.zip vs) m p = _
    unfold bindL
    rw [bindL_out fun v hv => (List.nodup_cons.mp nd).1 (List.of_mem_zip hv).1, if_pos hk]
    simp
  | p :: P, w :: vs, i + 1, m, nd, h1, h2, hk => by
    show bindL kindOf ((p, w) :: P.zip vs) m x = _
    unfold bindL
    exact bindL_get (i := i) (List.nodup_cons.mp nd).2 (by simpa using h1) (by simpa using h2) hk
theorem bindC_get {kindOf : Str → Option NameKind} {x : Str} {v : Value} : ∀ {P : List Str} {vs : List Value} {i : Nat} {m : Str → Option Value}, P.Nodup → P[i]? = some x → vs[i]? = some v → kindOf x ≠ some .local →
    bindC kindOf (P.zip vs) m x = some v
  | [], _, _, _, _, h, _, _ => by simp at h
  | _ :: _, [], _, _, _, _, h, _ => by simp at h
  | p :: P, w :: vs, 0, m, nd, h1, h2, hk => by
    simp at h1 h2; subst h1; subst h2
    show bindC kindOf ((p, w) :: P.zip vs) m p = _
    unfold bindC
    rw [bindC_out fun v hv => (List.nodup_cons.mp nd).1 (List.of_mem_zip hv).1, if_neg hk]
    simp
  | p :: P, w :: vs, i + 1, m, nd, h1, h2, hk => by
    show bindC kindOf ((p, w) :: P.zip vs) m x = _
    unfold bindC
    exact bindC_get (i := i) (List.nodup_cons.mp nd).2 (by simpa using h1) (by simpa using h2) hk
noncomputable def start (N : List Str) (vs : List V) : St := vs.map some ++ List.replicate (N.length - vs.length) none
noncomputable def cxOf (CX : CXT) (P : Program) (w : World) (K : W.Frag) (mg : Str → Option Value) (base : Heap) (N : List Str) (qual : Str) (scope : Scope) (f : Addr) (cd : Value) (A : Around) (outer : List Env) (s : Shared) (H : Hp) (E : XK) : Cx where
  prog := P
  w := w
  K := K
  mg := mg
  base := base
  A := A.deeper (envOfC qual scope s.heap.objs.size f cd)
  N := N
  s₀ := s
  H₀ := H
  env := envOfC qual scope s.heap.objs.size f cd
  outer := outer
  stack := envOfC qual scope s.heap.objs.size f cd :: outer
  ex := []
  calm := true
  fn := fun _ => true
  pn := []
  xe := fun e s' => wpAny (model P w) (A.deeper (envOfC qual scope s.heap.objs.size f cd)) (leaving (envOfC qual scope s.heap.objs.size f cd) e) (fun _ s'' => CX outer H s E e s'') (fun e' s'' => CX outer H s E e' s'') s'
theorem cell_has {sc : Scope} {n : Nat} {x : Str} (h : sc.names.lookup x = some .cell) : ∃ c, (cellsFrom n sc.names []).lookup x = some c := by
  have q := W.cellsFrom_some sc.names n [] (.inl h)
  exact Option.isSome_iff_exists.mp q
theorem inv_start {CX : CXT} {P : Program} {w : World} {K : W.Frag} {mg : Str → Option Value} {base : Heap} {N ps : List Str} {qual : Str} {scope : Scope} {f : Addr} {cd : Value} {A : Around} {outer : List Env} {s s1 : Shared} {H : Hp} {E : XK} {us : List Value} {vs : List V}
    (S : FnScope N ps scope) {cm : Bool} (hd : cm = true → A.handled = none) (e0 : Env0 P w K mg base A outer s H) (hl : vs.length = ps.length) (r : Vals vs us)
    (x : InCallC s s.heap.objs.size (bindL (envOfC qual scope s.heap.objs.size f cd).kindOf (ps.zip us) fun _ => none) (cellsFrom (s.heap.objs.size + 1) scope.names []) (bindC (envOfC qual scope s.heap.objs.size f cd).kindOf (ps.zip us) fun _ => none) s1) :
    Inv { cxOf CX P w K mg base N qual scope f cd A outer s H E with calm := cm } [] (start N vs) H s1 := by
  have hpl : ps.length ≤ N.length := by have := congrArg List.length S.pre; rw [List.length_take] at this; omega
  obtain ⟨h1, tk, rfl, hk⟩ := x.done
  have noA : ∀ b : Addr, b ∉ (cxOf CX P w K mg base N qual scope f cd A outer s H E).ex := fun b z => absurd (show b ∈ ([] : List Addr) from z) (by simp)
  refine ⟨⟨e0.mod, S.kind, rfl, rfl, Nat.le_refl _, fun y z c h1 h2 => ?_, fun y hy => ?_, fun y c _ h => ?_, hd, e0.hand, Around.frames_deeper e0.frames, .inr ⟨rfl, rfl⟩, fun b z => absurd z (noA b), e0.bs, e0.bsz, fun b _ _ => noA b, fun b z => absurd z (noA b), e0.funs, e0.frf⟩,
    rfl, e0.bare, Un.kept hk, ⟨_, x.toInCall.ns, fun i y v h1 h2 h3 => ?_⟩, fun y c h => ⟨_, x.cell y c h⟩, e0.hok.fresh (Nat.le_refl _), fun y c h => ?_, fun p hp => absurd (show p ∈ ([] : List (Addr × Obj)) from hp) (by simp), e0.hok.kept hk, ?_⟩
  · exact name_of_addr x.apart (PySem.mem_of_lookup h1) (PySem.mem_of_lookup h2)
  · have hy : scope.names.lookup y = some .cell ∨ scope.names.lookup y = some .free := hy
    rcases hy with hy | hy
    · exact cell_has hy
    · exact absurd rfl (S.nofree _ (PySem.mem_of_lookup hy))
  · exact Nat.le_of_lt (x.above y c (PySem.mem_of_lookup h))
  · have hi : i < vs.length := by
      unfold start at h2
      by_cases hi : i < vs.length
      · exact hi
      · rw [List.getElem?_append_right (by simpa using hi)] at h2
        rw [List.getElem?_replicate] at h2
        split at h2 <;> cases h2
    have ha : vs[i]? = some v := by
      unfold start at h2
      rw [List.getElem?_append_left (by simpa using hi), List.getElem?_map] at h2
      cases e : vs[i]? with
      | none => rw [e] at h2; cases h2
      | some a => rw [e] at h2; cases h2; rfl
    obtain ⟨u, hu, rv⟩ := r.get ha
    have hp : ps[i]? = some y := by
      rw [← S.pre, List.getElem?_take_of_lt (by omega)]; exact h1
    have ndP : ps.Nodup := by rw [← S.pre]; exact S.nd.sublist (List.take_sublist _ _)
    refine ⟨u, rv, ?_⟩
    rcases S.par y (List.mem_of_getElem? hp) with k | k
    · exact .inl ⟨k, bindL_get ndP hp hu k⟩
    · obtain ⟨c, e⟩ := cell_has (n := s.heap.objs.size + 1) k
      refine .inr ⟨.inl k, c, e, ?_⟩
      have q := x.cell y c e
      rw [bindC_get ndP hp hu (by show scope.names.lookup y ≠ _; rw [k]; decide)] at q
      exact q
  · exact e0.hok.fresh (Nat.le_of_lt (x.above y c (PySem.mem_of_lookup h)))
  · unfold start
    show _ = N.length
    rw [List.length_append, List.length_map, List.length_replicate]
    omega
theorem fn_of {CX : CXT} {P : Program} {w : World} {K : W.Frag} {mg : Str → Option Value} {base : Heap} {k : Nat} {f : Addr} {name qual : Str} {params : Arguments} {body : List Stmt} {scope : Scope} {dV kV doc pm cdv ct oc : Value} {an od : Option Addr}
    {osl : Array (Option Value)} {N ps : List Str} {sp : Sp} (lk : K.lookup f = some ⟨oc, od, .func (W.fnOf name qual params body scope dV kV doc pm an cdv ct), osl⟩) (hcd : W.codeIn K cdv qual = true) (S : FnScope N ps scope)
    (len : ∀ vs H Q E, sp vs H Q E → vs.length = ps.length)
    (hbody : ∀ (A : Around) (outer : List Env) (s : Shared) (H : Hp) (vs : List V) (Q : VK) (E : XK), Room k (A.deeper (envOfC qual scope s.heap.objs.size f cdv)) → sp vs H Q E →
      ∃ t, PSs (cxOf CX P w K mg base N qual scope f cdv A outer s H E) body t ∧ t { nx := fun _ H' => Q .non H', rt := Q } (start N vs) H) :
    FnOk P w K mg base CX (k + 1) f (W.fnOf name qual params body scope dV kV doc pm an cdv ct) ps sp := by
  refine ⟨len, fun A outer s H args us vs Q E hr e0 hb r hsp => ?_⟩
  have hl := len _ _ _ _ hsp
  have KX : K.In s.heap := e0.mod.kin.keeps fun b o e => (e0.bs b o e).1
  have lim : s.heap.NoLimit := e0.mod.nolimit.keeps fun b o e => (e0.bs b o e).1
  have hkind : ∀ y ∈ ps.zip us, scope.names.lookup y.1 = some .local ∨ (scope.names.lookup y.1 = some .cell ∧ ((cellsFrom (s.heap.objs.size + 1) scope.names []).lookup y.1).isSome = true) := fun ⟨n, v⟩ hy => by
    rcases S.par n (List.of_mem_zip hy).1 with q | q
    · exact .inl q
    · exact .inr ⟨q, W.cellsFrom_some _ _ _ (.inl q)⟩
  refine codeAny_call_function hr.depth (KX _ _ lk) rfl S.co S.gen rfl (W.codeRec_of KX hcd) (hb _ _ _ _ ?_)
  refine wpAny_newFunctionEnv_cells S.kind hkind fun env he s1 x => ?_
  subst he
  refine ⟨lim.keeps x.toInCall.keep, codeAny_func ?_⟩
  obtain ⟨t, ht, hq⟩ := hbody A outer s H vs Q E (hr.deeper _) hsp
  have I : Inv (cxOf CX P w K mg base N qual scope f cdv A outer s H E) [] (start N vs) H s1 := inv_start (cm := true) S (fun _ => hr.hd) e0 hl r x
  refine wpAny_mono (ht [] s1 (start N vs) H _ I hq) (fun fl s' hs => ?_) fun e s' hs => hs
  have fin : ∀ {σ' : St} {H' : Hp} {v : V} {u : Value}, Inv (cxOf CX P w K mg base N qual scope f cdv A outer s H E) [] σ' H' s' → RelV v u → Q v H' → CE outer P w H s Q u s' :=
    fun {σ' H' v u} J rv q => ⟨v, H', J.os, J.bare, J.base, J.hok, rv, q⟩
  cases fl with
  | ret u =>
    obtain ⟨v, σ', H', J, rv, q⟩ := hs
    exact fin J rv q
  | next =>
    obtain ⟨σ', H', J, q⟩ := hs
    exact fin (v := V.non) (u := Value.none) J rfl q
  | brk =>
    obtain ⟨_, _, _, q⟩ := hs
    exact False.elim q
  | cont =>
    obtain ⟨_, _, _, q⟩ := hs
    exact False.elim q
end L2
namespace L2
open PySem PySem.Spec PyProof.Rows
section
variable {X : Cx} {x : Str} {p pos : Pos} {e : Expr} {es : List Expr} {t : TA} {id T : String} {r : List V → Hp → VK → Prop}
noncomputable def tCB (r : List V → Hp → VK → Prop) (t : TA) : TE := fun σ H Q => t σ H fun vs H1 => r vs H1 Q
theorem pe_callB (hc : CallR X (.builtin id) r) (hg : Gl X x) (hm : X.mg x = none) (hv : bootBuiltins x = some (.builtin id)) (ha : PA X (e :: es) t) (hn : x ≠ "__name__" := by decide) (hdb : (x == ("__debug__" : Str)) = false := by decide)
    (he : starEach (e :: es) X.env = (false, eval e X.env) :: starEach es X.env := by rfl) (hpl : (backTo pos (starEach es X.env)).any (·.1) = false := by rfl) : PE X (.Call (.Name x p) (e :: es) [] pos) (tCB r t) := by
  intro pins s σ H Q I h
  refine wpAny_Call_Name_kw (ld_blt I hg hm hv ?_ hn hdb)
  exact PyProof.Rows.callWith_builtin1 (thn (ha pos pins s σ H _ I h) fun us s1 ⟨vs, H1, I1, r1, q1⟩ => hc pins s1 σ H1 vs us Q I1 r1 q1) he hpl
theorem pe_callTy (hc : CallR X (.type T) r) (hg : Gl X x) (hm : X.mg x = none) (hv : bootBuiltins x = some (.type T)) (ha : PA X (e :: es) t) (hn : x ≠ "__name__" := by decide) (hdb : (x == ("__debug__" : Str)) = false := by decide)
    (he : starEach (e :: es) X.env = (false, eval e X.env) :: starEach es X.env := by rfl) (hpl : (backTo pos (starEach es X.env)).any (·.1) = false := by rfl) : PE X (.Call (.Name x p) (e :: es) [] pos) (tCB r t) := by
  intro pins s σ H Q I h
  refine wpAny_Call_Name_kw (ld_blt I hg hm hv ?_ hn hdb)
  exact PyProof.Rows.callWith_type1 (thn (ha pos pins s σ H _ I h) fun us s1 ⟨vs, H1, I1, r1, q1⟩ => hc pins s1 σ H1 vs us Q I1 r1 q1) he hpl
end
end L2
namespace HT
open PySem PyProof.Rows
noncomputable def lexLt : List Int → List Int → Bool
  | [], [] => false
  | [], _ :: _ => true
  | _ :: _, [] => false
  | x :: xs, y :: ys => if x = y then lexLt xs ys else decide (x < y)
theorem lexLt_cons (x y : Int) (xs ys : List Int) : lexLt (x :: xs) (y :: ys) = if x = y then lexLt xs ys else decide (x < y) := rfl
theorem lexLt_nil_nil : lexLt [] [] = false := rfl
theorem lexLt_nil_cons (y : Int) (ys : List Int) : lexLt [] (y :: ys) = true := rfl
theorem lexLt_cons_nil (x : Int) (xs : List Int) : lexLt (x :: xs) [] = false := rfl
theorem eqAt_int (A : Around) (s : Shared) (a : Int) (t : Tok) (c : Int) (u : Tok) : ∃ e, SeqAt.EqAt A s (.int a t) (.int c u) e ∧ (e = true ↔ a = c) :=
  ⟨(a == c), SeqAt.EqAt.int_int a t c u, by simp⟩
theorem rcLt_int (A : Around) (s : Shared) (a : Int) (t : Tok) (c : Int) (u : Tok) (prog : Program) (w : World) (E : Value → Shared → Prop) (Q : Value → Shared → Prop) (h : Q (.bool (decide (a < c))) s) :
    wpAny (model prog w) A (richCompare .Lt (.int a t) (.int c u)) Q E s :=
  (PyProof.Rows.lt_int h : wpAny (model prog w) A (compareOp .Lt (.int a t) (.int c u)) Q E s)
section
open PySem.SeqAt
open PySem.AutoSeq1 (wpAny_loadPart')
open PySem.MeetsSeq PySem.MeetsSeq2 PySem.MeetsSeq3
theorem tuple_lt_ints (l b : Addr) (items items2 : Array Value) (n n2 : Nat) (dd dd2 : Option Addr) (sl sl2 : Array (Option Value)) (ns ms : List Int) (hi : IntsAre items.toList ns) (hj : IntsAre items2.toList ms) :
    Meets (Builtin.«tuple.__lt__» ⟨[.ref l, .ref b], []⟩)
      (fun _ R s => s.heap.get? l = some { cls := .type "tuple", dict := dd, data := .seq items n, slots := sl } ∧ s.heap.get? b = some { cls := .type "tuple", dict := dd2, data := .seq items2 n2, slots := sl2 } ∧
        R (.ok (.ret (.bool (lexLt ns ms)))) s) :=
  .of_wp fun prog w A R s h => by
    obtain ⟨hp, g, d, tk, os⟩ := s; obtain ⟨hl, hb, h⟩ := h
    have f2 := AutoSeq1.sub_tuple_tuple
    have z1 : items.size = ns.length := by rw [← hi.length]; simp
    have z2 : items2.size = ms.length := by rw [← hj.length]; simp
    wp_walk using wpAny_loadPart' hl, wpAny_loadPart' hb, wpAny_forIn_list _ (fun rest b s' => b.1 = none ∧ s' = ⟨hp, g, d, tk, os⟩ ∧ ∃ (vs ws : List Value) (ns' ms' : List Int), rest = vs.zip ws ∧
      IntsAre vs ns' ∧ IntsAre ws ms' ∧ ns'.length + items2.size = ms'.length + items.size ∧ R (.ok (.ret (.bool (lexLt ns' ms')))) ⟨hp, g, d, tk, os⟩) _
    case turn =>
      rintro ⟨y, x⟩ rest b s' ⟨hb', rfl, vs, ws, ns', ms', hz, hvi, hwi, hlen, hR⟩
      cases hvi with
      | nil => rw [List.zip_nil_left] at hz; cases hz
      | cons a t hvi' =>
        cases hwi with
        | nil => rw [List.zip_nil_right] at hz; cases hz
        | cons c u hwi' =>
          rw [List.zip_cons_cons] at hz
          injection hz with hyx hrest
          injection hyx with hy hx
          subst hy hx
          rw [lexLt_cons] at hR
          simp only [List.length_cons] at hlen
          obtain ⟨e, he, hiff⟩ := eqAt_int A.in1 ⟨hp, g, d, tk, os⟩ a t c u
          refine wpAny_bind (he prog w _ _ ?_)
          cases e with
          | true =>
            rw [if_pos (hiff.mp rfl)] at hR
            wp_walk
            exact ⟨rfl, rfl, _, _, _, _, hrest, hvi', hwi', by omega, hR⟩
          | false =>
            rw [if_neg (fun q => absurd (hiff.mpr q) Bool.false_ne_true)] at hR
            have hri := rcLt_int A.in1 ⟨hp, g, d, tk, os⟩ a t c u prog w
            wp_walk using hri
            exact ⟨_, rfl, by simpa using hR⟩
    case fin =>
      rintro ⟨b1, b2⟩ s' ⟨hb', rfl, vs, ws, ns', ms', hz, hvi, hwi, hlen, hR⟩
      simp only at hb'
      subst hb'
      have hv : lexLt ns' ms' = decide (items.size < items2.size) := by
        cases hvi with
        | nil =>
          cases hwi with
          | nil =>
            simp only [List.length_nil] at hlen
            rw [lexLt_nil_nil]
            exact (decide_eq_false (by omega)).symm
          | cons c u hw =>
            simp only [List.length_nil, List.length_cons] at hlen
            rw [lexLt_nil_cons]
            exact (decide_eq_true (by omega)).symm
        | cons a t hv =>
          cases hwi with
          | nil =>
            simp only [List.length_nil, List.length_cons] at hlen
            rw [lexLt_cons_nil]
            exact (decide_eq_false (by omega)).symm
          | cons c u hw =>
            rw [List.zip_cons_cons] at hz
            cases hz
      rw [hv] at hR
      wp_walk
      exact ⟨_, rfl, by simpa [Builtin.Tuple.tupleCompareSizes] using hR⟩
    case h =>
      exact ⟨rfl, rfl, items.toList, items2.toList, ns, ms, rfl, hi, hj, by omega, h⟩
end
section
variable {prog : Program} {w : World} {A : Around} {E : Value → Shared → Prop} {s : Shared}
theorem lt_tupInts {l b : Addr} {items items2 : Array Value} {ns ms : List Int} {Q : Value → Shared → Prop} (hl : IsTup s.heap l items) (hb : IsTup s.heap b items2) (hi : IntsAre items.toList ns) (hj : IntsAre items2.toList ms)
    (hu : A.units < cLine) (h : Q (.bool (lexLt ns ms)) s) : wpAny (model prog w) A (compareOp .Lt (.ref l) (.ref b)) Q E s := by
  obtain ⟨⟨cls, dd, data, sl⟩, ho, hc, n, hd⟩ := id hl
  obtain ⟨⟨cls2, dd2, data2, sl2⟩, ho2, hc2, n2, hd2⟩ := id hb
  simp only at hc hd hc2 hd2
  subst hc hd hc2 hd2
  exact richCompare_meets_room (op := .Lt) ⟨_, ho, rfl⟩ ⟨_, ho2, rfl⟩ PySem.F.slot_tuple_lt PySem.F.entry_tuple_lt (PySem.F.args_tuple_lt_2 _ _) (tuple_lt_ints l b items items2 n n2 dd dd2 sl sl2 ns ms hi hj)
    ⟨ho, ho2, show Value.bool (lexLt ns ms) ≠ Value.notImplemented ∧ Q (.bool (lexLt ns ms)) s from ⟨(fun x => nomatch x), h⟩⟩ hu
theorem cat_tup {t b : Addr} {vs ws : List Value} {Q : Value → Shared → Prop} (ht : IsTup s.heap t vs.toArray) (hb : IsTup s.heap b ws.toArray) (hv : vs ≠ [])
    (h1 : ws = [] → Q (.ref t) s) (h2 : ws ≠ [] → Q (.ref s.heap.objs.size) { s with heap := s.heap.push { cls := .type "tuple", data := .seq (vs ++ ws).toArray } })
    (hsz : vs.length + ws.length ≤ sizeLine) : wpAny (model prog w) A (binaryOp .Add (.ref t) (.ref b)) Q E s := by
  obtain ⟨⟨cls, dd, data, sl⟩, ho, hc, n, hd⟩ := id ht
  obtain ⟨⟨cls2, dd2, data2, sl2⟩, ho2, hc2, n2, hd2⟩ := id hb
  simp only at hc hd hc2 hd2
  subst hc hd hc2 hd2
  have e : vs.toArray ++ ws.toArray = (vs ++ ws).toArray := by simp
  by_cases hw : ws = []
  · exact concat_meets ⟨_, ho, rfl⟩ ⟨_, ho2, rfl⟩ noFill_tuple_add seq_tuple_add PySem.F.slot_tuple_add PySem.F.entry_tuple_add (PySem.F.args_tuple_add_2 _ _)
      (tuple_addW1 t b vs.toArray ws.toArray n n2 dd dd2 sl sl2 (by simpa using hv) (by simp [hw])) ⟨ho, ho2, h1 hw⟩
  · refine concat_meets ⟨_, ho, rfl⟩ ⟨_, ho2, rfl⟩ noFill_tuple_add seq_tuple_add PySem.F.slot_tuple_add PySem.F.entry_tuple_add (PySem.F.args_tuple_add_2 _ _)
      (tuple_addW2 t b vs.toArray ws.toArray n n2 dd dd2 sl sl2 (by simpa using hv) (by simpa using hw) (by rw [List.size_toArray, List.size_toArray]; exact hsz)) ⟨ho, ho2, ?_⟩
    rw [e]
    exact h2 hw
noncomputable def sIx (n d : Nat) : Option Int → Nat
  | none => d
  | some v => if v < 0 then (v + (n : Int)).toNat else min v.toNat n
end
end HT
namespace L2
open PySem PySem.Spec PyProof.Rows
noncomputable abbrev TO := St → Hp → (Option Int → Hp → Prop) → Prop
noncomputable def PO (X : Cx) (e : Option Expr) (t : TO) : Prop :=
  ∀ (pins : List (Addr × Obj)) (s : Shared) (σ : St) (H : Hp) (Q : Option Int → Hp → Prop), Inv X pins σ H s → t σ H Q →
    wpAny (model X.prog X.w) X.A (evalPart e X.env) (fun u s' => ∃ o H', Inv X pins σ H' s' ∧ IsPart u o ∧ Q o H') X.xe s
theorem intsAre_of {ns : List Int} : ∀ {us : List Value}, Vals (ns.map V.int) us → IntsAre us ns := by
  induction ns with
  | nil => intro us r; rw [List.map_nil] at r; cases r; exact .nil
  | cons n ns ih =>
    intro us r
    rw [List.map_cons] at r
    cases r with
    | cons r1 r2 =>
      obtain ⟨t, e⟩ := r1
      subst e
      exact .cons n t (ih r2)
section
variable {X : Cx} {e : Expr} {te : TE} {lo hi : Option Expr} {tl th : TO} {pos p2 : Pos}
noncomputable def SlR (X : Cx) (r : V → Option Int → Option Int → Hp → VK → Prop) : Prop :=
  ∀ (pins : List (Addr × Obj)) (s : Shared) (σ : St) (H : Hp) (x : V) (v vl vu : Value) (lo hi : Option Int) (sl : Addr) (Q : VK), Inv X pins σ H s → RelV x v → s.heap.IsSliceOf sl vl vu .none → IsPart vl lo → IsPart vu hi → r x lo hi H Q →
    ∃ T id, typeLookup (.type T) "__getitem__" = pure (some (.builtin id)) ∧ s.TypeIs v T ∧ wpAny (model X.prog X.w) X.A (getItem v (.ref sl)) (EP X pins σ Q) X.xe s
theorem SlR.or {r r' : V → Option Int → Option Int → Hp → VK → Prop} (h : SlR X r) (h' : SlR X r') : SlR X (fun x lo hi H Q => r x lo hi H Q ∨ r' x lo hi H Q) := by
  intro pins s σ H x v vl vu lo hi sl Q I rx hs pl pu q
  rcases q with q | q
  · exact h pins s σ H x v vl vu lo hi sl Q I rx hs pl pu q
  · exact h' pins s σ H x v vl vu lo hi sl Q I rx hs pl pu q
noncomputable def rCatT (K : W.Frag) : R2 := fun x y H Q => ∃ a b xs ys, x = .ref a ∧ y = .ref b ∧ SqT K H a xs ∧ SqT K H b ys ∧ xs ≠ [] ∧ xs.length + ys.length ≤ sizeLine ∧
  (ys = [] → Q (.ref a) H) ∧ (ys ≠ [] → ∀ p, H p = none → Q (.ref p) (upd H p (.tup (xs ++ ys))))
theorem Vals.nil_iff {xs : List V} {us : List Value} (r : Vals xs us) : us = [] ↔ xs = [] := by
  cases r with
  | nil => simp
  | cons _ _ => simp
theorem op_catT : OpR X (binaryOp .Add) (rCatT X.K) := by
  intro pins s σ H x y v u Q I rx ry h
  obtain ⟨a, b, xs, ys, rfl, rfl, ha, hb, hx, hz, q1, q2⟩ := h
  cases rx
  cases ry
  obtain ⟨its, r1, p1, _⟩ := I.tuple ha
  obtain ⟨its2, r2, p2, _⟩ := I.tuple hb
  refine HT.cat_tup p1 p2 (fun z => hx (r1.nil_iff.mp z)) (fun z => ⟨.ref a, H, I, rfl, q1 (r2.nil_iff.mp z)⟩) (fun z => ?_) (by rw [← r1.length, ← r2.length]; exact hz)
  refine ⟨.ref s.heap.objs.size, _, I.laid (t' := s.toks) (o := .tup (xs ++ ys)) (fun b ob q => Heap.get?_push_of_some _ q) (Nat.le_refl _) ?_, rfl, q2 (fun w => z (r2.nil_iff.mpr w)) _ (I.hok.fresh (Nat.le_refl _))⟩
  exact ⟨by rw [List.length_append]; exact hz, _, r1.append r2, IsTup.new _ _⟩
end
end L2
namespace L2
open PySem PySem.Spec PyProof.Rows
noncomputable def ixN (n : Nat) (i : Int) : Option Nat := if 0 ≤ i then (if i < n then some i.toNat else none) else if -(n : Int) ≤ i then some (i + n).toNat else none
noncomputable def atI {α : Type} (xs : List α) (i : Int) : Option α := (ixN xs.length i).bind fun j => xs[j]?
theorem ixN_seq {n : Nat} {i : Int} {j : Nat} (h : ixN n i = some j) : seqIndex? i n = some j ∧ j < n ∧ -(n : Int) ≤ i ∧ i < n := by
  unfold ixN at h
  by_cases h0 : 0 ≤ i
  · rw [if_pos h0] at h
    by_cases h1 : i < n
    · rw [if_pos h1] at h
      have e : i.toNat = j := Option.some.inj h
      exact ⟨by rw [seqIndex_of h0 h1, e], by omega, by omega, h1⟩
    · rw [if_neg h1] at h; cases h
  · rw [if_neg h0] at h
    by_cases h1 : -(n : Int) ≤ i
    · rw [if_pos h1] at h
      have e : (i + n).toNat = j := Option.some.inj h
      exact ⟨by rw [seqIndex_neg (by omega) h1, e], by omega, h1, by omega⟩
    · rw [if_neg h1] at h; cases h
theorem atI_get {α : Type} {xs : List α} {i : Int} {v : α} (h : atI xs i = some v) : ∃ j, seqIndex? i xs.length = some j ∧ xs[j]? = some v ∧ j < xs.length ∧ -(xs.length : Int) ≤ i ∧ i < xs.length := by
  unfold atI at h
  cases e : ixN xs.length i with
  | none => rw [e] at h; cases h
  | some j =>
    rw [e] at h
    obtain ⟨h1, h2, h3, h4⟩ := ixN_seq e
    exact ⟨j, h1, h, h2, h3, h4⟩
theorem atI_nat {α : Type} {xs : List α} {j : Nat} {v : α} (h : xs[j]? = some v) : atI xs (j : Int) = some v := by
  have hj : j < xs.length := (List.getElem?_eq_some_iff.mp h).1
  have e : ixN xs.length (j : Int) = some j := by
    unfold ixN
    rw [if_pos (by omega), if_pos (by omega)]; simp
  unfold atI; rw [e]; exact h
noncomputable def PlainIx (b : Expr) : Prop := ∀ o i, subscripted b false o i = operate [o, i] (getItem o i)
noncomputable def IxR (X : Cx) (r : R2) : Prop :=
  ∀ (value slice : Expr) (pins : List (Addr × Obj)) (s : Shared) (σ : St) (H : Hp) (x y : V) (v u : Value) (Q : VK), Inv X pins σ H s → RelV x v → RelV y u → r x y H Q →
    subscripted slice false v u = operate [v, u] (getItem v u) → wpAny (model X.prog X.w) X.A (subscriptTail value slice v u) (EP X pins σ Q) X.xe s
noncomputable def MtR (X : Cx) (id : String) (r : V → List V → Hp → VK → Prop) : Prop :=
  ∀ (pins : List (Addr × Obj)) (s : Shared) (σ : St) (H : Hp) (x : V) (xs : List V) (v : Value) (us : List Value) (Q : VK), Inv X pins σ H s → RelV x v → Vals xs us → r x xs H Q →
    wpAny (model X.prog X.w) X.A (call (.builtin id) (v :: us)) (EP X pins σ Q) X.xe s
section
variable {X : Cx} {a b : Expr} {ta tb : TE} {pos : Pos}
theorem IxR.or {r r' : R2} (h : IxR X r) (h' : IxR X r') : IxR X (fun x y H Q => r x y H Q ∨ r' x y H Q) := by
  intro value slice pins s σ H x y v u Q I rx ry q hs
  rcases q with q | q
  · exact h value slice pins s σ H x y v u Q I rx ry q hs
  · exact h' value slice pins s σ H x y v u Q I rx ry q hs
theorem MtR.or {id : String} {r r' : V → List V → Hp → VK → Prop} (h : MtR X id r) (h' : MtR X id r') : MtR X id (fun x xs H Q => r x xs H Q ∨ r' x xs H Q) := by
  intro pins s σ H x xs v us Q I rx rs q
  rcases q with q | q
  · exact h pins s σ H x xs v us Q I rx rs q
  · exact h' pins s σ H x xs v us Q I rx rs q
theorem pe_ix {r : R2} (hr : IxR X r) (ha : PE X a ta) (hb : PE X b tb) (hs : PlainIx b) : PE X (.Subscript a b pos) (tOp r ta tb) := by
  intro pins s σ H Q I h
  exact Subscript_ (binT ha hb I h fun v u s2 x y H2 I2 rx ry q => hr a b pins s2 σ H2 x y v u Q I2 rx ry q (hs _ _))
noncomputable def rIxL (K : W.Frag) : R2 := fun x y H Q => ∃ p xs i v, x = .ref p ∧ y = .int i ∧ SqL K H p xs ∧ atI xs i = some v ∧ Q v H
noncomputable def rIxT (K : W.Frag) : R2 := fun x y H Q => ∃ p xs i v, x = .ref p ∧ y = .int i ∧ SqT K H p xs ∧ atI xs i = some v ∧ Q v H
theorem ix_list : IxR X (rIxL X.K) := by
  intro value slice pins s σ H x y v u Q I rx ry h hs
  obtain ⟨p, xs, i, z, rfl, rfl, hq, he, q⟩ := h
  cases rx
  obtain ⟨t, rfl⟩ := ry
  obtain ⟨its, r, pl, hz⟩ := I.list hq
  obtain ⟨j, h1, h2, h3, h4, h5⟩ := atI_get he
  obtain ⟨w, ew, rw'⟩ := r.get h2
  have hl := r.length
  have hn := line63
  have fin : EP X pins σ Q w s := ⟨z, H, I, rw', q⟩
  by_cases h0 : 0 ≤ i
  · have hj : i.toNat = j := by
      rw [seqIndex_of h0 h5] at h1
      exact Option.some.inj h1
    exact item_listR pl.isList h0 (by omega) (by rw [hj]; simpa using ew) fin hs
  · have hj : (i + (its.toArray.size : Int)).toNat = j := by
      rw [seqIndex_neg (by omega) h4] at h1
      rw [List.size_toArray, ← hl]
      exact Option.some.inj h1
    exact subscriptTail_builtinR (x := w) pl.isList.typeIs slot_list_getitem.lookup
      (wpAny_getItem_list_neg (Q := fun r s' => r = w ∧ EP X pins σ Q r s') pl.isList (by omega) (by rw [List.size_toArray] <;> omega) (by omega) (by rw [hj]; simpa using ew) ⟨rfl, fin⟩) hs
theorem ix_tup : IxR X (rIxT X.K) := by
  intro value slice pins s σ H x y v u Q I rx ry h hs
  obtain ⟨p, xs, i, z, rfl, rfl, hq, he, q⟩ := h
  cases rx
  obtain ⟨t, rfl⟩ := ry
  obtain ⟨its, r, pl, hz⟩ := I.tuple hq
  obtain ⟨j, h1, h2, h3, h4, h5⟩ := atI_get he
  obtain ⟨w, ew, rw'⟩ := r.get h2
  have hl := r.length
  have hn := line63
  have fin : EP X pins σ Q w s := ⟨z, H, I, rw', q⟩
  exact subscriptTail_builtinR (x := w) pl.typeIs slot_tuple_getitem.lookup
    (getItem_tuple (j := j) (Q := fun r s' => r = w ∧ EP X pins σ Q r s') pl (by omega) (by omega) (by rw [List.size_toArray, ← hl]; exact h1) (by simpa using ew) ⟨rfl, fin⟩) hs
theorem mapSeq_set (its : List Value) (n j : Nat) (u : Value) : Obj.mapSeq (·.setIfInBounds j u) { cls := .type "list", data := .seq its.toArray n } = { cls := .type "list", data := .seq (its.set j u).toArray n } := by
  simp [Obj.mapSeq]
theorem Inv.lst {pins : List (Addr × Obj)} {σ : St} {H : Hp} {s : Shared} {p : Addr} {xs : List V} (I : Inv X pins σ H s) (h : H p = some (.lst xs)) :
    ∃ (its : List Value) (n : Nat), Vals xs its ∧ s.heap.get? p = some { cls := .type "list", data := .seq its.toArray n } ∧ xs.length ≤ sizeLine := by
  obtain ⟨z, its, n, r, e⟩ := I.hok p _ h
  exact ⟨its, n, r, e, z⟩
theorem Inv.lstUpd {pins : List (Addr × Obj)} {σ : St} {H : Hp} {s : Shared} {p : Addr} {xs ys : List V} {its its' : List Value} {n n' : Nat} {f : Obj → Obj} (I : Inv X pins σ H s) (h : H p = some (.lst xs))
    (ho : s.heap.get? p = some { cls := .type "list", data := .seq its.toArray n }) (hf : f { cls := .type "list", data := .seq its.toArray n } = { cls := .type "list", data := .seq its'.toArray n' }) (r : Vals ys its') (hz : ys.length ≤ sizeLine) (t : Nat) :
    Inv X pins σ (upd H p (.lst ys)) { s with heap := s.heap.update p f, toks := t } := by
  have e : (s.heap.update p f).get? p = some { cls := .type "list", data := .seq its'.toArray n' } := by
    rw [Heap.get?_update_self f ho (by rw [hf] <;> rfl), hf]
  refine I.write (x := p) (e := p) (by rw [h]; trivial) (.inl rfl) (fun b u hb q => (Heap.get?_update_other _ _ (Ne.symm hb)).trans q) ⟨_, e⟩ ?_
  exact ⟨hz, its', n', r, e⟩
noncomputable def rSetL : V → V → V → Hp → (Hp → Prop) → Prop := fun o i v H Q => ∃ p xs k j, o = .ref p ∧ i = .int k ∧ H p = some (.lst xs) ∧ ixN xs.length k = some j ∧ Q (upd H p (.lst (xs.set j v)))
theorem set_list : PSet X rSetL := by
  intro pins s σ H o i v ov iv u Q I ro ri rv h
  obtain ⟨p, xs, k, j, rfl, rfl, hp, hj, q⟩ := h
  cases ro
  obtain ⟨t, rfl⟩ := ri
  obtain ⟨its, n, r, ho, hz⟩ := I.lst hp
  obtain ⟨h1, h2, h3, h4⟩ := ixN_seq hj
  have hl := r.length
  have hn := line63
  have I' : Inv X pins σ (upd H p (.lst (xs.set j v))) { s with heap := s.heap.update p (Obj.mapSeq (·.setIfInBounds j u)) } :=
    I.lstUpd hp ho (mapSeq_set its n j u) (r.set rv j) (by rw [List.length_set]; exact hz) s.toks
  by_cases h0 : 0 ≤ k
  · have hk : k.toNat = j := by
      rw [seqIndex_of h0 h4] at h1
      exact Option.some.inj h1
    exact W.ki_setAt ho h0 (by omega) (by rw [List.size_toArray, ← hl]; exact h4) (by rw [hk]; exact ⟨_, I', q⟩)
  · have hk : (k + (its.toArray.size : Int)).toNat = j := by
      rw [seqIndex_neg (by omega) h3] at h1
      rw [List.size_toArray, ← hl]
      exact Option.some.inj h1
    exact W.ki_setBack ho (by omega) (by rw [List.size_toArray, ← hl]; exact h3) (by omega) (by rw [hk]; exact ⟨_, I', q⟩)
theorem call_len_seq : CallR X (.builtin "len") (fun xs H Q => ∃ p ys, xs = [.ref p] ∧ (SqL X.K H p ys ∨ SqT X.K H p ys) ∧ Q (.int ys.length) H) := by
  intro pins s σ H xs us Q I r h
  obtain ⟨p, ys, rfl, hq, q⟩ := h
  obtain ⟨u, rfl, rx⟩ := vals1 r
  cases rx
  have hn := line63
  rcases hq with hq | hq
  · obtain ⟨its, r', pl, hz⟩ := I.list hq
    have hlen := r'.length
    exact Calls.call_len_list pl.isList (by simp only [List.size_toArray] <;> omega) ⟨.int ys.length, H, I.tok _, ⟨s.toks + 1, by rw [List.size_toArray, hlen]⟩, q⟩
  · obtain ⟨its, r', pl, hz⟩ := I.tuple hq
    have hlen := r'.length
    exact len_tuple pl (by simp only [List.size_toArray] <;> omega) ⟨.int ys.length, H, I.tok _, ⟨s.toks + 1, by rw [List.size_toArray, hlen]⟩, q⟩
theorem CallR.or {f : Value} {r r' : List V → Hp → VK → Prop} (h : CallR X f r) (h' : CallR X f r') : CallR X f (fun xs H Q => r xs H Q ∨ r' xs H Q) := by
  intro pins s σ H xs us Q I rs q
  rcases q with q | q
  · exact h pins s σ H xs us Q I rs q
  · exact h' pins s σ H xs us Q I rs q
theorem call_list_of : CallR X (.type "list") (fun xs H Q => ∃ p ys, xs = [.ref p] ∧ (SqL X.K H p ys ∨ SqT X.K H p ys) ∧ ∀ l, H l = none → Q (.ref l) (upd H l (.lst ys))) := by
  intro pins s σ H xs us Q I r h
  obtain ⟨p, ys, rfl, hq, q⟩ := h
  obtain ⟨u, rfl, rx⟩ := vals1 r
  cases rx
  have fin : ∀ (its : List Value), Vals ys its → ys.length ≤ sizeLine → ∀ (h' : Heap) (c' : Nat), (∀ b o', s.heap.get? b = some o' → h'.get? b = some o') →
      h'.get? s.heap.objs.size = some { cls := .type "list", dict := none, data := .seq its.toArray c', slots := #[] } → EP X pins σ Q (.ref s.heap.objs.size) { s with heap := h' } := fun its r' hz h' c' kp e =>
    ⟨.ref s.heap.objs.size, _, I.laid (t' := s.toks) kp (Nat.le_refl _) (show ObjOk X.prog X.w _ h' _ (.lst ys) from ⟨hz, its, c', r', e⟩), rfl, q _ (I.hok.fresh (Nat.le_refl _))⟩
  rcases hq with hq | hq
  · obtain ⟨its, r', pl, hz⟩ := I.list hq
    have hlen := r'.length
    obtain ⟨o, ho, hc, n, hd⟩ := pl.isList
    exact call_list_seq p (.inl rfl) ho hc hd (fun h' c' kp e => fin its r' hz h' c' kp e) (by simp only [List.size_toArray] <;> omega)
  · obtain ⟨its, r', pl, hz⟩ := I.tuple hq
    have hlen := r'.length
    obtain ⟨o, ho, hc, n, hd⟩ := pl
    exact call_list_seq p (.inr rfl) ho hc hd (fun h' c' kp e => fin its r' hz h' c' kp e) (by simp only [List.size_toArray] <;> omega)
theorem call_tuple_of : CallR X (.type "tuple") (fun xs H Q => ∃ p ys, xs = [.ref p] ∧ ((SqL X.K H p ys ∧ ∀ l, H l = none → Q (.ref l) (upd H l (.tup ys))) ∨ (SqT X.K H p ys ∧ Q (.ref p) H))) := by
  intro pins s σ H xs us Q I r h
  obtain ⟨p, ys, rfl, h⟩ := h
  obtain ⟨u, rfl, rx⟩ := vals1 r
  cases rx
  rcases h with ⟨hq, q⟩ | ⟨hq, q⟩
  · obtain ⟨its, r', pl, hz⟩ := I.list hq
    have hlen := r'.length
    refine call_tuple_list pl.isList (fun h' kp => ?_) (by simp only [List.size_toArray] <;> omega)
    have I1 : Inv X pins σ H { s with heap := h' } := I.kept (t' := s.toks) kp
    have I2 : Inv X pins σ (upd H h'.objs.size (.tup ys)) { s with heap := h'.push { cls := .type "tuple", data := .seq its.toArray } } :=
      I1.laid (t' := s.toks) (fun b o e => Heap.get?_push_of_some _ e) (Nat.le_refl _) (show ObjOk X.prog X.w _ _ _ (.tup ys) from ⟨hz, its, r', IsTup.new _ _⟩)
    exact ⟨.ref h'.objs.size, _, I2, rfl, q _ (I1.hok.fresh (Nat.le_refl _))⟩
  · obtain ⟨its, r', pl, hz⟩ := I.tuple hq
    exact call_tuple_same pl ⟨.ref p, H, I, rfl, q⟩
noncomputable def tyV (K : W.Frag) (T : String) (x : V) (H : Hp) : Prop := match x with
  | .str _ => T = "str"
  | .int _ => T = "int"
  | .ref p => (T = "list" ∧ ∃ xs, SqL K H p xs) ∨ (T = "tuple" ∧ ∃ o, K.lookup p = some o ∧ o.cls = .type "tuple" ∧ o.dict = none) ∨
      (T = "dict" ∧ ((∃ kvs, H p = some (.dK kvs)) ∨ ∃ kvs, H p = some (.dT kvs))) ∨ (T = "set" ∧ ∃ S n, H p = some (.set S n))
  | _ => False
theorem tyV_is {pins : List (Addr × Obj)} {σ : St} {H : Hp} {s : Shared} {T : String} {x : V} {v : Value} (I : Inv X pins σ H s) (r : RelV x v) (ty : tyV X.K T x H) :
    s.TypeIs v T ∧ ∀ a, v = .ref a → ∃ ob, s.heap.get? a = some ob ∧ ob.dict = none := by
  cases x with
  | str z =>
    obtain ⟨t, rfl⟩ := r
    cases (show T = "str" from ty)
    exact ⟨typeIs_str s z t, fun _ e => nomatch e⟩
  | int i =>
    obtain ⟨t, rfl⟩ := r
    cases (show T = "int" from ty)
    exact ⟨typeIs_int s i t, fun _ e => nomatch e⟩
  | ref p =>
    cases r
    rcases ty with ⟨rfl, xs, hq⟩ | ⟨rfl, o, hk, hc, hd⟩ | ⟨rfl, hk⟩ | ⟨rfl, S, n, hk⟩
    · obtain ⟨its, _, pl, _⟩ := I.list hq
      refine ⟨pl.isList.typeIs, fun a e => ?_⟩
      cases e
      obtain ⟨o, n, e, c, hd, _⟩ := pl
      exact ⟨o, e, hd⟩
    · refine ⟨⟨o, I.kIn p o hk, hc⟩, fun a e => ?_⟩
      cases e
      exact ⟨o, I.kIn _ o hk, hd⟩
    · have z : ∃ o, s.heap.get? p = some o ∧ o.ExactDict := by
        rcases hk with ⟨kvs, hk⟩ | ⟨kvs, hk⟩
        · obtain ⟨_, _, _, _, o, _, _, e, ex, _⟩ := I.hok p _ hk
          exact ⟨o, e, ex⟩
        · obtain ⟨_, _, _, _, o, _, _, e, ex, _⟩ := I.hok p _ hk
          exact ⟨o, e, ex⟩
      obtain ⟨o, e, ex⟩ := z
      refine ⟨⟨o, e, ex.1⟩, fun a e2 => ?_⟩
      cases e2
      exact ⟨o, e, ex.2.1⟩
    · obtain ⟨o, _, _, _, e, ex, _⟩ := I.hok p _ hk
      refine ⟨⟨o, e, ex.1⟩, fun a e2 => ?_⟩
      cases e2
      exact ⟨o, e, ex.2.1⟩
  | _ => exact False.elim ty
noncomputable def tBM (K : W.Frag) (T : String) (r : V → List V → Hp → VK → Prop) (to : TE) (t : TA) : TE := fun σ H Q => to σ H fun x H1 => tyV K T x H1 ∧ t σ H1 fun xs H2 => r x xs H2 Q
variable {o e : Expr} {es : List Expr} {to : TE} {t : TA} {name : Str} {apos cpos : Pos} {T id : String} {r : V → List V → Hp → VK → Prop}
theorem pe_bm (pa : PlainAttrs T) (slot : Slot T name id) (hty : typeOf (.builtin id) = pure (.type "method_descriptor")) (hm : MtR X id r) (ho : PE X o to) (ha : PA X (e :: es) t)
    (hbase : attributeBase o name X.env (eval o X.env) = eval o X.env := by rfl)
    (hfew : ((backTo cpos (starEach (e :: es) X.env)).all (fun x => !x.1) && (backToKw cpos (keywordEach [] X.env)).all (fun x => x.1.isSome)
      && decide ((e :: es).length + ([] : List Keyword).length + (if ([] : List Keyword).isEmpty then 0 else 1) < 30)) = true := by rfl)
    (hline : (apos.endLine == cpos.line) = true := by rfl) (hs : starEach (e :: es) X.env = (false, eval e X.env) :: starEach es X.env := by rfl) (hplain : (backTo cpos (starEach es X.env)).any (·.1) = false := by rfl) :
    PE X (.Call (.Attribute o name apos) (e :: es) [] cpos) (tBM X.K T r to t) := by
  intro pins s σ H Q I h
  refine wpAny_Call_method_late hbase hfew hline rfl (thn (ho pins s σ H _ I h) fun v s1 ⟨x, H1, I1, r1, ty, q1⟩ => ?_)
  obtain ⟨h1, h2⟩ := tyV_is I1 r1 ty
  refine ⟨T, id, pa, slot, hty, h1, h2, ?_⟩
  have hA := ha cpos pins s1 σ H1 _ I1 q1
  rw [hs] at hA ⊢
  refine Calls.callWith_builtin (by show (false || (backTo cpos (starEach es X.env)).any (·.1)) = false; rw [hplain] <;> rfl) (Calls.evalArgs_plain ?_)
  exact thn hA fun us s2 ⟨vs, H2, I2, r2, q2⟩ => hm pins s2 σ H2 x vs v us Q I2 r1 r2 q2
end
end L2
namespace L2
open PySem PySem.Spec PyProof.Rows
noncomputable def MtM (X : Cx) (id : String) (r : V → List V → Hp → VK → Prop) : Prop :=
  ∀ (pins : List (Addr × Obj)) (s : Shared) (σ : St) (H : Hp) (x : V) (xs : List V) (v : Value) (us : List Value) (Q : VK), Inv X pins σ H s → RelV x v → Vals xs us → r x xs H Q →
    wpAny (model X.prog X.w) X.A (call (.builtin id) (v :: us)) (EP X pins σ Q) X.xe s
theorem Vals.one : ∀ {x : V} {us : List Value}, Vals [x] us → ∃ u, us = [u] ∧ RelV x u
  | _, _, .cons r .nil => ⟨_, rfl, r⟩
theorem Vals.zero : ∀ {us : List Value}, Vals [] us → us = []
  | _, .nil => rfl
theorem Vals.eraseIdx : ∀ {xs : List V} {us : List Value} (i : Nat), Vals xs us → Vals (xs.eraseIdx i) (us.eraseIdx i)
  | _, _, _, .nil => .nil
  | _, _, 0, .cons _ t => t
  | _, _, i + 1, .cons r t => .cons r (Vals.eraseIdx i t)
theorem Vals.reverse {xs : List V} {us : List Value} (h : Vals xs us) : Vals xs.reverse us.reverse := by
  induction h with
  | nil => exact .nil
  | cons r t ih => rw [List.reverse_cons, List.reverse_cons]; exact Vals.append ih (.cons r .nil)
theorem Vals.rep {xs : List V} {us : List Value} (h : Vals xs us) : ∀ k : Nat, Vals (List.replicate k xs).flatten (List.replicate k us).flatten
  | 0 => .nil
  | k + 1 => by
    rw [List.replicate_succ, List.replicate_succ, List.flatten_cons, List.flatten_cons]
    exact Vals.append h (Vals.rep h k)
theorem foldl_rep (its : List Value) : ∀ (k : Nat) (acc : List Value),
    List.foldl (fun x1 x2 => x1 ++ x2) acc.toArray (List.replicate k its.toArray) = (acc ++ (List.replicate k its).flatten).toArray
  | 0, acc => by simp
  | k + 1, acc => by
    have e : acc.toArray ++ its.toArray = (acc ++ its).toArray := by simp
    have e2 : (acc ++ its) ++ (List.replicate k its).flatten = acc ++ (List.replicate (k + 1) its).flatten := by
      rw [List.replicate_succ, List.flatten_cons, List.append_assoc]
    rw [← e2, ← foldl_rep its k (acc ++ its), ← e, List.replicate_succ, List.foldl_cons]
section
variable {X : Cx} {pins : List (Addr × Obj)} {σ : St} {H : Hp} {s : Shared} {l b : Addr} {xs ys zs : List V}
theorem Inv.lset {its its' : List Value} {n : Nat} {f : Array Value → Array Value} {t' : Nat} (I : Inv X pins σ H s) (hH : H l = some (.lst xs))
    (e : s.heap.get? l = some { cls := .type "list", data := .seq its.toArray n }) (hf : f its.toArray = its'.toArray) (hv : Vals ys its') (hz : ys.length ≤ sizeLine) :
    Inv X pins σ (upd H l (.lst ys)) { s with heap := s.heap.update l (Obj.mapSeq f), toks := t' } := by
  have q := PySem.IsL.update e f
  rw [hf] at q
  refine I.write (x := l) (e := l) (by rw [hH]; exact trivial) (.inl rfl) (fun b' u hb hu => (Heap.get?_update_other s.heap (Obj.mapSeq f) (Ne.symm hb)).trans hu) ⟨_, q⟩ ?_
  exact ⟨hz, its', _, hv, q⟩
theorem Inv.lnew {its : List Value} {t' : Nat} (I : Inv X pins σ H s) (hv : Vals ys its) (hz : ys.length ≤ sizeLine) :
    Inv X pins σ (upd H s.heap.objs.size (.lst ys)) { s with heap := s.heap.push { cls := .type "list", data := .seq its.toArray }, toks := t' } :=
  I.laid (fun _ _ q => Heap.get?_push_of_some _ q) (Nat.le_refl _) ⟨hz, its, 0, hv, Heap.get?_push_size _ rfl⟩
theorem Inv.fresh (I : Inv X pins σ H s) : H s.heap.objs.size = none := I.hok.fresh (Nat.le_refl _)
theorem Inv.lstM (I : Inv X pins σ H s) (hH : H l = some (.lst xs)) : xs.length ≤ sizeLine ∧ ∃ (its : List Value) (n : Nat), Vals xs its ∧ xs.length = its.length ∧ s.heap.get? l = some { cls := .type "list", data := .seq its.toArray n } := by
  obtain ⟨z, its, n, r, e⟩ := I.hok l _ hH
  exact ⟨z, its, n, r, r.length, e⟩
end
section
variable {X : Cx}
noncomputable def rAppend : V → List V → Hp → VK → Prop := fun x vs H Q => ∃ l xs y, x = .ref l ∧ vs = [y] ∧ H l = some (.lst xs) ∧ xs.length < sizeLine ∧ Q .non (upd H l (.lst (xs ++ [y])))
theorem mt_append : MtM X "list.append" rAppend := by
  intro pins s σ H x vs v us Q I rx rv h
  obtain ⟨l, xs, y, rfl, rfl, hH, hz, q⟩ := h
  cases rx
  obtain ⟨u, rfl, ru⟩ := rv.one
  obtain ⟨z, its, n, r, hl, e⟩ := I.lstM hH
  refine call_meets F.slot_list_append ⟨_, e, rfl⟩ F.entry_list_append (F.args_list_append_2 _ _) (PySem.list_append l its.toArray n u (by rw [List.size_toArray]; omega)) ⟨e, ?_⟩
  refine ⟨.non, _, I.lset (its' := its ++ [u]) hH e (by simp) (r.append (.cons ru .nil)) ?_, rfl, q⟩
  rw [List.length_append, List.length_singleton]
  omega
noncomputable def rCat : R2 := fun x y H Q => ∃ l b xs zs, x = .ref l ∧ y = .ref b ∧ H l = some (.lst xs) ∧ H b = some (.lst zs) ∧ xs.length + zs.length ≤ sizeLine ∧ ∀ p, H p = none → Q (.ref p) (upd H p (.lst (xs ++ zs)))
theorem op_cat : OpR X (binaryOp .Add) rCat := by
  intro pins s σ H x y v u Q I rx ry h
  obtain ⟨l, b, xs, zs, rfl, rfl, hH, hB, hz, q⟩ := h
  cases rx
  cases ry
  obtain ⟨z, its, n, r, hl, e⟩ := I.lstM hH
  obtain ⟨z2, its2, n2, r2, hl2, e2⟩ := I.lstM hB
  refine PySem.P.add_list e e2 ?_ (by rw [List.size_toArray, List.size_toArray]; omega)
  have ea : its.toArray ++ its2.toArray = (its ++ its2).toArray := by simp
  rw [ea]
  exact ⟨.ref _, _, I.lnew (t' := s.toks) (r.append r2) (by rw [List.length_append]; omega), rfl, q _ I.fresh⟩
theorem len_rep {α : Type} (xs : List α) (k : Nat) : (List.replicate k xs).flatten.length = k * xs.length := by
  induction k with
  | zero => simp
  | succ k ih => rw [List.replicate_succ, List.flatten_cons, List.length_append, ih, Nat.succ_mul, Nat.add_comm]
end
section
variable {prog : Program} {w : World} {A : Around} {E : Value → Shared → Prop} {s : Shared}
end
section
variable {X : Cx}
end
end L2
namespace Att
open PySem PySem.W PySem.Calls PyProof.Rows
theorem ints_of_wellAll {P : Params} {h : Heap} : ∀ (ns : List Int) (vs : List Value), WellAll P h vs (ns.map WData.int) → IntsAre vs ns := by
  intro ns
  induction ns with
  | nil =>
    intro vs w
    rw [List.map_nil] at w
    cases w
    exact .nil
  | cons n ns ih =>
    intro vs w
    rw [List.map_cons] at w
    cases w with
    | cons a b =>
      cases a
      exact .cons _ _ (ih _ b)
theorem script_of {l : OpenLaw} {n : Nat} (hn : l.most = some n) {P : Params} {h : Heap} {args : List WData} {vals : List Value}
    (hpre : l.row.toRowW.claim.pre args = true) (hwl : WellAll P h vals args) :
    ∃ a vs ns, vals = [Value.ref a] ∧ args = [WData.list (ns.map WData.int)] ∧ h.get? a = some { cls := .type "list", data := .seq vs.toArray } ∧ IntsAre vs ns ∧ ns.length ≤ n := by
  have hsh : WShape.hasAll [] args [.list .int] = true := (pre_splitW hpre).1
  have hc : l.pre.holds [] { args := args } = true := (pre_splitW hpre).2
  obtain ⟨d, r, rfl, h1, h2⟩ := hasAllW_cons hsh
  obtain rfl := hasAllW_nil h2
  obtain ⟨xs, rfl, h3⟩ := hasW_list h1
  obtain ⟨ns, rfl⟩ := items_int h3
  have hlen : ns.length ≤ n := by
    unfold OpenLaw.pre at hc
    have h4 : (WTm.not (.lt (.lit (.int (n : Int))) (.len (.arg 0)))).holds [] { args := [.list (ns.map .int)] } = true := by
      have h4 := (holds_andW hc).1
      rw [hn] at h4
      exact h4
    have h5 := condW_of h4 (w_not (w_lt w_lit (w_len_list (w_arg rfl))))
    rw [List.length_map] at h5
    refine Nat.le_of_not_lt fun q => ?_
    have q' : (n : Int) < ((ns.length : Nat) : Int) := by omega
    first
      | (rw [decide_eq_true q'] at h5; exact absurd h5 (by decide))
      | (simp at h5; omega)
  cases hwl with
  | cons w1 w2 =>
    cases w2
    cases w1 with
    | list ho hall => exact ⟨_, _, ns, rfl, rfl, ho, ints_of_wellAll ns _ hall, hlen⟩
theorem post_true (l : OpenLaw) (args : List WData) : l.row.toRowW.claim.post args (.bool true) args = true :=
  postW_of (r := l.row.toRowW) (X := (true == true))
    (show WShape.has [] (.bool true) .bool = true by first | rfl | decide | simp [WShape.has, WShape.arms, WShape.armsAll])
    (show (WTm.eq .res (.lit (.bool true))).value [] { args := args, res := some (.bool true), after := args } = some (.bool (true == true)) from w_eq_bool (w_res rfl) w_lit) rfl
section
variable {prog : Program} {w : World} {A : Around} {E : Value → Shared → Prop} {s : Shared} {K : Frag}
end
end Att
namespace L2
open PySem PySem.Spec PyProof.Rows
theorem vals_ints : ∀ {vs : List Value} {ns : List Int}, IntsAre vs ns → Vals (ns.map V.int) vs
  | _, _, .nil => .nil
  | _, _, .cons n t h => .cons ⟨t, rfl⟩ (vals_ints h)
noncomputable def Only (H : Hp) : Prop := ∀ b, H b = none ∨ ∃ o xs, H b = some (.frz o (.lst xs))
theorem law_call {P : Program} {w : World} {K : W.Frag} {mg mb : Str → Option Value} {CX : CXT} {k : Nat} {fa a : Addr} {fd : FuncData} {x : Str} {sp : Sp} {s₁ : Shared} {vs : List Value} {ns : List Int}
    (KX : K.In s₁.heap) (hns : s₁.heap.Ns mainGlobals mg) (hb : s₁.heap.Ns builtinsNs mb) (hbb : ∀ x : Str, x ≠ "__name__" → mb x = bootBuiltins x) (hlim : s₁.heap.NoLimit) (hg : s₁.gens = #[])
    (ha : s₁.heap.get? a = some { cls := .type "list", data := .seq vs.toArray }) (hi : IntsAre vs ns) (hl : ns.length ≤ sizeLine) (hr : Room k callerA)
    (F : ∀ base : Heap, K.In base → base.Ns mainGlobals mg → FnOk P w K mg base CX k fa fd [x] sp) (hbind : ∀ (s : Shared) (u : Value), BindsTo s fd ⟨[u], []⟩ [(x, u)])
    (hsp : ∀ H : Hp, Only H → SqL K H a (ns.map V.int) → sp [.ref a] H (fun v _ => v = .bl true) fun _ _ _ => False)
    (hCX : ∀ H e s', CX [] H s₁ (fun _ _ _ => False) e s' → False) :
    codeAny (model P w) callerA (.call (.ref fa) ⟨[.ref a], []⟩) (fun r s' => r = .ok (.ret (.bool true)) ∧ OldK s₁.heap s'.heap ∧ s'.os = s₁.os ∧ AllBare s'.gens) s₁ := by
  have rv := vals_ints hi
  have lenV := hi.length
  have core : ∀ H : Hp, Only H → SqL K H a (ns.map V.int) → HOk P w H s₁.heap → (∀ b, H b ≠ none → b = a) → (H a ≠ none → K.lookup a = none) →
      codeAny (model P w) callerA (.call (.ref fa) ⟨[.ref a], []⟩) (fun r s' => r = .ok (.ret (.bool true)) ∧ OldK s₁.heap s'.heap ∧ s'.os = s₁.os ∧ AllBare s'.gens) s₁ := by
    intro H hO hS hok hA hK
    have base_of : ∀ {b : Addr} {o : Obj}, s₁.heap.get? b = some o → H b = none → (hidT s₁.heap H).get? b = some o := fun e n => hidT_get e n
    have noA : ∀ {b : Addr} {o : Obj} {es : Array DictEntry} {ep : Nat}, s₁.heap.get? b = some o → o.data = .dict es ep → H b = none := fun {b o es ep} e d => by
      cases q : H b with
      | none => rfl
      | some u =>
        have e' : b = a := hA b (by rw [q]; simp)
        subst e'
        rw [ha] at e; cases e
        have d' : Data.seq vs.toArray _ = Data.dict es ep := d
        cases d'
    have nsK : ∀ {b : Addr} {m : Str → Option Value}, s₁.heap.Ns b m → (hidT s₁.heap H).Ns b m := fun {b m} ⟨o, es, ep, e, d, r⟩ => ⟨o, es, ep, base_of e (noA e d), d, r⟩
    have hKb : K.In (hidT s₁.heap H) := fun b o e => base_of (KX b o e) (by
      cases q : H b with
      | none => rfl
      | some u =>
        have e' : b = a := hA b (by rw [q]; simp)
        subst e'
        rw [hK (by rw [q]; simp)] at e; cases e)
    have hM : Mod K mg (hidT s₁.heap H) := ⟨hKb, nsK hns, ⟨mb, nsK hb, hbb⟩, let ⟨mc, h1, h2⟩ := hlim; ⟨mc, nsK h1, h2⟩⟩
    have e0 : Env0 P w K mg (hidT s₁.heap H) callerA [] s₁ H := ⟨rfl, hM, fun b o e => of_hidT e, Nat.le_of_eq (hidT_size _ _), trivial, fun b hb => absurd (show b ∈ ([] : List Addr) from hb) (by simp), hok, .of_eq hg, .inl rfl⟩
    refine codeAny_mono ((F _ hKb (nsK hns)).run callerA [] s₁ H ⟨[.ref a], []⟩ [.ref a] [.ref a] _ _ hr e0 (hbind s₁ (.ref a)) (.cons rfl .nil) (hsp H hO hS)) fun r s' h => ?_
    cases r with
    | error e => exact (hCX H e s' h).elim
    | ok fl =>
      cases fl with
      | next => exact False.elim h
      | brk => exact False.elim h
      | cont => exact False.elim h
      | ret u =>
        obtain ⟨v, H', os, bare, un, hok', r', q⟩ := h
        have q' : v = .bl true := q
        subst q'
        obtain rfl : u = Value.bool true := r'
        refine ⟨rfl, OldK.of_keep fun b o e => ?_, os, bare⟩
        cases q : H b with
        | none => exact un.keep b o e q (by intro z; exact absurd (show b ∈ ([] : List Addr) from z) (by simp)) (by simp)
        | some u =>
          rcases hO b with z | ⟨ob, xs, z⟩
          · rw [q] at z; cases z
          · have z2 := un.frzs b ob _ z
            obtain ⟨e1, _⟩ := hok b _ z
            obtain ⟨e2, _⟩ := hok' b _ z2
            rw [e] at e1; cases e1
            exact e2
  cases hk : K.lookup a with
  | some o =>
    have e := KX a o hk
    rw [ha] at e
    cases e
    refine core (fun _ => none) (fun _ => .inl rfl) (.inr ⟨_, vs.toArray, _, hk, rfl, rfl, rfl, by rw [List.size_toArray, lenV]; exact hl, by simpa using rv⟩) (fun b u z => by have z' : (none : Option HO) = some u := z; cases z') (fun b z => absurd rfl z) fun z => absurd rfl z
  | none =>
    refine core (fun b => if b = a then some (.frz { cls := .type "list", data := .seq vs.toArray } (.lst (ns.map V.int))) else none) (fun b => ?_) (.inl (.inr ⟨{ cls := .type "list", data := .seq vs.toArray }, if_pos rfl⟩)) (fun b u z => ?_) (fun b z => ?_) fun _ => hk
    · by_cases hb : b = a
      · exact .inr ⟨_, _, if_pos hb⟩
      · exact .inl (if_neg hb)
    · by_cases hb : b = a
      · have z' := (if_pos hb).symm.trans z
        cases z'
        subst hb
        exact ⟨ha, by rw [List.length_map]; exact hl, vs, _, rv, ha⟩
      · have z' := (if_neg hb).symm.trans z
        cases z'
    · by_cases hb : b = a
      · exact hb
      · exact absurd (if_neg hb) z
end L2
namespace L2
open PySem PySem.Spec PyProof.Rows
end L2
namespace L2
open PySem PySem.Spec PyProof.Rows
noncomputable def defArgs (s : Stmt) : Arguments := match s with
  | .FunctionDef _ a _ _ _ _ _ _ _ _ => a
  | _ => { posonlyargs := [], args := [], vararg := none, kwonlyargs := [], kw_defaults := [], kwarg := none, defaults := [] }
noncomputable def defBody (s : Stmt) : List Stmt := match s with
  | .FunctionDef _ _ b _ _ _ _ _ _ _ => b
  | _ => []
noncomputable def defScope (s : Stmt) : Scope := match s with
  | .FunctionDef _ _ _ _ _ _ sc _ _ _ => sc
  | _ => { kind := .function, names := [], isGenerator := false, isCoroutine := false }
noncomputable abbrev CX0 : CXT := fun _ _ _ _ _ _ => False
noncomputable abbrev E0 : XK := fun _ _ _ => False
theorem pass0 {X : Cx} : Passes CX0 X E0 := fun _ _ _ _ _ _ _ h => h.elim
structure Fun (K : W.Frag) (x qual : Str) (st : Stmt) (f : Addr) (fd : FuncData) : Prop where
  ex : ∃ (oc : Value) (od : Option Addr) (kV doc pm : Value) (an : Option Addr) (cdv ct : Value) (osl : Array (Option Value)),
    fd = W.fnOf x qual (defArgs st) (defBody st) (defScope st) .none kV doc pm an cdv ct ∧ K.lookup f = some ⟨oc, od, .func fd, osl⟩ ∧ W.codeIn K cdv qual = true
  kp : W.keepIn K (.ref f) = true
section
variable {P : Program} {w : World} {K : W.Frag} {mg : Str → Option Value} {base : Heap}
theorem Fun.ok {x qual : Str} {st : Stmt} {f : Addr} {fd : FuncData} {N ps : List Str} {k : Nat} {sp : Sp} (F : Fun K x qual st f fd) (S : FnScope N ps (defScope st)) (len : ∀ vs H Q E, sp vs H Q E → vs.length = ps.length)
    (hbody : ∀ (cdv : Value) (A : Around) (outer : List Env) (s : Shared) (H : Hp) (vs : List V) (Q : VK) (E : XK), Room k (A.deeper (envOfC qual (defScope st) s.heap.objs.size f cdv)) → sp vs H Q E →
      ∃ t, PSs (cxOf CX0 P w K mg base N qual (defScope st) f cdv A outer s H E).nox (defBody st) t ∧ t { nx := fun _ H' => Q .non H', rt := Q } (start N vs) H) : FnOk P w K mg base CX0 (k + 1) f fd ps sp := by
  obtain ⟨oc, od, kV, doc, pm, an, cdv, ct, osl, rfl, lk, hcd⟩ := F.ex
  refine fn_of lk hcd S len fun A outer s H vs Q E hr hsp => ?_
  obtain ⟨t, h, q⟩ := hbody cdv A outer s H vs Q E hr hsp
  exact ⟨t, h.nox, q⟩
theorem Fun.binds {x qual : Str} {st : Stmt} {f : Addr} {fd : FuncData} {ps : List Str} (F : Fun K x qual st f fd)
    (h : ∀ (kV doc pm : Value) (an : Option Addr) (cdv ct : Value) (us : List Value), us.length = ps.length → bindArgs (W.fnOf x qual (defArgs st) (defBody st) (defScope st) .none kV doc pm an cdv ct) ⟨us, []⟩ = pure (ps.zip us)) : Binds K fd ps [] := by
  obtain ⟨oc, od, kV, doc, pm, an, cdv, ct, osl, rfl, lk, hcd⟩ := F.ex
  exact .all (h kV doc pm an cdv ct)
theorem fun_mk {x qual : Str} {st : Stmt} {f : Addr} {oc : Value} {od an : Option Addr} {osl : Array (Option Value)} {kV doc pm cdv ct : Value} (l : K.lookup f = some ⟨oc, od, .func (W.fnOf x qual (defArgs st) (defBody st) (defScope st) .none kV doc pm an cdv ct), osl⟩)
    (c : W.codeIn K cdv qual = true) (k : W.keepIn K (.ref f) = true) : Fun K x qual st f (W.fnOf x qual (defArgs st) (defBody st) (defScope st) .none kV doc pm an cdv ct) := ⟨⟨oc, od, kV, doc, pm, an, cdv, ct, osl, rfl, l, c⟩, k⟩
end
section
variable {X : Cx}
theorem pv (i : Nat) {x : Str} {pos : Pos} (hN : X.N[i]? = some x := by rfl) (hv : Vis X.env.scope x := by first | exact Or.inl rfl | exact Or.inr (Or.inl rfl) | exact Or.inr (Or.inr rfl)) (hd : (x == ("__debug__" : Str)) = false := by decide)
    (hcd : (x == ("__classdict__" : Str)) = false := by decide) : PE X (.Name x pos) (tVar i) := pe_var hN hv hd hcd
end
theorem iteF {A B : Prop} (h : B) : if false = true then A else B := by
  rw [if_neg Bool.false_ne_true]
  exact h
theorem iteT {A B : Prop} (h : A) : if true = true then A else B := by
  rw [if_pos rfl]
  exact h
noncomputable def Same (H H' : Hp) : Prop := ∀ b o, H b = some o → H' b = some o
theorem Same.refl (H : Hp) : Same H H := fun _ _ h => h
theorem Same.trans {H H1 H2 : Hp} (a : Same H H1) (b : Same H1 H2) : Same H H2 := fun c o h => b c o (a c o h)
theorem Same.free {H H' : Hp} (e : Same H H') {l : Addr} (h : H' l = Option.none) : H l = Option.none := by
  cases q : H l with
  | none => rfl
  | some o =>
    rw [e l o q] at h
    cases h
theorem Same.seq {K : W.Frag} {H H' : Hp} {a : Addr} {xs : List V} (e : Same H H') (h : SqL K H a xs) : SqL K H' a xs := by
  rcases h with (h | ⟨o, h⟩) | h
  · exact .inl (.inl (e _ _ h))
  · exact .inl (.inr ⟨o, e _ _ h⟩)
  · exact .inr h
end L2
section
set_option maxHeartbeats 4000000
namespace L2
open PySem PySem.Spec PyProof.Rows
noncomputable def closOf (cells : List (Str × Addr)) : List (Str × NameKind) → List (Str × Addr) → List (Str × Addr)
  | [], acc => acc
  | (n, k) :: r, acc => if k == .free then closOf cells r ((n, (cells.lookup n).getD 0) :: acc) else closOf cells r acc
theorem closureFor_eq {scope : Scope} {env : Env} (h : ∀ x ∈ scope.names, x.2 = .free → ∃ c, env.cells.lookup x.1 = some c) : closureFor scope env = pure (closOf env.cells scope.names []) := by
  simp only [closureFor]
  generalize hn : scope.names = names at h
  clear hn
  generalize hacc : ([] : List (Str × Addr)) = acc
  clear hacc
  have key : ∀ (names : List (Str × NameKind)) (acc : List (Str × Addr)), (∀ x ∈ names, x.2 = .free → ∃ c, env.cells.lookup x.1 = some c) →
      (forIn (m := Sem) names acc fun (x : Str × NameKind) (r : List (Str × Addr)) => (match x with
        | (name, kind) => if (kind == NameKind.free) = true then do
            let a ← cellOf env name
            pure (ForInStep.yield ((name, a) :: r))
          else pure (ForInStep.yield r))) = pure (closOf env.cells names acc) := by
    intro names
    induction names with
    | nil => intro acc _; rfl
    | cons x r ih =>
      intro acc h
      obtain ⟨n, k⟩ := x
      rw [List.forIn_cons]
      unfold closOf
      by_cases hk : (k == NameKind.free) = true
      · simp only [hk, if_true]
        obtain ⟨c, hc⟩ := h (n, k) List.mem_cons_self (by simpa using hk)
        have e : cellOf env n = pure c := by unfold cellOf; rw [show env.cells.lookup n = some c from hc]
        rw [e, show (env.cells.lookup n).getD 0 = c by rw [show env.cells.lookup n = some c from hc]; rfl]
        exact ih _ fun y hy => h y (List.mem_cons_of_mem _ hy)
      · simp only [hk, if_false]
        exact ih _ fun y hy => h y (List.mem_cons_of_mem _ hy)
  have k := key names acc h
  refine Eq.trans (congrArg (fun (z : Sem (List (Str × Addr))) => z >>= fun r => pure r) k) ?_
  rfl
theorem closOf_mem {cells : List (Str × Addr)} : ∀ {names : List (Str × NameKind)} {acc : List (Str × Addr)} {n : Str} {c : Addr}, (n, c) ∈ closOf cells names acc →
    (n, c) ∈ acc ∨ ((n, NameKind.free) ∈ names ∧ c = (cells.lookup n).getD 0)
  | [], _, _, _, h => .inl h
  | (y, k) :: r, acc, n, c, h => by
    unfold closOf at h
    by_cases hk : (k == NameKind.free) = true
    · rw [if_pos hk] at h
      have ek : k = .free := by simpa using hk
      subst ek
      rcases closOf_mem h with h | ⟨h1, h2⟩
      · rcases List.mem_cons.mp h with e | h
        · cases e
          exact .inr ⟨List.mem_cons_self, rfl⟩
        · exact .inl h
      · exact .inr ⟨List.mem_cons_of_mem _ h1, h2⟩
    · rw [if_neg hk] at h
      rcases closOf_mem h with h | ⟨h1, h2⟩
      · exact .inl h
      · exact .inr ⟨List.mem_cons_of_mem _ h1, h2⟩
theorem closOf_keep {cells : List (Str × Addr)} {x : Str} {c : Addr} (hc : cells.lookup x = some c) : ∀ (names : List (Str × NameKind)) (acc : List (Str × Addr)), ((x, NameKind.free) ∈ names ∨ acc.lookup x = some c) → (closOf cells names acc).lookup x = some c
  | [], acc, h => h.elim (fun z => nomatch z) id
  | (y, k) :: r, acc, h => by
    unfold closOf
    by_cases hk : (k == NameKind.free) = true
    · rw [if_pos hk]
      refine closOf_keep hc r _ ?_
      by_cases hy : x = y
      · subst hy
        exact .inr (by rw [List.lookup_cons, beq_self_eq_true, hc]; rfl)
      · rcases h with h | h
        · rcases List.mem_cons.mp h with e | h
          · cases e; exact absurd rfl hy
          · exact .inl h
        · refine .inr ?_
          rw [List.lookup_cons, show (x == y) = false by simpa using hy]
          exact h
    · rw [if_neg hk]
      refine closOf_keep hc r _ ?_
      rcases h with h | h
      · rcases List.mem_cons.mp h with e | h
        · cases e; exact absurd rfl hk
        · exact .inl h
      · exact .inr h
theorem cellsFrom_mem : ∀ {names : List (Str × NameKind)} {n : Nat} {acc : List (Str × Addr)} {x : Str} {c : Addr}, (x, c) ∈ cellsFrom n names acc → (x, c) ∈ acc ∨ (n ≤ c ∧ (x, NameKind.cell) ∈ names)
  | [], _, _, _, _, h => .inl h
  | (y, k) :: r, n, acc, x, c, h => by
    unfold cellsFrom at h
    by_cases hk : (k == NameKind.cell) = true
    · rw [if_pos hk] at h
      have ek : k = .cell := by simpa using hk
      subst ek
      rcases cellsFrom_mem h with h | ⟨h, h'⟩
      · rcases List.mem_cons.mp h with e | h
        · cases e; exact .inr ⟨Nat.le_refl _, List.mem_cons_self⟩
        · exact .inl h
      · exact .inr ⟨Nat.le_of_succ_le h, List.mem_cons_of_mem _ h'⟩
    · rw [if_neg hk] at h
      rcases cellsFrom_mem h with h | ⟨h, h'⟩
      · exact .inl h
      · exact .inr ⟨h, List.mem_cons_of_mem _ h'⟩
theorem cellsFrom_outer {x : Str} {c : Addr} : ∀ (names : List (Str × NameKind)) (n : Nat) (acc : List (Str × Addr)), (x, NameKind.cell) ∉ names → acc.lookup x = some c → (cellsFrom n names acc).lookup x = some c
  | [], _, _, _, h => h
  | (y, k) :: r, n, acc, hn, h => by
    unfold cellsFrom
    by_cases hk : (k == NameKind.cell) = true
    · rw [if_pos hk]
      have ek : k = .cell := by simpa using hk
      subst ek
      refine cellsFrom_outer r _ _ (fun z => hn (List.mem_cons_of_mem _ z)) ?_
      have hy : x ≠ y := fun e => hn (by rw [e]; exact List.mem_cons_self)
      rw [List.lookup_cons, show (x == y) = false by simpa using hy]
      exact h
    · rw [if_neg hk]
      exact cellsFrom_outer r _ _ (fun z => hn (List.mem_cons_of_mem _ z)) h
theorem cellsFrom_apart : ∀ (names : List (Str × NameKind)) (n : Nat) (acc : List (Str × Addr)), (∀ x c, (x, c) ∈ acc → c < n) → (acc.Pairwise fun x y => x.2 ≠ y.2) → (cellsFrom n names acc).Pairwise fun x y => x.2 ≠ y.2
  | [], _, _, _, h => h
  | (y, k) :: r, n, acc, hlt, h => by
    unfold cellsFrom
    by_cases hk : (k == NameKind.cell) = true
    · rw [if_pos hk]
      refine cellsFrom_apart r (n + 1) _ (fun x c hm => ?_) (List.pairwise_cons.mpr ⟨fun z hz e => ?_, h⟩)
      · rcases List.mem_cons.mp hm with e | hm
        · cases e; exact Nat.lt_succ_self _
        · exact Nat.lt_succ_of_lt (hlt x c hm)
      · have := hlt z.1 z.2 hz
        have e' : n = z.2 := e
        exact Nat.lt_irrefl _ (e' ▸ this)
    · rw [if_neg hk]
      exact cellsFrom_apart r n acc hlt h
noncomputable def bEnv (env : Env) (scope : Scope) (C : Addr) : Env :=
  { scope := relabel scope env, locals := C, globals := env.globals, cells := cellsFrom (C + 1) scope.names (closOf env.cells scope.names []), qual := env.qual, func := none, code := env.code, frame := env.frame, builtins := env.builtins }
section
variable {M : Model} {A : Around} {E : Value → Shared → Prop} {s : Shared}
theorem wpAny_blockEnv {scope : Scope} {env : Env} {cl : List (Str × Addr)} {Q : Env → Shared → Prop}
    (hQ : ∀ h', (∀ b o, s.heap.get? b = some o → h'.get? b = some o) → h'.Ns s.heap.objs.size (fun _ => none) → (∀ x c, (x, NameKind.cell) ∈ scope.names → (x, c) ∈ cellsFrom (s.heap.objs.size + 1) scope.names cl → (x, c) ∉ cl → h'.IsCell c none) →
      Q { scope, locals := s.heap.objs.size, globals := env.globals, cells := cellsFrom (s.heap.objs.size + 1) scope.names cl, qual := env.qual, func := none, code := env.code, frame := env.frame, builtins := env.builtins } { s with heap := h' }) :
    wpAny M A (newFunctionEnv scope env.globals cl [] env.qual none .none (some env)) Q E s := by
  simp only [newFunctionEnv, Option.isSome_some, if_true]
  refine wpAny_bind (wpAny_alloc ?_)
  refine wpAny_bind (wpAny_layCells _ (fun name kind cells => by cases hkc : kind == NameKind.cell <;> simp [hkc]) _ _ _ _ ?_)
  simp only [List.forIn_nil]
  refine wpAny_bind (wpAny_pure (wpAny_pure ?_))
  rw [show ({ s with heap := s.heap.push { cls := .type "dict", data := .dict #[] } } : Shared).heap.objs.size = s.heap.objs.size + 1 from Heap.size_push ..]
  have key : ∀ (names : List (Str × NameKind)) (h : Heap) (acc : List (Str × Addr)) (x : Str) (c : Addr), (x, c) ∈ cellsFrom h.objs.size names acc → (x, c) ∉ acc → (pushCells h names).IsCell c none := by
    intro names
    induction names with
    | nil => intro h acc x c hm hn; exact absurd hm hn
    | cons y r ih =>
      intro h acc x c hm hn
      obtain ⟨n, k⟩ := y
      unfold cellsFrom at hm
      unfold pushCells
      by_cases hk : (k == NameKind.cell) = true
      · rw [if_pos hk] at hm ⊢
        by_cases hin : (x, c) ∈ ((n, h.objs.size) :: acc)
        · rcases List.mem_cons.mp hin with e | e
          · cases e
            exact ⟨_, pushCells_keeps _ _ _ _ (Heap.get?_push_size _ rfl), rfl⟩
          · exact absurd e hn
        · refine ih (h.push { cls := .type "cell", data := .cell none }) ((n, h.objs.size) :: acc) x c ?_ hin
          rw [Heap.size_push]
          exact hm
      · rw [if_neg hk] at hm ⊢
        exact ih h acc x c hm hn
  refine hQ _ (fun b o e => pushCells_keeps _ _ b o (Heap.get?_push_of_some _ e)) ((Heap.Ns.new s.heap (.type "dict")).keeps (pushCells_keeps _ _)) fun x c _ hm hn => ?_
  refine key scope.names _ cl x c ?_ hn
  rw [Heap.size_push]
  exact hm
end
end L2
end
section
set_option maxHeartbeats 4000000
namespace L2
open PySem PySem.Spec PyProof.Rows
section
variable {prog : Program} {w : World} {A : Around} {E : Value → Shared → Prop} {R : Result → Shared → Prop} {s : Shared}
theorem compLoop_any {elt target iter : Expr} {ifs : List Expr} {scope : Scope} {pos : Pos} {it acc : Value} {env : Env} (I : Nat → Shared → Prop)
    (turn : ∀ n s, I n s → wpAny (model prog w) A (pyNext it) (fun r s₁ => match r with
      | none => R (.ok .next) s₁
      | some v => wpAny (model prog w) A (letOwnedTupleGo target it v) (fun _ s₁' => wpAny (model prog w) A (assign target env v) (fun _ s₂ =>
          wpAny (model prog w) A (forIn ifs true fun c r => if r = true then do let ok ← isTrue c env (eval c env); pure (ForInStep.yield ok) else pure (ForInStep.yield r)) (fun ok s₃ =>
            if ok = true then wpAny (model prog w) A (eval elt env) (fun x s₄ =>
              wpAny (model prog w) A (call (.builtin "list.append") [acc, x]) (fun _ s₅ => ∃ m, m < n ∧ I m s₅) (fun _ _ => False) s₄) (fun _ _ => False) s₃
            else ∃ m, m < n ∧ I m s₃) (fun _ _ => False) s₂) (fun _ _ => False) s₁') (fun _ _ => False) s₁) (fun _ _ => False) s)
    (n : Nat) (h : I n s) :
    codeAny (model prog w) A (.compLoop (.ListComp elt [⟨target, iter, ifs, 0⟩] scope pos) 0 it acc env) R s := by
  refine codeAny_loop rfl I (fun n s hI => ?_) n h
  show wpAny _ A ((compTurn (.ListComp elt [⟨target, iter, ifs, 0⟩] scope pos) 0 it acc env).onRaise (fun x => do noteFrame x env; theTreesLotGoes x)) _ _ s
  refine wpAny_noted ?_
  rw [compTurn_list]
  refine wpAny_bind (wpAny_standAt (wpAny_bind (wpAny_mono (turn n s hI) (fun r s₁ h₁ => ?_) fun _ _ h' => h'.elim)))
  cases r with
  | none => exact wpAny_pure h₁
  | some v =>
    refine wpAny_bind (wpAny_mono h₁ (fun _ s₁' h₁' => ?_) fun _ _ h' => h'.elim)
    refine wpAny_bind (wpAny_mono h₁' (fun _ s₂ h₂ => wpAny_bind (wpAny_mono h₂ (fun ok s₃ h₃ => ?_) fun _ _ h' => h'.elim)) fun _ _ h' => h'.elim)
    cases ok with
    | false => exact wpAny_pure ⟨rfl, h₃⟩
    | true =>
      exact wpAny_bind (wpAny_bind (wpAny_mono h₃ (fun x s₄ h₄ => wpAny_bind (wpAny_mono h₄ (fun _ s₅ h₅ => wpAny_pure (wpAny_pure ⟨rfl, h₅⟩)) fun _ _ h' => h'.elim)) fun _ _ h' => h'.elim))
end
noncomputable abbrev cxB (X : Cx) (scope : Scope) (N : List Str) (s : Shared) (H : Hp) (fp : List Addr) : Cx :=
  { prog := X.prog, w := X.w, K := X.K, mg := X.mg, base := X.base, A := X.A, N := N, s₀ := s, H₀ := H, env := bEnv X.env scope s.heap.objs.size, outer := X.stack, stack := X.stack, ex := fp,
    fn := fun x => scope.names.lookup x == some .cell, calm := X.calm, pn := [], xe := fun _ _ => False }
noncomputable def bCheck (Xn : List (Str × NameKind)) (XN : List Str) (names : List (Str × NameKind)) (N : List Str) (src : List (Option Nat)) : Bool :=
  decide N.Nodup && decide (names.map (·.1)).Nodup && (src.length == N.length) &&
  names.all (fun x => x.2 != .local || names.lookup x.1 == some .local) &&
  names.all (fun x => x.2 != .cell || names.lookup x.1 == some .cell) &&
  names.all (fun x => x.2 != .free || Xn.lookup x.1 == some .cell || Xn.lookup x.1 == some .free) &&
  (N.zip src).all (fun p => match p.2 with
    | none => true
    | some i => XN[i]? == some p.1 && names.lookup p.1 == some .free)
structure BOk (X : Cx) (scope : Scope) (N : List Str) (src : List (Option Nat)) : Prop where
  kind : scope.kind = .function
  nd : N.Nodup
  keys : (scope.names.map (·.1)).Nodup
  len : src.length = N.length
  locs : ∀ x ∈ scope.names, x.2 = .local → scope.names.lookup x.1 = some .local
  cels : ∀ x ∈ scope.names, x.2 = .cell → scope.names.lookup x.1 = some .cell
  free : ∀ x ∈ scope.names, x.2 = .free → X.env.kindOf x.1 = some .cell ∨ X.env.kindOf x.1 = some .free
  src : ∀ (k i : Nat) (x : Str), src[k]? = some (some i) → N[k]? = some x → X.N[i]? = some x ∧ scope.names.lookup x = some .free
theorem BOk.of {X : Cx} {scope : Scope} {N : List Str} {src : List (Option Nat)} {Xn : List (Str × NameKind)} {XN : List Str} (hk : scope.kind = .function) (hX : X.env.scope.names = Xn) (hN : X.N = XN)
    (h : bCheck Xn XN scope.names N src = true) : BOk X scope N src := by
  unfold bCheck at h
  simp only [Bool.and_eq_true, decide_eq_true_eq, List.all_eq_true, beq_iff_eq] at h
  obtain ⟨⟨⟨⟨⟨⟨h1, h2⟩, h3⟩, h4⟩, h4'⟩, h5⟩, h6⟩ := h
  refine ⟨hk, h1, h2, h3, fun x hx e => ?_, fun x hx e => ?_, fun x hx e => ?_, fun k i x e1 e2 => ?_⟩
  · have := h4 x hx
    rw [e] at this
    simpa using this
  · have := h4' x hx
    rw [e] at this
    simpa using this
  · have := h5 x hx
    rw [e] at this
    unfold Env.kindOf
    rw [hX]
    simpa using this
  · have hm : (x, some i) ∈ N.zip src := by
      refine List.mem_iff_getElem?.mpr ⟨k, ?_⟩
      rw [List.getElem?_zip_eq_some]
      exact ⟨e2, e1⟩
    have := h6 _ hm
    dsimp only at this
    simp only [Bool.and_eq_true, beq_iff_eq] at this
    rw [hN]
    exact this
noncomputable def bStart (src : List (Option Nat)) (σ : St) : St := src.map fun o => o.bind fun i => (σ[i]?).join
theorem lookup_relabel {scope : Scope} {env : Env} {x : Str} : (relabel scope env).names.lookup x = (scope.names.lookup x).map fun k => if (k == .free && env.scope.kind == .function && env.kindOf x == some .cell) then .cell else k := by
  show List.lookup x (scope.names.map _) = _
  induction scope.names with
  | nil => rfl
  | cons y r ih =>
    obtain ⟨n, k⟩ := y
    rw [List.map_cons]
    dsimp only
    by_cases hx : x = n
    · subst hx
      by_cases hc : (k == NameKind.free && env.scope.kind == .function && env.kindOf x == some .cell) = true
      · rw [if_pos hc, List.lookup_cons, List.lookup_cons, beq_self_eq_true]
        dsimp only [Option.map]
        rw [if_pos hc]
      · rw [if_neg hc, List.lookup_cons, List.lookup_cons, beq_self_eq_true]
        dsimp only [Option.map]
        rw [if_neg hc]
    · have hb : (x == n) = false := by simpa using hx
      by_cases hc : (k == NameKind.free && env.scope.kind == .function && env.kindOf n == some .cell) = true
      · rw [if_pos hc, List.lookup_cons, List.lookup_cons, hb]
        exact ih
      · rw [if_neg hc, List.lookup_cons, List.lookup_cons, hb]
        exact ih
section
variable {X : Cx} {pins : List (Addr × Obj)} {σ : St} {H : Hp} {s : Shared} {scope : Scope} {N : List Str} {src : List (Option Nat)} {fp : List Addr}
theorem clos_in (I : Inv X pins σ H s) (B : BOk X scope N src) {x : Str} {c : Addr} (h : (x, c) ∈ closOf X.env.cells scope.names []) : X.env.cells.lookup x = some c ∧ (x, NameKind.free) ∈ scope.names := by
  rcases closOf_mem h with z | ⟨z, e⟩
  · exact nomatch z
  · obtain ⟨c', hc⟩ := I.ok.has x (B.free _ z rfl)
    rw [hc] at e
    exact ⟨by rw [hc, e]; rfl, z⟩
theorem names_one {l : List (Str × NameKind)} (h : (l.map (·.1)).Nodup) {x : Str} {j k : NameKind} (a : (x, j) ∈ l) (b : (x, k) ∈ l) : j = k := by
  induction l with
  | nil => exact nomatch a
  | cons y r ih =>
    obtain ⟨h1, h2⟩ := List.nodup_cons.mp (show (y.1 :: r.map (·.1)).Nodup from h)
    rcases List.mem_cons.mp a with e | a <;> rcases List.mem_cons.mp b with e' | b
    · rw [← e] at e'; cases e'; rfl
    · exact absurd (List.mem_map.mpr ⟨_, b, by rw [← e]⟩) h1
    · exact absurd (List.mem_map.mpr ⟨_, a, by rw [← e']⟩) h1
    · exact ih h2 a b
theorem clos_apart (I : Inv X pins σ H s) : ∀ (names : List (Str × NameKind)) (acc : List (Str × Addr)), (∀ x ∈ names, x.2 = .free → ∃ c, X.env.cells.lookup x.1 = some c) → (names.map (·.1)).Nodup → (∀ x c, (x, c) ∈ acc → X.env.cells.lookup x = some c ∧ x ∉ names.map (·.1)) →
    (acc.Pairwise fun x y => x.2 ≠ y.2) → (closOf X.env.cells names acc).Pairwise fun x y => x.2 ≠ y.2
  | [], _, _, _, _, h => h
  | (n, k) :: r, acc, hf, nd, ha, h => by
    unfold closOf
    obtain ⟨h1, h2⟩ := List.nodup_cons.mp (show (n :: r.map (·.1)).Nodup from nd)
    by_cases hk : (k == NameKind.free) = true
    · rw [if_pos hk]
      obtain ⟨c, hc⟩ := hf (n, k) List.mem_cons_self (by simpa using hk)
      have hc : X.env.cells.lookup n = some c := hc
      rw [show (X.env.cells.lookup n).getD 0 = c by rw [hc]; rfl]
      refine clos_apart I r _ (fun x hx => hf x (List.mem_cons_of_mem _ hx)) h2 (fun x c' hm => ?_) (List.pairwise_cons.mpr ⟨fun y hy e => ?_, h⟩)
      · rcases List.mem_cons.mp hm with e | hm
        · cases e; exact ⟨hc, h1⟩
        · exact ⟨(ha x c' hm).1, fun z => (ha x c' hm).2 (List.mem_cons_of_mem _ z)⟩
      · obtain ⟨q1, q2⟩ := ha y.1 y.2 hy
        have e' : c = y.2 := e
        rw [← e'] at q1
        have := I.ok.inj _ _ _ hc q1
        exact q2 (by rw [← this]; exact List.mem_cons_self)
    · rw [if_neg hk]
      exact clos_apart I r acc (fun x hx => hf x (List.mem_cons_of_mem _ hx)) h2 (fun x c' hm => ⟨(ha x c' hm).1, fun z => (ha x c' hm).2 (List.mem_cons_of_mem _ z)⟩) h
theorem inv_block (I : Inv X pins σ H s) (B : BOk X scope N src) (hf : ∀ b ∈ fp, FpOk X pins H b) (hfo : ∀ b ∈ fp, ∃ o, s.heap.get? b = some o) {h' : Heap} (hk : ∀ b o, s.heap.get? b = some o → h'.get? b = some o) (hns : h'.Ns s.heap.objs.size (fun _ => none))
    (hce : ∀ x c, (x, NameKind.cell) ∈ scope.names → (x, c) ∈ cellsFrom (s.heap.objs.size + 1) scope.names (closOf X.env.cells scope.names []) → (x, c) ∉ closOf X.env.cells scope.names [] → h'.IsCell c none) :
    Inv (cxB X scope N s H fp) [] (bStart src σ) H { s with heap := h' } := by
  have cin : ∀ {x : Str} {c : Addr}, (x, c) ∈ closOf X.env.cells scope.names [] → X.env.cells.lookup x = some c ∧ (x, NameKind.free) ∈ scope.names := fun h => clos_in I B h
  have old : ∀ {x : Str} {c : Addr}, X.env.cells.lookup x = some c → c < s.heap.objs.size := fun {x c} h => (let ⟨_, q⟩ := I.cell x c h; q.lt)
  have all : ∀ {x : Str} {c : Addr}, (x, c) ∈ cellsFrom (s.heap.objs.size + 1) scope.names (closOf X.env.cells scope.names []) → (X.env.cells.lookup x = some c ∧ (x, NameKind.free) ∈ scope.names) ∨ (s.heap.objs.size < c ∧ (x, NameKind.cell) ∈ scope.names) := fun {x c} h => by
    rcases cellsFrom_mem h with z | ⟨z, z'⟩
    · exact .inl (cin z)
    · exact .inr ⟨z, z'⟩
  have lk : ∀ {x : Str} {c : Addr}, (bEnv X.env scope s.heap.objs.size).cells.lookup x = some c → (x, c) ∈ cellsFrom (s.heap.objs.size + 1) scope.names (closOf X.env.cells scope.names []) := fun h => PySem.mem_of_lookup h
  have hasF : ∀ x ∈ scope.names, x.2 = .free → ∃ c, X.env.cells.lookup x.1 = some c := fun x hx e => I.ok.has x.1 (B.free x hx e)
  have ap : (cellsFrom (s.heap.objs.size + 1) scope.names (closOf X.env.cells scope.names [])).Pairwise fun x y => x.2 ≠ y.2 :=
    cellsFrom_apart _ _ _ (fun x c hm => Nat.lt_succ_of_lt (old (cin hm).1)) (clos_apart I scope.names [] hasF B.keys (fun _ _ z => nomatch z) .nil)
  have outer : ∀ {x : Str} {c : Addr}, (x, NameKind.free) ∈ scope.names → X.env.cells.lookup x = some c → (bEnv X.env scope s.heap.objs.size).cells.lookup x = some c := fun {x c} h1 h2 =>
    cellsFrom_outer _ _ _ (fun z => nomatch names_one B.keys h1 z) (closOf_keep h2 scope.names [] (.inl h1))
  have kinds : ∀ x, (bEnv X.env scope s.heap.objs.size).kindOf x = (scope.names.lookup x).map fun k => if (k == .free && X.env.scope.kind == .function && X.env.kindOf x == some .cell) then .cell else k := fun x => lookup_relabel
  have ckind : ∀ x, ((bEnv X.env scope s.heap.objs.size).kindOf x = some .cell ∨ (bEnv X.env scope s.heap.objs.size).kindOf x = some .free) → scope.names.lookup x = some .cell ∨ scope.names.lookup x = some .free := fun x h => by
    rw [kinds x] at h
    cases e : scope.names.lookup x with
    | none => rw [e] at h; simp at h
    | some k =>
      rw [e] at h
      cases k <;> simp at h ⊢
  refine ⟨⟨I.ok.mod, B.kind, I.ok.glob, I.ok.blt, Nat.le_refl _, fun x y c h1 h2 => name_of_addr ap (lk h1) (lk h2), fun x hx => ?_, fun x c hfn hx => ?_, I.ok.hd, I.handA, I.ok.frames, .inl rfl, fun b hb => ?_, I.bs, Nat.le_trans I.ok.bsz I.sz, fun b o e hb => ?_, fun b hb hb' => ?_, I.stack, I.stkFree⟩,
    rfl, I.bare, Un.kept hk, ⟨_, hns, fun i x v h1 h2 h3 => ?_⟩, fun x c h => ?_, I.hok.fresh (Nat.le_refl _), fun x c h => ?_, fun p hp => absurd (show p ∈ ([] : List (Addr × Obj)) from hp) (by simp), I.hok.kept hk, ?_⟩
  · -- has
    rcases ckind x hx with h | h
    · exact Option.isSome_iff_exists.mp (W.cellsFrom_some scope.names _ _ (.inl h))
    · have hm := PySem.mem_of_lookup h
      obtain ⟨c, hc⟩ := hasF _ hm rfl
      exact ⟨c, outer hm hc⟩
  · -- cab
    have hfn : scope.names.lookup x = some .cell := by simpa using hfn
    rcases all (lk hx) with ⟨_, z⟩ | ⟨z, _⟩
    · exact absurd (names_one B.keys z (PySem.mem_of_lookup hfn)) (by decide)
    · exact Nat.le_of_lt z
  · -- exf
    obtain ⟨o, ho⟩ := hfo b hb
    refine ⟨Nat.ne_of_lt (Heap.lt_size ho), fun x c hx z => ?_⟩
    rcases all (lk hx) with ⟨q, _⟩ | ⟨q, _⟩
    · exact (hf b hb).2.2.2.2.1 x c q z
    · have := Heap.lt_size ho
      rw [← z] at this
      exact Nat.lt_irrefl _ (Nat.lt_trans q this)
  · -- noex
    rcases (hf b hb).2.2.2.1 with z | z
    · exact I.ok.noex b o e z
    · exact Nat.lt_irrefl _ (Nat.lt_of_lt_of_le (Nat.lt_of_lt_of_le (Heap.lt_size e) I.ok.bsz) z)
  · -- exfs
    rcases List.mem_cons.mp (I.stkSub b hb') with z | z
    · exact (hf b hb).2.1 z
    · exact (hf b hb).2.2.1 z
  · -- loc
    unfold bStart at h2
    rw [List.getElem?_map] at h2
    cases e : src[i]? with
    | none => rw [e] at h2; cases h2
    | some o =>
      rw [e] at h2
      cases o with
      | none => cases h2
      | some j =>
        have h2 : (σ[j]?).join = some v := by simpa using h2
        have e3 : σ[j]? = some (some v) := by
          cases q : σ[j]? with
          | none => rw [q] at h2; cases h2
          | some z => rw [q] at h2; simp at h2; rw [h2]
        obtain ⟨b1, b2⟩ := B.src i j x e h1
        have hm := PySem.mem_of_lookup b2
        obtain ⟨m, hn, hl⟩ := I.loc
        have hfr := B.free _ hm rfl
        obtain ⟨u, r, l⟩ := hl j x v b1 e3 (.inr hfr)
        rcases l with ⟨k, _⟩ | ⟨k, c, hc, q⟩
        · rcases hfr with z | z <;> (have z' := k.symm.trans z; cases z')
        · refine ⟨u, r, .inr ⟨?_, c, outer hm hc, q.keeps hk⟩⟩
          rw [kinds x, b2]
          dsimp only [Option.map]
          split
          · exact .inl rfl
          · exact .inr rfl
  · -- cell
    rcases all (lk h) with ⟨q, _⟩ | ⟨q, q'⟩
    · obtain ⟨v, z⟩ := I.cell x c q
      exact ⟨v, z.keeps hk⟩
    · exact ⟨none, hce x c q' (lk h) fun z => absurd (Nat.lt_trans q (old (cin z).1)) (Nat.lt_irrefl _)⟩
  · -- freeC
    rcases all (lk h) with ⟨q, _⟩ | ⟨q, q'⟩
    · exact I.freeC x c q
    · exact I.hok.fresh (Nat.le_of_lt q)
  · unfold bStart
    rw [List.length_map]
    exact B.len
end
end L2
end
section
set_option maxHeartbeats 4000000
namespace L2
open PySem PySem.Spec PyProof.Rows
noncomputable def PCs (X : Cx) (ifs : List Expr) (t : TT) : Prop :=
  ∀ (pins : List (Addr × Obj)) (s : Shared) (σ : St) (H : Hp) (Q : Bool → Hp → Prop), Inv X pins σ H s → t σ H Q →
    wpAny (model X.prog X.w) X.A (forIn ifs true fun c r => if r = true then do let ok ← isTrue c X.env (eval c X.env); pure (ForInStep.yield ok) else pure (ForInStep.yield r)) (TP X pins σ Q) X.xe s
noncomputable def tAll : TT := fun _ H Q => Q true H
theorem pcs_nil {X : Cx} : PCs X [] tAll := fun pins s σ H Q I h => wpAny_tests_nil ⟨H, I, h⟩
theorem pcs_one {X : Cx} {c : Expr} {t : TT} (h : PT X c t) : PCs X [c] t := fun pins s σ H Q I hw => wpAny_tests_one (h pins s σ H Q I hw)
noncomputable def tBlk (J : It) (g : TG) (tc : TT) (te : TE) (σ0 : St) (H1 : Hp) (D : Addr) (Q : Hp → Prop) : Prop :=
  ∃ W : Nat → Nat → St → Hp → Prop, (∃ m, W 0 m σ0 (upd H1 D (.lst []))) ∧ ∀ i m σ' H', W i m σ' H' →
    (J.stop i H' ∧ Q H') ∨ (J.go i H' ∧ ∃ Nn : St → Hp → Prop, (∀ σ2 H2, Nn σ2 H2 → ∃ m', m' < m ∧ W (i + 1) m' σ2 H2) ∧ ∀ x H2, J.yld i H' x H2 → g x σ' H2 fun σ2 H3 => tc σ2 H3 fun b H4 =>
      if b = true then te σ2 H4 fun y H5 => ∃ xs, H5 D = some (.lst xs) ∧ xs.length < sizeLine ∧ Nn σ2 (upd H5 D (.lst (xs ++ [y]))) else Nn σ2 H4)
section
variable {X : Cx} {scope : Scope} {N : List Str} {src : List (Option Nat)} {tg iter elt : Expr} {ifs : List Expr} {pos : Pos}
theorem comp_run {pins : List (Addr × Obj)} {σ : St} {H : Hp} {s₂ : Shared} {it : Addr} {fp : List Addr} {tn : Nat → Heap → Prop} {J : It} {g : TG} {tc : TT} {te : TE} {Q : Addr → Hp → Prop} {E : Value → Shared → Prop} {RR : Value → Addr → Result → Shared → Prop}
    (B : BOk X scope N src)
    (hg : ∀ s H fp, PG (cxB X scope N s H fp) tg g) (ht : ∀ s H fp, PCs (cxB X scope N s H fp) ifs tc) (he : ∀ s H fp, PE (cxB X scope N s H fp) elt te)
    (I2 : Inv X pins σ H s₂) (T : Turn X.prog X.w X.K tg J fp it tn) (st2 : tn 0 s₂.heap) (f2 : ∀ b ∈ fp, FpOk X pins H b) (hw : ∀ D, H D = none → tBlk J g tc te (bStart src σ) H D (Q D))
    (hRR : ∀ D C H' s' m, Inv X pins σ H' s' → s'.heap.Ns C m → s₂.heap.objs.size ≤ C → C < s'.heap.objs.size → H' C = none → Q D H' → RR (.ref D) C (.ok .next) s') :
    wpAny (model X.prog X.w) X.A (newList []) (fun acc s₃ => wpAny (model X.prog X.w) X.A (newFunctionEnv scope X.env.globals (closOf X.env.cells scope.names []) [] X.env.qual none .none (some X.env)) (fun cenv s₄ =>
      codeAny (model X.prog X.w) X.A (.compStart (.ListComp elt [⟨tg, iter, ifs, 0⟩] scope pos) 0 (.ref it) acc { cenv with scope := relabel scope X.env }) (RR acc cenv.locals) s₄) E s₃) E s₂ := by
  refine wpAny_newObj_type (wpAny_blockEnv fun h₁ hk₁ hns₁ hce₁ => ?_)
  dsimp only at hk₁ hns₁ hce₁ ⊢
  have hfresh : H s₂.heap.objs.size = none := I2.hok.fresh (Nat.le_refl _)
  have I3 : Inv X pins σ (upd H s₂.heap.objs.size (.lst [])) { s₂ with heap := s₂.heap.push { cls := .type "list", dict := none, data := .seq ([] : List Value).toArray } } := by
    have := I2.lnew (its := []) (ys := []) (t' := s₂.toks) .nil (Nat.zero_le _)
    exact this
  obtain ⟨W, ⟨m0, w0⟩, turn⟩ := hw _ hfresh
  generalize hD : s₂.heap.objs.size = D at *
  generalize hs3 : ({ s₂ with heap := s₂.heap.push { cls := .type "list", dict := none, data := .seq ([] : List Value).toArray } } : Shared) = s₃ at *
  have hh3 : s₂.heap.push { cls := .type "list", dict := none, data := .seq ([] : List Value).toArray } = s₃.heap := by rw [← hs3]
  rw [hh3] at hk₁ hns₁ hce₁ ⊢
  have push3 : ∀ b o, s₂.heap.get? b = some o → s₃.heap.get? b = some o := fun b o e => by rw [← hs3]; exact Heap.get?_push_of_some _ e
  have sz3 : s₃.heap.objs.size = D + 1 := by rw [← hs3, ← hD]; exact Heap.size_push ..
  have fpo : ∀ b ∈ fp, ∃ o, s₂.heap.get? b = some o ∧ ∀ v, o.data ≠ .cell v := T.obj _ _ st2
  have fpD : ∀ b ∈ fp, b ≠ D := fun b hb z => by
    obtain ⟨o, e, _⟩ := fpo b hb
    have := Heap.lt_size e
    rw [z, ← hD] at this
    exact Nat.lt_irrefl _ this
  have f3 : ∀ b ∈ fp, FpOk X pins (upd H D (.lst [])) b := fun b hb => ⟨by rw [upd_ne (fpD b hb)]; exact (f2 b hb).1, (f2 b hb).2⟩
  have I4 : Inv (cxB X scope N s₃ (upd H D (.lst [])) fp) [] (bStart src σ) (upd H D (.lst [])) { s₃ with heap := h₁ } :=
    inv_block I3 B f3 (fun b hb => let ⟨o, e, _⟩ := fpo b hb; ⟨o, push3 b o e⟩) hk₁ hns₁ hce₁
  have fB : ∀ {H' : Hp}, (∀ b ∈ fp, H' b = none) → ∀ b ∈ fp, FpOk (cxB X scope N s₃ (upd H D (.lst [])) fp) [] H' b := fun {H'} hn b hb =>
    ⟨hn b hb, (I4.ok.exf b hb).1, I4.ok.exfs b hb, .inl hb, fun x c e => (I4.ok.exf b hb).2 x c e, fun p hp => absurd (show p ∈ ([] : List (Addr × Obj)) from hp) (by simp)⟩
  have stat4 : ∀ s', s' = ({ s₃ with heap := h₁ } : Shared) → codeAny (model X.prog X.w) X.A (.compLoop (.ListComp elt [⟨tg, iter, ifs, 0⟩] scope pos) 0 (.ref it) (.ref D) (bEnv X.env scope s₃.heap.objs.size)) (RR (.ref D) s₃.heap.objs.size) s' := by
    intro s' es
    refine compLoop_any (fun n s' => ∃ i σ' H', Inv (cxB X scope N s₃ (upd H D (.lst [])) fp) [] σ' H' s' ∧ tn i s'.heap ∧ (∀ b ∈ fp, H' b = none) ∧ W i n σ' H') ?_ m0 ⟨0, _, _, by rw [es]; exact I4, by rw [es]; exact T.keep _ _ _ st2 fun b hb o e => hk₁ b o (push3 b o e), fun b hb => (f3 b hb).1, w0⟩
    rintro n s5 ⟨i, σ5, H5, I5, st5, fr5, w5⟩
    rcases turn i n σ5 H5 w5 with ⟨stop, qn⟩ | ⟨go, Nn, hN, step⟩
    · refine thn (T.done (cxB X scope N s₃ (upd H D (.lst [])) fp) rfl rfl rfl i [] s5 σ5 H5 _ I5 (fB fr5) st5 stop) fun r s6 ⟨hr, I6⟩ => ?_
      subst hr
      obtain ⟨m, hnC, _⟩ := I6.loc
      have un := I6.base
      have u2 : Un (frs X.stack) fp H H5 s₂.heap s6.heap := by
        refine Un.trans ?_ un
        have := Un.laid (fs := frs X.stack) (ex := fp) (H := H) (h := s₂.heap) (h' := s₃.heap) (a := D) (o := .lst []) push3 (Nat.le_of_eq hD) hfresh
        exact this
      refine hRR D _ H5 s6 m (I2.call' (ch := fp) (by rw [I6.os, ← hs3]) u2 I6.hok I6.bare fun b hb => ?_) hnC (by rw [sz3]; exact Nat.le_succ _) hnC.lt I6.free qn
      obtain ⟨q0, q1, q2, q3, q4, q5⟩ := f2 b hb
      exact ⟨q3, q1, q4, q5⟩
    · refine thn (T.item (cxB X scope N s₃ (upd H D (.lst [])) fp) rfl rfl rfl i [] s5 σ5 H5 _ I5 (fB fr5) st5 go) fun r s6 ⟨u, hr, h6⟩ => ?_
      subst hr
      refine thn h6 fun _ s7 ⟨x, H7, I7, r7, y7, st7, fr7⟩ => ?_
      have I7' := I7.pinned (fB fr7) (T.obj _ _ st7)
      refine thn (hg _ _ _ _ s7 σ5 H7 x u _ I7' r7 (step x H7 y7)) fun _ s8 ⟨σ8, H8, I8, q8⟩ => ?_
      refine thn (ht _ _ _ _ s8 σ8 H8 _ I8 q8) fun ok s9 ⟨H9, I9, q9⟩ => ?_
      have again : ∀ {σ7 : St} {Hz : Hp} {sz : Shared}, Inv (cxB X scope N s₃ (upd H D (.lst [])) fp) ([] ++ pinsAt fp s7.heap) σ7 Hz sz → Nn σ7 Hz → ∃ m, m < n ∧ ∃ i σ' H', Inv (cxB X scope N s₃ (upd H D (.lst [])) fp) [] σ' H' sz ∧ tn i sz.heap ∧ (∀ b ∈ fp, H' b = none) ∧ W i m σ' H' := fun {σz Hz sz} Iz nz => by
        obtain ⟨m', hm, wz⟩ := hN _ _ nz
        refine ⟨m', hm, i + 1, _, _, Iz.unpinned, T.keep _ _ _ st7 fun b hb o e => (Iz.pin (b, o) (List.mem_append_right _ (List.mem_append_right _ (mem_pinsAt hb e)))).1, fun b hb => ?_, wz⟩
        obtain ⟨o, e, d⟩ := T.obj _ _ st7 b hb
        exact (Iz.pin (b, o) (List.mem_append_right _ (List.mem_append_right _ (mem_pinsAt hb e)))).2.1
      cases ok with
      | false =>
        rw [if_neg (by decide)] at q9
        rw [if_neg (by decide)]
        exact again I9 q9
      | true =>
        rw [if_pos rfl] at q9
        rw [if_pos rfl]
        refine thn (he _ _ _ _ s9 σ8 H9 _ I9 q9) fun y s10 ⟨yv, H10, I10, ry, xs, e10, z10, q10⟩ => ?_
        refine thn (mt_append (X := cxB X scope N s₃ (upd H D (.lst [])) fp) _ s10 σ8 H10 (.ref D) [yv] (.ref D) [y] (fun _ Hf => Nn σ8 Hf) I10 rfl (.cons ry .nil) ⟨D, xs, yv, rfl, rfl, e10, z10, q10⟩) fun _ s11 ⟨_, H11, I11, _, q11⟩ => ?_
        exact again I11 q11
  exact codeAny_compStart_list (stat4 _ (by rw [← hs3])) (T.self _ 0 _ _ _ (T.keep _ _ _ st2 fun b hb o e => hk₁ b o (push3 b o e)) (stat4 _ (by rw [← hs3])))
noncomputable def tComp (wi : TI) (g : TG) (tc : TT) (te : TE) (src : List (Option Nat)) : TE := fun σ H Q => wi σ H fun J H1 => ∀ D, H1 D = none → tBlk J g tc te (bStart src σ) H1 D fun H' => Q (.ref D) H'
theorem Inv.letGo {pins : List (Addr × Obj)} {σ : St} {H : Hp} {s : Shared} {C : Addr} {m : Str → Option Value} {h' : Heap} (I : Inv X pins σ H s) (hn : s.heap.Ns C m) (hn' : H C = none) (hC : X.s₀.heap.objs.size ≤ C) (hL : C ≠ X.env.locals) (hp : ∀ p ∈ X.pn ++ pins, p.1 ≠ C) (hs : Heap.SameBut C s.heap h') : Inv X pins σ H { s with heap := h' } := by
  refine I.turned (t' := s.toks) (it := C) (fun b o hb e => (hs.2 b hb).trans e) hn' hL (.inr hC) (fun x c e z => ?_) hp
  obtain ⟨v, o, ho, hd⟩ := I.cell x c e
  obtain ⟨o', es, ep, ho', hd', _⟩ := hn
  rw [z, ho'] at ho
  cases ho
  rw [hd'] at hd
  cases hd
theorem pe_comp {wi : TI} {g : TG} {tc : TT} {te : TE} (B : BOk X scope N src) (hi : PI X tg iter wi)
    (hg : ∀ s H fp, PG (cxB X scope N s H fp) tg g) (ht : ∀ s H fp, PCs (cxB X scope N s H fp) ifs tc) (he : ∀ s H fp, PE (cxB X scope N s H fp) elt te)
    (hs : ∀ x, foldedSetIterable iter X.env x = pure x := by intro _; rfl) : PE X (.ListComp elt [⟨tg, iter, ifs, 0⟩] scope pos) (tComp wi g tc te src) := by
  intro pins s σ H Q I h
  rw [eval_ListComp]
  refine wpAny_comprehension_free (use := none) rfl hs (closureFor_eq fun x hx e => I.ok.has x.1 (B.free x hx e)) B.kind B.locs ?_
  refine thn (hi pins s σ H _ I h) fun v s1 h1 => thn h1 fun itv s2 h2 => ?_
  obtain ⟨it, fp, tn, J, H2, e, I2, T, st2, f2, hw⟩ := h2
  subst e
  refine comp_run (RR := fun acc C => compPost (model X.prog X.w) X.A X.xe none (EP X pins σ Q) acc C) (Q := fun D H' => Q (.ref D) H') B hg ht he I2 T st2 f2 hw ?_
  intro D C H' s' m I' hn hC hCs hf q
  refine ⟨m, hn, fun h' hs' => ⟨.ref D, H', I'.letGo hn hf (Nat.le_trans I2.sz hC) (fun z => ?_) (fun p hp z => ?_) hs', rfl, q⟩⟩
  · exact Nat.lt_irrefl _ (Nat.lt_of_lt_of_le (z ▸ I2.lt) hC)
  · have := Heap.lt_size (I2.pin p hp).1
    rw [z] at this
    exact Nat.lt_irrefl _ (Nat.lt_of_lt_of_le this hC)
theorem ps_setcomp {wi : TI} {g : TG} {tc : TT} {te : TE} {i : Nat} {y : Str} {py spos : Pos} (B : BOk X scope N src) (hi : PI X tg iter wi)
    (hg : ∀ s H fp, PG (cxB X scope N s H fp) tg g) (ht : ∀ s H fp, PCs (cxB X scope N s H fp) ifs tc) (he : ∀ s H fp, PE (cxB X scope N s H fp) elt te)
    (hN : X.N.Nodup) (hy : X.N[i]? = some y) (hx : Loc X.env.scope y) (hsw : swapsWith (.ListComp elt [⟨tg, iter, ifs, 0⟩] scope pos) (some (.Name y py)) spos.line X.env = pure true)
    (hf : X.fn y = true ∨ X.env.scope.names.lookup y = some .local := by first | exact .inl rfl | exact .inr rfl | assumption)
    (hs : ∀ x, foldedSetIterable iter X.env x = pure x := by intro _; rfl) : PS X (.Assign [.Name y py] (.ListComp elt [⟨tg, iter, ifs, 0⟩] scope pos) spos) (tAsg (tComp wi g tc te src) (gName i)) := by
  intro pins s σ H D0 I h
  rw [exec_Assign_Name_used _ _ _ _ hsw]
  refine wpAny_bind (wpAny_standAt (wpAny_bind ?_))
  show wpAny _ X.A (do let _ ← comprehension (.ListComp elt [⟨tg, iter, ifs, 0⟩] scope pos) scope X.env _ (newList []) false (eval iter X.env) (some (assign (.Name y py) X.env))) _ _ s
  refine wpAny_bind (wpAny_mono (wpAny_comprehension_free (use := some (assign (.Name y py) X.env)) (Q := fun _ s' => SP X pins D0 .next s') rfl hs (closureFor_eq fun x hx e => I.ok.has x.1 (B.free x hx e)) B.kind B.locs ?_)
    (fun _ s' hq => wpAny_pure (wpAny_pure hq)) fun _ _ e => e)
  refine thn (hi pins s σ H _ I h) fun v s1 h1 => thn h1 fun itv s2 h2 => ?_
  obtain ⟨it, fp, tn, J, H2, e, I2, T, st2, f2, hw⟩ := h2
  subst e
  refine comp_run (RR := fun acc C => compPost (model X.prog X.w) X.A X.xe (some (assign (.Name y py) X.env)) (fun _ s' => SP X pins D0 .next s') acc C) (Q := fun D H' => D0.nx (σ.set i (some (.ref D))) H') B hg ht he I2 T st2 f2 hw ?_
  intro D C H' s' m I' hn hC hCs hf' q
  show wpAny _ X.A (assign (.Name y py) X.env (.ref D)) _ _ _
  have hCL : C ≠ X.env.locals := fun z => Nat.lt_irrefl _ (Nat.lt_of_lt_of_le (z ▸ I2.lt) hC)
  have hCp : ∀ p ∈ X.pn ++ pins, p.1 ≠ C := fun p hp z => by
    have := Heap.lt_size (I2.pin p hp).1
    rw [z] at this
    exact Nat.lt_irrefl _ (Nat.lt_of_lt_of_le this hC)
  have hCc : ∀ x c, X.env.cells.lookup x = some c → c ≠ C := fun x c e z => by
    obtain ⟨v, hv⟩ := I2.cell x c e
    exact Nat.lt_irrefl _ (Nat.lt_of_lt_of_le (z ▸ hv.lt) hC)
  obtain ⟨oC, es, ep, hoC, hdC, hrest⟩ := hn
  have hCfs : C ∉ X.fs := I2.nofs hC
  have Ip : Inv X (pins ++ [(C, oC)]) σ H' s' := I'.pins_of fun p hp => by
    rcases List.mem_append.mp hp with z | z
    · exact I'.pin p (List.mem_append_right _ z)
    · obtain rfl : p = (C, oC) := by simpa using z
      exact ⟨hoC, hf', hCL, hCfs, fun v z => by have z' := hdC.symm.trans z; cases z'⟩
  refine wpAny_assign_Name (store_ok Ip hN hy hx (v := .ref D) rfl (fun s3 I3 => ?_) hf)
  have hC3 := (I3.pin (C, oC) (by simp)).1
  refine ⟨m, ⟨oC, es, ep, hC3, hdC, hrest⟩, fun h' hs' => ?_⟩
  exact ⟨_, H', (I3.unpinned).letGo ⟨oC, es, ep, hC3, hdC, hrest⟩ hf' (Nat.le_trans I2.sz hC) hCL hCp hs', q⟩
end
end L2
end
section
set_option maxHeartbeats 4000000
namespace L3
open PySem PySem.Spec PyProof.Rows L2
inductive D where
  | non | bl (b : Bool) | int (i : Int) | str (x : Str) | tup (xs : List D) | lst (xs : List D) | cel (n : Nat) | set (xs : List Int) | dct | fn (a : Addr) | scr (xs : List D) | exn (c : String)
inductive C where
  | lst (xs : List D) | dead
noncomputable abbrev Hh := List C
structure Io where
  c : List (Option Addr)
  x : List Addr
noncomputable def Io.Has (ι : Io) (a : Addr) : Prop := some a ∈ ι.c ∨ a ∈ ι.x
inductive R (α : Type) where
  | ok (a : α) (h : Hh) | exc (c : String) (h : Hh) | bad
noncomputable def M (α : Type) := Hh → R α
@[inline] noncomputable def M.bind {α β : Type} (m : M α) (f : α → M β) : M β := fun h => match m h with
  | .ok a h' => f a h'
  | .exc c h' => .exc c h'
  | .bad => .bad
@[inline] noncomputable def M.pure {α : Type} (a : α) : M α := fun h => .ok a h
noncomputable instance : Monad M where
  pure := M.pure
  bind := M.bind
noncomputable def M.bad {α : Type} : M α := fun _ => .bad
noncomputable def KL (K : W.Frag) (a : Addr) (xs : List V) : Prop := SqL K (fun _ => none) a xs
mutual
noncomputable def Rel (K : W.Frag) (ι : Io) (H : Hp) : D → V → Prop
  | .non, v => v = .non
  | .bl b, v => v = .bl b
  | .int i, v => v = .int i
  | .str x, v => v = .str x
  | .tup ds, v => ∃ a vs, v = .ref a ∧ (H a = some (.tup vs) ∧ ¬ ι.Has a) ∧ RelL K ι H ds vs
  | .lst ds, v => ∃ a vs, v = .ref a ∧ (H a = some (.lst vs) ∧ ¬ ι.Has a) ∧ RelL K ι H ds vs
  | .scr ds, v => ∃ a vs, v = .ref a ∧ ((Rd H a (.lst vs) ∧ ¬ ι.Has a) ∨ KL K a vs) ∧ RelL K ι H ds vs
  | .cel n, v => ∃ a, v = .ref a ∧ (ι.c[n]? = some (some a) ∨ ι.c[n]? = some none)
  | .set xs, v => ∃ a, v = .ref a ∧ H a = some (.set (fun k => xs.any (· == k)) xs.length) ∧ ¬ ι.Has a
  | .dct, v => ∃ a, v = .ref a ∧ H a = some (.dK []) ∧ ¬ ι.Has a
  | .fn a, v => v = .ref a
  | .exn c, v => ∃ a o C head vs, v = .ref a ∧ (H a = some (.frz o (.own 0)) ∧ ¬ ι.Has a) ∧ W.nsIn K mainGlobals (c : Str) = some (some (.ref C)) ∧ o.cls = .ref C ∧ o.dict = none ∧ o.data = .fields vs ∧ vs[2]? = some .none ∧ vs[1]? = some head
noncomputable def RelL (K : W.Frag) (ι : Io) (H : Hp) : List D → List V → Prop
  | [], vs => vs = []
  | d :: ds, vs => ∃ v r, vs = v :: r ∧ Rel K ι H d v ∧ RelL K ι H ds r
end
structure Step (ι : Io) (H : Hp) (ι' : Io) (H' : Hp) : Prop where
  old : ∀ (n : Nat) (o : Option Addr), ι.c[n]? = some o → ι'.c[n]? = some o ∨ ι'.c[n]? = some none
  new : ∀ a, some a ∈ ι'.c → some a ∈ ι.c ∨ H a = none
  hid : ι'.x = ι.x
  hidk : ∀ a ∈ ι.x, H' a = H a
  keep : ∀ b o, H b = some o → ¬ ι.Has b → H' b = some o
theorem Step.refl (ι : Io) (H : Hp) : Step ι H ι H := ⟨fun _ _ h => .inl h, fun _ h => .inl h, rfl, fun _ _ => rfl, fun _ _ h _ => h⟩
theorem Step.nin {ι ι' : Io} {H H' : Hp} (s : Step ι H ι' H') {a : Addr} {o : HO} (h : H a = some o) (n : ¬ ι.Has a) : ¬ ι'.Has a := fun z => by
  rcases z with z | z
  · rcases s.new a z with z | z
    · exact n (.inl z)
    · rw [h] at z; cases z
  · rw [s.hid] at z; exact n (.inr z)
theorem Step.trans {ι ι1 ι2 : Io} {H H1 H2 : Hp} (s : Step ι H ι1 H1) (t : Step ι1 H1 ι2 H2) : Step ι H ι2 H2 where
  old := fun n o h => by
    rcases s.old n o h with h | h
    · exact t.old n o h
    · rcases t.old n _ h with h | h <;> exact .inr h
  new := fun a h => by
    rcases t.new a h with h | h
    · exact s.new a h
    · by_cases z : some a ∈ ι.c
      · exact .inl z
      · refine .inr ?_
        cases q : H a with
        | none => rfl
        | some o =>
          by_cases z' : a ∈ ι.x
          · rw [s.hidk a z', q] at h; cases h
          · rw [s.keep a o q (fun w => w.elim z z')] at h; cases h
  hid := t.hid.trans s.hid
  hidk := fun a h => (t.hidk a (by rw [s.hid]; exact h)).trans (s.hidk a h)
  keep := fun b o h n => t.keep b o (s.keep b o h n) (s.nin h n)
theorem Step.rd {ι ι' : Io} {H H' : Hp} (s : Step ι H ι' H') {a : Addr} {u : HO} (h : Rd H a u) (n : ¬ ι.Has a) : Rd H' a u ∧ ¬ ι'.Has a := by
  rcases h with h | ⟨o, h⟩
  · exact ⟨.inl (s.keep _ _ h n), s.nin h n⟩
  · exact ⟨.inr ⟨o, s.keep _ _ h n⟩, s.nin h n⟩
structure Pass (ι : Io) (H : Hp) (ι' : Io) (H' : Hp) : Prop where
  old : ∀ (n : Nat) (o : Option Addr), ι.c[n]? = some o → ι'.c[n]? = some o ∨ ι'.c[n]? = some none
  keep : ∀ b o, H b = some o → ¬ ι.Has b → H' b = some o ∧ ¬ ι'.Has b
theorem Step.pass {ι ι' : Io} {H H' : Hp} (s : Step ι H ι' H') : Pass ι H ι' H' := ⟨s.old, fun b o h n => ⟨s.keep b o h n, s.nin h n⟩⟩
theorem Pass.rd {ι ι' : Io} {H H' : Hp} (s : Pass ι H ι' H') {a : Addr} {u : HO} (h : Rd H a u) (n : ¬ ι.Has a) : Rd H' a u ∧ ¬ ι'.Has a := by
  rcases h with h | ⟨o, h⟩
  · exact ⟨.inl (s.keep _ _ h n).1, (s.keep _ _ h n).2⟩
  · exact ⟨.inr ⟨o, (s.keep _ _ h n).1⟩, (s.keep _ _ h n).2⟩
section
variable {K : W.Frag} {ι ι' : Io} {H H' : Hp}
mutual
theorem Rel.pass (s : Pass ι H ι' H') : ∀ {d : D} {v : V}, Rel K ι H d v → Rel K ι' H' d v
  | .non, _, h => by simpa [Rel] using h
  | .bl _, _, h => by simpa [Rel] using h
  | .int _, _, h => by simpa [Rel] using h
  | .str _, _, h => by simpa [Rel] using h
  | .tup ds, v, h => by
    simp only [Rel] at h ⊢
    obtain ⟨a, vs, e, h1, h2⟩ := h
    exact ⟨a, vs, e, s.keep _ _ h1.1 h1.2, RelL.pass s h2⟩
  | .lst ds, v, h => by
    simp only [Rel] at h ⊢
    obtain ⟨a, vs, e, h1, h2⟩ := h
    exact ⟨a, vs, e, s.keep _ _ h1.1 h1.2, RelL.pass s h2⟩
  | .scr ds, v, h => by
    simp only [Rel] at h ⊢
    obtain ⟨a, vs, e, h1, h2⟩ := h
    exact ⟨a, vs, e, h1.imp (fun z => s.rd z.1 z.2) id, RelL.pass s h2⟩
  | .cel n, v, h => by
    simp only [Rel] at h ⊢
    obtain ⟨a, e, h⟩ := h
    refine ⟨a, e, ?_⟩
    rcases h with h | h
    · exact s.old n _ h
    · rcases s.old n _ h with h | h <;> exact .inr h
  | .set xs, v, h => by
    simp only [Rel] at h ⊢
    obtain ⟨a, e, h, n⟩ := h
    exact ⟨a, e, (s.keep _ _ h n).1, (s.keep _ _ h n).2⟩
  | .dct, v, h => by
    simp only [Rel] at h ⊢
    obtain ⟨a, e, h, n⟩ := h
    exact ⟨a, e, (s.keep _ _ h n).1, (s.keep _ _ h n).2⟩
  | .fn _, _, h => by simpa [Rel] using h
  | .exn _, _, h => by
    simp only [Rel] at h ⊢
    obtain ⟨a, o, C, head, vs, e, h1, h2⟩ := h
    exact ⟨a, o, C, head, vs, e, s.keep _ _ h1.1 h1.2, h2⟩
theorem RelL.pass (s : Pass ι H ι' H') : ∀ {ds : List D} {vs : List V}, RelL K ι H ds vs → RelL K ι' H' ds vs
  | [], _, h => by simpa [RelL] using h
  | d :: ds, _, h => by
    simp only [RelL] at h ⊢
    obtain ⟨v, r, e, h1, h2⟩ := h
    exact ⟨v, r, e, Rel.pass s h1, RelL.pass s h2⟩
end
theorem Rel.step (s : Step ι H ι' H') {d : D} {v : V} (h : Rel K ι H d v) : Rel K ι' H' d v := h.pass s.pass
theorem RelL.step (s : Step ι H ι' H') {ds : List D} {vs : List V} (h : RelL K ι H ds vs) : RelL K ι' H' ds vs := h.pass s.pass
theorem RelL.nil : RelL K ι H [] [] := by simp [RelL]
theorem RelL.cons {d : D} {ds : List D} {v : V} {vs : List V} (h : Rel K ι H d v) (t : RelL K ι H ds vs) : RelL K ι H (d :: ds) (v :: vs) := by simp only [RelL]; exact ⟨v, vs, rfl, h, t⟩
theorem RelL.length : ∀ {ds : List D} {vs : List V}, RelL K ι H ds vs → ds.length = vs.length
  | [], _, h => by simp only [RelL] at h; subst h; rfl
  | d :: ds, _, h => by
    simp only [RelL] at h
    obtain ⟨v, r, rfl, _, h⟩ := h
    simp [RelL.length h]
theorem RelL.get : ∀ {ds : List D} {vs : List V} {i : Nat} {d : D}, RelL K ι H ds vs → ds[i]? = some d → ∃ v, vs[i]? = some v ∧ Rel K ι H d v
  | [], _, _, _, _, e => by simp at e
  | d :: ds, _, i, x, h, e => by
    simp only [RelL] at h
    obtain ⟨v, r, rfl, h1, h2⟩ := h
    cases i with
    | zero => simp at e; subst e; exact ⟨v, rfl, h1⟩
    | succ i => simp at e; simpa using RelL.get h2 e
theorem RelL.getV : ∀ {ds : List D} {vs : List V} {i : Nat} {v : V}, RelL K ι H ds vs → vs[i]? = some v → ∃ d, ds[i]? = some d ∧ Rel K ι H d v
  | [], _, _, _, h, e => by simp only [RelL] at h; subst h; simp at e
  | d :: ds, _, i, x, h, e => by
    simp only [RelL] at h
    obtain ⟨v, r, rfl, h1, h2⟩ := h
    cases i with
    | zero => simp at e; subst e; exact ⟨d, rfl, h1⟩
    | succ i => simp at e; simpa using RelL.getV h2 e
theorem RelL.append : ∀ {ds es : List D} {vs ws : List V}, RelL K ι H ds vs → RelL K ι H es ws → RelL K ι H (ds ++ es) (vs ++ ws)
  | [], _, _, _, h, t => by simp only [RelL] at h; subst h; exact t
  | d :: ds, es, _, ws, h, t => by
    simp only [RelL] at h
    obtain ⟨v, r, rfl, h1, h2⟩ := h
    exact RelL.cons h1 (RelL.append h2 t)
theorem RelL.take : ∀ {ds : List D} {vs : List V} (n : Nat), RelL K ι H ds vs → RelL K ι H (ds.take n) (vs.take n)
  | _, _, 0, _ => by simpa using RelL.nil
  | [], _, n + 1, h => by simp only [RelL] at h; subst h; exact RelL.nil
  | d :: ds, _, n + 1, h => by
    simp only [RelL] at h
    obtain ⟨v, r, rfl, h1, h2⟩ := h
    exact RelL.cons h1 (RelL.take n h2)
theorem RelL.drop : ∀ {ds : List D} {vs : List V} (n : Nat), RelL K ι H ds vs → RelL K ι H (ds.drop n) (vs.drop n)
  | _, _, 0, h => h
  | [], _, n + 1, h => by simp only [RelL] at h; subst h; exact RelL.nil
  | d :: ds, _, n + 1, h => by
    simp only [RelL] at h
    obtain ⟨v, r, rfl, h1, h2⟩ := h
    exact RelL.drop n h2
theorem RelL.reverse {ds : List D} {vs : List V} (h : RelL K ι H ds vs) : RelL K ι H ds.reverse vs.reverse := by
  induction ds generalizing vs with
  | nil => simp only [RelL] at h; subst h; exact RelL.nil
  | cons d ds ih =>
    simp only [RelL] at h
    obtain ⟨v, r, rfl, h1, h2⟩ := h
    rw [List.reverse_cons, List.reverse_cons]
    exact RelL.append (ih h2) (RelL.cons h1 RelL.nil)
theorem RelL.set {d : D} {v : V} (hd : Rel K ι H d v) : ∀ {ds : List D} {vs : List V} (i : Nat), RelL K ι H ds vs → RelL K ι H (ds.set i d) (vs.set i v)
  | [], _, _, h => by simp only [RelL] at h; subst h; exact RelL.nil
  | x :: ds, _, i, h => by
    simp only [RelL] at h
    obtain ⟨w, r, rfl, h1, h2⟩ := h
    cases i with
    | zero => exact RelL.cons hd h2
    | succ i => exact RelL.cons h1 (RelL.set hd i h2)
theorem relL_ints : ∀ {is : List Int} {vs : List V}, RelL K ι H (is.map D.int) vs ↔ vs = is.map V.int
  | [], vs => by simp [RelL]
  | i :: is, vs => by
    simp only [List.map_cons, RelL]
    constructor
    · rintro ⟨v, r, rfl, h1, h2⟩
      simp only [Rel] at h1
      rw [h1, relL_ints.mp h2]
    · rintro rfl
      exact ⟨_, _, rfl, by simp [Rel], relL_ints.mpr rfl⟩
structure HRel (K : W.Frag) (ι : Io) (H : Hp) (h : Hh) : Prop where
  len : h.length = ι.c.length
  inj : ∀ (m n : Nat) (a : Addr), ι.c[m]? = some (some a) → ι.c[n]? = some (some a) → m = n
  at_ : ∀ (n : Nat) (a : Addr) (c : C), ι.c[n]? = some (some a) → h[n]? = some c → ∃ ds vs, c = .lst ds ∧ H a = some (.lst vs) ∧ RelL K ι H ds vs
  dead : ∀ (n : Nat), ι.c[n]? = some none → h[n]? = some .dead
  hidt : ∀ a ∈ ι.x, (∃ o, H a = some o) ∧ some a ∉ ι.c
noncomputable abbrev Sd := List (Option D)
noncomputable def LRel (K : W.Frag) (ι : Io) (H : Hp) (sd : Sd) (σ : L2.St) : Prop := sd.length = σ.length ∧ ∀ (i : Nat) (d : D), sd[i]? = some (some d) → ∃ v, σ[i]? = some (some v) ∧ Rel K ι H d v
theorem LRel.pass {sd : Sd} {σ : L2.St} (s : Pass ι H ι' H') (h : LRel K ι H sd σ) : LRel K ι' H' sd σ := ⟨h.1, fun i d e => let ⟨v, h1, h2⟩ := h.2 i d e; ⟨v, h1, h2.pass s⟩⟩
theorem LRel.step {sd : Sd} {σ : L2.St} (s : Step ι H ι' H') (h : LRel K ι H sd σ) : LRel K ι' H' sd σ := ⟨h.1, fun i d e => let ⟨v, h1, h2⟩ := h.2 i d e; ⟨v, h1, h2.step s⟩⟩
theorem LRel.set {sd : Sd} {σ : L2.St} {d : D} {v : V} (h : LRel K ι H sd σ) (r : Rel K ι H d v) (i : Nat) : LRel K ι H (sd.set i (some d)) (σ.set i (some v)) := by
  refine ⟨by rw [List.length_set, List.length_set]; exact h.1, fun j d' e => ?_⟩
  by_cases hij : i = j
  · subst hij
    by_cases hl : i < sd.length
    · rw [List.getElem?_set_self hl] at e
      cases e
      exact ⟨v, by rw [List.getElem?_set_self (by rw [← h.1]; exact hl)], r⟩
    · rw [List.getElem?_eq_none (by rw [List.length_set]; omega)] at e
      cases e
  · rw [List.getElem?_set_ne hij] at e ⊢
    exact h.2 j d' e
end
end L3
end
section
set_option maxHeartbeats 4000000
namespace L3
open PySem PySem.Spec PyProof.Rows L2
noncomputable abbrev St := L2.St
noncomputable abbrev XE := String → Hp → Prop
noncomputable def Fin {α : Type} (K : W.Frag) (E : XE) (ι : Io) (H : Hp) (r : R α) (P : α → Io → Hp → Prop) : Prop := match r with
  | .ok a h' => ∀ ι' H', Step ι H ι' H' → HRel K ι' H' h' → P a ι' H'
  | .exc c h' => ∀ ι' H', Step ι H ι' H' → HRel K ι' H' h' → E c H'
  | .bad => False
section
variable {α β : Type} {K : W.Frag} {E : XE} {ι ι' : Io} {H H' : Hp}
theorem Fin.step {r : R α} {P : α → Io → Hp → Prop} (s : Step ι H ι' H') (h : Fin K E ι H r P) : Fin K E ι' H' r P := by
  cases r with
  | ok a h' => exact fun ι2 H2 t hr => h ι2 H2 (s.trans t) hr
  | exc c h' => exact fun ι2 H2 t hr => h ι2 H2 (s.trans t) hr
  | bad => exact h
theorem Fin.mono {r : R α} {P P' : α → Io → Hp → Prop} (h : Fin K E ι H r P) (m : ∀ a ι' H', P a ι' H' → P' a ι' H') : Fin K E ι H r P' := by
  cases r with
  | ok a h' => exact fun ι2 H2 t hr => m _ _ _ (h ι2 H2 t hr)
  | exc c h' => exact h
  | bad => exact h
theorem Fin.bind {m : M α} {f : α → M β} {h : Hh} {P : β → Io → Hp → Prop} {P' : α → Io → Hp → Prop} (q : Fin K E ι H ((m >>= f) h) P)
    (k : ∀ a h' ι' H', m h = .ok a h' → Step ι H ι' H' → HRel K ι' H' h' → Fin K E ι' H' (f a h') P → P' a ι' H') : Fin K E ι H (m h) P' := by
  have q' : Fin K E ι H (M.bind m f h) P := q
  unfold M.bind at q'
  cases e : m h with
  | ok a h' =>
    rw [e] at q'
    intro ι' H' s hr
    exact k a h' ι' H' e s hr (Fin.step s q')
  | exc c h' => rw [e] at q'; exact q'
  | bad => rw [e] at q'; exact q'
theorem Fin.out {a : α} {h : Hh} {P : α → Io → Hp → Prop} (hr : HRel K ι H h) (q : Fin K E ι H ((pure a : M α) h) P) : P a ι H := q ι H (Step.refl _ _) hr
end
noncomputable def toTE (K : W.Frag) (E : XE) (f : Sd → M D) : TE := fun σ H Q => ∃ ι h sd, LRel K ι H sd σ ∧ HRel K ι H h ∧ Fin K E ι H (f sd h) fun d ι' H' => ∀ v, Rel K ι' H' d v → Q v H'
noncomputable def toTT (K : W.Frag) (E : XE) (f : Sd → M Bool) : TT := fun σ H Q => ∃ ι h sd, LRel K ι H sd σ ∧ HRel K ι H h ∧ Fin K E ι H (f sd h) fun b ι' H' => Q b H'
noncomputable def toTA (K : W.Frag) (E : XE) (f : Sd → M (List D)) : TA := fun σ H Q => ∃ ι h sd, LRel K ι H sd σ ∧ HRel K ι H h ∧ Fin K E ι H (f sd h) fun ds ι' H' => ∀ vs, RelL K ι' H' ds vs → Q vs H'
noncomputable abbrev SE (X : Cx) (E : XE) (e : Expr) (f : Sd → M D) : Prop := PE X e (toTE X.K E f)
noncomputable abbrev ST (X : Cx) (E : XE) (e : Expr) (f : Sd → M Bool) : Prop := PT X e (toTT X.K E f)
noncomputable abbrev SA (X : Cx) (E : XE) (es : List Expr) (f : Sd → M (List D)) : Prop := PA X es (toTA X.K E f)
noncomputable def toR2 (K : W.Frag) (E : XE) (F : D → D → M D) : R2 := fun x y H Q => ∃ ι h d1 d2, Rel K ι H d1 x ∧ Rel K ι H d2 y ∧ HRel K ι H h ∧ Fin K E ι H (F d1 d2 h) fun d ι' H' => ∀ v, Rel K ι' H' d v → Q v H'
noncomputable def toRA (K : W.Frag) (E : XE) (F : List D → M D) : List V → Hp → VK → Prop := fun xs H Q => ∃ ι h ds, RelL K ι H ds xs ∧ HRel K ι H h ∧ Fin K E ι H (F ds h) fun d ι' H' => ∀ v, Rel K ι' H' d v → Q v H'
theorem PE.imp {X : Cx} {e : Expr} {t t' : TE} (h : PE X e t) (m : ∀ σ H Q, t' σ H Q → t σ H Q) : PE X e t' := fun pins s σ H Q I q => h pins s σ H Q I (m _ _ _ q)
theorem PT.imp {X : Cx} {e : Expr} {t t' : TT} (h : PT X e t) (m : ∀ σ H Q, t' σ H Q → t σ H Q) : PT X e t' := fun pins s σ H Q I q => h pins s σ H Q I (m _ _ _ q)
theorem PA.imp {X : Cx} {e : List Expr} {t t' : TA} (h : PA X e t) (m : ∀ σ H Q, t' σ H Q → t σ H Q) : PA X e t' := fun pos pins s σ H Q I q => h pos pins s σ H Q I (m _ _ _ q)
theorem OpR.imp {X : Cx} {f : Value → Value → Sem Value} {r r' : R2} (h : OpR X f r) (m : ∀ x y H Q, r' x y H Q → r x y H Q) : OpR X f r' := fun pins s σ H x y v u Q I rx ry q => h pins s σ H x y v u Q I rx ry (m _ _ _ _ q)
theorem CallR.imp {X : Cx} {f : Value} {r r' : List V → Hp → VK → Prop} (h : CallR X f r) (m : ∀ xs H Q, r' xs H Q → r xs H Q) : CallR X f r' := by
  intro pins s σ H xs us Q I rx q
  exact h pins s σ H xs us Q I rx (m _ _ _ q)
theorem IxR.imp {X : Cx} {r r' : R2} (h : IxR X r) (m : ∀ x y H Q, r' x y H Q → r x y H Q) : IxR X r' := by
  intro value slice pins s σ H x y v u Q I rx ry q hs
  exact h value slice pins s σ H x y v u Q I rx ry (m _ _ _ _ q) hs
theorem MtM.imp {X : Cx} {id : String} {r r' : V → List V → Hp → VK → Prop} (h : MtM X id r) (m : ∀ x xs H Q, r' x xs H Q → r x xs H Q) : MtM X id r' := fun pins s σ H x xs v us Q I rx rs q => h pins s σ H x xs v us Q I rx rs (m _ _ _ _ q)
theorem SlR.imp {X : Cx} {r r' : V → Option Int → Option Int → Hp → VK → Prop} (h : SlR X r) (m : ∀ x l u H Q, r' x l u H Q → r x l u H Q) : SlR X r' := fun pins s σ H x v vl vu lo hi sl Q I rx hs pl pu q => h pins s σ H x v vl vu lo hi sl Q I rx hs pl pu (m _ _ _ _ _ q)
theorem PSet.imp {X : Cx} {r r' : TSet} (h : PSet X r) (m : ∀ o i v H Q, r' o i v H Q → r o i v H Q) : PSet X r' := fun pins s σ H o i v ov iv u Q I ro ri rv q => h pins s σ H o i v ov iv u Q I ro ri rv (m _ _ _ _ _ q)
theorem PI.imp {X : Cx} {tg iter : Expr} {t t' : TI} (h : PI X tg iter t) (m : ∀ σ H Q, t' σ H Q → t σ H Q) : PI X tg iter t' := fun pins s σ H Q I q => h pins s σ H Q I (m _ _ _ q)
theorem PG.imp {X : Cx} {tg : Expr} {t t' : TG} (h : PG X tg t) (m : ∀ v σ H Q, t' v σ H Q → t v σ H Q) : PG X tg t' := fun pins s σ H v u Q I r q => h pins s σ H v u Q I r (m _ _ _ _ q)
theorem PS.imp {X : Cx} {st : Stmt} {t t' : TS} (h : PS X st t) (m : ∀ D σ H, t' D σ H → t D σ H) : PS X st t' := fun pins s σ H D I q => h pins s σ H D I (m _ _ _ q)
theorem PSs.imp {X : Cx} {st : List Stmt} {t t' : TS} (h : PSs X st t) (m : ∀ D σ H, t' D σ H → t D σ H) : PSs X st t' := fun pins s σ H D I q => h pins s σ H D I (m _ _ _ q)
section
variable {X : Cx} {E : XE} {a b e : Expr} {es : List Expr} {pos : Pos} {fa fb : Sd → M D}
theorem te2 {K : W.Frag} {F : D → D → M D} {r : R2} (hr : ∀ x y H Q, toR2 K E F x y H Q → r x y H Q) (σ : St) (H : Hp) (Q : VK) (q : toTE K E (fun sd => do let x ← fa sd; let y ← fb sd; F x y) σ H Q) : tOp r (toTE K E fa) (toTE K E fb) σ H Q := by
  obtain ⟨ι, h, sd, L, hh, q⟩ := q
  refine ⟨ι, h, sd, L, hh, Fin.bind q fun d1 h1 ι1 H1 e1 s1 hr1 q1 v r1 => ?_⟩
  refine ⟨ι1, h1, sd, L.step s1, hr1, Fin.bind q1 fun d2 h2 ι2 H2 e2 s2 hr2 q2 w r2 => ?_⟩
  exact hr _ _ _ _ ⟨ι2, h2, d1, d2, r1.step s2, r2, hr2, q2⟩
theorem se_op {op : Operator} {F : D → D → M D} (ho : OpR X (binaryOp op) (toR2 X.K E F)) (ha : SE X E a fa) (hb : SE X E b fb) : SE X E (.BinOp a op b pos) (fun sd => do let x ← fa sd; let y ← fb sd; F x y) :=
  PE.imp (pe_op ho ha hb) (te2 fun _ _ _ _ q => q)
theorem se_cmp {op : CmpOp} {F : D → D → M D} (ho : OpR X (compareOp op) (toR2 X.K E F)) (ha : SE X E a fa) (hb : SE X E b fb) (hm : behindInMarks op b = false) : SE X E (.Compare a [op] [b] pos) (fun sd => do let x ← fa sd; let y ← fb sd; F x y) :=
  PE.imp (pe_cmpR ho ha hb hm) (te2 fun _ _ _ _ q => q)
theorem se_ix {F : D → D → M D} (ho : IxR X (toR2 X.K E F)) (ha : SE X E a fa) (hb : SE X E b fb) (hs : PlainIx b) : SE X E (.Subscript a b pos) (fun sd => do let x ← fa sd; let y ← fb sd; F x y) :=
  PE.imp (pe_ix ho ha hb hs) (te2 fun _ _ _ _ q => q)
noncomputable def dBool : D → M Bool
  | .bl b => pure b
  | _ => M.bad
theorem te_bool {K : W.Frag} {f : Sd → M D} (σ : St) (H : Hp) (Q : Bool → Hp → Prop) (q : toTT K E (fun sd => do let x ← f sd; dBool x) σ H Q) : (toTE K E f) σ H fun x H1 => ∃ c, x = .bl c ∧ Q c H1 := by
  obtain ⟨ι, h, sd, L, hh, q⟩ := q
  refine ⟨ι, h, sd, L, hh, Fin.bind q fun d1 h1 ι1 H1 e1 s1 hr1 q2 v r1 => ?_⟩
  cases d1 with
  | bl b => simp only [Rel] at r1; exact ⟨b, r1, Fin.out hr1 q2⟩
  | _ => exact False.elim q2
theorem st_cmp {op : CmpOp} {F : D → D → M D} (ho : OpR X (compareOp op) (toR2 X.K E F)) (ha : SE X E a fa) (hb : SE X E b fb) (hm : behindInMarks op b = false) :
    ST X E (.Compare a [op] [b] pos) (fun sd => do let z ← (do let x ← fa sd; let y ← fb sd; F x y); dBool z) := by
  refine PT.imp (pt_cmpR ho ha hb hm) fun σ H Q q => ?_
  have q1 := te_bool (f := fun sd => do let x ← fa sd; let y ← fb sd; F x y) σ H Q q
  exact te2 (fun _ _ _ _ q => q) σ H _ q1
theorem st_val {f : Sd → M D} (h : SE X E e f) (he : ∀ whole, isTrue e X.env whole = (do let v ← whole; standAt e.pos; holding [v] (truthy v)) := by intro _; rfl) : ST X E e (fun sd => do let x ← f sd; dBool x) :=
  PT.imp (pt_val h he) fun σ H Q q => te_bool σ H Q q
theorem st_not {t : Sd → M Bool} (ha : ST X E a t) : ST X E (.UnaryOp .Not a pos) (fun sd => do let c ← t sd; pure (!c)) := by
  refine PT.imp (pt_not ha) fun σ H Q ⟨ι, h, sd, L, hh, q⟩ => ⟨ι, h, sd, L, hh, Fin.bind q fun c h1 ι1 H1 e1 s1 hr1 q1 => ?_⟩
  exact Fin.out hr1 q1
theorem st_or1 {t : Sd → M Bool} (ha : ST X E a t) : PW X (.BoolOp .Or [a] pos) (toTT X.K E t) := pw_or1 ha
theorem PW.imp {t t' : TT} (h : PW X e t) (m : ∀ σ H Q, t' σ H Q → t σ H Q) : PW X e t' := fun whole pins s σ H Q I q => h whole pins s σ H Q I (m _ _ _ q)
theorem st_or {rest : List Expr} {t u : Sd → M Bool} (ha : ST X E a t) (hb : PW X (.BoolOp .Or (b :: rest) pos) (toTT X.K E u)) : PW X (.BoolOp .Or (a :: b :: rest) pos) (toTT X.K E fun sd => do let c ← t sd; if c = true then pure true else u sd) := by
  refine PW.imp (pw_or ha hb) fun σ H Q ⟨ι, h, sd, L, hh, q⟩ => ⟨ι, h, sd, L, hh, Fin.bind q fun c h1 ι1 H1 e1 s1 hr1 q1 => ?_⟩
  cases c with
  | false => exact iteF ⟨ι1, h1, sd, L.step s1, hr1, q1⟩
  | true => exact iteT (Fin.out hr1 q1)
theorem st_bool {op : BoolOp} {vs : List Expr} {t : Sd → M Bool} (h : PW X (.BoolOp op vs pos) (toTT X.K E t)) : ST X E (.BoolOp op vs pos) t := h.pt
theorem se_one {op : BoolOp} (h : SE X E a fa) : SE X E (.BoolOp op [a] pos) fa := pe_one h
theorem se_and {rest : List Expr} (ha : SE X E a fa) (hb : SE X E (.BoolOp .And (b :: rest) pos) fb) : SE X E (.BoolOp .And (a :: b :: rest) pos) (fun sd => do let c ← (do let x ← fa sd; dBool x); if c = true then fb sd else pure (.bl false)) := by
  refine PE.imp (pe_and ha hb) fun σ H Q ⟨ι, h, sd, L, hh, q⟩ => ?_
  have q1 := te_bool (K := X.K) (E := E) (f := fa) σ H (fun c H1 => if c = true then toTE X.K E fb σ H1 Q else Q (.bl false) H1) ⟨ι, h, sd, L, hh, Fin.bind q fun c h1 ι1 H1 e1 s1 hr1 q1 => ?_⟩
  · exact q1
  · cases c with
    | true => exact iteT ⟨ι1, h1, sd, L.step s1, hr1, q1⟩
    | false => exact iteF (Fin.out hr1 q1 _ (by simp [Rel]))
theorem se_not (ha : SE X E a fa) : SE X E (.UnaryOp .Not a pos) (fun sd => do let c ← (do let x ← fa sd; dBool x); pure (.bl (!c))) := by
  refine PE.imp (pe_not ha) fun σ H Q ⟨ι, h, sd, L, hh, q⟩ => ?_
  have q1 := te_bool (K := X.K) (E := E) (f := fa) σ H (fun c H1 => Q (.bl (!c)) H1) ⟨ι, h, sd, L, hh, Fin.bind q fun c h1 ι1 H1 e1 s1 hr1 q1 => ?_⟩
  · exact q1
  · exact Fin.out hr1 q1 _ (by simp [Rel])
noncomputable def dVar (i : Nat) : Sd → M D := fun sd => match sd[i]? with
  | some (some d) => pure d
  | _ => M.bad
theorem se_var (i : Nat) {x : Str} (hN : X.N[i]? = some x) (hv : Vis X.env.scope x) (hd : (x == ("__debug__" : Str)) = false := by decide) (hcd : (x == ("__classdict__" : Str)) = false := by decide) : SE X E (.Name x pos) (dVar i) := by
  refine PE.imp (pe_var hN hv hd hcd) fun σ H Q ⟨ι, h, sd, L, hh, q⟩ => ?_
  unfold dVar at q
  cases e : sd[i]? with
  | none => rw [e] at q; exact False.elim q
  | some o =>
    rw [e] at q
    cases o with
    | none => exact False.elim q
    | some d =>
      obtain ⟨v, e1, r⟩ := L.2 i d e
      exact ⟨v, e1, Fin.out hh q v r⟩
theorem te_const {K : W.Frag} {d : D} {v : V} (r : ∀ ι H, Rel K ι H d v) (σ : St) (H : Hp) (Q : VK) (q : toTE K E (fun _ => pure d) σ H Q) : tC v σ H Q := by
  obtain ⟨ι, h, sd, L, hh, q⟩ := q
  exact Fin.out hh q v (r _ _)
theorem se_int {i : Int} {j : Nat} : SE X E (.Constant (.int i) j pos) (fun _ => pure (.int i)) := PE.imp pe_int (te_const fun _ _ => by simp [Rel])
theorem se_bl {i : Bool} {j : Nat} : SE X E (.Constant (.bool i) j pos) (fun _ => pure (.bl i)) := PE.imp pe_bl (te_const fun _ _ => by simp [Rel])
theorem sa_nil : SA X E [] (fun _ => pure []) := PA.imp pa_nil fun σ H Q ⟨ι, h, sd, L, hh, q⟩ => Fin.out hh q [] RelL.nil
theorem sa_cons {fs : Sd → M (List D)} (ha : SE X E e fa) (hr : SA X E es fs) (hs : starEach (e :: es) X.env = (false, eval e X.env) :: starEach es X.env := by rfl) : SA X E (e :: es) (fun sd => do let x ← fa sd; let r ← fs sd; pure (x :: r)) := by
  refine PA.imp (pa_cons ha hr hs) fun σ H Q ⟨ι, h, sd, L, hh, q⟩ => ⟨ι, h, sd, L, hh, Fin.bind q fun d h1 ι1 H1 e1 s1 hr1 q1 v rv => ?_⟩
  refine ⟨ι1, h1, sd, L.step s1, hr1, Fin.bind q1 fun ds h2 ι2 H2 e2 s2 hr2 q2 vs rvs => ?_⟩
  exact Fin.out hr2 q2 _ (RelL.cons (rv.step s2) rvs)
end
theorem HRel.nin {K : W.Frag} {ι : Io} {H : Hp} {h : Hh} (hr : HRel K ι H h) {p : Addr} (hp : H p = none) : ¬ ι.Has p := fun z => by
  rcases z with z | z
  · obtain ⟨n, hn⟩ := List.mem_iff_getElem?.mp z
    have hl : n < h.length := by rw [hr.len]; exact (List.getElem?_eq_some_iff.mp hn).1
    obtain ⟨ds, vs, _, e, _⟩ := hr.at_ n p h[n] hn (by simp [hl])
    rw [hp] at e
    cases e
  · obtain ⟨⟨o, e⟩, _⟩ := hr.hidt p z
    rw [hp] at e
    cases e
theorem HRel.laidS {K : W.Frag} {ι : Io} {H : Hp} {h : Hh} (hr : HRel K ι H h) {p : Addr} {o : HO} (hp : H p = none) : Step ι H ι (upd H p o) :=
  ⟨fun _ _ h => .inl h, fun _ h => .inl h, rfl, fun a ha => upd_ne fun z => hr.nin hp (.inr (z ▸ ha)), fun b o' h _ => by rw [upd_ne (ne_of_none h hp)]; exact h⟩
theorem HRel.laid {K : W.Frag} {ι : Io} {H : Hp} {h : Hh} {p : Addr} {o : HO} (hr : HRel K ι H h) (hp : H p = none) : HRel K ι (upd H p o) h :=
  ⟨hr.len, hr.inj, fun n a c hn hc => by
    obtain ⟨ds, vs, e1, e2, e3⟩ := hr.at_ n a c hn hc
    exact ⟨ds, vs, e1, by rw [upd_ne (ne_of_none e2 hp)]; exact e2, e3.step (hr.laidS hp)⟩, hr.dead, fun a ha => ⟨by rw [upd_ne (show a ≠ p from fun z => hr.nin hp (.inr (z ▸ ha)))]; exact (hr.hidt a ha).1, (hr.hidt a ha).2⟩⟩
noncomputable def fits (n : Nat) : M Unit := if n ≤ sizeLine then pure () else M.bad
theorem Fin.fits {α : Type} {K : W.Frag} {E : XE} {ι : Io} {H : Hp} {n : Nat} {f : M α} {h : Hh} {P : α → Io → Hp → Prop} (q : Fin K E ι H ((do L3.fits n; f) h) P) : n ≤ sizeLine ∧ Fin K E ι H (f h) P := by
  have q' : Fin K E ι H (M.bind (L3.fits n) (fun _ => f) h) P := q
  unfold M.bind L3.fits at q'
  by_cases hn : n ≤ sizeLine
  · rw [if_pos hn] at q'
    exact ⟨hn, q'⟩
  · rw [if_neg hn] at q'
    exact False.elim q'
section
variable {X : Cx} {E : XE} {es : List Expr} {pos : Pos} {fs : Sd → M (List D)}
theorem newT {K : W.Frag} {ι : Io} {H : Hp} {h : Hh} {ds : List D} {vs : List V} {Q : VK} (hr : HRel K ι H h) (rl : RelL K ι H ds vs) (q : Fin K E ι H ((pure (.tup ds) : M D) h) fun d ι' H' => ∀ v, Rel K ι' H' d v → Q v H') {p : Addr} (hp : H p = none) : Q (.ref p) (upd H p (.tup vs)) :=
  q ι _ (hr.laidS hp) (hr.laid hp) _ (by
    simp only [Rel]
    exact ⟨p, vs, rfl, ⟨upd_same, hr.nin hp⟩, rl.step (hr.laidS hp)⟩)
theorem newL {K : W.Frag} {ι : Io} {H : Hp} {h : Hh} {ds : List D} {vs : List V} {Q : VK} (hr : HRel K ι H h) (rl : RelL K ι H ds vs) (q : Fin K E ι H ((pure (.lst ds) : M D) h) fun d ι' H' => ∀ v, Rel K ι' H' d v → Q v H') {p : Addr} (hp : H p = none) : Q (.ref p) (upd H p (.lst vs)) :=
  q ι _ (hr.laidS hp) (hr.laid hp) _ (by
    simp only [Rel]
    exact ⟨p, vs, rfl, ⟨upd_same, hr.nin hp⟩, rl.step (hr.laidS hp)⟩)
noncomputable def newCell (ds : List D) : M D := fun h => .ok (.cel h.length) (h ++ [.lst ds])
theorem newC {K : W.Frag} {ι : Io} {H : Hp} {h : Hh} {ds : List D} {vs : List V} {Q : VK} (hr : HRel K ι H h) (rl : RelL K ι H ds vs) (q : Fin K E ι H (newCell ds h) fun d ι' H' => ∀ v, Rel K ι' H' d v → Q v H') {p : Addr} (hp : H p = none) : Q (.ref p) (upd H p (.lst vs)) := by
  have hlen := hr.len
  have nh := hr.nin hp
  have st : Step ι H ⟨ι.c ++ [some p], ι.x⟩ (upd H p (.lst vs)) := by
    refine ⟨fun n o h => .inl ?_, fun a h => ?_, rfl, fun a ha => upd_ne fun z => nh (.inr (z ▸ ha)), fun b o' h _ => by rw [upd_ne (ne_of_none h hp)]; exact h⟩
    · show (ι.c ++ [some p])[n]? = _
      rw [List.getElem?_append_left (List.getElem?_eq_some_iff.mp h).1]; exact h
    · rcases List.mem_append.mp h with h | h
      · exact .inl h
      · simp at h; subst h; exact .inr hp
  have at_ : ∀ (n : Nat) (a : Addr), (ι.c ++ [some p])[n]? = some (some a) → (ι.c[n]? = some (some a)) ∨ (n = ι.c.length ∧ a = p) := fun n a h => by
    by_cases hl : n < ι.c.length
    · rw [List.getElem?_append_left hl] at h; exact .inl h
    · rw [List.getElem?_append_right (by omega)] at h
      have : n - ι.c.length = 0 := by
        cases z : n - ι.c.length with
        | zero => rfl
        | succ k => rw [z] at h; simp at h
      rw [this] at h
      simp at h
      exact .inr ⟨by omega, h.symm⟩
  refine q _ _ st ⟨?_, fun m n a h1 h2 => ?_, fun n a c h1 h2 => ?_, fun n h1 => ?_, fun a ha => ⟨?_, fun z => ?_⟩⟩ _ ?_
  · show (h ++ [C.lst ds]).length = (ι.c ++ [some p]).length
    rw [List.length_append, List.length_append, hlen]; rfl
  · rcases at_ m a h1 with z1 | ⟨z1, z1'⟩ <;> rcases at_ n a h2 with z2 | ⟨z2, z2'⟩
    · exact hr.inj m n a z1 z2
    · subst z2'; exact absurd (.inl (List.mem_of_getElem? z1)) nh
    · subst z1'; exact absurd (.inl (List.mem_of_getElem? z2)) nh
    · rw [z1, z2]
  · rcases at_ n a h1 with z1 | ⟨z1, z1'⟩
    · rw [List.getElem?_append_left (by rw [hlen]; exact (List.getElem?_eq_some_iff.mp z1).1)] at h2
      obtain ⟨ds', vs', e1, e2, e3⟩ := hr.at_ n a c z1 h2
      exact ⟨ds', vs', e1, by rw [upd_ne (ne_of_none e2 hp)]; exact e2, e3.step st⟩
    · subst z1 z1'
      rw [← hlen, List.getElem?_append_right (Nat.le_refl _)] at h2
      simp at h2
      exact ⟨ds, vs, h2.symm, upd_same, rl.step st⟩
  · have h1 : (ι.c ++ [some p])[n]? = some none := h1
    by_cases hl : n < ι.c.length
    · rw [List.getElem?_append_left hl] at h1
      rw [List.getElem?_append_left (by rw [hlen]; exact hl)]
      exact hr.dead n h1
    · rw [List.getElem?_append_right (by omega)] at h1
      cases z : n - ι.c.length with
      | zero => rw [z] at h1; simp at h1
      | succ k => rw [z] at h1; simp at h1
  · rw [upd_ne (show a ≠ p from fun z => nh (.inr (z ▸ ha)))]
    exact (hr.hidt a ha).1
  · rcases List.mem_append.mp z with z | z
    · exact (hr.hidt a ha).2 z
    · simp at z; subst z; exact nh (.inr ha)
  · simp only [Rel]
    refine ⟨p, rfl, .inl ?_⟩
    show (ι.c ++ [some p])[h.length]? = _
    rw [hlen, List.getElem?_append_right (Nat.le_refl _)]
    simp
theorem se_tup {x1} (h : SA X E es fs) : SE X E (.Tuple es x1 pos) (fun sd => do let ds ← fs sd; fits ds.length; pure (.tup ds)) := by
  refine PE.imp (pe_tup h) fun σ H Q ⟨ι, h, sd, L, hh, q⟩ => ⟨ι, h, sd, L, hh, Fin.bind q fun ds h1 ι1 H1 e1 s1 hr1 q1 vs rvs => ?_⟩
  obtain ⟨z, q2⟩ := Fin.fits q1
  exact ⟨by rw [← rvs.length]; exact z, fun p hp => newT hr1 rvs q2 hp⟩
theorem se_lst (h : SA X E es fs) : SE X E (.List es pos) (fun sd => do let ds ← fs sd; fits ds.length; pure (.lst ds)) := by
  refine PE.imp (pe_lst h) fun σ H Q ⟨ι, h, sd, L, hh, q⟩ => ⟨ι, h, sd, L, hh, Fin.bind q fun ds h1 ι1 H1 e1 s1 hr1 q1 vs rvs => ?_⟩
  obtain ⟨z, q2⟩ := Fin.fits q1
  exact ⟨by rw [← rvs.length]; exact z, fun p hp => newL hr1 rvs q2 hp⟩
theorem se_lstC (h : SA X E es fs) : SE X E (.List es pos) (fun sd => do let ds ← fs sd; fits ds.length; newCell ds) := by
  refine PE.imp (pe_lst h) fun σ H Q ⟨ι, h, sd, L, hh, q⟩ => ⟨ι, h, sd, L, hh, Fin.bind q fun ds h1 ι1 H1 e1 s1 hr1 q1 vs rvs => ?_⟩
  obtain ⟨z, q2⟩ := Fin.fits q1
  exact ⟨by rw [← rvs.length]; exact z, fun p hp => newC hr1 rvs q2 hp⟩
end
end L3
end
section
set_option maxHeartbeats 4000000
namespace L3
open PySem PySem.Spec PyProof.Rows L2
inductive Out where
  | nx (sd : Sd) | rt (d : D) | bk (sd : Sd) | ct (sd : Sd)
noncomputable def OutP (K : W.Frag) (D0 : Ends) : Out → Io → Hp → Prop
  | .nx sd', ι', H' => ∀ σ', LRel K ι' H' sd' σ' → D0.nx σ' H'
  | .rt d, ι', H' => ∀ v, Rel K ι' H' d v → D0.rt v H'
  | .bk sd', ι', H' => ∀ σ', LRel K ι' H' sd' σ' → D0.bk σ' H'
  | .ct sd', ι', H' => ∀ σ', LRel K ι' H' sd' σ' → D0.ct σ' H'
noncomputable def toTS (K : W.Frag) (E : XE) (G : Sd → M Out) : TS := fun D0 σ H => ∃ ι h sd, LRel K ι H sd σ ∧ HRel K ι H h ∧ Fin K E ι H (G sd h) (OutP K D0)
noncomputable abbrev SS (X : Cx) (E : XE) (st : Stmt) (G : Sd → M Out) : Prop := PS X st (toTS X.K E G)
noncomputable abbrev SSs (X : Cx) (E : XE) (st : List Stmt) (G : Sd → M Out) : Prop := PSs X st (toTS X.K E G)
noncomputable def andThen (o : Out) (g : Sd → M Out) : M Out := match o with
  | .nx sd => g sd
  | o => pure o
section
variable {X : Cx} {E : XE} {pos : Pos}
theorem ss_nil : SSs X E [] (fun sd => pure (.nx sd)) := PSs.imp pss_nil fun D0 σ H ⟨ι, h, sd, L, hh, q⟩ => Fin.out hh q σ L
theorem ss_cons {st : Stmt} {rest : List Stmt} {g g' : Sd → M Out} (h1 : SS X E st g) (h2 : SSs X E rest g') : SSs X E (st :: rest) (fun sd => do let o ← g sd; andThen o g') := by
  refine PSs.imp (pss_cons h1 h2) fun D0 σ H ⟨ι, h, sd, L, hh, q⟩ => ⟨ι, h, sd, L, hh, Fin.bind q fun o h1 ι1 H1 e1 s1 hr1 q1 => ?_⟩
  cases o with
  | nx sd' => exact fun σ' L' => ⟨ι1, h1, sd', L', hr1, q1⟩
  | rt d => exact Fin.out (E := E) (P := OutP X.K D0) hr1 q1
  | bk sd' => exact Fin.out (E := E) (P := OutP X.K D0) hr1 q1
  | ct sd' => exact Fin.out (E := E) (P := OutP X.K D0) hr1 q1
theorem ss_one {st : Stmt} {g : Sd → M Out} (h1 : SS X E st g) : SSs X E [st] g := pss_one h1
theorem s_expr {e : Expr} {f : Sd → M D} (he : SE X E e f) (hs : swapsWith e none pos.line X.env = pure false := by rfl) : SS X E (.Expr e pos) (fun sd => do let _ ← f sd; pure (.nx sd)) := by
  refine PS.imp (ps_expr he hs) fun D0 σ H ⟨ι, h, sd, L, hh, q⟩ => ⟨ι, h, sd, L, hh, Fin.bind q fun d h1 ι1 H1 e1 s1 hr1 q1 v rv => ?_⟩
  exact Fin.out hr1 q1 σ (L.step s1)
theorem s_ret {e : Expr} {f : Sd → M D} (he : SE X E e f) : SS X E (.Return (some e) pos) (fun sd => do let d ← f sd; pure (.rt d)) := by
  refine PS.imp (ps_ret he) fun D0 σ H ⟨ι, h, sd, L, hh, q⟩ => ⟨ι, h, sd, L, hh, Fin.bind q fun d h1 ι1 H1 e1 s1 hr1 q1 v rv => ?_⟩
  exact Fin.out hr1 q1 v rv
theorem s_if {c : Expr} {a b : List Stmt} {t : Sd → M Bool} {g g' : Sd → M Out} (hc : ST X E c t) (ha : SSs X E a g) (hb : SSs X E b g') : SS X E (.If c a b pos) (fun sd => do let c ← t sd; if c = true then g sd else g' sd) := by
  refine PS.imp (ps_if hc ha hb) fun D0 σ H ⟨ι, h, sd, L, hh, q⟩ => ⟨ι, h, sd, L, hh, Fin.bind q fun c h1 ι1 H1 e1 s1 hr1 q1 => ?_⟩
  cases c with
  | true => exact iteT ⟨ι1, h1, sd, L.step s1, hr1, q1⟩
  | false => exact iteF ⟨ι1, h1, sd, L.step s1, hr1, q1⟩
noncomputable def toTG (K : W.Frag) (E : XE) (g : D → Sd → M Sd) : TG := fun v σ H Q => ∃ ι h sd d, LRel K ι H sd σ ∧ HRel K ι H h ∧ Rel K ι H d v ∧ Fin K E ι H (g d sd h) fun sd' ι' H' => ∀ σ', LRel K ι' H' sd' σ' → Q σ' H'
noncomputable def toTGs (K : W.Frag) (E : XE) (g : List D → Sd → M Sd) : TGs := fun vs σ H Q => ∃ ι h sd ds, LRel K ι H sd σ ∧ HRel K ι H h ∧ RelL K ι H ds vs ∧ Fin K E ι H (g ds sd h) fun sd' ι' H' => ∀ σ', LRel K ι' H' sd' σ' → Q σ' H'
noncomputable abbrev SG (X : Cx) (E : XE) (tg : Expr) (g : D → Sd → M Sd) : Prop := PG X tg (toTG X.K E g)
noncomputable abbrev SGs (X : Cx) (E : XE) (tgs : List Expr) (g : List D → Sd → M Sd) : Prop := PGs X tgs (toTGs X.K E g)
noncomputable def gSet (i : Nat) : D → Sd → M Sd := fun d sd => pure (sd.set i (some d))
theorem sg_name (i : Nat) {x : Str} (hN : X.N.Nodup) (hi : X.N[i]? = some x) (hx : Loc X.env.scope x) (hf : X.fn x = true ∨ X.env.scope.names.lookup x = some .local) : SG X E (.Name x pos) (gSet i) := by
  refine PG.imp (pg_name hN hi hx hf) fun v σ H Q ⟨ι, h, sd, d, L, hh, r, q⟩ => ?_
  exact Fin.out hh q _ (L.set r i)
theorem PGs.imp {tgs : List Expr} {t t' : TGs} (h : PGs X tgs t) (m : ∀ v σ H Q, t' v σ H Q → t v σ H Q) : PGs X tgs t' := fun pins s σ H v u Q I r q => h pins s σ H v u Q I r (m _ _ _ _ q)
noncomputable def gsNil : List D → Sd → M Sd := fun ds sd => match ds with | [] => pure sd | _ => M.bad
noncomputable def gsCons (g : D → Sd → M Sd) (gs : List D → Sd → M Sd) : List D → Sd → M Sd := fun ds sd => match ds with
  | [] => M.bad
  | d :: r => do let sd1 ← g d sd; gs r sd1
theorem sgs_nil : SGs X E [] gsNil := by
  refine PGs.imp pgs_nil fun v σ H Q ⟨ι, h, sd, ds, L, hh, r, q⟩ => ?_
  cases ds with
  | nil => simp only [RelL] at r; exact ⟨r, Fin.out hh q _ L⟩
  | cons d r => exact False.elim q
theorem sgs_cons {e : Expr} {es : List Expr} {g : D → Sd → M Sd} {gs : List D → Sd → M Sd} (h1 : SG X E e g) (h2 : SGs X E es gs)
    (hs : (assignEach (e :: es) X.env).map (·.2) = assign e X.env :: (assignEach es X.env).map (·.2) := by rfl) : SGs X E (e :: es) (gsCons g gs) := by
  refine PGs.imp (pgs_cons h1 h2 hs) fun v σ H Q ⟨ι, h, sd, ds, L, hh, r, q⟩ => ?_
  cases ds with
  | nil => exact False.elim q
  | cons d ds =>
    simp only [RelL] at r
    obtain ⟨v1, vr, rfl, r1, r2⟩ := r
    refine ⟨v1, vr, rfl, ι, h, sd, d, L, hh, r1, Fin.bind q fun sd1 h1 ι1 H1 e1 s1 hr1 q1 σ1 L1 => ?_⟩
    exact ⟨ι1, h1, sd1, ds, L1, hr1, r2.step s1, q1⟩
noncomputable def gTupD (n : Nat) (gs : List D → Sd → M Sd) : D → Sd → M Sd := fun d sd => match d with
  | .tup ds => if ds.length = n then gs ds sd else M.bad
  | _ => M.bad
theorem relSqT {K : W.Frag} {ι : Io} {H : Hp} {ds : List D} {v : V} (h : Rel K ι H (.tup ds) v) : ∃ a vs, v = .ref a ∧ SqT K H a vs ∧ RelL K ι H ds vs := by
  simp only [Rel] at h
  obtain ⟨a, vs, e, h1, h2⟩ := h
  exact ⟨a, vs, e, .inl (.inl h1.1), h2⟩
theorem relSqS {K : W.Frag} {ι : Io} {H : Hp} {ds : List D} {v : V} (h : Rel K ι H (.scr ds) v) : ∃ a vs, v = .ref a ∧ SqL K H a vs ∧ RelL K ι H ds vs := by
  simp only [Rel] at h
  obtain ⟨a, vs, e, h1, h2⟩ := h
  refine ⟨a, vs, e, ?_, h2⟩
  rcases h1 with h1 | h1
  · exact .inl h1.1
  · rcases h1 with h1 | h1
    · rcases h1 with h1 | ⟨o, h1⟩ <;> cases h1
    · exact .inr h1
theorem relSqL {K : W.Frag} {ι : Io} {H : Hp} {ds : List D} {v : V} (h : Rel K ι H (.lst ds) v) : ∃ a vs, v = .ref a ∧ SqL K H a vs ∧ RelL K ι H ds vs := by
  simp only [Rel] at h
  obtain ⟨a, vs, e, h1, h2⟩ := h
  exact ⟨a, vs, e, .inl (.inl h1.1), h2⟩
theorem sg_tup {es : List Expr} {k : Nat} {gs : List D → Sd → M Sd} {n : Nat} (hc : X.calm = true) (h : SGs X E es gs)
    (hn : (assignEach es X.env).length = n := by rfl) (hst : (assignEach es X.env).findIdx? (·.1) = none := by rfl) : SG X E (.Tuple es k pos) (gTupD n gs) := by
  refine PG.imp (pg_tup hc h hn hst) fun v σ H Q ⟨ι, h, sd, d, L, hh, r, q⟩ => ?_
  cases d with
  | tup ds =>
    obtain ⟨a, vs, e, h1, h2⟩ := relSqT r
    have q : Fin X.K E ι H ((if ds.length = n then gs ds sd else M.bad) h) _ := q
    by_cases hl : ds.length = n
    · rw [if_pos hl] at q
      exact ⟨a, vs, e, h1, by rw [← h2.length]; exact hl, ι, h, sd, ds, L, hh, h2, q⟩
    · rw [if_neg hl] at q
      exact False.elim q
  | _ => exact False.elim q
theorem s_asg {tg e : Expr} {f : Sd → M D} {g : D → Sd → M Sd} (he : SE X E e f) (hg : SG X E tg g) (hs : swapsWithSole [tg] e pos.line X.env = pure false := by rfl) (hw : swappedStores [tg] e X.env = pure none := by rfl)
    (h1 : (assignEach [tg] X.env).map (·.2) = [assign tg X.env] := by rfl) : SS X E (.Assign [tg] e pos) (fun sd => do let d ← f sd; let sd' ← g d sd; pure (.nx sd')) := by
  refine PS.imp (ps_asg he hg hs hw h1) fun D0 σ H ⟨ι, h, sd, L, hh, q⟩ => ⟨ι, h, sd, L, hh, Fin.bind q fun d h1 ι1 H1 e1 s1 hr1 q1 v rv => ?_⟩
  exact ⟨ι1, h1, sd, d, L.step s1, hr1, rv, Fin.bind q1 fun sd' h2 ι2 H2 e2 s2 hr2 q2 => Fin.out hr2 q2⟩
theorem s_set (i : Nat) {x : Str} {e : Expr} {f : Sd → M D} {pos' : Pos} (hN : X.N.Nodup) (hi : X.N[i]? = some x) (hx : Loc X.env.scope x) (hf : X.fn x = true ∨ X.env.scope.names.lookup x = some .local) (he : SE X E e f) (hs : swapsWith e (some (.Name x pos')) pos.line X.env = pure false := by rfl) :
    SS X E (.Assign [.Name x pos'] e pos) (fun sd => do let d ← f sd; pure (.nx (sd.set i (some d)))) := by
  refine PS.imp (ps_set hN hi hx he hs hf) fun D0 σ H ⟨ι, h, sd, L, hh, q⟩ => ⟨ι, h, sd, L, hh, Fin.bind q fun d h1 ι1 H1 e1 s1 hr1 q1 v rv => ?_⟩
  exact Fin.out hr1 q1 _ ((L.step s1).set rv i)
noncomputable def Grow (H H2 : Hp) : Prop := H2 = H ∨ ∃ q vs, H q = none ∧ H2 = upd H q (.tup vs)
theorem Grow.step {K : W.Frag} {ι : Io} {H H2 : Hp} {h : Hh} (g : Grow H H2) (hr : HRel K ι H h) : Step ι H ι H2 ∧ HRel K ι H2 h := by
  rcases g with e | ⟨q, vs, hq, e⟩
  · subst e; exact ⟨Step.refl _ _, hr⟩
  · subst e; exact ⟨hr.laidS hq, hr.laid hq⟩
structure ItOk (K : W.Frag) (ι : Io) (H : Hp) (J : It) (ds : List D) : Prop where
  go : ∀ ι' H' (i : Nat), Pass ι H ι' H' → i < ds.length → J.go i H'
  yld : ∀ ι' H' h (i : Nat) x H2, Pass ι H ι' H' → HRel K ι' H' h → i < ds.length → J.yld i H' x H2 → Grow H' H2 ∧ ∃ d, ds[i]? = some d ∧ Rel K ι' H2 d x
  stop : ∀ ι' H', Pass ι H ι' H' → J.stop ds.length H'
noncomputable def toTI (K : W.Frag) (E : XE) (f : Sd → M (List D)) : TI := fun σ H Q => ∃ ι h sd, LRel K ι H sd σ ∧ HRel K ι H h ∧ Fin K E ι H (f sd h) fun ds ι' H' => ∀ J, ItOk K ι' H' J ds → Q J H'
noncomputable abbrev SI (X : Cx) (E : XE) (tg iter : Expr) (f : Sd → M (List D)) : Prop := PI X tg iter (toTI X.K E f)
noncomputable def dItems : D → M (List D)
  | .tup ds => pure ds
  | .lst ds => pure ds
  | _ => M.bad
theorem itOk_tup {K : W.Frag} {ι : Io} {H : Hp} {a : Addr} {vs : List V} {ds : List D} (h : ∀ ι' H', Pass ι H ι' H' → SqT K H' a vs) (rl : RelL K ι H ds vs) : ItOk K ι H (Itt K a) ds where
  go := fun ι' H' i s hi => ⟨vs, vs[i]'(by rw [← rl.length]; exact hi), h ι' H' s, by simp⟩
  yld := fun ι' H' _ i x H2 s _ hi ⟨e, y⟩ => by
    subst e
    have hx := y vs (h ι' _ s)
    obtain ⟨d, e1, e2⟩ := rl.getV hx
    exact ⟨.inl rfl, d, e1, e2.pass s⟩
  stop := fun ι' H' s => ⟨vs, h ι' H' s, by rw [rl.length]; exact Nat.le_refl _⟩
theorem itOk_lst {K : W.Frag} {ι : Io} {H : Hp} {a : Addr} {vs : List V} {ds : List D} (h : ∀ ι' H', Pass ι H ι' H' → SqL K H' a vs) (rl : RelL K ι H ds vs) : ItOk K ι H (Itl K a) ds where
  go := fun ι' H' i s hi => ⟨vs, vs[i]'(by rw [← rl.length]; exact hi), h ι' H' s, by simp⟩
  yld := fun ι' H' _ i x H2 s _ hi ⟨e, y⟩ => by
    subst e
    have hx := y vs (h ι' _ s)
    obtain ⟨d, e1, e2⟩ := rl.getV hx
    exact ⟨.inl rfl, d, e1, e2.pass s⟩
  stop := fun ι' H' s => ⟨vs, h ι' H' s, by rw [rl.length]; exact Nat.le_refl _⟩
theorem Pass.refl (ι : Io) (H : Hp) : Pass ι H ι H := (Step.refl ι H).pass
theorem stepSqT {K : W.Frag} {ι : Io} {H : Hp} {ds : List D} {v : V} (h : Rel K ι H (.tup ds) v) : ∃ a vs, v = .ref a ∧ (∀ ι' H', Pass ι H ι' H' → SqT K H' a vs) ∧ RelL K ι H ds vs := by
  simp only [Rel] at h
  obtain ⟨a, vs, e, h1, h2⟩ := h
  exact ⟨a, vs, e, fun ι' H' s => .inl (.inl (s.keep _ _ h1.1 h1.2).1), h2⟩
theorem stepSqL {K : W.Frag} {ι : Io} {H : Hp} {ds : List D} {v : V} (h : Rel K ι H (.lst ds) v) : ∃ a vs, v = .ref a ∧ (∀ ι' H', Pass ι H ι' H' → SqL K H' a vs) ∧ RelL K ι H ds vs := by
  simp only [Rel] at h
  obtain ⟨a, vs, e, h1, h2⟩ := h
  exact ⟨a, vs, e, fun ι' H' s => .inl (.inl (s.keep _ _ h1.1 h1.2).1), h2⟩
end
end L3
end
section
set_option maxHeartbeats 4000000
namespace L2
open PySem PySem.Spec PyProof.Rows
noncomputable def iSeq (K : W.Frag) (tl : TE) : TI := fun σ H R => tl σ H fun x H1 => ∃ a, x = .ref a ∧ (((∃ xs, SqL K H1 a xs) ∧ R (Itl K a) H1) ∨ ((∃ xs, SqT K H1 a xs) ∧ R (Itt K a) H1))
theorem pi_seq {X : Cx} {tg : Expr} {l : Expr} {tl : TE} (hl : PE X l tl) : PI X tg l (iSeq X.K tl) := by
  intro pins s σ H R I h
  refine thn (hl pins s σ H _ I h) fun v s1 ⟨x, H1, I1, r1, q1⟩ => ?_
  obtain ⟨a, e, ⟨⟨xs, hq⟩, q⟩ | ⟨⟨xs, hq⟩, q⟩⟩ := q1
  · subst e
    cases r1
    obtain ⟨its, rv, p, hz⟩ := I1.list hq
    refine wpAny_pyIter_list p.isList ?_
    refine ⟨s1.heap.objs.size, [s1.heap.objs.size], _, _, H1, rfl, I1.kept (t' := s1.toks) fun b o e => Heap.get?_push_of_some _ e, turn_list a _, ⟨_, Heap.get?_push_size _ rfl, rfl, rfl⟩, fun b hb => ?_, q⟩
    have e : b = s1.heap.objs.size := by simpa using hb
    subst e
    exact I1.fpOk (Nat.le_refl _) (I1.hok.fresh (Nat.le_refl _))
  · subst e
    cases r1
    obtain ⟨its, rv, p, hz⟩ := I1.tuple hq
    refine wpAny_pyIter_tuple (show s1.heap.IsTuple a its.toArray from p) ?_
    refine ⟨s1.heap.objs.size, [s1.heap.objs.size], _, _, H1, rfl, I1.kept (t' := s1.toks) fun b o e => Heap.get?_push_of_some _ e, turn_tuple a _, ⟨_, Heap.get?_push_size _ rfl, rfl, rfl⟩, fun b hb => ?_, q⟩
    have e : b = s1.heap.objs.size := by simpa using hb
    subst e
    exact I1.fpOk (Nat.le_refl _) (I1.hok.fresh (Nat.le_refl _))
end L2
namespace L3
open PySem PySem.Spec PyProof.Rows L2
section
variable {X : Cx} {E : XE} {pos : Pos}
theorem si_seq {tg e : Expr} {f : Sd → M D} (he : SE X E e f) : SI X E tg e (fun sd => do let d ← f sd; dItems d) := by
  refine PI.imp (pi_seq he) fun σ H Q ⟨ι, h, sd, L, hh, q⟩ => ⟨ι, h, sd, L, hh, Fin.bind q fun d h1 ι1 H1 e1 s1 hr1 q1 v rv => ?_⟩
  cases d with
  | lst ds =>
    obtain ⟨a, vs, e, h1', h2⟩ := stepSqL rv
    exact ⟨a, e, .inl ⟨⟨vs, h1' _ _ (Pass.refl _ _)⟩, Fin.out hr1 q1 _ (itOk_lst h1' h2)⟩⟩
  | tup ds =>
    obtain ⟨a, vs, e, h1', h2⟩ := stepSqT rv
    exact ⟨a, e, .inr ⟨⟨vs, h1' _ _ (Pass.refl _ _)⟩, Fin.out hr1 q1 _ (itOk_tup h1' h2)⟩⟩
  | _ => exact False.elim q1
noncomputable def rngD (lo : Int) (n : Nat) : List D := (List.range n).map fun (k : Nat) => D.int (lo + (k : Int))
theorem itOk_rng {K : W.Frag} {ι : Io} {H : Hp} {lo : Int} {n : Nat} : ItOk K ι H (Itr lo n) (rngD lo n) where
  go := fun ι' H' i s hi => by show i < n; simpa [rngD] using hi
  yld := fun ι' H' _ i x H2 s _ hi ⟨e, y⟩ => by
    subst e y
    have hi : i < n := by simpa [rngD] using hi
    refine ⟨.inl rfl, .int (lo + i), ?_, by simp [Rel]⟩
    simp [rngD, hi]
  stop := fun ι' H' s => by
    show n ≤ (rngD lo n).length
    simp [rngD]
noncomputable def small62 (j : Int) : Bool := decide (-(2 ^ 62) ≤ j) && decide (j < 2 ^ 62)
noncomputable def dRng1 : List D → M (List D)
  | [.int j] => if small62 j = true then pure (rngD 0 j.toNat) else M.bad
  | _ => M.bad
theorem small62_iff {j : Int} (h : small62 j = true) : -(2 ^ 62) ≤ j ∧ j < 2 ^ 62 := by
  unfold small62 at h
  simpa using h
theorem si_rng1 {tg a : Expr} {p : Pos} {fs : Sd → M (List D)} (hg : Gl X "range") (hm : X.mg "range" = none) (ha : SA X E [a] fs) (hs : starEach [a] X.env = [(false, eval a X.env)] := by rfl) :
    SI X E tg (.Call (.Name "range" p) [a] [] pos) (fun sd => do let ds ← fs sd; dRng1 ds) := by
  refine PI.imp (pi_range1 hg hm ha hs) fun σ H Q ⟨ι, h, sd, L, hh, q⟩ => ⟨ι, h, sd, L, hh, Fin.bind q fun ds h1 ι1 H1 e1 s1 hr1 q1 vs rv => ?_⟩
  match ds, rv, q1 with
  | [.int j], rv, q1 =>
    simp only [RelL, Rel] at rv
    obtain ⟨v, r, rfl, rfl, rfl⟩ := rv
    have q1 : Fin X.K E ι1 H1 ((if small62 j = true then (pure (rngD 0 j.toNat) : M (List D)) else M.bad) h1) _ := q1
    by_cases hj : small62 j = true
    · rw [if_pos hj] at q1
      exact ⟨j, rfl, (small62_iff hj).1, (small62_iff hj).2, Fin.out hr1 q1 _ itOk_rng⟩
    · rw [if_neg hj] at q1
      exact False.elim q1
  | [], _, q1 => exact False.elim q1
  | .non :: _, _, q1 => exact False.elim q1
  | .bl _ :: _, _, q1 => exact False.elim q1
  | .str _ :: _, _, q1 => exact False.elim q1
  | .tup _ :: _, _, q1 => exact False.elim q1
  | .lst _ :: _, _, q1 => exact False.elim q1
  | .cel _ :: _, _, q1 => exact False.elim q1
  | .set _ :: _, _, q1 => exact False.elim q1
  | .dct :: _, _, q1 => exact False.elim q1
  | .fn _ :: _, _, q1 => exact False.elim q1
  | .scr _ :: _, _, q1 => exact False.elim q1
  | .exn _ :: _, _, q1 => exact False.elim q1
  | .int _ :: _ :: _, _, q1 => exact False.elim q1
noncomputable def fLoop (body : D → Sd → M Out) : List D → Sd → M Out
  | [], sd => pure (.nx sd)
  | x :: r, sd => do
    let o ← body x sd
    match o with
    | .nx sd' => fLoop body r sd'
    | .ct sd' => fLoop body r sd'
    | .bk sd' => pure (.nx sd')
    | .rt d => pure (.rt d)
theorem s_for {tg iter : Expr} {body : List Stmt} {fi : Sd → M (List D)} {g : D → Sd → M Sd} {gb : Sd → M Out} (hc : X.calm = true) (hp : PassesOwn (model X.prog X.w) X.A X.env X.xe) (hi : SI X E tg iter fi) (hg : SG X E tg g) (hb : SSs X E body gb)
    (hs : ∀ x, foldedSetIterable iter X.env x = pure x := by intro _; rfl) : SS X E (.For tg iter body [] pos) (fun sd => do let ds ← fi sd; fLoop (fun x sd => do let sd1 ← g x sd; gb sd1) ds sd) := by
  refine PS.imp (ps_for hp hc hi hg hb hs) fun D0 σ H ⟨ι, h, sd, L, hh, q⟩ => ⟨ι, h, sd, L, hh, Fin.bind q fun ds h1 ι1 H1 e1 s1 hr1 q1 J ok => ?_⟩
  refine ⟨fun i m σ' H' => m = ds.length - i ∧ i ≤ ds.length ∧ ∃ ι' h' sd', Step ι1 H1 ι' H' ∧ LRel X.K ι' H' sd' σ' ∧ HRel X.K ι' H' h' ∧ Fin X.K E ι' H' (fLoop (fun x sd => do let sd1 ← g x sd; gb sd1) (ds.drop i) sd' h') (OutP X.K D0),
    ⟨_, rfl, Nat.zero_le _, ι1, h1, sd, Step.refl _ _, L.step s1, hr1, by simpa using q1⟩, ?_⟩
  rintro i m σ2 H2 ⟨rfl, hi2, ι2, h2, sd2, s2, L2, hr2, q2⟩
  by_cases hlt : i < ds.length
  · right
    refine ⟨ok.go ι2 H2 i s2.pass hlt, fun σ' H' => i + 1 ≤ ds.length ∧ ∃ ι' h' sd', Step ι1 H1 ι' H' ∧ LRel X.K ι' H' sd' σ' ∧ HRel X.K ι' H' h' ∧ Fin X.K E ι' H' (fLoop (fun x sd => do let sd1 ← g x sd; gb sd1) (ds.drop (i + 1)) sd' h') (OutP X.K D0),
      fun σ' H' p => ⟨ds.length - (i + 1), by omega, rfl, p.1, p.2⟩, fun x H3 y => ?_⟩
    obtain ⟨gr, d, ed, rd⟩ := ok.yld ι2 H2 h2 i x H3 s2.pass hr2 hlt y
    obtain ⟨s3, hr3⟩ := gr.step hr2
    have edr : ds.drop i = d :: ds.drop (i + 1) := by
      rw [List.drop_eq_getElem_cons hlt]
      rw [List.getElem?_eq_getElem hlt] at ed
      rw [Option.some.inj ed]
    rw [edr] at q2
    have q3 : Fin X.K E ι2 H3 (fLoop (fun x sd => do let sd1 ← g x sd; gb sd1) (d :: ds.drop (i + 1)) sd2 h2) (OutP X.K D0) := Fin.step s3 q2
    refine ⟨ι2, h2, sd2, d, L2.step s3, hr3, rd, ?_⟩
    have q5 : Fin X.K E ι2 H3 ((g d sd2 >>= fun sd1 => (gb sd1 >>= fun o => (match o with
      | .nx sd' => fLoop (fun x sd => do let sd1 ← g x sd; gb sd1) (ds.drop (i + 1)) sd'
      | .ct sd' => fLoop (fun x sd => do let sd1 ← g x sd; gb sd1) (ds.drop (i + 1)) sd'
      | .bk sd' => pure (.nx sd')
      | .rt d => pure (.rt d) : M Out))) h2) (OutP X.K D0) := by
      have e : (fLoop (fun x sd => do let sd1 ← g x sd; gb sd1) (d :: ds.drop (i + 1)) sd2 h2) = ((g d sd2 >>= fun sd1 => (gb sd1 >>= fun o => (match o with
        | .nx sd' => fLoop (fun x sd => do let sd1 ← g x sd; gb sd1) (ds.drop (i + 1)) sd'
        | .ct sd' => fLoop (fun x sd => do let sd1 ← g x sd; gb sd1) (ds.drop (i + 1)) sd'
        | .bk sd' => pure (.nx sd')
        | .rt d => pure (.rt d) : M Out))) h2) := by
        show M.bind (M.bind (g d sd2) gb) _ h2 = M.bind (g d sd2) _ h2
        unfold M.bind
        cases g d sd2 h2 <;> rfl
      rw [← e]
      exact q3
    refine Fin.bind q5 fun sd6 h6 ι6 H6 e6 s6 hr6 q6 σ6 L6 => ?_
    refine ⟨ι6, h6, sd6, L6, hr6, Fin.bind q6 fun o h7 ι7 H7 e7 s7 hr7 q7 => ?_⟩
    have st7 : Step ι1 H1 ι7 H7 := ((s2.trans s3).trans s6).trans s7
    cases o with
    | nx sd' => exact fun σ' L' => ⟨hlt, ι7, h7, sd', st7, L', hr7, q7⟩
    | ct sd' => exact fun σ' L' => ⟨hlt, ι7, h7, sd', st7, L', hr7, q7⟩
    | bk sd' => exact fun σ' L' => Fin.out (E := E) (P := OutP X.K D0) hr7 q7 σ' L'
    | rt d => exact fun v rv => Fin.out (E := E) (P := OutP X.K D0) hr7 q7 v rv
  · left
    have e : i = ds.length := by omega
    subst e
    refine ⟨ok.stop ι2 H2 s2.pass, ?_⟩
    rw [List.drop_length] at q2
    exact Fin.out (E := E) (P := OutP X.K D0) hr2 q2 σ2 L2
noncomputable def cLoop (f : D → M (Option D)) : List D → M (List D)
  | [] => pure []
  | x :: r => do
    let o ← f x
    let ys ← cLoop f r
    pure (match o with | some y => y :: ys | none => ys)
noncomputable def cTurn (g : D → Sd → M Sd) (tc : Sd → M Bool) (te : Sd → M D) (sd : Sd) (x : D) : M (Option D) := do
  let sd1 ← g x sd
  let c ← tc sd1
  if c = true then do
    let y ← te sd1
    pure (some y)
  else pure none
end
end L3
end
section
set_option maxHeartbeats 4000000
namespace L3
open PySem PySem.Spec PyProof.Rows L2
noncomputable def Io.hide (ι : Io) (p : Addr) : Io := ⟨ι.c, p :: ι.x⟩
noncomputable def Io.show (ι : Io) : Io := ⟨ι.c, ι.x.tail⟩
theorem has_show {ι : Io} {a : Addr} (h : ι.show.Has a) : ι.Has a := h.imp id List.mem_of_mem_tail
section
variable {K : W.Frag} {ι ι' : Io} {H H' : Hp} {p : Addr} {o : HO} {h : Hh}
theorem pass_hide (hp : H p = none) : Pass ι H (ι.hide p) (upd H p o) := ⟨fun _ _ z => .inl z, fun b o' hb n => ⟨by rw [upd_ne (ne_of_none hb hp)]; exact hb, fun z => by
  rcases z with z | z
  · exact n (.inl z)
  · rcases List.mem_cons.mp z with z | z
    · rw [z, hp] at hb; cases hb
    · exact n (.inr z)⟩⟩
theorem pass_show : Pass ι H ι.show H := ⟨fun _ _ z => .inl z, fun b o' hb n => ⟨hb, fun z => n (has_show z)⟩⟩
theorem pass_hid (hp : p ∈ ι.x) : Pass ι H ι (upd H p o) := ⟨fun _ _ z => .inl z, fun b o' hb n => ⟨by rw [upd_ne (show b ≠ p from fun z => n (.inr (z ▸ hp)))]; exact hb, n⟩⟩
theorem HRel.hide (hr : HRel K ι H h) (hp : H p = none) : HRel K (ι.hide p) (upd H p o) h :=
  ⟨hr.len, hr.inj, fun n a c h1 h2 => by
    obtain ⟨ds, vs, e1, e2, e3⟩ := hr.at_ n a c h1 h2
    exact ⟨ds, vs, e1, by rw [upd_ne (ne_of_none e2 hp)]; exact e2, e3.pass (pass_hide hp)⟩, hr.dead, fun a ha => by
    rcases List.mem_cons.mp ha with z | z
    · subst z; exact ⟨⟨o, upd_same⟩, fun z => hr.nin hp (.inl z)⟩
    · refine ⟨?_, (hr.hidt a z).2⟩
      rw [upd_ne (show a ≠ p from fun w => hr.nin hp (.inr (w ▸ z)))]
      exact (hr.hidt a z).1⟩
theorem HRel.hid (hr : HRel K ι H h) (hp : p ∈ ι.x) : HRel K ι (upd H p o) h :=
  ⟨hr.len, hr.inj, fun n a c h1 h2 => by
    obtain ⟨ds, vs, e1, e2, e3⟩ := hr.at_ n a c h1 h2
    have ne : a ≠ p := fun z => (hr.hidt p hp).2 (z ▸ List.mem_of_getElem? h1)
    exact ⟨ds, vs, e1, by rw [upd_ne ne]; exact e2, e3.pass (pass_hid hp)⟩, hr.dead, fun a ha => by
    refine ⟨?_, (hr.hidt a ha).2⟩
    by_cases z : a = p
    · subst z; exact ⟨o, upd_same⟩
    · rw [upd_ne z]; exact (hr.hidt a ha).1⟩
theorem HRel.show (hr : HRel K ι H h) : HRel K ι.show H h :=
  ⟨hr.len, hr.inj, fun n a c h1 h2 => by
    obtain ⟨ds, vs, e1, e2, e3⟩ := hr.at_ n a c h1 h2
    exact ⟨ds, vs, e1, e2, e3.pass pass_show⟩, hr.dead, fun a ha => hr.hidt a (List.mem_of_mem_tail ha)⟩
theorem step_turn {ι1 ι2 : Io} {H1 H2 : Hp} (hp : H p = none) (hpx : p ∉ ι.x) (hx : ι1.x = p :: ι.x) (s : Step ι H ι1.show H1) (t : Step ι1 H1 ι2 H2) : Step ι H ι2.show (upd H2 p o) where
  old := fun n q h => by
    rcases s.old n q h with h | h
    · exact t.old n q h
    · rcases t.old n _ h with h | h <;> exact .inr h
  new := fun a h => by
    rcases t.new a h with h | h
    · exact s.new a h
    · by_cases z : some a ∈ ι.c
      · exact .inl z
      · refine .inr ?_
        cases q : H a with
        | none => rfl
        | some o =>
          by_cases z' : a ∈ ι.x
          · rw [s.hidk a z', q] at h; cases h
          · rw [s.keep a o q (fun w => w.elim z z')] at h; cases h
  hid := by
    show ι2.x.tail = ι.x
    rw [t.hid, hx]
    rfl
  hidk := fun a ha => by
    have z : a ≠ p := fun z => hpx (z ▸ ha)
    rw [upd_ne z, t.hidk a (by rw [hx]; exact List.mem_cons_of_mem _ ha)]
    exact s.hidk a ha
  keep := fun b q hb n => by
    have ne : b ≠ p := ne_of_none hb hp
    rw [upd_ne ne]
    refine t.keep b q (s.keep b q hb n) fun z => ?_
    rcases z with z | z
    · rcases s.new b z with z | z
      · exact n (.inl z)
      · rw [hb] at z; cases z
    · rw [hx] at z
      rcases List.mem_cons.mp z with z | z
      · exact ne z
      · exact n (.inr z)
theorem Step.shown {ι2 : Io} {H2 : Hp} {r : List Addr} (hx : ι.x = p :: r) (t : Step ι H ι2 H2) : Step ι.show H ι2.show H2 where
  old := t.old
  new := t.new
  hid := by show ι2.x.tail = ι.x.tail; rw [t.hid]
  hidk := fun a ha => t.hidk a (List.mem_of_mem_tail ha)
  keep := fun b q hb n => by
    by_cases z : b = p
    · subst z
      rw [t.hidk b (by rw [hx]; exact List.mem_cons_self)]
      exact hb
    · refine t.keep b q hb fun w => ?_
      rcases w with w | w
      · exact n (.inl w)
      · rw [hx] at w
        rcases List.mem_cons.mp w with w | w
        · exact z w
        · exact n (.inr (by show b ∈ ι.x.tail; rw [hx]; exact w))
theorem Fin.bindB {α β : Type} {E : XE} {m : M α} {f : α → M β} {P : β → Io → Hp → Prop} {P' : α → Io → Hp → Prop} {ιb : Io} {Hb : Hp} (q : Fin K E ιb Hb ((m >>= f) h) P)
    (conv : ∀ ι' H' h', Step ι H ι' H' → HRel K ι' H' h' → ∃ ι'', Step ιb Hb ι'' H' ∧ HRel K ι'' H' h')
    (k : ∀ a h' ι' H', m h = .ok a h' → Step ι H ι' H' → HRel K ι' H' h' → Fin K E ιb Hb (f a h') P → P' a ι' H') : Fin K E ι H (m h) P' := by
  have q' : Fin K E ιb Hb (M.bind m f h) P := q
  unfold M.bind at q'
  cases e : m h with
  | ok a h' =>
    rw [e] at q'
    intro ι' H' s hr
    exact k a h' ι' H' e s hr q'
  | exc c h' =>
    rw [e] at q'
    intro ι' H' s hr
    obtain ⟨ι'', s2, hr2⟩ := conv ι' H' h' s hr
    exact q' _ _ s2 hr2
  | bad => rw [e] at q'; exact q'
end
noncomputable instance : LawfulMonad M := LawfulMonad.mk' M
  (id_map := fun x => by
    funext h
    show M.bind x (fun a => M.pure (id a)) h = x h
    unfold M.bind M.pure
    cases x h <;> rfl)
  (pure_bind := fun x f => rfl)
  (bind_assoc := fun x f g => by
    funext h
    show M.bind (M.bind x f) g h = M.bind x (fun a => M.bind (f a) g) h
    unfold M.bind
    cases x h <;> rfl)
noncomputable def bStartD (src : List (Option Nat)) (sd : Sd) : Sd := src.map fun o => o.bind fun i => (sd[i]?).join
theorem LRel.bStart {K : W.Frag} {ι : Io} {H : Hp} {sd : Sd} {σ : L2.St} {src : List (Option Nat)} (h : LRel K ι H sd σ) : LRel K ι H (bStartD src sd) (bStart src σ) := by
  refine ⟨by unfold bStartD L2.bStart; rw [List.length_map, List.length_map], fun i d e => ?_⟩
  unfold bStartD at e
  unfold L2.bStart
  rw [List.getElem?_map] at e ⊢
  cases z : src[i]? with
  | none => rw [z] at e; cases e
  | some o =>
    rw [z] at e
    cases o with
    | none => cases e
    | some j =>
      have e : (sd[j]?).join = some d := by simpa using e
      cases w : sd[j]? with
      | none => rw [w] at e; cases e
      | some q =>
        rw [w] at e
        have e : q = some d := by simpa using e
        subst e
        obtain ⟨v, h1, h2⟩ := h.2 j d w
        exact ⟨v, by simp [h1], h2⟩
noncomputable def GKeeps (g : D → Sd → M Sd) (src : List (Option Nat)) : Prop := ∀ x sd h sd1 h1, sd.length = src.length → (∀ (i : Nat), src[i]? = some none → sd[i]? = some none) → g x sd h = .ok sd1 h1 → sd1.length = sd.length ∧ ∀ (i : Nat) d, src[i]? ≠ some none → sd[i]? = some (some d) → sd1[i]? = some (some d)
noncomputable def GsKeeps (g : List D → Sd → M Sd) (src : List (Option Nat)) : Prop := ∀ x sd h sd1 h1, g x sd h = .ok sd1 h1 → sd1.length = sd.length ∧ ∀ (i : Nat) d, src[i]? ≠ some none → sd[i]? = some (some d) → sd1[i]? = some (some d)
theorem keeps_set {i : Nat} {src : List (Option Nat)} (h : src[i]? = some none) : ∀ x sd h sd1 h1, gSet i x sd h = .ok sd1 h1 → sd1.length = sd.length ∧ ∀ (j : Nat) d, src[j]? ≠ some none → sd[j]? = some (some d) → sd1[j]? = some (some d) := fun x sd h0 sd1 h1 e => by
  have e : R.ok (sd.set i (some x)) h0 = .ok sd1 h1 := e
  cases e
  refine ⟨List.length_set, fun j d hj e => ?_⟩
  rw [List.getElem?_set_ne (show i ≠ j from fun z => hj (z ▸ h))]
  exact e
theorem GKeeps.name {i : Nat} {src : List (Option Nat)} (h : src[i]? = some none) : GKeeps (gSet i) src := fun x sd h0 sd1 h1 _ _ e => keeps_set h x sd h0 sd1 h1 e
theorem GsKeeps.nil {src : List (Option Nat)} : GsKeeps gsNil src := fun x sd h sd1 h1 e => by
  cases x with
  | nil =>
    have e : R.ok sd h = .ok sd1 h1 := e
    cases e
    exact ⟨rfl, fun _ _ _ z => z⟩
  | cons _ _ => cases (show R.bad = R.ok sd1 h1 from e)
theorem GsKeeps.cons {i : Nat} {gs : List D → Sd → M Sd} {src : List (Option Nat)} (h : src[i]? = some none) (t : GsKeeps gs src) : GsKeeps (gsCons (gSet i) gs) src := fun x sd h0 sd1 h1 e => by
  cases x with
  | nil => cases (show R.bad = R.ok sd1 h1 from e)
  | cons d r =>
    have e : gs r (sd.set i (some d)) h0 = .ok sd1 h1 := e
    obtain ⟨e1, e2⟩ := t r _ h0 sd1 h1 e
    refine ⟨by rw [e1, List.length_set], fun j d' hj z => e2 j d' hj ?_⟩
    rw [List.getElem?_set_ne (show i ≠ j from fun z => hj (z ▸ h))]
    exact z
theorem GKeeps.tup {n : Nat} {gs : List D → Sd → M Sd} {src : List (Option Nat)} (t : GsKeeps gs src) : GKeeps (gTupD n gs) src := fun x sd h0 sd1 h1 _ _ e => by
  cases x with
  | tup ds =>
    have e : (if ds.length = n then gs ds sd else M.bad) h0 = .ok sd1 h1 := e
    by_cases hl : ds.length = n
    · rw [if_pos hl] at e; exact t _ _ _ _ _ e
    · rw [if_neg hl] at e; cases (show R.bad = R.ok sd1 h1 from e)
  | _ => cases (show R.bad = R.ok sd1 h1 from e)
section
variable {X : Cx} {E : XE} {scope : Scope} {N : List Str} {src : List (Option Nat)} {tg iter elt : Expr} {ifs : List Expr} {pos : Pos}
noncomputable abbrev SCs (X : Cx) (E : XE) (ifs : List Expr) (t : Sd → M Bool) : Prop := PCs X ifs (toTT X.K E t)
theorem sc_nil : SCs X E [] (fun _ => pure true) := fun pins s σ H Q I ⟨ι, h, sd, L, hh, q⟩ => pcs_nil pins s σ H Q I (Fin.out hh q)
theorem sc_one {c : Expr} {t : Sd → M Bool} (h : ST X E c t) : SCs X E [c] t := pcs_one h
theorem blk {K : W.Frag} {g : D → Sd → M Sd} {tc : Sd → M Bool} {te : Sd → M D} {J : It} {ds : List D} {ι : Io} {H : Hp} {h : Hh} {sd : Sd} {σ : L2.St} {Q : VK} {p : Addr} (hk : GKeeps g src) (L : LRel K ι H sd σ) (hr : HRel K ι H h) (ok : ItOk K ι H J ds) (hz : ds.length ≤ sizeLine)
    (q : Fin K E ι H ((do let ys ← cLoop (cTurn g tc te (bStartD src sd)) ds; pure (D.lst ys)) h) fun d ι' H' => ∀ v, Rel K ι' H' d v → Q v H') (hp : H p = none) :
    tBlk J (toTG K E g) (toTT K E tc) (toTE K E te) (bStart src σ) H p fun H' => Q (.ref p) H' := by
  generalize hP : (fun (d : D) (ι' : Io) (H' : Hp) => ∀ v, Rel K ι' H' d v → Q v H') = P at q
  generalize hf : cTurn g tc te (bStartD src sd) = f at q
  have hpx : p ∉ ι.x := fun z => hr.nin hp (.inr z)
  have h0len : (bStartD src sd).length = src.length := by unfold bStartD; rw [List.length_map]
  have h0non : ∀ (i : Nat), src[i]? = some none → (bStartD src sd)[i]? = some none := fun i e => by unfold bStartD; rw [List.getElem?_map, e]; rfl
  refine ⟨fun i m σ' H' => m = ds.length - i ∧ i ≤ ds.length ∧ ∃ ι' h' done vs, ι'.x = p :: ι.x ∧ Step ι H ι'.show H' ∧ LRel K ι' H' (bStartD src sd) σ' ∧ HRel K ι' H' h' ∧ H' p = some (.lst vs) ∧ RelL K ι' H' done vs ∧ done.length ≤ i ∧
      Fin K E ι H ((do let ys ← cLoop f (ds.drop i); pure (D.lst (done ++ ys))) h') P,
    ⟨_, rfl, Nat.zero_le _, ι.hide p, h, [], [], rfl, ?_, L.bStart.pass (pass_hide hp), hr.hide hp, upd_same, RelL.nil, Nat.le_refl _, ?_⟩, ?_⟩
  · have := hr.laidS (o := .lst []) hp
    exact ⟨this.old, this.new, this.hid, this.hidk, this.keep⟩
  · simpa using q
  rintro i m σ2 H2 ⟨rfl, hi2, ι2, h2, done, vs, hx2, s2, L2, hr2, e2, rl2, dl2, q2⟩
  have ps2 : Pass ι H ι2 H2 := ⟨s2.old, fun b o hb n => ⟨s2.keep b o hb n, fun z => by
    rcases z with z | z
    · exact s2.nin hb n (.inl z)
    · rw [hx2] at z
      rcases List.mem_cons.mp z with z | z
      · rw [z, hp] at hb; cases hb
      · exact n (.inr z)⟩⟩
  have hp2 : p ∈ ι2.x := by rw [hx2]; exact List.mem_cons_self
  have base : ∀ {ι' : Io} {H' : Hp}, Step ι2 H2 ι' H' → Step ι H ι'.show H' := fun t => s2.trans (t.shown hx2)
  by_cases hlt : i < ds.length
  · right
    refine ⟨ok.go ι2 H2 i ps2 hlt, fun σ' H' => i + 1 ≤ ds.length ∧ ∃ ι' h' done vs, ι'.x = p :: ι.x ∧ Step ι H ι'.show H' ∧ LRel K ι' H' (bStartD src sd) σ' ∧ HRel K ι' H' h' ∧ H' p = some (.lst vs) ∧ RelL K ι' H' done vs ∧ done.length ≤ i + 1 ∧
      Fin K E ι H ((do let ys ← cLoop f (ds.drop (i + 1)); pure (D.lst (done ++ ys))) h') P, fun σ' H' z => ⟨ds.length - (i + 1), by omega, rfl, z.1, z.2⟩, fun x H3 y => ?_⟩
    obtain ⟨gr, d, ed, rd⟩ := ok.yld ι2 H2 h2 i x H3 ps2 hr2 hlt y
    obtain ⟨s3, hr3⟩ := gr.step hr2
    have edr : ds.drop i = d :: ds.drop (i + 1) := by
      rw [List.drop_eq_getElem_cons hlt]
      rw [List.getElem?_eq_getElem hlt] at ed
      rw [Option.some.inj ed]
    rw [edr] at q2
    have q3 := q2
    have st3 : Step ι2 H2 ι2 H3 := s3
    have e3 : H3 p = some (.lst vs) := by rw [s3.hidk p hp2]; exact e2
    have eq1 : (do let ys ← cLoop f (d :: ds.drop (i + 1)); pure (D.lst (done ++ ys)) : M D) = (g d (bStartD src sd) >>= fun sd1 => tc sd1 >>= fun c => if c = true then (te sd1 >>= fun y => cLoop f (ds.drop (i + 1)) >>= fun ys => pure (D.lst (done ++ [y] ++ ys))) else (cLoop f (ds.drop (i + 1)) >>= fun ys => pure (D.lst (done ++ ys)))) := by
      rw [cLoop]
      rw [← hf]
      simp only [cTurn, bind_assoc]
      refine congrArg _ (funext fun sd1 => ?_)
      refine congrArg _ (funext fun c => ?_)
      cases c with
      | true => simp only [if_true, bind_assoc, pure_bind, List.append_assoc, List.cons_append, List.nil_append]
      | false => simp only [Bool.false_eq_true, if_false, pure_bind]
    rw [eq1] at q3
    refine ⟨ι2, h2, bStartD src sd, d, L2.step s3, hr3, rd, ?_⟩
    refine Fin.bindB q3 (fun ι' H' h' s hr' => ⟨ι'.show, base (s3.trans s), hr'.show⟩) fun sd4 h4 ι4 H4 e4 s4 hr4 q4 σ4 L4 => ?_
    have hx4 : ι4.x = p :: ι.x := by rw [s4.hid]; exact hx2
    obtain ⟨k1, k2⟩ := hk d _ h2 sd4 h4 h0len h0non e4
    refine ⟨ι4, h4, sd4, L4, hr4, Fin.bindB q4 (fun ι' H' h' s hr' => ⟨ι'.show, base ((s3.trans s4).trans s), hr'.show⟩) fun c h5 ι5 H5 e5 s5 hr5 q5 => ?_⟩
    have hx5 : ι5.x = p :: ι.x := by rw [s5.hid]; exact hx4
    have sub : ∀ {ι' : Io} {H' : Hp}, LRel K ι' H' sd4 σ4 → LRel K ι' H' (bStartD src sd) σ4 := fun {ι' H'} z => ⟨by rw [← k1]; exact z.1, fun j d' e => z.2 j d' (k2 j d' (fun w => by rw [h0non j w] at e; cases e) e)⟩
    have st5 : Step ι2 H2 ι5 H5 := (s3.trans s4).trans s5
    cases c with
    | false =>
      exact iteF ⟨hlt, ι5, h5, done, vs, hx5, base st5, sub (L4.step s5), hr5, by rw [st5.hidk p hp2]; exact e2, rl2.step st5, Nat.le_succ_of_le dl2, q5⟩
    | true =>
      refine iteT ⟨ι5, h5, sd4, L4.step s5, hr5, Fin.bindB q5 (fun ι' H' h' s hr' => ⟨ι'.show, base (st5.trans s), hr'.show⟩) fun yd h6 ι6 H6 e6 s6 hr6 q6 y ry => ?_⟩
      have st6 : Step ι2 H2 ι6 H6 := st5.trans s6
      have hx6 : ι6.x = p :: ι.x := by rw [s6.hid]; exact hx5
      have hp6 : p ∈ ι6.x := by rw [hx6]; exact List.mem_cons_self
      have e6' : H6 p = some (.lst vs) := by rw [st6.hidk p hp2]; exact e2
      refine ⟨vs, e6', by rw [← rl2.length]; omega, hlt, ι6, h6, done ++ [yd], vs ++ [y], hx6, step_turn hp hpx hx2 s2 st6, ?_, hr6.hid hp6, upd_same, ?_, ?_, ?_⟩
      · exact ((sub (L4.step s5)).step s6).pass (pass_hid hp6)
      · exact ((rl2.step st6).append (RelL.cons ry RelL.nil)).pass (pass_hid hp6)
      · rw [List.length_append, List.length_singleton]; omega
      · exact q6
  · left
    have e : i = ds.length := by omega
    subst e
    refine ⟨ok.stop ι2 H2 ps2, ?_⟩
    rw [List.drop_length] at q2
    have q3 : P (.lst done) ι2.show H2 := by
      have : Fin K E ι H ((pure (D.lst (done ++ [])) : M D) h2) P := q2
      rw [List.append_nil] at this
      exact this _ _ s2 hr2.show
    rw [← hP] at q3
    refine q3 (.ref p) ?_
    simp only [Rel]
    refine ⟨p, vs, rfl, ⟨e2, fun z => ?_⟩, rl2.pass pass_show⟩
    rcases z with z | z
    · exact (hr2.hidt p (by rw [hx2]; exact List.mem_cons_self)).2 z
    · exact hpx (by have z : p ∈ ι2.x.tail := z; rw [hx2] at z; exact z)
noncomputable def dComp (fi : Sd → M (List D)) (g : D → Sd → M Sd) (tc : Sd → M Bool) (te : Sd → M D) (src : List (Option Nat)) : Sd → M D := fun sd => do
  let ds ← fi sd
  fits ds.length
  let ys ← cLoop (cTurn g tc te (bStartD src sd)) ds
  pure (D.lst ys)
theorem te_comp {K : W.Frag} {fi : Sd → M (List D)} {g : D → Sd → M Sd} {tc : Sd → M Bool} {te : Sd → M D} (hk : GKeeps g src) (σ : L2.St) (H : Hp) (Q : VK) (q : toTE K E (dComp fi g tc te src) σ H Q) :
    tComp (toTI K E fi) (toTG K E g) (toTT K E tc) (toTE K E te) src σ H Q := by
  obtain ⟨ι, h, sd, L, hh, q⟩ := q
  refine ⟨ι, h, sd, L, hh, Fin.bind q fun ds h1 ι1 H1 e1 s1 hr1 q1 J ok p hp => ?_⟩
  obtain ⟨z, q2⟩ := Fin.fits q1
  exact blk hk (L.step s1) hr1 ok z q2 hp
theorem se_comp {fi : Sd → M (List D)} {g : D → Sd → M Sd} {tc : Sd → M Bool} {te : Sd → M D} (B : BOk X scope N src) (hk : GKeeps g src) (hi : SI X E tg iter fi)
    (hg : ∀ s H fp, SG (cxB X scope N s H fp) E tg g) (ht : ∀ s H fp, SCs (cxB X scope N s H fp) E ifs tc) (he : ∀ s H fp, SE (cxB X scope N s H fp) E elt te)
    (hs : ∀ x, foldedSetIterable iter X.env x = pure x := by intro _; rfl) : SE X E (.ListComp elt [⟨tg, iter, ifs, 0⟩] scope pos) (dComp fi g tc te src) :=
  PE.imp (pe_comp B hi hg ht he hs) (te_comp hk)
theorem s_setcomp {fi : Sd → M (List D)} {g : D → Sd → M Sd} {tc : Sd → M Bool} {te : Sd → M D} (i : Nat) {y : Str} {py spos : Pos} (B : BOk X scope N src) (hk : GKeeps g src) (hi : SI X E tg iter fi)
    (hg : ∀ s H fp, SG (cxB X scope N s H fp) E tg g) (ht : ∀ s H fp, SCs (cxB X scope N s H fp) E ifs tc) (he : ∀ s H fp, SE (cxB X scope N s H fp) E elt te)
    (hN : X.N.Nodup) (hy : X.N[i]? = some y) (hx : Loc X.env.scope y) (hf : X.fn y = true ∨ X.env.scope.names.lookup y = some .local) (hsw : swapsWith (.ListComp elt [⟨tg, iter, ifs, 0⟩] scope pos) (some (.Name y py)) spos.line X.env = pure true)
    (hs : ∀ x, foldedSetIterable iter X.env x = pure x := by intro _; rfl) : SS X E (.Assign [.Name y py] (.ListComp elt [⟨tg, iter, ifs, 0⟩] scope pos) spos) (fun sd => do let d ← dComp fi g tc te src sd; pure (.nx (sd.set i (some d)))) := by
  refine PS.imp (ps_setcomp B hi hg ht he hN hy hx hsw hf hs) fun D0 σ H ⟨ι, h, sd, L, hh, q⟩ => te_comp hk σ H _ ⟨ι, h, sd, L, hh, Fin.bind q fun d h1 ι1 H1 e1 s1 hr1 q1 v rv => ?_⟩
  exact Fin.out (E := E) (P := OutP X.K D0) hr1 q1 _ ((L.step s1).set rv i)
end
end L3
end
section
set_option maxHeartbeats 4000000
namespace L3
open PySem PySem.Spec PyProof.Rows L2
section
variable {K : W.Frag} {ι : Io} {H : Hp} {h : Hh} {n : Nat} {a : Addr}
theorem pass_cell {o : HO} (hn : ι.c[n]? = some (some a)) : Pass ι H ι (upd H a o) := ⟨fun _ _ z => .inl z, fun b o' hb nb => ⟨by rw [upd_ne (show b ≠ a from fun z => nb (.inl (z ▸ List.mem_of_getElem? hn)))]; exact hb, nb⟩⟩
theorem HRel.cellS {o : HO} (hr : HRel K ι H h) (hn : ι.c[n]? = some (some a)) : Step ι H ι (upd H a o) :=
  ⟨fun _ _ z => .inl z, fun _ z => .inl z, rfl, fun b hb => upd_ne fun z => (hr.hidt b hb).2 (z ▸ List.mem_of_getElem? hn), fun b o' hb nb => ((pass_cell hn).keep b o' hb nb).1⟩
theorem HRel.cell {ds' : List D} {vs' : List V} (hr : HRel K ι H h) (hn : ι.c[n]? = some (some a)) (rl : RelL K ι H ds' vs') : HRel K ι (upd H a (.lst vs')) (h.set n (.lst ds')) := by
  refine ⟨by rw [List.length_set]; exact hr.len, hr.inj, fun m b c hm hc => ?_, fun m hm => ?_, fun b hb => ⟨?_, (hr.hidt b hb).2⟩⟩
  · by_cases e : n = m
    · subst e
      rw [hn] at hm
      cases hm
      rw [List.getElem?_set_self (by rw [hr.len]; exact (List.getElem?_eq_some_iff.mp hn).1)] at hc
      cases hc
      exact ⟨ds', vs', rfl, upd_same, rl.pass (pass_cell hn)⟩
    · rw [List.getElem?_set_ne e] at hc
      obtain ⟨ds, vs, e1, e2, e3⟩ := hr.at_ m b c hm hc
      have ne : b ≠ a := fun z => by subst z; exact e (hr.inj n m b hn hm)
      exact ⟨ds, vs, e1, by rw [upd_ne ne]; exact e2, e3.pass (pass_cell hn)⟩
  · have e : n ≠ m := fun z => by subst z; rw [hn] at hm; cases hm
    rw [List.getElem?_set_ne e]
    exact hr.dead m hm
  · rw [upd_ne (show b ≠ a from fun z => (hr.hidt b hb).2 (z ▸ List.mem_of_getElem? hn))]
    exact (hr.hidt b hb).1
theorem HRel.read {ds : List D} {v : V} (hr : HRel K ι H h) (r : Rel K ι H (.cel n) v) (e : h[n]? = some (.lst ds)) : ∃ a vs, v = .ref a ∧ ι.c[n]? = some (some a) ∧ H a = some (.lst vs) ∧ RelL K ι H ds vs := by
  simp only [Rel] at r
  obtain ⟨a, e1, r | r⟩ := r
  · obtain ⟨ds', vs, e2, e3, e4⟩ := hr.at_ n a _ r e
    cases e2
    exact ⟨a, vs, e1, r, e3, e4⟩
  · rw [hr.dead n r] at e
    cases e
end
noncomputable def cellGet (n : Nat) : M (List D) := fun h => match h[n]? with
  | some (.lst ds) => .ok ds h
  | _ => .bad
noncomputable def cellPut (n : Nat) (ds : List D) : M Unit := fun h => .ok () (h.set n (.lst ds))
theorem cellGet_ok {n : Nat} {h h' : Hh} {ds : List D} (e : cellGet n h = .ok ds h') : h' = h ∧ h[n]? = some (.lst ds) := by
  unfold cellGet at e
  cases z : h[n]? with
  | none => rw [z] at e; cases e
  | some c =>
    rw [z] at e
    cases c with
    | lst xs => cases e; exact ⟨rfl, rfl⟩
    | dead => cases e
noncomputable def ofO {α : Type} : Option α → M α
  | some a => pure a
  | none => M.bad
noncomputable def dIx : D → D → M D := fun x y => match x, y with
  | .tup ds, .int i => ofO (atI ds i)
  | .lst ds, .int i => ofO (atI ds i)
  | .scr ds, .int i => ofO (atI ds i)
  | .cel n, .int i => do let ds ← cellGet n; ofO (atI ds i)
  | _, _ => M.bad
theorem atI_rel {K : W.Frag} {ι : Io} {H : Hp} {ds : List D} {vs : List V} {i : Int} {d : D} (rl : RelL K ι H ds vs) (e : atI ds i = some d) : ∃ v, atI vs i = some v ∧ Rel K ι H d v := by
  unfold atI at e ⊢
  rw [← rl.length]
  cases z : ixN ds.length i with
  | none => rw [z] at e; cases e
  | some j =>
    rw [z] at e
    have e : ds[j]? = some d := e
    exact rl.get e
section
variable {X : Cx} {E : XE}
theorem Fin.ofO {α : Type} {K : W.Frag} {ι : Io} {H : Hp} {h : Hh} {o : Option α} {P : α → Io → Hp → Prop} (hr : HRel K ι H h) (q : Fin K E ι H (L3.ofO o h) P) : ∃ a, o = some a ∧ P a ι H := by
  cases o with
  | none => exact False.elim q
  | some a => exact ⟨a, rfl, Fin.out hr q⟩
theorem ix_D : IxR X (toR2 X.K E dIx) := by
  refine IxR.imp (ix_list.or ix_tup) fun x y H Q ⟨ι, h, d1, d2, r1, r2, hr, q⟩ => ?_
  cases d2 with
  | int i =>
    simp only [Rel] at r2
    cases d1 with
    | tup ds =>
      obtain ⟨a, vs, e, h1, h2⟩ := relSqT r1
      obtain ⟨d, e1, q⟩ := Fin.ofO hr q
      obtain ⟨v, e2, rv⟩ := atI_rel h2 e1
      exact .inr ⟨a, vs, i, v, e, r2, h1, e2, q v rv⟩
    | lst ds =>
      obtain ⟨a, vs, e, h1, h2⟩ := relSqL r1
      obtain ⟨d, e1, q⟩ := Fin.ofO hr q
      obtain ⟨v, e2, rv⟩ := atI_rel h2 e1
      exact .inl ⟨a, vs, i, v, e, r2, h1, e2, q v rv⟩
    | scr ds =>
      obtain ⟨a, vs, e, h1, h2⟩ := relSqS r1
      obtain ⟨d, e1, q⟩ := Fin.ofO hr q
      obtain ⟨v, e2, rv⟩ := atI_rel h2 e1
      exact .inl ⟨a, vs, i, v, e, r2, h1, e2, q v rv⟩
    | cel n =>
      have q : Fin X.K E ι H ((cellGet n >>= fun ds => L3.ofO (atI ds i)) h) _ := q
      have q' : Fin X.K E ι H (M.bind (cellGet n) (fun ds => L3.ofO (atI ds i)) h) _ := q
      unfold M.bind at q'
      cases z : cellGet n h with
      | bad => rw [z] at q'; exact False.elim q'
      | exc c h' => unfold cellGet at z; split at z <;> cases z
      | ok ds h' =>
        rw [z] at q'
        obtain ⟨rfl, z2⟩ := cellGet_ok z
        obtain ⟨a, vs, e, hn, hH, rl⟩ := hr.read r1 z2
        obtain ⟨d, e1, q⟩ := Fin.ofO hr q'
        obtain ⟨v, e2, rv⟩ := atI_rel rl e1
        exact .inl ⟨a, vs, i, v, e, r2, SqL.of hH, e2, q v rv⟩
    | _ => exact False.elim q
  | _ => cases d1 <;> exact False.elim q
noncomputable def dSetI (o i d : D) : M Unit := match o, i with
  | .cel n, .int k => do
    let ds ← cellGet n
    let j ← ofO (ixN ds.length k)
    cellPut n (ds.set j d)
  | _, _ => M.bad
theorem sg_sub {o i : Expr} {pos : Pos} {fo fi : Sd → M D} (hp : ∀ {t : TSet}, PSet X t → PG X (.Subscript o i pos) (gSub (toTE X.K E fo) (toTE X.K E fi) t)) :
    SG X E (.Subscript o i pos) (fun d sd => do let x ← fo sd; let y ← fi sd; dSetI x y d; pure sd) := by
  refine PG.imp (hp set_list) fun v σ H Q ⟨ι, h, sd, d, L, hr, rd, q⟩ => ⟨ι, h, sd, L, hr, Fin.bind q fun x h1 ι1 H1 e1 s1 hr1 q1 xv rx => ?_⟩
  refine ⟨ι1, h1, sd, L.step s1, hr1, Fin.bind q1 fun y h2 ι2 H2 e2 s2 hr2 q2 yv ry => ?_⟩
  cases x with
  | cel n =>
    cases y with
    | int k =>
      have rx2 := rx.step s2
      have q3 : Fin X.K E ι2 H2 ((cellGet n >>= fun ds => (ofO (ixN ds.length k) >>= fun j => cellPut n (ds.set j d) >>= fun _ => pure sd)) h2) (fun sd' ι' H' => ∀ σ', LRel X.K ι' H' sd' σ' → Q σ' H') := by
        have e : (do dSetI (.cel n) (.int k) d; pure sd : M Sd) = (cellGet n >>= fun ds => (ofO (ixN ds.length k) >>= fun j => cellPut n (ds.set j d) >>= fun _ => pure sd)) := by
          show ((cellGet n >>= fun ds => (ofO (ixN ds.length k) >>= fun j => cellPut n (ds.set j d))) >>= fun _ => pure sd) = _
          simp only [bind_assoc]
        rw [← e]
        exact q2
      have q' : Fin X.K E ι2 H2 (M.bind (cellGet n) (fun ds => (ofO (ixN ds.length k) >>= fun j => cellPut n (ds.set j d) >>= fun _ => pure sd)) h2) _ := q3
      unfold M.bind at q'
      cases z : cellGet n h2 with
      | bad => rw [z] at q'; exact False.elim q'
      | exc c h' => unfold cellGet at z; split at z <;> cases z
      | ok ds h' =>
        rw [z] at q'
        obtain ⟨rfl, z2⟩ := cellGet_ok z
        obtain ⟨a, vs, e, hn, hH, rl⟩ := hr2.read rx2 z2
        simp only [Rel] at ry
        have q4 : Fin X.K E ι2 H2 (M.bind (ofO (ixN ds.length k)) (fun j => cellPut n (ds.set j d) >>= fun _ => pure sd) h') _ := q'
        unfold M.bind at q4
        cases z3 : ixN ds.length k with
        | none => rw [z3] at q4; exact False.elim q4
        | some j =>
          rw [z3] at q4
          have q5 : Fin X.K E ι2 H2 (R.ok sd (h'.set n (.lst (ds.set j d)))) (fun sd' ι' H' => ∀ σ', LRel X.K ι' H' sd' σ' → Q σ' H') := q4
          refine ⟨a, vs, k, j, e, ry, hH, by rw [← rl.length]; exact z3, ?_⟩
          have rd2 := (rd.step s1).step s2
          exact q5 ι2 _ (hr2.cellS hn) (hr2.cell hn (rl.set rd2 j)) σ (((L.step s1).step s2).step (hr2.cellS hn))
    | _ => exact False.elim q2
  | _ => cases y <;> exact False.elim q2
end
noncomputable abbrev E0x : XE := fun _ _ => False
noncomputable def spOf (K : W.Frag) (n : Nat) (F : List D → M D) : Sp := fun vs H Q _ => vs.length = n ∧ ∃ ι h ds, RelL K ι H ds vs ∧ HRel K ι H h ∧ Fin K E0x ι H (F ds h) fun d ι' H' => ∀ v, Rel K ι' H' d v → Q v H'
noncomputable def startD (n : Nat) (ds : List D) : Sd := ds.map some ++ List.replicate (n - ds.length) none
noncomputable def outD : Out → M D
  | .nx _ => pure .non
  | .rt d => pure d
  | _ => M.bad
noncomputable def runB (n : Nat) (G : Sd → M Out) (ds : List D) : M D := do let o ← G (startD n ds); outD o
theorem relL_start {K : W.Frag} {ι : Io} {H : Hp} {ds : List D} {vs : List V} {N : List Str} (h : RelL K ι H ds vs) : LRel K ι H (startD N.length ds) (L2.start N vs) := by
  have hl := h.length
  unfold startD L2.start
  refine ⟨by simp [hl], fun i d e => ?_⟩
  by_cases hi : i < ds.length
  · rw [List.getElem?_append_left (by simpa using hi), List.getElem?_map] at e
    cases z : ds[i]? with
    | none => rw [z] at e; cases e
    | some d' =>
      rw [z] at e
      cases e
      obtain ⟨v, h1, h2⟩ := h.get z
      exact ⟨v, by rw [List.getElem?_append_left (by rw [List.length_map, ← hl]; exact hi), List.getElem?_map, h1]; rfl, h2⟩
  · rw [List.getElem?_append_right (by simpa using hi), List.getElem?_replicate] at e
    split at e <;> cases e
section
variable {P : Program} {w : World} {K : W.Frag} {mg : Str → Option Value} {base : Heap}
theorem fn_ok {x qual : Str} {st : Stmt} {f : Addr} {fd : FuncData} {N ps : List Str} {k : Nat} {G : Sd → M Out} (F : Fun K x qual st f fd) (S : FnScope N ps (defScope st))
    (hb : ∀ (cdv : Value) (A : Around) (outer : List Env) (s : Shared) (H : Hp) (E : XK), Room k (A.deeper (envOfC qual (defScope st) s.heap.objs.size f cdv)) → SSs (cxOf CX0 P w K mg base N qual (defScope st) f cdv A outer s H E).nox E0x (defBody st) G) :
    FnOk P w K mg base CX0 (k + 1) f fd ps (spOf K ps.length (runB N.length G)) := by
  refine F.ok S (fun vs H Q E h => h.1) fun cdv A outer s H vs Q E hr ⟨hl, ι, h, ds, rl, hh, q⟩ => ⟨_, hb cdv A outer s H E hr, ι, h, startD N.length ds, relL_start rl, hh, ?_⟩
  refine Fin.bind q fun o h1 ι1 H1 e1 s1 hr1 q1 => ?_
  cases o with
  | nx sd => exact fun σ' _ => Fin.out hr1 q1 _ (by simp [Rel])
  | rt d => exact fun v rv => Fin.out hr1 q1 v rv
  | bk sd => exact False.elim q1
  | ct sd => exact False.elim q1
end
section
variable {X : Cx} {e : Expr} {es : List Expr} {pos p : Pos}
noncomputable def callD (n : Nat) (F : List D → M D) (ds : List D) : M D := if ds.length = n then F ds else M.bad
theorem se_call {k : Nat} {f : Addr} {fd : FuncData} {ps : List Str} {n : Nat} {F : List D → M D} {fs : Sd → M (List D)} {x : Str} (G : FnOk X.prog X.w X.K X.mg X.base CX0 k f fd ps (spOf X.K n F)) (hr : Room k X.A) (hg : Gl X x) (hm : X.mg x = some (.ref f)) (hk : W.keepIn X.K (.ref f) = true) (hb : Binds X.K fd ps [])
    (ha : SA X E0x (e :: es) fs) (hdb : (x == ("__debug__" : Str)) = false := by decide) (he : starEach (e :: es) X.env = (false, eval e X.env) :: starEach es X.env := by rfl) (hpl : (backTo pos (starEach es X.env)).any (·.1) = false := by rfl) :
    SE X E0x (.Call (.Name x p) (e :: es) [] pos) (fun sd => do let ds ← fs sd; callD n F ds) := by
  refine PE.imp (pe_call G hr hg hm hk hb (dvs := []) .nil (E := fun _ _ _ => False) pass0 ha hdb he hpl) fun σ H Q ⟨ι, h, sd, L, hh, q⟩ => ⟨ι, h, sd, L, hh, Fin.bind q fun ds h1 ι1 H1 e1 s1 hr1 q1 vs rv => ?_⟩
  show spOf X.K n F (vs ++ []) H1 Q _
  rw [List.append_nil]
  unfold callD at q1
  by_cases hl : ds.length = n
  · rw [if_pos hl] at q1
    exact ⟨by rw [← rv.length]; exact hl, ι1, h1, ds, rv, hr1, q1⟩
  · rw [if_neg hl] at q1
    exact False.elim q1
end
end L3
end
section
set_option maxHeartbeats 4000000
namespace L3
open PySem PySem.Spec PyProof.Rows L2
section
variable {X : Cx} {E : XE}
theorem Fin.guard {α : Type} {K : W.Frag} {ι : Io} {H : Hp} {h : Hh} {c : Prop} [Decidable c] {f : M α} {P : α → Io → Hp → Prop} (q : Fin K E ι H ((if c then f else M.bad) h) P) : c ∧ Fin K E ι H (f h) P := by
  by_cases hc : c
  · rw [if_pos hc] at q; exact ⟨hc, q⟩
  · rw [if_neg hc] at q; exact False.elim q
theorem op_catT0 : OpR X (binaryOp .Add) (fun x y H Q => ∃ a b ys, x = .ref a ∧ y = .ref b ∧ SqT X.K H a [] ∧ SqT X.K H b ys ∧ Q (.ref b) H) := by
  intro pins s σ H x y v u Q I rx ry h
  obtain ⟨a, b, ys, rfl, rfl, ha, hb, q⟩ := h
  cases rx
  cases ry
  obtain ⟨its, r1, p1, _⟩ := I.tuple ha
  obtain ⟨its2, r2, p2, _⟩ := I.tuple hb
  cases r1
  obtain ⟨⟨cls, dd, data, sl⟩, ho, hc, n, hd⟩ := id p1
  obtain ⟨⟨cls2, dd2, data2, sl2⟩, ho2, hc2, n2, hd2⟩ := id p2
  simp only at hc hd hc2 hd2
  subst hc hd hc2 hd2
  exact concat_meets ⟨_, ho, rfl⟩ ⟨_, ho2, rfl⟩ noFill_tuple_add seq_tuple_add PySem.F.slot_tuple_add PySem.F.entry_tuple_add (PySem.F.args_tuple_add_2 _ _)
      (tuple_addW0 a b _ _ n n2 dd dd2 sl sl2 (by simp)) ⟨ho, ho2, ⟨.ref b, H, I, rfl, q⟩⟩
noncomputable def dAdd (x y : D) : M D := match x, y with
  | .int i, .int j => pure (.int (i + j))
  | .tup xs, .tup ys => do fits (xs.length + ys.length); pure (.tup (xs ++ ys))
  | .lst xs, .lst ys => do fits (xs.length + ys.length); pure (.lst (xs ++ ys))
  | .str x, .str y => do fits (x.length + y.length); pure (.str (x ++ y))
  | _, _ => M.bad
theorem op_addD : OpR X (binaryOp .Add) (toR2 X.K E dAdd) := by
  refine OpR.imp (op_add.or (op_catT0.or (op_catT.or (op_cat.or op_add_str)))) fun x y H Q ⟨ι, h, d1, d2, r1, r2, hr, q⟩ => ?_
  unfold dAdd at q
  split at q
  · simp only [Rel] at r1 r2
    exact .inl ⟨_, _, r1, r2, Fin.out hr q _ (by simp [Rel])⟩
  · rename_i xs ys
    right
    obtain ⟨a, vs, e, h1, h2⟩ := relSqT r1
    obtain ⟨b, ws, e', h1', h2'⟩ := relSqT r2
    obtain ⟨z, q⟩ := Fin.fits q
    cases xs with
    | nil =>
      simp only [RelL] at h2
      subst h2
      exact .inl ⟨a, b, ws, e, e', h1, h1', Fin.out hr q _ (by rw [← e']; exact r2)⟩
    | cons x0 xr =>
      refine .inr (.inl ⟨a, b, vs, ws, e, e', h1, h1', fun z => ?_, by rw [← h2.length, ← h2'.length]; exact z, fun z => ?_, fun z p hp => newT hr (h2.append h2') q hp⟩)
      · subst z
        have := h2.length
        cases this
      · subst z
        have := h2'.length
        cases ys with
        | nil => rw [List.append_nil] at q; exact Fin.out hr q _ (by rw [← e]; exact r1)
        | cons _ _ => cases this
  · rename_i xs ys
    right; right; right; left
    simp only [Rel] at r1 r2
    obtain ⟨a, vs, e, h1, h2⟩ := r1
    obtain ⟨b, ws, e', h1', h2'⟩ := r2
    obtain ⟨z, q⟩ := Fin.fits q
    exact ⟨a, b, vs, ws, e, e', h1.1, h1'.1, by rw [← h2.length, ← h2'.length]; exact z, fun p hp => newL hr (h2.append h2') q hp⟩
  · simp only [Rel] at r1 r2
    obtain ⟨z, q⟩ := Fin.fits q
    exact .inr (.inr (.inr (.inr ⟨_, _, r1, r2, z, Fin.out hr q _ (by simp [Rel])⟩)))
  · exact False.elim q
noncomputable def dII (C : Int → Int → Bool) (g : Int → Int → D) (x y : D) : M D := match x, y with
  | .int i, .int j => if C i j = true then pure (g i j) else M.bad
  | _, _ => M.bad
theorem op_II {f : Value → Value → Sem Value} {C : Int → Int → Bool} {C' : Int → Int → Prop} {g : Int → Int → V} {g' : Int → Int → D} (ho : OpR X f (rI C' g)) (hc : ∀ i j, C i j = true → C' i j) (hg : ∀ i j ι H, Rel X.K ι H (g' i j) (g i j)) : OpR X f (toR2 X.K E (dII C g')) := by
  refine OpR.imp ho fun x y H Q ⟨ι, h, d1, d2, r1, r2, hr, q⟩ => ?_
  unfold dII at q
  split at q
  · simp only [Rel] at r1 r2
    obtain ⟨c, q⟩ := Fin.guard q
    exact ⟨_, _, r1, r2, hc _ _ c, Fin.out hr q _ (hg _ _ _ _)⟩
  · exact False.elim q
theorem op_II0 {f : Value → Value → Sem Value} {g : Int → Int → V} {g' : Int → Int → D} (ho : OpR X f (rI0 g)) (hg : ∀ i j ι H, Rel X.K ι H (g' i j) (g i j)) : OpR X f (toR2 X.K E (dII (fun _ _ => true) g')) := by
  refine OpR.imp ho fun x y H Q ⟨ι, h, d1, d2, r1, r2, hr, q⟩ => ?_
  unfold dII at q
  split at q
  · simp only [Rel] at r1 r2
    obtain ⟨c, q⟩ := Fin.guard q
    exact ⟨_, _, r1, r2, Fin.out hr q _ (hg _ _ _ _)⟩
  · exact False.elim q
noncomputable def dSub := dII (fun _ _ => true) fun i j => .int (i - j)
noncomputable def small64 (i : Int) : Bool := decide (-(2 ^ 64) < i) && decide (i < 2 ^ 64)
theorem small64_iff {i : Int} (h : small64 i = true) : -(2 ^ 64) < i ∧ i < 2 ^ 64 := by unfold small64 at h; simpa using h
theorem op_fdivB : OpR X (binaryOp .FloorDiv) (rI (fun _ j => 0 < j ∧ j < 2 ^ 64) fun i j => .int (i / j)) := opI fun i j _ _ _ _ _ hc q => by
  refine floordiv_int (by omega) (by rw [Int.fdiv_eq_ediv_of_nonneg _ (by omega)]; exact q) (.inl (PyProof.noPylong_of_log2 ?_))
  have h1 : j.natAbs < 2 ^ 64 := by omega
  have h0 : j.natAbs ≠ 0 := by omega
  exact Nat.lt_trans ((Nat.log2_lt h0).mpr h1) (by decide)
noncomputable def dFdiv := dII (fun _ j => decide (0 < j) && decide (j < 2 ^ 64)) fun i j => .int (i / j)
theorem op_fdivD : OpR X (binaryOp .FloorDiv) (toR2 X.K E dFdiv) := op_II op_fdivB (fun i j h => by simpa using h) fun _ _ _ _ => by simp [Rel]
noncomputable def dMod := dII (fun _ j => decide (0 < j)) fun i j => .int (i % j)
theorem op_modD : OpR X (binaryOp .Mod) (toR2 X.K E dMod) := op_II op_mod (fun i j h => by simpa using h) fun _ _ _ _ => by simp [Rel]
noncomputable def cPow (i j : Int) : Bool := decide (0 ≤ j) && decide (j ≤ 1000000) && decide (i.natAbs < 2 ^ 64)
noncomputable def dPow := dII cPow fun i j => .int (i ^ j.toNat)
theorem cPow_iff {i j : Int} (h : cPow i j = true) : CPow i j := by unfold cPow at h; simpa [CPow, and_assoc] using h
theorem op_powD : OpR X (binaryOp .Pow) (toR2 X.K E dPow) := op_II op_pow (fun _ _ => cPow_iff) fun _ _ _ _ => by simp [Rel]
noncomputable def dShl := dII cPow fun i j => .int (i * 2 ^ j.toNat)
theorem op_shlD : OpR X (binaryOp .LShift) (toR2 X.K E dShl) := op_II op_shl (fun _ _ => cPow_iff) fun _ _ _ _ => by simp [Rel]
noncomputable def dShr := dII (fun _ j => decide (0 ≤ j)) fun i j => .int (i / 2 ^ j.toNat)
theorem op_shrD : OpR X (binaryOp .RShift) (toR2 X.K E dShr) := op_II op_shr (fun i j h => by simpa using h) fun _ _ _ _ => by simp [Rel]
noncomputable def dAnd := dII (fun _ _ => true) fun i j => .int (Builtin.bitAnd i j)
noncomputable def dLt := dII (fun _ _ => true) fun i j => .bl (decide (i < j))
theorem op_ltD : OpR X (compareOp .Lt) (toR2 X.K E dLt) := op_II0 op_lt fun _ _ _ _ => by simp [Rel]
noncomputable def dLe := dII (fun _ _ => true) fun i j => .bl (decide (i ≤ j))
theorem op_leD : OpR X (compareOp .LtE) (toR2 X.K E dLe) := op_II0 op_le fun _ _ _ _ => by simp [Rel]
noncomputable def dGt := dII (fun _ _ => true) fun i j => .bl (decide (j < i))
noncomputable def dGe := dII (fun _ _ => true) fun i j => .bl (decide (j ≤ i))
theorem op_geD : OpR X (compareOp .GtE) (toR2 X.K E dGe) := op_II0 op_ge fun _ _ _ _ => by simp [Rel]
noncomputable def dNeg : D → M D
  | .int i => pure (.int (-i))
  | _ => M.bad
mutual
noncomputable def pd : D → Option PyData
  | .non => some .none
  | .bl b => some (.bool b)
  | .int i => some (.int i)
  | .str x => some (.str x)
  | .tup xs => (pdL xs).map .tuple
  | .lst xs => (pdL xs).map .list
  | .scr xs => (pdL xs).map .list
  | _ => none
noncomputable def pdL : List D → Option (List PyData)
  | [] => some []
  | x :: xs => match pd x, pdL xs with
    | some a, some r => some (a :: r)
    | _, _ => none
end
mutual
theorem reads {pins : List (Addr × Obj)} {σ : L2.St} {H : Hp} {s : Shared} {ι : Io} (I : Inv X pins σ H s) : ∀ {d : D} {v : V} {u : Value} {p : PyData}, Rel X.K ι H d v → RelV v u → pd d = some p → ∃ as, Reads s.heap u p as
  | .non, v, u, p, r, ru, e => by simp only [Rel] at r; subst r; cases ru; cases e; exact ⟨_, .none⟩
  | .bl b, v, u, p, r, ru, e => by simp only [Rel] at r; subst r; cases ru; cases e; exact ⟨_, .bool _⟩
  | .int i, v, u, p, r, ru, e => by simp only [Rel] at r; subst r; obtain ⟨t, rfl⟩ := ru; cases e; exact ⟨_, .int _ _⟩
  | .str i, v, u, p, r, ru, e => by simp only [Rel] at r; subst r; obtain ⟨t, rfl⟩ := ru; cases e; exact ⟨_, .str _ _⟩
  | .tup ds, v, u, p, r, ru, e => by
    obtain ⟨a, vs, rfl, h1, h2⟩ := relSqT r
    cases ru
    obtain ⟨its, rv, pl, _⟩ := I.tuple h1
    obtain ⟨o, ho, hc, n, hd⟩ := pl
    unfold pd at e
    cases z : pdL ds with
    | none => rw [z] at e; cases e
    | some ps =>
      rw [z] at e; cases e
      obtain ⟨as, q⟩ := readsL I h2 rv z
      exact ⟨_, .tuple ho hc hd (by simpa using q)⟩
  | .lst ds, v, u, p, r, ru, e => by
    obtain ⟨a, vs, rfl, h1, h2⟩ := relSqL r
    cases ru
    obtain ⟨its, rv, pl, _⟩ := I.list h1
    obtain ⟨o, ho, hc, n, hd⟩ := pl.isList
    unfold pd at e
    cases z : pdL ds with
    | none => rw [z] at e; cases e
    | some ps =>
      rw [z] at e; cases e
      obtain ⟨as, q⟩ := readsL I h2 rv z
      exact ⟨_, .list ho hc hd (by simpa using q)⟩
  | .scr ds, v, u, p, r, ru, e => by
    obtain ⟨a, vs, rfl, h1, h2⟩ := relSqS r
    cases ru
    obtain ⟨its, rv, pl, _⟩ := I.list h1
    obtain ⟨o, ho, hc, n, hd⟩ := pl.isList
    unfold pd at e
    cases z : pdL ds with
    | none => rw [z] at e; cases e
    | some ps =>
      rw [z] at e; cases e
      obtain ⟨as, q⟩ := readsL I h2 rv z
      exact ⟨_, .list ho hc hd (by simpa using q)⟩
  | .cel n, _, _, _, _, _, e => by cases e
  | .set xs, _, _, _, _, _, e => by cases e
  | .dct, _, _, _, _, _, e => by cases e
  | .fn _, _, _, _, _, _, e => by cases e
  | .exn _, _, _, _, _, _, e => by cases e
theorem readsL {pins : List (Addr × Obj)} {σ : L2.St} {H : Hp} {s : Shared} {ι : Io} (I : Inv X pins σ H s) : ∀ {ds : List D} {vs : List V} {us : List Value} {ps : List PyData}, RelL X.K ι H ds vs → Vals vs us → pdL ds = some ps → ∃ as, ReadsAll s.heap us ps as
  | [], vs, us, ps, r, ru, e => by simp only [RelL] at r; subst r; cases ru; cases e; exact ⟨_, .nil⟩
  | d :: ds, vs, us, ps, r, ru, e => by
    simp only [RelL] at r
    obtain ⟨v, vr, rfl, r1, r2⟩ := r
    cases ru with
    | cons ru1 ru2 =>
      unfold pdL at e
      cases z : pd d with
      | none => rw [z] at e; cases e
      | some a =>
        cases z2 : pdL ds with
        | none => rw [z, z2] at e; cases e
        | some b =>
          rw [z, z2] at e
          cases e
          obtain ⟨as, q1⟩ := reads I r1 ru1 z
          obtain ⟨bs, q2⟩ := readsL I r2 ru2 z2
          exact ⟨_, .cons q1 q2⟩
end
noncomputable def eqOk (a b : PyData) : Bool := a.canLay0 && b.canLay0 && decide (min a.depth b.depth ≤ 60)
noncomputable def dEqG (neg : Bool) (x y : D) : M D := match pd x, pd y with
  | some a, some b => if eqOk a b = true then pure (.bl (if neg then !PyData.eqv a b else PyData.eqv a b)) else M.bad
  | _, _ => M.bad
noncomputable def dEq := dEqG false
noncomputable def dNe := dEqG true
theorem eqOk_iff {a b : PyData} (h : eqOk a b = true) : a.canLay0 = true ∧ b.canLay0 = true ∧ min a.depth b.depth ≤ 60 := by unfold eqOk at h; simpa [and_assoc] using h
theorem dEqG_inv {K : W.Frag} {ι : Io} {H : Hp} {h : Hh} {neg : Bool} {x y : D} {P : D → Io → Hp → Prop} (q : Fin K E ι H (dEqG neg x y h) P) : ∃ a b, pd x = some a ∧ pd y = some b ∧ eqOk a b = true ∧ Fin K E ι H ((pure (.bl (if neg then !PyData.eqv a b else PyData.eqv a b)) : M D) h) P := by
  unfold dEqG at q
  cases e1 : pd x with
  | none => rw [e1] at q; exact False.elim q
  | some a =>
    cases e2 : pd y with
    | none => rw [e1, e2] at q; exact False.elim q
    | some b =>
      rw [e1, e2] at q
      obtain ⟨c, q⟩ := Fin.guard q
      exact ⟨a, b, rfl, rfl, c, q⟩
theorem op_eqD (hu : X.A.units + 60 < cLine) : OpR X (compareOp .Eq) (toR2 X.K E dEq) := by
  intro pins s σ H x y v u Q I rx ry ⟨ι, h, d1, d2, r1, r2, hr, q⟩
  obtain ⟨a, b, e1, e2, c, q2⟩ := dEqG_inv q
  obtain ⟨c1, c2, c3⟩ := eqOk_iff c
  obtain ⟨as, ra⟩ := reads I r1 rx e1
  obtain ⟨bs, rb⟩ := reads I r2 ry e2
  exact SeqAt.compareEq_reads ra rb c1 c2 (by omega) ⟨.bl _, H, I, rfl, Fin.out hr q2 (.bl _) (by simp [Rel])⟩
theorem op_neD (hu : X.A.units + 60 < cLine) : OpR X (compareOp .NotEq) (toR2 X.K E dNe) := by
  intro pins s σ H x y v u Q I rx ry ⟨ι, h, d1, d2, r1, r2, hr, q⟩
  obtain ⟨a, b, e1, e2, c, q2⟩ := dEqG_inv q
  obtain ⟨c1, c2, c3⟩ := eqOk_iff c
  obtain ⟨as, ra⟩ := reads I r1 rx e1
  obtain ⟨bs, rb⟩ := reads I r2 ry e2
  exact SeqAt.compareNe_reads ra rb c1 c2 (by omega) ⟨.bl _, H, I, rfl, Fin.out hr q2 (.bl _) (by simp [Rel])⟩
noncomputable def inOk (a : PyData) (xs : List PyData) : Bool := a.canLay0 && PyData.canLayAll0 xs && decide (min (PyData.depthAll xs) a.depth ≤ 50)
theorem inOk_iff {a : PyData} {xs : List PyData} (h : inOk a xs = true) : a.canLay0 = true ∧ PyData.canLayAll0 xs = true ∧ min (PyData.depthAll xs) a.depth ≤ 50 := by unfold inOk at h; simpa [and_assoc] using h
noncomputable def dInG (neg : Bool) (x c : D) : M D := match pd x, c with
  | some a, .tup ds => match pdL ds with
    | some xs => if inOk a xs = true then pure (.bl (if neg then !xs.any (fun y => PyData.eqv y a) else xs.any fun y => PyData.eqv y a)) else M.bad
    | none => M.bad
  | some a, .lst ds => match pdL ds with
    | some xs => if inOk a xs = true then pure (.bl (if neg then !xs.any (fun y => PyData.eqv y a) else xs.any fun y => PyData.eqv y a)) else M.bad
    | none => M.bad
  | _, _ => M.bad
noncomputable def dIn := dInG false
theorem dInG_inv {K : W.Frag} {ι : Io} {H : Hp} {h : Hh} {neg : Bool} {x c : D} {P : D → Io → Hp → Prop} (q : Fin K E ι H (dInG neg x c h) P) : ∃ a ds xs, pd x = some a ∧ pdL ds = some xs ∧ (c = .tup ds ∨ c = .lst ds) ∧ inOk a xs = true ∧
    Fin K E ι H ((pure (.bl (if neg then !xs.any (fun y => PyData.eqv y a) else xs.any fun y => PyData.eqv y a)) : M D) h) P := by
  unfold dInG at q
  cases e1 : pd x with
  | none => rw [e1] at q; exact False.elim q
  | some a =>
    rw [e1] at q
    cases c with
    | tup ds =>
      dsimp only at q
      cases e2 : pdL ds with
      | none => rw [e2] at q; exact False.elim q
      | some xs =>
        rw [e2] at q
        obtain ⟨c, q⟩ := Fin.guard q
        exact ⟨a, ds, xs, rfl, e2, .inl rfl, c, q⟩
    | lst ds =>
      dsimp only at q
      cases e2 : pdL ds with
      | none => rw [e2] at q; exact False.elim q
      | some xs =>
        rw [e2] at q
        obtain ⟨c, q⟩ := Fin.guard q
        exact ⟨a, ds, xs, rfl, e2, .inr rfl, c, q⟩
    | _ => exact False.elim q
theorem op_inD (hu : X.A.units + 60 < cLine) : OpR X (compareOp .In) (toR2 X.K E dIn) := by
  intro pins s σ H x y v u Q I rx ry ⟨ι, h, d1, d2, r1, r2, hr, q⟩
  obtain ⟨a, ds, xs, e1, e2, ec, c, q2⟩ := dInG_inv q
  obtain ⟨c1, c2, c3⟩ := inOk_iff c
  obtain ⟨as, ra⟩ := reads I r1 rx e1
  rcases ec with rfl | rfl
  · obtain ⟨bs, rb⟩ := reads I r2 ry (p := .tuple xs) (by unfold pd; rw [e2]; rfl)
    exact SeqAt.in_tuple_reads rb ra c2 c1 (by omega) ⟨.bl _, H, I, rfl, Fin.out hr q2 (.bl _) (by simp [Rel])⟩
  · obtain ⟨bs, rb⟩ := reads I r2 ry (p := .list xs) (by unfold pd; rw [e2]; rfl)
    exact SeqAt.in_list_reads rb ra c2 c1 (by omega) ⟨.bl _, H, I, rfl, Fin.out hr q2 (.bl _) (by simp [Rel])⟩
end
end L3
end
section
set_option maxHeartbeats 4000000
namespace HT
open PySem PySem.Spec PyProof.Rows L2
section
variable {prog : Program} {w : World} {A : Around} {E : Value → Shared → Prop} {s : Shared}
end
end HT
namespace L2
open PySem PySem.Spec PyProof.Rows
section
variable {X : Cx} {e : Expr} {te : TE} {pos p2 : Pos}
theorem noFill_tuple_mul : fillsNumberSlot (.type "tuple") "mul" = pure false :=
  PySem.fillsNumberSlot_seq (id := "tuple.__mul__") (r := some (.builtin "tuple.__rmul__")) F.slot_tuple_mul.lookup (by decide +kernel) F.slot_tuple_rmul.lookup (by decide +kernel)
theorem repeat_tuple : seqRepeat? (.type "tuple") = pure (some (.builtin "tuple.__mul__")) := by
  unfold seqRepeat?
  rw [PySem.seqSlot_of (T := "tuple") (name := "__mul__") (id := "tuple.__mul__") F.slot_tuple_mul.lookup (by decide +kernel), PySem.seqSlot_of (T := "tuple") (name := "__rmul__") (id := "tuple.__rmul__") F.slot_tuple_rmul.lookup (by decide +kernel)]
  rfl
theorem int_rmul_tuple (k : Int) (t : Tok) (l : Addr) (items : Array Value) (n : Nat) (dd : Option Addr) (sl : Array (Option Value)) :
    Meets (Builtin.«int.__rmul__» ⟨[.int k t, .ref l], []⟩) (fun _ R s => s.heap.get? l = some { cls := .type "tuple", dict := dd, data := .seq items n, slots := sl } ∧ R (.ok (.ret Value.notImplemented)) s) :=
  .of_wp fun prog w A R s h => by obtain ⟨hp, g, d, tk, os⟩ := s; obtain ⟨hl, h⟩ := h; wp_walk; exact ⟨_, rfl, h⟩
theorem tuple_mul (k : Int) (t : Tok) (l : Addr) (items : Array Value) (n : Nat) (dd : Option Addr) (sl : Array (Option Value)) (hne : items.isEmpty = false) (hk : 2 ≤ k) (hk2 : k < 1000) (hz : items.size * k.toNat ≤ sizeLine) :
    Meets (Builtin.«tuple.__mul__» ⟨[.ref l, .int k t], []⟩) (fun _ R s => s.heap.get? l = some { cls := .type "tuple", dict := dd, data := .seq items n, slots := sl } ∧
      R (.ok (.ret (.ref s.heap.objs.size))) { s with heap := s.heap.push { cls := .type "tuple", data := .seq ((List.replicate k.toNat items).foldl (· ++ ·) #[]) } }) :=
  .of_wp fun prog w A R s h => by
    obtain ⟨hp, g, d, tk, os⟩ := s; obtain ⟨hl, h⟩ := h
    unfold Builtin.«tuple.__mul__» 
    wp_walk
    have hk63 : ¬ (decide (k < -2 ^ 63) || decide (k ≥ 2 ^ 63)) = true := by
      rw [Bool.or_eq_true, decide_eq_true_eq, decide_eq_true_eq]
      omega
    rw [if_neg hk63]
    dsimp only
    have ht : IsTup hp l items := ⟨_, hl, rfl, _, rfl⟩
    refine wpAny_bind (tupleItemsOf_ ht ?_)
    have h1 : ¬ (items.isEmpty || k == 1) = true := by
      rw [hne, Bool.false_or, beq_iff_eq]
      omega
    rw [if_neg h1]
    have h2 : ¬ (decide (k ≤ 0) || items.isEmpty) = true := by
      rw [hne, Bool.or_false, decide_eq_true_eq]
      omega
    rw [if_neg h2]
    have hk0 : ((k.toNat : Nat) : Int) = k := Int.toNat_of_nonneg (by omega)
    have hm : ((items.size : Nat) : Int) * k = ((items.size * k.toNat : Nat) : Int) := by rw [Int.natCast_mul, hk0]
    have hsl : (sizeLine : Nat) = 16777216 := by decide
    have h3 : ¬ ((items.size : Int) * k > (2 ^ 63 - 1) / 8) := by
      rw [hm]
      omega
    rw [if_neg h3]
    have h4 : ¬ Builtin.Tuple.tupleTooMany ((items.size : Int) * k) = true := by
      unfold Builtin.Tuple.tupleTooMany
      rw [hm, decide_eq_true_eq]
      omega
    rw [if_neg h4]
    have hsz : sizeOk (.seq (List.foldl (fun x1 x2 => x1 ++ x2) #[] (List.replicate k.toNat items))) := by
      show (List.foldl (fun x1 x2 => x1 ++ x2) #[] (List.replicate k.toNat items)).size ≤ sizeLine
      have e : ∀ (m : Nat) (acc : Array Value), (List.foldl (fun x1 x2 => x1 ++ x2) acc (List.replicate m items)).size = acc.size + m * items.size := by
        intro m
        induction m with
        | zero => intro acc; simp
        | succ m ih => intro acc; rw [List.replicate_succ, List.foldl_cons, ih, Array.size_append, Nat.succ_mul]; omega
      rw [e, Nat.mul_comm]
      simpa using hz
    exact wpAny_bind (m := Builtin.Tuple.tupleExact _) (wpAny_newObj_type (wpAny_pure ⟨_, rfl, h⟩) hsz)
theorem op_repT : OpR X (binaryOp .Mult) (fun x y H Q => ∃ a k xs, x = .ref a ∧ y = .int k ∧ SqT X.K H a xs ∧ xs ≠ [] ∧ 2 ≤ k ∧ k < 1000 ∧ xs.length * k.toNat ≤ sizeLine ∧ ∀ p, H p = none → Q (.ref p) (upd H p (.tup (List.replicate k.toNat xs).flatten))) := by
  intro pins s σ H x y v u Q I rx ry h
  obtain ⟨a, k, xs, rfl, rfl, hx, hne, h1, h2, hz, q⟩ := h
  cases rx
  obtain ⟨t, rfl⟩ := ry
  obtain ⟨its, r, ht, _⟩ := I.tuple hx
  have hl := r.length
  obtain ⟨⟨cls, dd, data, sl⟩, ho, hc, n, hd⟩ := id ht
  simp only at hc hd
  subst hc hd
  have hemp : its.toArray.isEmpty = false := by
    cases its with
    | nil => cases r; exact absurd rfl hne
    | cons _ _ => simp
  refine wpAny_binaryOp_repeat_ref (T := "tuple") (U := "int") (by decide) ⟨_, ho, rfl⟩ (fun s' => typeIs_int s' k t) noFill_tuple_mul F.fills_int_mul F.slot_int_rmul repeat_tuple F.slot_int_index.lookup
    (call_meets F.slot_int_rmul (typeIs_int s k t) F.entry_int_rmul (F.args_int_rmul_2 _ _) (int_rmul_tuple k t a its.toArray n dd sl)
      ⟨ho, rfl, ⟨_, ho, rfl⟩, call_meets F.slot_tuple_mul ⟨_, ho, rfl⟩ F.entry_tuple_mul (F.args_tuple_mul_2 _ _) (tuple_mul k t a its.toArray n dd sl hemp h1 h2 (by rw [List.size_toArray, ← hl]; exact hz)) ⟨ho, ?_⟩⟩)
  have hnew : List.foldl (fun x1 x2 => x1 ++ x2) #[] (List.replicate k.toNat its.toArray) = (List.replicate k.toNat its).flatten.toArray := by
    have := foldl_rep its k.toNat []
    rw [List.nil_append] at this
    exact this
  rw [hnew]
  refine ⟨.ref _, _, I.laid (t' := s.toks) (o := .tup (List.replicate k.toNat xs).flatten) (fun b ob q => Heap.get?_push_of_some _ q) (Nat.le_refl _) ?_, rfl, q _ (I.hok.fresh (Nat.le_refl _))⟩
  exact ⟨by rw [len_rep, Nat.mul_comm]; exact hz, _, r.rep k.toNat, IsTup.new _ _⟩
end
end L2
end
section
set_option maxHeartbeats 4000000
namespace LT
open PySem PySem.Spec PyProof.Rows
noncomputable abbrev Up (xs : Array Nat) : Prop := xs.toList.Pairwise (· < ·)
theorem Up.lt {xs : Array Nat} (h : Up xs) {i j : Nat} {a b : Nat} (hi : xs[i]? = some a) (hj : xs[j]? = some b) (hij : i < j) : a < b := by
  have hi' : xs.toList[i]? = some a := by simpa using hi
  have hj' : xs.toList[j]? = some b := by simpa using hj
  obtain ⟨h1, e1⟩ := List.getElem?_eq_some_iff.mp hi'
  obtain ⟨h2, e2⟩ := List.getElem?_eq_some_iff.mp hj'
  have := List.pairwise_iff_getElem.mp h i j h1 h2 hij
  rw [e1, e2] at this
  exact this
theorem below_go {xs : Array Nat} (h : Up xs) (j : Nat) : ∀ (fuel lo hi : Nat), hi - lo ≤ fuel → lo ≤ hi → hi ≤ xs.size → (∀ i a, i < lo → xs[i]? = some a → a < j) → (∀ i a, hi ≤ i → xs[i]? = some a → j ≤ a) →
    let r := SetTable.below.go xs j fuel lo hi
    r ≤ xs.size ∧ (∀ i a, i < r → xs[i]? = some a → a < j) ∧ (∀ i a, r ≤ i → xs[i]? = some a → j ≤ a)
  | 0, lo, hi, hf, hl, hs, h1, h2 => by
    have e : lo = hi := by omega
    subst e
    exact ⟨hs, h1, h2⟩
  | fuel + 1, lo, hi, hf, hl, hs, h1, h2 => by
    unfold SetTable.below.go
    by_cases hlt : lo < hi
    · rw [if_pos hlt]
      have hm : (lo + hi) / 2 < xs.size := by omega
      have em : xs[(lo + hi) / 2]? = some xs[(lo + hi) / 2] := by simp [hm]
      have eg : xs.getD ((lo + hi) / 2) j = xs[(lo + hi) / 2] := by simp [Array.getD, hm]
      dsimp only
      by_cases hc : xs.getD ((lo + hi) / 2) j < j
      · rw [if_pos hc]
        refine below_go h j fuel _ hi (by omega) (by omega) hs (fun i a hi' e => ?_) h2
        rw [eg] at hc
        by_cases z : i = (lo + hi) / 2
        · subst z; rw [em] at e; cases e; exact hc
        · exact Nat.lt_trans (h.lt e em (by omega)) hc
      · rw [if_neg hc]
        refine below_go h j fuel lo _ (by omega) (by omega) (by omega) h1 fun i a hi' e => ?_
        rw [eg] at hc
        by_cases z : i = (lo + hi) / 2
        · subst z; rw [em] at e; cases e; omega
        · have := h.lt em e (by omega)
          omega
    · rw [if_neg hlt]
      have e : lo = hi := by omega
      subst e
      exact ⟨hs, h1, h2⟩
theorem below_ok {xs : Array Nat} (h : Up xs) (j : Nat) : SetTable.below xs j ≤ xs.size ∧ (∀ i a, i < SetTable.below xs j → xs[i]? = some a → a < j) ∧ (∀ i a, SetTable.below xs j ≤ i → xs[i]? = some a → j ≤ a) :=
  below_go h j xs.size 0 xs.size (by omega) (Nat.zero_le _) (Nat.le_refl _) (fun _ _ z => absurd z (Nat.not_lt_zero _)) fun i a z e => by
    have := (Array.getElem?_eq_some_iff.mp e).1
    omega
theorem below_next {xs : Array Nat} (h : Up xs) {k a : Nat} (e : xs[k]? = some a) : SetTable.below xs (a + 1) = k + 1 := by
  obtain ⟨h1, h2, h3⟩ := below_ok h (a + 1)
  by_cases c : SetTable.below xs (a + 1) ≤ k
  · have := h3 k a c e
    omega
  · by_cases c2 : k + 1 < SetTable.below xs (a + 1)
    · have hl : k + 1 < xs.size := by omega
      have e2 : xs[k + 1]? = some xs[k + 1] := by simp [hl]
      have a1 := h2 (k + 1) _ c2 e2
      have a2 := h.lt e e2 (by omega)
      omega
    · omega
theorem below_zero {xs : Array Nat} (h : Up xs) : SetTable.below xs 0 = 0 := by
  obtain ⟨h1, h2, h3⟩ := below_ok h 0
  by_cases c : SetTable.below xs 0 = 0
  · exact c
  · have hl : 0 < xs.size := by omega
    exact absurd (h2 0 _ (by omega) (show xs[0]? = some xs[0] by simp [hl])) (Nat.not_lt_zero _)
theorem up_insert {xs : Array Nat} (h : Up xs) {j : Nat} (hn : xs[SetTable.below xs j]? ≠ some j) : Up (SetTable.insertAt xs (SetTable.below xs j) j) := by
  obtain ⟨h1, h2, h3⟩ := below_ok h j
  show (SetTable.insertAt xs (SetTable.below xs j) j).toList.Pairwise (· < ·)
  rw [SetTable.toList_insertAt]
  rw [List.pairwise_append]
  have hsplit : xs.toList.take (SetTable.below xs j) ++ xs.toList.drop (SetTable.below xs j) = xs.toList := List.take_append_drop ..
  have hp : (xs.toList.take (SetTable.below xs j) ++ xs.toList.drop (SetTable.below xs j)).Pairwise (· < ·) := by rw [hsplit]; exact h
  obtain ⟨p1, p2, p3⟩ := List.pairwise_append.mp hp
  have tk : ∀ a ∈ xs.toList.take (SetTable.below xs j), a < j := fun a ha => by
    obtain ⟨i, hi⟩ := List.mem_iff_getElem?.mp ha
    rw [List.getElem?_take] at hi
    split at hi
    · rename_i hlt
      exact h2 i a hlt (by simpa using hi)
    · cases hi
  have dr : ∀ a ∈ xs.toList.drop (SetTable.below xs j), j < a := fun a ha => by
    obtain ⟨i, hi⟩ := List.mem_iff_getElem?.mp ha
    rw [List.getElem?_drop] at hi
    have hi' : xs[SetTable.below xs j + i]? = some a := by simpa using hi
    have a1 := h3 _ a (by omega) hi'
    rcases Nat.lt_or_eq_of_le a1 with z | z
    · exact z
    · subst z
      exfalso
      cases i with
      | zero => exact hn hi'
      | succ i =>
        have hl := (Array.getElem?_eq_some_iff.mp hi').1
        have e0 : xs[SetTable.below xs j]? = some xs[SetTable.below xs j] := by
          have : SetTable.below xs j < xs.size := by omega
          simp [this]
        have b1 := h3 _ _ (Nat.le_refl _) e0
        have b2 := h.lt e0 hi' (by omega)
        omega
  refine ⟨p1, List.pairwise_cons.mpr ⟨dr, p2⟩, fun a ha b hb => ?_⟩
  rcases List.mem_cons.mp hb with z | z
  · rw [z]; exact tk a ha
  · exact p3 a ha b z
structure Good (t : SetTable) (led : Bool) : Prop where
  up : Up t.place
  nod : t.dummies = #[]
  led : t.led = led
theorem has_none {j : Nat} : SetTable.has #[] j = false := by
  unfold SetTable.has
  simp
theorem slot_good {t : SetTable} {led : Bool} (g : Good t led) {j : Nat} (h : t.slot j = .empty) : t.place[SetTable.below t.place j]? ≠ some j := fun e => by
  unfold SetTable.slot at h
  dsimp only at h
  rw [e] at h
  simp at h
theorem probe_go {t : SetTable} {led : Bool} (g : Good t led) (f : Nat → Int) (h : Int) : ∀ (fuel : Nat) (p : SetTable.Probe) (j : Nat) (d : Option Nat), p.dummy = none → SetTable.probe.go t f h fuel p = some (.empty j d) → t.slot j = .empty ∧ d = none
  | 0, _, _, _, _, e => by cases e
  | fuel + 1, p, j, d, hp, e => by
    unfold SetTable.probe.go at e
    have adv : ∀ q : SetTable.Probe, q.dummy = none → (t.advance q).dummy = none := fun q hq => by
      unfold SetTable.advance
      split <;> exact hq
    split at e
    · rename_i hs
      cases e
      exact ⟨hs, hp⟩
    · rename_i hs
      exfalso
      unfold SetTable.slot at hs
      dsimp only at hs
      rw [g.nod, has_none] at hs
      split at hs <;> simp at hs
    · split at e
      · cases e
      · exact probe_go g f h fuel _ j d (adv p hp) e
theorem freeSlot_good {t : SetTable} {led : Bool} (g : Good t led) {h : Int} {j : Nat} {b : Bool} (e : t.freeSlot h = some (j, b)) : t.place[SetTable.below t.place j]? ≠ some j := by
  unfold SetTable.freeSlot at e
  split at e
  · rename_i j' d' hpr
    obtain ⟨h1, h2⟩ := probe_go g _ _ _ _ _ _ rfl hpr
    subst h2
    cases e
    exact slot_good g h1
  · cases e
theorem up_range (n : Nat) : Up (Array.range n) := by
  show (Array.range n).toList.Pairwise (· < ·)
  rw [Array.toList_range]
  exact List.pairwise_lt_range
theorem good_standIn {t : SetTable} {led : Bool} (g : Good t led) (n : Nat) : Good (t.standIn n) led := ⟨up_range n, rfl, g.led⟩
theorem layNew_good {t : SetTable} {led : Bool} (g : Good t led) (es : Array (Int × Value)) (h : Int) (x : Value) : Good (layNew t es h x).2.1 led := by
  unfold layNew
  split
  · rename_i slot wasDummy e
    have g2 : Good (t.put slot).1 led := by
      refine ⟨up_insert g.up (freeSlot_good g e), ?_, g.led⟩
      show (if SetTable.has t.dummies slot then _ else t.dummies) = #[]
      rw [g.nod, has_none]
      rfl
    show Good ((t.put slot).1.orStandIn _) led
    unfold SetTable.orStandIn
    split
    · exact g2
    · exact good_standIn g2 _
  · exact good_standIn g _
theorem laid_good {mask finger moves : Nat} {led plain : Bool} {hs : Array Int} {t : SetTable} {o : Array Nat} (e : SetTable.laid mask finger moves led plain hs = some (t, o)) : Good t led := by
  unfold SetTable.laid at e
  cases z : SetTable.layClean mask hs with
  | none => rw [z] at e; cases e
  | some owner =>
    rw [z] at e
    have e : some (({ mask, place := (((List.range (mask + 1)).filterMap fun j => (owner.getD j none).map (j, ·)).map (·.1)).toArray, dummies := #[], finger, led, moves, plain } : SetTable), _) = some (t, o) := e
    cases e
    refine ⟨?_, rfl, rfl⟩
    show (((List.range (mask + 1)).filterMap fun j => (owner.getD j none).map (j, ·)).map (·.1)).toArray.toList.Pairwise (· < ·)
    rw [List.toList_toArray, List.map_filterMap]
    have sub : List.Sublist ((List.range (mask + 1)).filterMap fun j => ((owner.getD j none).map (j, ·)).map (·.1)) (List.range (mask + 1)) := by
      generalize List.range (mask + 1) = l
      induction l with
      | nil => exact .slnil
      | cons a r ih =>
        rw [List.filterMap_cons]
        cases q : owner.getD a none with
        | none => exact ih.cons a
        | some v => exact ih.cons₂ a
    exact List.pairwise_lt_range.sublist sub
theorem relayAll_good {t : SetTable} {led : Bool} (g : Good t led) (es : Array (Int × Value)) (wanted : Nat) : Good (relayAll t es wanted).2.1 led := by
  unfold relayAll
  split
  · rename_i t' order e
    have g2 : Good t' t.led := laid_good e
    rw [g.led] at g2
    dsimp only
    split
    · exact g2
    · exact good_standIn g _
  · exact good_standIn g _
end LT
end
section
set_option maxHeartbeats 4000000
namespace LT
open PySem PySem.Spec PyProof.Rows
noncomputable def ledOf (w : World) : Bool := !w.params.followText "set-order"
noncomputable def SetG (prog : Program) (w : World) (h : Heap) (a : Addr) (S : Int → Bool) (n : Nat) : Prop :=
  ∃ ob es ep tb, (h.get? a = some ob ∧ ob.ExactSet ∧ ob.data = .set es ep tb) ∧ ElemsOf (intKind prog w) es.toList ∧ (∀ k, S k = true ↔ ∃ e ∈ es.toList, (intKind prog w).is k e.2 = true) ∧
    (es.size < scanBound ∧ tb.fits es.size = true ∧ es.size = n) ∧ Good tb (ledOf w)
theorem SetG.move {prog : Program} {w : World} {h h' : Heap} {a : Addr} {S S' : Int → Bool} {n n' : Nat} (g : SetG prog w h a S n) (k : ∀ ob, h.get? a = some ob → h'.get? a = some ob) (e : ∀ k, S k = S' k) (en : n = n') : SetG prog w h' a S' n' := by
  obtain ⟨ob, es, ep, tb, ⟨h1, h2, h3⟩, h4, h5, ⟨h6, h7, h8⟩, h9⟩ := g
  exact ⟨ob, es, ep, tb, ⟨k ob h1, h2, h3⟩, h4, fun z => by rw [← e z]; exact h5 z, ⟨h6, h7, h8.trans en⟩, h9⟩
section
variable {prog : Program} {w : World} {A : Around} {E : Value → Shared → Prop} {s : Shared}
theorem stored {a : Addr} {ob : Obj} {es es' : Array (Int × Value)} {ep : Nat} {tb tb' : SetTable} {S : Int → Bool} {R : Unit → Shared → Prop} (ho : s.heap.get? a = some ob) (hx : ob.ExactSet) (hd : ob.data = .set es ep tb)
    (hE : ElemsOf (intKind prog w) es'.toList) (hS : ∀ k, S k = true ↔ ∃ e ∈ es'.toList, (intKind prog w).is k e.2 = true) (hb : es'.size < scanBound) (hf : tb'.fits es'.size = true) (hg : Good tb' (ledOf w))
    (q : ∀ h', Heap.SameBut a s.heap h' → h'.get? a = some { ob with data := .set es' (ep + 1) tb' } → SetG prog w h' a S es'.size → R () { s with heap := h' }) : wpAny (model prog w) A (storeSet a es' tb') R E s := by
  have put := putSet_of es' tb' hd
  have at1 : (s.heap.update a (Obj.putSet es' tb')).get? a = some { ob with data := .set es' (ep + 1) tb' } := by
    have z := Heap.get?_update_self (Obj.putSet es' tb') ho (by rw [put]; rfl)
    rwa [put] at z
  exact wpAny_storeSet_of ho hd (q _ (Heap.SameBut.update ..) at1 ⟨_, es', ep + 1, tb', ⟨at1, hx, rfl⟩, hE, hS, ⟨hb, hf, rfl⟩, hg⟩) (fits_of_scanBound hb)
theorem addG {a : Addr} {S : Int → Bool} {n : Nat} {k : Int} {t : Tok} {Q : Bool → Shared → Prop} (g : SetG prog w s.heap a S n) (room : n + 1 < scanBound)
    (q : ∀ h' b, Heap.SameBut a s.heap h' → SetG prog w h' a (fun z => S z || decide (z = k)) (if S k then n else n + 1) → Q b { s with heap := h' }) :
    wpAny (model prog w) A (setAddHashed a (.int k t) ((intKind prog w).hash k)) Q E s := by
  have kis : (intKind prog w).is k (.int k t) = true := intKind_is _ _ _ _
  obtain ⟨ob, es, ep, tb, ⟨h1, h2, h3⟩, h4, h5, ⟨h6, h7, h8⟩, h9⟩ := g
  have scn : (Value.int k t).scannable = true := rfl
  unfold setAddHashed setAddHashedIn
  refine wpAny_holding (wpAny_bind (wpAny_setState_of h1 h3 h7 ?_))
  dsimp only
  rw [if_pos (byScan_of scn h6 h4)]
  refine wpAny_bind ?_
  unfold setAddByScan
  refine wpAny_bind (wpAny_rule (wpAny_bind (wpAny_setScan_of kis h1 h3 h7 h4 ?_)))
  cases fi : List.findIdx? (fun e => (intKind prog w).is k e.2) es.toList with
  | some j =>
    obtain ⟨lj, pj, _⟩ := List.findIdx?_eq_some_iff_getElem.mp fi
    have inS : S k = true := (h5 k).mpr ⟨_, List.getElem_mem lj, pj⟩
    refine wpAny_pure (wpAny_pure ?_)
    have z := q s.heap false (Heap.SameBut.refl ..) ⟨ob, es, ep, tb, ⟨h1, h2, h3⟩, h4, fun y => ?_, ⟨h6, h7, by rw [inS]; exact h8⟩, h9⟩
    · exact z
    · rw [← h5 y, Bool.or_eq_true, decide_eq_true_eq]
      exact ⟨fun c => c.elim id fun c => by rw [c]; exact inS, .inl⟩
  | none =>
    have noS : S k = false := by
      rw [← Bool.not_eq_true, h5 k]
      rintro ⟨e, he, pe⟩
      have := List.findIdx?_eq_none_iff.mp fi e he
      rw [pe] at this
      cases this
    have L1 := layNew_perm tb es ((intKind prog w).hash k) (.int k t)
    have L2 := layNew_fits tb es ((intKind prog w).hash k) (.int k t)
    have L3 := layNew_good h9 es ((intKind prog w).hash k) (.int k t)
    generalize hl : layNew tb es ((intKind prog w).hash k) (.int k t) = ln at L1 L2 L3 ⊢
    obtain ⟨es1, tb1, wd, gv⟩ := ln
    dsimp only at L1 L2 L3 ⊢
    rw [Array.toList_push] at L1
    have E1 : ElemsOf (intKind prog w) es1.toList := (h4.push kis scn).perm L1
    have M1 : ∀ y, (S y || decide (y = k)) = true ↔ ∃ e ∈ es1.toList, (intKind prog w).is y e.2 = true := mem_push_iff kis h5 L1
    have Z1 : es1.size = n + 1 := by
      have z := L1.length_eq
      rw [List.length_append, Array.length_toList, Array.length_toList] at z
      rw [z, h8]; rfl
    have B1 : es1.size < scanBound := by rw [Z1]; exact room
    have quiet : ∀ (b : Bool) (s1 : Shared) (R : Unit → Shared → Prop), R () s1 → wpAny (model prog w) A (match b with | true => rule "set.scan.the-table-gave-way" | false => pure ()) R E s1 := fun b s1 R z => by
      cases b
      · exact wpAny_pure z
      · exact wpAny_rule z
    have fin : ∀ (s1 : Shared) (h' : Heap), s1 = { s with heap := h' } → Heap.SameBut a s.heap h' → SetG prog w h' a (fun y => S y || decide (y = k)) es1.size → Q true s1 := fun s1 h' e1 sb gg => by
      subst e1
      have z := q h' true sb
      rw [noS] at z
      exact z (by rw [Z1] at gg; exact gg)
    refine wpAny_bind (quiet _ _ _ ?_)
    have tail : ∀ (gw : Bool → Sem Unit), (∀ (b : Bool) (s1 : Shared) (R : Unit → Shared → Prop), R () s1 → wpAny (model prog w) A (gw b) R E s1) → wpAny (model prog w) A (do
        storeSet a es1 tb1
        if (!wd && tb1.tooFull) = true then do
          gw (relayAll tb1 es1 (SetTable.grown es1.size)).2.2
          storeSet a (relayAll tb1 es1 (SetTable.grown es1.size)).1 (relayAll tb1 es1 (SetTable.grown es1.size)).2.1
          pure (some true)
        else pure (some true)) (fun r s' => wpAny (model prog w) A (match r with | some b => pure b | none => setAddHashedIn a (.int k t) ((intKind prog w).hash k) 99999) Q E s') E s := by
      intro gw hgw
      refine wpAny_bind (stored h1 h2 h3 E1 M1 B1 L2 L3 fun h' sb at1 gg => ?_)
      by_cases full : (!wd && tb1.tooFull) = true
      · rw [if_pos full]
        have P2 := relayAll_perm tb1 es1 (SetTable.grown es1.size)
        have F2 := relayAll_fits tb1 es1 (SetTable.grown es1.size)
        have G2 := relayAll_good L3 es1 (SetTable.grown es1.size)
        generalize relayAll tb1 es1 (SetTable.grown es1.size) = rl at P2 F2 G2 ⊢
        obtain ⟨es2, tb2, gv2⟩ := rl
        dsimp only at P2 F2 G2 ⊢
        have Z2 : es2.size = es1.size := by
          have z := P2.length_eq
          rwa [Array.length_toList, Array.length_toList] at z
        refine wpAny_bind (hgw _ _ _ (wpAny_bind (stored (s := { s with heap := h' }) (S := fun y => S y || decide (y = k)) at1 h2 rfl (E1.perm P2) (fun y => (M1 y).trans ?_) (by rw [Z2]; exact B1) F2 G2 fun h'' sb2 _ gg2 => ?_)))
        · exact ⟨fun ⟨e, he, pe⟩ => ⟨e, P2.mem_iff.mpr he, pe⟩, fun ⟨e, he, pe⟩ => ⟨e, P2.mem_iff.mp he, pe⟩⟩
        · exact wpAny_pure (wpAny_pure (fin _ h'' rfl (sb.trans sb2) (by rw [Z2] at gg2; exact gg2)))
      · rw [if_neg full]
        exact wpAny_pure (wpAny_pure (fin _ h' rfl sb gg))
    split
    · rw [hashByValue_scannable 8 scn]
      refine wpAny_bind (wpAny_pure ?_)
      exact tail _ fun b s1 R z => by cases b <;> first | exact wpAny_pure z | exact wpAny_rule z
    · refine wpAny_bind (wpAny_pure ?_)
      exact tail _ fun b s1 R z => by cases b <;> first | exact wpAny_pure z | exact wpAny_rule z
end
end LT
end
section
set_option maxHeartbeats 8000000
namespace LT
open PySem PySem.Spec PyProof.Rows
section
variable {prog : Program} {w : World} {A : Around} {R : Result → Shared → Prop} {it : Addr} {fp wr : List Addr} {G : Array GenState → Array GenState → Prop} {n : Nat} {P : Nat → Value → Prop} {St : Nat → Shared → Prop}
theorem updG (W : WalksS prog w A.in1 it fp wr G n P St) (a : Addr) (ha : a ∉ fp) (val : Nat → Int) (hval : ∀ i v, P i v → ∃ t, v = .int (val i) t) (room : n + 1 < scanBound) :
    ∀ (left i : Nat) (s : Shared), n - i = left → i ≤ n → St i s → SetG prog w s.heap a (fun z => (firstMet val i).any (· == z)) (firstMet val i).length →
      (∀ s', Moved (a :: wr) G s s' → SetG prog w s'.heap a (fun z => (firstMet val n).any (· == z)) (firstMet val n).length → R (.ok (.ret .none)) s') →
      codeAny (model prog w) A (.builtin "set.update.loop" ⟨[.ref a, .ref it], []⟩) R s := by
  have awr : a ∉ wr := fun z => ha (W.sub _ z)
  have more : ∀ b ∈ wr, b ∈ a :: wr := fun b z => .tail _ z
  intro left
  induction left with
  | zero =>
    intro i s hleft hin st g q
    obtain rfl : i = n := by omega
    refine codeAny_builtin F.entry_set_update_loop ?_
    rw [Around.under_plainId F.plain_set_update_loop _]
    show wpAny _ _ (pyNext (.ref it) >>= _) _ _ _
    refine wpAny_bind (W.done s _ _ st fun s' mv => ?_)
    exact wpAny_pure (q s' (mv.mono more) (g.move (fun ob e => mv.heap a ob awr e) (fun _ => rfl) rfl))
  | succ left ih =>
    intro i s hleft hin st g q
    have hi : i < n := by omega
    refine codeAny_builtin F.entry_set_update_loop ?_
    rw [Around.under_plainId F.plain_set_update_loop _]
    show wpAny _ _ (pyNext (.ref it) >>= _) _ _ _
    refine wpAny_bind (W.item i s _ _ hi st fun v s1 pv st1 mv => ?_)
    obtain ⟨t, rfl⟩ := hval i v pv
    have g1 : SetG prog w s1.heap a (fun z => (firstMet val i).any (· == z)) (firstMet val i).length := g.move (fun ob e => mv.heap a ob awr e) (fun _ => rfl) rfl
    show wpAny _ _ (holding [Value.int (val i) t] (setAdd a (.int (val i) t)) >>= _) _ _ _
    refine wpAny_bind (wpAny_holding ?_)
    unfold setAdd
    refine wpAny_holding (wpAny_bind ((intKind prog w).pyHash (k := val i) (intKind_is _ _ _ _) ?_))
    have few := firstMet_length_le val i
    refine addG (s := { s1 with toks := s1.toks + 1 }) g1 (by omega) fun h2 b sb g2 => ?_
    have g3 : SetG prog w h2 a (fun z => (firstMet val (i + 1)).any (· == z)) (firstMet val (i + 1)).length :=
      g2.move (fun _ e => e) (fun z => by rw [firstMet_succ, step_any]) (by rw [firstMet_succ, step_length])
    have off : ∀ b, b ≠ a → h2.get? b = s1.heap.get? b := fun b hb => sb.2 b hb
    refine wpAny_pure ⟨plainId_quiet F.plain_set_update_loop _, ih (i + 1) _ (by omega) hi (W.frame _ s1 _ _ st1 (Nat.le_succ _) fun b hb ob e => ?_) g3 fun s3 mv3 g4 => ?_⟩
    · rw [off b fun z => ha (z ▸ hb)]
      exact e
    · refine q s3 (.trans W.gtrans ((mv.mono more).then_heap (Nat.le_succ _) fun b ob hb e => ?_) mv3) g4
      rw [off b fun z => hb (z ▸ .head _)]
      exact e
end
section
variable {prog : Program} {w : World} {A : Around} {E : Value → Shared → Prop} {s : Shared}
theorem freshG (h : Heap) : SetG prog w (h.push { cls := .type "set", dict := none, data := .set #[] 0 (.fresh 0 0 (ledOf w)) }) h.objs.size (fun _ => false) 0 :=
  ⟨_, #[], 0, _, ⟨Heap.get?_push_size _ rfl, ⟨rfl, rfl, rfl⟩, rfl⟩, fun e he => by simp at he, fun k => by simp, ⟨by decide, rfl, rfl⟩, ⟨List.Pairwise.nil, rfl, rfl⟩⟩
theorem newG (x : Value) {Q : Value → Shared → Prop} (q : Q (.ref s.heap.objs.size) { s with heap := s.heap.push { cls := .type "set", dict := none, data := .set #[] 0 (.fresh 0 0 (ledOf w)) } }) :
    codeAny (model prog w) A (.call (.builtin "set.__new__") ⟨[.type "set", x], []⟩) (wants Q E) s := by
  refine codeAny_of_tree ?_
  show wpAny _ _ (do checkBuiltinCall "set.__new__" ⟨[.type "set", x], []⟩; again (.builtin "set.__new__" ⟨[.type "set", x], []⟩)) _ _ _
  refine wpAny_bind (wpAny_of_eq (F.newCall_set_1 x) (wpAny_pure ⟨plainId_quiet F.plain_set_new _, codeAny_builtin F.entry_set_new ?_⟩))
  rw [Around.under_plainId F.plain_set_new _]
  unfold Builtin.«set.__new__» Builtin.Frozenset.newClass
  have self := sub_set_self
  obtain ⟨hp, gs, dr, tk, os⟩ := s
  dsimp only
  wp_walk
  refine wpAny_askSetting (wpAny_pure ?_)
  dsimp only
  simp only [newObj]
  exact wpAny_bind (wpAny_alloc (wpAny_pure (wpAny_pure q)))
theorem setG {l : Addr} {T : String} {items : Array Value} {ns : List Int} {Q : Value → Shared → Prop} (hh : A.handled = none) (hT : (T = "list" ∧ s.heap.IsList l items) ∨ (T = "tuple" ∧ s.heap.IsTuple l items)) (hi : IntsAre items.toList ns) (room : items.size + 1 < scanBound)
    (q : ∀ (h' : Heap) (tk : Nat), SetG prog w h' s.heap.objs.size (fun z => (firstMet (fun i => ns.getD i 0) items.size).any (· == z)) (firstMet (fun i => ns.getD i 0) items.size).length → (∀ b ob, s.heap.get? b = some ob → h'.get? b = some ob) →
      Q (.ref s.heap.objs.size) { s with heap := h', toks := tk }) : wpAny (model prog w) A (call (.type "set") [.ref l]) Q E s := by
  obtain ⟨c, tl, hmro⟩ := F.called_set.mro
  have hmade := F.called_set.made
  have hsub := F.called_set.sub
  refine wpAny_call (codeAny_of_tree ?_)
  show wpAny _ _ (callAny (.type "set") _) _ _ _
  refine wpAny_pure ⟨Code.quiet_builtin _ (by decide +kernel), codeAny_builtin F.entry_type_call ?_⟩
  rw [Around.under_plain (weight_type_call_type "set" [.ref l] []) rfl]
  have hnt := F.called_set.notType
  have hcc := F.called_set.canCreate
  have htc := F.typeCall_set_1 (.ref l)
  repeat' (first | assumption | wp_step)
  refine codeAny_mono (newG (.ref l) (E := E) (Q := fun v s1 => v = .ref s.heap.objs.size ∧ s1 = { s with heap := s.heap.push { cls := .type "set", dict := none, data := .set #[] 0 (.fresh 0 0 (ledOf w)) } }) ⟨rfl, rfl⟩) fun r s1 hr => ?_
  cases r with
  | error e => exact hr
  | ok fl =>
    cases fl with
    | ret v =>
      obtain ⟨rfl, rfl⟩ := hr
      have laid : (s.heap.push { cls := .type "set", dict := none, data := .set #[] 0 (.fresh 0 0 (ledOf w)) }).get? s.heap.objs.size = some { cls := .type "set", dict := none, data := .set #[] 0 (.fresh 0 0 (ledOf w)) } := Heap.get?_push_size _ rfl
      have isSet : Shared.TypeIs { s with heap := s.heap.push { cls := .type "set", dict := none, data := .set #[] 0 (.fresh 0 0 (ledOf w)) } } (.ref s.heap.objs.size) "set" := ⟨_, laid, rfl⟩
      have hli := F.called_set.init.lookup
      have hbi := F.called_set.init.bind (.ref s.heap.objs.size)
      repeat' (first | assumption | wp_step)
      refine codeAny_mono (codeAny_call_builtin (R := wants (fun z s2 => z = .none ∧ ∃ h' tk, s2 = { s with heap := h', toks := tk } ∧
          SetG prog w h' s.heap.objs.size (fun z => (firstMet (fun i => ns.getD i 0) items.size).any (· == z)) (firstMet (fun i => ns.getD i 0) items.size).length ∧ (∀ b ob, s.heap.get? b = some ob → h'.get? b = some ob)) E) F.called_set.init.plain F.entry_set_init (check_set_init_1 isSet ?_)) fun r2 s2 hr2 => ?_
      · have keepL : ∀ ob, s.heap.get? l = some ob → (s.heap.push { cls := .type "set", dict := none, data := .set #[] 0 (.fresh 0 0 (ledOf w)) }).get? l = some ob := fun ob e => Heap.get?_push_of_some _ e
        have hval : ∀ (i : Nat) (v : Value), items[i]? = some v → ∃ t, v = .int ((fun i => ns.getD i 0) i) t := fun i v hv => IntsAre.int_at hi i v (by rw [Array.getElem?_toList]; exact hv)
        have hh3 : A.in1.in1.in1.handled = none := by simp [hh]
        have done1 : ∀ (l0 : Addr) (h0 : Heap) (s' : Shared), l0 = s.heap.objs.size → Moved [l0, (s.heap.push { cls := .type "set", dict := none, data := .set #[] 0 (.fresh 0 0 (ledOf w)) }).objs.size] (fun a b => b = a) { s with heap := h0 } s' → (∀ b ob, s.heap.get? b = some ob → h0.get? b = some ob) →
            (∀ b ob, s.heap.get? b = some ob → s'.heap.get? b = some ob) ∧ s' = { s with heap := s'.heap, toks := s'.toks } := fun l0 h0 s' e0 mv k0 => by
          refine ⟨fun b ob e => mv.heap b ob (fun z => ?_) (k0 b ob e), ?_⟩
          · have lt := Heap.lt_size e
            rw [Heap.size_push, e0] at z
            simp only [List.mem_cons, List.not_mem_nil, or_false] at z
            rcases z with z | z
            · exact Nat.lt_irrefl _ (z ▸ lt)
            · exact Nat.lt_irrefl _ (Nat.lt_of_succ_lt (z ▸ lt))
          · obtain ⟨h', g', d', tk', os'⟩ := s'
            have eg : g' = s.gens := mv.gens
            have ed : d' = s.drawn := mv.drawn
            have eo : os' = s.os := mv.os
            subst eg ed eo
            rfl
        unfold Builtin.«set.__init__» noKeywords Builtin.Frozenset.updateFrom
        generalize hPI : pyIter = PI
        rcases hT with ⟨rfl, hl⟩ | ⟨rfl, hl⟩
        · obtain ⟨⟨ocl, odi, oda, osl⟩, hol, hcl, nl, hdl⟩ := hl
          simp only at hcl hdl
          subst hcl hdl
          have hol' := keepL _ hol
          have f1 := F.sub_list_set
          have f2 := F.sub_list_frozenset
          have f3 : (Value.type "list" == Value.type "dict") = false := by decide
          wp_walk
          subst hPI
          have hl1 : (s.heap.push { cls := .type "set", dict := none, data := .set #[] 0 (.fresh 0 0 (ledOf w)) }).IsList l items := ⟨_, hol', rfl, nl, rfl⟩
          refine wpAny_pyIter_list hl1 ?_
          refine wpAny_bind (wpAny_runValue ?_)
          have ltl : l < s.heap.objs.size := Heap.lt_size hol
          have szp : (s.heap.push { cls := .type "set", dict := none, data := .set #[] 0 (.fresh 0 0 (ledOf w)) }).objs.size = s.heap.objs.size + 1 := Heap.size_push ..
          have ne1 : l ≠ (s.heap.push { cls := .type "set", dict := none, data := .set #[] 0 (.fresh 0 0 (ledOf w)) }).objs.size := by rw [szp]; exact Nat.ne_of_lt (Nat.lt_succ_of_lt ltl)
          have ne2 : s.heap.objs.size ∉ [(s.heap.push { cls := .type "set", dict := none, data := .set #[] 0 (.fresh 0 0 (ledOf w)) }).objs.size, l] := by
            rw [szp]
            simp only [List.mem_cons, List.not_mem_nil, or_false]
            rintro (z | z)
            · exact Nat.succ_ne_self _ z.symm
            · exact Nat.lt_irrefl _ (z ▸ ltl)
          refine updG ((Walks.list hh3 _ l ne1 items).toS) s.heap.objs.size ne2 (fun i => ns.getD i 0) hval room _ 0 _ rfl (Nat.zero_le _) ⟨⟨_, Heap.get?_push_size _ rfl, rfl, rfl⟩, hl1.push _⟩ ?g0 fun s' mv gg => ?_
          case g0 => exact (freshG s.heap).move (fun ob e => Heap.get?_push_of_some _ e) (fun _ => rfl) rfl
          obtain ⟨k1, k2⟩ := done1 _ _ s' rfl mv fun b ob e => Heap.get?_push_of_some _ (Heap.get?_push_of_some _ e)
          exact wpAny_pure (wpAny_pure ⟨rfl, s'.heap, s'.toks, k2, gg, k1⟩)
        · obtain ⟨⟨ocl, odi, oda, osl⟩, hol, hcl, nl, hdl⟩ := hl
          simp only at hcl hdl
          subst hcl hdl
          have hol' := keepL _ hol
          have f1 := F.sub_tuple_set
          have f2 := F.sub_tuple_frozenset
          have f3 : (Value.type "tuple" == Value.type "dict") = false := by decide
          wp_walk
          subst hPI
          have hl1 : (s.heap.push { cls := .type "set", dict := none, data := .set #[] 0 (.fresh 0 0 (ledOf w)) }).IsTuple l items := ⟨_, hol', rfl, nl, rfl⟩
          refine wpAny_pyIter_tuple hl1 ?_
          refine wpAny_bind (wpAny_runValue ?_)
          have ltl : l < s.heap.objs.size := Heap.lt_size hol
          have szp : (s.heap.push { cls := .type "set", dict := none, data := .set #[] 0 (.fresh 0 0 (ledOf w)) }).objs.size = s.heap.objs.size + 1 := Heap.size_push ..
          have ne1 : l ≠ (s.heap.push { cls := .type "set", dict := none, data := .set #[] 0 (.fresh 0 0 (ledOf w)) }).objs.size := by rw [szp]; exact Nat.ne_of_lt (Nat.lt_succ_of_lt ltl)
          have ne2 : s.heap.objs.size ∉ [(s.heap.push { cls := .type "set", dict := none, data := .set #[] 0 (.fresh 0 0 (ledOf w)) }).objs.size, l] := by
            rw [szp]
            simp only [List.mem_cons, List.not_mem_nil, or_false]
            rintro (z | z)
            · exact Nat.succ_ne_self _ z.symm
            · exact Nat.lt_irrefl _ (z ▸ ltl)
          refine updG ((Walks.tuple hh3 _ l ne1 items).toS) s.heap.objs.size ne2 (fun i => ns.getD i 0) hval room _ 0 _ rfl (Nat.zero_le _) ⟨⟨_, Heap.get?_push_size _ rfl, rfl, rfl⟩, ⟨_, Heap.get?_push_of_some _ hol', rfl, nl, rfl⟩⟩ ?g0 fun s' mv gg => ?_
          case g0 => exact (freshG s.heap).move (fun ob e => Heap.get?_push_of_some _ e) (fun _ => rfl) rfl
          obtain ⟨k1, k2⟩ := done1 _ _ s' rfl mv fun b ob e => Heap.get?_push_of_some _ (Heap.get?_push_of_some _ e)
          exact wpAny_pure (wpAny_pure ⟨rfl, s'.heap, s'.toks, k2, gg, k1⟩)
      · cases r2 with
        | error e => exact hr2
        | ok fl2 =>
          cases fl2 with
          | ret z =>
            obtain ⟨rfl, h', tk, rfl, gg, k1⟩ := hr2
            repeat' (first | assumption | wp_step)
            exact q _ _ gg k1
          | _ => exact hr2.elim
    | _ => exact hr.elim
end
end LT
end
section
set_option maxHeartbeats 8000000
namespace LT
open PySem PySem.Spec PyProof.Rows
theorem slot_sit_next : Slot "set_iterator" "__next__" "set_iterator.__next__" := .of (owner := "set_iterator") (n := "__next__") (by rw [typeLookup_type, builtinLookup_eq_fast]; kernel_rfl) (by decide +kernel) (by decide +kernel) (by decide +kernel) (by first | exact .inl (by decide +kernel) | exact .inr (by decide +kernel)) (by rw [isSubtype_type]; kernel_rfl)
theorem slot_sit_iter : Slot "set_iterator" "__iter__" "set_iterator.__iter__" := .of (owner := "set_iterator") (n := "__iter__") (by rw [typeLookup_type, builtinLookup_eq_fast]; kernel_rfl) (by decide +kernel) (by decide +kernel) (by decide +kernel) (by first | exact .inl (by decide +kernel) | exact .inr (by decide +kernel)) (by rw [isSubtype_type]; kernel_rfl)
theorem entry_sit_next : entryFor table "set_iterator.__next__" = some Builtin.«set_iterator.__next__» := entryFor_of_tree (by kernel_rfl)
theorem entry_sit_iter : entryFor table "set_iterator.__iter__" = some Builtin.«dict_keyiterator.__iter__» := entryFor_alias (id' := "dict_keyiterator.__iter__") (by kernel_rfl) rfl (by decide +kernel) (by kernel_rfl)
theorem args_sit_next (a : Value) : argsOk "set_iterator.__next__" ⟨[a], []⟩ := by unfold argsOk; kernel_rfl
theorem args_sit_iter (a : Value) : argsOk "set_iterator.__iter__" ⟨[a], []⟩ := by unfold argsOk; kernel_rfl
theorem entry_set_iter : entryFor table "set.__iter__" = some Builtin.«frozenset.__iter__» := entryFor_alias (id' := "frozenset.__iter__") (by kernel_rfl) rfl (by decide +kernel) (by kernel_rfl)
noncomputable def SIt (h : Heap) (it a : Addr) (first : Value) (i n ep : Nat) : Prop := h.get? it = some { cls := .type "set_iterator", dict := none, data := .fields #[first, .int i 0, .ref a, .int n 0, .int ep 0], slots := #[] }
structure SObj (h : Heap) (a : Addr) (es : Array (Int × Value)) (ep : Nat) (tb : SetTable) : Prop where
  at_ : ∃ ob, h.get? a = some ob ∧ ob.ExactSet ∧ ob.data = .set es ep tb
  fits : tb.fits es.size = true
section
variable {prog : Program} {w : World} {A : Around} {E : Value → Shared → Prop} {s : Shared}
theorem next_by {it a : Addr} {first : Value} {i n ep : Nat} {es : Array (Int × Value)} {tb : SetTable} {Q : Option Value → Shared → Prop} (hI : SIt s.heap it a first i n ep) (hS : SObj s.heap a es ep tb) (hn : es.size = n) (slot : Nat) (hf : first = .int slot 0)
    (q : wpAny (model prog w) A.in1 (do
      match ← setNext a slot i ep with
      | some (x, next) =>
        setField (.ref it) 0 (rawInt next)
        setField (.ref it) 1 (rawInt ((i : Int) + 1))
        ret x
      | none => setField (.ref it) 2 .none; raiseNew (← newExc (.type "StopIteration") [])) (fun f s' => ∃ v, f = .done (.ret v) ∧ Q (some v) s') (fun e s' => wpAny (model prog w) A (do if ← isInstance e (.type "StopIteration") then pure none else throw e) Q E s') s) :
    wpAny (model prog w) A (pyNext (.ref it)) Q E s := by
  obtain ⟨ob, ho, hx, hd⟩ := hS.at_
  subst hf
  have tI : s.TypeIs (.ref it) "set_iterator" := ⟨_, hI, rfl⟩
  unfold pyNext
  refine wpAny_bind (wpAny_attempt (wpAny_callSpecial?_slot (name := Str.ofString "__next__") tI slot_sit_next (wpAny_call_entry slot_sit_next tI entry_sit_next ?_ (args_sit_next _))))
  unfold Builtin.«set_iterator.__next__»
  refine wpAny_bind (m := slotArgs "__next__" 0 _) (wpAny_pure ?_)
  refine wpAny_bind (m := fieldsOf (.ref it)) ?_
  unfold fieldsOf
  refine wpAny_bind (wpAny_load hI (wpAny_pure ?_))
  refine wpAny_bind (wpAny_setEntries_of ho hd hS.fits ?_)
  have same : ¬ (((es.size : Nat) : Int) != (n : Int)) = true := by rw [hn]; simp
  rw [if_neg same]
  exact wpAny_mono q (fun f s' ⟨v, e, z⟩ => ⟨v, e, wpAny_pure z⟩) fun e s' z => z
theorem stop_by {it : Addr} {r : Shared → Prop} {Q : Option Value → Shared → Prop} (hh : A.handled = none) (q : ∀ h', (∀ b ob, s.heap.get? b = some ob → h'.get? b = some ob) → Q none { s with heap := h' }) :
    wpAny (model prog w) A.in1 (do raiseNew (← newExc (.type "StopIteration") []) : Sem PySem.Fin) (fun f s' => ∃ v, f = .done (.ret v) ∧ Q (some v) s') (fun e s' => wpAny (model prog w) A (do if ← isInstance e (.type "StopIteration") then pure none else throw e) Q E s') s := by
  refine wpAny_bind ?_
  simp only [newExc, newTuple]
  refine wpAny_bind (wpAny_newObj_type ?_ (by size_fits))
  refine wpAny_bind (m := firstArgMember _ _) (wpAny_of_eq (a := Value.none) (by first | rfl | (simp only [firstArgMember]; rfl)) ?_)
  refine wpAny_newObj_type ?_ (by size_fits)
  simp only [raiseNew]
  refine wpAny_bind (wpAny_handled ?_)
  rw [show A.in1.handled = none from hh]
  refine wpAny_bind (wpAny_pure (wpAny_throw ?_))
  refine wpAny_bind (wpAny_isInstance (T := "StopIteration") (b := true) ⟨_, Heap.get?_push_size _ rfl, rfl⟩ isSubtype_stop ?_)
  exact wpAny_pure (q _ fun b ob e => Heap.get?_push_of_some _ (Heap.get?_push_of_some _ e))
theorem SIt.set {h h' : Heap} {it a : Addr} {first : Value} {i n ep : Nat} (x : SIt h it a first i n ep) : it < h.objs.size := Heap.lt_size x
theorem place_size {es : Array (Int × Value)} {tb : SetTable} (hf : tb.fits es.size = true) : tb.place.size = es.size := by
  unfold SetTable.fits at hf
  simp only [Bool.and_eq_true, beq_iff_eq] at hf
  exact hf.1
theorem setNext_plain {a : Addr} {ep i slot : Nat} {es : Array (Int × Value)} {tb : SetTable} {R : Option (Value × Nat) → Shared → Prop} (hS : SObj s.heap a es ep tb) (led : tb.led = true) (bt : w.params.followText "set-order" = false) (pl : (!tb.plain && decide (es.size > 1)) = false)
    (q : R (match es[SetTable.below tb.place slot]?, tb.place[SetTable.below tb.place slot]? with | some (_, x), some j => some (x, j + 1) | _, _ => none) s) : wpAny (model prog w) A (setNext a slot i ep) R E s := by
  obtain ⟨ob, ho, hx, hd⟩ := hS.at_
  unfold setNext
  refine wpAny_bind (wpAny_setState_of ho hd hS.fits ?_)
  dsimp only
  unfold setsByText
  refine wpAny_bind (wpAny_bind (wpAny_askSetting (wpAny_pure ?_)))
  dsimp only
  rw [show (model prog w).w.params.followText "set-order" = false from bt]
  simp only [Bool.false_eq_true, if_false]
  show wpAny _ _ (if (!tb.plain && decide (es.size > 1)) = true then _ else _) _ _ _
  rw [if_neg (by rw [pl]; exact Bool.false_ne_true)]
  refine wpAny_bind ?_
  show wpAny _ _ (if (!tb.led && !es.isEmpty) = true then _ else _) _ _ _
  rw [if_neg (by rw [led]; exact Bool.false_ne_true)]
  exact wpAny_pure (wpAny_pure q)
theorem setNext_text {a : Addr} {ep i slot : Nat} {es : Array (Int × Value)} {tb : SetTable} {R : Option (Value × Nat) → Shared → Prop} (hS : SObj s.heap a es ep tb) (bt : w.params.followText "set-order" = true)
    (q : R (((pickOrder (w.params.setOrder a ep) es)[i]?).map fun e => (e.2, slot)) s) : wpAny (model prog w) A (setNext a slot i ep) R E s := by
  obtain ⟨ob, ho, hx, hd⟩ := hS.at_
  unfold setNext
  refine wpAny_bind (wpAny_setState_of ho hd hS.fits ?_)
  dsimp only
  unfold setsByText
  refine wpAny_bind (wpAny_bind (wpAny_askSetting (wpAny_pure ?_)))
  dsimp only
  rw [show (model prog w).w.params.followText "set-order" = true from bt]
  simp only [if_true]
  rw [if_neg (by simp)]
  refine wpAny_bind ?_
  unfold setWalk
  refine wpAny_bind (wpAny_setState_of ho hd hS.fits ?_)
  dsimp only
  unfold setsByText
  refine wpAny_bind (wpAny_bind (wpAny_askSetting (wpAny_pure ?_)))
  dsimp only
  rw [show (model prog w).w.params.followText "set-order" = true from bt]
  simp only [if_true]
  refine wpAny_bind (wpAny_askSetting (wpAny_pure (wpAny_pure q)))
theorem item_by {it a : Addr} {n ep i slot nx : Nat} {x : Value} {es : Array (Int × Value)} {tb : SetTable} {Q : Option Value → Shared → Prop} (hI : SIt s.heap it a (.int slot 0) i n ep) (hS : SObj s.heap a es ep tb) (hn : es.size = n)
    (st : ∀ (R : Option (Value × Nat) → Shared → Prop) (E' : Value → Shared → Prop), R (some (x, nx)) s → wpAny (model prog w) A.in1 (setNext a slot i ep) R E' s)
    (q : ∀ h', SIt h' it a (.int nx 0) (i + 1) n ep → Heap.SameBut it s.heap h' → Q (some x) { s with heap := h' }) : wpAny (model prog w) A (pyNext (.ref it)) Q E s := by
  refine next_by hI hS hn slot rfl (wpAny_bind (st _ _ ?_))
  dsimp only
  refine wpAny_bind (wpAny_setField_rec hI (by simp) fun h1 a1 sb1 => ?_)
  refine wpAny_bind (wpAny_setField_rec (s := { s with heap := h1 }) a1 (by simp) fun h2 a2 sb2 => ?_)
  refine wpAny_pure ⟨x, rfl, q h2 ?_ (sb1.trans sb2)⟩
  unfold SIt
  rw [a2]
  simp [rawInt]
theorem end_by {it a : Addr} {n ep i slot : Nat} {es : Array (Int × Value)} {tb : SetTable} {Q : Option Value → Shared → Prop} (hh : A.handled = none) (hI : SIt s.heap it a (.int slot 0) i n ep) (hS : SObj s.heap a es ep tb) (hn : es.size = n)
    (st : ∀ (R : Option (Value × Nat) → Shared → Prop) (E' : Value → Shared → Prop), R none s → wpAny (model prog w) A.in1 (setNext a slot i ep) R E' s)
    (q : ∀ h', (∀ b ob, b ≠ it → s.heap.get? b = some ob → h'.get? b = some ob) → Q none { s with heap := h' }) : wpAny (model prog w) A (pyNext (.ref it)) Q E s := by
  refine next_by hI hS hn slot rfl (wpAny_bind (st _ _ ?_))
  dsimp only
  refine wpAny_bind (wpAny_setField_rec hI (by simp) fun h1 a1 sb1 => ?_)
  exact stop_by (r := fun _ => True) (it := it) (s := { s with heap := h1 }) hh fun h' k => q h' fun b ob hb e => k b ob ((sb1.2 b hb).trans e)
end
end LT
end
section
set_option maxHeartbeats 8000000
namespace LT
open PySem PySem.Spec PyProof.Rows
theorem perm_erase {α : Type} : ∀ {l : List α} {i : Nat} {x : α}, l[i]? = some x → List.Perm l (x :: l.eraseIdx i)
  | [], _, _, e => by simp at e
  | a :: r, 0, x, e => by simp at e; subst e; exact .rfl
  | a :: r, i + 1, x, e => by
    have e : r[i]? = some x := by simpa using e
    exact ((perm_erase e).cons a).trans (.swap x a _)
theorem len_eraseIdx {α : Type} {l : List α} {i : Nat} {x : α} (e : l[i]? = some x) : (l.eraseIdx i).length + 1 = l.length := by
  have := (perm_erase e).length_eq
  rw [List.length_cons] at this
  exact this.symm
theorem pick_perm {α : Type} (nx : Nat → Nat) : ∀ (fuel k : Nat) (left : List α) (out : Array α), left.length = fuel → List.Perm (pickOrder.go nx fuel k left out).toList (out.toList ++ left)
  | 0, k, left, out, h => by
    have : left = [] := List.length_eq_zero_iff.mp h
    subst this
    simp [pickOrder.go]
  | fuel + 1, k, left, out, h => by
    unfold pickOrder.go
    have hl : nx k % left.length < left.length := Nat.mod_lt _ (by omega)
    have e : left[nx k % left.length]? = some left[nx k % left.length] := by simp [hl]
    rw [e]
    dsimp only
    have hz := len_eraseIdx e
    refine (pick_perm nx fuel (k + 1) _ _ (by omega)).trans ?_
    rw [Array.toList_push, List.append_assoc]
    exact List.Perm.append_left _ (perm_erase e).symm
theorem pickOrder_perm {α : Type} (nx : Nat → Nat) (xs : Array α) : List.Perm (pickOrder nx xs).toList xs.toList := by
  have := pick_perm nx xs.size 0 xs.toList #[] (by simp)
  simpa [pickOrder] using this
section
variable {prog : Program} {w : World} {A : Around} {E : Value → Shared → Prop} {s : Shared}
theorem wpAny_draw {src : Source} {n : Nat} {Q : Nat → Shared → Prop} (hn : n ≠ 0) (q : ∀ k d, k < n → Q k { s with drawn := d }) : wpAny (model prog w) A (choose src n) Q E s := fun Γ p hΓ => ⟨hn, q _ _ (Nat.mod_lt _ (Nat.pos_of_ne_zero hn))⟩
theorem drawOrder_by {α : Type} : ∀ (fuel : Nat) (xs : List α) (s : Shared) (Q : List α → Shared → Prop), xs.length ≤ fuel → (∀ ys d, List.Perm ys xs → Q ys { s with drawn := d }) → wpAny (model prog w) A (drawOrder fuel xs) Q E s
  | 0, xs, s, Q, h, q => by
    have : xs = [] := List.length_eq_zero_iff.mp (by omega)
    subst this
    unfold drawOrder
    exact wpAny_pure (q [] s.drawn .rfl)
  | fuel + 1, [], s, Q, h, q => by
    unfold drawOrder
    exact wpAny_pure (q [] s.drawn .rfl)
  | fuel + 1, x :: r, s, Q, h, q => by
    unfold drawOrder
    refine wpAny_bind (wpAny_draw (by simp) fun k d hk => ?_)
    have e : (x :: r)[k]? = some (x :: r)[k] := by simp [hk]
    rw [e]
    dsimp only
    have hz := len_eraseIdx e
    refine wpAny_bind (drawOrder_by fuel ((x :: r).eraseIdx k) { s with drawn := d } _ (by omega) fun ys d' p => wpAny_pure ?_)
    exact q _ d' ((p.cons _).trans (perm_erase e).symm)
theorem item_drawn {it a tp : Addr} {n ep i p : Nat} {x : Value} {es : Array (Int × Value)} {tb : SetTable} {ps : Array Value} {Q : Option Value → Shared → Prop} (hI : SIt s.heap it a (.ref tp) i n ep) (hS : SObj s.heap a es ep tb) (hn : es.size = n)
    (hT : s.heap.get? tp = some { cls := .type "tuple", data := .seq ps }) (hp : ps[i]? = some (.int (p : Nat) 0)) (he : (es[p]?).map (·.2) = some x)
    (q : ∀ h', SIt h' it a (.ref tp) (i + 1) n ep → Heap.SameBut it s.heap h' → Q (some x) { s with heap := h' }) : wpAny (model prog w) A (pyNext (.ref it)) Q E s := by
  obtain ⟨ob, ho, hx, hd⟩ := hS.at_
  have tI : s.TypeIs (.ref it) "set_iterator" := ⟨_, hI, rfl⟩
  unfold pyNext
  refine wpAny_bind (wpAny_attempt (wpAny_callSpecial?_slot (name := Str.ofString "__next__") tI slot_sit_next (wpAny_call_entry slot_sit_next tI entry_sit_next ?_ (args_sit_next _))))
  unfold Builtin.«set_iterator.__next__»
  refine wpAny_bind (m := slotArgs "__next__" 0 _) (wpAny_pure ?_)
  refine wpAny_bind (m := fieldsOf (.ref it)) ?_
  unfold fieldsOf
  refine wpAny_bind (wpAny_load hI (wpAny_pure ?_))
  refine wpAny_bind (wpAny_setEntries_of ho hd hS.fits ?_)
  have same : ¬ (((es.size : Nat) : Int) != (n : Int)) = true := by rw [hn]; simp
  rw [if_neg same]
  refine wpAny_bind (m := seqItems? (.ref tp)) ?_
  unfold seqItems?
  refine wpAny_bind (wpAny_load hT (wpAny_pure ?_))
  dsimp only
  rw [show ((i : Nat) : Int).toNat = i from Int.toNat_natCast i, hp]
  dsimp only
  refine wpAny_bind (m := setNextDrawn a _ _) ?_
  unfold setNextDrawn
  refine wpAny_bind (wpAny_setState_of ho hd hS.fits ?_)
  dsimp only
  rw [show ((ep : Nat) : Int).toNat = ep from Int.toNat_natCast ep, show ((p : Nat) : Int).toNat = p from Int.toNat_natCast p, if_neg (by simp)]
  cases ee : es[p]? with
  | none => rw [ee] at he; cases he
  | some e =>
    rw [ee] at he
    cases he
    dsimp only
    refine wpAny_pure ?_
    refine wpAny_bind (wpAny_setField_rec hI (by simp) fun h2 a2 sb2 => ?_)
    refine wpAny_pure ⟨_, rfl, wpAny_pure (q h2 ?_ sb2)⟩
    unfold SIt
    rw [a2]
    simp [rawInt]
theorem end_drawn {it a tp : Addr} {n ep i : Nat} {es : Array (Int × Value)} {tb : SetTable} {ps : Array Value} {Q : Option Value → Shared → Prop} (hh : A.handled = none) (hI : SIt s.heap it a (.ref tp) i n ep) (hS : SObj s.heap a es ep tb) (hn : es.size = n)
    (hT : s.heap.get? tp = some { cls := .type "tuple", data := .seq ps }) (hp : ps[i]? = none)
    (q : ∀ h', (∀ b ob, b ≠ it → s.heap.get? b = some ob → h'.get? b = some ob) → Q none { s with heap := h' }) : wpAny (model prog w) A (pyNext (.ref it)) Q E s := by
  obtain ⟨ob, ho, hx, hd⟩ := hS.at_
  have tI : s.TypeIs (.ref it) "set_iterator" := ⟨_, hI, rfl⟩
  unfold pyNext
  refine wpAny_bind (wpAny_attempt (wpAny_callSpecial?_slot (name := Str.ofString "__next__") tI slot_sit_next (wpAny_call_entry slot_sit_next tI entry_sit_next ?_ (args_sit_next _))))
  unfold Builtin.«set_iterator.__next__»
  refine wpAny_bind (m := slotArgs "__next__" 0 _) (wpAny_pure ?_)
  refine wpAny_bind (m := fieldsOf (.ref it)) ?_
  unfold fieldsOf
  refine wpAny_bind (wpAny_load hI (wpAny_pure ?_))
  refine wpAny_bind (wpAny_setEntries_of ho hd hS.fits ?_)
  have same : ¬ (((es.size : Nat) : Int) != (n : Int)) = true := by rw [hn]; simp
  rw [if_neg same]
  refine wpAny_bind (m := seqItems? (.ref tp)) ?_
  unfold seqItems?
  refine wpAny_bind (wpAny_load hT (wpAny_pure ?_))
  dsimp only
  rw [show ((i : Nat) : Int).toNat = i from Int.toNat_natCast i, hp]
  dsimp only
  refine wpAny_bind (wpAny_setField_rec hI (by simp) fun h1 a1 sb1 => ?_)
  refine wpAny_bind (wpAny_setField_rec (s := { s with heap := h1 }) a1 (by simp) fun h2 a2 sb2 => ?_)
  refine wpAny_mono (stop_by (Q := Q) (E := E) (r := fun _ => True) (it := it) (s := { s with heap := h2 }) hh fun h' k => q h' fun b ob hb e => k b ob ((sb2.2 b hb).trans ((sb1.2 b hb).trans e))) (fun f s' ⟨v, e, z⟩ => ⟨v, e, wpAny_pure z⟩) fun e s' z => z
theorem iter_self {it a : Addr} {first : Value} {i n ep : Nat} {Q : Value → Shared → Prop} (hI : SIt s.heap it a first i n ep) (q : Q (.ref it) s) : wpAny (model prog w) A (pyIter (.ref it)) Q E s := by
  have tI : s.TypeIs (.ref it) "set_iterator" := ⟨_, hI, rfl⟩
  refine wpAny_pyIter_slot tI slot_sit_iter (wpAny_call_entry slot_sit_iter tI entry_sit_iter ?_ (args_sit_iter _))
  show wpAny _ _ (ret (.ref it)) _ _ _
  exact wpAny_pure ⟨_, rfl, "set_iterator", _, tI, slot_sit_next.lookup, q⟩
theorem SObj.keep {h h' : Heap} {a : Addr} {es : Array (Int × Value)} {ep : Nat} {tb : SetTable} (x : SObj h a es ep tb) (k : ∀ ob, h.get? a = some ob → h'.get? a = some ob) : SObj h' a es ep tb :=
  ⟨let ⟨ob, h1, h2⟩ := x.at_; ⟨ob, k ob h1, h2⟩, x.fits⟩
noncomputable def slotAt (tb : SetTable) : Nat → Nat
  | 0 => 0
  | i + 1 => tb.place.getD i 0 + 1
theorem walk_plain (hh : A.handled = none) {it a : Addr} {ep : Nat} {es : Array (Int × Value)} {tb : SetTable} (hne : a ≠ it) (up : Up tb.place) (led : tb.led = true) (bt : w.params.followText "set-order" = false) (pl : (!tb.plain && decide (es.size > 1)) = false) (hf : tb.fits es.size = true) :
    Walks prog w A it [it, a] [it] es.size (fun i v => ∃ e, es.toList[i]? = some e ∧ v = e.2) (fun i h => SIt h it a (.int (slotAt tb i : Nat) 0) i es.size ep ∧ SObj h a es ep tb) where
  sub := fun b hb => by simp at hb; simp [hb]
  frame := fun i h h' st k => ⟨k it (by simp) _ st.1, st.2.keep fun ob e => k a (by simp) ob e⟩
  item := fun i s Q E hi st q => by
    have pz := place_size hf
    have hi2 : i < tb.place.size := by omega
    have bl : SetTable.below tb.place (slotAt tb i) = i := by
      cases i with
      | zero => exact below_zero up
      | succ i =>
        have hi3 : i < tb.place.size := by omega
        have e : tb.place[i]? = some (tb.place.getD i 0) := by simp [hi3, Array.getD]
        exact below_next up e
    have ep' : tb.place.getD i 0 = tb.place[i] := by simp [hi2, Array.getD]
    refine item_by (nx := slotAt tb (i + 1)) (x := es[i].2) st.1 st.2 rfl (fun R E' r => setNext_plain st.2 led bt pl ?_) fun h' a1 sb => ?_
    · rw [bl]
      have e1 : es[i]? = some es[i] := by simp [hi]
      have e2 : tb.place[i]? = some tb.place[i] := by simp [hi2]
      rw [e1, e2]
      show R (some (es[i].2, tb.place[i] + 1)) s
      have e3 : slotAt tb (i + 1) = tb.place[i] + 1 := by show tb.place.getD i 0 + 1 = _; rw [ep']
      rw [← e3]
      exact r
    · exact q _ h' s.toks ⟨es[i], by simp [hi], rfl⟩ ⟨a1, st.2.keep fun ob e => (sb.2 a hne).trans e⟩ fun b ob hb e => (sb.2 b fun z => hb (by simp [z])).trans e
  done := fun s Q E st q => by
    have pz := place_size hf
    have bl : SetTable.below tb.place (slotAt tb es.size) = es.size := by
      cases hz : es.size with
      | zero => exact below_zero up
      | succ i =>
        have hi3 : i < tb.place.size := by omega
        have e : tb.place[i]? = some (tb.place.getD i 0) := by simp [hi3, Array.getD]
        exact below_next up e
    refine end_by hh st.1 st.2 rfl (fun R E' r => setNext_plain st.2 led bt pl ?_) fun h' k => q h' s.toks fun b ob hb e => k b ob (fun z => hb (by simp [z])) e
    rw [bl]
    have e1 : es[es.size]? = none := by simp
    rw [e1]
    exact r
  self := fun i s Q E st q => iter_self st.1 q
theorem walk_text (hh : A.handled = none) {it a : Addr} {ep : Nat} {es : Array (Int × Value)} {tb : SetTable} (hne : a ≠ it) (bt : w.params.followText "set-order" = true) (hf : tb.fits es.size = true) :
    Walks prog w A it [it, a] [it] es.size (fun i v => ∃ e, (pickOrder (w.params.setOrder a ep) es).toList[i]? = some e ∧ v = e.2) (fun i h => SIt h it a (.int (0 : Nat) 0) i es.size ep ∧ SObj h a es ep tb) where
  sub := fun b hb => by simp at hb; simp [hb]
  frame := fun i h h' st k => ⟨k it (by simp) _ st.1, st.2.keep fun ob e => k a (by simp) ob e⟩
  item := fun i s Q E hi st q => by
    have pz : (pickOrder (w.params.setOrder a ep) es).size = es.size := by
      have := (pickOrder_perm (w.params.setOrder a ep) es).length_eq
      simpa using this
    have hi2 : i < (pickOrder (w.params.setOrder a ep) es).size := by omega
    refine item_by (nx := 0) (x := (pickOrder (w.params.setOrder a ep) es)[i].2) st.1 st.2 rfl (fun R E' r => setNext_text st.2 bt ?_) fun h' a1 sb => ?_
    · have e1 : (pickOrder (w.params.setOrder a ep) es)[i]? = some (pickOrder (w.params.setOrder a ep) es)[i] := by simp [hi2]
      rw [e1]
      exact r
    · exact q _ h' s.toks ⟨(pickOrder (w.params.setOrder a ep) es)[i], by simp [hi2], rfl⟩ ⟨a1, st.2.keep fun ob e => (sb.2 a hne).trans e⟩ fun b ob hb e => (sb.2 b fun z => hb (by simp [z])).trans e
  done := fun s Q E st q => by
    have pz : (pickOrder (w.params.setOrder a ep) es).size = es.size := by
      have := (pickOrder_perm (w.params.setOrder a ep) es).length_eq
      simpa using this
    refine end_by hh st.1 st.2 rfl (fun R E' r => setNext_text st.2 bt ?_) fun h' k => q h' s.toks fun b ob hb e => k b ob (fun z => hb (by simp [z])) e
    have e1 : (pickOrder (w.params.setOrder a ep) es)[es.size]? = none := by simp [pz]
    rw [e1]
    exact r
  self := fun i s Q E st q => iter_self st.1 q
theorem walk_drawn (hh : A.handled = none) {it a tp : Addr} {ep : Nat} {es : Array (Int × Value)} {tb : SetTable} {ys : List Nat} (hne : a ≠ it) (hne2 : tp ≠ it) (hp : List.Perm ys (List.range es.size)) :
    Walks prog w A it [it, a, tp] [it] es.size (fun i v => ∃ e, (ys.filterMap (es[·]?))[i]? = some e ∧ v = e.2) (fun i h => SIt h it a (.ref tp) i es.size ep ∧ SObj h a es ep tb ∧ h.get? tp = some { cls := .type "tuple", data := .seq (ys.map fun (i : Nat) => rawInt i).toArray }) where
  sub := fun b hb => by simp at hb; simp [hb]
  frame := fun i h h' st k => ⟨k it (by simp) _ st.1, st.2.1.keep fun ob e => k a (by simp) ob e, k tp (by simp) _ st.2.2⟩
  item := fun i s Q E hi st q => by
    have hl : ys.length = es.size := by simpa using hp.length_eq
    have hi2 : i < ys.length := by omega
    have lt : ∀ y ∈ ys, y < es.size := fun y hy => by simpa using hp.mem_iff.mp hy
    have lti := lt _ (List.getElem_mem hi2)
    have fm : ∀ (zs : List Nat), (∀ y ∈ zs, y < es.size) → ∀ (j : Nat) (y : Nat), zs[j]? = some y → (zs.filterMap (es[·]?))[j]? = es[y]? := by
      intro zs
      induction zs with
      | nil => intro _ j y e; simp at e
      | cons z r ih =>
        intro hz j y e
        have lz := hz z (.head _)
        rw [List.filterMap_cons_some (b := es[z]) (by simp [lz])]
        cases j with
        | zero => simp at e; subst e; simp [lz]
        | succ j => simpa using ih (fun y hy => hz y (.tail _ hy)) j y (by simpa using e)
    refine item_drawn (p := ys[i]) (x := es[ys[i]].2) st.1 st.2.1 rfl st.2.2 (by simp [hi2, rawInt]) (by simp [lti]) fun h' a1 sb => ?_
    refine q _ h' s.toks ⟨es[ys[i]], ?_, rfl⟩ ⟨a1, st.2.1.keep fun ob e => (sb.2 a hne).trans e, (sb.2 tp hne2).trans st.2.2⟩ fun b ob hb e => (sb.2 b fun z => hb (by simp [z])).trans e
    rw [fm ys lt i ys[i] (by simp [hi2])]
    simp [lti]
  done := fun s Q E st q => by
    have hl : ys.length = es.size := by simpa using hp.length_eq
    exact end_drawn hh st.1 st.2.1 rfl st.2.2 (by simp [hl]) fun h' k => q h' s.toks fun b ob hb e => k b ob (fun z => hb (by simp [z])) e
  self := fun i s Q E st q => iter_self st.1 q
end
end LT
end
section
set_option maxHeartbeats 8000000
namespace LT
open PySem PySem.Spec PyProof.Rows
section
variable {prog : Program} {w : World} {A : Around} {E : Value → Shared → Prop} {s : Shared}
structure SetWalk (prog : Program) (w : World) (a it : Addr) (es : Array (Int × Value)) (ord : List (Int × Value)) (fp : List Addr) (St : Nat → Heap → Prop) : Prop where
  walks : ∀ A : Around, A.handled = none → Walks prog w A it fp [it] es.size (fun i v => ∃ e, ord[i]? = some e ∧ v = e.2) St
  perm : List.Perm ord es.toList
  mem : it ∈ fp
theorem iterG {a : Addr} {S : Int → Bool} {n : Nat} {Q : Value → Shared → Prop} (g : SetG prog w s.heap a S n)
    (q : ∀ it es ep tb ord fp St h' d, (∃ ob, s.heap.get? a = some ob ∧ ob.ExactSet ∧ ob.data = .set es ep tb) → SetWalk prog w a it es ord fp St → St 0 h' → s.heap.objs.size ≤ it → (∀ b ob, s.heap.get? b = some ob → h'.get? b = some ob) → (∀ b ∈ fp, b = a ∨ s.heap.objs.size ≤ b) → es.size < scanBound →
      Q (.ref it) { s with heap := h', drawn := d }) : wpAny (model prog w) A (pyIter (.ref a)) Q E s := by
  obtain ⟨ob, es, ep, tb, ⟨h1, h2, h3⟩, h4, h5, ⟨h6, h7, h8⟩, h9⟩ := g
  have tS : s.TypeIs (.ref a) "set" := ⟨ob, h1, h2.1⟩
  have lta : a < s.heap.objs.size := Heap.lt_size h1
  refine wpAny_pyIter_slot tS F.slot_set_iter (wpAny_call_entry F.slot_set_iter tS entry_set_iter ?_ (F.args_set_iter_1 _))
  unfold Builtin.«frozenset.__iter__»
  refine wpAny_bind (m := Builtin.Frozenset.slot0 "__iter__" _) (wpAny_pure ?_)
  refine wpAny_bind (m := Builtin.Frozenset.sizeOf a) ?_
  unfold Builtin.Frozenset.sizeOf
  refine wpAny_bind (wpAny_setEntries_of h1 h3 h7 (wpAny_pure ?_))
  refine wpAny_bind (m := setDrawn a) ?_
  unfold setDrawn
  refine wpAny_bind (wpAny_setState_of h1 h3 h7 ?_)
  dsimp only
  unfold setsByText
  refine wpAny_bind (wpAny_bind (wpAny_askSetting (wpAny_pure (wpAny_pure ?_))))
  dsimp only
  have sobj : ∀ {h' : Heap}, (∀ b ob, s.heap.get? b = some ob → h'.get? b = some ob) → SObj h' a es ep tb := fun k => ⟨⟨ob, k _ _ h1, h2, h3⟩, h7⟩
  by_cases dr : (!(model prog w).w.params.followText "set-order" && (!tb.plain && decide (es.size > 1))) = true
  · show wpAny _ _ (if (!(model prog w).w.params.followText "set-order" && (!tb.plain && decide (es.size > 1))) = true then _ else _) _ _ _
    rw [if_pos dr]
    refine wpAny_bind (drawOrder_by es.size (List.range es.size) s _ (by simp) fun ys d hp => ?_)
    have hl : ys.length = es.size := by simpa using hp.length_eq
    have small : es.size ≤ sizeLine := fits_of_scanBound h6
    refine wpAny_bind ?_
    unfold newTuple
    refine wpAny_newObj_type ?_ (by show (ys.map fun (i : Nat) => rawInt i).toArray.size ≤ sizeLine; simp [hl]; exact small)
    unfold setEpoch
    refine wpAny_bind (wpAny_bind (wpAny_setState_of (s := { s with heap := _, drawn := d }) (Heap.get?_push_of_some _ h1) h3 h7 (wpAny_pure ?_)))
    dsimp only
    refine wpAny_bind (wpAny_newObj_type (wpAny_pure ⟨_, rfl, "set_iterator", _, ⟨_, Heap.get?_push_size _ rfl, rfl⟩, slot_sit_next.lookup, ?_⟩))
    have z1 : (s.heap.push { cls := .type "tuple", dict := none, data := .seq (ys.map fun (i : Nat) => rawInt i).toArray }).objs.size = s.heap.objs.size + 1 := Heap.size_push ..
    have kp : ∀ (o2 : Obj) b ob, s.heap.get? b = some ob → ((s.heap.push { cls := .type "tuple", dict := none, data := .seq (ys.map fun (i : Nat) => rawInt i).toArray }).push o2).get? b = some ob := fun o2 b ob e => Heap.get?_push_of_some _ (Heap.get?_push_of_some _ e)
    refine q _ es ep tb (ys.filterMap (es[·]?)) [(s.heap.push { cls := .type "tuple", dict := none, data := .seq (ys.map fun (i : Nat) => rawInt i).toArray }).objs.size, a, s.heap.objs.size] _ _ d ⟨ob, h1, h2, h3⟩ ⟨fun A' hA => walk_drawn (tb := tb) (ep := ep) hA ?_ ?_ hp, ?_, .head _⟩ ⟨?_, sobj (kp _), ?_⟩ ?_ (kp _) (fun b hb => ?_) h6
    · rw [z1]; exact Nat.ne_of_lt (Nat.lt_succ_of_lt lta)
    · rw [z1]; exact Nat.ne_of_lt (Nat.lt_succ_self _)
    · refine (hp.filterMap _).trans ?_
      rw [filterMap_getElem?_range]
    · exact Heap.get?_push_size _ rfl
    · exact Heap.get?_push_of_some _ (Heap.get?_push_size _ rfl)
    · rw [z1]; exact Nat.le_succ _
    · simp only [List.mem_cons, List.not_mem_nil, or_false] at hb
      rcases hb with z | z | z
      · right; rw [z, z1]; exact Nat.le_succ _
      · exact .inl z
      · right; rw [z]; exact Nat.le_refl _
  · show wpAny _ _ (if (!(model prog w).w.params.followText "set-order" && (!tb.plain && decide (es.size > 1))) = true then _ else _) _ _ _
    rw [if_neg dr]
    refine wpAny_bind (wpAny_pure ?_)
    unfold setEpoch
    refine wpAny_bind (wpAny_bind (wpAny_setState_of h1 h3 h7 (wpAny_pure ?_)))
    dsimp only
    refine wpAny_bind (wpAny_newObj_type (wpAny_pure ⟨_, rfl, "set_iterator", _, ⟨_, Heap.get?_push_size _ rfl, rfl⟩, slot_sit_next.lookup, ?_⟩))
    have kp : ∀ (o2 : Obj) b ob, s.heap.get? b = some ob → (s.heap.push o2).get? b = some ob := fun o2 b ob e => Heap.get?_push_of_some _ e
    have fpl : ∀ b ∈ [s.heap.objs.size, a], b = a ∨ s.heap.objs.size ≤ b := fun b hb => by
      simp only [List.mem_cons, List.not_mem_nil, or_false] at hb
      rcases hb with z | z
      · right; rw [z]; exact Nat.le_refl _
      · exact .inl z
    cases bt : w.params.followText "set-order" with
    | true =>
      exact q _ es ep tb _ [s.heap.objs.size, a] _ _ s.drawn ⟨ob, h1, h2, h3⟩ ⟨fun A' hA => walk_text (tb := tb) (ep := ep) hA (Nat.ne_of_lt lta) bt h7, pickOrder_perm _ _, .head _⟩ ⟨Heap.get?_push_size _ rfl, sobj (kp _)⟩ (Nat.le_refl _) (kp _) fpl h6
    | false =>
      have pl : (!tb.plain && decide (es.size > 1)) = false := by
        rw [show (model prog w).w.params.followText "set-order" = false from bt] at dr
        simpa using dr
      have led : tb.led = true := by
        rw [h9.led]
        unfold ledOf
        rw [bt]
        rfl
      exact q _ es ep tb _ [s.heap.objs.size, a] _ _ s.drawn ⟨ob, h1, h2, h3⟩ ⟨fun A' hA => walk_plain (tb := tb) (ep := ep) hA (Nat.ne_of_lt lta) h9.up led bt pl h7, .rfl, .head _⟩ ⟨Heap.get?_push_size _ rfl, sobj (kp _)⟩ (Nat.le_refl _) (kp _) fpl h6
theorem collectG {a : Addr} {S : Int → Bool} {n : Nat} {Q : List Value → Shared → Prop} (hh : A.handled = none) (g : SetG prog w s.heap a S n)
    (q : ∀ vs s' es ep tb, (∃ ob, s.heap.get? a = some ob ∧ ob.ExactSet ∧ ob.data = .set es ep tb) → List.Perm vs (es.toList.map (·.2)) → (∀ b ob, s.heap.get? b = some ob → s'.heap.get? b = some ob) → s'.gens = s.gens → s'.os = s.os → Q vs s') : wpAny (model prog w) A (collect (.ref a)) Q E s := by
  have tS : ∀ {h' : Heap} {s' : Shared}, s'.heap = h' → (∀ b ob, s.heap.get? b = some ob → h'.get? b = some ob) → s'.TypeIs (.ref a) "set" := fun {h' s'} e k => by
    obtain ⟨ob, es, ep, tb, ⟨h1, h2, h3⟩, _⟩ := g
    exact ⟨ob, by rw [e]; exact k _ _ h1, h2.1⟩
  have lta : a < s.heap.objs.size := by
    obtain ⟨ob, es, ep, tb, ⟨h1, h2, h3⟩, _⟩ := g
    exact Heap.lt_size h1
  unfold collect
  refine wpAny_bind (wpAny_runValue (codeAny_builtin F.entry_proto_collect ?_))
  rw [Around.under_plainId F.plain_proto_collect _]
  show wpAny _ _ (newList [] >>= fun l => again (.builtin "list.__iadd__" ⟨[l, .ref a], []⟩)) _ _ _
  refine wpAny_bind (wpAny_newObj_type (wpAny_pure ⟨plainId_quiet F.plain_list_iadd _, codeAny_builtin F.entry_list_iadd ?_⟩))
  rw [Around.under_plainId F.plain_list_iadd _]
  show wpAny _ _ (Builtin.List.listExtendWith (.ref s.heap.objs.size) (.ref a) (.ref s.heap.objs.size)) _ _ _
  unfold Builtin.List.listExtendWith
  have k1 : ∀ b ob, s.heap.get? b = some ob → (s.heap.push { cls := .type "list", data := .seq ([] : List Value).toArray }).get? b = some ob := fun b ob e => Heap.get?_push_of_some _ e
  refine wpAny_bind (wpAny_typeOf (tS rfl k1) ?_)
  have nsame : Builtin.List.listSameRef (.ref s.heap.objs.size) (.ref a) = false := by
    simp only [Builtin.List.listSameRef, beq_eq_false_iff_ne]
    exact fun z => Nat.lt_irrefl _ (z ▸ lta)
  have nl : (Value.type "set" == Value.type "list") = false := by decide
  have nt : (Value.type "set" == Value.type "tuple") = false := by decide
  simp only [nsame, nl, nt, Bool.or_false, Bool.false_eq_true, if_false]
  refine wpAny_bind (iterG (g.move (fun ob e => k1 _ _ e) (fun _ => rfl) rfl) fun it es ep tb ord fp St h2 d hob W st0 lit k2 fpl few => ?_)
  refine wpAny_bind (wpAny_holding ?_)
  unfold Builtin.List.listLengthHint
  have k12 : ∀ b ob, s.heap.get? b = some ob → h2.get? b = some ob := fun b ob e => k2 b ob (k1 b ob e)
  refine wpAny_bind (wpAny_specialOf (tS rfl k12) F.slot_set_len.lookup ?_)
  have sp : splitId "set.__len__" = some ("set", "__len__") := by decide +kernel
  dsimp only
  rw [sp]
  dsimp only
  refine wpAny_bind (wpAny_isInstance (tS rfl k12) sub_set_self ?_)
  rw [if_neg (by decide)]
  rw [if_pos (by decide +kernel)]
  refine wpAny_bind (wpAny_typeOf (tS rfl k12) (wpAny_pure ?_))
  rw [if_pos (by decide +kernel)]
  refine wpAny_bind (wpAny_rule ?_)
  have l2 : h2.get? s.heap.objs.size = some { cls := .type "list", data := .seq ([] : List Value).toArray } := k2 _ _ (Heap.get?_push_size _ rfl)
  refine wpAny_bind ?_
  unfold Builtin.List.listTouch
  show wpAny _ _ (updateSeq s.heap.objs.size (·.push .none) >>= fun _ => updateSeq s.heap.objs.size (·.pop)) _ _ _
  refine wpAny_bind (wpAny_updateSeq l2 rfl ?_)
  have l3 := Heap.get?_update_self (Obj.mapSeq (·.push Value.none)) l2 rfl
  refine wpAny_updateSeq l3 rfl ?_
  have l4 := Heap.get?_update_self (Obj.mapSeq (·.pop)) l3 rfl
  have oth : ∀ b ob, b ≠ s.heap.objs.size → h2.get? b = some ob → ((h2.update s.heap.objs.size (Obj.mapSeq (·.push Value.none))).update s.heap.objs.size (Obj.mapSeq (·.pop))).get? b = some ob := fun b ob hb e =>
    (Heap.get?_update_other _ _ (Ne.symm hb)).trans ((Heap.get?_update_other _ _ (Ne.symm hb)).trans e)
  have nfp : s.heap.objs.size ∉ fp := fun z => by
    rcases fpl _ z with z | z
    · exact Nat.lt_irrefl _ (z ▸ lta)
    · rw [show ({ s with heap := s.heap.push { cls := .type "list", data := .seq ([] : List Value).toArray } } : Shared).heap.objs.size = s.heap.objs.size + 1 from Heap.size_push ..] at z
      exact Nat.lt_irrefl _ z
  have fin : ∀ (s' : Shared) (vs : Array Value) (c : Nat), (∀ b ob, s.heap.get? b = some ob → s'.heap.get? b = some ob) → s'.gens = s.gens → s'.os = s.os → s'.heap.get? s.heap.objs.size = some { cls := .type "list", dict := none, data := .seq vs c, slots := #[] } → ItemsOf (fun i v => ∃ e, ord[i]? = some e ∧ v = e.2) vs es.size →
      wpAny (model prog w) A (load s.heap.objs.size >>= fun o => match o.data with | .seq xs _ => pure xs.toList | _ => unsupported "internal:collect") Q E s' := fun s' vs c k g1 g2 e it1 => by
    refine wpAny_bind (wpAny_load e (wpAny_pure (q vs.toList s' es ep tb ?_ ?_ k g1 g2)))
    · obtain ⟨ob, o1, o2⟩ := hob
      obtain ⟨ob', es', ep', tb', ⟨p1, p2, p3⟩, _⟩ := g
      have := k1 _ _ p1
      rw [o1] at this
      cases this
      exact ⟨ob, p1, o2⟩
    · have hl : ord.length = es.size := by simpa using W.perm.length_eq
      have e2 : vs.toList = ord.map (·.2) := by
        apply List.ext_getElem?
        intro i
        by_cases hi : i < es.size
        · have hv0 : i < vs.size := by rw [it1.1]; exact hi
          have hv : vs[i]? = some vs[i] := by simp [hv0]
          obtain ⟨e, e1, e2⟩ := it1.2 i _ hv
          rw [List.getElem?_map, e1, Array.getElem?_toList, hv, e2]
          rfl
        · rw [List.getElem?_eq_none (by simp [it1.1]; omega), List.getElem?_eq_none (by simp [hl]; omega)]
      rw [e2]
      exact W.perm.map _
  have Wk := (W.walks A.in1 hh).toS
  refine wpAny_pure ⟨plainId_quiet F.plain_extend_loop _, codeAny_extend_loopS Wk ?_ _ nfp _ es.size 0 _ _ _ rfl (Nat.zero_le _) ?_ l4 (ItemsOf.nil _) fun s' vs c mv e it1 => ?_⟩
  · exact fits_of_scanBound few
  · exact (W.walks A.in1 hh).frame 0 h2 _ st0 fun b hb ob e => oth b ob (fun z => nfp (z ▸ hb)) e
  · refine fin s' vs c (fun b ob e' => mv.heap b ob ?_ (oth b ob ?_ (k12 b ob e'))) mv.gens mv.os e it1
    · intro z
      rcases List.mem_cons.mp z with z | z
      · exact Nat.lt_irrefl _ (z ▸ Heap.lt_size e')
      · simp only [List.mem_cons, List.not_mem_nil, or_false] at z
        have := Heap.lt_size e'
        rw [z] at this
        exact Nat.lt_irrefl _ (Nat.lt_of_lt_of_le this (Nat.le_trans (by rw [Heap.size_push]; exact Nat.le_succ _) lit))
    · exact fun z => Nat.lt_irrefl _ (z ▸ Heap.lt_size e')
end
end LT
end
section
set_option maxHeartbeats 8000000
namespace LT
open PySem PySem.Spec PyProof.Rows
noncomputable def insI (x : Int) : List Int → List Int
  | [] => [x]
  | y :: r => if x ≤ y then x :: y :: r else y :: insI x r
noncomputable def sortI : List Int → List Int
  | [] => []
  | x :: r => insI x (sortI r)
theorem insI_perm (x : Int) : ∀ l : List Int, List.Perm (insI x l) (x :: l)
  | [] => .rfl
  | y :: r => by
    unfold insI
    split
    · exact .rfl
    · exact ((insI_perm x r).cons y).trans (.swap x y r)
theorem insI_mem {x z : Int} {l : List Int} : z ∈ insI x l ↔ z = x ∨ z ∈ l := by rw [(insI_perm x l).mem_iff, List.mem_cons]
theorem insI_up (x : Int) : ∀ l : List Int, l.Pairwise (· ≤ ·) → (insI x l).Pairwise (· ≤ ·)
  | [], _ => by unfold insI; simp
  | y :: r, h => by
    obtain ⟨h1, h2⟩ := List.pairwise_cons.mp h
    unfold insI
    split
    · rename_i hxy
      refine List.pairwise_cons.mpr ⟨fun z hz => ?_, h⟩
      rcases List.mem_cons.mp hz with e | hz
      · rw [e]; exact hxy
      · exact Int.le_trans hxy (h1 z hz)
    · rename_i hxy
      refine List.pairwise_cons.mpr ⟨fun z hz => ?_, insI_up x r h2⟩
      rcases insI_mem.mp hz with e | hz
      · rw [e]; omega
      · exact h1 z hz
theorem sortI_perm : ∀ l : List Int, List.Perm (sortI l) l
  | [] => .rfl
  | x :: r => (insI_perm x _).trans ((sortI_perm r).cons x)
theorem sortI_up : ∀ l : List Int, (sortI l).Pairwise (· ≤ ·)
  | [] => .nil
  | x :: r => insI_up x _ (sortI_up r)
theorem sortI_eq {a b : List Int} (hp : a.Perm b) (h : a.Pairwise (· ≤ ·)) : a = sortI b := W.ksm_same (hp.trans (sortI_perm b).symm) h (sortI_up b)
noncomputable def setI (ns : List Int) : List Int := sortI (ns.foldl step_dedup [])
theorem dedup_any (ns : List Int) : ∀ (acc : List Int) (k : Int), (ns.foldl step_dedup acc).any (· == k) = (acc.any (· == k) || ns.any (· == k)) := by
  induction ns with
  | nil => intro acc k; simp
  | cons x r ih =>
    intro acc k
    rw [List.foldl_cons, ih, step_any]
    simp only [List.any_cons]
    have : (x == k) = decide (k = x) := by
      by_cases h : k = x
      · subst h; simp
      · have h' : ¬ x = k := fun e => h e.symm
        simp [h, h']
    rw [this, Bool.or_assoc]
theorem dedup_mem {ns : List Int} {k : Int} : k ∈ ns.foldl step_dedup [] ↔ k ∈ ns := by
  have := dedup_any ns [] k
  simp only [List.any_nil, Bool.false_or] at this
  have e : ∀ l : List Int, k ∈ l ↔ (l.any fun x => x == k) = true := fun l => by
    rw [List.any_eq_true]
    constructor
    · exact fun h => ⟨k, h, by simp⟩
    · rintro ⟨x, h, c⟩
      have c : x = k := by simpa using c
      rw [← c]
      exact h
  rw [e, e, this]
theorem dedup_nodup (ns : List Int) : ∀ acc : List Int, acc.Nodup → (ns.foldl step_dedup acc).Nodup := by
  induction ns with
  | nil => intro acc h; exact h
  | cons x r ih =>
    intro acc h
    refine ih _ ?_
    unfold step_dedup
    split
    · exact h
    · rename_i hx
      rw [List.nodup_append]
      refine ⟨h, by simp, fun a ha b hb => ?_⟩
      simp only [List.mem_singleton] at hb
      subst hb
      intro e
      subst e
      exact hx (List.any_eq_true.mpr ⟨a, ha, by simp⟩)
theorem firstMet_eq (ns : List Int) : firstMet (fun i => ns.getD i 0) ns.length = ns.foldl step_dedup [] := by
  unfold firstMet
  congr 1
  apply List.ext_getElem?
  intro i
  by_cases hi : i < ns.length
  · simp [hi, List.getD]
  · rw [List.getElem?_eq_none (by simp; omega), List.getElem?_eq_none (by omega)]
theorem perm_of_mem : ∀ {fm ms : List Int}, fm.Nodup → (∀ k, k ∈ fm → k ∈ ms) → ms.length ≤ fm.length → List.Perm ms fm
  | [], ms, _, _, h => by
    have : ms = [] := List.length_eq_zero_iff.mp (by simpa using h)
    subst this
    exact .rfl
  | x :: r, ms, nd, hm, h => by
    obtain ⟨n1, n2⟩ := List.nodup_cons.mp nd
    have hx := hm x (.head _)
    have p := List.perm_cons_erase hx
    have hl := p.length_eq
    rw [List.length_cons] at hl h
    refine p.trans ((perm_of_mem n2 (fun k hk => ?_) (by omega)).cons x)
    have hne : k ≠ x := fun e => n1 (e ▸ hk)
    rcases List.mem_cons.mp (p.mem_iff.mp (hm k (.tail _ hk))) with e | e
    · exact absurd e hne
    · exact e
section
variable {prog : Program} {w : World} {A : Around} {E : Value → Shared → Prop} {s : Shared}
theorem ints_of_perm {l l' : List Value} {ns : List Int} (p : List.Perm l l') (h : IntsAre l' ns) : ∃ ms, IntsAre l ms ∧ List.Perm ms ns := by
  induction p generalizing ns with
  | nil => exact ⟨ns, h, .rfl⟩
  | cons x _ ih =>
    cases h with
    | cons n t h =>
      obtain ⟨ms, h1, h2⟩ := ih h
      exact ⟨n :: ms, .cons n t h1, h2.cons n⟩
  | swap x y l =>
    cases h with
    | cons n t h =>
      cases h with
      | cons n' t' h => exact ⟨n' :: n :: _, .cons n' t' (.cons n t h), .swap _ _ _⟩
  | trans _ _ ih1 ih2 =>
    obtain ⟨ms, h1, h2⟩ := ih2 h
    obtain ⟨ms', h3, h4⟩ := ih1 h1
    exact ⟨ms', h3, h4.trans h2⟩
theorem elems_ints : ∀ {es : List (Int × Value)}, ElemsOf (intKind prog w) es → ∃ ms, IntsAre (es.map (·.2)) ms ∧ ∀ k, k ∈ ms ↔ ∃ e ∈ es, (intKind prog w).is k e.2 = true
  | [], _ => ⟨[], .nil, fun k => by simp⟩
  | e :: r, h => by
    obtain ⟨ms, h1, h2⟩ := elems_ints (ElemsOf.tail h)
    obtain ⟨⟨k, hk, _⟩, _⟩ := ElemsOf.head h
    obtain ⟨t, ht⟩ := Value.isInt_shape (k := k) (v := e.2) hk
    refine ⟨k :: ms, by rw [List.map_cons, ht]; exact .cons k t h1, fun z => ?_⟩
    rw [List.mem_cons, h2 z]
    constructor
    · rintro (c | ⟨e', c1, c2⟩)
      · exact ⟨e, .head _, by rw [c]; exact hk⟩
      · exact ⟨e', .tail _ c1, c2⟩
    · rintro ⟨e', c1, c2⟩
      rcases List.mem_cons.mp c1 with c | c
      · subst c; exact .inl ((intKind prog w).inj _ _ _ c2 hk)
      · exact .inr ⟨e', c, c2⟩
theorem sorted_by {x : Value} {Q : Value → Shared → Prop} (hc : ∀ E' : Value → Shared → Prop, wpAny (model prog w) A.in1 (collect x) (fun vs s1 => ∃ ns, IntsAre vs ns ∧ vs.length < 64 ∧ ∀ out e h', IntsAre out (sortI ns) → (∀ b ob, s1.heap.get? b = some ob → h'.get? b = some ob) →
      h'.get? s1.heap.objs.size = some (seqObj "list" out.toArray e) → Q (.ref s1.heap.objs.size) { s1 with heap := h' }) E' s) : wpAny (model prog w) A (call (.builtin "sorted") [x]) Q E s := by
  refine Calls.call_function_entry kind_sorted plain_sorted entry_sorted (args_sorted1 _) ?_
  unfold Builtin.«sorted»
  refine wpAny_bind (m := checkCount "sorted" 1 1 _) (wpAny_pure ?_)
  refine wpAny_bind (m := collect x) (wpAny_mono (hc _) (fun vs s1 ⟨ns, hI, h64, q⟩ => ?_) fun _ _ z => z)
  have small : vs.length ≤ sizeLine := Nat.le_trans (Nat.le_of_lt h64) (by decide)
  refine wpAny_bind (wpAny_newList ?_ small)
  have at0 : (s1.heap.push { cls := .type "list", data := .seq vs.toArray }).get? s1.heap.objs.size = some (seqObj "list" vs.toArray 0) := Heap.get?_push_size _ rfl
  refine wpAny_bind (wpAny_holding (wpAny_call_entry slot_list_sort ⟨_, at0, rfl⟩ entry_list_sort (list_sort_tree (s := { s1 with heap := s1.heap.push { cls := .type "list", data := .seq vs.toArray } }) at0 hI h64 fun out ns' a1 a2 a3 => ⟨_, rfl, ?_⟩) (args_list_sort _)))
  obtain ⟨e, he⟩ := sortedHeap_at (out := out) at0
  refine wpAny_pure ⟨_, rfl, q out.toList e _ ?_ (fun b ob eb => ?_) (by simpa using he)⟩
  · rw [← sortI_eq a2 a3]; exact a1
  · have lt := Heap.lt_size eb
    rw [sortedHeap_old (Nat.ne_of_lt lt) (by rw [Heap.size_push]; exact Nat.lt_succ_of_lt lt)]
    exact Heap.get?_push_of_some _ eb
theorem collect_tup {l : Addr} {vs : List Value} {Q : List Value → Shared → Prop} (hl : s.heap.IsTuple l vs.toArray) (small : vs.length ≤ sizeLine)
    (q : ∀ h', (∀ b ob, s.heap.get? b = some ob → h'.get? b = some ob) → Q vs { s with heap := h' }) : wpAny (model prog w) A (collect (.ref l)) Q E s := by
  obtain ⟨ob, ho, hc, n, hd⟩ := id hl
  unfold collect
  refine wpAny_bind (wpAny_runValue (codeAny_builtin F.entry_proto_collect ?_))
  rw [Around.under_plainId F.plain_proto_collect _]
  show wpAny _ _ (newList [] >>= fun d => again (.builtin "list.__iadd__" ⟨[d, .ref l], []⟩)) _ _ _
  refine wpAny_bind (wpAny_newObj_type (wpAny_pure ⟨plainId_quiet F.plain_list_iadd _, codeAny_builtin F.entry_list_iadd ?_⟩))
  rw [Around.under_plainId F.plain_list_iadd _]
  show wpAny _ _ (Builtin.List.listExtendWith (.ref s.heap.objs.size) (.ref l) (.ref s.heap.objs.size)) _ _ _
  unfold Builtin.List.listExtendWith
  have ho' : (s.heap.push { cls := .type "list", data := .seq ([] : List Value).toArray }).get? l = some ob := Heap.get?_push_of_some _ ho
  have d0 : (s.heap.push { cls := .type "list", data := .seq ([] : List Value).toArray }).get? s.heap.objs.size = some (seqObj "list" #[] 0) := Heap.get?_push_size _ rfl
  refine wpAny_bind (wpAny_typeOf (T := "tuple") ⟨ob, ho', hc⟩ ?_)
  rw [if_pos (by simp)]
  refine wpAny_bind (listItems_at ho' hd ?_)
  refine wpAny_bind (listItems_at d0 rfl ?_)
  rw [if_neg (by simp)]
  refine wpAny_bind (listUpdate_at (xs := #[]) (n := 0) d0 rfl ?_ (Nat.zero_le _) (by show (#[] ++ vs.toArray).size ≤ sizeLine + 1; simp; omega))
  refine wpAny_pure ?_
  show wpAny _ _ (load s.heap.objs.size >>= fun o => match o.data with | .seq xs _ => pure xs.toList | _ => unsupported "internal:collect") _ _ _
  refine wpAny_bind (wpAny_load (get?_update_seq d0 _) ?_)
  have z := q ((s.heap.push { cls := .type "list", data := .seq ([] : List Value).toArray }).update s.heap.objs.size (Obj.mapSeq fun x => x ++ vs.toArray)) fun b ob e => (Heap.get?_update_other _ _ (fun z => Nat.lt_irrefl _ (z ▸ Heap.lt_size e))).trans (Heap.get?_push_of_some _ e)
  show wpAny _ _ (pure ((#[] : Array Value) ++ vs.toArray).toList) _ _ _
  rw [show ((#[] : Array Value) ++ vs.toArray).toList = vs by simp]
  exact wpAny_pure z
end
end LT
end
section
set_option maxHeartbeats 8000000
namespace L2
open PySem PySem.Spec PyProof.Rows LT
section
variable {X : Cx}
noncomputable def setHO (P : Program) (w : World) (p : Addr) (ns : List Int) : HO := .ext fun h => SetG P w h p (fun z => (ns.foldl step_dedup []).any (· == z)) (ns.foldl step_dedup []).length
theorem dedup_len (ns : List Int) : (ns.foldl step_dedup []).length ≤ ns.length := by
  rw [← firstMet_eq]
  exact firstMet_length_le _ _
theorem call_setI (hc : X.calm = true) : CallR X (.type "set") (fun xs H Q => ∃ (a : Addr) (ns : List Int), xs = [.ref a] ∧ (SqL X.K H a (ns.map V.int) ∨ SqT X.K H a (ns.map V.int)) ∧ ns.length < 4000 ∧ ∀ p, H p = none → Q (.ref p) (upd H p (setHO X.prog X.w p ns))) := by
  intro pins s σ H xs us Q I r h
  obtain ⟨a, ns, rfl, hq, hl, q⟩ := h
  obtain ⟨u, rfl, rx⟩ := vals1 r
  cases rx
  have fin : ∀ (items : Array Value), items.size = ns.length → ∀ (h' : Heap) (tk : Nat), SetG X.prog X.w h' s.heap.objs.size (fun z => (firstMet (fun i => ns.getD i 0) items.size).any (· == z)) (firstMet (fun i => ns.getD i 0) items.size).length → (∀ b ob, s.heap.get? b = some ob → h'.get? b = some ob) →
      EP X pins σ Q (.ref s.heap.objs.size) { s with heap := h', toks := tk } := fun items hz h' tk g k => by
    rw [hz, firstMet_eq] at g
    refine ⟨.ref s.heap.objs.size, _, I.laid (t' := tk) (o := setHO X.prog X.w s.heap.objs.size ns) k (Nat.le_refl _) ⟨g, ?_, fun h1 h2 z e => z.move e (fun _ => rfl) rfl⟩, rfl, q _ (I.hok.fresh (Nat.le_refl _))⟩
    obtain ⟨ob, es, ep, tb, ⟨h1, _⟩, _⟩ := g
    exact ⟨ob, h1⟩
  have room : ns.length + 1 < scanBound := by
    have : scanBound = 4096 := rfl
    omega
  rcases hq with hq | hq
  · obtain ⟨its, r', pl, _⟩ := I.list hq
    have hz : its.toArray.size = ns.length := by rw [List.size_toArray, ← r'.length, List.length_map]
    exact setG (I.ok.hd hc) (.inl ⟨rfl, pl.isList⟩) (by simpa using intsAre_of r') (by rw [hz]; exact room) fun h' tk g k => fin _ hz h' tk g k
  · obtain ⟨its, r', pl, _⟩ := I.tuple hq
    have hz : its.toArray.size = ns.length := by rw [List.size_toArray, ← r'.length, List.length_map]
    exact setG (I.ok.hd hc) (.inr ⟨rfl, pl⟩) (by simpa using intsAre_of r') (by rw [hz]; exact room) fun h' tk g k => fin _ hz h' tk g k
theorem Inv.grown {pins : List (Addr × Obj)} {σ : St} {H : Hp} {s s' : Shared} (I : Inv X pins σ H s) (ho : s'.os = s.os) (hg : s'.gens = s.gens) (k : ∀ b ob, s.heap.get? b = some ob → s'.heap.get? b = some ob) : Inv X pins σ H s' :=
  I.call' (ch := []) ho (Un.kept k) (I.hok.kept k) (by rw [hg]; exact I.bare) fun b z => nomatch z
theorem vals_out {out : List Value} {ms : List Int} (h : IntsAre out ms) : Vals (ms.map V.int) out := vals_ints h
theorem call_sortedI (hc : X.calm = true) : CallR X (.builtin "sorted") (fun xs H Q => ∃ (p : Addr) (ns : List Int), xs = [.ref p] ∧ ((((ns.foldl step_dedup []).length < 64 ∧ H p = some (setHO X.prog X.w p ns)) ∧ ∀ l, H l = none → Q (.ref l) (upd H l (.lst ((setI ns).map V.int)))) ∨
    ((ns.length < 64 ∧ (SqL X.K H p (ns.map V.int) ∨ SqT X.K H p (ns.map V.int))) ∧ ∀ l, H l = none → Q (.ref l) (upd H l (.lst ((sortI ns).map V.int)))))) := by
  intro pins s σ H xs us Q I r h
  obtain ⟨p, ns, rfl, h⟩ := h
  obtain ⟨u, rfl, rx⟩ := vals1 r
  cases rx
  have fin : ∀ (s1 : Shared) (ms : List Int), ms.length ≤ 64 → (∀ b ob, s.heap.get? b = some ob → s1.heap.get? b = some ob) → s1.gens = s.gens → s1.os = s.os → (∀ l, H l = none → Q (.ref l) (upd H l (.lst ((sortI ms).map V.int)))) → ∀ out e h', IntsAre out (sortI ms) → (∀ b ob, s1.heap.get? b = some ob → h'.get? b = some ob) →
      h'.get? s1.heap.objs.size = some (seqObj "list" out.toArray e) → EP X pins σ Q (.ref s1.heap.objs.size) { s1 with heap := h' } := fun s1 ms hm k g1 o1 q out e h' hi k2 e2 => by
    have I1 := I.grown o1 g1 k
    refine ⟨.ref s1.heap.objs.size, _, I1.laid (t' := s1.toks) (o := .lst ((sortI ms).map V.int)) k2 (Nat.le_refl _) ⟨?_, out, e, vals_out hi, e2⟩, rfl, q _ (I1.hok.fresh (Nat.le_refl _))⟩
    rw [List.length_map, (sortI_perm ms).length_eq]
    exact Nat.le_trans hm (by decide)
  rcases h with ⟨⟨hl, hs⟩, q⟩ | ⟨⟨hl, hq⟩, q⟩
  · obtain ⟨g, _⟩ := (show ObjOk X.prog X.w H s.heap p (setHO X.prog X.w p ns) from I.hok p _ hs)
    refine sorted_by fun E' => collectG (show X.A.in1.handled = none from I.ok.hd hc) g fun vs s1 es ep tb hob pv k g1 o1 => ?_
    obtain ⟨ob', es', ep', tb', ⟨a1, a2, a3⟩, h4, h5, ⟨h6, h7, h8⟩, h9⟩ := g
    obtain ⟨ob, b1, b2, b3⟩ := hob
    rw [a1] at b1
    cases b1
    rw [a3] at b3
    cases b3
    obtain ⟨ms, m1, m2⟩ := elems_ints h4
    obtain ⟨ms', m3, m4⟩ := ints_of_perm pv m1
    have len : ms.length = (ns.foldl step_dedup []).length := by
      rw [← m1.length, List.length_map, Array.length_toList]
      exact h8
    have pm : List.Perm ms (ns.foldl step_dedup []) := perm_of_mem (dedup_nodup ns [] List.nodup_nil) (fun z hz => by
      rw [m2 z, ← h5 z]
      exact List.any_eq_true.mpr ⟨z, hz, by simp⟩) (Nat.le_of_eq len)
    have es1 : sortI ms' = setI ns := by
      unfold setI
      exact sortI_eq ((sortI_perm ms').trans (m4.trans pm)) (sortI_up ms')
    have lm : ms'.length < 64 := by
      rw [m4.length_eq, len]
      exact hl
    refine ⟨ms', m3, by rw [m3.length]; omega, fun out e h' hi k2 e2 => ?_⟩
    exact fin s1 ms' (by omega) k g1 o1 (by rw [es1]; exact q) out e h' hi k2 e2
  · rcases hq with hq | hq
    · obtain ⟨its, r', pl, hz⟩ := I.list hq
      have hi := intsAre_of r'
      have lz : its.length = ns.length := by rw [← r'.length, List.length_map]
      refine sorted_by fun E' => collect_list pl.isList ?_ (by rw [lz, ← List.length_map (f := V.int)]; exact hz)
      refine ⟨ns, hi, by omega, fun out e h' hi2 k2 e2 => ?_⟩
      refine fin { s with heap := (s.heap.push (seqObj "list" #[] 0)).update s.heap.objs.size (Obj.mapSeq fun x => x ++ its.toArray) } ns (by omega) (fun b ob eb => ?_) rfl rfl q out e h' hi2 k2 e2
      exact (Heap.get?_update_other _ _ (fun z => Nat.lt_irrefl _ (z ▸ Heap.lt_size eb))).trans (Heap.get?_push_of_some _ eb)
    · obtain ⟨its, r', pl, hz⟩ := I.tuple hq
      have hi := intsAre_of r'
      have lz : its.length = ns.length := by rw [← r'.length, List.length_map]
      refine sorted_by fun E' => collect_tup pl (by rw [lz, ← List.length_map (f := V.int)]; exact hz) fun h1 k1 => ?_
      refine ⟨ns, hi, by omega, fun out e h' hi2 k2 e2 => ?_⟩
      exact fin { s with heap := h1 } ns (by omega) k1 rfl rfl q out e h' hi2 k2 e2
theorem call_allB (hc : X.calm = true) : CallR X (.builtin "all") (fun xs H Q => ∃ (a : Addr) (bs : List Bool), xs = [.ref a] ∧ SqL X.K H a (bs.map V.bl) ∧ Q (.bl (bs.all id)) H) := by
  intro pins s σ H xs us Q I r h
  obtain ⟨a, bs, rfl, hq, q⟩ := h
  obtain ⟨u, rfl, rx⟩ := vals1 r
  cases rx
  obtain ⟨its, r', pl, hz⟩ := I.list hq
  have hlt : a < s.heap.objs.size := by obtain ⟨_, e, _⟩ := pl.isList; exact Heap.lt_size e
  refine call_all_walk (wpAny_pyIter_list pl.isList ?_)
  refine ⟨s.heap.objs.size, [s.heap.objs.size, a], [s.heap.objs.size], its.toArray.size, _, _, fun i => (bs[i]?).getD true, rfl, Walks.list (A := X.A.in1) (I.ok.hd hc) _ a (Nat.ne_of_lt hlt) its.toArray, ⟨⟨_, Heap.get?_push_size _ rfl, rfl, rfl⟩, pl.isList.push _⟩, fun i v s' Q' E' hP hQ => ?_, fun h' tk hk => ?_⟩
  · have hv : its[i]? = some v := by simpa using hP
    obtain ⟨hi, _⟩ := List.getElem?_eq_some_iff.mp hv
    have hlen : bs.length = its.length := by rw [← r'.length, List.length_map]
    have hb : (bs.map V.bl)[i]? = some (V.bl bs[i]) := by simp [hlen, hi]
    obtain ⟨u', hu, ru⟩ := r'.get hb
    rw [hv] at hu
    cases hu
    cases ru
    have e : (bs[i]?).getD true = bs[i] := by simp [hlen, hi]
    have hQ : Q' ((bs[i]?).getD true) s' := hQ
    rw [e] at hQ
    exact wpAny_truthy_bool hQ
  · have e : ((List.range its.toArray.size).all fun i => (bs[i]?).getD true) = bs.all id := by
      have hlen : bs.length = its.length := by rw [← r'.length, List.length_map]
      rw [List.size_toArray, ← hlen]
      rw [Bool.eq_iff_iff, List.all_eq_true, List.all_eq_true]
      constructor
      · intro h x hx
        obtain ⟨i, hi⟩ := List.mem_iff_getElem?.mp hx
        have hl := (List.getElem?_eq_some_iff.mp hi).1
        have := h i (by simpa using hl)
        rw [hi] at this
        exact this
      · intro h i hi
        have hl : i < bs.length := by simpa using hi
        have e1 : bs[i]? = some bs[i] := by simp [hl]
        rw [e1]
        exact h _ (List.getElem_mem hl)
    rw [e]
    refine ⟨.bl _, H, I.grown (s' := { s with heap := h', toks := tk }) rfl rfl fun b ob eb => hk b ob (fun z => ?_) (Heap.get?_push_of_some _ eb), rfl, q⟩
    simp only [List.mem_cons, List.not_mem_nil, or_false] at z
    exact Nat.lt_irrefl _ (z ▸ Heap.lt_size eb)
end
end L2
end
section
set_option maxHeartbeats 8000000
namespace L3
open PySem PySem.Spec PyProof.Rows L2 LT
section
variable {X : Cx} {E : XE} {e : Expr} {es : List Expr} {pos p : Pos} {fs : Sd → M (List D)} {x : Str}
theorem se_callB {id : String} {F : List D → M D} (hc : CallR X (.builtin id) (toRA X.K E F)) (hg : Gl X x) (hm : X.mg x = none) (hv : bootBuiltins x = some (.builtin id)) (ha : SA X E (e :: es) fs) (hn : x ≠ "__name__" := by decide) (hdb : (x == ("__debug__" : Str)) = false := by decide)
    (he : starEach (e :: es) X.env = (false, eval e X.env) :: starEach es X.env := by rfl) (hpl : (backTo pos (starEach es X.env)).any (·.1) = false := by rfl) : SE X E (.Call (.Name x p) (e :: es) [] pos) (fun sd => do let ds ← fs sd; F ds) :=
  PE.imp (pe_callB hc hg hm hv ha hn hdb he hpl) fun σ H Q ⟨ι, h, sd, L, hh, q⟩ => ⟨ι, h, sd, L, hh, Fin.bind q fun ds h1 ι1 H1 e1 s1 hr1 q1 vs rv => ⟨ι1, h1, ds, rv, hr1, q1⟩⟩
theorem se_callTy {T : String} {F : List D → M D} (hc : CallR X (.type T) (toRA X.K E F)) (hg : Gl X x) (hm : X.mg x = none) (hv : bootBuiltins x = some (.type T)) (ha : SA X E (e :: es) fs) (hn : x ≠ "__name__" := by decide) (hdb : (x == ("__debug__" : Str)) = false := by decide)
    (he : starEach (e :: es) X.env = (false, eval e X.env) :: starEach es X.env := by rfl) (hpl : (backTo pos (starEach es X.env)).any (·.1) = false := by rfl) : SE X E (.Call (.Name x p) (e :: es) [] pos) (fun sd => do let ds ← fs sd; F ds) :=
  PE.imp (pe_callTy hc hg hm hv ha hn hdb he hpl) fun σ H Q ⟨ι, h, sd, L, hh, q⟩ => ⟨ι, h, sd, L, hh, Fin.bind q fun ds h1 ι1 H1 e1 s1 hr1 q1 vs rv => ⟨ι1, h1, ds, rv, hr1, q1⟩⟩
noncomputable def seqD : D → M (List D)
  | .tup ds => pure ds
  | .lst ds => pure ds
  | .scr ds => pure ds
  | .cel n => cellGet n
  | _ => M.bad
theorem seqD_inv {K : W.Frag} {ι : Io} {H : Hp} {h : Hh} {d : D} {v : V} {α : Type} {f : List D → M α} {P : α → Io → Hp → Prop} (hr : HRel K ι H h) (r : Rel K ι H d v) (q : Fin K E ι H ((do let ds ← seqD d; f ds) h) P) :
    ∃ a vs ds, v = .ref a ∧ ((SqL K H a vs ∧ ∀ ts, d ≠ .tup ts) ∨ (SqT K H a vs ∧ d = .tup ds)) ∧ RelL K ι H ds vs ∧ Fin K E ι H (f ds h) P := by
  cases d with
  | tup ds =>
    obtain ⟨a, vs, e, h1, h2⟩ := relSqT r
    exact ⟨a, vs, ds, e, .inr ⟨h1, rfl⟩, h2, q⟩
  | lst ds =>
    obtain ⟨a, vs, e, h1, h2⟩ := relSqL r
    exact ⟨a, vs, ds, e, .inl ⟨h1, fun _ z => by cases z⟩, h2, q⟩
  | scr ds =>
    obtain ⟨a, vs, e, h1, h2⟩ := relSqS r
    exact ⟨a, vs, ds, e, .inl ⟨h1, fun _ z => by cases z⟩, h2, q⟩
  | cel n =>
    have q' : Fin K E ι H (M.bind (cellGet n) f h) P := q
    unfold M.bind at q'
    cases z : cellGet n h with
    | bad => rw [z] at q'; exact False.elim q'
    | exc c h' => unfold cellGet at z; split at z <;> cases z
    | ok ds h' =>
      rw [z] at q'
      obtain ⟨rfl, z2⟩ := cellGet_ok z
      obtain ⟨a, vs, e, hn, hH, rl⟩ := hr.read r z2
      exact ⟨a, vs, ds, e, .inl ⟨SqL.of hH, fun _ z => by cases z⟩, rl, q'⟩
  | _ => exact False.elim q
theorem sq_or {K : W.Frag} {H : Hp} {a : Addr} {vs : List V} {d : D} {ds : List D} (h : (SqL K H a vs ∧ ∀ ts, d ≠ .tup ts) ∨ (SqT K H a vs ∧ d = .tup ds)) : SqL K H a vs ∨ SqT K H a vs := h.imp And.left And.left
theorem relL1 {K : W.Frag} {ι : Io} {H : Hp} {d : D} {xs : List V} (h : RelL K ι H [d] xs) : ∃ v, xs = [v] ∧ Rel K ι H d v := by
  simp only [RelL] at h
  obtain ⟨v, r, rfl, h1, rfl⟩ := h
  exact ⟨v, rfl, h1⟩
noncomputable def one1 {α : Type} (f : D → M α) : List D → M α
  | [d] => f d
  | _ => M.bad
theorem one1_inv {α : Type} {K : W.Frag} {ι : Io} {H : Hp} {h : Hh} {f : D → M α} {ds : List D} {xs : List V} {P : α → Io → Hp → Prop} (rl : RelL K ι H ds xs) (q : Fin K E ι H (one1 f ds h) P) : ∃ d v, xs = [v] ∧ Rel K ι H d v ∧ Fin K E ι H (f d h) P := by
  match ds, rl, q with
  | [d], rl, q =>
    obtain ⟨v, e, r⟩ := relL1 rl
    exact ⟨d, v, e, r, q⟩
  | [], _, q => exact False.elim q
  | _ :: _ :: _, _, q => exact False.elim q
noncomputable def dLen : List D → M D := one1 fun d => do let ds ← seqD d; pure (.int ds.length)
theorem call_lenD : CallR X (.builtin "len") (toRA X.K E dLen) := by
  refine CallR.imp call_len_seq fun xs H Q ⟨ι, h, ds, rl, hr, q⟩ => ?_
  obtain ⟨d, v, e, r, q⟩ := one1_inv rl q
  obtain ⟨a, vs, ds', e', hs, rl', q⟩ := seqD_inv hr r q
  exact ⟨a, vs, by rw [e, e'], sq_or hs, Fin.out hr q _ (by rw [rl'.length]; simp [Rel])⟩
noncomputable def dTuple : List D → M D := one1 fun d => do let ds ← seqD d; pure (.tup ds)
theorem call_tupleD : CallR X (.type "tuple") (toRA X.K E dTuple) := by
  refine CallR.imp call_tuple_of fun xs H Q ⟨ι, h, ds, rl, hr, q⟩ => ?_
  obtain ⟨d, v, e, r, q⟩ := one1_inv rl q
  obtain ⟨a, vs, ds', e', hs, rl', q⟩ := seqD_inv hr r q
  refine ⟨a, vs, by rw [e, e'], ?_⟩
  rcases hs with ⟨hs, _⟩ | ⟨hs, hd⟩
  · exact .inl ⟨hs, fun l hl => newT hr rl' q hl⟩
  · exact .inr ⟨hs, Fin.out hr q _ (by rw [← e', ← hd]; exact r)⟩
noncomputable def dList : List D → M D := one1 fun d => do let ds ← seqD d; pure (.lst ds)
theorem call_listD : CallR X (.type "list") (toRA X.K E dList) := by
  refine CallR.imp call_list_of fun xs H Q ⟨ι, h, ds, rl, hr, q⟩ => ?_
  obtain ⟨d, v, e, r, q⟩ := one1_inv rl q
  obtain ⟨a, vs, ds', e', hs, rl', q⟩ := seqD_inv hr r q
  exact ⟨a, vs, by rw [e, e'], sq_or hs, fun l hl => newL hr rl' q hl⟩
noncomputable def two2 (g : Int → Int → Int) : List D → M D
  | [.int i, .int j] => pure (.int (g i j))
  | _ => M.bad
theorem two2_inv {K : W.Frag} {ι : Io} {H : Hp} {h : Hh} {g : Int → Int → Int} {ds : List D} {xs : List V} {P : D → Io → Hp → Prop} (hr : HRel K ι H h) (rl : RelL K ι H ds xs) (q : Fin K E ι H (two2 g ds h) P) : ∃ i j, xs = [.int i, .int j] ∧ P (.int (g i j)) ι H := by
  unfold two2 at q
  split at q
  · simp only [RelL, Rel] at rl
    obtain ⟨v, r, rfl, rfl, v', r', rfl, rfl, rfl⟩ := rl
    exact ⟨_, _, rfl, Fin.out hr q⟩
  · exact False.elim q
noncomputable def dMax2 := two2 fun i j => if j > i then j else i
noncomputable def dMin2 := two2 fun i j => if j < i then j else i
theorem call_max2D (hc : X.calm = true) : CallR X (.builtin "max") (toRA X.K E dMax2) := by
  refine CallR.imp (call_max2 hc) fun xs H Q ⟨ι, h, ds, rl, hr, q⟩ => ?_
  obtain ⟨i, j, e, q⟩ := two2_inv hr rl q
  exact ⟨i, j, e, q _ (by simp [Rel])⟩
theorem call_min2D (hc : X.calm = true) : CallR X (.builtin "min") (toRA X.K E dMin2) := by
  refine CallR.imp (call_min2 hc) fun xs H Q ⟨ι, h, ds, rl, hr, q⟩ => ?_
  obtain ⟨i, j, e, q⟩ := two2_inv hr rl q
  exact ⟨i, j, e, q _ (by simp [Rel])⟩
noncomputable def blsD : List D → Option (List Bool)
  | [] => some []
  | .bl b :: r => (blsD r).map (b :: ·)
  | _ => none
noncomputable def intsD : List D → Option (List Int)
  | [] => some []
  | .int i :: r => (intsD r).map (i :: ·)
  | _ => none
theorem blsD_inv {K : W.Frag} {ι : Io} {H : Hp} : ∀ {ds : List D} {vs : List V} {bs : List Bool}, RelL K ι H ds vs → blsD ds = some bs → vs = bs.map V.bl
  | [], _, _, h, e => by simp only [RelL] at h; subst h; cases e; rfl
  | d :: ds, _, bs, h, e => by
    simp only [RelL] at h
    obtain ⟨v, r, rfl, h1, h2⟩ := h
    cases d with
    | bl b =>
      unfold blsD at e
      cases z : blsD ds with
      | none => rw [z] at e; cases e
      | some cs =>
        rw [z] at e
        cases e
        simp only [Rel] at h1
        rw [h1, blsD_inv h2 z]
        rfl
    | _ => cases e
theorem intsD_inv {K : W.Frag} {ι : Io} {H : Hp} : ∀ {ds : List D} {vs : List V} {bs : List Int}, RelL K ι H ds vs → intsD ds = some bs → vs = bs.map V.int
  | [], _, _, h, e => by simp only [RelL] at h; subst h; cases e; rfl
  | d :: ds, _, bs, h, e => by
    simp only [RelL] at h
    obtain ⟨v, r, rfl, h1, h2⟩ := h
    cases d with
    | int b =>
      unfold intsD at e
      cases z : intsD ds with
      | none => rw [z] at e; cases e
      | some cs =>
        rw [z] at e
        cases e
        simp only [Rel] at h1
        rw [h1, intsD_inv h2 z]
        rfl
    | _ => cases e
theorem Fin.ofOb {α β : Type} {K : W.Frag} {ι : Io} {H : Hp} {h : Hh} {o : Option α} {f : α → M β} {P : β → Io → Hp → Prop} (q : Fin K E ι H ((do let a ← L3.ofO o; f a) h) P) : ∃ a, o = some a ∧ Fin K E ι H (f a h) P := by
  cases o with
  | none => exact False.elim q
  | some a => exact ⟨a, rfl, q⟩
noncomputable def dAll : List D → M D := one1 fun d => match d with
  | .lst ds => do let bs ← ofO (blsD ds); pure (.bl (bs.all id))
  | _ => M.bad
theorem call_allD (hc : X.calm = true) : CallR X (.builtin "all") (toRA X.K E dAll) := by
  refine CallR.imp (call_allB hc) fun xs H Q ⟨ι, h, ds, rl, hr, q⟩ => ?_
  obtain ⟨d, v, e, r, q⟩ := one1_inv rl q
  cases d with
  | lst ds =>
    obtain ⟨a, vs, e', h1, h2⟩ := relSqL r
    obtain ⟨bs, eb, q⟩ := Fin.ofOb q
    have := blsD_inv h2 eb
    subst this
    exact ⟨a, bs, by rw [e, e'], h1, Fin.out hr q _ (by simp [Rel])⟩
  | _ => exact False.elim q
noncomputable def dSortSet (d : D) : M D := do
  let ds ← seqD d
  let ns ← ofO (intsD ds)
  if (ns.foldl step_dedup []).length < 64 ∧ ns.length < 4000 then pure (.lst ((setI ns).map D.int)) else M.bad
theorem se_sortset {p1 p2 pos2 : Pos} {f : Sd → M D} (hc : X.calm = true) (hg1 : Gl X "sorted") (hm1 : X.mg "sorted" = none) (hg2 : Gl X "set") (hm2 : X.mg "set" = none) (he : SE X E e f)
    (h1 : starEach [.Call (.Name "set" p2) [e] [] pos2] X.env = [(false, eval (.Call (.Name "set" p2) [e] [] pos2) X.env)] := by rfl) (h2 : starEach [e] X.env = [(false, eval e X.env)] := by rfl) :
    SE X E (.Call (.Name "sorted" p1) [.Call (.Name "set" p2) [e] [] pos2] [] pos) (fun sd => do let d ← f sd; dSortSet d) := by
  refine PE.imp (pe_callB (call_sortedI hc) hg1 hm1 boot_sorted (pa_cons (pe_callTy (call_setI hc) hg2 hm2 PyProof.Rows.boot_set (pa_cons he pa_nil h2) (he := h2)) pa_nil h1) (he := h1)) fun σ H Q ⟨ι, h, sd, L, hh, q⟩ => ⟨ι, h, sd, L, hh, Fin.bind q fun d h1 ι1 H1 e1 s1 hr1 q1 v rv => ?_⟩
  obtain ⟨a, vs, ds', e', hs, rl', q2⟩ := seqD_inv hr1 rv q1
  obtain ⟨ns, en, q3⟩ := Fin.ofOb q2
  have := intsD_inv rl' en
  subst this
  obtain ⟨hl, q4⟩ := Fin.guard q3
  refine ⟨a, ns, by rw [e'], sq_or hs, hl.2, fun p hp => ?_⟩
  have hr2 : HRel X.K ι1 (upd H1 p (setHO X.prog X.w p ns)) h1 := hr1.laid hp
  exact ⟨p, ns, rfl, .inl ⟨⟨hl.1, upd_same⟩, fun l hl' => newL hr2 (relL_ints.mpr rfl) (Fin.step (hr1.laidS hp) q4) hl'⟩⟩
end
end L3
end
section
set_option maxHeartbeats 4000000
namespace L3
open PySem PySem.Spec PyProof.Rows L2 LT
noncomputable def tyD : D → M String
  | .non => pure "NoneType"
  | .bl _ => pure "bool"
  | .int _ => pure "int"
  | .str _ => pure "str"
  | .tup _ => pure "tuple"
  | .lst _ => pure "list"
  | .dct => pure "dict"
  | .cel n => do let _ ← cellGet n; pure "list"
  | _ => M.bad
noncomputable def kinds7 : List String := ["NoneType", "bool", "int", "str", "tuple", "list", "dict"]
noncomputable def isB (T t : String) : Bool := t == T || (t == "bool" && T == "int")
noncomputable def dIsI (T : String) (d : D) : M D := do let t ← tyD d; pure (.bl (isB T t))
noncomputable def KitOk (T : String) : Prop := ∀ (K : W.Frag), ∀ t ∈ kinds7, W.kitOne K (.type t) (.type T) = some (isB T t)
noncomputable def kit0 (t T : String) : Option Bool := if ((Value.type t) == (Value.type T)) = true then some true else if W.kitMeta T = true then (fastBuiltinMro t).map (·.contains (Value.type T)) else none
theorem kitOk_of {T : String} (h : (kinds7.all fun t => kit0 t T == some (isB T t)) = true) : KitOk T := fun K t ht => by
  have := List.all_eq_true.mp h t ht
  have e : W.kitOne K (.type t) (.type T) = kit0 t T := rfl
  rw [e]
  exact beq_iff_eq.mp this
theorem kit_int : KitOk "int" := kitOk_of (by decide +kernel)
theorem kit_bool : KitOk "bool" := kitOk_of (by decide +kernel)
theorem kit_tuple : KitOk "tuple" := kitOk_of (by decide +kernel)
section
variable {X : Cx} {E : XE} {α : Type}
theorem tyD_inv {K : W.Frag} {ι : Io} {H : Hp} {h : Hh} {d : D} {v : V} {f : String → M α} {P : α → Io → Hp → Prop} (hr : HRel K ι H h) (r : Rel K ι H d v) (q : Fin K E ι H ((do let t ← tyD d; f t) h) P) :
    ∃ t, t ∈ kinds7 ∧ TyOf K H v (.type t) ∧ Fin K E ι H (f t h) P := by
  cases d with
  | non => simp only [Rel] at r; subst r; exact ⟨_, by decide, .non, q⟩
  | bl b => simp only [Rel] at r; subst r; exact ⟨_, by decide, .bl b, q⟩
  | int b => simp only [Rel] at r; subst r; exact ⟨_, by decide, .int b, q⟩
  | str b => simp only [Rel] at r; subst r; exact ⟨_, by decide, .str b, q⟩
  | tup ds =>
    simp only [Rel] at r
    obtain ⟨a, vs, e, h1, h2⟩ := r
    subst e
    exact ⟨_, by decide, .tup h1.1, q⟩
  | lst ds =>
    simp only [Rel] at r
    obtain ⟨a, vs, e, h1, h2⟩ := r
    subst e
    exact ⟨_, by decide, .lst h1.1, q⟩
  | dct =>
    simp only [Rel] at r
    obtain ⟨a, e, h1, h2⟩ := r
    subst e
    exact ⟨_, by decide, .dK h1, q⟩
  | cel n =>
    have q' : Fin K E ι H (M.bind (cellGet n) (fun _ => f "list") h) P := by
      have e : (do let t ← tyD (.cel n); f t : M α) = (cellGet n >>= fun _ => f "list") := by
        show ((cellGet n >>= fun _ => pure "list") >>= f) = _
        simp only [bind_assoc, pure_bind]
      rw [e] at q
      exact q
    unfold M.bind at q'
    cases z : cellGet n h with
    | bad => rw [z] at q'; exact False.elim q'
    | exc c h' => unfold cellGet at z; split at z <;> cases z
    | ok ds h' =>
      rw [z] at q'
      obtain ⟨rfl, z2⟩ := cellGet_ok z
      obtain ⟨a, vs, e, hn, hH, rl⟩ := hr.read r z2
      subst e
      exact ⟨_, by decide, .lst hH, q'⟩
  | _ => exact False.elim q
theorem call_isI : CallR X (.builtin "isinstance") (fun xs H Q => ∃ x t T b, xs = [x, .ty T] ∧ TyOf X.K H x t ∧ W.kitOne X.K t (.type T) = some b ∧ Q (.bl b) H) := by
  intro pins s σ H xs us Q I r h
  obtain ⟨x, t, T, b, rfl, ty, e, q⟩ := h
  cases r with
  | cons r1 r2 =>
    cases r2 with
    | cons r3 r4 =>
      cases r4
      cases r3
      exact isinst_ok I r1 ty e fun tk => ⟨.bl b, H, I.tok tk, rfl, q⟩
theorem se_isI {a : Expr} {x : Str} {T : String} {p1 p2 pos : Pos} {fa : Sd → M D} (hk : KitOk T) (hg : Gl X "isinstance") (hm : X.mg "isinstance" = none) (hgT : Gl X x) (hmT : X.mg x = none) (hvT : bootBuiltins x = some (.type T)) (ha : SE X E a fa)
    (hn : x ≠ "__name__" := by decide) (hd : (x == ("__debug__" : Str)) = false := by decide)
    (h1 : starEach [a, .Name x p2] X.env = (false, eval a X.env) :: starEach [.Name x p2] X.env := by rfl) (h2 : starEach [.Name x p2] X.env = [(false, eval (.Name x p2) X.env)] := by rfl)
    (hpl : (backTo pos (starEach [.Name x p2] X.env)).any (·.1) = false := by rfl) :
    SE X E (.Call (.Name "isinstance" p1) [a, .Name x p2] [] pos) (fun sd => do let d ← fa sd; dIsI T d) := by
  refine PE.imp (pe_callB call_isI hg hm PyProof.Rows.boot_isinstance (pa_cons ha (pa_cons (pe_bltn (v := .ty T) hgT hmT hvT rfl hn hd) pa_nil h2) h1) (he := h1) (hpl := hpl)) fun σ H Q ⟨ι, h, sd, L, hh, q⟩ => ⟨ι, h, sd, L, hh, Fin.bind q fun d h1 ι1 H1 e1 s1 hr1 q1 v rv => ?_⟩
  obtain ⟨t, ht, ty, q2⟩ := tyD_inv hr1 rv q1
  exact ⟨v, .type t, T, isB T t, rfl, ty, hk X.K t ht, Fin.out hr1 q2 _ (by simp [Rel])⟩
noncomputable def dIsNot : D → D → M D
  | .bl a, .bl b => pure (.bl (a != b))
  | _, _ => M.bad
noncomputable def cutD (xs : List D) (lo hi : Option Int) : List D := (xs.drop (HT.sIx xs.length 0 lo)).take (HT.sIx xs.length xs.length hi - HT.sIx xs.length 0 lo)
noncomputable def dSl (d : D) (lo hi : Option Int) : M D := match d with
  | .tup ds => pure (.tup (cutD ds lo hi))
  | .lst ds => pure (.lst (cutD ds lo hi))
  | _ => M.bad
theorem PO.imp {e : Option Expr} {t t' : TO} (h : PO X e t) (m : ∀ σ H Q, t' σ H Q → t σ H Q) : PO X e t' := fun pins s σ H Q I q => h pins s σ H Q I (m _ _ _ q)
noncomputable def oNone : Sd → M (Option Int) := fun _ => pure none
noncomputable def dPart : D → M (Option Int)
  | .int i => pure (some i)
  | _ => M.bad
noncomputable def oSome (f : Sd → M D) : Sd → M (Option Int) := fun sd => do let d ← f sd; dPart d
noncomputable def cSl (f : Sd → M D) (lo hi : Sd → M (Option Int)) : Sd → M D := fun sd => do let d ← f sd; let l ← lo sd; let u ← hi sd; dSl d l u
noncomputable def dRev : D → M D
  | .tup ds => pure (.tup ds.reverse)
  | _ => M.bad
noncomputable def dMul (x y : D) : M D := match x, y with
  | .int i, .int j => if (small64 i || small64 j) = true then pure (.int (i * j)) else M.bad
  | .tup xs, .int k => if xs ≠ [] ∧ 2 ≤ k ∧ k < 1000 ∧ xs.length * k.toNat ≤ sizeLine then pure (.tup (List.replicate k.toNat xs).flatten) else M.bad
  | _, _ => M.bad
theorem RelL.rep {K : W.Frag} {ι : Io} {H : Hp} {ds : List D} {vs : List V} (h : RelL K ι H ds vs) : ∀ n, RelL K ι H (List.replicate n ds).flatten (List.replicate n vs).flatten
  | 0 => RelL.nil
  | n + 1 => by
    rw [List.replicate_succ, List.replicate_succ, List.flatten_cons, List.flatten_cons]
    exact RelL.append h (RelL.rep h n)
theorem op_mulX : OpR X (binaryOp .Mult) (toR2 X.K E dMul) := by
  refine OpR.imp (op_mul.or op_repT) fun x y H Q ⟨ι, h, d1, d2, r1, r2, hr, q⟩ => ?_
  unfold dMul at q
  split at q
  · simp only [Rel] at r1 r2
    obtain ⟨c, q⟩ := Fin.guard q
    refine .inl ⟨_, _, r1, r2, ?_, Fin.out hr q _ (by simp [Rel])⟩
    rcases (Bool.or_eq_true _ _).mp c with z | z
    · exact .inl (small64_iff z)
    · exact .inr (small64_iff z)
  · simp only [Rel] at r2
    obtain ⟨a, vs, e, k1, k2⟩ := relSqT r1
    obtain ⟨⟨c1, c2, c3, c4⟩, q⟩ := Fin.guard q
    refine .inr ⟨a, _, vs, e, r2, k1, fun z => c1 ?_, c2, c3, by rw [← k2.length]; exact c4, fun p hp => newT hr (k2.rep _) q hp⟩
    subst z
    exact List.eq_nil_of_length_eq_zero k2.length
  · exact False.elim q
mutual
noncomputable def pdH (h : Hh) : D → Option PyData
  | .non => some .none
  | .bl b => some (.bool b)
  | .int i => some (.int i)
  | .str x => some (.str x)
  | .tup xs => (pdHL h xs).map .tuple
  | .lst xs => (pdHL h xs).map .list
  | .cel n => match h[n]? with
    | some (.lst ds) => (pdL ds).map .list
    | _ => none
  | _ => none
noncomputable def pdHL (h : Hh) : List D → Option (List PyData)
  | [] => some []
  | x :: xs => match pdH h x, pdHL h xs with
    | some a, some r => some (a :: r)
    | _, _ => none
end
mutual
theorem readsH {pins : List (Addr × Obj)} {σ : L2.St} {H : Hp} {s : Shared} {ι : Io} {h : Hh} (I : Inv X pins σ H s) (hr : HRel X.K ι H h) : ∀ {d : D} {v : V} {u : Value} {p : PyData}, Rel X.K ι H d v → RelV v u → pdH h d = some p → ∃ as, Reads s.heap u p as
  | .non, v, u, p, r, ru, e => by simp only [Rel] at r; subst r; cases ru; simp only [pdH] at e; cases e; exact ⟨_, .none⟩
  | .bl b, v, u, p, r, ru, e => by simp only [Rel] at r; subst r; cases ru; simp only [pdH] at e; cases e; exact ⟨_, .bool _⟩
  | .int i, v, u, p, r, ru, e => by simp only [Rel] at r; subst r; obtain ⟨t, rfl⟩ := ru; simp only [pdH] at e; cases e; exact ⟨_, .int _ _⟩
  | .str i, v, u, p, r, ru, e => by simp only [Rel] at r; subst r; obtain ⟨t, rfl⟩ := ru; simp only [pdH] at e; cases e; exact ⟨_, .str _ _⟩
  | .tup ds, v, u, p, r, ru, e => by
    obtain ⟨a, vs, rfl, h1, h2⟩ := relSqT r
    cases ru
    obtain ⟨its, rv, pl, _⟩ := I.tuple h1
    obtain ⟨o, ho, hc, n, hd⟩ := pl
    simp only [pdH] at e
    cases z : pdHL h ds with
    | none => rw [z] at e; cases e
    | some ps =>
      rw [z] at e; cases e
      obtain ⟨as, q⟩ := readsHL I hr h2 rv z
      exact ⟨_, .tuple ho hc hd (by simpa using q)⟩
  | .lst ds, v, u, p, r, ru, e => by
    obtain ⟨a, vs, rfl, h1, h2⟩ := relSqL r
    cases ru
    obtain ⟨its, rv, pl, _⟩ := I.list h1
    obtain ⟨o, ho, hc, n, hd⟩ := pl.isList
    simp only [pdH] at e
    cases z : pdHL h ds with
    | none => rw [z] at e; cases e
    | some ps =>
      rw [z] at e; cases e
      obtain ⟨as, q⟩ := readsHL I hr h2 rv z
      exact ⟨_, .list ho hc hd (by simpa using q)⟩
  | .cel m, v, u, p, r, ru, e => by
    simp only [pdH] at e
    cases z0 : h[m]? with
    | none => rw [z0] at e; cases e
    | some c =>
      rw [z0] at e
      cases c with
      | dead => cases e
      | lst ds =>
        obtain ⟨a, vs, rfl, hn, hH, rl⟩ := hr.read r z0
        cases ru
        obtain ⟨its, rv, pl, _⟩ := I.list (SqL.of hH)
        obtain ⟨o, ho, hc, n, hd⟩ := pl.isList
        cases z : pdL ds with
        | none => simp only [z] at e; cases e
        | some ps =>
          simp only [z] at e; cases e
          obtain ⟨as, q⟩ := readsL I rl rv z
          exact ⟨_, .list ho hc hd (by simpa using q)⟩
  | .scr ds, _, _, _, _, _, e => by simp only [pdH] at e; cases e
  | .set xs, _, _, _, _, _, e => by simp only [pdH] at e; cases e
  | .dct, _, _, _, _, _, e => by simp only [pdH] at e; cases e
  | .fn _, _, _, _, _, _, e => by simp only [pdH] at e; cases e
  | .exn _, _, _, _, _, _, e => by simp only [pdH] at e; cases e
theorem readsHL {pins : List (Addr × Obj)} {σ : L2.St} {H : Hp} {s : Shared} {ι : Io} {h : Hh} (I : Inv X pins σ H s) (hr : HRel X.K ι H h) : ∀ {ds : List D} {vs : List V} {us : List Value} {ps : List PyData}, RelL X.K ι H ds vs → Vals vs us → pdHL h ds = some ps → ∃ as, ReadsAll s.heap us ps as
  | [], vs, us, ps, r, ru, e => by simp only [RelL] at r; subst r; cases ru; simp only [pdHL] at e; cases e; exact ⟨_, .nil⟩
  | d :: ds, vs, us, ps, r, ru, e => by
    simp only [RelL] at r
    obtain ⟨v, vr, rfl, r1, r2⟩ := r
    cases ru with
    | cons ru1 ru2 =>
      simp only [pdHL] at e
      cases z : pdH h d with
      | none => rw [z] at e; cases e
      | some a =>
        cases z2 : pdHL h ds with
        | none => rw [z, z2] at e; cases e
        | some b =>
          rw [z, z2] at e
          cases e
          obtain ⟨as, q1⟩ := readsH I hr r1 ru1 z
          obtain ⟨bs, q2⟩ := readsHL I hr r2 ru2 z2
          exact ⟨_, .cons q1 q2⟩
end
end
end L3
end
section
set_option maxHeartbeats 4000000
namespace L3
open PySem PySem.Spec PyProof.Rows L2 LT
noncomputable abbrev FE := Sd → M D
noncomputable abbrev FT := Sd → M Bool
noncomputable abbrev FA := Sd → M (List D)
noncomputable abbrev FS := Sd → M Out
noncomputable def cOp (F : D → D → M D) (a b : FE) : FE := fun sd => do let x ← a sd; let y ← b sd; F x y
noncomputable def cUn (F : D → M D) (a : FE) : FE := fun sd => do let x ← a sd; F x
noncomputable def cApp (F : List D → M D) (a : FA) : FE := fun sd => do let ds ← a sd; F ds
noncomputable def tCmp (F : D → D → M D) (a b : FE) : FT := fun sd => do let z ← (do let x ← a sd; let y ← b sd; F x y); dBool z
noncomputable def tVal (a : FE) : FT := fun sd => do let x ← a sd; dBool x
noncomputable def tNot (t : FT) : FT := fun sd => do let c ← t sd; pure (!c)
noncomputable def tAnd (t u : FT) : FT := fun sd => do let c ← t sd; if c = true then u sd else pure false
noncomputable def tOr (t u : FT) : FT := fun sd => do let c ← t sd; if c = true then pure true else u sd
noncomputable def cAnd (a b : FE) : FE := fun sd => do let c ← (do let x ← a sd; dBool x); if c = true then b sd else pure (.bl false)
noncomputable def cOr (a b : FE) : FE := fun sd => do let c ← (do let x ← a sd; dBool x); if c = true then pure (.bl true) else b sd
noncomputable def cNot (a : FE) : FE := fun sd => do let c ← (do let x ← a sd; dBool x); pure (.bl (!c))
noncomputable def cIf (t : FT) (a b : FE) : FE := fun sd => do let c ← t sd; if c = true then a sd else b sd
noncomputable def cK (d : D) : FE := fun _ => pure d
noncomputable def aNil : FA := fun _ => pure []
noncomputable def aCons (a : FE) (r : FA) : FA := fun sd => do let x ← a sd; let r ← r sd; pure (x :: r)
noncomputable def cTup (fs : FA) : FE := fun sd => do let ds ← fs sd; fits ds.length; pure (.tup ds)
noncomputable def cLst (fs : FA) : FE := fun sd => do let ds ← fs sd; fits ds.length; pure (.lst ds)
noncomputable def cLstC (fs : FA) : FE := fun sd => do let ds ← fs sd; fits ds.length; newCell ds
noncomputable def sNil : FS := fun sd => pure (.nx sd)
noncomputable def sThen (g g' : FS) : FS := fun sd => do let o ← g sd; andThen o g'
noncomputable def sSet (i : Nat) (f : FE) : FS := fun sd => do let d ← f sd; pure (.nx (sd.set i (some d)))
noncomputable def sRet (f : FE) : FS := fun sd => do let d ← f sd; pure (.rt d)
noncomputable def sIf (t : FT) (g g' : FS) : FS := fun sd => do let c ← t sd; if c = true then g sd else g' sd
noncomputable def sFor (fi : FA) (g : D → Sd → M Sd) (gb : FS) : FS := fun sd => do let ds ← fi sd; fLoop (fun x sd => do let sd1 ← g x sd; gb sd1) ds sd
noncomputable def sAsg (f : FE) (g : D → Sd → M Sd) : FS := fun sd => do let d ← f sd; let sd' ← g d sd; pure (.nx sd')
noncomputable def sExpr (f : FE) : FS := fun sd => do let _ ← f sd; pure (.nx sd)
noncomputable def iSq (f : FE) : FA := fun sd => do let d ← f sd; dItems d
noncomputable def iRng (fs : FA) : FA := fun sd => do let ds ← fs sd; dRng1 ds
noncomputable def gSubD (fo fi : FE) : D → Sd → M Sd := fun d sd => do let x ← fo sd; let y ← fi sd; dSetI x y d; pure sd
section
variable {X : Cx} {E : XE} {a b e c : Expr} {es : List Expr} {pos p p1 p2 : Pos} {fa fb f : FE} {fs : FA} {x : Str}
theorem r_var (i : Nat) (hN : X.N[i]? = some x := by rfl) (hv : Vis X.env.scope x := by first | exact Or.inl rfl | exact Or.inr (Or.inl rfl) | exact Or.inr (Or.inr rfl)) (hd : (x == ("__debug__" : Str)) = false := by decide) (hcd : (x == ("__classdict__" : Str)) = false := by decide) : SE X E (.Name x pos) (dVar i) := se_var i hN hv hd hcd
theorem r_int {i : Int} {j : Nat} : SE X E (.Constant (.int i) j pos) (cK (.int i)) := se_int
theorem r_bl {i : Bool} {j : Nat} : SE X E (.Constant (.bool i) j pos) (cK (.bl i)) := se_bl
theorem r_op {op : Operator} {F : D → D → M D} (ho : OpR X (binaryOp op) (toR2 X.K E F)) (ha : SE X E a fa) (hb : SE X E b fb) : SE X E (.BinOp a op b pos) (cOp F fa fb) := se_op ho ha hb
theorem r_cmp {op : CmpOp} {F : D → D → M D} (ho : OpR X (compareOp op) (toR2 X.K E F)) (ha : SE X E a fa) (hb : SE X E b fb) (hm : behindInMarks op b = false := by rfl) : SE X E (.Compare a [op] [b] pos) (cOp F fa fb) := se_cmp ho ha hb hm
theorem r_tcmp {op : CmpOp} {F : D → D → M D} (ho : OpR X (compareOp op) (toR2 X.K E F)) (ha : SE X E a fa) (hb : SE X E b fb) (hm : behindInMarks op b = false := by rfl) : ST X E (.Compare a [op] [b] pos) (tCmp F fa fb) := st_cmp ho ha hb hm
theorem r_ix (ha : SE X E a fa) (hb : SE X E b fb) (hs : PlainIx b := by intro _ _; rfl) : SE X E (.Subscript a b pos) (cOp dIx fa fb) := se_ix ix_D ha hb hs
theorem r_not (ha : SE X E a fa) : SE X E (.UnaryOp .Not a pos) (cNot fa) := se_not ha
theorem r_one {op : BoolOp} (h : SE X E a fa) : SE X E (.BoolOp op [a] pos) fa := se_one h
theorem r_and {rest : List Expr} (ha : SE X E a fa) (hb : SE X E (.BoolOp .And (b :: rest) pos) fb) : SE X E (.BoolOp .And (a :: b :: rest) pos) (cAnd fa fb) := se_and ha hb
theorem r_tval (h : SE X E e f) (he : ∀ whole, isTrue e X.env whole = (do let v ← whole; standAt e.pos; holding [v] (truthy v)) := by intro _; rfl) : ST X E e (tVal f) := st_val h he
theorem r_tnot {t : FT} (ha : ST X E a t) : ST X E (.UnaryOp .Not a pos) (tNot t) := st_not ha
theorem r_wor1 {t : FT} (ha : ST X E a t) : PW X (.BoolOp .Or [a] pos) (toTT X.K E t) := st_or1 ha
theorem r_wor {rest : List Expr} {t u : FT} (ha : ST X E a t) (hb : PW X (.BoolOp .Or (b :: rest) pos) (toTT X.K E u)) : PW X (.BoolOp .Or (a :: b :: rest) pos) (toTT X.K E (tOr t u)) := st_or ha hb
theorem r_tbool {op : BoolOp} {vs : List Expr} {t : FT} (h : PW X (.BoolOp op vs pos) (toTT X.K E t)) : ST X E (.BoolOp op vs pos) t := st_bool h
theorem star_cons {env : Env} (h : ∀ v p, e ≠ .Starred v p) : starEach (e :: es) env = (false, eval e env) :: starEach es env := by
  cases e <;> first | rfl | exact absurd rfl (h _ _)
theorem r_anil : SA X E [] aNil := sa_nil
theorem r_acons (ha : SE X E e fa) (hr : SA X E es fs) (hs : starEach (e :: es) X.env = (false, eval e X.env) :: starEach es X.env := by exact star_cons (fun _ _ z => nomatch z)) : SA X E (e :: es) (aCons fa fs) := sa_cons ha hr hs
theorem r_tup {k} (h : SA X E es fs) : SE X E (.Tuple es k pos) (cTup fs) := se_tup h
theorem r_lst (h : SA X E es fs) : SE X E (.List es pos) (cLst fs) := se_lst h
theorem r_lstC (h : SA X E es fs) : SE X E (.List es pos) (cLstC fs) := se_lstC h
theorem r_callB {id : String} {F : List D → M D} (hc : CallR X (.builtin id) (toRA X.K E F)) (hv : bootBuiltins x = some (.builtin id)) (hm : X.mg x = none) (ha : SA X E (e :: es) fs) (hg : Gl X x := by rfl) (hn : x ≠ "__name__" := by decide) (hdb : (x == ("__debug__" : Str)) = false := by decide)
    (he : starEach (e :: es) X.env = (false, eval e X.env) :: starEach es X.env := by rfl) (hpl : (backTo pos (starEach es X.env)).any (·.1) = false := by rfl) : SE X E (.Call (.Name x p) (e :: es) [] pos) (cApp F fs) := se_callB hc hg hm hv ha hn hdb he hpl
theorem r_callTy {T : String} {F : List D → M D} (hc : CallR X (.type T) (toRA X.K E F)) (hv : bootBuiltins x = some (.type T)) (hm : X.mg x = none) (ha : SA X E (e :: es) fs) (hg : Gl X x := by rfl) (hn : x ≠ "__name__" := by decide) (hdb : (x == ("__debug__" : Str)) = false := by decide)
    (he : starEach (e :: es) X.env = (false, eval e X.env) :: starEach es X.env := by rfl) (hpl : (backTo pos (starEach es X.env)).any (·.1) = false := by rfl) : SE X E (.Call (.Name x p) (e :: es) [] pos) (cApp F fs) := se_callTy hc hg hm hv ha hn hdb he hpl
theorem r_isI {T : String} (hk : KitOk T) (hvT : bootBuiltins x = some (.type T)) (hm : X.mg "isinstance" = none) (hmT : X.mg x = none) (ha : SE X E a fa) (hg : Gl X "isinstance" := by rfl) (hgT : Gl X x := by rfl)
    (hn : x ≠ "__name__" := by decide) (hd : (x == ("__debug__" : Str)) = false := by decide)
    (h1 : starEach [a, .Name x p2] X.env = (false, eval a X.env) :: starEach [.Name x p2] X.env := by rfl) (h2 : starEach [.Name x p2] X.env = [(false, eval (.Name x p2) X.env)] := by rfl)
    (hpl : (backTo pos (starEach [.Name x p2] X.env)).any (·.1) = false := by rfl) : SE X E (.Call (.Name "isinstance" p1) [a, .Name x p2] [] pos) (cUn (dIsI T) fa) := se_isI hk hg hm hgT hmT hvT ha hn hd h1 h2 hpl
theorem r_sortset {pos2 : Pos} (hc : X.calm = true) (hm1 : X.mg "sorted" = none) (hm2 : X.mg "set" = none) (he : SE X E e f) (hg1 : Gl X "sorted" := by rfl) (hg2 : Gl X "set" := by rfl)
    (h1 : starEach [.Call (.Name "set" p2) [e] [] pos2] X.env = [(false, eval (.Call (.Name "set" p2) [e] [] pos2) X.env)] := by rfl) (h2 : starEach [e] X.env = [(false, eval e X.env)] := by rfl) :
    SE X E (.Call (.Name "sorted" p1) [.Call (.Name "set" p2) [e] [] pos2] [] pos) (cUn dSortSet f) := se_sortset hc hg1 hm1 hg2 hm2 he h1 h2
theorem r_call {k : Nat} {g : Addr} {fd : FuncData} {ps : List Str} {n : Nat} {F : List D → M D} (G : FnOk X.prog X.w X.K X.mg X.base CX0 k g fd ps (spOf X.K n F)) (hr : Room k X.A) (hm : X.mg x = some (.ref g)) (hk : W.keepIn X.K (.ref g) = true) (hb : Binds X.K fd ps [])
    (ha : SA X E0x (e :: es) fs) (hg : Gl X x := by rfl) (hdb : (x == ("__debug__" : Str)) = false := by decide) (he : starEach (e :: es) X.env = (false, eval e X.env) :: starEach es X.env := by rfl) (hpl : (backTo pos (starEach es X.env)).any (·.1) = false := by rfl) :
    SE X E0x (.Call (.Name x p) (e :: es) [] pos) (cApp (callD n F) fs) := se_call G hr hg hm hk hb ha hdb he hpl
theorem r_snil : SSs X E [] sNil := ss_nil
theorem r_sone {st : Stmt} {g : FS} (h1 : SS X E st g) : SSs X E [st] g := ss_one h1
theorem r_scons {st : Stmt} {rest : List Stmt} {g g' : FS} (h1 : SS X E st g) (h2 : SSs X E rest g') : SSs X E (st :: rest) (sThen g g') := ss_cons h1 h2
theorem r_ret (he : SE X E e f) : SS X E (.Return (some e) pos) (sRet f) := s_ret he
theorem r_if {ys ns : List Stmt} {t : FT} {g g' : FS} (hc : ST X E c t) (ha : SSs X E ys g) (hb : SSs X E ns g') : SS X E (.If c ys ns pos) (sIf t g g') := s_if hc ha hb
theorem r_expr (he : SE X E e f) (hs : swapsWith e none pos.line X.env = pure false := by rfl) : SS X E (.Expr e pos) (sExpr f) := s_expr he hs
theorem r_set (i : Nat) (hN : X.N.Nodup) (he : SE X E e f) (hi : X.N[i]? = some x := by rfl) (hx : Loc X.env.scope x := by first | exact Or.inl rfl | exact Or.inr rfl) (hf : X.fn x = true ∨ X.env.scope.names.lookup x = some .local := by first | exact Or.inl rfl | exact Or.inr rfl)
    (hs : swapsWith e (some (.Name x p)) pos.line X.env = pure false := by rfl) : SS X E (.Assign [.Name x p] e pos) (sSet i f) := s_set i hN hi hx hf he hs
theorem r_asg {tg : Expr} {g : D → Sd → M Sd} (he : SE X E e f) (hg : SG X E tg g) (hs : swapsWithSole [tg] e pos.line X.env = pure false := by rfl) (hw : swappedStores [tg] e X.env = pure none := by rfl)
    (h1 : (assignEach [tg] X.env).map (·.2) = [assign tg X.env] := by rfl) : SS X E (.Assign [tg] e pos) (sAsg f g) := s_asg he hg hs hw h1
theorem r_gname (i : Nat) (hN : X.N.Nodup) (hi : X.N[i]? = some x := by rfl) (hx : Loc X.env.scope x := by first | exact Or.inl rfl | exact Or.inr rfl) (hf : X.fn x = true ∨ X.env.scope.names.lookup x = some .local := by first | exact Or.inl rfl | exact Or.inr rfl) : SG X E (.Name x pos) (gSet i) := sg_name i hN hi hx hf
theorem r_gsnil : SGs X E [] gsNil := sgs_nil
theorem r_gscons {g : D → Sd → M Sd} {gs : List D → Sd → M Sd} (h1 : SG X E e g) (h2 : SGs X E es gs) (hs : (assignEach (e :: es) X.env).map (·.2) = assign e X.env :: (assignEach es X.env).map (·.2) := by rfl) : SGs X E (e :: es) (gsCons g gs) := sgs_cons h1 h2 hs
theorem r_gtup {k n : Nat} {gs : List D → Sd → M Sd} (hc : X.calm = true) (h : SGs X E es gs) (hn : (assignEach es X.env).length = n := by rfl) (hst : (assignEach es X.env).findIdx? (·.1) = none := by rfl) : SG X E (.Tuple es k pos) (gTupD n gs) := sg_tup hc h hn hst
theorem r_gsub (ho : SE X E a fa) (hi : SE X E b fb) (ha : ∀ v, assign (.Subscript a b pos) X.env v = (do
      let ov ← holding [v] (eval a X.env)
      let iv ← holding [v, ov] (eval b X.env)
      standAt pos
      holding [v, ov, iv] (setItem ov iv v)
      release [v, ov, iv] []) := by intro _; rfl) : SG X E (.Subscript a b pos) (gSubD fa fb) := sg_sub fun hs => pg_sub ho hi hs ha
theorem r_seq {tg : Expr} (he : SE X E e f) : SI X E tg e (iSq f) := si_seq he
theorem r_rng {tg : Expr} (hm : X.mg "range" = none) (ha : SA X E [a] fs) (hg : Gl X "range" := by rfl) (hs : starEach [a] X.env = [(false, eval a X.env)] := by rfl) : SI X E tg (.Call (.Name "range" p) [a] [] pos) (iRng fs) := si_rng1 hg hm ha hs
theorem r_for {tg iter : Expr} {body : List Stmt} {fi : FA} {g : D → Sd → M Sd} {gb : FS} (hc : X.calm = true) (hp : PassesOwn (model X.prog X.w) X.A X.env X.xe) (hi : SI X E tg iter fi) (hg : SG X E tg g) (hb : SSs X E body gb)
    (hs : ∀ x, foldedSetIterable iter X.env x = pure x := by intro _; rfl) : SS X E (.For tg iter body [] pos) (sFor fi g gb) := s_for hc hp hi hg hb hs
theorem r_cnil : SCs X E [] (fun _ => pure true) := sc_nil
theorem r_cone {t : FT} (h : ST X E c t) : SCs X E [c] t := sc_one h
theorem r_comp {scope : Scope} {N : List Str} {src : List (Option Nat)} {tg iter elt : Expr} {ifs : List Expr} {fi : FA} {g : D → Sd → M Sd} {tc : FT} {te : FE} (hc : X.calm = true) (B : BOk X scope N src) (hk : GKeeps g src) (hi : SI X E tg iter fi)
    (hg : ∀ s H fp, SG (cxB X scope N s H fp) E tg g) (ht : ∀ s H fp, SCs (cxB X scope N s H fp) E ifs tc) (he : ∀ s H fp, SE (cxB X scope N s H fp) E elt te)
    (hs : ∀ x, foldedSetIterable iter X.env x = pure x := by intro _; rfl) : SE X E (.ListComp elt [⟨tg, iter, ifs, 0⟩] scope pos) (dComp fi g tc te src) := se_comp B hk hi hg ht he hs
theorem r_setcomp {scope : Scope} {N : List Str} {src : List (Option Nat)} {tg iter elt : Expr} {ifs : List Expr} {fi : FA} {g : D → Sd → M Sd} {tc : FT} {te : FE} (i : Nat) {y : Str} {py spos : Pos} (hc : X.calm = true) (hN : X.N.Nodup) (B : BOk X scope N src) (hk : GKeeps g src) (hi : SI X E tg iter fi)
    (hg : ∀ s H fp, SG (cxB X scope N s H fp) E tg g) (ht : ∀ s H fp, SCs (cxB X scope N s H fp) E ifs tc) (he : ∀ s H fp, SE (cxB X scope N s H fp) E elt te)
    (hy : X.N[i]? = some y := by rfl) (hx : Loc X.env.scope y := by first | exact Or.inl rfl | exact Or.inr rfl) (hf : X.fn y = true ∨ X.env.scope.names.lookup y = some .local := by first | exact Or.inl rfl | exact Or.inr rfl) (hsw : swapsWith (.ListComp elt [⟨tg, iter, ifs, 0⟩] scope pos) (some (.Name y py)) spos.line X.env = pure true := by rfl)
    (hs : ∀ x, foldedSetIterable iter X.env x = pure x := by intro _; rfl) : SS X E (.Assign [.Name y py] (.ListComp elt [⟨tg, iter, ifs, 0⟩] scope pos) spos) (sSet i (dComp fi g tc te src)) := s_setcomp i B hk hi hg ht he hN hy hx hf hsw hs
end
theorem HRel.empty {K : W.Frag} {H : Hp} : HRel K ⟨[], []⟩ H [] := ⟨rfl, fun m n a h => by simp at h, fun n a c h => by simp at h, fun n h => by simp at h, fun a h => by cases h⟩
theorem sp_of {K : W.Frag} {F : List D → M D} {H : Hp} {a : Addr} {ns : List Int} (hS : SqL K H a (ns.map V.int)) (hm : ∃ h', F [.scr (ns.map D.int)] [] = .ok (.bl true) h') : spOf K 1 F [.ref a] H (fun v _ => v = .bl true) fun _ _ _ => False := by
  obtain ⟨h', e⟩ := hm
  refine ⟨rfl, ⟨[], []⟩, [], [.scr (ns.map D.int)], RelL.cons ?_ RelL.nil, HRel.empty, ?_⟩
  · simp only [Rel]
    refine ⟨a, ns.map V.int, rfl, ?_, relL_ints.mpr rfl⟩
    rcases hS with h | h
    · exact .inl ⟨h, fun z => by rcases z with z | z <;> cases z⟩
    · exact .inr (.inr h)
  · rw [e]
    intro ι1 H1 s hr v rv
    simpa [Rel] using rv
end L3
end
section
set_option maxHeartbeats 4000000
namespace L3
open PySem PySem.Spec PyProof.Rows L2 LT
section
variable {sd : Sd} {a b : FE} {fs : FA} {t u : FT} {g g' : FS} {F : D → D → M D}
@[simp] theorem e_cOp : cOp F a b sd = (do let x ← a sd; let y ← b sd; F x y) := rfl
@[simp] theorem e_cUn {F : D → M D} : cUn F a sd = (do let x ← a sd; F x) := rfl
@[simp] theorem e_cApp {F : List D → M D} : cApp F fs sd = (do let ds ← fs sd; F ds) := rfl
@[simp] theorem e_tCmp : tCmp F a b sd = (do let z ← (do let x ← a sd; let y ← b sd; F x y); dBool z) := rfl
@[simp] theorem e_tVal : tVal a sd = (do let x ← a sd; dBool x) := rfl
@[simp] theorem e_tNot : tNot t sd = (do let c ← t sd; pure (!c)) := rfl
@[simp] theorem e_tAnd : tAnd t u sd = (do let c ← t sd; if c = true then u sd else pure false) := rfl
@[simp] theorem e_tOr : tOr t u sd = (do let c ← t sd; if c = true then pure true else u sd) := rfl
@[simp] theorem e_cAnd : cAnd a b sd = (do let c ← (do let x ← a sd; dBool x); if c = true then b sd else pure (.bl false)) := rfl
@[simp] theorem e_cOr : cOr a b sd = (do let c ← (do let x ← a sd; dBool x); if c = true then pure (.bl true) else b sd) := rfl
@[simp] theorem e_cNot : cNot a sd = (do let c ← (do let x ← a sd; dBool x); pure (.bl (!c))) := rfl
@[simp] theorem e_cIf : cIf t a b sd = (do let c ← t sd; if c = true then a sd else b sd) := rfl
@[simp] theorem e_cK {d : D} : cK d sd = pure d := rfl
@[simp] theorem e_aNil : aNil sd = pure [] := rfl
@[simp] theorem e_aCons : aCons a fs sd = (do let x ← a sd; let r ← fs sd; pure (x :: r)) := rfl
@[simp] theorem e_cTup : cTup fs sd = (do let ds ← fs sd; fits ds.length; pure (.tup ds)) := rfl
@[simp] theorem e_cLst : cLst fs sd = (do let ds ← fs sd; fits ds.length; pure (.lst ds)) := rfl
@[simp] theorem e_cLstC : cLstC fs sd = (do let ds ← fs sd; fits ds.length; newCell ds) := rfl
@[simp] theorem e_sNil : sNil sd = pure (.nx sd) := rfl
@[simp] theorem e_sThen : sThen g g' sd = (do let o ← g sd; andThen o g') := rfl
@[simp] theorem e_sSet {i : Nat} : sSet i a sd = (do let d ← a sd; pure (.nx (sd.set i (some d)))) := rfl
@[simp] theorem e_sRet : sRet a sd = (do let d ← a sd; pure (.rt d)) := rfl
@[simp] theorem e_sIf : sIf t g g' sd = (do let c ← t sd; if c = true then g sd else g' sd) := rfl
@[simp] theorem e_sFor {fi : FA} {gt : D → Sd → M Sd} : sFor fi gt g sd = (do let ds ← fi sd; fLoop (fun x sd => do let sd1 ← gt x sd; g sd1) ds sd) := rfl
@[simp] theorem e_sAsg {gt : D → Sd → M Sd} : sAsg a gt sd = (do let d ← a sd; let sd' ← gt d sd; pure (.nx sd')) := rfl
@[simp] theorem e_sExpr : sExpr a sd = (do let _ ← a sd; pure (.nx sd)) := rfl
@[simp] theorem e_iSq : iSq a sd = (do let d ← a sd; dItems d) := rfl
@[simp] theorem e_iRng : iRng fs sd = (do let ds ← fs sd; dRng1 ds) := rfl
@[simp] theorem e_gSubD {d : D} : gSubD a b d sd = (do let x ← a sd; let y ← b sd; dSetI x y d; pure sd) := rfl
@[simp] theorem e_gSet {i : Nat} {d : D} : gSet i d sd = pure (sd.set i (some d)) := rfl
@[simp] theorem e_nx : andThen (.nx sd) g = g sd := rfl
@[simp] theorem e_rt {d : D} : andThen (.rt d) g = pure (.rt d) := rfl
@[simp] theorem e_bk : andThen (.bk sd) g = pure (.bk sd) := rfl
@[simp] theorem e_ct : andThen (.ct sd) g = pure (.ct sd) := rfl
@[simp] theorem e_onx : outD (.nx sd) = pure .non := rfl
@[simp] theorem e_ort {d : D} : outD (.rt d) = pure d := rfl
@[simp] theorem e_bool {c : Bool} : dBool (.bl c) = pure c := rfl
@[simp] theorem e_cSl {lo hi : Sd → M (Option Int)} : cSl a lo hi sd = (do let d ← a sd; let l ← lo sd; let u ← hi sd; dSl d l u) := rfl
@[simp] theorem e_oNone : oNone sd = pure none := rfl
@[simp] theorem e_oSome : oSome a sd = (do let d ← a sd; dPart d) := rfl
@[simp] theorem e_part {i : Int} : dPart (.int i) = pure (some i) := rfl
@[simp] theorem e_slT {ds : List D} {lo hi : Option Int} : dSl (.tup ds) lo hi = pure (.tup (cutD ds lo hi)) := rfl
@[simp] theorem e_rev {ds : List D} : dRev (.tup ds) = pure (.tup ds.reverse) := rfl
@[simp] theorem e_neg {i : Int} : dNeg (.int i) = pure (.int (-i)) := rfl
@[simp] theorem e_addI {i j : Int} : dAdd (.int i) (.int j) = pure (.int (i + j)) := rfl
@[simp] theorem e_addT {xs ys : List D} : dAdd (.tup xs) (.tup ys) = (do fits (xs.length + ys.length); pure (.tup (xs ++ ys))) := rfl
@[simp] theorem e_addL {xs ys : List D} : dAdd (.lst xs) (.lst ys) = (do fits (xs.length + ys.length); pure (.lst (xs ++ ys))) := rfl
@[simp] theorem e_sub {i j : Int} : dSub (.int i) (.int j) = pure (.int (i - j)) := rfl
@[simp] theorem e_and {i j : Int} : dAnd (.int i) (.int j) = pure (.int (Builtin.bitAnd i j)) := rfl
@[simp] theorem e_lt {i j : Int} : dLt (.int i) (.int j) = pure (.bl (decide (i < j))) := rfl
@[simp] theorem e_le {i j : Int} : dLe (.int i) (.int j) = pure (.bl (decide (i ≤ j))) := rfl
@[simp] theorem e_gt {i j : Int} : dGt (.int i) (.int j) = pure (.bl (decide (j < i))) := rfl
@[simp] theorem e_ge {i j : Int} : dGe (.int i) (.int j) = pure (.bl (decide (j ≤ i))) := rfl
@[simp] theorem e_isnot {i j : Bool} : dIsNot (.bl i) (.bl j) = pure (.bl (i != j)) := rfl
@[simp] theorem e_lenT {ds : List D} : dLen [.tup ds] = pure (.int ds.length) := rfl
@[simp] theorem e_lenL {ds : List D} : dLen [.lst ds] = pure (.int ds.length) := rfl
@[simp] theorem e_lenS {ds : List D} : dLen [.scr ds] = pure (.int ds.length) := rfl
@[simp] theorem e_tupT {ds : List D} : dTuple [.tup ds] = pure (.tup ds) := rfl
@[simp] theorem e_tupL {ds : List D} : dTuple [.lst ds] = pure (.tup ds) := rfl
@[simp] theorem e_lstT {ds : List D} : dList [.tup ds] = pure (.lst ds) := rfl
@[simp] theorem e_itT {ds : List D} : dItems (.tup ds) = pure ds := rfl
@[simp] theorem e_itL {ds : List D} : dItems (.lst ds) = pure ds := rfl
@[simp] theorem e_call1 {F : List D → M D} {x : D} : callD 1 F [x] = F [x] := rfl
@[simp] theorem e_call2 {F : List D → M D} {x y : D} : callD 2 F [x, y] = F [x, y] := rfl
@[simp] theorem e_call3 {F : List D → M D} {x y z : D} : callD 3 F [x, y, z] = F [x, y, z] := rfl
@[simp] theorem e_floop0 {body : D → Sd → M Out} : fLoop body [] sd = pure (.nx sd) := rfl
theorem e_floop {body : D → Sd → M Out} {x : D} {r : List D} : fLoop body (x :: r) sd = (do let o ← body x sd; match o with | .nx sd' => fLoop body r sd' | .ct sd' => fLoop body r sd' | .bk sd' => pure (.nx sd') | .rt d => pure (.rt d)) := rfl
@[simp] theorem e_gtup2 {gs : List D → Sd → M Sd} {x y : D} : gTupD 2 gs (.tup [x, y]) sd = gs [x, y] sd := rfl
@[simp] theorem e_gsnil : gsNil [] sd = pure sd := rfl
@[simp] theorem e_gscons {gt : D → Sd → M Sd} {gs : List D → Sd → M Sd} {x : D} {r : List D} : gsCons gt gs (x :: r) sd = (do let sd1 ← gt x sd; gs r sd1) := rfl
@[simp] theorem e_setI {n : Nat} {k : Int} {d : D} : dSetI (.cel n) (.int k) d = (do let ds ← cellGet n; let j ← ofO (ixN ds.length k); cellPut n (ds.set j d)) := rfl
@[simp] theorem e_ixT {ds : List D} {i : Int} : dIx (.tup ds) (.int i) = ofO (atI ds i) := rfl
@[simp] theorem e_ixL {ds : List D} {i : Int} : dIx (.lst ds) (.int i) = ofO (atI ds i) := rfl
@[simp] theorem e_ixS {ds : List D} {i : Int} : dIx (.scr ds) (.int i) = ofO (atI ds i) := rfl
@[simp] theorem e_ixC {n : Nat} {i : Int} : dIx (.cel n) (.int i) = (do let ds ← cellGet n; ofO (atI ds i)) := rfl
@[simp] theorem e_ofO {α : Type} {x : α} : ofO (some x) = pure x := rfl
@[simp] theorem e_at0 {x : D} {r : List D} : atI (x :: r) 0 = some x := by unfold atI ixN; simp
@[simp] theorem e_at1 {x y : D} {r : List D} : atI (x :: y :: r) 1 = some y := by
  have := atI_nat (xs := x :: y :: r) (j := 1) (v := y) rfl
  simpa using this
end
theorem fits_ok {n : Nat} (h : n ≤ 1000) : fits n = pure () := by
  unfold fits
  rw [if_pos (Nat.le_trans h (by decide))]
theorem dMulI_ok {i j : Int} (h : (small64 i || small64 j) = true) : dMul (.int i) (.int j) = pure (.int (i * j)) := by
  show (if (small64 i || small64 j) = true then _ else _) = _
  rw [if_pos h]
theorem small_of {i : Int} (h : -1000000000000000 < i) (h' : i < 1000000000000000) : small64 i = true := by unfold small64; simp; omega
theorem dMul_l {i j : Int} (h : -1000000000000000 < i) (h' : i < 1000000000000000) : dMul (.int i) (.int j) = pure (.int (i * j)) := dMulI_ok (by rw [small_of h h']; rfl)
theorem dMod_ok {i j : Int} (h : 0 < j) : dMod (.int i) (.int j) = pure (.int (i % j)) := by
  show (if (decide (0 < j)) = true then _ else _) = _
  rw [if_pos (by simpa using h)]
theorem dFdiv_ok {i j : Int} (h : 0 < j) (h' : j < 2 ^ 64) : dFdiv (.int i) (.int j) = pure (.int (i / j)) := by
  show (if (decide (0 < j) && decide (j < 2 ^ 64)) = true then _ else _) = _
  rw [if_pos (by rw [Bool.and_eq_true]; exact ⟨by simpa using h, by simpa using h'⟩)]
theorem dEqI {i j : Int} : dEq (.int i) (.int j) = pure (.bl (i == j)) := by
  unfold dEq dEqG
  simp only [pd]
  rw [if_pos (show eqOk (.int i) (.int j) = true from rfl)]
  rfl
noncomputable def wp {α : Type} (m : M α) (h : Hh) (P : α → Hh → Prop) : Prop := ∃ a h', m h = .ok a h' ∧ P a h'
section
variable {α β : Type} {h : Hh} {P P' : α → Hh → Prop}
theorem wp_pure {a : α} : wp (pure a : M α) h P ↔ P a h := ⟨fun ⟨b, h', e, q⟩ => by cases (show R.ok a h = R.ok b h' from e); exact q, fun q => ⟨a, h, rfl, q⟩⟩
theorem wp_bind {m : M β} {f : β → M α} : wp (m >>= f) h P ↔ wp m h fun b h' => wp (f b) h' P := by
  constructor
  · rintro ⟨a, h', e, q⟩
    have e : M.bind m f h = .ok a h' := e
    unfold M.bind at e
    cases z : m h with
    | ok b h1 => rw [z] at e; exact ⟨b, h1, z, a, h', e, q⟩
    | exc c h1 => rw [z] at e; cases e
    | bad => rw [z] at e; cases e
  · rintro ⟨b, h1, e, a, h', e2, q⟩
    refine ⟨a, h', ?_, q⟩
    show M.bind m f h = _
    unfold M.bind
    rw [e]
    exact e2
theorem wp_mono {m : M α} (q : wp m h P) (k : ∀ a h', P a h' → P' a h') : wp m h P' := by
  obtain ⟨a, h', e, q⟩ := q
  exact ⟨a, h', e, k _ _ q⟩
theorem wp_get {n : Nat} {ds : List D} {P : List D → Hh → Prop} (e : h[n]? = some (.lst ds)) : wp (cellGet n) h P ↔ P ds h := by
  unfold wp cellGet
  rw [e]
  exact ⟨fun ⟨b, h', e, q⟩ => by cases e; exact q, fun q => ⟨_, _, rfl, q⟩⟩
theorem wp_put {n : Nat} {ds : List D} {P : Unit → Hh → Prop} : wp (cellPut n ds) h P ↔ P () (h.set n (.lst ds)) := ⟨fun ⟨b, h', e, q⟩ => by cases (show R.ok () (h.set n (.lst ds)) = R.ok b h' from e); exact q, fun q => ⟨_, _, rfl, q⟩⟩
theorem wp_new {ds : List D} {P : D → Hh → Prop} : wp (newCell ds) h P ↔ P (.cel h.length) (h ++ [.lst ds]) := ⟨fun ⟨b, h', e, q⟩ => by cases (show R.ok (D.cel h.length) (h ++ [C.lst ds]) = R.ok b h' from e); exact q, fun q => ⟨_, _, rfl, q⟩⟩
end
theorem blsD_map : ∀ bs : List Bool, blsD (bs.map D.bl) = some bs
  | [] => rfl
  | b :: r => by rw [List.map_cons, blsD, blsD_map r]; rfl
theorem intsD_map : ∀ bs : List Int, intsD (bs.map D.int) = some bs
  | [] => rfl
  | b :: r => by rw [List.map_cons, intsD, intsD_map r]; rfl
theorem dAll_ok (bs : List Bool) : dAll [.lst (bs.map D.bl)] = pure (.bl (bs.all id)) := by
  show (do let bs ← ofO (blsD (bs.map D.bl)); pure (.bl (bs.all id)) : M D) = _
  rw [blsD_map]
  rfl
theorem dSortSetG {d : D} {xs : List Int} (e : seqD d = pure (xs.map D.int)) (h : (xs.foldl step_dedup []).length < 64) (h2 : xs.length < 4000) : dSortSet d = pure (.lst ((setI xs).map D.int)) := by
  unfold dSortSet
  rw [e]
  show (do let ns ← ofO (intsD (xs.map D.int)); if (ns.foldl step_dedup []).length < 64 ∧ ns.length < 4000 then pure (.lst ((setI ns).map D.int)) else M.bad : M D) = _
  rw [intsD_map]
  show (if (xs.foldl step_dedup []).length < 64 ∧ xs.length < 4000 then (pure (.lst ((setI xs).map D.int)) : M D) else M.bad) = _
  rw [if_pos ⟨h, h2⟩]
theorem dSortSet_ok {xs : List Int} (h : xs.length < 64) : dSortSet (.tup (xs.map D.int)) = pure (.lst ((setI xs).map D.int)) := dSortSetG rfl (Nat.lt_of_le_of_lt (dedup_len xs) h) (by omega)
noncomputable def kn : D → Bool
  | .non | .bl _ | .int _ | .str _ | .tup _ | .lst _ | .dct => true
  | _ => false
noncomputable def isT : D → Bool
  | .tup _ => true
  | _ => false
noncomputable def isI : D → Bool
  | .int _ => true
  | _ => false
theorem isT_ok {d : D} (k : kn d = true) : dIsI "tuple" d = pure (.bl (isT d)) := by
  cases d <;> simp [kn] at k <;> simp [dIsI, tyD, isB, isT]
theorem isIB_ok {d : D} (k : kn d = true) : dIsI "int" d = pure (.bl (isI d || (match d with | .bl _ => true | _ => false))) := by
  cases d <;> simp [kn] at k <;> simp [dIsI, tyD, isB, isI]
theorem isB_ok {d : D} (k : kn d = true) : dIsI "bool" d = pure (.bl (match d with | .bl _ => true | _ => false)) := by
  cases d <;> simp [kn] at k <;> simp [dIsI, tyD, isB, isI]
mutual
noncomputable def good : D → Bool
  | .non | .bl _ | .int _ => true
  | .str x => PyData.strOk x
  | .tup ds => decide (ds.length < 64) && goodL ds
  | .lst ds => decide (ds.length < 64) && goodL ds
  | _ => false
noncomputable def goodL : List D → Bool
  | [] => true
  | d :: r => good d && goodL r
end
mutual
theorem good_pd : ∀ {d : D}, good d = true → ∃ p, pd d = some p ∧ p.canLay0 = true
  | .non, _ => ⟨.none, rfl, rfl⟩
  | .bl b, _ => ⟨.bool b, rfl, rfl⟩
  | .int i, _ => ⟨.int i, rfl, rfl⟩
  | .str x, g => ⟨.str x, rfl, by simpa [good, PyData.canLay0] using g⟩
  | .tup ds, g => by
    have g2 : goodL ds = true := by simp [good] at g; exact g.2
    obtain ⟨ps, e, c⟩ := good_pdL g2
    exact ⟨.tuple ps, by unfold pd; rw [e]; rfl, c⟩
  | .lst ds, g => by
    have g2 : goodL ds = true := by simp [good] at g; exact g.2
    obtain ⟨ps, e, c⟩ := good_pdL g2
    exact ⟨.list ps, by unfold pd; rw [e]; rfl, c⟩
  | .cel _, g => by simp [good] at g
  | .set _, g => by simp [good] at g
  | .dct, g => by simp [good] at g
  | .fn _, g => by simp [good] at g
  | .scr _, g => by simp [good] at g
  | .exn _, g => by simp [good] at g
theorem good_pdL : ∀ {ds : List D}, goodL ds = true → ∃ ps, pdL ds = some ps ∧ PyData.canLayAll0 ps = true
  | [], _ => ⟨[], rfl, rfl⟩
  | d :: r, g => by
    simp [goodL] at g
    obtain ⟨p, e, c⟩ := good_pd g.1
    obtain ⟨ps, e2, c2⟩ := good_pdL g.2
    exact ⟨p :: ps, by unfold pdL; rw [e, e2], by simp [PyData.canLayAll0, c, c2]⟩
end
theorem pdL_ints : ∀ xs : List Int, pdL (xs.map D.int) = some (xs.map PyData.int)
  | [] => rfl
  | x :: r => by rw [List.map_cons, pdL, pdL_ints r]; rfl
theorem canLay_ints : ∀ xs : List Int, PyData.canLayAll0 (xs.map PyData.int) = true
  | [] => rfl
  | x :: r => by simp [PyData.canLayAll0, PyData.canLay0, canLay_ints r]
theorem depth_ints : ∀ xs : List Int, PyData.depthAll (xs.map PyData.int) = 0
  | [] => rfl
  | x :: r => by simp [PyData.depthAll, PyData.depth, depth_ints r]
theorem eqv_ints : ∀ xs ys : List Int, PyData.eqvAll (xs.map PyData.int) (ys.map PyData.int) = (xs == ys)
  | [], [] => rfl
  | [], _ :: _ => rfl
  | _ :: _, [] => rfl
  | x :: xs, y :: ys => by
    simp only [List.map_cons, PyData.eqvAll, PyData.eqv, eqv_ints xs ys]
    rfl
theorem dNe_ints (xs ys : List Int) : dNe (.lst (xs.map D.int)) (.lst (ys.map D.int)) = pure (.bl (!(xs == ys))) := by
  show dEqG true _ _ = _
  unfold dEqG
  have e1 : pd (.lst (xs.map D.int)) = some (.list (xs.map PyData.int)) := by unfold pd; rw [pdL_ints]; rfl
  have e2 : pd (.lst (ys.map D.int)) = some (.list (ys.map PyData.int)) := by unfold pd; rw [pdL_ints]; rfl
  rw [e1, e2]
  have c : eqOk (.list (xs.map PyData.int)) (.list (ys.map PyData.int)) = true := by
    unfold eqOk
    simp [PyData.canLay0, canLay_ints, PyData.depth, depth_ints]
  simp only [c, if_true, PyData.eqv, eqv_ints]
theorem any_ints (k : Int) : ∀ xs : List Int, ((xs.map PyData.int).any fun y => PyData.eqv y (.int k)) = xs.any (· == k)
  | [] => rfl
  | x :: r => by simp only [List.map_cons, List.any_cons, any_ints k r]; rfl
theorem dIn_ints (k : Int) (xs : List Int) : dIn (.int k) (.tup (xs.map D.int)) = pure (.bl (xs.any (· == k))) := by
  show dInG false (.int k) (.tup (xs.map D.int)) = _
  unfold dInG
  simp only [pd]
  rw [pdL_ints]
  have c : inOk (.int k) (xs.map PyData.int) = true := by
    unfold inOk
    simp [PyData.canLay0, canLay_ints, PyData.depth, depth_ints]
  simp only [c, if_true, any_ints]
  rfl
end L3
end
section
set_option maxHeartbeats 8000000
namespace L2
open PySem PySem.Spec PyProof.Rows LT
section
variable {X : Cx}
theorem call_divmodI : CallR X (.builtin "divmod") (fun xs H Q => ∃ i j : Int, xs = [.int i, .int j] ∧ 0 < j ∧ j < 2 ^ 100 ∧ ∀ p, H p = none → Q (.ref p) (upd H p (.tup [.int (i / j), .int (i % j)]))) := by
  intro pins s σ H xs us Q I r h
  obtain ⟨i, j, rfl, h0, h1, q⟩ := h
  cases r with
  | cons r1 r2 =>
    cases r2 with
    | cons r3 r4 =>
      cases r4
      obtain ⟨t, rfl⟩ := r1
      obtain ⟨u, rfl⟩ := r3
      refine divmod_int (by omega) ?_ (.inl (PyProof.noPylong_of_log2 ?_))
      · refine ⟨.ref s.heap.objs.size, _, I.laid (t' := s.toks + 1 + 1) (o := .tup [.int (i / j), .int (i % j)]) (fun b ob q => Heap.get?_push_of_some _ q) (Nat.le_refl _) ?_, rfl, q _ (I.hok.fresh (Nat.le_refl _))⟩
        refine ⟨by show 2 ≤ sizeLine; decide, [.int (i.fdiv j) s.toks, .int (i.fmod j) (s.toks + 1)], .cons ⟨s.toks, by rw [Int.fdiv_eq_ediv_of_nonneg _ (by omega)]⟩ (.cons ⟨s.toks + 1, by rw [Int.fmod_eq_emod_of_nonneg _ (by omega)]⟩ .nil), IsTup.new _ _⟩
      · have h1 : j.natAbs < 2 ^ 100 := by omega
        have h0 : j.natAbs ≠ 0 := by omega
        exact Nat.lt_trans ((Nat.log2_lt h0).mpr h1) (by decide)
theorem call_anyB (hc : X.calm = true) : CallR X (.builtin "any") (fun xs H Q => ∃ (a : Addr) (bs : List Bool), xs = [.ref a] ∧ SqL X.K H a (bs.map V.bl) ∧ Q (.bl (bs.any id)) H) := by
  intro pins s σ H xs us Q I r h
  obtain ⟨a, bs, rfl, hq, q⟩ := h
  obtain ⟨u, rfl, rx⟩ := vals1 r
  cases rx
  obtain ⟨its, r', pl, hz⟩ := I.list hq
  have hlt : a < s.heap.objs.size := by obtain ⟨_, e, _⟩ := pl.isList; exact Heap.lt_size e
  refine call_any_walk (wpAny_pyIter_list pl.isList ?_)
  refine ⟨s.heap.objs.size, [s.heap.objs.size, a], [s.heap.objs.size], its.toArray.size, _, _, fun i => (bs[i]?).getD true, rfl, Walks.list (A := X.A.in1) (I.ok.hd hc) _ a (Nat.ne_of_lt hlt) its.toArray, ⟨⟨_, Heap.get?_push_size _ rfl, rfl, rfl⟩, pl.isList.push _⟩, fun i v s' Q' E' hP hQ => ?_, fun h' tk hk => ?_⟩
  · have hv : its[i]? = some v := by simpa using hP
    obtain ⟨hi, _⟩ := List.getElem?_eq_some_iff.mp hv
    have hlen : bs.length = its.length := by rw [← r'.length, List.length_map]
    have hb : (bs.map V.bl)[i]? = some (V.bl bs[i]) := by simp [hlen, hi]
    obtain ⟨u', hu, ru⟩ := r'.get hb
    rw [hv] at hu
    cases hu
    cases ru
    have e : (bs[i]?).getD true = bs[i] := by simp [hlen, hi]
    have hQ : Q' ((bs[i]?).getD true) s' := hQ
    rw [e] at hQ
    exact wpAny_truthy_bool hQ
  · have e : ((List.range its.toArray.size).any fun i => (bs[i]?).getD true) = bs.any id := by
      have hlen : bs.length = its.length := by rw [← r'.length, List.length_map]
      rw [List.size_toArray, ← hlen]
      rw [Bool.eq_iff_iff, List.any_eq_true, List.any_eq_true]
      constructor
      · rintro ⟨i, hi, h⟩
        have hl : i < bs.length := by simpa using hi
        have e1 : bs[i]? = some bs[i] := by simp [hl]
        rw [e1] at h
        exact ⟨bs[i], List.getElem_mem hl, h⟩
      · rintro ⟨x, hx, h⟩
        obtain ⟨i, hi⟩ := List.mem_iff_getElem?.mp hx
        have hl := (List.getElem?_eq_some_iff.mp hi).1
        refine ⟨i, by simpa using hl, ?_⟩
        rw [hi]
        exact h
    rw [e]
    refine ⟨.bl _, H, I.grown (s' := { s with heap := h', toks := tk }) rfl rfl fun b ob eb => hk b ob (fun z => ?_) (Heap.get?_push_of_some _ eb), rfl, q⟩
    simp only [List.mem_cons, List.not_mem_nil, or_false] at z
    exact Nat.lt_irrefl _ (z ▸ Heap.lt_size eb)
end
end L2
namespace L3
open PySem PySem.Spec PyProof.Rows L2 LT
section
variable {X : Cx} {E : XE} {a b c o e : Expr} {pos apos cpos : Pos} {fa fb fc fo fe : FE}
noncomputable def dDivmod : List D → M D
  | [.int i, .int j] => if 0 < j ∧ j < 2 ^ 100 then pure (.tup [.int (i / j), .int (i % j)]) else M.bad
  | _ => M.bad
theorem call_divmodD : CallR X (.builtin "divmod") (toRA X.K E dDivmod) := by
  refine CallR.imp call_divmodI fun xs H Q ⟨ι, h, ds, rl, hr, q⟩ => ?_
  unfold dDivmod at q
  split at q
  · simp only [RelL, Rel] at rl
    obtain ⟨v, r, rfl, rfl, v', r', rfl, rfl, rfl⟩ := rl
    obtain ⟨⟨c1, c2⟩, q⟩ := Fin.guard q
    refine ⟨_, _, rfl, c1, c2, fun p hp => newT hr ?_ q hp⟩
    exact RelL.cons (by simp [Rel]) (RelL.cons (by simp [Rel]) RelL.nil)
  · exact False.elim q
noncomputable def dAny : List D → M D := one1 fun d => match d with
  | .lst ds => do let bs ← ofO (blsD ds); pure (.bl (bs.any id))
  | _ => M.bad
theorem call_anyD (hc : X.calm = true) : CallR X (.builtin "any") (toRA X.K E dAny) := by
  refine CallR.imp (call_anyB hc) fun xs H Q ⟨ι, h, ds, rl, hr, q⟩ => ?_
  obtain ⟨d, v, e, r, q⟩ := one1_inv rl q
  cases d with
  | lst ds =>
    obtain ⟨a, vs, e', h1, h2⟩ := relSqL r
    obtain ⟨bs, eb, q⟩ := Fin.ofOb q
    have := blsD_inv h2 eb
    subst this
    exact ⟨a, bs, by rw [e, e'], h1, Fin.out hr q _ (by simp [Rel])⟩
  | _ => exact False.elim q
noncomputable def cChain (F F' : D → D → M D) (a b c : FE) : FE := fun sd => do
  let x ← a sd
  let y ← b sd
  let z ← F x y
  let k ← dBool z
  if k = true then do let w ← c sd; F' y w else pure (.bl false)
theorem te_chain {K : W.Frag} {F F' : D → D → M D} (σ : St) (H : Hp) (Q : VK) (q : toTE K E (cChain F F' fa fb fc) σ H Q) : tChain (toR2 K E F) (toR2 K E F') (toTE K E fa) (toTE K E fb) (toTE K E fc) σ H Q := by
  obtain ⟨ι, h, sd, L, hh, q⟩ := q
  refine ⟨ι, h, sd, L, hh, Fin.bind q fun d1 h1 ι1 H1 e1 s1 hr1 q1 v r1 => ?_⟩
  refine ⟨ι1, h1, sd, L.step s1, hr1, Fin.bind q1 fun d2 h2 ι2 H2 e2 s2 hr2 q2 w r2 => ?_⟩
  refine ⟨ι2, h2, d1, d2, r1.step s2, r2, hr2, Fin.bind q2 fun z h3 ι3 H3 e3 s3 hr3 q3 u r3 => ?_⟩
  cases z with
  | bl k =>
    simp only [Rel] at r3
    refine ⟨k, r3, ?_⟩
    have L3' := ((L.step s1).step s2).step s3
    cases k with
    | false => exact iteF (Fin.out hr3 q3 _ (by simp [Rel]))
    | true =>
      refine iteT ⟨ι3, h3, sd, L3', hr3, Fin.bind q3 fun d4 h4 ι4 H4 e4 s4 hr4 q4 w4 r4 => ?_⟩
      exact ⟨ι4, h4, d2, d4, (r2.step s3).step s4, r4, hr4, q4⟩
  | _ => exact False.elim q3
theorem r_chain {op op' : CmpOp} {F F' : D → D → M D} (ho : OpR X (compareOp op) (toR2 X.K E F)) (ho' : OpR X (compareOp op') (toR2 X.K E F')) (ha : SE X E a fa) (hb : SE X E b fb) (hc : SE X E c fc)
    (hm : lastMarks [op, op'] [b, c] = false := by with_unfolding_all rfl) : SE X E (.Compare a [op, op'] [b, c] pos) (cChain F F' fa fb fc) := PE.imp (pe_chain ho ho' ha hb hc hm) te_chain
noncomputable def dAlive : D → M Unit
  | .cel n => do let _ ← cellGet n; pure ()
  | _ => M.bad
noncomputable def dAppend (x y : D) : M D := match x with
  | .cel n => do
    let ds ← cellGet n
    fits (ds.length + 1)
    cellPut n (ds ++ [y])
    pure .non
  | _ => M.bad
noncomputable def cAppend (fo fe : FE) : FE := fun sd => do
  let x ← fo sd
  dAlive x
  let y ← fe sd
  dAppend x y
theorem get_inv {α : Type} {K : W.Frag} {ι : Io} {H : Hp} {h : Hh} {n : Nat} {f : List D → M α} {P : α → Io → Hp → Prop} (q : Fin K E ι H ((cellGet n >>= f) h) P) : ∃ ds, h[n]? = some (.lst ds) ∧ Fin K E ι H (f ds h) P := by
  have q' : Fin K E ι H (M.bind (cellGet n) f h) P := q
  unfold M.bind at q'
  cases z : cellGet n h with
  | bad => rw [z] at q'; exact False.elim q'
  | exc c h' => unfold cellGet at z; split at z <;> cases z
  | ok ds h' =>
    rw [z] at q'
    obtain ⟨rfl, z2⟩ := cellGet_ok z
    exact ⟨ds, z2, q'⟩
theorem r_append (ho : SE X E o fo) (he : SE X E e fe)
    (hbase : attributeBase o "append" X.env (eval o X.env) = eval o X.env := by rfl)
    (hfew : ((backTo cpos (starEach [e] X.env)).all (fun x => !x.1) && (backToKw cpos (keywordEach [] X.env)).all (fun x => x.1.isSome)
      && decide (([e] : List Expr).length + ([] : List Keyword).length + (if ([] : List Keyword).isEmpty then 0 else 1) < 30)) = true := by rfl)
    (hline : (apos.endLine == cpos.line) = true := by rfl) (hs : starEach [e] X.env = (false, eval e X.env) :: starEach [] X.env := by rfl) (hplain : (backTo cpos (starEach [] X.env)).any (·.1) = false := by rfl) :
    SE X E (.Call (.Attribute o "append" apos) [e] [] cpos) (cAppend fo fe) := by
  refine PE.imp (pe_bm PySem.F.plainAttrs_list PySem.F.slot_list_append PySem.F.type_list_append mt_append ho (pa_cons he pa_nil hs) hbase hfew hline hs hplain) fun σ H Q ⟨ι, h, sd, L, hh, q⟩ => ⟨ι, h, sd, L, hh, Fin.bind q fun d h1 ι1 H1 e1 s1 hr1 q1 v rv => ?_⟩
  cases d with
  | cel n =>
    have q2 : Fin X.K E ι1 H1 ((cellGet n >>= fun _ => fe sd >>= fun y => dAppend (.cel n) y) h1) (fun d ι' H' => ∀ v, Rel X.K ι' H' d v → Q v H') := by
      have ee : (dAlive (.cel n) >>= fun _ => fe sd >>= fun y => dAppend (.cel n) y : M D) = (cellGet n >>= fun _ => fe sd >>= fun y => dAppend (.cel n) y) := by
        show ((cellGet n >>= fun _ => pure ()) >>= fun _ => fe sd >>= fun y => dAppend (.cel n) y) = _
        simp only [bind_assoc, pure_bind]
      rw [← ee]
      exact q1
    obtain ⟨ds, e2, q3⟩ := get_inv q2
    obtain ⟨a, vs, rfl, hn, hH, rl⟩ := hr1.read rv e2
    refine ⟨.inl ⟨rfl, vs, SqL.of hH⟩, ι1, h1, sd, L.step s1, hr1, Fin.bind q3 fun y h3 ι3 H3 e3 s3 hr3 q4 w rw' => ?_⟩
    have rv3 := rv.step s3
    have q5 : Fin X.K E ι3 H3 ((cellGet n >>= fun ds => fits (ds.length + 1) >>= fun _ => cellPut n (ds ++ [y]) >>= fun _ => pure D.non) h3) (fun d ι' H' => ∀ v, Rel X.K ι' H' d v → Q v H') := q4
    obtain ⟨ds3, e4, q6⟩ := get_inv q5
    obtain ⟨a3, vs3, ea, hn3, hH3, rl3⟩ := hr3.read rv3 e4
    cases ea
    obtain ⟨z, q7⟩ := Fin.fits q6
    refine ⟨a, vs3, w, rfl, rfl, hH3, by rw [← rl3.length]; omega, ?_⟩
    have q8 : Fin X.K E ι3 H3 (R.ok D.non (h3.set n (.lst (ds3 ++ [y])))) (fun d ι' H' => ∀ v, Rel X.K ι' H' d v → Q v H') := q7
    exact q8 ι3 _ (hr3.cellS hn3) (hr3.cell hn3 (rl3.append (RelL.cons rw' RelL.nil))) _ (by simp [Rel])
  | _ => exact False.elim q1
end
end L3
end
section
set_option maxHeartbeats 8000000
namespace Att
open PySem PySem.W PySem.Calls PyProof.Rows
theorem weight_all : ∀ {ns : List Int} {i : Int}, i ∈ ns → Builtin.Int.intBits i ≤ WData.weightAll (ns.map WData.int)
  | n :: r, i, h => by
    rw [List.map_cons, WData.weightAll]
    rcases List.mem_cons.mp h with e | e
    · subst e
      have : WData.weight (.int i) = Builtin.Int.intBits i := by simp only [WData.weight, Builtin.Int.intBits]
      omega
    · have := weight_all e
      omega
theorem bits_of {ns : List Int} (h : WData.layableAll [WData.list (ns.map WData.int)] = true) : ∀ i ∈ ns, Builtin.Int.intBits i ≤ 2 ^ 20 := by
  intro i hi
  have h2 : WData.weight (WData.list (ns.map WData.int)) ≤ 2 ^ 20 := by
    simp only [WData.layableAll, List.all_cons, List.all_nil, Bool.and_true, WData.layable, Bool.and_eq_true, decide_eq_true_eq] at h
    exact h.2
  have h3 : WData.weight (WData.list (ns.map WData.int)) = WData.weightAll (ns.map WData.int) := by simp only [WData.weight]
  have := weight_all hi
  omega
theorem attach_callB {l : OpenLaw} {n : Nat} {q : Program} {loose : List Str} {XP : (Str → Option Value) → Heap → Prop} {YP : World → Heap → Prop} {d : DefRec}
    (hn : l.most = some n) (hdf : d.params.defaults = [])
    (call : ∀ (w : World) (s₀ s₁ : Shared) (mg mb : Str → Option Value) (fa : Addr) (o : Obj) (pm cd doc : Value) (a : Addr) (vs : List Value) (ns : List Int),
      Ground q loose [] XP w s₀ mg mb s₁.heap → YP w s₁.heap →
      s₁.heap.get? fa = some o → o.data = .func (docDef d.name d.params d.body d.scope pm cd doc) → s₁.heap.CodeRec cd d.name → mg d.name = some (.ref fa) →
      s₁.heap.get? a = some { cls := .type "list", data := .seq vs.toArray } → IntsAre vs ns → ns.length ≤ n → (∀ i ∈ ns, Builtin.Int.intBits i ≤ 2 ^ 20) → s₁.gens = #[] →
      codeAny (model l.prog w) callerA (.call (.ref fa) ⟨[.ref a], []⟩) (fun r s' => r = .ok (.ret (.bool true)) ∧ OldK s₁.heap s'.heap ∧ s'.os = s₁.os ∧ AllBare s'.gens) s₁) :
    WalkO q loose XP YP l.row.toRowW d [] (fun f vs => PySem.call f vs) := by
  intro w s₀ s₁ mg mb G Y fa o pm cd doc dV kV ho hd hcd hD hmg hg args vals as hpre hlay hrd hwl hlo
  obtain rfl : dV = .none := Dflts.none hD hdf
  obtain rfl : kV = .none := Dflts.noKw hD
  obtain ⟨a, vs, ns, rfl, rfl, hobj, hints, hlen⟩ := script_of hn hpre hwl
  refine enter_call (codeAny_mono (call w s₀ s₁ mg mb fa o pm cd doc a vs ns G Y ho (fd_plain hd) hcd hmg hobj hints hlen (bits_of hlay) hg) fun r s' hq => ?_)
  obtain ⟨rfl, h2, h3, h4⟩ := hq
  exact ⟨.inl ⟨.bool true, .bool true, [], rfl, fun _ => rfl, .bool true, post_true l _, fun _ => ⟨List.Pairwise.nil, fun _ hm => (nomatch hm)⟩⟩, h2, h3, h4⟩
end Att
namespace L2
open PySem PySem.Spec PyProof.Rows
theorem walk_ofB {l : W.OpenLaw} {n k : Nat} {q : Program} {loose : List Str} {XP : (Str → Option Value) → Heap → Prop} {YP : World → Heap → Prop} {d : DefRec} {K : Params → W.Frag} {CX : World → CXT} {sp : World → Sp} {x : Str}
    (hn : l.most = some n) (hn2 : n ≤ sizeLine) (hdf : d.params.defaults = []) (hr : Room k callerA)
    (hY : ∀ (w : World) (h : Heap), YP w h → (K w.params).In h)
    (F : ∀ (w : World) (mg : Str → Option Value) (fa : Addr) (h : Heap), (K w.params).In h → h.Ns mainGlobals mg → mg d.name = some (.ref fa) →
      ∃ fd : FuncData, (∀ (s : Shared) (u : Value), BindsTo s fd ⟨[u], []⟩ [(x, u)]) ∧
        ∀ base : Heap, (K w.params).In base → base.Ns mainGlobals mg → FnOk l.prog w (K w.params) mg base (CX w) k fa fd [x] (sp w))
    (hsp : ∀ (w : World) (H : Hp) (a : Addr) (ns : List Int), ns.length ≤ n → (∀ i ∈ ns, Builtin.Int.intBits i ≤ 2 ^ 20) → SqL (K w.params) H a (ns.map V.int) → sp w [.ref a] H (fun v _ => v = .bl true) fun _ _ _ => False)
    (hCX : ∀ (w : World) (H : Hp) (s : Shared) (e : Value) (s' : Shared), CX w [] H s (fun _ _ _ => False) e s' → False) :
    W.WalkO q loose XP YP l.row.toRowW d [] (fun f vs => PySem.call f vs) := by
  refine Att.attach_callB hn hdf fun w s₀ s₁ mg mb fa o pm cd doc a vs ns G Y ho hd hcd hmg hobj hints hlen hbits hg => ?_
  have KX := hY w _ Y
  obtain ⟨fd, hb, hF⟩ := F w mg fa _ KX G.T.g hmg
  exact law_call KX G.T.g G.T.b G.T.builtins G.T.nolimit hg hobj hints (Nat.le_trans hlen hn2) hr hF hb (fun H hO hS => hsp w H a ns hlen hbits hS) fun H e s' => hCX w H s₁ e s'
end L2
namespace L3
open PySem PySem.Spec PyProof.Rows L2 LT
section
variable {X : Cx} {E : XE}
noncomputable def mulOk (i j : Int) : Bool := decide (Builtin.Int.intBits i + Builtin.Int.intBits j ≤ 2 ^ 26)
theorem mulOk_iff {i j : Int} (h : mulOk i j = true) : IntMulOk i j := by
  unfold mulOk at h
  rw [decide_eq_true_eq] at h
  unfold IntMulOk
  intro z
  rw [Bool.and_eq_true] at z
  have z2 := z.2
  unfold Builtin.Int.intTooBig at z2
  have hb : bitsLine = 2 ^ 27 := rfl
  rw [decide_eq_true_eq, hb] at z2
  omega
theorem op_mulB : OpR X (binaryOp .Mult) (rI (fun i j => IntMulOk i j) fun i j => .int (i * j)) := opI fun _ _ _ _ _ _ _ hc q => mul_int q hc
noncomputable def dMulW := dII (fun i j => small64 i || small64 j || mulOk i j) fun i j => .int (i * j)
theorem op_mulW : OpR X (binaryOp .Mult) (toR2 X.K E dMulW) := op_II (op_mulB) (fun i j h => by
  rw [Bool.or_eq_true] at h
  rcases h with h | h
  · rcases (Bool.or_eq_true _ _).mp h with z | z
    · have := small64_iff z
      exact IntMulOk.of_left (intBits_le_64 this.1 this.2)
    · have := small64_iff z
      exact IntMulOk.of_right (intBits_le_64 this.1 this.2)
  · exact mulOk_iff h) fun _ _ _ _ => by simp [Rel]
end
end L3
end
section
set_option maxHeartbeats 8000000
namespace PySem
open Sem (wp)
open AutoSeq1 (wpAny_loadPart')
section
variable {prog : Program} {w : World} {A : Around} {E : Value → Shared → Prop} {s : Shared}
end
end PySem
end
section
set_option maxHeartbeats 8000000
namespace L2
open PySem PySem.Spec PyProof.Rows LT
section
variable {X : Cx}
end
end L2
namespace L3
open PySem PySem.Spec PyProof.Rows L2 LT
section
variable {X : Cx} {E : XE} {e : Expr} {f : FE}
end
end L3
end
section
set_option maxHeartbeats 4000000
namespace L3
open PySem PySem.Spec PyProof.Rows L2 LT
@[simp] theorem e_var0 {d : D} {r : Sd} : dVar 0 (some d :: r) = pure d := rfl
@[simp] theorem e_varS {n : Nat} {x : Option D} {r : Sd} : dVar (n + 1) (x :: r) = dVar n r := rfl
noncomputable def pRise (m : Int) : Int → List D → Bool
  | _, [] => true
  | l, .int i :: r => decide (l ≤ i) && decide (i < m) && pRise m (i + 1) r
  | _, _ :: _ => false
theorem rise_ints {m : Int} : ∀ {xs : List Int} {l : Int}, pRise m l (xs.map D.int) = true ↔ xs.Pairwise (· < ·) ∧ ∀ x ∈ xs, l ≤ x ∧ x < m
  | [], l => by simp [pRise]
  | x :: r, l => by
    rw [List.map_cons, pRise, Bool.and_eq_true, Bool.and_eq_true, rise_ints (xs := r) (l := x + 1), List.pairwise_cons]
    simp only [decide_eq_true_eq, List.mem_cons, forall_eq_or_imp]
    constructor
    · rintro ⟨⟨h1, h2⟩, h3, h4⟩
      refine ⟨⟨fun y hy => ?_, h3⟩, ⟨h1, h2⟩, fun y hy => ?_⟩
      · have := (h4 y hy).1; omega
      · have := h4 y hy; omega
    · rintro ⟨⟨h1, h2⟩, ⟨h3, h4⟩, h5⟩
      refine ⟨⟨h3, h4⟩, h2, fun y hy => ?_⟩
      have a1 := h1 y hy
      have a2 := h5 y hy
      omega
theorem setI_self {xs : List Int} (h : xs.Pairwise (· < ·)) : setI xs = xs := by
  have hn : xs.Nodup := h.imp fun z => by omega
  have hp : List.Perm (xs.foldl step_dedup []) xs := by
    refine (List.perm_ext_iff_of_nodup (dedup_nodup xs [] List.nodup_nil) hn).mpr fun k => dedup_mem
  unfold setI
  exact (sortI_eq hp.symm (h.imp fun z => by omega)).symm
theorem rise_len {m : Int} : ∀ {ts : List D} {l : Int}, pRise m l ts = true → l ≤ m → (ts.length : Int) ≤ m - l
  | [], l, _, h => by simp; omega
  | d :: r, l, h, hl => by
    cases d <;> first
      | (simp [pRise] at h; done)
      | (rename_i i
         rw [pRise, Bool.and_eq_true, Bool.and_eq_true, decide_eq_true_eq, decide_eq_true_eq] at h
         have := rise_len h.2 (by omega)
         simp
         omega)
end L3
namespace L3
open PySem PySem.Spec PyProof.Rows L2 LT
noncomputable def Bx (b : Nat) (h : Hh) : Prop := ∃ z : Int, h[b]? = some (.lst [.int z])
noncomputable def Ext (b : Nat) (h h' : Hh) : Prop := Bx b h' ∧ ∀ (n : Nat) (c : C), n ≠ b → h[n]? = some c → h'[n]? = some c
theorem Ext.refl {b : Nat} {h : Hh} (q : Bx b h) : Ext b h h := ⟨q, fun _ _ _ e => e⟩
theorem Ext.trans {b : Nat} {h h1 h2 : Hh} (p : Ext b h h1) (q : Ext b h1 h2) : Ext b h h2 := ⟨q.1, fun n c hn e => q.2 n c hn (p.2 n c hn e)⟩
theorem Bx.set {b : Nat} {h : Hh} {z : Int} (q : Bx b h) : Ext b h (h.set b (.lst [.int z])) := by
  obtain ⟨y, e⟩ := q
  have hl := (List.getElem?_eq_some_iff.mp e).1
  exact ⟨⟨z, List.getElem?_set_self hl⟩, fun n c hn e => by rw [List.getElem?_set_ne (Ne.symm hn)]; exact e⟩
theorem Bx.push {b : Nat} {h : Hh} {c : C} (q : Bx b h) : Ext b h (h ++ [c]) := by
  obtain ⟨y, e⟩ := q
  have hl := (List.getElem?_eq_some_iff.mp e).1
  refine ⟨⟨y, by rw [List.getElem?_append_left hl]; exact e⟩, fun n c' hn e => ?_⟩
  rw [List.getElem?_append_left (List.getElem?_eq_some_iff.mp e).1]
  exact e
theorem dRng_ok {j : Int} (h0 : 0 ≤ j) (h : j < 1000) : dRng1 [.int j] = pure (rngD 0 j.toNat) := by
  show (if small62 j = true then _ else _) = _
  rw [if_pos (by unfold small62; simp; omega)]
theorem rng_mem {n : Nat} {d : D} (h : d ∈ rngD 0 n) : ∃ i : Int, d = .int i ∧ 0 ≤ i ∧ i < n := by
  unfold rngD at h
  obtain ⟨k, hk, e⟩ := List.mem_map.mp h
  have := List.mem_range.mp hk
  exact ⟨0 + (k : Int), e.symm, by omega, by omega⟩
theorem rng_len {n : Nat} : (rngD 0 n).length = n := by unfold rngD; simp
theorem rng_ints (n : Nat) : rngD 0 n = ((List.range n).map fun (k : Nat) => (k : Int)).map D.int := by unfold rngD; simp
theorem wp_ite {α : Type} {c : Prop} [Decidable c] {a b : M α} {h : Hh} {P : α → Hh → Prop} : wp (if c then a else b) h P ↔ if c then wp a h P else wp b h P := by split <;> exact Iff.rfl
theorem dShl_ok {m : Int} (h0 : 0 ≤ m) (h : m ≤ 1000) : dShl (.int 1) (.int m) = pure (.int (1 * 2 ^ m.toNat)) := by
  show (if cPow 1 m = true then _ else _) = _
  rw [if_pos (by unfold cPow; simp; omega)]
theorem dShr_ok {i m : Int} (h0 : 0 ≤ m) : dShr (.int i) (.int m) = pure (.int (i / 2 ^ m.toNat)) := by
  show (if decide (0 ≤ m) = true then _ else _) = _
  rw [if_pos (by simpa using h0)]
end L3
namespace L3
open PySem PySem.Spec PyProof.Rows L2 LT
end L3
namespace L3
open PySem PySem.Spec PyProof.Rows L2 LT
end L3
end
section
set_option maxHeartbeats 4000000
namespace L2
open PySem PySem.Spec PyProof.Rows L3
theorem ObjOk.there {P : Program} {w : World} {H : Hp} {h : Heap} {a : Addr} {o : HO} (x : ObjOk P w H h a o) : ∃ ob, h.get? a = some ob := by
  cases o with
  | lst xs => obtain ⟨_, _, _, _, e⟩ := x; exact ⟨_, e⟩
  | tup xs => obtain ⟨_, _, _, ob, e, _⟩ := x; exact ⟨ob, e⟩
  | dK kvs => obtain ⟨_, _, _, _, ob, _, _, e, _⟩ := x; exact ⟨ob, e⟩
  | dT kvs => obtain ⟨_, _, _, _, ob, _, _, e, _⟩ := x; exact ⟨ob, e⟩
  | set S n => obtain ⟨ob, _, _, _, e, _⟩ := x; exact ⟨ob, e⟩
  | ins C dx fs => obtain ⟨_, _, _, e, _⟩ := x; exact ⟨_, e⟩
  | own y => exact x
  | xd fs => obtain ⟨_, ⟨ob, _, _, e, _⟩, _⟩ := x; exact ⟨ob, e⟩
  | rng lo hi => obtain ⟨_, _, _, e⟩ := x; exact ⟨_, e⟩
  | frz ob u => exact ⟨ob, x.1⟩
  | tbl ps => exact ⟨_, x⟩
  | met f y => exact ⟨_, x⟩
  | ext φ => exact x.2.1
structure HS (H H' : Hp) (h : Heap) : Prop where
  free : ∀ b o, h.get? b = some o → H b = none → H' b = none
  tups : ∀ b xs, H b = some (.tup xs) → H' b = some (.tup xs)
  frzs : ∀ b o u, H b = some (.frz o u) → H' b = some (.frz o u)
  tbls : ∀ b ps, H b = some (.tbl ps) → ∃ more, H' b = some (.tbl (ps ++ more))
structure FlB (P : Program) (w : World) (l : List Env) (H : Hp) (h : Heap) (H' : Hp) (B : Heap) : Prop where
  old : ∀ b o, h.get? b = some o → b ∉ frs l → ∃ o', B.get? b = some o' ∧ (H b = none → o' = o)
  trk : ∀ b u, H' b = some u → ∃ o, B.get? b = some o
  ok : HOk P w H' B
structure Fl (P : Program) (w : World) (l : List Env) (H : Hp) (s : Shared) (a C : Addr) (fl : Value) (H' : Hp) (s' : Shared) : Prop where
  os : s'.os = s.os
  bare : AllBare s'.gens
  base : ∃ B : Heap, Fly B l a (.ref C) fl s'.heap ∧ FlB P w l H s.heap H' B
  slot : ∀ b o, s.heap.get? b = some o → H b = none → b ∈ frs l → ∃ sl, s'.heap.get? b = some { o with slots := sl }
  hs : HS H H' s.heap
section
variable {P : Program} {w : World} {l : List Env} {H H' : Hp} {s s' : Shared} {a C : Addr} {fl : Value}
theorem Fl.un (y : Fl P w l H s a C fl H' s') : Un (frs l) [] H H' s.heap s'.heap := by
  obtain ⟨B, y1, y2⟩ := y.base
  refine ⟨fun b o e n hb _ => ?_, fun b o e n hb _ => y.slot b o e n hb, fun b o e n _ => y.hs.free b o e n, fun b o e _ => ?_, y.hs.tups, y.hs.frzs, y.hs.tbls⟩
  · obtain ⟨o', e', q⟩ := y2.old b o e hb
    rw [← q n]
    exact y1.stays b o' e'
  · by_cases hb : b ∈ frs l
    · obtain ⟨_, o', e', _⟩ := y1.frames.mem hb
      exact ⟨o', e'⟩
    · obtain ⟨o', e', _⟩ := y2.old b o e hb
      exact ⟨o', y1.stays b o' e'⟩
theorem Fl.hok (y : Fl P w l H s a C fl H' s') : HOk P w H' s'.heap := by
  obtain ⟨B, y1, y2⟩ := y.base
  exact y2.ok.kept y1.stays
theorem Fl.exc (y : Fl P w l H s a C fl H' s') : ∃ head, ExcO s'.heap a (.ref C) head := by
  obtain ⟨B, y1, y2⟩ := y.base
  obtain ⟨hd, z, _⟩ := y1.exc
  exact ⟨hd, z⟩
theorem Fl.fresh (y : Fl P w l H s a C fl H' s') : s.heap.get? a = none ∧ H' a = none ∧ a ∉ frs l := by
  obtain ⟨B, y1, y2⟩ := y.base
  have nf : a ∉ frs l := fun z => by
    obtain ⟨_, o, e, n⟩ := y1.frames.mem z
    obtain ⟨_, ⟨ob, vs, e2, _, _, d, _⟩, _⟩ := y1.exc
    rw [e] at e2
    cases e2
    exact n vs d
  refine ⟨?_, ?_, nf⟩
  · cases q : s.heap.get? a with
    | none => rfl
    | some o =>
      obtain ⟨o', e, _⟩ := y2.old a o q nf
      rw [y1.new] at e
      cases e
  · cases q : H' a with
    | none => rfl
    | some u =>
      obtain ⟨o', e⟩ := y2.trk a u q
      rw [y1.new] at e
      cases e
theorem Fl.mv {B h' : Heap} {fl' : Value} (os : s'.os = s.os) (bare : AllBare s'.gens) (slot : ∀ b o, s.heap.get? b = some o → H b = none → b ∈ frs l → ∃ sl, s'.heap.get? b = some { o with slots := sl }) (hs : HS H H' s.heap)
    (fr : s'.heap.FunFrames B l) (z : Fly B l a (.ref C) fl' h') (y : FlB P w l H s.heap H' B) (u : s'.heap.UpToSlots h') : Fl P w l H s a C fl' H' { s' with heap := h' } := by
  refine ⟨os, bare, ⟨B, z, y⟩, fun b o e n hb => ?_, hs⟩
  obtain ⟨sl, e2⟩ := slot b o e n hb
  obtain ⟨_, o2, e3, n3⟩ := fr.mem hb
  rw [e2] at e3
  cases e3
  obtain ⟨sl', e4⟩ := u b _ e2 n3
  exact ⟨sl', e4⟩
section
variable {M : Model} {A : Around} {E : Value → Shared → Prop} {env : Env} {outer : List Env} {L : Addr} {Q : Unit → Shared → Prop}
theorem Fl.off (y : Fl P w l H s a C fl H' s') (k : ∀ h', Fl P w l H s a C .none H' { s' with heap := h' } → Q () { s' with heap := h' }) : wpAny M A (setFlight (.ref a) none) Q E s' := by
  obtain ⟨B, y1, y2⟩ := y.base
  exact flight_off y1 fun h' z u => k h' (Fl.mv y.os y.bare y.slot y.hs y1.frames z y2 fun b o e n => ⟨o.slots, u b o e n⟩)
end
end
structure OwnFr (X : Cx) : Prop where
  stk : X.stack = X.env :: X.outer
  frm : X.env.frame = some X.env.locals
  ex : X.ex = []
theorem OwnFr.frs {X : Cx} (z : OwnFr X) : frs X.stack = X.env.locals :: frs X.outer := by
  rw [z.stk]
  unfold L2.frs
  rw [List.filterMap_cons, z.frm]
section
variable {X : Cx} {pins : List (Addr × Obj)} {σ : St} {H H' : Hp} {s s' : Shared} {a C : Addr} {M : Model} {E : Value → Shared → Prop} {Q : Unit → Shared → Prop}
theorem Inv.below (I : Inv X pins σ H s) {b : Addr} {o : Obj} (e : X.s₀.heap.get? b = some o) : b ≠ X.env.locals := Nat.ne_of_lt (Nat.lt_of_lt_of_le (Heap.lt_size e) I.ok.above)
theorem Fl.made {h' : Heap} {vs : List Value} (z : OwnFr X) (I : Inv X pins σ H s) (m : Heap.MadeExcOf s.heap h' a (.ref C) vs) (k : ∀ s2, Fl X.prog X.w X.outer X.H₀ X.s₀ a C .none H s2 → Q () s2) : wpAny M X.A (leaving X.env (.ref a)) Q E { s with heap := h' } := by
  have nex : ∀ b, b ∉ X.ex := fun b h => by rw [z.ex] at h; cases h
  have hfr := I.ok.frames
  have hl := I.stack
  have hin : ∀ env ∈ X.stack, ∀ b, env.frame = some b → b ∈ frs X.stack := fun env he b hb => List.mem_filterMap.mpr ⟨env, he, hb⟩
  have hl2 := W.funFrames_hide hl hin
  have hl3 : h'.FunFrames (W.hideAll s.heap (frs X.stack)) X.stack := hl2.of_keeps fun b o e _ => ⟨o, m.keeps b o e, rfl⟩
  have inB : ∀ {b : Addr} {o : Obj}, s.heap.get? b = some o → b ∉ frs X.stack → (W.hideAll s.heap (frs X.stack)).get? b = some o := fun e n => W.hideAll_get _ e n
  have ofB : ∀ {b : Addr} {o : Obj}, (W.hideAll s.heap (frs X.stack)).get? b = some o → s.heap.get? b = some o := fun e => W.of_hideAll _ e
  have trk : ∀ b u, H b = some u → b ∉ frs X.stack := fun b u e hm => by rw [I.stkFree b hm] at e; cases e
  have newB : (W.hideAll s.heap (frs X.stack)).get? a = none := by
    cases q : (W.hideAll s.heap (frs X.stack)).get? a with
    | none => rfl
    | some o => have := ofB q; rw [m.new] at this; cases this
  have hst := z.stk
  refine leave_first (B := W.hideAll s.heap (frs X.stack)) (by rw [← hst]; exact hfr) (by rw [← hst]; exact hl3) z.frm (exc_made m) (fun b o e => m.keeps b o (ofB e)) newB fun h2 q u => k _ ?_
  have nin : ∀ b o, X.s₀.heap.get? b = some o → b ∉ frs X.outer → b ∉ frs X.stack := fun b o e hb hm => by
    rw [z.frs] at hm
    rcases List.mem_cons.mp hm with r | r
    · exact I.below e r
    · exact hb r
  refine ⟨I.os, I.bare, ⟨_, q, fun b o e hb => ?_, fun b v e => ?_, fun b v e => ?_⟩, fun b o e n hb => ?_, fun b o e n => I.base.free b o e n (nex b), I.base.tups, I.base.frzs, I.base.tbls⟩
  · obtain ⟨o1, e1⟩ := I.base.there b o e (nex b)
    refine ⟨o1, inB e1 (nin b o e hb), fun n => ?_⟩
    have e3 := I.base.keep b o e n hb (nex b)
    rw [e1] at e3
    cases e3
    rfl
  · obtain ⟨o, e1⟩ := (I.hok b v e).there
    exact ⟨o, inB e1 (trk b v e)⟩
  · refine (I.hok b v e).stay (fun c o hc e1 => inB e1 ?_) (fun _ r => r) fun _ _ r => r
    rcases hc with rfl | hc
    · exact trk _ v e
    · exact trk _ _ hc
  · obtain ⟨sl, e1⟩ := I.base.slot b o e n hb (nex b)
    have hb2 : b ∈ frs X.stack := by rw [z.frs]; exact List.mem_cons_of_mem _ hb
    obtain ⟨_, o3, e3, n3⟩ := hl.mem hb2
    rw [e1] at e3
    cases e3
    obtain ⟨sl4, e4⟩ := u b _ (m.keeps b _ e1) n3
    exact ⟨sl4, e4⟩
end
noncomputable def CXE (P : Program) (w : World) : CXT := fun outer H s E e s' => ∃ a C H', e = .ref a ∧ Fl P w outer H s a C .none H' s' ∧ E e (some C) H'
end L2
namespace L3
open PySem PySem.Spec PyProof.Rows L2
noncomputable def clsAt (K : W.Frag) (c : String) (C : Addr) : Prop := W.nsIn K mainGlobals (c : Str) = some (some (.ref C))
noncomputable def xeOf (K : W.Frag) (E : XK) : XE := fun c H' => ∀ C v, clsAt K c C → E v (some C) H'
section
variable {P : Program} {w : World} {K : W.Frag} {mg : Str → Option Value} {base : Heap} {N : List Str} {qual : Str} {scope : Scope} {f : Addr} {cd : Value} {A : Around} {outer : List Env} {s : Shared} {H : Hp} {E : XK}
end
noncomputable def noX {α : Type} (m : M α) : M α := fun h => match m h with
  | .exc _ _ => .bad
  | r => r
theorem Fin.noX {α : Type} {K : W.Frag} {E E' : XE} {ι : Io} {H : Hp} {m : M α} {h : Hh} {P : α → Io → Hp → Prop} (q : Fin K E ι H (L3.noX m h) P) : Fin K E' ι H (m h) P := by
  unfold L3.noX at q
  cases e : m h with
  | ok a h' => rw [e] at q; exact q
  | exc c h' => rw [e] at q; exact False.elim q
  | bad => rw [e] at q; exact q
noncomputable def spE (K : W.Frag) (n : Nat) (F : List D → M D) : Sp := fun vs H Q E => vs.length = n ∧ ∃ ι h ds, RelL K ι H ds vs ∧ HRel K ι H h ∧ Fin K (xeOf K E) ι H (F ds h) fun d ι' H' => ∀ v, Rel K ι' H' d v → Q v H'
section
variable {P : Program} {w : World} {K : W.Frag} {mg : Str → Option Value} {base : Heap}
end
section
variable {X : Cx} {E : XE} {e : Expr} {es : List Expr} {pos p : Pos}
end
end L3
end
section
set_option maxHeartbeats 4000000
namespace L2
open PySem PySem.Spec PyProof.Rows L3
structure RoomH (k : Nat) (A : Around) : Prop where
  dp : A.depth + 3 * k + 5 < recursionLimit
  un : A.units + 16 * k + 200 < cLine
theorem RoomH.of {k : Nat} {A : Around} (r : Room k A) : RoomH k A := ⟨r.dp, r.un⟩
theorem RoomH.deeper {k : Nat} {A : Around} (r : RoomH (k + 1) A) (env : Env) : RoomH k (A.deeper env) :=
  ⟨by have := r.dp; show A.depth + 1 + 3 * k + 5 < _; omega, by have := r.un; show A.units + 3 + 16 * k + 200 < _; omega⟩
theorem RoomH.mono {j k : Nat} {A : Around} (r : RoomH k A) (h : j ≤ k) : RoomH j A := ⟨by have := r.dp; omega, by have := r.un; omega⟩
structure FnH (P : Program) (w : World) (K : W.Frag) (mg : Str → Option Value) (base : Heap) (k : Nat) (f : Addr) (fd : FuncData) (ps : List Str) (sp : Sp) : Prop where
  len : ∀ vs H Q E, sp vs H Q E → vs.length = ps.length
  run : ∀ (A : Around) (outer : List Env) (s : Shared) (H : Hp) (args : Args) (us : List Value) (vs : List V) (Q : VK), RoomH k A → Env0 P w K mg base A outer s H → BindsTo s fd args (ps.zip us) → Vals vs us → sp vs H Q E0 →
    codeAny (model P w) A (.call (.ref f) args) (CR CX0 outer P w H s Q E0) s
section
variable {X : Cx} {pins : List (Addr × Obj)} {σ : St} {H H' : Hp} {s s' : Shared} {a : Addr} {o : Obj}
end
section
variable {X : Cx} {pins : List (Addr × Obj)} {σ : St} {H H' : Hp} {s s' : Shared} {a C CE : Addr} {ce en : Str} {pce pos : Pos} {b₀ : Stmt} {suite : List Stmt} {j : Nat} {Q : Flow → Shared → Prop} {E : Value → Shared → Prop}
end
end L2
end
section
set_option maxHeartbeats 4000000
namespace L2
open PySem PySem.Spec PyProof.Rows L3
noncomputable abbrev veTail : List Value := [.type "ValueError", .type "Exception", .type "BaseException", .type "object"]
section
variable {X : Cx} {pins pins' : List (Addr × Obj)} {σ : St} {H H' : Hp} {s s' : Shared} {xe : Value → Shared → Prop}
end
end L2
namespace L3
open PySem PySem.Spec PyProof.Rows L2
section
variable {X : Cx} {pins : List (Addr × Obj)} {σ : L2.St} {H : Hp} {s : Shared} {a C : Addr} {o : Obj} {vs : Array Value} {head : Value} {c : String} {gk en pe : Str} {p1 p2 p3 : Pos} {j k : Nat} {fk : Addr} {fdk : FuncData} {Fk : List D → M D} {Qv : VK} {ι : Io} {h : Hh}
end
section
variable {X : Cx} {E : XE} {body : List Stmt} {ce en gk pe x : Str} {pce p1 p2 p3 p4 p5 hp pos : Pos} {CE fk : Addr} {fdk : FuncData} {Fk : List D → M D} {gb : FS} {j k i : Nat} {known : List String}
noncomputable def sRaise (c : String) : FS := fun _ h => .exc c h
end
end L3
end
section
set_option maxHeartbeats 4000000
namespace L3
open PySem PySem.W
section
variable {prog : Program} {w : World} {A : Around} {E : Value → Shared → Prop} {s : Shared} {K : Frag} {x D : Addr} {ox : Obj}
end
end L3
end
section
set_option maxHeartbeats 4000000
namespace L3
open PySem PySem.Spec PyProof.Rows L2
noncomputable def kxb (K : W.Frag) (C : Addr) : Bool := (W.clsIn K C).isSome && W.findIn K (.ref C) "__getattribute__" == some (some (.builtin "BaseException.__getattribute__")) && W.findIn K (.ref C) "__getattr__" == some none && W.findIn K (.ref C) "__class__" == some (some (.builtin "object.__class__"))
  && W.specialIn K (.builtin "object.__class__") "__get__" == some (some (.builtin "getset_descriptor.__get__")) && W.takesIn K (.builtin "object.__class__") == some true && W.mroIn K C (.type "object") == some true && W.mroIn K C (.type "BaseException") == some true
structure ClsOk (K : W.Frag) (CE : Addr) (names : List String) (c : String) (C : Addr) : Prop where
  exc : W.excIn K C veTail "ValueError.__new__" = true
  cov : W.exmOne K (.ref C) (.ref CE) = some true
  kx : kxb K C = true
  ve : W.kitOne K (.ref C) (.type "ValueError") = some true
  one : ∀ c' ∈ names, ∀ C', clsAt K c' C' → W.kitOne K (.ref C) (.ref C') = some (c == c')
noncomputable def ExcT (K : W.Frag) (CE : Addr) (names : List String) : Prop := ∀ c ∈ names, ∀ C, clsAt K c C → ClsOk K CE names c C
noncomputable def excTab (K : W.Frag) (CE : Addr) (tab : List (String × Addr)) : Bool := tab.all fun p => W.nsIn K mainGlobals (p.1 : Str) == some (some (.ref p.2)) && W.excIn K p.2 veTail "ValueError.__new__" && W.exmOne K (.ref p.2) (.ref CE) == some true && kxb K p.2 && W.kitOne K (.ref p.2) (.type "ValueError") == some true
  && tab.all fun r => W.kitOne K (.ref p.2) (.ref r.2) == some (p.1 == r.1)
theorem ExcT.of {K : W.Frag} {CE : Addr} {tab : List (String × Addr)} (h : excTab K CE tab = true) : ExcT K CE (tab.map (·.1)) := by
  unfold excTab at h
  rw [List.all_eq_true] at h
  have key : ∀ c ∈ tab.map (·.1), ∀ C, clsAt K c C → (c, C) ∈ tab := fun c hc C hC => by
    obtain ⟨p, hp, rfl⟩ := List.mem_map.mp hc
    have h1 := h p hp
    simp only [Bool.and_eq_true, beq_iff_eq] at h1
    have e := h1.1.1.1.1.1
    unfold clsAt at hC
    rw [hC] at e
    cases e
    exact hp
  intro c hc C hC
  have h1 := h _ (key c hc C hC)
  simp only [Bool.and_eq_true, beq_iff_eq, List.all_eq_true] at h1
  obtain ⟨⟨⟨⟨⟨a1, a2⟩, a3⟩, a4⟩, a5⟩, a6⟩ := h1
  exact ⟨a2, a3, a4, a5, fun c' hc' C' hC' => a6 _ (key c' hc' C' hC')⟩
theorem ExcT.known {K : W.Frag} {CE : Addr} {names : List String} (h : ExcT K CE names) : ∀ c ∈ names, ∀ C, clsAt K c C → W.exmOne K (.ref C) (.ref CE) = some true := fun c hc C hC => (h c hc C hC).cov
section
variable {X : Cx} {E : XE}
variable {a : Expr} {p1 p2 pos : Pos} {fa : FE} {CE CC : Addr} {names : List String}
end
end L3
end
section
set_option maxHeartbeats 4000000
namespace L3
open PySem
section
variable {prog : Program} {w : World} {A : Around} {E : Value → Shared → Prop} {s : Shared}
end
end L3
namespace L2
open PySem PySem.Spec PyProof.Rows L3
section
variable {X : Cx}
end
end L2
end
section
set_option maxHeartbeats 4000000
namespace L3
open PySem PySem.Spec PyProof.Rows L2
noncomputable def cNoX (f : FE) : FE := fun sd => noX (f sd)
noncomputable def sNoX (f : FS) : FS := fun sd => noX (f sd)
section
variable {X : Cx} {E : XE} {a e o : Expr} {es : List Expr} {pos p cpos apos : Pos} {f fo fe fa : FE} {fs : FA} {x : Str}
noncomputable def dExtend (x y : D) : M D := match x, y with
  | .cel n, .tup zs => do
    let ds ← cellGet n
    fits (ds.length + zs.length)
    cellPut n (ds ++ zs)
    pure .non
  | _, _ => M.bad
noncomputable def cExtend (fo fe : FE) : FE := fun sd => do
  let x ← fo sd
  dAlive x
  let y ← fe sd
  dExtend x y
end
end L3
end
section
set_option maxHeartbeats 4000000
namespace L3
open PySem PySem.Spec PyProof.Rows L2
section
variable {P : Program} {w : World} {K : W.Frag} {mg : Str → Option Value} {base : Heap}
end
section
variable {X : Cx} {E : XE} {body : List Stmt} {ce en gk pe x : Str} {pce p1 p2 p3 p4 p5 hp pos : Pos} {CE fk : Addr} {fdk : FuncData} {Fk : List D → M D} {gb : FS} {k : Nat} {known : List String}
end
noncomputable def dPick (Fs : List (List D → M D)) (i : D) : M (List D → M D) := match i with
  | .int j => (match ixN Fs.length j with
    | some m => ofO Fs[m]?
    | none => M.bad)
  | _ => M.bad
noncomputable def cPick (n : Nat) (Fs : List (List D → M D)) (fi : FE) (fs : FA) : FE := fun sd => do
  let i ← fi sd
  let F ← dPick Fs i
  let ds ← fs sd
  callD n F ds
structure Fns (X : Cx) (n : Nat) (addrs : List Addr) (Fs : List (List D → M D)) : Prop where
  len : Fs.length = addrs.length
  ok : ∀ (m : Nat) (F : List D → M D) (a : Addr), Fs[m]? = some F → addrs[m]? = some a → ∃ k fd ps, FnOk X.prog X.w X.K X.mg X.base (CXE X.prog X.w) k a fd ps (spE X.K n F) ∧ Room k X.A ∧ W.keepIn X.K (.ref a) = true ∧ Binds X.K fd ps []
theorem Fns.nil {X : Cx} {n : Nat} : Fns X n [] [] := ⟨rfl, fun m F a h => by simp at h⟩
theorem Fns.cons {X : Cx} {n k : Nat} {a : Addr} {F : List D → M D} {addrs : List Addr} {Fs : List (List D → M D)} {fd : FuncData} {ps : List Str} (G : FnOk X.prog X.w X.K X.mg X.base (CXE X.prog X.w) k a fd ps (spE X.K n F)) (hr : Room k X.A) (hk : W.keepIn X.K (.ref a) = true) (hb : Binds X.K fd ps []) (h : Fns X n addrs Fs) : Fns X n (a :: addrs) (F :: Fs) := by
  refine ⟨by simp [h.len], fun m F' a' h1 h2 => ?_⟩
  cases m with
  | zero => simp at h1 h2; subst h1 h2; exact ⟨k, fd, ps, G, hr, hk, hb⟩
  | succ m => simp at h1 h2; exact h.ok m F' a' h1 h2
section
variable {X : Cx} {E : XE} {e ix : Expr} {es fes : List Expr} {pos p q3 q4 : Pos} {fi : FE} {fs : FA} {x : Str}
end
end L3
end
section
set_option maxHeartbeats 4000000
namespace L2
open PySem PySem.Spec PyProof.Rows
section
variable {X : Cx} {tg : Expr}
end
end L2
namespace L3
open PySem PySem.Spec PyProof.Rows L2
section
variable {X : Cx} {E : XE} {e o : Expr} {f fo fe : FE} {pos apos cpos : Pos}
theorem RelL.eraseIdx {K : W.Frag} {ι : Io} {H : Hp} : ∀ {ds : List D} {vs : List V} (i : Nat), RelL K ι H ds vs → RelL K ι H (ds.eraseIdx i) (vs.eraseIdx i)
  | [], vs, i, h => by
    simp only [RelL] at h
    subst h
    simpa using RelL.nil
  | x :: r, vs, i, h => by
    simp only [RelL] at h
    obtain ⟨v, vs', rfl, rv, rl⟩ := h
    cases i with
    | zero => simpa using rl
    | succ i => exact RelL.cons rv (RelL.eraseIdx i rl)
end
end L3
end
section
set_option maxHeartbeats 4000000
namespace L3
open PySem
open Sem (wp)
open AutoSeq1 (wpAny_loadPart')
section
variable {prog : Program} {w : World} {A : Around} {E : Value → Shared → Prop} {s : Shared}
end
noncomputable def handFp (A : Around) : List Addr := match A.handled with
  | some (.ref a) => [a]
  | _ => []
theorem Hand.keep {A : Around} {h h' : Heap} (x : Hand A h) (k : ∀ b ∈ handFp A, ∀ o, h.get? b = some o → h'.get? b = some o) : Hand A h' := by
  rcases x with x | ⟨a, cls, head, x1, ob, vs, x2, x3⟩
  · exact .inl x
  · exact .inr ⟨a, cls, head, x1, ob, vs, k a (by unfold handFp; rw [x1]; simp) _ x2, x3⟩
end L3
namespace L3
open PySem
section
variable {prog : Program} {w : World} {A : Around} {E : Value → Shared → Prop} {s : Shared}
end
end L3
namespace L2
open PySem PySem.Spec PyProof.Rows
section
variable {X : Cx} {pins : List (Addr × Obj)} {σ : St} {H : Hp} {s : Shared} {h' : Heap}
end
end L2
namespace L2
open PySem PySem.Spec PyProof.Rows
section
variable {X : Cx} {elts : List Expr} {k : Nat} {tpos : Pos}
end
end L2
namespace L3
open PySem PySem.Spec PyProof.Rows L2
section
variable {X : Cx} {E : XE} {elts : List Expr} {k : Nat} {tpos pos : Pos}
end
end L3
end
section
set_option maxHeartbeats 4000000
namespace L3
open PySem PyProof.Rows
noncomputable def pLt (p q : Int × List Int) : Bool := if p.1 = q.1 then HT.lexLt p.2 q.2 else decide (p.1 < q.1)
theorem lex_self : ∀ xs : List Int, HT.lexLt xs xs = false
  | [] => rfl
  | x :: r => by rw [HT.lexLt_cons, if_pos rfl, lex_self r]
section
open PySem.SeqAt
open PySem.AutoSeq1 (wpAny_loadPart')
open PySem.MeetsSeq PySem.MeetsSeq2 PySem.MeetsSeq3
noncomputable def Cmp2 (A : Around) (s : Shared) (a b : Value) (e l : Bool) : Prop := EqAt A s a b e ∧ (e = false → ∀ (prog : Program) (w : World) (E Q : Value → Shared → Prop), Q (.bool l) s → wpAny (model prog w) A (richCompare .Lt a b) Q E s)
theorem tuple_lt_two (l b : Addr) (a0 a1 b0 b1 : Value) (n n2 : Nat) (dd dd2 : Option Addr) (sl sl2 : Array (Option Value)) (e0 l0 e1 l1 : Bool) :
    Meets (Builtin.«tuple.__lt__» ⟨[.ref l, .ref b], []⟩)
      (fun A R s => s.heap.get? l = some { cls := .type "tuple", dict := dd, data := .seq #[a0, a1] n, slots := sl } ∧ s.heap.get? b = some { cls := .type "tuple", dict := dd2, data := .seq #[b0, b1] n2, slots := sl2 } ∧
        Cmp2 A.in1 s a0 b0 e0 l0 ∧ Cmp2 A.in1 s a1 b1 e1 l1 ∧ R (.ok (.ret (.bool (if e0 = true then (if e1 = true then false else l1) else l0)))) s) :=
  .of_wp fun prog w A R s h => by
    obtain ⟨hp, g, d, tk, os⟩ := s; obtain ⟨hl, hb, c0, c1, h⟩ := h
    have f2 := AutoSeq1.sub_tuple_tuple
    wp_walk using wpAny_loadPart' hl, wpAny_loadPart' hb, wpAny_forIn_list _ (fun rest b s' => b.1 = none ∧ s' = ⟨hp, g, d, tk, os⟩ ∧
      (rest = [(a0, b0), (a1, b1)] ∨ (rest = [(a1, b1)] ∧ e0 = true) ∨ (rest = [] ∧ e0 = true ∧ e1 = true))) _
    case turn =>
      rintro ⟨y, x⟩ rest b s' ⟨hb', rfl, hz⟩
      rcases hz with hz | ⟨hz, z0⟩ | ⟨hz, _⟩
      · cases hz
        refine wpAny_bind (c0.1 prog w _ _ ?_)
        cases e0 with
        | true =>
          wp_walk
          exact ⟨rfl, rfl, .inr (.inl ⟨rfl, rfl⟩)⟩
        | false =>
          have hri := c0.2 rfl prog w
          wp_walk using hri
          exact ⟨_, rfl, by simpa using h⟩
      · cases hz
        subst z0
        refine wpAny_bind (c1.1 prog w _ _ ?_)
        cases e1 with
        | true =>
          wp_walk
          exact ⟨rfl, rfl, .inr (.inr ⟨rfl, rfl, rfl⟩)⟩
        | false =>
          have hri := c1.2 rfl prog w
          wp_walk using hri
          exact ⟨_, rfl, by simpa using h⟩
      · cases hz
    case fin =>
      rintro ⟨b1', b2'⟩ s' ⟨hb', rfl, hz⟩
      simp only at hb'
      subst hb'
      rcases hz with hz | ⟨hz, _⟩ | ⟨_, z0, z1⟩
      · cases hz
      · cases hz
      · subst z0 z1
        wp_walk
        exact ⟨_, rfl, by simpa [Builtin.Tuple.tupleCompareSizes] using h⟩
    case h =>
      exact ⟨rfl, rfl, .inl rfl⟩
section
variable {prog : Program} {w : World} {A : Around} {E : Value → Shared → Prop} {s : Shared}
theorem lt_two {l b : Addr} {a0 a1 b0 b1 : Value} {e0 l0 e1 l1 : Bool} {Q : Value → Shared → Prop} (hl : IsTup s.heap l #[a0, a1]) (hb : IsTup s.heap b #[b0, b1]) (c0 : Cmp2 A.in1 s a0 b0 e0 l0) (c1 : Cmp2 A.in1 s a1 b1 e1 l1)
    (hu : A.units < cLine) (h : Q (.bool (if e0 = true then (if e1 = true then false else l1) else l0)) s) : wpAny (model prog w) A (richCompare .Lt (.ref l) (.ref b)) Q E s := by
  obtain ⟨⟨cls, dd, data, sl⟩, ho, hc, n, hd⟩ := id hl
  obtain ⟨⟨cls2, dd2, data2, sl2⟩, ho2, hc2, n2, hd2⟩ := id hb
  simp only at hc hd hc2 hd2
  subst hc hd hc2 hd2
  exact richCompare_meets_room (op := .Lt) ⟨_, ho, rfl⟩ ⟨_, ho2, rfl⟩ PySem.F.slot_tuple_lt PySem.F.entry_tuple_lt (PySem.F.args_tuple_lt_2 _ _) (tuple_lt_two l b a0 a1 b0 b1 n n2 dd dd2 sl sl2 e0 l0 e1 l1)
    ⟨ho, ho2, c0, c1, show Value.bool _ ≠ Value.notImplemented ∧ Q (.bool _) s from ⟨(fun x => nomatch x), h⟩⟩ hu
theorem ints_get : ∀ {xs : List Value} {ns : List Int}, IntsAre xs ns → ∀ (j : Nat) (h : j < xs.length), ∃ (t : Tok) (i : Int), ns[j]? = some i ∧ xs[j] = .int i t
  | _, _, .nil, j, h => by cases h
  | _, _, .cons a t r, 0, _ => ⟨t, a, rfl, rfl⟩
  | _, _, .cons a t r, j + 1, h => by
    obtain ⟨t', i, e1, e2⟩ := ints_get r j (Nat.lt_of_succ_lt_succ h)
    exact ⟨t', i, e1, e2⟩
theorem ints_inj : ∀ {xs : List Value} {ns ms : List Int}, IntsAre xs ns → IntsAre xs ms → ns = ms
  | _, _, _, .nil, h => by cases h; rfl
  | _, _, _, .cons a t r, h => by
    cases h with
    | cons _ _ r' => rw [ints_inj r r']
theorem eqAt_tupI {q r : Addr} {xs ys : List Value} {ns ms : List Int} (hq : IsTup s.heap q xs.toArray) (hr : IsTup s.heap r ys.toArray) (hi : IntsAre xs ns) (hj : IntsAre ys ms) (hu : A.units < cLine) : EqAt A s (.ref q) (.ref r) (ns == ms) := by
  by_cases hqr : q = r
  · subst hqr
    obtain ⟨o, e, _, n, d⟩ := hq
    obtain ⟨o', e', _, n', d'⟩ := hr
    rw [e] at e'
    cases e'
    rw [d] at d'
    injection d' with d' _
    have : xs = ys := by simpa using d'
    subst this
    rw [ints_inj hi hj]
    simpa using EqAt.same (A := A) (s := s) (.ref q)
  · have l1 := hi.length
    have l2 := hj.length
    have hc := RcAt.tuples (A := A) (s := s) (e := fun j => ns[j]? == ms[j]?) hq hr hu fun j h1 h2 => by
      have h1' : j < xs.length := by simpa using h1
      have h2' : j < ys.length := by simpa using h2
      obtain ⟨t, i, e1, e2⟩ := ints_get hi j h1'
      obtain ⟨u, k, e3, e4⟩ := ints_get hj j h2'
      have g1 : xs.toArray[j] = .int i t := by simpa using e2
      have g2 : ys.toArray[j] = .int k u := by simpa using e4
      rw [g1, g2, e1, e3]
      have : (some i == some k) = (i == k) := rfl
      rw [this]
      exact EqAt.int_int i t k u
    have he : ((List.range (min xs.toArray.size ys.toArray.size)).all (fun j => ns[j]? == ms[j]?) && xs.toArray.size == ys.toArray.size) = (ns == ms) := by
      rw [Bool.eq_iff_iff, Bool.and_eq_true, List.all_eq_true, beq_iff_eq, beq_iff_eq]
      simp only [List.size_toArray, beq_iff_eq, List.mem_range]
      constructor
      · rintro ⟨h1, h2⟩
        refine List.ext_getElem? fun j => ?_
        by_cases hjl : j < ns.length
        · exact h1 j (by omega)
        · rw [List.getElem?_eq_none (by omega), List.getElem?_eq_none (by omega)]
      · intro e
        subst e
        exact ⟨fun _ _ => rfl, by omega⟩
    rw [← he]
    exact EqAt.of_refs hqr hc
end
noncomputable def PairAt (h : Heap) (v : Value) (p : Int × List Int) : Prop := ∃ (a q : Addr) (t : Tok) (its : List Value), v = .ref a ∧ IsTup h a #[.int p.1 t, .ref q] ∧ IsTup h q its.toArray ∧ IntsAre its p.2
theorem PairAt.keep {h h' : Heap} {v : Value} {p : Int × List Int} (k : ∀ b o, h.get? b = some o → h'.get? b = some o) : PairAt h v p → PairAt h' v p := fun ⟨a, q, t, its, e, ⟨o, x1, x2⟩, ⟨o', y1, y2⟩, z⟩ => ⟨a, q, t, its, e, ⟨o, k _ _ x1, x2⟩, ⟨o', k _ _ y1, y2⟩, z⟩
theorem cmp_pair {prog : Program} {w : World} {A : Around} {E : Value → Shared → Prop} {s : Shared} {u v : Value} {p q : Int × List Int} {Q : Value → Shared → Prop} (hv : PairAt s.heap v p) (hu : PairAt s.heap u q) (hr : A.units + 2 < cLine) (h : Q (.bool (pLt p q)) s) : wpAny (model prog w) A (richCompare .Lt v u) Q E s := by
  obtain ⟨a, x, t, its, rfl, ha, hx, hi⟩ := hv
  obtain ⟨b, y, t', its', rfl, hb, hy, hj⟩ := hu
  have r1 : A.in1.units < cLine := by rw [Around.in1_units]; omega
  refine lt_two (e0 := (p.1 == q.1)) (l0 := decide (p.1 < q.1)) (e1 := (p.2 == q.2)) (l1 := HT.lexLt p.2 q.2) ha hb ⟨EqAt.int_int _ _ _ _, fun _ prog w E Q hq => HT.rcLt_int _ _ _ _ _ _ prog w E Q hq⟩
    ⟨eqAt_tupI hx hy hi hj r1, fun _ prog w E Q hq => HT.lt_tupInts hx hy (by simpa using hi) (by simpa using hj) r1 hq⟩ (by omega) ?_
  have e : (if (p.1 == q.1) = true then (if (p.2 == q.2) = true then false else HT.lexLt p.2 q.2) else decide (p.1 < q.1)) = pLt p q := by
    unfold pLt
    by_cases h1 : p.1 = q.1
    · rw [if_pos (by simpa using h1), if_pos h1]
      by_cases h2 : p.2 = q.2
      · rw [if_pos (by simpa using h2), h2, lex_self]
      · rw [if_neg (by simpa using h2)]
    · rw [if_neg (by simpa using h1), if_neg h1]
  rw [e]
  exact h
end
end L3
namespace L3
open PySem
section
variable {prog : Program} {w : World} {A : Around} {R : Result → Shared → Prop} {I : Addr} {fp wr : List Addr} {n : Nat} {P : Nat → Value → Prop} {St : Nat → Heap → Prop} {h0 : Heap}
noncomputable def CmpOn (prog : Program) (w : World) (A : Around) (h0 : Heap) (P : Nat → Value → Prop) (bt : Nat → Nat → Bool) : Prop :=
  ∀ i j vi vj (s : Shared) (Q : Value → Shared → Prop) (E : Value → Shared → Prop), (∀ b o, h0.get? b = some o → s.heap.get? b = some o) → P i vi → P j vj → Q (.bool (bt i j)) s → wpAny (model prog w) A (richCompare .Lt vi vj) Q E s
theorem min_turns (W : Walks prog w A.in1 I fp wr n P St) (bt : Nat → Nat → Bool) (hcmp : CmpOn prog w A.in1 h0 P bt) (S : Addr) (hSf : S ∉ fp) (h0w : ∀ b o, h0.get? b = some o → b ∉ wr ∧ b ≠ S) :
    ∀ (k j : Nat) (s : Shared) (vb : Value) (c : Nat), n - (j + 1) = k → j + 1 ≤ n → St (j + 1) s.heap → P (argBest bt j) vb → (∀ b o, h0.get? b = some o → s.heap.get? b = some o) →
    s.heap.get? S = some { cls := .type "list", dict := none, data := .seq #[vb, vb] c, slots := #[] } →
    (∀ v h' tk, P (argBest bt (n - 1)) v → (∀ b o, b ∉ wr → b ≠ S → s.heap.get? b = some o → h'.get? b = some o) → R (.ok (.ret v)) { s with heap := h', toks := tk }) →
    codeAny (model prog w) A (.builtin "min.loop" ⟨[.ref I, .none, .ref S], []⟩) R s := by
  have hSw : S ∉ wr := fun h => hSf (W.sub _ h)
  have hname : (toString "min" ++ toString ".loop" : String) = "min.loop" := by decide
  intro k
  induction k with
  | zero =>
    intro j s vb c hk hj hst hPb hx hS hR
    have hin : j + 1 = n := by omega
    refine codeAny_builtin F.entry_min_loop ?_
    rw [Around.under_plainId F.plain_min_loop _]
    show wpAny _ A.in1 (seqItems? (.ref S) >>= _) _ _ s
    refine wpAny_bind (wpAny_seqItems hS rfl ?_)
    show wpAny _ A.in1 (tryCatch (pyNext (.ref I)) _ >>= _) _ _ s
    refine wpAny_bind (wpAny_tryCatch (W.done s _ _ (hin ▸ hst) fun h' tk hk' => ?_))
    show wpAny _ A.in1 (updateSeq S (fun _ => #[]) >>= _) _ _ _
    refine wpAny_bind (wpAny_updateSeq (hk' S _ hSw hS) rfl (wpAny_bind (wpAny_letGo (wpAny_pure ?_))))
    exact hR vb _ tk (by rw [← hin]; exact hPb) fun b o hbw hbS e => (Heap.get?_update_other _ _ (Ne.symm hbS)).trans (hk' b o hbw e)
  | succ k ih =>
    intro j s vb c hk hj hst hPb hx hS hR
    have hlt : j + 1 < n := by omega
    refine codeAny_builtin F.entry_min_loop ?_
    rw [Around.under_plainId F.plain_min_loop _]
    show wpAny _ A.in1 (seqItems? (.ref S) >>= _) _ _ s
    refine wpAny_bind (wpAny_seqItems hS rfl ?_)
    show wpAny _ A.in1 (tryCatch (pyNext (.ref I)) _ >>= _) _ _ s
    refine wpAny_bind (wpAny_tryCatch (W.item (j + 1) s _ _ hlt hst fun v h' tk hP hst' hk' => ?_))
    have hS' := hk' S _ hSw hS
    have hx' : ∀ b o, h0.get? b = some o → h'.get? b = some o := fun b o e => hk' b o (h0w b o e).1 (hx b o e)
    show wpAny _ A.in1 (tryCatch (holding [v, v] (richCompare .Lt v vb >>= _)) _ >>= _) _ _ _
    refine wpAny_bind (wpAny_tryCatch (wpAny_holding (wpAny_bind (hcmp (j + 1) (argBest bt j) v vb _ _ _ hx' hP hPb ?_))))
    refine wpAny_bind (wpAny_holding (wpAny_truthy_bool ?_))
    refine wpAny_bind (wpAny_letGo (wpAny_pure ?_))
    cases hb : bt (j + 1) (argBest bt j) with
    | true =>
      simp only [if_true]
      refine wpAny_bind (wpAny_updateSeq hS' rfl (wpAny_bind (wpAny_letGo ?_)))
      rw [hname]
      refine wpAny_pure ⟨plainId_quiet F.plain_min_loop _, ih (j + 1) _ v _ (by omega) hlt (W.frame _ _ _ hst' fun b hbf o e => ?_) (by simp only [argBest, hb, if_true]; exact hP) (fun b o e => ?_) (Heap.get?_update_self _ hS' rfl)
        fun v' h'' tk'' hP' hk'' => ?_⟩
      · exact (Heap.get?_update_other _ _ (fun h : S = b => hSf (by rw [h]; exact hbf))).trans e
      · exact (Heap.get?_update_other _ _ (Ne.symm (h0w b o e).2)).trans (hx' b o e)
      · exact hR v' h'' tk'' hP' fun b o hbw hbS e => hk'' b o hbw hbS ((Heap.get?_update_other _ _ (Ne.symm hbS)).trans (hk' b o hbw e))
    | false =>
      simp only [Bool.false_eq_true, if_false]
      refine wpAny_bind (wpAny_letGo ?_)
      rw [hname]
      exact wpAny_pure ⟨plainId_quiet F.plain_min_loop _, ih (j + 1) _ vb c (by omega) hlt hst' (by simp only [argBest, hb, Bool.false_eq_true, if_false]; exact hPb) hx' hS' fun v' h'' tk'' hP' hk'' =>
        hR v' h'' tk'' hP' fun b o hbw hbS e => hk'' b o hbw hbS (hk' b o hbw e)⟩
end
section
variable {prog : Program} {w : World} {A : Around} {E : Value → Shared → Prop} {s : Shared}
theorem min_on {x : Value} {Q : Value → Shared → Prop}
    (h : wpAny (model prog w) A.in1 (pyIter x) (fun it s₂ => ∃ I fp wr n P St bt h0, it = .ref I ∧ Walks prog w A.in1 I fp wr n P St ∧ St 0 s₂.heap ∧ (∀ b ∈ fp, b < s₂.heap.objs.size) ∧ 0 < n ∧ CmpOn prog w A.in1 h0 P bt ∧ (∀ b o, h0.get? b = some o → b ∉ wr ∧ s₂.heap.get? b = some o) ∧
      ∀ v h' tk, P (argBest bt (n - 1)) v → (∀ b o, b ∉ wr → s₂.heap.get? b = some o → h'.get? b = some o) → Q v { s₂ with heap := h', toks := tk }) E s) :
    wpAny (model prog w) A (call (.builtin "min") [x]) Q E s := by
  have hname : (toString "min" ++ toString ".loop" : String) = "min.loop" := by decide
  refine call_function_tree F.kind_min F.plain_min F.entry_min (F.args_min1 _) ?_
  show wpAny _ A.in1 (Builtin.Builtins.bindParams "min" ["key", "default"] 0 ⟨[], []⟩ >>= _) _ _ s
  refine wpAny_bind (wpAny_of_eq (show Builtin.Builtins.bindParams "min" ["key", "default"] 0 ⟨[], []⟩ = pure [none, none] from rfl) ?_)
  refine wpAny_bind (wpAny_pure ?_)
  refine wpAny_bind (wpAny_mono h (fun it s₂ h₂ => ?_) fun _ _ e => e)
  obtain ⟨I, fp, wr, n, P, St, bt, h0, rfl, W, hst, hfp, hn, hcmp, hx, hQ⟩ := h₂
  refine wpAny_bind (wpAny_newObj_type ?_)
  have hSf : s₂.heap.objs.size ∉ fp := fun hm => Nat.lt_irrefl _ (hfp _ hm)
  have hSw : s₂.heap.objs.size ∉ wr := fun h => hSf (W.sub _ h)
  have h0w : ∀ b o, h0.get? b = some o → b ∉ wr ∧ b ≠ s₂.heap.objs.size := fun b o e => ⟨(hx b o e).1, Nat.ne_of_lt (Heap.lt_size (hx b o e).2)⟩
  rw [hname]
  refine wpAny_pure ⟨plainId_quiet F.plain_min_loop _, ?_⟩
  refine codeAny_builtin F.entry_min_loop ?_
  rw [Around.under_plainId F.plain_min_loop _]
  show wpAny _ A.in1 (seqItems? (.ref s₂.heap.objs.size) >>= _) _ _ _
  refine wpAny_bind (wpAny_seqItems (Heap.get?_push_size _ rfl) rfl ?_)
  show wpAny _ A.in1 (tryCatch (pyNext (.ref I)) _ >>= _) _ _ _
  refine wpAny_bind (wpAny_tryCatch (W.item 0 _ _ _ hn (W.frame _ _ _ hst fun b _ o e => Heap.get?_push_of_some _ e) fun v h' tk hP hst' hk' => ?_))
  have hS' := hk' s₂.heap.objs.size _ hSw (Heap.get?_push_size _ rfl)
  show wpAny _ A.in1 (updateSeq s₂.heap.objs.size (fun _ => #[v, v]) >>= _) _ _ _
  refine wpAny_bind (wpAny_updateSeq hS' rfl ?_)
  rw [hname]
  refine wpAny_pure ⟨plainId_quiet F.plain_min_loop _, min_turns W bt hcmp s₂.heap.objs.size hSf h0w _ 0 _ v _ rfl hn (W.frame _ _ _ hst' fun b hbf o e => ?_) hP (fun b o e => ?_) (Heap.get?_update_self _ hS' rfl) fun v' h'' tk'' hP' hk'' => ?_⟩
  · exact (Heap.get?_update_other _ _ (fun h : s₂.heap.objs.size = b => hSf (by rw [h]; exact hbf))).trans e
  · exact (Heap.get?_update_other _ _ (Ne.symm (h0w b o e).2)).trans (hk' b o (h0w b o e).1 (Heap.get?_push_of_some _ (hx b o e).2))
  · exact hQ v' h'' tk'' hP' fun b o hbw e => hk'' b o hbw (Nat.ne_of_lt (Heap.lt_size e)) ((Heap.get?_update_other _ _ (Ne.symm (Nat.ne_of_lt (Heap.lt_size e)))).trans (hk' b o hbw (Heap.get?_push_of_some _ e)))
theorem min_hand {l : Addr} {items : Array Value} {bt : Nat → Nat → Bool} {Q : Value → Shared → Prop} (hh : Hand A s.heap) (hl : s.heap.IsList l items) (hn : 0 < items.size) (hc : CmpOn prog w A.in1 s.heap (fun i v => items[i]? = some v) bt)
    (k : ∀ v h' tk, items[argBest bt (items.size - 1)]? = some v → (∀ b o, s.heap.get? b = some o → h'.get? b = some o) → Q v { s with heap := h', toks := tk }) : wpAny (model prog w) A (call (.builtin "min") [.ref l]) Q E s := by
  have hlt : l < s.heap.objs.size := by obtain ⟨_, e, _⟩ := hl; exact Heap.lt_size e
  have hlI : l ≠ s.heap.objs.size := Nat.ne_of_lt hlt
  refine min_on (wpAny_pyIter_list hl ?_)
  have hfp : ∀ b ∈ [s.heap.objs.size, l], b < (s.heap.push { cls := .type "list_iterator", data := .fields #[.ref l, .int 0 0] }).objs.size := fun b hb => by
    rw [Heap.size_push]
    simp only [List.mem_cons, List.not_mem_nil, or_false] at hb
    rcases hb with rfl | rfl
    · exact Nat.lt_succ_self _
    · exact Nat.lt_succ_of_lt hlt
  have st1 : (s.heap.push { cls := .type "list_iterator", data := .fields #[.ref l, .int 0 0] }).IsListIter s.heap.objs.size l 0 := ⟨_, Heap.get?_push_size _ rfl, rfl, rfl⟩
  have hx : ∀ b o, s.heap.get? b = some o → b ∉ [s.heap.objs.size] ∧ (s.heap.push { cls := .type "list_iterator", data := .fields #[.ref l, .int 0 0] }).get? b = some o := fun b o e =>
    ⟨fun hm => Nat.lt_irrefl _ (by simp only [List.mem_cons, List.not_mem_nil, or_false] at hm; exact hm ▸ Heap.lt_size e), Heap.get?_push_of_some _ e⟩
  rcases hh with hh | ⟨ha, cls, head, hh, hX⟩
  · exact ⟨_, _, _, _, _, _, bt, s.heap, rfl, Walks.list (A := A.in1) hh _ l hlI items, ⟨st1, hl.push _⟩, hfp, hn, hc, hx, fun v h' tk hv hk => k v h' tk hv fun b o e => hk b o (hx b o e).1 (hx b o e).2⟩
  · obtain ⟨ob, vs, x1, x2⟩ := id hX
    have hX2 := hX.keep (h' := s.heap.push { cls := .type "list_iterator", data := .fields #[.ref l, .int 0 0] }) fun o e => Heap.get?_push_of_some _ e
    refine ⟨_, _, _, _, _, _, bt, s.heap, rfl, walks_hand (A := A.in1) (ha := ha) (cls := cls) (head := head) hh _ l hlI (Nat.ne_of_lt (Heap.lt_size x1)) items, ⟨st1, hl.push _, hX2⟩, fun b hb => ?_, hn, hc, hx, fun v h' tk hv hk => k v h' tk hv fun b o e => hk b o (hx b o e).1 (hx b o e).2⟩
    simp only [List.mem_cons, List.not_mem_nil, or_false] at hb
    rcases hb with z | z | z
    · exact hfp b (by simp [z])
    · exact hfp b (by simp [z])
    · rw [z]
      show ha < (s.heap.push _).objs.size
      rw [Heap.size_push]
      exact Nat.lt_succ_of_lt (Heap.lt_size x1)
end
end L3
namespace L2
open PySem PySem.Spec PyProof.Rows L3
section
variable {X : Cx}
noncomputable def PairV (K : W.Frag) (H : Hp) (v : V) (p : Int × List Int) : Prop := ∃ a q, v = .ref a ∧ SqT K H a [.int p.1, .ref q] ∧ SqT K H q (p.2.map V.int)
theorem pairAt_of {pins : List (Addr × Obj)} {σ : St} {H : Hp} {s : Shared} (I : Inv X pins σ H s) {v : V} {u : Value} {p : Int × List Int} (h : PairV X.K H v p) (r : RelV v u) : PairAt s.heap u p := by
  obtain ⟨a, q, rfl, h1, h2⟩ := h
  cases r
  obtain ⟨its, r1, p1, _⟩ := I.tuple h1
  obtain ⟨its2, r2, p2, _⟩ := I.tuple h2
  obtain ⟨u1, u2, rfl, e1, e2⟩ := vals2 r1
  obtain ⟨t, rfl⟩ := e1
  cases e2
  exact ⟨a, q, t, its2, rfl, p1, p2, intsAre_of r2⟩
theorem call_minP (hu : X.A.units + 60 < cLine) : CallR X (.builtin "min") (fun xs H Q => ∃ (a : Addr) (vs : List V) (ps : List (Int × List Int)), xs = [.ref a] ∧ SqL X.K H a vs ∧ ps.length = vs.length ∧ 0 < vs.length ∧ (∀ (i : Nat) v p, vs[i]? = some v → ps[i]? = some p → PairV X.K H v p) ∧
    ∀ v, vs[argBest (fun i j => pLt (ps.getD i (0, [])) (ps.getD j (0, []))) (ps.length - 1)]? = some v → Q v H) := by
  intro pins s σ H xs us Q I r h
  obtain ⟨a, vs, ps, rfl, hq, hlen, hpos, hp, q⟩ := h
  obtain ⟨u, rfl, rx⟩ := vals1 r
  cases rx
  obtain ⟨its, r', pl, hz⟩ := I.list hq
  have hlen' := r'.length
  have back : ∀ (i : Nat) u, its.toArray[i]? = some u → ∃ v, vs[i]? = some v ∧ RelV v u := fun i u e => by
    have e' : its[i]? = some u := by simpa using e
    have hi : i < vs.length := by have := (List.getElem?_eq_some_iff.mp e').1; omega
    obtain ⟨u', hu', ru⟩ := r'.get (x := vs[i]) (i := i) (by simp [hi])
    rw [e'] at hu'
    cases hu'
    exact ⟨vs[i], by simp [hi], ru⟩
  have key : ∀ (i : Nat) u, its.toArray[i]? = some u → PairAt s.heap u (ps.getD i (0, [])) := fun i u e => by
    obtain ⟨v, ev, ru⟩ := back i u e
    have hi : i < ps.length := by have := (List.getElem?_eq_some_iff.mp ev).1; omega
    refine pairAt_of I (hp i v _ ev ?_) ru
    simp [List.getD, hi]
  refine L3.min_hand I.hand pl.isList (by simp; omega) (bt := fun i j => pLt (ps.getD i (0, [])) (ps.getD j (0, []))) (fun i j vi vj s' Q E hk hi hj hQ => cmp_pair ((key i vi hi).keep hk) ((key j vj hj).keep hk) (by rw [Around.in1_units]; omega) hQ) fun v h' tk hv hk => ?_
  have hs : its.toArray.size - 1 = ps.length - 1 := by simp; omega
  rw [hs] at hv
  obtain ⟨v0, ev, ru⟩ := back _ _ hv
  exact ⟨v0, H, I.grown (s' := { s with heap := h', toks := tk }) rfl rfl hk, ru, q v0 ev⟩
end
end L2
namespace L3
open PySem PySem.Spec PyProof.Rows L2
section
variable {X : Cx} {E : XE}
noncomputable def pairD1 : D → Option (Int × List Int)
  | .tup [.int i, .tup ds] => (intsD ds).map fun ns => (i, ns)
  | _ => none
noncomputable def pairsD : List D → Option (List (Int × List Int))
  | [] => some []
  | d :: r => (pairD1 d).bind fun p => (pairsD r).map fun ps => p :: ps
noncomputable def bestI (ps : List (Int × List Int)) : Nat := argBest (fun i j => pLt (ps.getD i (0, [])) (ps.getD j (0, []))) (ps.length - 1)
noncomputable def dMin1 : List D → M D := one1 fun d => do
  let ds ← seqD d
  let ps ← ofO (match d with | .tup _ => none | _ => pairsD ds)
  ofO (ds[bestI ps]?)
theorem pairD1_inv {K : W.Frag} {ι : Io} {H : Hp} {d : D} {v : V} {p : Int × List Int} (r : Rel K ι H d v) (e : pairD1 d = some p) : PairV K H v p := by
  unfold pairD1 at e
  split at e
  · rename_i i ds
    cases z : intsD ds with
    | none => rw [z] at e; cases e
    | some ns =>
      rw [z] at e
      cases e
      obtain ⟨a, vs, rfl, h1, h2⟩ := relSqT r
      simp only [RelL] at h2
      obtain ⟨v1, r1, rfl, g1, v2, r2, rfl, g2, rfl⟩ := h2
      simp only [Rel] at g1
      subst g1
      obtain ⟨q, ws, rfl, k1, k2⟩ := relSqT g2
      have := intsD_inv k2 z
      subst this
      exact ⟨a, q, rfl, h1, k1⟩
  · cases e
theorem pairsD_inv {K : W.Frag} {ι : Io} {H : Hp} : ∀ {ds : List D} {vs : List V} {ps : List (Int × List Int)}, RelL K ι H ds vs → pairsD ds = some ps → ps.length = vs.length ∧ ∀ (i : Nat) v p, vs[i]? = some v → ps[i]? = some p → PairV K H v p
  | [], vs, ps, h, e => by
    simp only [RelL] at h
    subst h
    cases e
    exact ⟨rfl, fun i v p e1 => by simp at e1⟩
  | d :: r, vs, ps, h, e => by
    simp only [RelL] at h
    obtain ⟨v, r', rfl, h1, h2⟩ := h
    unfold pairsD at e
    cases z : pairD1 d with
    | none => rw [z] at e; cases e
    | some p =>
      rw [z] at e
      cases z2 : pairsD r with
      | none => rw [z2] at e; cases e
      | some qs =>
        rw [z2] at e
        cases e
        obtain ⟨g1, g2⟩ := pairsD_inv h2 z2
        refine ⟨by simp [g1], fun i v' p' e1 e2 => ?_⟩
        cases i with
        | zero =>
          simp at e1 e2
          subst e1 e2
          exact pairD1_inv h1 z
        | succ i =>
          simp at e1 e2
          exact g2 i v' p' e1 e2
theorem call_min1D (hu : X.A.units + 60 < cLine) : CallR X (.builtin "min") (toRA X.K E dMin1) := by
  refine CallR.imp (call_minP hu) fun xs H Q ⟨ι, h, ds, rl, hr, q⟩ => ?_
  obtain ⟨d, v, e, r, q⟩ := one1_inv rl q
  obtain ⟨a, vs, ds', e', hs, rl', q⟩ := seqD_inv hr r q
  obtain ⟨ps, ep, q⟩ := Fin.ofOb q
  obtain ⟨x, ex⟩ : ∃ x, ds'[bestI ps]? = some x := by
    cases ex : ds'[bestI ps]? with
    | none => rw [ex] at q; exact False.elim q
    | some x => exact ⟨x, rfl⟩
  rw [ex] at q
  rcases hs with ⟨hs, hd⟩ | ⟨hs, hd⟩
  · have ep' : pairsD ds' = some ps := by
      cases d with
      | tup ts => exact absurd rfl (hd ts)
      | _ => exact ep
    obtain ⟨g1, g2⟩ := pairsD_inv rl' ep'
    have hlt := (List.getElem?_eq_some_iff.mp ex).1
    have hl := rl'.length
    refine ⟨a, vs, ps, by rw [e, e'], hs, g1, by omega, g2, fun v0 ev => ?_⟩
    obtain ⟨w, ew, rw'⟩ := RelL.get rl' ex
    have ev' : vs[bestI ps]? = some v0 := ev
    rw [ew] at ev'
    cases ev'
    exact Fin.out hr q _ rw'
  · subst hd
    cases ep
end
end L3
end
section
set_option maxHeartbeats 4000000
namespace L3
open PySem PySem.Spec PyProof.Rows L2
section
variable {X : Cx} {E : XE}
noncomputable def dTru (d : D) : M Bool := do let ds ← seqD d; pure (!ds.isEmpty)
noncomputable def tLst (f : FE) : FT := fun sd => do let d ← f sd; dTru d
end
end L3
end
section
namespace TS
set_option autoImplicit false
open PySem PyProof PyProof.Rows
noncomputable abbrev Ga : Bool → Keyed → Array Keyed → Nat → Nat → Nat → StateT SortSt Sem (Option Nat) := sortPriv% PySem.Builtin.gallop
noncomputable abbrev Lt : Keyed → Keyed → StateT SortSt Sem (Option Bool) := sortPriv% PySem.Builtin.lt
noncomputable abbrev El : Array Keyed → Nat → StateT SortSt Sem Keyed := sortPriv% PySem.Builtin.elem
structure Cx where
  prog : Program
  w : World
  A : Around
  E : Value → Shared → Prop
  s : Shared
  kd : SortKind
  O : KeyOrd
  ky : Value → O.α
  ok : Value → Prop
  cmp : ∀ (E' : Value → Shared → Prop) (x y : Value) (Q : Bool → Shared → Prop), ok x → ok y → Q (O.blt (ky x) (ky y)) s → wpAny (model prog w) A (keyLt' kd x y) Q E' s
noncomputable abbrev Cx.wp (c : Cx) {α : Type} (m : StateT SortSt Sem α) (Q : α → SortSt → Prop) (st : SortSt) : Prop := wpS (model c.prog c.w) c.A c.E c.s m Q st
noncomputable def Cx.lt (c : Cx) (x y : Keyed) : Bool := c.O.blt (c.ky x.1) (c.ky y.1)
noncomputable def Cx.le (c : Cx) (x y : Keyed) : Prop := c.lt y x = false
section
variable {c : Cx}
theorem Cx.le_refl (x : Keyed) : c.le x x := c.O.irrefl _
theorem Cx.le_of_lt {x y : Keyed} (h : c.lt x y = true) : c.le x y := KeyOrd.klt_asymm (O := c.O) h
theorem Cx.le_trans {x y z : Keyed} (h : c.le x y) (h2 : c.le y z) : c.le x z := KeyOrd.kle_trans (O := c.O) h h2
theorem Cx.lt_of_le_lt {x y z : Keyed} (h : c.le x y) (h2 : c.lt y z = true) : c.lt x z = true := KeyOrd.klt_of_kle_of_klt (O := c.O) h h2
theorem wp_lt {x y : Keyed} {Q : Option Bool → SortSt → Prop} {st : SortSt} (hk : kindOf st = c.kd) (hx : c.ok x.1) (hy : c.ok y.1) (h : Q (some (c.lt x y)) st) : c.wp (Lt x y) Q st := by
  have e := lt'_eq x y
  unfold lt' at e
  show wpS _ _ _ _ (Lt x y) Q st
  unfold Lt
  rw [e]
  refine wpS_bind (wpS_get ?_)
  rw [hk]
  refine wpS_bind (wpS_lift (wpAny_attempt (c.cmp _ _ _ _ hx hy ⟨rfl, ?_⟩)))
  exact wpS_pure h
theorem wp_el {arr : Array Keyed} {i : Nat} {x : Keyed} {Q : Keyed → SortSt → Prop} {st : SortSt} (hx : arr[i]? = some x) (h : Q x st) : c.wp (El arr i) Q st := by
  have e := elem'_eq arr i
  unfold elem' at e
  show wpS _ _ _ _ (El arr i) Q st
  unfold El
  rw [e, hx]
  exact wpS_pure h
noncomputable def pb (c : Cx) (left : Bool) (key x : Keyed) : Bool := if left then c.lt x key else !c.lt key x
theorem wp_bey {left : Bool} {key : Keyed} {arr : Array Keyed} {i : Nat} {x : Keyed} {Q : Option Bool → SortSt → Prop} {st : SortSt} (hk : kindOf st = c.kd) (hx : arr[i]? = some x) (okk : c.ok key.1) (okx : c.ok x.1)
    (h : Q (some (pb c left key x)) st) :
    c.wp (El arr i >>= fun x => if left = true then Lt x key else Lt key x >>= fun r => pure (Option.map (fun x => !x) r)) Q st := by
  refine wpS_bind (wp_el hx ?_)
  unfold pb at h
  cases left with
  | true => exact wp_lt hk okx okk h
  | false => exact wpS_bind (wp_lt hk okk okx (wpS_pure h))
theorem wp_gallop {left : Bool} {key : Keyed} {arr : Array Keyed} {base n hint : Nat} {Q : Option Nat → SortSt → Prop} {st : SortSt} (f : Nat → Keyed) (hk : kindOf st = c.kd) (okk : c.ok key.1)
    (hf : ∀ i, i < n → arr[base + i]? = some (f i) ∧ c.ok (f i).1)
    (hm : ∀ i j, i ≤ j → j < n → pb c left key (f j) = true → pb c left key (f i) = true) (hh : hint < n)
    (h : ∀ k, k ≤ n → (∀ i, i < k → pb c left key (f i) = true) → (∀ i, k ≤ i → i < n → pb c left key (f i) = false) → Q (some k) st) :
    c.wp (Ga left key arr base n hint) Q st := by
  show wpS _ _ _ _ (Ga left key arr base n hint) Q st
  have hmf : ∀ i j, i ≤ j → j < n → pb c left key (f i) = false → pb c left key (f j) = false := by
    intro i j hij hj hi
    cases e : pb c left key (f j) with
    | false => rfl
    | true => rw [hm i j hij hj e] at hi; exact hi
  have third : ∀ (lo hi : Nat) (st' : SortSt), st' = st → lo ≤ hi → hi ≤ n → (∀ i, i < lo → pb c left key (f i) = true) → (∀ i, hi ≤ i → i < n → pb c left key (f i) = false) →
      c.wp (forIn [:n] ((none : Option (Option Nat)), lo, hi) fun x __s =>
          if __s.snd.fst ≥ __s.snd.snd then pure (ForInStep.done (none, __s.snd.fst, __s.snd.snd))
          else (El arr (base + (__s.snd.fst + (__s.snd.snd - __s.snd.fst) / 2)) >>= fun x => if left = true then Lt x key else Lt key x >>= fun r => pure (Option.map (fun x => !x) r)) >>= fun __x =>
            match __x with
              | some more =>
                if more = true then pure (ForInStep.yield (none, __s.snd.fst + (__s.snd.snd - __s.snd.fst) / 2 + 1, __s.snd.snd))
                else pure (ForInStep.yield (none, __s.snd.fst, __s.snd.fst + (__s.snd.snd - __s.snd.fst) / 2))
              | x => pure (ForInStep.done (some none, __s.snd.fst, __s.snd.snd)))
        (fun r st' => st' = st ∧ r.1 = none ∧ r.2.2 ≤ n ∧ (∀ i, i < r.2.2 → pb c left key (f i) = true) ∧ (∀ i, r.2.2 ≤ i → i < n → pb c left key (f i) = false)) st' := by
    intro lo hi st' est hlh hhn h1 h2
    refine wpS_forRange (I := fun x r st' => st' = st ∧ r.1 = none ∧ r.2.1 ≤ r.2.2 ∧ r.2.2 ≤ n ∧ r.2.2 - r.2.1 ≤ n - x ∧ (∀ i, i < r.2.1 → pb c left key (f i) = true) ∧ (∀ i, r.2.2 ≤ i → i < n → pb c left key (f i) = false)) ?_ ?_ ⟨est, rfl, hlh, hhn, by show hi - lo ≤ n - 0; omega, h1, h2⟩
    · rintro i ⟨r, lo, hi⟩ st' _ hi2 ⟨rfl, rfl, a1, a2, a3, a4, a5⟩
      dsimp only at a1 a2 a3 a4 a5 ⊢
      split
      · refine wpS_pure ⟨rfl, rfl, a2, ?_, a5⟩
        intro j hj
        exact a4 j (by dsimp only at hj; omega)
      · obtain ⟨g1, g2⟩ := hf (lo + (hi - lo) / 2) (by omega)
        refine wpS_bind (wp_bey hk g1 okk g2 ?_)
        dsimp only
        cases e : pb c left key (f (lo + (hi - lo) / 2)) with
        | true =>
          rw [if_pos rfl]
          refine wpS_pure ⟨rfl, rfl, ?_, a2, ?_, ?_, a5⟩
          · dsimp only; omega
          · dsimp only; omega
          · intro j hj; exact hm j _ (by dsimp only at hj; omega) (by omega) e
        | false =>
          rw [if_neg (by simp)]
          refine wpS_pure ⟨rfl, rfl, ?_, ?_, ?_, a4, ?_⟩
          · dsimp only; omega
          · dsimp only; omega
          · dsimp only; omega
          · intro j hj hjn; exact hmf _ j hj hjn e
    · rintro ⟨r, lo, hi⟩ st' ⟨rfl, rfl, a1, a2, a3, a4, a5⟩
      refine ⟨rfl, rfl, a2, ?_, a5⟩
      dsimp only at a1 a3 a4 ⊢
      intro j hj; exact a4 j (by omega)
  obtain ⟨g1, g2⟩ := hf hint hh
  refine wpS_bind ?_
  dsimp only
  refine wp_bey hk g1 okk g2 ?_
  dsimp only
  cases e : pb c left key (f hint) with
  | true =>
    rw [if_pos rfl]
    refine wpS_bind (wpS_mono (wpS_forRange (I := fun x r st' => st' = st ∧ r.1 = (none : Option (Option Nat)) ∧ x + 1 ≤ r.2.2 ∧ r.2.1 < r.2.2 ∧ hint + r.2.1 < n ∧ pb c left key (f (hint + r.2.1)) = true)
      (Q := fun r st' => st' = st ∧ r.1 = none ∧ r.2.1 < r.2.2 ∧ hint + r.2.1 < n ∧ pb c left key (f (hint + r.2.1)) = true ∧ (n ≤ hint + r.2.2 ∨ pb c left key (f (hint + r.2.2)) = false)) ?_ ?_ ⟨rfl, rfl, Nat.le_refl _, Nat.zero_lt_one, hh, by exact e⟩) ?_)
    · rintro i ⟨r, lo, hi⟩ st' _ hi2 ⟨rfl, rfl, a1, a2, a3, a4⟩
      dsimp only at a1 a2 a3 a4 ⊢
      split
      · exact wpS_pure ⟨rfl, rfl, a2, a3, a4, .inl (by dsimp only; omega)⟩
      · obtain ⟨g1, g2⟩ := hf (hint + hi) (by omega)
        refine wpS_bind (wp_bey hk g1 okk g2 ?_)
        dsimp only
        cases e : pb c left key (f (hint + hi)) with
        | true =>
          rw [if_neg (by simp)]
          exact wpS_pure ⟨rfl, rfl, by dsimp only; omega, by dsimp only; omega, by dsimp only; omega, e⟩
        | false =>
          rw [if_pos (by simp)]
          exact wpS_pure ⟨rfl, rfl, a2, a3, a4, .inr e⟩
    · rintro ⟨r, lo, hi⟩ st' ⟨rfl, rfl, a1, a2, a3, a4⟩
      exact ⟨rfl, rfl, a2, a3, a4, .inl (by dsimp only at a1 ⊢; omega)⟩
    · rintro ⟨r, lo, hi⟩ st' ⟨rfl, rfl, a2, a3, a4, a5⟩
      dsimp only at a2 a3 a4 a5 ⊢
      refine wpS_bind (wpS_mono (third _ _ _ rfl (by omega) (by omega) (fun i hi2 => hm i _ (by omega) a3 a4) ?_) ?_)
      · intro i h1 h2
        rcases a5 with a5 | a5
        · omega
        · by_cases hq : hint + hi < n
          · exact hmf _ i (by omega) h2 a5
          · omega
      · rintro ⟨r, lo, hi⟩ st' ⟨rfl, rfl, b1, b2, b3⟩
        exact wpS_pure (h _ b1 b2 b3)
  | false =>
    rw [if_neg (by simp)]
    refine wpS_bind (wpS_mono (wpS_forRange (I := fun x r st' => st' = st ∧ r.1 = (none : Option (Option Nat)) ∧ x + 1 ≤ r.2.2 ∧ r.2.1 < r.2.2 ∧ r.2.1 ≤ hint ∧ pb c left key (f (hint - r.2.1)) = false)
      (Q := fun r st' => st' = st ∧ r.1 = none ∧ r.2.1 < r.2.2 ∧ r.2.1 ≤ hint ∧ pb c left key (f (hint - r.2.1)) = false ∧ (hint < r.2.2 ∨ pb c left key (f (hint - r.2.2)) = true)) ?_ ?_ ⟨rfl, rfl, Nat.le_refl _, Nat.zero_lt_one, Nat.zero_le _, by exact e⟩) ?_)
    · rintro i ⟨r, lo, hi⟩ st' _ hi2 ⟨rfl, rfl, a1, a2, a3, a4⟩
      dsimp only at a1 a2 a3 a4 ⊢
      split
      · exact wpS_pure ⟨rfl, rfl, a2, a3, a4, .inl (by dsimp only; omega)⟩
      · obtain ⟨g1, g2⟩ := hf (hint - hi) (by omega)
        refine wpS_bind (wp_bey hk g1 okk g2 ?_)
        dsimp only
        cases e : pb c left key (f (hint - hi)) with
        | false =>
          rw [if_neg (by simp)]
          exact wpS_pure ⟨rfl, rfl, by dsimp only; omega, by dsimp only; omega, by dsimp only; omega, e⟩
        | true =>
          rw [if_pos rfl]
          exact wpS_pure ⟨rfl, rfl, a2, a3, a4, .inr e⟩
    · rintro ⟨r, lo, hi⟩ st' ⟨rfl, rfl, a1, a2, a3, a4⟩
      exact ⟨rfl, rfl, a2, a3, a4, .inl (by dsimp only at a1 ⊢; omega)⟩
    · rintro ⟨r, lo, hi⟩ st' ⟨rfl, rfl, a2, a3, a4, a5⟩
      dsimp only at a2 a3 a4 a5 ⊢
      refine wpS_bind (wpS_mono (third _ _ _ rfl (by omega) (by omega) ?_ (fun i h1 h2 => hmf _ i h1 h2 a4)) ?_)
      · intro i h1
        rcases a5 with a5 | a5
        · omega
        · exact hm i _ (by omega) (by omega) a5
      · rintro ⟨r, lo, hi⟩ st' ⟨rfl, rfl, b1, b2, b3⟩
        exact wpS_pure (h _ b1 b2 b3)
end
end TS
end
section
namespace TS
set_option autoImplicit false
open PySem PyProof PyProof.Rows
noncomputable abbrev ML : Array Keyed → Array Keyed → StateT SortSt Sem (Array Keyed) := sortPriv% PySem.Builtin.mergeLo
noncomputable abbrev MH : Array Keyed → Array Keyed → StateT SortSt Sem (Array Keyed) := sortPriv% PySem.Builtin.mergeHi
noncomputable abbrev Sg : Nat → StateT SortSt Sem Unit := sortPriv% PySem.Builtin.setMinGallop
structure Sm (st st' : SortSt) : Prop where
  k : kindOf st' = kindOf st
  a : arrOf st' = arrOf st
  p : pendingOf st' = pendingOf st
  f : failedOf st' = failedOf st
theorem Sm.refl (st : SortSt) : Sm st st := ⟨rfl, rfl, rfl, rfl⟩
theorem Sm.g {st st' : SortSt} (h : Sm st st') (n : Nat) : Sm st (SortSt.mk' (kindOf st') (arrOf st') (pendingOf st') n (failedOf st')) := ⟨h.k, h.a, h.p, h.f⟩
structure Mg (r : Keyed → Keyed → Prop) (O L R T : List Keyed) : Prop where
  s : O.Pairwise r
  l : ∀ x, x ∈ O → ∀ y, y ∈ L → r x y
  r : ∀ x, x ∈ O → ∀ y, y ∈ R → r x y
  p : (O ++ (L ++ R)).Perm T
section
variable {r : Keyed → Keyed → Prop} {O L R T X : List Keyed}
theorem Mg.symm (h : Mg r O L R T) : Mg r O R L T := ⟨h.s, h.r, h.l, (List.Perm.append_left O List.perm_append_comm).trans h.p⟩
theorem Mg.stepL (h : Mg r O (X ++ L) R T) (hX : (X ++ L).Pairwise r) (hR : ∀ x, x ∈ X → ∀ y, y ∈ R → r x y) : Mg r (O ++ X) L R T := by
  rw [List.pairwise_append] at hX
  refine ⟨?_, ?_, ?_, ?_⟩
  · rw [List.pairwise_append]
    exact ⟨h.s, hX.1, fun x hx y hy => h.l x hx y (List.mem_append_left _ hy)⟩
  · intro x hx y hy
    rcases List.mem_append.mp hx with hx | hx
    · exact h.l x hx y (List.mem_append_right _ hy)
    · exact hX.2.2 x hx y hy
  · intro x hx y hy
    rcases List.mem_append.mp hx with hx | hx
    · exact h.r x hx y hy
    · exact hR x hx y hy
  · have := h.p
    simpa [List.append_assoc] using this
theorem Mg.fin (h : Mg r O L R T) (hs : (L ++ R).Pairwise r) : (O ++ (L ++ R)).Pairwise r ∧ (O ++ (L ++ R)).Perm T := by
  refine ⟨?_, h.p⟩
  rw [List.pairwise_append]
  refine ⟨h.s, hs, fun x hx y hy => ?_⟩
  rcases List.mem_append.mp hy with hy | hy
  · exact h.l x hx y hy
  · exact h.r x hx y hy
end
section
variable {c : Cx}
theorem wp_sg {g : Nat} {Q : Unit → SortSt → Prop} {st : SortSt} (h : Q () (SortSt.mk' (kindOf st) (arrOf st) (pendingOf st) g (failedOf st))) : c.wp (Sg g) Q st := by
  exact wpS_modify h
theorem wp_rule {n : String} {Q : Unit → SortSt → Prop} {st : SortSt} (h : Q () st) : c.wp (liftM (rule n) : StateT SortSt Sem Unit) Q st :=
  wpS_lift (wpAny_rule ⟨rfl, h⟩)
noncomputable def srt (c : Cx) (a : Array Keyed) : Prop := a.toList.Pairwise c.le
noncomputable def okA (c : Cx) (a : Array Keyed) : Prop := ∀ x, x ∈ a.toList → c.ok x.1
theorem ok_at {a : Array Keyed} (h : okA c a) {i : Nat} (hi : i < a.size) : ∃ x, a[i]? = some x ∧ c.ok x.1 :=
  ⟨a[i], getElem?_pos a i hi, h _ (by simp)⟩
theorem srt_le {a : Array Keyed} (h : srt c a) {i j : Nat} {x y : Keyed} (hij : i ≤ j) (hx : a[i]? = some x) (hy : a[j]? = some y) : c.le x y := by
  rcases Nat.lt_or_ge i j with hlt | hge
  · obtain ⟨hj, rfl⟩ := Array.getElem?_eq_some_iff.mp hy
    obtain ⟨hi, rfl⟩ := Array.getElem?_eq_some_iff.mp hx
    have := List.pairwise_iff_getElem.mp h i j (by simpa using hi) (by simpa using hj) hlt
    simpa using this
  · have : i = j := by omega
    subst this
    rw [hx] at hy
    cases hy
    exact Cx.le_refl _
structure MgA (c : Cx) (a b out : Array Keyed) (ia ib : Nat) : Prop where
  m : Mg c.le out.toList (a.toList.drop ia) (b.toList.drop ib) (a.toList ++ b.toList)
  z : out.size = ia + ib
  la : ia ≤ a.size
  lb : ib ≤ b.size
noncomputable def Fi (c : Cx) (a b res : Array Keyed) : Prop := srt c res ∧ res.toList.Perm (a.toList ++ b.toList)
theorem mem_take_drop {l : List Keyed} {i k : Nat} {x : Keyed} (h : x ∈ (l.drop i).take k) : ∃ j, j < k ∧ l[i + j]? = some x := by
  obtain ⟨j, hj, e⟩ := List.getElem_of_mem h
  refine ⟨j, by simp at hj; omega, ?_⟩
  rw [List.getElem_take, List.getElem_drop] at e
  rw [List.getElem?_eq_getElem (by simp at hj; omega), e]
theorem mem_drop {l : List Keyed} {i : Nat} {x : Keyed} (h : x ∈ l.drop i) : ∃ j, l[i + j]? = some x := by
  obtain ⟨j, hj, e⟩ := List.getElem_of_mem h
  refine ⟨j, ?_⟩
  rw [List.getElem_drop] at e
  rw [List.getElem?_eq_getElem (by simp at hj; omega), e]
variable {a b out : Array Keyed} {ia ib k : Nat}
theorem MgA.appA (h : MgA c a b out ia ib) (ha : srt c a) (hb : srt c b) {y : Keyed} (hy : b[ib]? = some y) (hk : ia + k ≤ a.size)
    (hx : ∀ i x, i < k → a[ia + i]? = some x → c.le x y) : MgA c a b (out ++ a.extract ia (ia + k)) (ia + k) ib := by
  refine ⟨?_, ?_, hk, h.lb⟩
  · have e : a.toList.drop ia = (a.toList.drop ia).take k ++ a.toList.drop (ia + k) := by
      rw [← List.drop_drop]; exact (List.take_append_drop k _).symm
    have hm := h.m
    rw [e] at hm
    have e2 : (out ++ a.extract ia (ia + k)).toList = out.toList ++ (a.toList.drop ia).take k := by
      simp [List.extract, Nat.add_sub_cancel_left]
    rw [e2]
    refine hm.stepL (by rw [← e]; exact List.Pairwise.sublist (List.drop_sublist _ _) ha) ?_
    intro x hxm z hz
    obtain ⟨j, hj, ej⟩ := mem_take_drop hxm
    obtain ⟨i, ei⟩ := mem_drop hz
    rw [Array.getElem?_toList] at ej ei
    exact Cx.le_trans (hx j x hj ej) (srt_le hb (Nat.le_add_right _ _) hy ei)
  · rw [Array.size_append, Array.size_extract, h.z]
    omega
theorem MgA.appB (h : MgA c a b out ia ib) (ha : srt c a) (hb : srt c b) {x : Keyed} (hx : a[ia]? = some x) (hk : ib + k ≤ b.size)
    (hy : ∀ i y, i < k → b[ib + i]? = some y → c.le y x) : MgA c a b (out ++ b.extract ib (ib + k)) ia (ib + k) := by
  refine ⟨?_, ?_, h.la, hk⟩
  · have e : b.toList.drop ib = (b.toList.drop ib).take k ++ b.toList.drop (ib + k) := by
      rw [← List.drop_drop]; exact (List.take_append_drop k _).symm
    have hm := h.m.symm
    rw [e] at hm
    have e2 : (out ++ b.extract ib (ib + k)).toList = out.toList ++ (b.toList.drop ib).take k := by
      simp [List.extract, Nat.add_sub_cancel_left]
    rw [e2]
    refine (hm.stepL (by rw [← e]; exact List.Pairwise.sublist (List.drop_sublist _ _) hb) ?_).symm
    intro x hxm z hz
    obtain ⟨j, hj, ej⟩ := mem_take_drop hxm
    obtain ⟨i, ei⟩ := mem_drop hz
    rw [Array.getElem?_toList] at ej ei
    exact Cx.le_trans (hy j x hj ej) (srt_le ha (Nat.le_add_right _ _) hx ei)
  · rw [Array.size_append, Array.size_extract, h.z]
    omega
theorem push_ext {i : Nat} {x : Keyed} (hx : a[i]? = some x) : out.push x = out ++ a.extract i (i + 1) := by
  obtain ⟨hi, rfl⟩ := Array.getElem?_eq_some_iff.mp hx
  apply Array.ext'
  simp only [Array.toList_push, Array.toList_append, Array.toList_extract, List.extract, Nat.add_sub_cancel_left]
  rw [List.drop_eq_getElem_cons (by simpa using hi)]
  simp
theorem MgA.pushA (h : MgA c a b out ia ib) (ha : srt c a) (hb : srt c b) {x y : Keyed} (hx : a[ia]? = some x) (hy : b[ib]? = some y) (hxy : c.le x y) : MgA c a b (out.push x) (ia + 1) ib := by
  rw [push_ext hx]
  refine h.appA ha hb hy (Array.getElem?_eq_some_iff.mp hx).1 ?_
  intro i z hi hz
  have : i = 0 := by omega
  subst this
  rw [Nat.add_zero, hx] at hz
  cases hz
  exact hxy
theorem MgA.pushB (h : MgA c a b out ia ib) (ha : srt c a) (hb : srt c b) {x y : Keyed} (hx : a[ia]? = some x) (hy : b[ib]? = some y) (hxy : c.le y x) : MgA c a b (out.push y) ia (ib + 1) := by
  rw [push_ext hy]
  refine h.appB ha hb hx (Array.getElem?_eq_some_iff.mp hy).1 ?_
  intro i z hi hz
  have : i = 0 := by omega
  subst this
  rw [Nat.add_zero, hy] at hz
  cases hz
  exact hxy
theorem MgA.done (h : MgA c a b out ia ib) (ha : srt c a) (hb : srt c b) (he : ia = a.size ∨ ib = b.size) : Fi c a b (out ++ a.extract ia ++ b.extract ib) := by
  have e : (out ++ a.extract ia ++ b.extract ib).toList = out.toList ++ (a.toList.drop ia ++ b.toList.drop ib) := by
    simp [List.extract, List.take_of_length_le]
  have hs : (a.toList.drop ia ++ b.toList.drop ib).Pairwise c.le := by
    rcases he with he | he
    · rw [List.drop_eq_nil_of_le (by simp [he]), List.nil_append]
      exact List.Pairwise.sublist (List.drop_sublist _ _) hb
    · rw [List.drop_eq_nil_of_le (as := b.toList) (by simp [he]), List.append_nil]
      exact List.Pairwise.sublist (List.drop_sublist _ _) ha
  obtain ⟨h1, h2⟩ := h.m.fin hs
  exact ⟨by unfold srt; rw [e]; exact h1, by rw [e]; exact h2⟩
theorem MgA.last (h : MgA c a b out ia ib) (_ha : srt c a) (hb : srt c b) (he : ia + 1 = a.size) (hl : ∀ x, a[ia]? = some x → ∀ y, y ∈ b.toList → c.le y x) : Fi c a b (out ++ b.extract ib ++ a.extract ia) := by
  have e : (out ++ b.extract ib ++ a.extract ia).toList = out.toList ++ (b.toList.drop ib ++ a.toList.drop ia) := by
    simp [List.extract, List.take_of_length_le]
  have ed : a.toList.drop ia = [a[ia]] := by
    rw [List.drop_eq_getElem_cons (by simp; omega), List.drop_eq_nil_of_le (by simp; omega)]
    simp
  have hs : (b.toList.drop ib ++ a.toList.drop ia).Pairwise c.le := by
    rw [ed, List.pairwise_append]
    refine ⟨List.Pairwise.sublist (List.drop_sublist _ _) hb, List.pairwise_singleton _ _, ?_⟩
    intro x hx y hy
    rw [List.mem_singleton.mp hy]
    exact hl _ (getElem?_pos a ia (by omega)) x (List.mem_of_mem_drop hx)
  obtain ⟨h1, h2⟩ := h.m.symm.fin hs
  exact ⟨by unfold srt; rw [e]; exact h1, by rw [e]; exact h2⟩
end
end TS
end
section
namespace TS
set_option autoImplicit false
open PySem PyProof PyProof.Rows
section
variable {c : Cx} {a b : Array Keyed}
theorem wp_ite {α : Type} {p : Prop} [Decidable p] {x y : StateT SortSt Sem α} {Q : α → SortSt → Prop} {st : SortSt} (h1 : p → c.wp x Q st) (h2 : ¬ p → c.wp y Q st) : c.wp (if p then x else y) Q st := by
  by_cases h : p
  · rw [if_pos h]; exact h1 h
  · rw [if_neg h]; exact h2 h
theorem wp_beq {α : Type} {i j : Nat} {x y : StateT SortSt Sem α} {Q : α → SortSt → Prop} {st : SortSt} (h1 : i = j → c.wp x Q st) (h2 : ¬ i = j → c.wp y Q st) : c.wp (if (i == j) = true then x else y) Q st :=
  wp_ite (fun h => h1 (by simpa using h)) (fun h => h2 (by simpa using h))
theorem gal_a {st : SortSt} {base n hint : Nat} {y : Keyed} {Q : Option Nat → SortSt → Prop} (hk : kindOf st = c.kd) (oy : c.ok y.1) (hi : hint < n)
    (ha : ∀ i j x z, i ≤ j → j < n → a[base + i]? = some x → a[base + j]? = some z → c.le x z) (oa : ∀ i, i < n → ∃ x, a[base + i]? = some x ∧ c.ok x.1)
    (h : ∀ k, k ≤ n → (∀ i x, i < k → a[base + i]? = some x → c.le x y) → (∀ i x, k ≤ i → i < n → a[base + i]? = some x → c.lt y x = true) → Q (some k) st) :
    c.wp (Ga false y a base n hint) Q st := by
  refine wp_gallop (fun i => a[base + i]?.getD y) hk oy ?_ ?_ hi ?_
  · intro i hi2
    obtain ⟨x, ex, ox⟩ := oa i hi2
    exact ⟨by rw [ex]; rfl, by rw [ex]; exact ox⟩
  · intro i j hij hj hp
    obtain ⟨x, ex, ox⟩ := oa i (by omega)
    obtain ⟨z, ez, oz⟩ := oa j hj
    rw [ez] at hp
    rw [ex]
    have hxz := ha i j x z hij hj ex ez
    simp only [pb, Bool.false_eq_true, if_false, Bool.not_eq_true', Option.getD_some] at hp ⊢
    exact Cx.le_trans (c := c) hxz hp
  · intro k hk1 h1 h2
    refine h k hk1 ?_ ?_
    · intro i x hi2 ex
      have := h1 i hi2
      rw [ex] at this
      simpa [pb, Cx.le] using this
    · intro i x hi2 hin ex
      have := h2 i hi2 hin
      rw [ex] at this
      simpa [pb] using this
theorem gal_b {st : SortSt} {ib n hint : Nat} {x : Keyed} {Q : Option Nat → SortSt → Prop} (hk : kindOf st = c.kd) (ox : c.ok x.1) (hi : hint < n)
    (hb : ∀ i j y z, i ≤ j → j < n → b[ib + i]? = some y → b[ib + j]? = some z → c.le y z) (ob : ∀ i, i < n → ∃ y, b[ib + i]? = some y ∧ c.ok y.1)
    (h : ∀ k, k ≤ n → (∀ i y, i < k → b[ib + i]? = some y → c.lt y x = true) → (∀ i y, k ≤ i → i < n → b[ib + i]? = some y → c.le x y) → Q (some k) st) :
    c.wp (Ga true x b ib n hint) Q st := by
  refine wp_gallop (fun i => b[ib + i]?.getD x) hk ox ?_ ?_ hi ?_
  · intro i hi2
    obtain ⟨y, ey, oy⟩ := ob i (by omega)
    exact ⟨by rw [ey]; rfl, by rw [ey]; exact oy⟩
  · intro i j hij hj hp
    obtain ⟨y, ey, oy⟩ := ob i (by omega)
    obtain ⟨z, ez, oz⟩ := ob j (by omega)
    rw [ez] at hp
    rw [ey]
    have hyz := hb i j y z hij hj ey ez
    simp only [pb, if_true, Option.getD_some] at hp ⊢
    exact Cx.lt_of_le_lt (c := c) hyz hp
  · intro k hk1 h1 h2
    refine h k hk1 ?_ ?_
    · intro i y hi2 ey
      have := h1 i hi2
      rw [ey] at this
      simpa [pb] using this
    · intro i y hi2 hin ey
      have := h2 i hi2 hin
      rw [ey] at this
      simpa [pb, Cx.le] using this
theorem gal_lo_a {st : SortSt} {ia : Nat} {y : Keyed} {Q : Option Nat → SortSt → Prop} (hk : kindOf st = c.kd) (ha : srt c a) (oa : okA c a) (oy : c.ok y.1) (hi : ia < a.size)
    (h : ∀ k, ia + k ≤ a.size → (∀ i x, i < k → a[ia + i]? = some x → c.le x y) → (∀ i x, k ≤ i → a[ia + i]? = some x → c.lt y x = true) → Q (some k) st) :
    c.wp (Ga false y a ia (a.size - ia) 0) Q st :=
  gal_a hk oy (by omega) (fun i j x z hij _ hx hz => srt_le ha (by omega) hx hz) (fun i hi => ok_at oa (by omega)) fun k h1 h2 h3 => h k (by omega) h2 (fun i x hi hx => h3 i x hi (by have := (Array.getElem?_eq_some_iff.mp hx).1; omega) hx)
theorem gal_lo_b {st : SortSt} {ib n hint : Nat} {x : Keyed} {Q : Option Nat → SortSt → Prop} (hk : kindOf st = c.kd) (hb : srt c b) (ob : okA c b) (ox : c.ok x.1) (hi : hint < n) (hn : ib + n ≤ b.size)
    (h : ∀ k, k ≤ n → (∀ i y, i < k → b[ib + i]? = some y → c.lt y x = true) → (∀ i y, k ≤ i → i < n → b[ib + i]? = some y → c.le x y) → Q (some k) st) :
    c.wp (Ga true x b ib n hint) Q st :=
  gal_b hk ox hi (fun i j x z hij _ hx hz => srt_le hb (by omega) hx hz) (fun i hi => ok_at ob (by omega)) h
theorem wp_lo {st : SortSt} {Q : Array Keyed → SortSt → Prop} (hk : kindOf st = c.kd) (ha : srt c a) (hb : srt c b) (oa : okA c a) (ob : okA c b) (na : 0 < a.size) (nb : 0 < b.size)
    (hfirst : ∀ x y, a[0]? = some x → b[0]? = some y → c.le y x) (hlast : ∀ x, a[a.size - 1]? = some x → ∀ y, y ∈ b.toList → c.le y x)
    (h : ∀ res st', Sm st st' → Fi c a b res → Q res st') : c.wp (ML a b) Q st := by
  refine wpS_bind (wp_rule ?_)
  dsimp only
  obtain ⟨y0, ey0, oy0⟩ := ok_at ob nb
  obtain ⟨x0, ex0, ox0⟩ := ok_at oa na
  refine wpS_bind (wp_el ey0 ?_)
  have hl : ∀ (o : Array Keyed) (i j : Nat), MgA c a b o i j → i + 1 = a.size → Fi c a b (o ++ b.extract j ++ a.extract i) := by
    intro o i j hm hi
    refine hm.last ha hb hi ?_
    intro x hx
    exact hlast x (by rw [← hi]; exact hx)
  have hst : MgA c a b #[y0] 0 1 := by
    have := (MgA.mk (c := c) (a := a) (b := b) (out := #[]) (ia := 0) (ib := 0) ⟨List.Pairwise.nil, by simp, by simp, by simp⟩ rfl (Nat.zero_le _) (Nat.zero_le _)).pushB ha hb ex0 ey0 (hfirst _ _ ex0 ey0)
    exact this
  by_cases h1 : (1 == b.size) = true
  · rw [if_pos h1]
    exact wpS_pure (h _ _ (Sm.refl _) (hst.done ha hb (.inr (by simpa using h1))))
  rw [if_neg h1]
  by_cases h2 : (0 + 1 == a.size) = true
  · rw [if_pos h2]
    exact wpS_pure (h _ _ (Sm.refl _) (hl _ _ _ hst (by simpa using h2)))
  rw [if_neg h2]
  simp only [beq_iff_eq] at h1 h2
  refine wpS_bind (wpS_get ?_)
  refine wpS_bind (wpS_mono (wpS_forRange
    (I := fun x r st' => r.1 = none ∧ Sm st st' ∧ MgA c a b r.2.1 r.2.2.1 r.2.2.2.1 ∧ r.2.2.1 + 1 < a.size ∧ r.2.2.2.1 < b.size ∧ x + 1 ≤ r.2.1.size)
    (Q := fun r st' => ∃ res, r.1 = some res ∧ Sm st st' ∧ Fi c a b res) ?_ ?_ ⟨rfl, Sm.refl _, hst, by dsimp only; omega, by dsimp only; omega, Nat.le_refl _⟩) ?_)
  · rintro xo ⟨r, o, ia, ib, g⟩ st1 - hx1 ⟨e, s1, m1, b1, b2, b3⟩
    dsimp only at e s1 m1 b1 b2 b3 ⊢
    subst e
    refine wpS_bind (wpS_mono (wpS_forRange
      (I := fun x r st' => r.1 = none ∧ Sm st st' ∧ MgA c a b r.2.1 r.2.2.1 r.2.2.2.1 ∧ r.2.2.1 + 1 < a.size ∧ r.2.2.2.1 < b.size ∧ xo + 1 + x ≤ r.2.1.size)
      (Q := fun r st' => (∃ res, r.1 = some res ∧ Sm st st' ∧ Fi c a b res) ∨ (r.1 = none ∧ Sm st st' ∧ MgA c a b r.2.1 r.2.2.1 r.2.2.2.1 ∧ r.2.2.1 + 1 < a.size ∧ r.2.2.2.1 < b.size ∧ xo + 2 ≤ r.2.1.size)) ?_ ?_
      ⟨rfl, s1, m1, b1, b2, b3⟩) ?_)
    · rintro x ⟨r, o, ia, ib, u, v⟩ st1 - hx2 ⟨e, s1, m1, b1, b2, b3⟩
      dsimp only at e s1 m1 b1 b2 b3 ⊢
      subst e
      obtain ⟨y, ey, oy⟩ := ok_at ob b2
      obtain ⟨z, ez, oz⟩ := ok_at oa (i := ia) (by omega)
      refine wpS_bind (wp_el ey (wpS_bind (wp_el ez (wpS_bind (wp_lt (s1.k.trans hk) oy oz ?_)))))
      dsimp only
      cases eq : c.lt y z with
      | true =>
        rw [if_pos rfl]
        refine wpS_bind (wp_el ey ?_)
        have m2 := m1.pushB ha hb ez ey (Cx.le_of_lt eq)
        have z2 := m2.z
        have z1 := m1.z
        by_cases q : (ib + 1 == b.size) = true
        · rw [if_pos q]
          exact wpS_pure (.inl ⟨_, rfl, s1, m2.done ha hb (.inr (by simpa using q))⟩)
        rw [if_neg q]
        simp only [beq_iff_eq] at q
        split
        · exact wpS_pure (.inr ⟨rfl, s1, m2, b1, by dsimp only; omega, by dsimp only; omega⟩)
        · exact wpS_pure ⟨rfl, s1, m2, b1, by dsimp only; omega, by dsimp only; omega⟩
      | false =>
        rw [if_neg (by simp)]
        refine wpS_bind (wp_el ez ?_)
        have m2 := m1.pushA ha hb ez ey eq
        have z2 := m2.z
        have z1 := m1.z
        by_cases q : (ia + 1 + 1 == a.size) = true
        · rw [if_pos q]
          exact wpS_pure (.inl ⟨_, rfl, s1, hl _ _ _ m2 (by simpa using q)⟩)
        rw [if_neg q]
        simp only [beq_iff_eq] at q
        split
        · exact wpS_pure (.inr ⟨rfl, s1, m2, by dsimp only; omega, b2, by dsimp only; omega⟩)
        · exact wpS_pure ⟨rfl, s1, m2, by dsimp only; omega, b2, by dsimp only; omega⟩
    · rintro ⟨r, o, ia, ib, u, v⟩ st1 ⟨e, s1, m1, b1, b2, b3⟩
      exact .inr ⟨e, s1, m1, b1, b2, by dsimp only at b3 ⊢; omega⟩
    · rintro ⟨r, o, ia, ib, u, v⟩ st1 (⟨res, e, s1, f1⟩ | ⟨e, s1, m1, b1, b2, b3⟩)
      · dsimp only at e ⊢
        subst e
        exact wpS_pure ⟨res, rfl, s1, f1⟩
      dsimp only at e s1 m1 b1 b2 b3 ⊢
      subst e
      refine wpS_bind (wp_rule ?_)
      refine wpS_bind (wpS_mono (wpS_forRange
        (I := fun x r st' => r.1 = none ∧ Sm st st' ∧ MgA c a b r.2.1 r.2.2.1 r.2.2.2.1 ∧ r.2.2.1 + 1 < a.size ∧ r.2.2.2.1 < b.size ∧ xo + 2 ≤ r.2.1.size)
        (Q := fun r st' => (∃ res, r.1 = some res ∧ Sm st st' ∧ Fi c a b res) ∨ (r.1 = none ∧ Sm st st' ∧ MgA c a b r.2.1 r.2.2.1 r.2.2.2.1 ∧ r.2.2.1 + 1 < a.size ∧ r.2.2.2.1 < b.size ∧ xo + 2 ≤ r.2.1.size)) ?_ ?_
        ⟨rfl, s1, m1, b1, b2, b3⟩) ?_)
      · clear s1 m1 b1 b2 b3 hst h h1 h2
        rintro x ⟨r, o, ia, ib, g, u, v⟩ st1 - hx2 ⟨e, s0, m1, b1, b2, b3⟩
        dsimp only at e s0 m1 b1 b2 b3 ⊢
        subst e
        refine wp_ite (fun _ => ?_) (fun _ => ?_)
        all_goals
          refine wpS_bind (wp_sg ?_)
          obtain ⟨y, ey, oy⟩ := ok_at ob b2
          obtain ⟨s1, hs1⟩ : ∃ s1, s1 = s0.g (g - 1) := ⟨_, rfl⟩
          have s2 := s0.g g
          refine wpS_bind (wp_el ey (wpS_bind (gal_lo_a (s0.k.trans hk) ha oa oy (by omega) ?_)))
          intro k hk1 hk2 hk3
          dsimp only
          have m2 := m1.appA ha hb ey hk1 hk2
          have z2 := m2.z
          have z1 := m1.z
          refine wp_ite (fun k0 => wp_beq (fun q => ?_) (fun q => wp_beq (fun q2 => ?_) (fun q2 => ?_))) (fun k0 => ?_)
          · exact wpS_pure (.inl ⟨_, rfl, by first | exact s1 | exact s2, hl _ _ _ m2 q⟩)
          · exact wpS_pure (.inl ⟨_, rfl, by first | exact s1 | exact s2, m2.done ha hb (.inl q2)⟩)
          rotate_left
          have ek : k = 0 := by omega
          subst ek
          obtain ⟨z, ez, oz⟩ := ok_at oa (i := ia) (by omega)
          have lyz : c.le y z := Cx.le_of_lt (hk3 0 z (Nat.le_refl _) ez)
          have q : ¬ ia + 1 = a.size := by omega
          replace m2 := m1
          clear z2 m1 z1 hk1 hk2 hk3 k0
          have la := m2.z
          generalize o = O at m2 b3 la ⊢
          generalize ia = I at m2 q b1 ez la ⊢
          rotate_left
          obtain ⟨z, ez, oz⟩ := ok_at oa (i := ia + k) (by omega)
          have lyz : c.le y z := Cx.le_of_lt (hk3 k z (Nat.le_refl _) ez)
          replace b3 : xo + 2 ≤ (o ++ a.extract ia (ia + k)).size := by omega
          replace b1 : ia + k + 1 < a.size := by omega
          clear z2 m1 z1 hk1 hk2 hk3
          have la := m2.z
          generalize o ++ a.extract ia (ia + k) = O at m2 b3 la ⊢
          generalize ia + k = I at m2 q b1 ez la ⊢
          all_goals
            refine wpS_bind (wp_el ey ?_)
            replace m2 := m2.pushB ha hb ez ey lyz
            have z2 := m2.z
            refine wp_beq (fun p => ?_) (fun p => ?_)
            · exact wpS_pure (.inl ⟨_, rfl, by first | exact s1 | exact s2, m2.done ha hb (.inr p)⟩)
            refine wpS_bind (wp_el ez (wpS_bind (gal_lo_b (s0.k.trans hk) hb ob oz (by omega) (by omega) ?_)))
            intro l hl1 hl2 hl3
            have m3 := m2.appB ha hb ez (by omega) (fun i y hi hy => Cx.le_of_lt (hl2 i y hi hy))
            have z3 := m3.z
            dsimp only
            refine wp_ite (fun l0 => wp_beq (fun p2 => ?_) (fun p2 => ?_)) (fun l0 => ?_)
            · exact wpS_pure (.inl ⟨_, rfl, by first | exact s1 | exact s2, m3.done ha hb (.inr p2)⟩)
            obtain ⟨w, ew, ow⟩ := ok_at ob (i := ib + 1 + l) (by omega)
            have lzw : c.le z w := hl3 l w (Nat.le_refl _) (by omega) ew
            replace m2 := m3
            replace z2 := z3
            rotate_left
            have el : l = 0 := by omega
            subst el
            obtain ⟨w, ew, ow⟩ := ok_at ob (i := ib + 1) (by omega)
            have lzw : c.le z w := hl3 0 w (Nat.le_refl _) (by omega) ew
            all_goals
              refine wpS_bind (wp_el ez ?_)
              replace m2 := m2.pushA ha hb ez ew lzw
              have z4 := m2.z
              refine wp_beq (fun p3 => ?_) (fun p3 => wp_ite (fun _ => ?_) (fun _ => ?_))
              · exact wpS_pure (.inl ⟨_, rfl, by first | exact s1 | exact s2, hl _ _ _ m2 p3⟩)
              · exact wpS_pure (.inr ⟨rfl, by first | exact s1 | exact s2, m2, by dsimp only; omega, by dsimp only; omega, by dsimp only; omega⟩)
              · exact wpS_pure ⟨rfl, by first | exact s1 | exact s2, m2, by dsimp only; omega, by dsimp only; omega, by dsimp only; omega⟩
      · rintro ⟨r, o, ia, ib, g, u, v⟩ st1 ⟨e, s1, m1, b1, b2, b3⟩
        exact .inr ⟨e, s1, m1, b1, b2, b3⟩
      · rintro ⟨r, o, ia, ib, g, u, v⟩ st1 (⟨res, e, s1, f1⟩ | ⟨e, s1, m1, b1, b2, b3⟩)
        · dsimp only at e ⊢
          subst e
          exact wpS_pure ⟨res, rfl, s1, f1⟩
        dsimp only at e s1 m1 b1 b2 b3 ⊢
        subst e
        refine wpS_bind (wp_sg ?_)
        exact wpS_pure ⟨rfl, s1.g _, m1, b1, b2, b3⟩
  · rintro ⟨r, o, ia, ib, g⟩ st1 ⟨e, s1, m1, b1, b2, b3⟩
    have z1 := m1.z
    dsimp only at b1 b2 b3 z1
    omega
  · rintro ⟨r, o, ia, ib, g⟩ st1 ⟨res, e, s1, f1⟩
    dsimp only at e ⊢
    subst e
    exact wpS_pure (h _ _ s1 f1)
end
end TS
end
section
namespace TS
set_option autoImplicit false
open PySem PyProof PyProof.Rows
section
variable {c : Cx} {a b out : Array Keyed} {na nb at' : Nat}
structure MgH (c : Cx) (a b out : Array Keyed) (na nb : Nat) : Prop where
  m : Mg (fun x y => c.le y x) out.toList (a.toList.take na).reverse (b.toList.take nb).reverse (a.toList ++ b.toList)
  z : out.size + na + nb = a.size + b.size
  la : na ≤ a.size
  lb : nb ≤ b.size
theorem take_split {l : List Keyed} {i n : Nat} (h : i ≤ n) : (l.take n).reverse = ((l.take n).drop i).reverse ++ (l.take i).reverse := by
  rw [← List.reverse_append]
  congr 1
  have : l.take i = (l.take n).take i := by rw [List.take_take, Nat.min_eq_left h]
  rw [this, List.take_append_drop]
theorem rev_pw {l : Array Keyed} (n : Nat) (h : srt c l) : ((l.toList.take n).reverse).Pairwise (fun x y => c.le y x) := by
  rw [List.pairwise_reverse]
  exact List.Pairwise.sublist (List.take_sublist _ _) h
theorem mem_rev_drop {l : List Keyed} {i n : Nat} {x : Keyed} (h : x ∈ ((l.take n).drop i).reverse) : ∃ j, i ≤ j ∧ j < n ∧ l[j]? = some x := by
  rw [List.mem_reverse] at h
  obtain ⟨j, e⟩ := mem_drop h
  have hj := List.getElem?_eq_some_iff.mp e
  obtain ⟨hj, e2⟩ := hj
  rw [List.length_take] at hj
  rw [List.getElem_take] at e2
  exact ⟨i + j, by omega, by omega, by rw [List.getElem?_eq_getElem (by omega), e2]⟩
theorem mem_rev_take {l : List Keyed} {n : Nat} {x : Keyed} (h : x ∈ (l.take n).reverse) : ∃ j, j < n ∧ l[j]? = some x := by
  obtain ⟨j, _, h2, h3⟩ := mem_rev_drop (i := 0) (by simpa using h)
  exact ⟨j, h2, h3⟩
theorem ext_rev {i n : Nat} : (out ++ (a.extract i n).reverse).toList = out.toList ++ ((a.toList.take n).drop i).reverse := by
  simp [List.extract, List.drop_take]
theorem MgH.appA (h : MgH c a b out na nb) (ha : srt c a) (hb : srt c b) {y : Keyed} (n0 : 0 < nb) (hy : b[nb - 1]? = some y) (hk : at' ≤ na)
    (hx : ∀ i x, at' ≤ i → i < na → a[i]? = some x → c.le y x) : MgH c a b (out ++ (a.extract at' na).reverse) at' nb := by
  have hla := h.la
  refine ⟨?_, ?_, by omega, h.lb⟩
  · have hm := h.m
    have hp := rev_pw na ha
    rw [take_split hk] at hm hp
    rw [ext_rev]
    refine hm.stepL hp ?_
    intro x hxm z hz
    obtain ⟨j, j1, j2, ej⟩ := mem_rev_drop hxm
    obtain ⟨i, i1, ei⟩ := mem_rev_take hz
    rw [Array.getElem?_toList] at ej ei
    exact Cx.le_trans (srt_le hb (by omega) ei hy) (hx j x j1 j2 ej)
  · have := h.z
    rw [Array.size_append, Array.size_reverse, Array.size_extract]
    omega
theorem MgH.appB (h : MgH c a b out na nb) (ha : srt c a) (hb : srt c b) {x : Keyed} (n0 : 0 < na) (hx : a[na - 1]? = some x) (hk : at' ≤ nb)
    (hy : ∀ i y, at' ≤ i → i < nb → b[i]? = some y → c.le x y) : MgH c a b (out ++ (b.extract at' nb).reverse) na at' := by
  have hlb := h.lb
  refine ⟨?_, ?_, h.la, by omega⟩
  · have hm := h.m.symm
    have hp := rev_pw nb hb
    rw [take_split hk] at hm hp
    rw [ext_rev]
    refine (hm.stepL hp ?_).symm
    intro y hym z hz
    obtain ⟨j, j1, j2, ej⟩ := mem_rev_drop hym
    obtain ⟨i, i1, ei⟩ := mem_rev_take hz
    rw [Array.getElem?_toList] at ej ei
    exact Cx.le_trans (srt_le ha (by omega) ei hx) (hy j y j1 j2 ej)
  · have := h.z
    rw [Array.size_append, Array.size_reverse, Array.size_extract]
    omega
theorem push_rev {x : Keyed} (n0 : 0 < na) (hx : a[na - 1]? = some x) : out.push x = out ++ (a.extract (na - 1) na).reverse := by
  rw [push_ext hx, Nat.sub_add_cancel n0]
  congr 1
  apply Array.ext'
  obtain ⟨hi, rfl⟩ := Array.getElem?_eq_some_iff.mp hx
  rw [Array.toList_reverse]
  simp only [Array.toList_extract, List.extract]
  rw [show na - (na - 1) = 1 by omega, List.drop_eq_getElem_cons (by simpa using hi)]
  simp
theorem MgH.pushA (h : MgH c a b out na nb) (ha : srt c a) (hb : srt c b) {x y : Keyed} (n0 : 0 < nb) (n1 : 0 < na) (hx : a[na - 1]? = some x) (hy : b[nb - 1]? = some y) (hxy : c.le y x) : MgH c a b (out.push x) (na - 1) nb := by
  rw [push_rev n1 hx]
  refine h.appA ha hb n0 hy (Nat.sub_le _ _) ?_
  intro i z h1 h2 hz
  have : i = na - 1 := by omega
  subst this
  rw [hx] at hz
  cases hz
  exact hxy
theorem MgH.pushB (h : MgH c a b out na nb) (ha : srt c a) (hb : srt c b) {x y : Keyed} (n0 : 0 < nb) (n1 : 0 < na) (hx : a[na - 1]? = some x) (hy : b[nb - 1]? = some y) (hxy : c.le x y) : MgH c a b (out.push y) na (nb - 1) := by
  rw [push_rev n0 hy]
  refine h.appB ha hb n1 hx (Nat.sub_le _ _) ?_
  intro i z h1 h2 hz
  have : i = nb - 1 := by omega
  subst this
  rw [hy] at hz
  cases hz
  exact hxy
theorem fin_rev {r : List Keyed} {O L R T : List Keyed} (h : Mg (fun x y => c.le y x) O L R T) (hs : (L ++ R).Pairwise (fun x y => c.le y x)) (e : r = (O ++ (L ++ R)).reverse) : r.Pairwise c.le ∧ r.Perm T := by
  obtain ⟨h1, h2⟩ := h.fin hs
  subst e
  exact ⟨by rw [List.pairwise_reverse]; exact h1, (List.reverse_perm _).trans h2⟩
theorem MgH.done (h : MgH c a b out na nb) (ha : srt c a) (hb : srt c b) (he : na = 0 ∨ nb = 0) : Fi c a b (a.extract 0 na ++ b.extract 0 nb ++ out.reverse) := by
  have hs : ((b.toList.take nb).reverse ++ (a.toList.take na).reverse).Pairwise (fun x y => c.le y x) := by
    rcases he with he | he
    · subst he; simpa using rev_pw nb hb
    · subst he; simpa using rev_pw na ha
  exact fin_rev h.m.symm hs (by simp [List.extract])
theorem MgH.first (h : MgH c a b out na nb) (ha : srt c a) (_hb : srt c b) (he : nb = 1) (hl : ∀ y, b[0]? = some y → ∀ x, x ∈ a.toList → c.le y x) : Fi c a b (b.extract 0 nb ++ a.extract 0 na ++ out.reverse) := by
  subst he
  have hlb := h.lb
  have ed : b.toList.take 1 = [b[0]] := by
    obtain ⟨l⟩ := b
    cases l with
    | nil => simp at hlb
    | cons x l => simp
  have hs : ((a.toList.take na).reverse ++ (b.toList.take 1).reverse).Pairwise (fun x y => c.le y x) := by
    rw [ed, List.pairwise_append]
    refine ⟨rev_pw na ha, List.pairwise_singleton _ _, ?_⟩
    intro x hx y hy
    rw [List.mem_singleton.mp hy]
    exact hl _ (getElem?_pos b 0 (by omega)) x (List.mem_of_mem_take (List.mem_reverse.mp hx))
  exact fin_rev h.m hs (by simp [List.extract])
theorem wp_hi {st : SortSt} {Q : Array Keyed → SortSt → Prop} (hk : kindOf st = c.kd) (ha : srt c a) (hb : srt c b) (oa : okA c a) (ob : okA c b) (na : 0 < a.size) (nb : 0 < b.size)
    (hfirst : ∀ y, b[0]? = some y → ∀ x, x ∈ a.toList → c.le y x) (hlast : ∀ x y, a[a.size - 1]? = some x → b[b.size - 1]? = some y → c.le y x)
    (h : ∀ res st', Sm st st' → Fi c a b res → Q res st') : c.wp (MH a b) Q st := by
  refine wpS_bind (wp_rule ?_)
  dsimp only
  obtain ⟨y0, ey0, oy0⟩ := ok_at ob (i := b.size - 1) (by omega)
  obtain ⟨x0, ex0, ox0⟩ := ok_at oa (i := a.size - 1) (by omega)
  refine wpS_bind (wp_el ex0 ?_)
  have hl : ∀ (o : Array Keyed) (i j : Nat), MgH c a b o i j → j = 1 → Fi c a b (b.extract 0 j ++ a.extract 0 i ++ o.reverse) := fun o i j hm hi => hm.first ha hb hi hfirst
  have hst : MgH c a b #[x0] (a.size - 1) b.size := by
    have := (MgH.mk (c := c) (a := a) (b := b) (out := #[]) (na := a.size) (nb := b.size) ⟨List.Pairwise.nil, by simp, by simp, by
      simp only [List.nil_append]
      rw [← Array.length_toList, ← Array.length_toList, List.take_length, List.take_length]
      exact (List.reverse_perm _).append (List.reverse_perm _)⟩ (by simp) (Nat.le_refl _) (Nat.le_refl _)).pushA ha hb nb na ex0 ey0 (hlast _ _ ex0 ey0)
    exact this
  refine wp_beq (fun h1 => ?_) (fun h1 => wp_beq (fun h2 => ?_) (fun h2 => ?_))
  · exact wpS_pure (h _ _ (Sm.refl _) (hst.done ha hb (.inl h1)))
  · exact wpS_pure (h _ _ (Sm.refl _) (hl _ _ _ hst h2))
  refine wpS_bind (wpS_get ?_)
  refine wpS_bind (wpS_mono (wpS_forRange
    (I := fun x r st' => r.1 = none ∧ Sm st st' ∧ MgH c a b r.2.2.2.1 r.2.1 r.2.2.1 ∧ 0 < r.2.1 ∧ 1 < r.2.2.1 ∧ x + 1 ≤ r.2.2.2.1.size)
    (Q := fun r st' => ∃ res, r.1 = some res ∧ Sm st st' ∧ Fi c a b res) ?_ ?_ ⟨rfl, Sm.refl _, hst, by dsimp only; omega, by dsimp only; omega, Nat.le_refl _⟩) ?_)
  · rintro xo ⟨r, p, q, o, g⟩ st1 - hx1 ⟨e, s1, m1, b1, b2, b3⟩
    dsimp only at e s1 m1 b1 b2 b3 ⊢
    subst e
    refine wpS_bind (wpS_mono (wpS_forRange
      (I := fun x r st' => r.1 = none ∧ Sm st st' ∧ MgH c a b r.2.2.2.1 r.2.1 r.2.2.1 ∧ 0 < r.2.1 ∧ 1 < r.2.2.1 ∧ xo + 1 + x ≤ r.2.2.2.1.size)
      (Q := fun r st' => (∃ res, r.1 = some res ∧ Sm st st' ∧ Fi c a b res) ∨ (r.1 = none ∧ Sm st st' ∧ MgH c a b r.2.2.2.1 r.2.1 r.2.2.1 ∧ 0 < r.2.1 ∧ 1 < r.2.2.1 ∧ xo + 2 ≤ r.2.2.2.1.size)) ?_ ?_
      ⟨rfl, s1, m1, b1, b2, b3⟩) ?_)
    · rintro x ⟨r, p, q, o, u, v⟩ st1 - hx2 ⟨e, s1, m1, b1, b2, b3⟩
      dsimp only at e s1 m1 b1 b2 b3 ⊢
      subst e
      have la := m1.la
      have lb := m1.lb
      obtain ⟨y, ey, oy⟩ := ok_at ob (i := q - 1) (by omega)
      obtain ⟨z, ez, oz⟩ := ok_at oa (i := p - 1) (by omega)
      refine wpS_bind (wp_el ey (wpS_bind (wp_el ez (wpS_bind (wp_lt (s1.k.trans hk) oy oz ?_)))))
      have z1 := m1.z
      refine wp_ite (fun eq => ?_) (fun eq => ?_)
      · have m2 := m1.pushA ha hb (by omega) b1 ez ey (Cx.le_of_lt eq)
        have z2 := m2.z
        refine wpS_bind (wp_el ez (wp_beq (fun w => ?_) (fun w => wp_ite (fun _ => ?_) (fun _ => ?_))))
        · exact wpS_pure (.inl ⟨_, rfl, s1, m2.done ha hb (.inl w)⟩)
        · exact wpS_pure (.inr ⟨rfl, s1, m2, by dsimp only; omega, b2, by dsimp only; omega⟩)
        · exact wpS_pure ⟨rfl, s1, m2, by dsimp only; omega, b2, by dsimp only; omega⟩
      · have m2 := m1.pushB ha hb (by omega) b1 ez ey (by simpa [Cx.le] using eq)
        have z2 := m2.z
        refine wpS_bind (wp_el ey (wp_beq (fun w => ?_) (fun w => wp_ite (fun _ => ?_) (fun _ => ?_))))
        · exact wpS_pure (.inl ⟨_, rfl, s1, hl _ _ _ m2 w⟩)
        · exact wpS_pure (.inr ⟨rfl, s1, m2, b1, by dsimp only; omega, by dsimp only; omega⟩)
        · exact wpS_pure ⟨rfl, s1, m2, b1, by dsimp only; omega, by dsimp only; omega⟩
    · rintro ⟨r, p, q, o, u, v⟩ st1 ⟨e, s1, m1, b1, b2, b3⟩
      exact .inr ⟨e, s1, m1, b1, b2, by dsimp only at b3 ⊢; omega⟩
    · rintro ⟨r, p, q, o, u, v⟩ st1 (⟨res, e, s1, f1⟩ | ⟨e, s1, m1, b1, b2, b3⟩)
      · dsimp only at e ⊢
        subst e
        exact wpS_pure ⟨res, rfl, s1, f1⟩
      dsimp only at e s1 m1 b1 b2 b3 ⊢
      subst e
      refine wpS_bind (wp_rule ?_)
      refine wpS_bind (wpS_mono (wpS_forRange
        (I := fun x r st' => r.1 = none ∧ Sm st st' ∧ MgH c a b r.2.2.2.1 r.2.1 r.2.2.1 ∧ 0 < r.2.1 ∧ 1 < r.2.2.1 ∧ xo + 2 ≤ r.2.2.2.1.size)
        (Q := fun r st' => (∃ res, r.1 = some res ∧ Sm st st' ∧ Fi c a b res) ∨ (r.1 = none ∧ Sm st st' ∧ MgH c a b r.2.2.2.1 r.2.1 r.2.2.1 ∧ 0 < r.2.1 ∧ 1 < r.2.2.1 ∧ xo + 2 ≤ r.2.2.2.1.size)) ?_ ?_
        ⟨rfl, s1, m1, b1, b2, b3⟩) ?_)
      · clear s1 m1 b1 b2 b3 hst h h1 h2
        rintro x ⟨r, p, q, o, g, u, v⟩ st1 - hx2 ⟨e, s0, m1, b1, b2, b3⟩
        dsimp only at e s0 m1 b1 b2 b3 ⊢
        subst e
        refine wp_ite (fun _ => ?_) (fun _ => ?_)
        all_goals
          refine wpS_bind (wp_sg ?_)
          have la := m1.la
          have lb := m1.lb
          obtain ⟨y, ey, oy⟩ := ok_at ob (i := q - 1) (by omega)
          have s1 := s0.g (g - 1)
          have s2 := s0.g g
          refine wpS_bind (wp_el ey (wpS_bind (gal_a (s0.k.trans hk) oy (by omega) (fun i j x z hij _ hx hz => srt_le ha (by omega) hx hz) (fun i hi => ok_at oa (by omega)) ?_)))
          intro k hk1 hk2 hk3
          simp only [Nat.zero_add] at hk2 hk3
          dsimp only
          have m2 := m1.appA ha hb (by omega) ey hk1 (fun i x h1 h2 hx => Cx.le_of_lt (hk3 i x h1 h2 hx))
          have z2 := m2.z
          have z1 := m1.z
          refine wp_ite (fun k0 => wp_beq (fun w => ?_) (fun w => ?_)) (fun k0 => ?_)
          · exact wpS_pure (.inl ⟨_, rfl, by first | exact s1 | exact s2, m2.done ha hb (.inl w)⟩)
          obtain ⟨z, ez, oz⟩ := ok_at oa (i := k - 1) (by omega)
          have lzy : c.le z y := hk2 (k - 1) z (by omega) ez
          replace b1 : 0 < k := by omega
          replace b3 : xo + 2 ≤ (o ++ (a.extract k p).reverse).size := by omega
          clear m1 z1 z2 hk2 hk3 la hk1 k0
          have la := m2.la
          have z1 := m2.z
          generalize o ++ (a.extract k p).reverse = O at m2 b3 z1 ⊢
          generalize p - k = pk
          generalize k = P at m2 b1 w ez la z1 ⊢
          rotate_left
          have ek : k = p := by omega
          subst ek
          obtain ⟨z, ez, oz⟩ := ok_at oa (i := k - 1) (by omega)
          have lzy : c.le z y := hk2 (k - 1) z (by omega) ez
          replace m2 := m1
          have w : ¬ k = 0 := by omega
          clear m1 z2 hk2 hk3 hk1 k0
          generalize k - k = pk
          generalize o = O at m2 b3 z1 ⊢
          generalize k = P at m2 b1 w ez la z1 ⊢
          all_goals
            refine wpS_bind (wp_el ey ?_)
            replace m2 := m2.pushB ha hb (by omega) b1 ez ey lzy
            have z2 := m2.z
            refine wp_beq (fun t => ?_) (fun t => ?_)
            · exact wpS_pure (.inl ⟨_, rfl, by first | exact s1 | exact s2, hl _ _ _ m2 t⟩)
            refine wpS_bind (wp_el ez (wpS_bind (gal_lo_b (s0.k.trans hk) hb ob oz (by omega) (by omega) ?_)))
            intro l hl1 hl2 hl3
            simp only [Nat.zero_add] at hl2 hl3
            have m3 := m2.appB ha hb b1 ez hl1 (fun i y h1 h2 hy => hl3 i y h1 h2 hy)
            have z3 := m3.z
            dsimp only
            refine wp_ite (fun l0 => wp_beq (fun t2 => ?_) (fun t2 => wp_beq (fun t3 => ?_) (fun t3 => ?_))) (fun l0 => ?_)
            · exact wpS_pure (.inl ⟨_, rfl, by first | exact s1 | exact s2, hl _ _ _ m3 t2⟩)
            · exact wpS_pure (.inl ⟨_, rfl, by first | exact s1 | exact s2, m3.done ha hb (.inr t3)⟩)
            obtain ⟨f, ef, of⟩ := ok_at ob (i := l - 1) (by omega)
            have lfz : c.le f z := Cx.le_of_lt (hl2 (l - 1) f (by omega) ef)
            replace m2 := m3.pushA ha hb (by omega) b1 ez ef lfz
            rotate_left
            have el : l = q - 1 := by omega
            subst el
            obtain ⟨f, ef, of⟩ := ok_at ob (i := q - 1 - 1) (by omega)
            have lfz : c.le f z := Cx.le_of_lt (hl2 _ f (by omega) ef)
            replace m2 := m2.pushA ha hb (by omega) b1 ez ef lfz
            all_goals
              refine wpS_bind (wp_el ez ?_)
              have z4 := m2.z
              refine wp_beq (fun p3 => ?_) (fun p3 => wp_ite (fun _ => ?_) (fun _ => ?_))
              · exact wpS_pure (.inl ⟨_, rfl, by first | exact s1 | exact s2, m2.done ha hb (.inl p3)⟩)
              · exact wpS_pure (.inr ⟨rfl, by first | exact s1 | exact s2, m2, by dsimp only; omega, by dsimp only; omega, by dsimp only; omega⟩)
              · exact wpS_pure ⟨rfl, by first | exact s1 | exact s2, m2, by dsimp only; omega, by dsimp only; omega, by dsimp only; omega⟩
      · rintro ⟨r, p, q, o, g, u, v⟩ st1 ⟨e, s1, m1, b1, b2, b3⟩
        exact .inr ⟨e, s1, m1, b1, b2, b3⟩
      · rintro ⟨r, p, q, o, g, u, v⟩ st1 (⟨res, e, s1, f1⟩ | ⟨e, s1, m1, b1, b2, b3⟩)
        · dsimp only at e ⊢
          subst e
          exact wpS_pure ⟨res, rfl, s1, f1⟩
        dsimp only at e s1 m1 b1 b2 b3 ⊢
        subst e
        refine wpS_bind (wp_sg ?_)
        exact wpS_pure ⟨rfl, s1.g _, m1, b1, b2, b3⟩
  · rintro ⟨r, p, q, o, g⟩ st1 ⟨e, s1, m1, b1, b2, b3⟩
    have z1 := m1.z
    dsimp only at b1 b2 b3 z1
    omega
  · rintro ⟨r, p, q, o, g⟩ st1 ⟨res, e, s1, f1⟩
    dsimp only at e ⊢
    subst e
    exact wpS_pure (h _ _ s1 f1)
end
end TS
end
section
namespace TS
set_option autoImplicit false
open PySem PyProof PyProof.Rows
noncomputable abbrev MAt : Nat → StateT SortSt Sem Bool := sortPriv% PySem.Builtin.mergeAt
theorem put_at {s : Nat} : ∀ (l : List Keyed) (n : Nat) (xs : Array Keyed), s + n + l.length ≤ xs.size → ∀ k : Nat,
    ((l.zipIdx n).foldl (fun a x => a.setIfInBounds (s + x.2) x.1) xs)[k]? = if s + n ≤ k ∧ k < s + n + l.length then l[k - (s + n)]? else xs[k]?
  | [], n, xs, _, k => by rw [if_neg (by simp)]; rfl
  | x :: l, n, xs, h, k => by
    rw [List.length_cons] at h
    rw [List.zipIdx_cons, List.foldl_cons, put_at l (n + 1) _ (by rw [Array.size_setIfInBounds]; omega)]
    dsimp only
    rw [List.length_cons, Array.getElem?_setIfInBounds]
    by_cases h1 : k = s + n
    · subst h1
      rw [if_neg (by omega), if_pos rfl, if_pos (by omega), if_pos (by omega), Nat.sub_self]
      rfl
    · by_cases h2 : s + n ≤ k ∧ k < s + n + (l.length + 1)
      · rw [if_pos h2, if_pos (by omega)]
        obtain ⟨d, hd⟩ : ∃ d, k - (s + n) = d + 1 := ⟨k - (s + n) - 1, by omega⟩
        rw [hd, List.getElem?_cons_succ]
        congr 1
        omega
      · rw [if_neg h2, if_neg (by omega), if_neg (by omega)]
structure Loc (xs ys : Array Keyed) (lo hi : Nat) : Prop where
  p : ys.toList.Perm xs.toList
  o : ∀ i, i < lo ∨ hi ≤ i → ys[i]? = xs[i]?
theorem Loc.refl (xs : Array Keyed) (lo hi : Nat) : Loc xs xs lo hi := ⟨List.Perm.refl _, fun _ _ => rfl⟩
theorem Loc.trans {xs ys zs : Array Keyed} {lo hi : Nat} (h : Loc xs ys lo hi) (h2 : Loc ys zs lo hi) : Loc xs zs lo hi := ⟨h2.p.trans h.p, fun i hi => (h2.o i hi).trans (h.o i hi)⟩
theorem Loc.size {xs ys : Array Keyed} {lo hi : Nat} (h : Loc xs ys lo hi) : ys.size = xs.size := by simpa using h.p.length_eq
theorem Loc.wide {xs ys : Array Keyed} {lo hi lo' hi' : Nat} (h : Loc xs ys lo hi) (h1 : lo' ≤ lo) (h2 : hi ≤ hi') : Loc xs ys lo' hi' := ⟨h.p, fun i hi => h.o i (by omega)⟩
section
variable {c : Cx}
noncomputable def sg (c : Cx) (xs : Array Keyed) (lo hi : Nat) : Prop := ∀ i j x y, lo ≤ i → i ≤ j → j < hi → xs[i]? = some x → xs[j]? = some y → c.le x y
theorem sg_ext {xs : Array Keyed} {lo hi : Nat} (h : sg c xs lo hi) (hi2 : hi ≤ xs.size) : srt c (xs.extract lo hi) := by
  unfold srt
  rw [List.pairwise_iff_getElem]
  intro i j hi1 hj1 hij
  simp only [Array.length_toList, Array.size_extract] at hi1 hj1
  have e : ∀ m (hm : m < (xs.extract lo hi).toList.length), xs[lo + m]? = some (xs.extract lo hi).toList[m] := by
    intro m hm
    simp only [Array.length_toList, Array.size_extract] at hm
    rw [Array.getElem_toList, Array.getElem_extract]
    exact getElem?_pos _ _ _
  exact h (lo + i) (lo + j) _ _ (by omega) (by omega) (by omega) (e i _) (e j _)
theorem mem_ext {xs : Array Keyed} {lo hi : Nat} {x : Keyed} (h : x ∈ (xs.extract lo hi).toList) : ∃ p, lo ≤ p ∧ p < hi ∧ xs[p]? = some x := by
  obtain ⟨m, hm, e⟩ := List.getElem_of_mem h
  simp only [Array.length_toList, Array.size_extract] at hm
  rw [Array.getElem_toList, Array.getElem_extract] at e
  exact ⟨lo + m, by omega, by omega, by rw [← e]; exact getElem?_pos _ _ _⟩
theorem get_ext {xs : Array Keyed} {lo hi i : Nat} {x : Keyed} (h : (xs.extract lo hi)[i]? = some x) : lo + i < hi ∧ xs[lo + i]? = some x := by
  obtain ⟨hm, e⟩ := Array.getElem?_eq_some_iff.mp h
  simp only [Array.size_extract] at hm
  rw [Array.getElem_extract] at e
  exact ⟨by omega, by rw [← e]; exact getElem?_pos _ _ _⟩
theorem ok_ext {xs : Array Keyed} {lo hi : Nat} (h : okA c xs) : okA c (xs.extract lo hi) := by
  intro x hx
  obtain ⟨p, _, _, e⟩ := mem_ext hx
  obtain ⟨hp, rfl⟩ := Array.getElem?_eq_some_iff.mp e
  exact h _ (by simp)
noncomputable def putM (xs m : Array Keyed) (s : Nat) : Array Keyed := m.toList.zipIdx.foldl (fun a x => a.setIfInBounds (s + x.2) x.1) xs
theorem putM_at {xs m : Array Keyed} {s : Nat} (h : s + m.size ≤ xs.size) (k : Nat) : (putM xs m s)[k]? = if s ≤ k ∧ k < s + m.size then m[k - s]? else xs[k]? := by
  have := put_at (s := s) m.toList 0 xs (by simpa using h) k
  simpa [putM] using this
theorem putM_loc {xs m : Array Keyed} {s mid e : Nat} (h1 : s ≤ mid) (h2 : mid ≤ e) (he : e ≤ xs.size) (hm : m.toList.Perm ((xs.extract s mid).toList ++ (xs.extract mid e).toList)) : Loc xs (putM xs m s) s e ∧ m.size = e - s := by
  have hs : m.size = e - s := by
    have := hm.length_eq
    simp only [List.length_append, Array.length_toList, Array.size_extract] at this
    omega
  refine ⟨⟨?_, ?_⟩, hs⟩
  · have e1 : (putM xs m s).toList = xs.toList.take s ++ (m.toList ++ xs.toList.drop e) := by
      apply List.ext_getElem?
      intro k
      rw [Array.getElem?_toList, putM_at (by omega)]
      by_cases a1 : k < s
      · rw [if_neg (by omega), List.getElem?_append_left (by simp; omega), List.getElem?_take, if_pos a1, Array.getElem?_toList]
      · rw [List.getElem?_append_right (by simp; omega)]
        have e3 : (xs.toList.take s).length = s := by simp; omega
        rw [e3]
        by_cases a2 : k < e
        · rw [if_pos (by omega), List.getElem?_append_left (by simp; omega), Array.getElem?_toList]
        · rw [if_neg (by omega), List.getElem?_append_right (by simp; omega), List.getElem?_drop, Array.getElem?_toList]
          congr 1
          simp only [Array.length_toList]
          omega
    have e2 : xs.toList = xs.toList.take s ++ (((xs.extract s mid).toList ++ (xs.extract mid e).toList) ++ xs.toList.drop e) := by
      apply List.ext_getElem?
      intro k
      by_cases a1 : k < s
      · rw [List.getElem?_append_left (by simp; omega), List.getElem?_take, if_pos a1]
      · rw [List.getElem?_append_right (by simp; omega)]
        have e3 : (xs.toList.take s).length = s := by simp; omega
        rw [e3]
        by_cases a2 : k < e
        · rw [List.getElem?_append_left (by simp; omega)]
          by_cases a3 : k < mid
          · rw [List.getElem?_append_left (by simp; omega), Array.getElem?_toList, Array.getElem?_toList, Array.getElem?_extract, if_pos (by omega)]
            congr 1; omega
          · rw [List.getElem?_append_right (by simp; omega), Array.getElem?_toList, Array.getElem?_toList, Array.getElem?_extract, if_pos (by simp; omega)]
            congr 1; simp; omega
        · rw [List.getElem?_append_right (by simp; omega), List.getElem?_drop]
          congr 1
          simp
          omega
    rw [e1]
    conv => rhs; rw [e2]
    exact List.Perm.append_left _ (List.Perm.append_right _ hm)
  · intro i hi
    rw [putM_at (by omega), if_neg (by omega)]
theorem putM_sg {xs m : Array Keyed} {sa s mid e hi : Nat} (h0 : sa ≤ s) (h1 : s ≤ mid) (h2 : mid ≤ e) (h3 : e ≤ hi) (he : hi ≤ xs.size) (hm : m.toList.Perm ((xs.extract s mid).toList ++ (xs.extract mid e).toList)) (hsr : srt c m)
    (ha : sg c xs sa mid) (hb : sg c xs mid hi)
    (g1 : ∀ i j x y, sa ≤ i → i < s → mid ≤ j → j < hi → xs[i]? = some x → xs[j]? = some y → c.le x y)
    (g2 : ∀ i j x y, sa ≤ i → i < mid → e ≤ j → j < hi → xs[i]? = some x → xs[j]? = some y → c.le x y) : sg c (putM xs m s) sa hi := by
  obtain ⟨hl, hs⟩ := putM_loc h1 h2 (by omega) hm
  have mem : ∀ i x, s ≤ i → i < e → (putM xs m s)[i]? = some x → ∃ p, s ≤ p ∧ p < e ∧ xs[p]? = some x := by
    intro i x i1 i2 ex
    rw [putM_at (by omega), if_pos (by omega)] at ex
    obtain ⟨hx, rfl⟩ := Array.getElem?_eq_some_iff.mp ex
    have := hm.mem_iff.mp (show m[i - s] ∈ m.toList by simp)
    rcases List.mem_append.mp this with h | h
    · obtain ⟨p, p1, p2, p3⟩ := mem_ext h
      exact ⟨p, p1, by omega, p3⟩
    · obtain ⟨p, p1, p2, p3⟩ := mem_ext h
      exact ⟨p, by omega, p2, p3⟩
  have fir : ∀ i p x y, sa ≤ i → i < s → s ≤ p → p < hi → xs[i]? = some x → xs[p]? = some y → c.le x y := by
    intro i p x y i1 i2 p1 p2 ex ey
    by_cases hp : p < mid
    · exact ha i p x y i1 (by omega) hp ex ey
    · exact g1 i p x y i1 i2 (by omega) p2 ex ey
  have las : ∀ p j x y, sa ≤ p → p < e → e ≤ j → j < hi → xs[p]? = some x → xs[j]? = some y → c.le x y := by
    intro p j x y p1 p2 j1 j2 ex ey
    by_cases hp : p < mid
    · exact g2 p j x y p1 hp j1 j2 ex ey
    · exact hb p j x y (by omega) (by omega) j2 ex ey
  intro i j x y i1 i2 i3 ex ey
  by_cases a1 : i < s
  · rw [hl.o i (.inl a1)] at ex
    by_cases b1 : j < s
    · rw [hl.o j (.inl b1)] at ey
      exact ha i j x y i1 i2 (by omega) ex ey
    · by_cases b2 : j < e
      · obtain ⟨p, p1, p2, p3⟩ := mem j y (by omega) b2 ey
        exact fir i p x y i1 a1 p1 (by omega) ex p3
      · rw [hl.o j (.inr (by omega))] at ey
        exact fir i j x y i1 a1 (by omega) i3 ex ey
  · by_cases a2 : i < e
    · by_cases b2 : j < e
      · rw [putM_at (by omega), if_pos (by omega)] at ex ey
        exact srt_le hsr (by omega) ex ey
      · obtain ⟨p, p1, p2, p3⟩ := mem i x (by omega) a2 ex
        rw [hl.o j (.inr (by omega))] at ey
        exact las p j x y (by omega) p2 (by omega) i3 p3 ey
    · rw [hl.o i (.inr (by omega))] at ex
      rw [hl.o j (.inr (by omega))] at ey
      exact hb i j x y (by omega) i2 i3 ex ey
theorem wpS_set {Q : PUnit → SortSt → Prop} {st st1 : SortSt} (h : Q ⟨⟩ st1) : c.wp (set st1 : StateT SortSt Sem PUnit) Q st := by
  show wpS _ _ _ _ _ _ _
  unfold wpS; rw [StateT.run_set]; exact wpAny_pure ⟨rfl, h⟩
theorem wp_at {st : SortSt} {i sa na nb pa pb : Nat} {Q : Bool → SortSt → Prop} (hk : kindOf st = c.kd) (hfl : failedOf st = none) (hok : okA c (arrOf st))
    (hi : (pendingOf st)[i]? = some (sa, na, pa)) (hj : (pendingOf st)[i + 1]? = some (sa + na, nb, pb)) (n1 : 0 < na) (n2 : 0 < nb) (hsz : sa + na + nb ≤ (arrOf st).size)
    (ha : sg c (arrOf st) sa (sa + na)) (hb : sg c (arrOf st) (sa + na) (sa + na + nb))
    (h : ∀ st', kindOf st' = c.kd → failedOf st' = none → pendingOf st' = ((pendingOf st).setIfInBounds i (sa, na + nb, pa)).eraseIdxIfInBounds (i + 1) → Loc (arrOf st) (arrOf st') sa (sa + na + nb) → sg c (arrOf st') sa (sa + na + nb) → Q true st') :
    c.wp (MAt i) Q st := by
  refine wpS_bind (wpS_get ?_)
  dsimp only
  rw [hi, hj]
  dsimp only
  refine wpS_bind (wpS_set ?_)
  refine (fun H : ∀ st1, kindOf st1 = c.kd → failedOf st1 = none → arrOf st1 = arrOf st → pendingOf st1 = ((pendingOf st).setIfInBounds i (sa, na + nb, pa)).eraseIdxIfInBounds (i + 1) → c.wp _ Q st1 => H (SortSt.mk' (kindOf st) (arrOf st) (((pendingOf st).setIfInBounds i (sa, na + nb, pa)).eraseIdxIfInBounds (i + 1)) (gallopOf st) (failedOf st)) hk hfl rfl rfl) ?_
  intro st1 k1 f1 a1 p1
  clear hi hj
  obtain ⟨y, ey, oy⟩ := ok_at hok (i := sa + na) (by omega)
  refine wpS_bind (wp_el ey (wpS_bind (gal_a k1 oy n1 (fun i j x z hij hj hx hz => ha _ _ x z (by omega) (by omega) (by omega) hx hz) (fun i hi => ok_at hok (by omega)) ?_)))
  intro k hk1 hk2 hk3
  have g1 : ∀ p q x z, sa ≤ p → p < sa + k → sa + na ≤ q → q < sa + na + nb → (arrOf st)[p]? = some x → (arrOf st)[q]? = some z → c.le x z := by
    intro p q x z h1 h2 h3 h4 ex ez
    exact Cx.le_trans (hk2 (p - sa) x (by omega) (by rw [show sa + (p - sa) = p by omega]; exact ex)) (hb (sa + na) q y z (by omega) h3 h4 ey ez)
  refine wp_beq (fun q => ?_) (fun q => ?_)
  · refine wpS_pure (h st1 k1 f1 p1 (by rw [a1]; exact Loc.refl _ _ _) ?_)
    rw [a1]
    intro p r x z h1 h2 h3 ex ez
    by_cases hr : r < sa + na
    · exact ha p r x z h1 h2 hr ex ez
    · by_cases hp : p < sa + na
      · exact g1 p r x z h1 (by omega) (by omega) h3 ex ez
      · exact hb p r x z (by omega) h2 h3 ex ez
  obtain ⟨z, ez, oz⟩ := ok_at hok (i := sa + na - 1) (by omega)
  have ez' : (arrOf st)[sa + k + (na - k) - 1]? = some z := by rw [← ez]; congr 1; omega
  refine wpS_bind (wp_el ez' (wpS_bind (gal_b k1 oz (by omega) (fun i j x z hij hj hx hz => hb _ _ x z (by omega) (by omega) (by omega) hx hz) (fun i hi => ok_at hok (by omega)) ?_)))
  intro l hl1 hl2 hl3
  have g2 : ∀ p q x w, sa ≤ p → p < sa + na → sa + na + l ≤ q → q < sa + na + nb → (arrOf st)[p]? = some x → (arrOf st)[q]? = some w → c.le x w := by
    intro p q x w h1 h2 h3 h4 ex ew
    exact Cx.le_trans (ha p (sa + na - 1) x z h1 (by omega) (by omega) ex ez) (hl3 (q - (sa + na)) w (by omega) (by omega) (by rw [show sa + na + (q - (sa + na)) = q by omega]; exact ew))
  refine wp_beq (fun q2 => ?_) (fun q2 => ?_)
  · refine wpS_pure (h st1 k1 f1 p1 (by rw [a1]; exact Loc.refl _ _ _) ?_)
    rw [a1]
    intro p r x w h1 h2 h3 ex ew
    by_cases hr : r < sa + na
    · exact ha p r x w h1 h2 hr ex ew
    · by_cases hp : p < sa + na
      · exact g2 p r x w h1 hp (by omega) h3 ex ew
      · exact hb p r x w (by omega) h2 h3 ex ew
  have sA : srt c ((arrOf st).extract (sa + k) (sa + na)) := sg_ext (fun i j x y h1 h2 h3 => ha i j x y (by omega) h2 h3) (by omega)
  have sB : srt c ((arrOf st).extract (sa + na) (sa + na + l)) := sg_ext (fun i j x y h1 h2 h3 => hb i j x y h1 h2 (by omega)) (by omega)
  have zA : ((arrOf st).extract (sa + k) (sa + na)).size = na - k := by rw [Array.size_extract]; omega
  have zB : ((arrOf st).extract (sa + na) (sa + na + l)).size = l := by rw [Array.size_extract]; omega
  have pA : 0 < ((arrOf st).extract (sa + k) (sa + na)).size := by omega
  have pB : 0 < ((arrOf st).extract (sa + na) (sa + na + l)).size := by omega
  have fstB : ∀ p x, sa + k ≤ p → p < sa + na → (arrOf st)[p]? = some x → c.le y x := by
    intro p x h1 h2 ex
    exact Cx.le_of_lt (hk3 (p - sa) x (by omega) (by omega) (by rw [show sa + (p - sa) = p by omega]; exact ex))
  have lstA : ∀ p x, sa + na ≤ p → p < sa + na + l → (arrOf st)[p]? = some x → c.le x z := by
    intro p x h1 h2 ex
    exact Cx.le_of_lt (hl2 (p - (sa + na)) x (by omega) (by rw [show sa + na + (p - (sa + na)) = p by omega]; exact ex))
  have fin : ∀ (res : Array Keyed) (st' : SortSt), Sm st1 st' → Fi c ((arrOf st).extract (sa + k) (sa + na)) ((arrOf st).extract (sa + na) (sa + na + l)) res →
      c.wp (modify (fun s => SortSt.mk' (kindOf s) (putM (arrOf s) res (sa + k)) (pendingOf s) (gallopOf s) (failedOf s)) >>= fun _ => get >>= fun s => pure (failedOf s).isNone) Q st' := by
    intro res st' hs hf
    refine wpS_bind (wpS_modify (wpS_bind (wpS_get (wpS_pure ?_))))
    have e : (failedOf st').isNone = true := by rw [hs.f, f1]; rfl
    show Q (failedOf st').isNone _
    rw [e]
    refine h _ (hs.k.trans k1) (hs.f.trans f1) (hs.p.trans p1) ?_ ?_
    · show Loc _ (putM (arrOf st') res (sa + k)) _ _
      rw [hs.a, a1]
      exact (putM_loc (by omega) (by omega) (by omega) hf.2).1.wide (by omega) (by omega)
    · show sg c (putM (arrOf st') res (sa + k)) _ _
      rw [hs.a, a1]
      exact putM_sg (by omega) (by omega) (by omega) (by omega) hsz hf.2 hf.1 ha hb g1 g2
  refine wp_ite (fun _ => ?_) (fun _ => ?_)
  · refine wpS_bind (wp_lo k1 sA sB (ok_ext hok) (ok_ext hok) pA pB ?_ ?_ fin)
    · intro x w ex ew
      obtain ⟨_, ex⟩ := get_ext ex
      obtain ⟨_, ew⟩ := get_ext ew
      rw [Nat.add_zero, ey] at ew
      cases ew
      exact fstB _ x (by omega) (by omega) ex
    · intro x ex w hw
      obtain ⟨_, ex⟩ := get_ext ex
      rw [show sa + k + (((arrOf st).extract (sa + k) (sa + na)).size - 1) = sa + na - 1 by omega, ez] at ex
      cases ex
      obtain ⟨p, p1, p2, p3⟩ := mem_ext hw
      exact lstA p w p1 p2 p3
  · refine wpS_bind (wp_hi k1 sA sB (ok_ext hok) (ok_ext hok) pA pB ?_ ?_ fin)
    · intro w ew x hx
      obtain ⟨_, ew⟩ := get_ext ew
      rw [Nat.add_zero, ey] at ew
      cases ew
      obtain ⟨p, p1, p2, p3⟩ := mem_ext hx
      exact fstB p x p1 p2 p3
    · intro x w ex ew
      obtain ⟨_, ex⟩ := get_ext ex
      obtain ⟨_, ew⟩ := get_ext ew
      rw [show sa + k + (((arrOf st).extract (sa + k) (sa + na)).size - 1) = sa + na - 1 by omega, ez] at ex
      cases ex
      exact lstA _ w (by omega) (by omega) ew
end
end TS
end
section
namespace TS
set_option autoImplicit false
open PySem PyProof PyProof.Rows
noncomputable abbrev CR : Nat → Nat → StateT SortSt Sem (Option Nat) := sortPriv% PySem.Builtin.countRun
noncomputable abbrev BS : Nat → Nat → Nat → StateT SortSt Sem Bool := sortPriv% PySem.Builtin.binarySort
noncomputable abbrev LtA : Nat → Nat → StateT SortSt Sem (Option Bool) := sortPriv% PySem.Builtin.ltAt
noncomputable abbrev RS : Nat → Nat → StateT SortSt Sem Unit := sortPriv% PySem.Builtin.reverseSlice
noncomputable abbrev MD : Nat → Nat → StateT SortSt Sem Unit := sortPriv% PySem.Builtin.moveDown
structure St (c : Cx) (a0 : Array Keyed) (p0 : Array (Nat × Nat × Nat)) (lo hi : Nat) (st : SortSt) : Prop where
  k : kindOf st = c.kd
  f : failedOf st = none
  p : pendingOf st = p0
  l : Loc a0 (arrOf st) lo hi
section
variable {c : Cx} {a0 : Array Keyed} {p0 : Array (Nat × Nat × Nat)} {lo hi : Nat}
noncomputable def KV (c : Cx) (xs : Array Keyed) (i : Nat) : c.O.α := c.ky (xs[i]?.getD (.none, .none)).1
noncomputable def up (c : Cx) (xs : Array Keyed) (lo hi : Nat) : Prop := ∀ i j, lo ≤ i → i ≤ j → j < hi → c.O.kle (KV c xs i) (KV c xs j)
noncomputable def dn (c : Cx) (xs : Array Keyed) (lo hi : Nat) : Prop := ∀ i j, lo ≤ i → i ≤ j → j < hi → c.O.kle (KV c xs j) (KV c xs i)
noncomputable def ek (c : Cx) (xs : Array Keyed) (lo hi : Nat) : Prop := ∀ i, lo ≤ i → i < hi → KV c xs i = KV c xs (hi - 1)
theorem up_sg {xs : Array Keyed} (h : up c xs lo hi) : sg c xs lo hi := by
  intro i j x y h1 h2 h3 ex ey
  have := h i j h1 h2 h3
  unfold KV at this
  rw [ex, ey] at this
  exact this
theorem KV_congr {xs ys : Array Keyed} {i j : Nat} (h : xs[i]? = ys[j]?) : KV c xs i = KV c ys j := by unfold KV; rw [h]
theorem up_add {xs : Array Keyed} {n : Nat} (n0 : 0 < n) (h : up c xs lo (lo + n)) (hl : c.O.blt (KV c xs (lo + n)) (KV c xs (lo + n - 1)) = false) : up c xs lo (lo + (n + 1)) := by
  intro i j h1 h2 h3
  by_cases hj : j < lo + n
  · exact h i j h1 h2 hj
  · have : j = lo + n := by omega
    subst this
    by_cases hi : i = lo + n
    · subst hi; exact KeyOrd.kle_refl _
    · exact KeyOrd.kle_trans (h i (lo + n - 1) h1 (by omega) (by omega)) hl
theorem dn_add {xs : Array Keyed} {n : Nat} (n0 : 0 < n) (h : dn c xs lo (lo + n)) (hl : c.O.kle (KV c xs (lo + n)) (KV c xs (lo + n - 1))) : dn c xs lo (lo + (n + 1)) := by
  intro i j h1 h2 h3
  by_cases hj : j < lo + n
  · exact h i j h1 h2 hj
  · have : j = lo + n := by omega
    subst this
    by_cases hi : i = lo + n
    · subst hi; exact KeyOrd.kle_refl _
    · exact KeyOrd.kle_trans hl (h i (lo + n - 1) h1 (by omega) (by omega))
theorem KV_mir {xs : Array Keyed} {i j : Nat} (hj : j ≤ xs.size) (k : Nat) : KV c (mirror xs i j ((j - i) / 2)) k = if i ≤ k ∧ k < j then KV c xs (i + j - 1 - k) else KV c xs k := by
  have e := getElem?_mirror_all (i := i) hj k
  by_cases h : i ≤ k ∧ k < j
  · rw [if_pos h] at e ⊢; exact KV_congr e
  · rw [if_neg h] at e ⊢; exact KV_congr e
theorem KV_mir_eq {xs : Array Keyed} {i j : Nat} (hj : j ≤ xs.size) (h : ek c xs i j) (k : Nat) : KV c (mirror xs i j ((j - i) / 2)) k = KV c xs k := by
  rw [KV_mir hj]
  by_cases h1 : i ≤ k ∧ k < j
  · rw [if_pos h1, h (i + j - 1 - k) (by omega) (by omega), h k h1.1 h1.2]
  · rw [if_neg h1]
theorem mir_loc {xs : Array Keyed} {i j : Nat} (hj : j ≤ xs.size) (h1 : lo ≤ i) (h2 : j ≤ hi) : Loc xs (mirror xs i j ((j - i) / 2)) lo hi := by
  refine ⟨Array.perm_iff_toList_perm.mp (mirror_perm _ _ _ _), fun k hk => ?_⟩
  rw [getElem?_mirror_all hj, if_neg (by omega)]
theorem St.set {st : SortSt} {xs : Array Keyed} (h : St c a0 p0 lo hi st) (hl : Loc (arrOf st) xs lo hi) : St c a0 p0 lo hi (setArr st xs) := ⟨h.k, h.f, h.p, h.l.trans hl⟩
theorem St.ok {st : SortSt} (h : St c a0 p0 lo hi st) (ho : okA c a0) : okA c (arrOf st) := fun x hx => ho x (h.l.p.mem_iff.mp hx)
theorem wp_ltA {st : SortSt} {i j : Nat} {Q : Option Bool → SortSt → Prop} (h : St c a0 p0 lo hi st) (ho : okA c a0) (hi : i < a0.size) (hj : j < a0.size)
    (hq : Q (some (c.O.blt (KV c (arrOf st) i) (KV c (arrOf st) j))) st) : c.wp (LtA i j) Q st := by
  have hz := h.l.size
  obtain ⟨x, ex, ox⟩ := ok_at (h.ok ho) (i := i) (by omega)
  obtain ⟨y, ey, oy⟩ := ok_at (h.ok ho) (i := j) (by omega)
  refine wpS_bind (wpS_get ?_)
  refine wpS_bind (wp_el ex (wpS_bind (wp_el ey (wp_lt h.k ox oy ?_))))
  unfold KV at hq
  rw [ex, ey] at hq
  exact hq
theorem wp_rs {st : SortSt} {i j : Nat} {Q : Unit → SortSt → Prop} (h : Q () (setArr st (mirror (arrOf st) i j ((j - i) / 2)))) : c.wp (RS i j) Q st := wpS_modify h
theorem wp_md {st : SortSt} {i j : Nat} {Q : Unit → SortSt → Prop} (h : Q () (setArr st (bubble (arrOf st) i (i - j)))) : c.wp (MD i j) Q st := wpS_modify h
theorem up_loop {st : SortSt} {nrem n : Nat} (h : St c a0 p0 lo (lo + nrem) st) (ho : okA c a0) (hz : lo + nrem ≤ a0.size) (n0 : 0 < n) (hn : n ≤ nrem) (hu : up c (arrOf st) lo (lo + n)) :
    c.wp (forIn [n:nrem] ((none : Option (Option Nat)), n) fun _ r => LtA (lo + r.2) (lo + r.2 - 1) >>= fun y => match y with
      | some s => if s = true then pure (ForInStep.done (none, r.2)) else pure (ForInStep.yield (none, r.2 + 1))
      | _ => pure (ForInStep.done (some none, r.2)))
      (fun r st' => st' = st ∧ r.1 = none ∧ n ≤ r.2 ∧ r.2 ≤ nrem ∧ up c (arrOf st) lo (lo + r.2) ∧ (r.2 = nrem ∨ c.O.klt (KV c (arrOf st) (lo + r.2)) (KV c (arrOf st) (lo + r.2 - 1)))) st := by
  refine wpS_forRange (I := fun x r st' => st' = st ∧ r.1 = none ∧ r.2 = x ∧ n ≤ r.2 ∧ up c (arrOf st) lo (lo + r.2)) ?_ ?_ ⟨rfl, rfl, rfl, Nat.le_refl _, hu⟩
  · rintro x ⟨r, m⟩ st' h1 h2 ⟨e1, e2, e3, e4, e5⟩
    dsimp only at e1 e2 e3 e4 e5 ⊢
    subst e1 e2 e3
    refine wpS_bind (wp_ltA h ho (by omega) (by omega) ?_)
    refine wp_ite (fun q => ?_) (fun q => ?_)
    · exact wpS_pure ⟨rfl, rfl, e4, by dsimp only; omega, e5, .inr q⟩
    · exact wpS_pure ⟨rfl, rfl, rfl, by dsimp only; omega, up_add (by omega) e5 (by simpa using q)⟩
  · rintro ⟨r, m⟩ st' ⟨e1, e2, e3, e4, e5⟩
    dsimp only at e1 e2 e3 e4 e5 ⊢
    have : m = nrem := by omega
    exact ⟨e1, e2, e4, by omega, e5, .inl this⟩
theorem wp_count {st : SortSt} {nrem : Nat} {Q : Option Nat → SortSt → Prop} (h : St c a0 p0 lo (lo + nrem) st) (ho : okA c a0) (hz : lo + nrem ≤ a0.size) (hn : 0 < nrem)
    (hq : ∀ n st', 0 < n → n ≤ nrem → St c a0 p0 lo (lo + nrem) st' → up c (arrOf st') lo (lo + n) → Q (some n) st') : c.wp (CR lo nrem) Q st := by
  refine wpS_bind (wpS_mono (up_loop h ho hz Nat.zero_lt_one hn ?_) ?_)
  · intro i j h1 h2 h3
    have : i = j := by omega
    subst this
    exact KeyOrd.kle_refl _
  rintro ⟨r, n⟩ st1 ⟨e1, e2, e3, e4, e5, e6⟩
  dsimp only at e1 e2 e3 e4 e5 e6 ⊢
  subst e1 e2
  refine wp_beq (fun q => ?_) (fun q => ?_)
  · exact wpS_pure (hq _ _ (by omega) e4 h e5)
  rcases e6 with e6 | e6
  · exact absurd e6 q
  have d1 : ∀ xs : Array Keyed, (∀ k, KV c xs k = KV c (arrOf st1) k) → (∀ i, lo ≤ i → i < lo + n → KV c (arrOf st1) i = KV c (arrOf st1) (lo + n - 1)) → dn c xs lo (lo + (n + 1)) := by
    intro xs h1 h2
    refine dn_add (by omega) ?_ ?_
    · intro i j i1 i2 i3
      rw [h1, h1, h2 i i1 (by omega), h2 j (by omega) i3]
      exact KeyOrd.kle_refl _
    · rw [h1, h1]
      exact KeyOrd.kle_of_klt e6
  have hzz := h.l.size
  refine wp_ite (fun q2 => wpS_bind (wp_ltA h ho (by omega) (by omega) (wp_ite (fun q3 => ?_) (fun q3 => wpS_bind (wp_rs ?_))))) (fun q2 => ?_)
  · exact wpS_pure (hq _ _ (by omega) e4 h e5)
  have hek : ek c (arrOf st1) lo (lo + n) := by
    intro i i1 i2
    refine KeyOrd.kle_antisymm (e5 i _ i1 (by omega) (by omega)) ?_
    exact KeyOrd.kle_trans (by simpa [KeyOrd.kle] using q3) (e5 lo i (Nat.le_refl _) i1 i2)
  have b1 := h.set (mir_loc (xs := arrOf st1) (i := lo) (j := lo + n) (by omega) (Nat.le_refl _) (by omega))
  have b2 := d1 _ (KV_mir_eq (by omega) hek) hek
  replace b2 : dn c (arrOf (setArr st1 (mirror (arrOf st1) lo (lo + n) ((lo + n - lo) / 2)))) lo (lo + (n + 1)) := b2
  generalize setArr st1 (mirror (arrOf st1) lo (lo + n) ((lo + n - lo) / 2)) = st2 at b1 b2 ⊢
  rotate_left
  have b1 := h
  have b2 : dn c (arrOf st1) lo (lo + (n + 1)) := d1 _ (fun _ => rfl) (fun i i1 i2 => by
    have : i = lo + n - 1 := by omega
    rw [this])
  generalize st1 = st2 at b1 b2 ⊢
  all_goals
    refine wpS_bind (wp_rule ?_)
    refine wpS_bind (wpS_mono (wpS_forRange
      (I := fun x r st' => r.1 = none ∧ r.2.1 = x ∧ St c a0 p0 lo (lo + nrem) st' ∧ 0 < r.2.1 ∧ r.2.2 < r.2.1 ∧ dn c (arrOf st') lo (lo + r.2.1) ∧ ek c (arrOf st') (lo + r.2.1 - (r.2.2 + 1)) (lo + r.2.1))
      (Q := fun r st' => r.1 = none ∧ r.2.1 ≤ nrem ∧ St c a0 p0 lo (lo + nrem) st' ∧ 0 < r.2.1 ∧ r.2.2 < r.2.1 ∧ dn c (arrOf st') lo (lo + r.2.1) ∧ ek c (arrOf st') (lo + r.2.1 - (r.2.2 + 1)) (lo + r.2.1)) ?_ ?_
      ⟨rfl, rfl, b1, Nat.succ_pos _, Nat.succ_pos _, b2, ?_⟩) ?_)
    · rintro x ⟨r, m, u⟩ st3 x1 x2 ⟨g1, g2, g3, g4, g5, g6, g7⟩
      dsimp only at g1 g2 g3 g4 g5 g6 g7 ⊢
      subst g1 g2
      have z3 := g3.l.size
      refine wpS_bind (wp_ltA g3 ho (by omega) (by omega) ?_)
      refine wp_ite (fun w => wp_ite (fun w2 => wpS_bind (wp_rs (wpS_pure ?_))) (fun w2 => wpS_pure ?_)) (fun w => wpS_bind (wp_ltA g3 ho (by omega) (by omega) (wp_ite (fun w2 => wpS_pure ?_) (fun w2 => wpS_pure ?_))))
      · have kk := KV_mir_eq (c := c) (xs := arrOf st3) (by omega) g7
        refine ⟨rfl, rfl, g3.set (mir_loc (by omega) (by omega) (by omega)), Nat.succ_pos _, Nat.succ_pos _, dn_add g4 ?_ ?_, ?_⟩
        · intro i j i1 i2 i3
          show c.O.kle (KV c (mirror _ _ _ _) j) (KV c (mirror _ _ _ _) i)
          rw [kk, kk]
          exact g6 i j i1 i2 i3
        · show c.O.kle (KV c (mirror _ _ _ _) _) (KV c (mirror _ _ _ _) _)
          rw [kk, kk]
          exact KeyOrd.kle_of_klt w
        · intro i i1 i2
          dsimp only at i1 i2 ⊢
          rw [show i = lo + (m + 1) - 1 by omega]
      · refine ⟨rfl, rfl, g3, Nat.succ_pos _, Nat.succ_pos _, dn_add g4 g6 (KeyOrd.kle_of_klt w), ?_⟩
        intro i i1 i2
        dsimp only at i1 i2 ⊢
        rw [show i = lo + (m + 1) - 1 by omega]
      · exact ⟨rfl, by dsimp only; omega, g3, g4, g5, g6, g7⟩
      · have w1 : c.O.blt (KV c (arrOf st3) (lo + m)) (KV c (arrOf st3) (lo + m - 1)) = false := by simpa using w
        have w3 : c.O.blt (KV c (arrOf st3) (lo + m - 1)) (KV c (arrOf st3) (lo + m)) = false := by simpa using w2
        have ee := c.O.total _ _ w1 w3
        refine ⟨rfl, rfl, g3, Nat.succ_pos _, by dsimp only; omega, dn_add g4 g6 w3, ?_⟩
        intro i i1 i2
        dsimp only at i1 i2 ⊢
        rw [show lo + (m + 1) - 1 = lo + m by omega]
        by_cases hi : i = lo + m
        · rw [hi]
        · rw [g7 i (by omega) (by omega), ee]
    · rintro ⟨r, m, u⟩ st3 ⟨g1, g2, g3, g4, g5, g6, g7⟩
      exact ⟨g1, by dsimp only at g2 ⊢; omega, g3, g4, g5, g6, g7⟩
    · intro i i1 i2
      dsimp only at i1 i2 ⊢
      rw [show i = lo + (n + 1) - 1 by omega]
    · rintro ⟨r, m, u⟩ st3 ⟨g1, g2, g3, g4, g5, g6, g7⟩
      dsimp only at g1 g2 g3 g4 g5 g6 g7 ⊢
      subst g1
      have z3 := g3.l.size
      refine wp_ite (fun w2 => wpS_bind (wp_rs ?_)) (fun w2 => ?_)
      have kk := KV_mir_eq (c := c) (xs := arrOf st3) (by omega) g7
      have c1 := g3.set (mir_loc (xs := arrOf st3) (i := lo + m - (u + 1)) (j := lo + m) (by omega) (by omega) (by omega))
      have c2 : dn c (arrOf (setArr st3 (mirror (arrOf st3) (lo + m - (u + 1)) (lo + m) ((lo + m - (lo + m - (u + 1))) / 2)))) lo (lo + m) := by
        intro i j i1 i2 i3
        show c.O.kle (KV c (mirror _ _ _ _) j) (KV c (mirror _ _ _ _) i)
        rw [kk, kk]
        exact g6 i j i1 i2 i3
      generalize setArr st3 (mirror (arrOf st3) (lo + m - (u + 1)) (lo + m) ((lo + m - (lo + m - (u + 1))) / 2)) = st4 at c1 c2 ⊢
      rotate_left
      have c1 := g3
      have c2 := g6
      generalize st3 = st4 at c1 c2 ⊢
      all_goals
        have z4 := c1.l.size
        refine wpS_bind (wp_rs ?_)
        have c3 := c1.set (mir_loc (xs := arrOf st4) (i := lo) (j := lo + m) (by omega) (Nat.le_refl _) (by omega))
        refine wpS_bind (wpS_mono (up_loop c3 ho hz g4 g2 ?_) ?_)
        · intro i j i1 i2 i3
          show c.O.kle (KV c (mirror _ _ _ _) i) (KV c (mirror _ _ _ _) j)
          rw [KV_mir (by omega), KV_mir (by omega), if_pos (by omega), if_pos (by omega)]
          exact c2 _ _ (by omega) (by omega) (by omega)
        · rintro ⟨r, k⟩ st5 ⟨f1, f2, f3, f4, f5, f6⟩
          dsimp only at f1 f2 f3 f4 f5 ⊢
          subst f1 f2
          exact wpS_pure (hq _ _ (by omega) f4 c3 f5)
theorem KV_bub {xs : Array Keyed} {src d : Nat} (hs : src < xs.size) (hd : d ≤ src) (k : Nat) :
    KV c (bubble xs src d) k = if k = src - d then KV c xs src else if src - d < k ∧ k ≤ src then KV c xs (k - 1) else KV c xs k := by
  have e := getElem?_bubble hs d hd k
  by_cases h1 : k = src - d
  · rw [if_pos h1] at e ⊢; exact KV_congr e
  · rw [if_neg h1] at e ⊢
    by_cases h2 : src - d < k ∧ k ≤ src
    · rw [if_pos h2] at e ⊢; exact KV_congr e
    · rw [if_neg h2] at e ⊢; exact KV_congr e
theorem wp_bin {st : SortSt} {n ok : Nat} {Q : Bool → SortSt → Prop} (h : St c a0 p0 lo hi st) (ho : okA c a0) (hz : hi ≤ a0.size) (h0 : 0 < ok) (hok : ok ≤ n) (hn : lo + n ≤ hi) (hu : up c (arrOf st) lo (lo + ok))
    (hq : ∀ st', St c a0 p0 lo hi st' → up c (arrOf st') lo (lo + n) → Q true st') : c.wp (BS lo n ok) Q st := by
  refine wpS_bind (wpS_mono (wpS_forRange (I := fun k r st' => r.1 = none ∧ St c a0 p0 lo hi st' ∧ up c (arrOf st') lo (lo + k))
    (Q := fun r st' => r.1 = none ∧ St c a0 p0 lo hi st' ∧ up c (arrOf st') lo (lo + n)) ?_ ?_ ⟨rfl, h, by rw [Nat.max_eq_left h0]; exact hu⟩) ?_)
  · rintro k ⟨r, u⟩ st1 k1 k2 ⟨e1, e2, e3⟩
    dsimp only at e1 e2 e3 ⊢
    subst e1
    have hzz := e2.l.size
    refine wpS_bind (wpS_mono (wpS_forRange (I := fun x r st' => r.1 = (none : Option Bool) ∧ st' = st1 ∧ r.2.1 ≤ r.2.2 ∧ r.2.2 ≤ k ∧ r.2.2 - r.2.1 ≤ k - x ∧
        (∀ i, i < r.2.1 → c.O.kle (KV c (arrOf st1) (lo + i)) (KV c (arrOf st1) (lo + k))) ∧ (∀ i, r.2.2 ≤ i → i < k → c.O.kle (KV c (arrOf st1) (lo + k)) (KV c (arrOf st1) (lo + i))))
      (Q := fun r st' => r.1 = none ∧ st' = st1 ∧ r.2.1 ≤ k ∧
        (∀ i, i < r.2.1 → c.O.kle (KV c (arrOf st1) (lo + i)) (KV c (arrOf st1) (lo + k))) ∧ (∀ i, r.2.1 ≤ i → i < k → c.O.kle (KV c (arrOf st1) (lo + k)) (KV c (arrOf st1) (lo + i)))) ?_ ?_
      ⟨rfl, rfl, Nat.zero_le _, Nat.le_refl _, Nat.le_refl _, by intro i hi; dsimp only at hi; omega, by intro i hi; dsimp only at hi; omega⟩) ?_)
    · rintro x ⟨r, a, b⟩ st2 x1 x2 ⟨g1, g2, g3, g4, g5, g6, g7⟩
      dsimp only at g1 g2 g3 g4 g5 g6 g7 ⊢
      subst g1 g2
      refine wp_ite (fun w => wpS_pure ?_) (fun w => wpS_bind (wp_ltA e2 ho (by omega) (by omega) (wp_ite (fun v => wpS_pure ?_) (fun v => wpS_pure ?_))))
      · have : a = b := by omega
        subst this
        exact ⟨rfl, rfl, g4, g6, g7⟩
      · refine ⟨rfl, rfl, by dsimp only; omega, by dsimp only; omega, by dsimp only; omega, g6, ?_⟩
        intro i i1 i2
        dsimp only at i1
        exact KeyOrd.kle_trans (KeyOrd.kle_of_klt v) (e3 _ _ (by omega) (by omega) (by omega))
      · refine ⟨rfl, rfl, by dsimp only; omega, g4, by dsimp only; omega, ?_, g7⟩
        intro i i1
        dsimp only at i1
        exact KeyOrd.kle_trans (e3 _ _ (by omega) (by omega) (by omega)) (KeyOrd.kle_of_not_klt v)
    · rintro ⟨r, a, b⟩ st2 ⟨g1, g2, g3, g4, g5, g6, g7⟩
      dsimp only at g1 g2 g3 g4 g5 g6 g7 ⊢
      have : a = b := by omega
      subst this
      exact ⟨g1, g2, g4, g6, g7⟩
    · rintro ⟨r, a, b⟩ st2 ⟨g1, g2, g3, g4, g5⟩
      dsimp only at g1 g2 g3 g4 g5 ⊢
      subst g1 g2
      refine wpS_bind (wp_md (wpS_pure ⟨rfl, e2.set ⟨Array.perm_iff_toList_perm.mp (bubble_perm _ _ _), fun i hi => ?_⟩, ?_⟩))
      · rw [getElem?_bubble (by omega) _ (by omega), if_neg (by omega), if_neg (by omega)]
      · intro i j i1 i2 i3
        show c.O.kle (KV c (bubble _ _ _) i) (KV c (bubble _ _ _) j)
        have hl : lo + k - (lo + k - (lo + a)) = lo + a := by omega
        rw [KV_bub (by omega) (by omega), KV_bub (by omega) (by omega), hl]
        have o1 : ∀ p, lo ≤ p → p < lo + a → c.O.kle (KV c (arrOf st2) p) (KV c (arrOf st2) (lo + k)) := by
          intro p p1 p2
          have := g4 (p - lo) (by omega)
          rwa [show lo + (p - lo) = p by omega] at this
        have o2 : ∀ p, lo + a ≤ p → p < lo + k → c.O.kle (KV c (arrOf st2) (lo + k)) (KV c (arrOf st2) p) := by
          intro p p1 p2
          have := g5 (p - lo) (by omega) (by omega)
          rwa [show lo + (p - lo) = p by omega] at this
        by_cases q1 : i = lo + a
        · rw [if_pos q1]
          by_cases q2 : j = lo + a
          · rw [if_pos q2]; exact KeyOrd.kle_refl _
          · rw [if_neg q2, if_pos (by omega)]
            exact o2 _ (by omega) (by omega)
        · rw [if_neg q1]
          by_cases q3 : i < lo + a
          · rw [if_neg (by omega)]
            by_cases q2 : j = lo + a
            · rw [if_pos q2]; exact o1 _ i1 q3
            · rw [if_neg q2]
              by_cases q4 : j < lo + a
              · rw [if_neg (by omega)]
                exact e3 _ _ i1 i2 (by omega)
              · rw [if_pos (by omega)]
                exact e3 _ _ i1 (by omega) (by omega)
          · rw [if_pos (by omega), if_neg (by omega), if_pos (by omega)]
            exact e3 _ _ (by omega) (by omega) (by omega)
  · rintro ⟨r, u⟩ st1 ⟨e1, e2, e3⟩
    refine ⟨e1, e2, ?_⟩
    rw [show max (max ok 1) n = n by omega] at e3
    exact e3
  · rintro ⟨r, u⟩ st1 ⟨e1, e2, e3⟩
    dsimp only at e1 ⊢
    subst e1
    exact wpS_pure (hq _ e2 e3)
end
end TS
end
section
namespace TS
set_option autoImplicit false
open PySem PyProof PyProof.Rows
noncomputable abbrev SR : StateT SortSt Sem Unit := sortPriv% PySem.Builtin.sortRuns
section
variable {c : Cx}
noncomputable def chn (c : Cx) (xs : Array Keyed) : List (Nat × Nat × Nat) → Nat → Nat → Prop
  | [], a, b => a = b
  | t :: r, a, b => t.1 = a ∧ 0 < t.2.1 ∧ sg c xs a (a + t.2.1) ∧ chn c xs r (a + t.2.1) b
theorem chn_app {xs : Array Keyed} : ∀ {p q : List (Nat × Nat × Nat)} {a b : Nat}, chn c xs (p ++ q) a b ↔ ∃ m, chn c xs p a m ∧ chn c xs q m b
  | [], q, a, b => ⟨fun h => ⟨a, rfl, h⟩, fun ⟨m, e, h⟩ => by cases e; exact h⟩
  | t :: r, q, a, b => by
    show (_ ∧ _ ∧ _ ∧ chn c xs (r ++ q) _ b) ↔ ∃ m, (_ ∧ _ ∧ _ ∧ chn c xs r _ m) ∧ _
    rw [chn_app]
    constructor
    · rintro ⟨h1, h2, h3, m, h4, h5⟩; exact ⟨m, ⟨h1, h2, h3, h4⟩, h5⟩
    · rintro ⟨m, ⟨h1, h2, h3, h4⟩, h5⟩; exact ⟨h1, h2, h3, m, h4, h5⟩
theorem chn_len {xs : Array Keyed} : ∀ {p : List (Nat × Nat × Nat)} {a b : Nat}, chn c xs p a b → a + p.length ≤ b
  | [], a, b, h => by cases h; simp
  | t :: r, a, b, h => by
    have := chn_len h.2.2.2
    have := h.2.1
    rw [List.length_cons]; omega
theorem chn_congr {xs ys : Array Keyed} : ∀ {p : List (Nat × Nat × Nat)} {a b : Nat}, chn c xs p a b → (∀ i, a ≤ i → i < b → ys[i]? = xs[i]?) → chn c ys p a b
  | [], a, b, h, _ => h
  | t :: r, a, b, h, he => by
    have hl := chn_len h.2.2.2
    refine ⟨h.1, h.2.1, ?_, chn_congr h.2.2.2 (fun i i1 i2 => he i (by omega) i2)⟩
    intro i j x y i1 i2 i3 ex ey
    rw [he i i1 (by omega)] at ex
    rw [he j (by omega) (by omega)] at ey
    exact h.2.2.1 i j x y i1 i2 i3 ex ey
theorem chn_mod {xs : Array Keyed} {f : Nat × Nat × Nat → Nat × Nat × Nat} (hf : ∀ t, (f t).1 = t.1 ∧ (f t).2.1 = t.2.1) : ∀ {p : List (Nat × Nat × Nat)} {i a b : Nat}, chn c xs p a b → chn c xs (p.modify i f) a b
  | [], i, a, b, h => by cases i <;> exact h
  | t :: r, 0, a, b, h => by
    show chn c xs (f t :: r) a b
    refine ⟨(hf t).1.trans h.1, ?_, ?_, ?_⟩
    · rw [(hf t).2]; exact h.2.1
    · rw [(hf t).2]; exact h.2.2.1
    · rw [(hf t).2]; exact h.2.2.2
  | t :: r, i + 1, a, b, h => by
    show chn c xs (t :: r.modify i f) a b
    exact ⟨h.1, h.2.1, h.2.2.1, chn_mod hf h.2.2.2⟩
structure Rn (c : Cx) (a0 : Array Keyed) (lo : Nat) (st : SortSt) : Prop where
  k : kindOf st = c.kd
  f : failedOf st = none
  p : (arrOf st).toList.Perm a0.toList
  h : chn c (arrOf st) (pendingOf st).toList 0 lo
theorem Rn.size {a0 : Array Keyed} {lo : Nat} {st : SortSt} (h : Rn c a0 lo st) : (arrOf st).size = a0.size := by simpa using h.p.length_eq
theorem Rn.ok {a0 : Array Keyed} {lo : Nat} {st : SortSt} (h : Rn c a0 lo st) (ho : okA c a0) : okA c (arrOf st) := fun x hx => ho x (h.p.mem_iff.mp hx)
theorem split2 {α : Type} {l : List α} {i : Nat} (h : i + 1 < l.length) : ∃ P x y S, l = P ++ x :: y :: S ∧ P.length = i := by
  refine ⟨l.take i, l[i], l[i + 1], l.drop (i + 2), ?_, by rw [List.length_take]; omega⟩
  rw [← List.drop_eq_getElem_cons, ← List.drop_eq_getElem_cons, List.take_append_drop]
theorem wp_at2 {a0 : Array Keyed} {st : SortSt} {lo i : Nat} {Q : Bool → SortSt → Prop} (h : Rn c a0 lo st) (ho : okA c a0) (hlo : lo ≤ a0.size) (hi : i + 1 < (pendingOf st).size)
    (hq : ∀ st', Rn c a0 lo st' → (pendingOf st').size + 1 = (pendingOf st).size → Loc (arrOf st) (arrOf st') 0 lo → Q true st') : c.wp (MAt i) Q st := by
  obtain ⟨P, ⟨sa, na, pa⟩, ⟨sb, nb, pb⟩, S, eL, eP⟩ := split2 (l := (pendingOf st).toList) (i := i) (by simpa using hi)
  have hh := h.h
  rw [eL, chn_app] at hh
  obtain ⟨m, h1, h2, h3, h4, h5, h6, h7, h8⟩ := hh
  dsimp only at h2 h3 h4 h5 h6 h7 h8
  subst h2 h5
  have hl1 := chn_len h1
  have hl2 := chn_len h8
  have hz := h.size
  have g1 : (pendingOf st)[i]? = some (sa, na, pa) := by
    rw [← Array.getElem?_toList, eL, List.getElem?_append_right (by omega), eP, Nat.sub_self]; rfl
  have g2 : (pendingOf st)[i + 1]? = some (sa + na, nb, pb) := by
    rw [← Array.getElem?_toList, eL, List.getElem?_append_right (by omega), eP, show i + 1 - i = 1 by omega]; rfl
  refine wp_at h.k h.f (h.ok ho) g1 g2 h3 h6 (by omega) h4 h7 ?_
  intro st' k1 k2 k3 k4 k5
  have e3 : (pendingOf st').toList = P ++ (sa, na + nb, pa) :: S := by
    rw [k3]
    simp only [Array.toList_eraseIdxIfInBounds, Array.toList_setIfInBounds]
    rw [eL, ← eP]
    simp only [List.set_append_right _ _ (Nat.le_refl _), Nat.sub_self, List.set_cons_zero]
    rw [List.eraseIdx_append_of_length_le (by omega), show P.length + 1 - P.length = 1 by omega]
    rfl
  refine hq st' ⟨k1, k2, k4.p.trans h.p, ?_⟩ ?_ (k4.wide (Nat.zero_le _) (by omega))
  · rw [e3, chn_app]
    refine ⟨sa, chn_congr h1 (fun i _ i2 => k4.o i (.inl i2)), rfl, ?_, ?_, ?_⟩
    · dsimp only; omega
    · show sg c (arrOf st') sa (sa + (na + nb))
      rw [← Nat.add_assoc]; exact k5
    · show chn c (arrOf st') S (sa + (na + nb)) lo
      rw [← Nat.add_assoc]
      exact chn_congr h8 (fun i i1 _ => k4.o i (.inr i1))
  · have l1 : (pendingOf st').size = (pendingOf st').toList.length := by simp
    have l2 : (pendingOf st).size = (pendingOf st).toList.length := by simp
    rw [l1, l2, e3, eL]
    simp only [List.length_append, List.length_cons]
    omega
theorem wp_sr {a0 : Array Keyed} {st : SortSt} {Q : Unit → SortSt → Prop} (hk : kindOf st = c.kd) (hf : failedOf st = none) (hp : pendingOf st = #[]) (ha : arrOf st = a0) (ho : okA c a0)
    (hq : ∀ st', failedOf st' = none → (arrOf st').toList.Perm a0.toList → sg c (arrOf st') 0 a0.size → Q () st') : c.wp SR Q st := by
  refine wpS_bind (wpS_get ?_)
  have ez : (arrOf st).size = a0.size := by rw [ha]
  generalize hN : (arrOf st).size = N at ez
  dsimp only
  generalize (sortPriv% PySem.Builtin.minRun) N N 0 = mr
  refine wpS_bind (wpS_mono (wpS_forRange (I := fun x r st' => r.1 = none ∧ Rn c a0 r.2 st' ∧ r.2 ≤ N ∧ (x ≤ r.2 ∨ r.2 = N))
    (Q := fun r st' => r.1 = none ∧ Rn c a0 N st') ?_ ?_ ⟨rfl, ⟨hk, hf, by rw [ha], by rw [hp]; rfl⟩, Nat.zero_le _, .inl (Nat.le_refl _)⟩) ?_)
  · rintro x ⟨r, lo⟩ st1 x1 x2 ⟨e1, e2, e3, e4⟩
    dsimp only at e1 e2 e3 e4 ⊢
    subst e1
    have z1 := e2.size
    refine wp_ite (fun w => wpS_pure ⟨rfl, ?_⟩) (fun w => ?_)
    · have : lo = N := by omega
      rw [← this]
      exact e2
    refine wpS_bind (wp_count (a0 := arrOf st1) (p0 := pendingOf st1) ⟨e2.k, e2.f, rfl, Loc.refl _ _ _⟩ (e2.ok ho) (by omega) (by omega) ?_)
    intro n st2 n1 n2 s2 u2
    dsimp only
    have fin : ∀ (n : Nat) (st3 : SortSt), 0 < n → n ≤ N - lo → St c (arrOf st1) (pendingOf st1) lo (lo + (N - lo)) st3 → up c (arrOf st3) lo (lo + n) → Rn c a0 lo st3 ∧ sg c (arrOf st3) lo (lo + n) := by
      intro n st3 m1 m2 m3 m4
      refine ⟨⟨m3.k, m3.f, m3.l.p.trans e2.p, ?_⟩, up_sg m4⟩
      rw [m3.p]
      exact chn_congr e2.h (fun i _ i2 => m3.l.o i (.inl i2))
    refine wp_ite (fun w2 => wpS_bind (wp_rule (wpS_bind (wp_bin s2 (e2.ok ho) (by omega) n1 (n := min (N - lo) mr) (by omega) (by omega) u2 ?_)))) (fun w2 => ?_)
    intro st3 s3 u3
    rw [if_neg (by simp)]
    have hm : 0 < min (N - lo) mr ∧ min (N - lo) mr ≤ N - lo := by omega
    obtain ⟨r3, g3⟩ := fin _ st3 hm.1 hm.2 s3 u3
    generalize min (N - lo) mr = m at hm g3 ⊢
    rotate_left
    obtain ⟨r3, g3⟩ := fin _ st2 n1 n2 s2 u2
    have hm : 0 < n ∧ n ≤ N - lo := ⟨n1, n2⟩
    generalize n = m at hm g3 ⊢
    generalize st2 = st3 at r3 g3 ⊢
    all_goals
      have push : ∀ st4 : SortSt, Rn c a0 lo st4 → sg c (arrOf st4) lo (lo + m) → Rn c a0 (lo + m) (SortSt.mk' (kindOf st4) (arrOf st4) ((pendingOf st4).push (lo, m, 0)) (gallopOf st4) (failedOf st4)) := by
        intro st4 r4 g4
        refine ⟨r4.k, r4.f, r4.p, ?_⟩
        show chn c (arrOf st4) ((pendingOf st4).push (lo, m, 0)).toList 0 (lo + m)
        rw [Array.toList_push, chn_app]
        exact ⟨lo, r4.h, rfl, hm.1, g4, rfl⟩
      refine wpS_bind (wpS_get ?_)
      split
      · refine wpS_bind (wpS_mono (wpS_forRange (I := fun _ r st' => r.1 = none ∧ Rn c a0 lo st' ∧ sg c (arrOf st') lo (lo + m))
          (Q := fun r st' => r.1 = none ∧ Rn c a0 lo st' ∧ sg c (arrOf st') lo (lo + m)) ?_ ?_ ⟨rfl, r3, g3⟩) ?_)
        · rintro y ⟨r, u⟩ st4 y1 y2 ⟨f1, f2, f3⟩
          dsimp only at f1 f2 f3 ⊢
          subst f1
          refine wpS_bind (wpS_get ?_)
          split
          · rename_i hs
            have hs2 : (pendingOf st4).size > 1 := by
              by_cases hc : (pendingOf st4).size > 1
              · exact hc
              · rw [if_neg hc] at hs; cases hs
            refine wp_ite (fun _ => wpS_pure ⟨rfl, f2, f3⟩) (fun _ => wpS_bind (wp_at2 f2 ho (by omega) (by show (pendingOf st4).size - 2 + 1 < (pendingOf st4).size; omega) ?_))
            intro st5 r5 _ l5
            rw [if_neg (by simp)]
            refine wpS_pure ⟨rfl, r5, ?_⟩
            intro i j a b i1 i2 i3 ea eb
            rw [l5.o i (.inr i1)] at ea
            rw [l5.o j (.inr (by omega))] at eb
            exact f3 i j a b i1 i2 i3 ea eb
          · exact wpS_pure ⟨rfl, f2, f3⟩
        · intro r st4 hh
          exact hh
        · rintro ⟨r, u⟩ st4 ⟨f1, f2, f3⟩
          dsimp only at f1 f2 f3 ⊢
          subst f1
          refine wpS_bind (wpS_modify (wpS_bind (wpS_modify (wpS_pure ⟨rfl, ?_, by dsimp only; omega, by dsimp only; omega⟩))))
          refine push _ ⟨f2.k, f2.f, f2.p, ?_⟩ f3
          show chn c (arrOf st4) ((pendingOf st4).modify _ _).toList 0 lo
          rw [Array.toList_modify]
          refine chn_mod ?_ f2.h
          exact fun _ => ⟨rfl, rfl⟩
      · exact wpS_bind (wpS_modify (wpS_pure ⟨rfl, push _ r3 g3, by dsimp only; omega, by dsimp only; omega⟩))
  · rintro ⟨r, lo⟩ st1 ⟨e1, e2, e3, e4⟩
    dsimp only at e1 e2 e3 e4 ⊢
    have : lo = N := by omega
    exact ⟨e1, this ▸ e2⟩
  · rintro ⟨r, lo⟩ st1 ⟨e1, e2⟩
    dsimp only at e1 e2 ⊢
    subst e1
    refine wpS_bind (wpS_mono (wpS_forRange (I := fun x r st' => r.1 = none ∧ Rn c a0 N st' ∧ ((pendingOf st').size ≤ 1 ∨ (pendingOf st').size + x ≤ N))
      (Q := fun r st' => r.1 = none ∧ Rn c a0 N st' ∧ (pendingOf st').size ≤ 1) ?_ ?_ ⟨rfl, e2, .inr ?_⟩) ?_)
    · rintro x ⟨r, u⟩ st2 x1 x2 ⟨f1, f2, f3⟩
      dsimp only at f1 f2 f3 ⊢
      subst f1
      refine wpS_bind (wpS_get ?_)
      refine wp_ite (fun w => wpS_pure ⟨rfl, f2, w⟩) (fun w => wpS_bind (wp_at2 f2 ho (by omega) ?_ ?_))
      · replace w : ¬ (pendingOf st2).size ≤ 1 := w
        have hx : ∀ (p : Prop) [Decidable p], (if p then (pendingOf st2).size - 2 - 1 else (pendingOf st2).size - 2) + 1 < (pendingOf st2).size := by
          intro p _
          split <;> omega
        exact hx _
      · intro st3 r3 p3 _
        rw [if_neg (by simp)]
        exact wpS_pure ⟨rfl, r3, by omega⟩
    · rintro ⟨r, u⟩ st2 ⟨f1, f2, f3⟩
      exact ⟨f1, f2, by omega⟩
    · have := chn_len e2.h
      simp only [Array.length_toList] at this
      omega
    · rintro ⟨r, u⟩ st2 ⟨f1, f2, f3⟩
      dsimp only at f1 f2 f3 ⊢
      subst f1
      refine wpS_pure (hq _ f2.f f2.p ?_)
      have hh := f2.h
      have hl : (pendingOf st2).toList.length ≤ 1 := by simpa using f3
      rw [← ez]
      match hL : (pendingOf st2).toList, hl with
      | [], _ =>
        rw [hL] at hh
        have : 0 = N := hh
        intro i j x y i1 i2 i3
        omega
      | [t], _ =>
        rw [hL] at hh
        obtain ⟨t1, t2, t3, t4⟩ := hh
        have t5 : 0 + t.2.1 = N := t4
        rw [t5] at t3
        exact t3
end
end TS
end
section
namespace TS
set_option autoImplicit false
open PySem PyProof PyProof.Rows
noncomputable def h6 (h : Heap) (a : Addr) (vs : List Value) : Heap := ((h.update a (Obj.mapSeq fun _ => #[])).push (seqObj "tuple" vs.toArray 0)).push (seqObj "list" #[] 0)
theorem sort_gen (c : Cx) {s : Shared} {a : Addr} {vs : List Value} {n : Nat} {P : Fin → Shared → Prop} (ho : s.heap.get? a = some (seqObj "list" vs.toArray n)) (hs : c.s = { s with heap := h6 s.heap a vs })
    (hok : ∀ v, v ∈ vs → c.ok v) (hkk : 2 ≤ vs.length → ∀ Q : SortKind → Shared → Prop, Q c.kd c.s → wpAny (model c.prog c.w) c.A (keyKind' vs.toArray) Q c.E c.s) (hz : vs.length ≤ sizeLine)
    (h : ∀ xs : Array Keyed, xs.toList.Perm (pairsOf vs).toList → sg c xs 0 vs.length → P (.done (.ret .none)) { s with heap := sortedHeap s.heap a vs (xs.map (·.2)) }) :
    wpAny (model c.prog c.w) c.A (Builtin.«list.sort» ⟨[.ref a], []⟩) P c.E s := by
  rw [list_sort_plain]
  have ha : a < s.heap.objs.size := Heap.lt_size ho
  have zz : vs.toArray.size = vs.length := by simp
  refine wpAny_bind (listItems_at ho rfl ?_)
  refine wpAny_bind (listUpdate_at ho rfl ?_ (by rw [zz]; exact hz) (Nat.zero_le _))
  obtain ⟨e1, ho1⟩ : ∃ e1, (s.heap.update a (Obj.mapSeq fun _ => #[])).get? a = some (seqObj "list" #[] e1) := ⟨_, get?_update_seq ho (fun _ => #[])⟩
  refine wpAny_bind (seqEpoch_at ho1 rfl ?_)
  refine wpAny_bind (wpAny_newTuple ?_ (by simpa using hz))
  refine wpAny_bind (wpAny_newList ?_)
  refine wpAny_holding ?_
  have ho6 : (h6 s.heap a vs).get? a = some (seqObj "list" #[] e1) := by
    unfold h6
    rw [Heap.get?_push_ne _ _ _ (by rw [size_push', Heap.size_update]; exact Nat.ne_of_lt (Nat.lt_succ_of_lt ha)), Heap.get?_push_ne _ _ _ (by rw [Heap.size_update]; exact Nat.ne_of_lt ha)]
    exact ho1
  show wpAny (model c.prog c.w) c.A _ P c.E { s with heap := h6 s.heap a vs }
  rw [← hs]
  have ho7 : c.s.heap.get? a = some (seqObj "list" #[] e1) := by rw [hs]; exact ho6
  dsimp only
  have zx : ∀ xs : Array Keyed, xs.toList.Perm (pairsOf vs).toList → (xs.map (·.2)).size ≤ sizeLine + 1 := by
    intro xs hp
    have := hp.length_eq
    simp only [Array.length_toList, pairsOf_size] at this
    rw [Array.size_map]; omega
  have e2 : ∀ out : Array Value, ({ c.s with heap := c.s.heap.update a (Obj.mapSeq fun _ => out) } : Shared) = { s with heap := sortedHeap s.heap a vs out } := by
    intro out; rw [hs]; rfl
  by_cases h2 : vs.toArray.size < 2
  · rw [if_pos h2, if_pos h2]
    refine wpAny_bind (wpAny_pure ?_)
    rw [StateT.run_pure]
    refine wpAny_bind (wpAny_pure ?_)
    dsimp only
    refine wpAny_bind (seqEpoch_at ho7 rfl ?_)
    refine wpAny_bind (listUpdate_at ho7 rfl ?_ (hsz2 := zx _ (List.Perm.refl _)))
    simp only [bne_self_eq_false, Bool.false_eq_true, if_false]
    refine wpAny_pure ?_
    rw [e2]
    refine h (vs.toArray.zip vs.toArray) (List.Perm.refl _) ?_
    intro i j x y i1 i2 i3 ex ey
    have : i = j := by omega
    subst this
    rw [ex] at ey
    cases ey
    exact Cx.le_refl _
  · rw [if_neg h2, if_neg h2]
    refine wpAny_bind (hkk (by omega) _ ?_)
    refine wpAny_bind (wpAny_mono (wp_sr (c := c) (a0 := pairsOf vs) (st := SortSt.mk' c.kd (vs.toArray.zip vs.toArray) #[] 7 none) (Q := fun _ st' => failedOf st' = none ∧ (arrOf st').toList.Perm (pairsOf vs).toList ∧ sg c (arrOf st') 0 (pairsOf vs).size)
      rfl rfl rfl rfl ?_ fun st' b1 b2 b3 => ⟨b1, b2, b3⟩) ?_ fun _ _ e => e)
    · intro x hx
      rw [pairsOf_toList] at hx
      exact hok _ (mem_zip_self hx).2
    rintro ⟨⟨⟩, st'⟩ s' ⟨rfl, hf, hp, hg⟩
    rw [pairsOf_size] at hg
    dsimp only
    refine wpAny_bind (seqEpoch_at ho7 rfl ?_)
    refine wpAny_bind (listUpdate_at ho7 rfl ?_ (hsz2 := zx _ hp))
    rw [hf]
    simp only [bne_self_eq_false, Bool.false_eq_true, if_false]
    refine wpAny_pure ?_
    rw [e2]
    exact h _ hp hg
theorem sg_pw {c : Cx} {xs : Array Keyed} (h : sg c xs 0 xs.size) : xs.toList.Pairwise c.le := by
  have := sg_ext h (Nat.le_refl _)
  unfold srt at this
  rwa [Array.extract_size] at this
noncomputable def Srt (prog : Program) (w : World) (A : Around) (vs : List Value) (s1 : Shared) (kd : SortKind) (O : KeyOrd) (ky : Value → O.α) (ok : Value → Prop) : Prop :=
  (∀ v, v ∈ vs → ok v) ∧ ∀ s2 : Shared, (∀ b o, s1.heap.get? b = some o → s2.heap.get? b = some o) →
    (2 ≤ vs.length → ∀ (E : Value → Shared → Prop) (Q : SortKind → Shared → Prop), Q kd s2 → wpAny (model prog w) A (keyKind' vs.toArray) Q E s2) ∧
    ∀ (E : Value → Shared → Prop) (x y : Value) (Q : Bool → Shared → Prop), ok x → ok y → Q (O.blt (ky x) (ky y)) s2 → wpAny (model prog w) A (keyLt' kd x y) Q E s2
theorem sorted_gen {prog : Program} {w : World} {A : Around} {E : Value → Shared → Prop} {s : Shared} {x : Value} {Q : Value → Shared → Prop} (hc : ∀ E' : Value → Shared → Prop, wpAny (model prog w) A.in1 (collect x) (fun vs s1 =>
      vs.length ≤ sizeLine ∧ ∃ kd O ky ok, Srt prog w A.in1.in1 vs s1 kd O ky ok ∧
      ∀ (out : List Value) e h', out.Perm vs → out.Pairwise (fun x y => O.kle (ky x) (ky y)) → (∀ b ob, s1.heap.get? b = some ob → h'.get? b = some ob) → h'.get? s1.heap.objs.size = some (seqObj "list" out.toArray e) → Q (.ref s1.heap.objs.size) { s1 with heap := h' }) E' s) :
    wpAny (model prog w) A (call (.builtin "sorted") [x]) Q E s := by
  refine Calls.call_function_entry kind_sorted plain_sorted entry_sorted (args_sorted1 _) ?_
  unfold Builtin.«sorted»
  refine wpAny_bind (m := checkCount "sorted" 1 1 _) (wpAny_pure ?_)
  refine wpAny_bind (m := collect x) (wpAny_mono (hc _) (fun vs s1 ⟨hz, kd, O, ky, ok, ⟨hS, hS2⟩, q⟩ => ?_) fun _ _ z => z)
  refine wpAny_bind (wpAny_newList ?_ hz)
  have at0 : (s1.heap.push { cls := .type "list", data := .seq vs.toArray }).get? s1.heap.objs.size = some (seqObj "list" vs.toArray 0) := Heap.get?_push_size _ rfl
  have keep : ∀ b ob, s1.heap.get? b = some ob → (h6 (s1.heap.push { cls := .type "list", data := .seq vs.toArray }) s1.heap.objs.size vs).get? b = some ob := by
    intro b ob eb
    have lt := Heap.lt_size eb
    unfold h6
    refine Heap.get?_push_of_some _ (Heap.get?_push_of_some _ ?_)
    exact (Heap.get?_update_other _ _ (Ne.symm (Nat.ne_of_lt lt))).trans (Heap.get?_push_of_some _ eb)
  obtain ⟨g1, g2⟩ := hS2 { s1 with heap := h6 (s1.heap.push { cls := .type "list", data := .seq vs.toArray }) s1.heap.objs.size vs } keep
  refine wpAny_bind (wpAny_holding (wpAny_call_entry slot_list_sort ⟨_, at0, rfl⟩ entry_list_sort (sort_gen (s := { s1 with heap := s1.heap.push { cls := .type "list", data := .seq vs.toArray } })
    ⟨prog, w, A.in1.in1, _, _, kd, O, ky, ok, g2⟩ at0 rfl hS (fun h2 Q hQ => g1 h2 _ Q hQ) hz fun xs hp hg => ⟨_, rfl, ?_⟩) (args_list_sort _)))
  obtain ⟨e, he⟩ := sortedHeap_at (out := xs.map (·.2)) at0
  have hl : xs.size = vs.length := by
    have := hp.length_eq
    simpa [pairsOf_size] using this
  rw [← hl] at hg
  have hpw := sg_pw hg
  have hmem : ∀ p, p ∈ xs.toList → p.1 = p.2 := fun p hp' => (mem_zip_self (by rw [← pairsOf_toList]; exact hp.mem_iff.mp hp')).1
  refine wpAny_pure ⟨_, rfl, q (xs.map (·.2)).toList e _ ?_ ?_ (fun b ob eb => ?_) (by rw [Array.toArray_toList]; exact he)⟩
  · rw [Array.toList_map]
    have := hp.map (·.2)
    rw [pairsOf_toList] at this
    refine this.trans (List.Perm.of_eq ?_)
    exact List.map_snd_zip (Nat.le_refl _)
  · rw [Array.toList_map, List.pairwise_map]
    refine List.Pairwise.imp_of_mem ?_ hpw
    intro u v hu hv huv
    rw [← hmem u hu, ← hmem v hv]
    exact huv
  · have lt := Heap.lt_size eb
    rw [sortedHeap_old (Nat.ne_of_lt lt) (by rw [Heap.size_push]; exact Nat.lt_succ_of_lt lt)]
    exact Heap.get?_push_of_some _ eb
end TS
end
section
set_option maxHeartbeats 4000000
namespace TS
set_option autoImplicit false
open PySem PyProof PyProof.Rows PySem.SeqAt
open PySem.MeetsSeq PySem.MeetsSeq2 PySem.MeetsSeq3
inductive Rs (A : Around) (s : Shared) (b : Bool) : List ((Value × Value) × Nat) → Bool → Bool → Prop
  | nil (d : Bool) : Rs A s b [] d d
  | eq {p q : Value} {i : Nat} {rest : List ((Value × Value) × Nat)} {d r : Bool} (h : EqAt A s p q true) (t : Rs A s b rest d r) : Rs A s b (((p, q), i) :: rest) d r
  | ne {p q : Value} {i : Nat} {rest : List ((Value × Value) × Nat)} {d l : Bool} (h : EqAt A s p q false) (t : ∀ (prog : Program) (w : World) (E : Value → Shared → Prop) (Q : Bool → Shared → Prop), Q l s → wpAny (model prog w) A (oneLt' (b && i == 0) p q) Q E s) : Rs A s b (((p, q), i) :: rest) d l
section
variable {prog : Program} {w : World} {A : Around} {s : Shared}
theorem rs_loop {b : Bool} {F : ((Value × Value) × Nat) → (Option Bool × Unit) → Sem (ForInStep (Option Bool × Unit))}
    (hF : ∀ p q i c, F ((p, q), i) c = (eqBool p q >>= fun e => if (!e) = true then oneLt' (b && i == 0) p q >>= fun r => pure (.done (some r, ())) else pure (.yield (none, ())))) {E : Value → Shared → Prop} :
    ∀ {L : List ((Value × Value) × Nat)} {d r : Bool}, Rs A s b L d r → wpAny (model prog w) A (forIn L ((none : Option Bool), ()) F) (fun c s' => s' = s ∧ (c.1 = some r ∨ (c.1 = none ∧ d = r))) E s
  | _, _, _, .nil d => by
    rw [List.forIn_nil]
    exact wpAny_pure ⟨rfl, .inr ⟨rfl, rfl⟩⟩
  | _, _, _, .eq h t => by
    rw [List.forIn_cons, hF, bind_assoc]
    refine wpAny_bind (h prog w _ _ ?_)
    rw [if_neg (by simp), pure_bind]
    exact rs_loop hF t
  | _, _, _, .ne h t => by
    rw [List.forIn_cons, hF, bind_assoc]
    refine wpAny_bind (h prog w _ _ ?_)
    rw [if_pos (by simp), bind_assoc]
    refine wpAny_bind (t prog w _ _ ?_)
    rw [pure_bind]
    exact wpAny_pure ⟨rfl, .inl rfl⟩
theorem keyLt_tup {b r : Bool} {E : Value → Shared → Prop} {Q : Bool → Shared → Prop} {a q : Addr} {xs ys : Array Value} (hx : IsTup s.heap a xs) (hy : IsTup s.heap q ys) (h : Rs A s b (xs.toList.zip ys.toList).zipIdx (decide (xs.size < ys.size)) r) (hq : Q r s) :
    wpAny (model prog w) A (keyLt' (tuples' b) (.ref a) (.ref q)) Q E s := by
  obtain ⟨o1, e1, _, n1, d1⟩ := hx
  obtain ⟨o2, e2, _, n2, d2⟩ := hy
  refine wpAny_bind (listItems_at e1 d1 (wpAny_bind (listItems_at e2 d2 ?_)))
  refine wpAny_bind (wpAny_mono (rs_loop (b := b) ?_ h) ?_ fun _ _ e => e)
  · exact fun p q i c => rfl
  · rintro ⟨c, u⟩ s' ⟨rfl, e | ⟨e, e3⟩⟩
    · cases e
      exact wpAny_pure hq
    · cases e
      subst e3
      exact wpAny_pure hq
theorem oneLt_rc {x y : Value} {l : Bool} (h : ∀ (prog : Program) (w : World) (E Q : Value → Shared → Prop), Q (.bool l) s → wpAny (model prog w) A (richCompare .Lt x y) Q E s) {E : Value → Shared → Prop} {Q : Bool → Shared → Prop} (hq : Q l s) :
    wpAny (model prog w) A (oneLt' false x y) Q E s := by
  rw [oneLt'_eq]
  simp only [Bool.false_eq_true, if_false]
  exact wpAny_bind (h prog w _ _ (wpAny_truthy_bool hq))
theorem keyLt_pair {E : Value → Shared → Prop} {Q : Bool → Shared → Prop} {u v : Value} {p q : Int × List Int} (hv : L3.PairAt s.heap v p) (hu : L3.PairAt s.heap u q) (hr : A.units + 2 < cLine) (h : Q (L3.pLt p q) s) :
    wpAny (model prog w) A (keyLt' (tuples' true) v u) Q E s := by
  obtain ⟨a, x, t, its, rfl, ha, hx, hi⟩ := hv
  obtain ⟨b, y, t', its', rfl, hb, hy, hj⟩ := hu
  refine keyLt_tup ha hb (r := L3.pLt p q) ?_ h
  show Rs A s true [((.int p.1 t, .int q.1 t'), 0), ((.ref x, .ref y), 1)] (decide (2 < 2)) _
  unfold L3.pLt
  have c0 : EqAt A s (.int p.1 t) (.int q.1 t') (p.1 == q.1) := EqAt.int_int _ _ _ _
  have c1 : EqAt A s (.ref x) (.ref y) (p.2 == q.2) := L3.eqAt_tupI hx hy hi hj (by omega)
  by_cases h1 : p.1 = q.1
  · rw [if_pos h1]
    rw [show (p.1 == q.1) = true by simpa using h1] at c0
    refine .eq c0 ?_
    by_cases h2 : p.2 = q.2
    · rw [show (p.2 == q.2) = true by simpa using h2] at c1
      rw [h2, L3.lex_self]
      exact .eq c1 (.nil _)
    · rw [show (p.2 == q.2) = false by simpa using h2] at c1
      exact .ne c1 (fun prog w E Q hq => oneLt_rc (fun prog w E Q hq => HT.lt_tupInts hx hy (by simpa using hi) (by simpa using hj) (by omega) hq) hq)
  · rw [if_neg h1]
    rw [show (p.1 == q.1) = false by simpa using h1] at c0
    exact .ne c0 (fun prog w E Q hq => oneLt_int hq)
noncomputable def TupAt (h : Heap) (v : Value) (ns : List Int) : Prop := ∃ (a : Addr) (its : List Value), v = .ref a ∧ IsTup h a its.toArray ∧ IntsAre its ns
end
end TS
end
section
set_option maxHeartbeats 4000000
namespace TS
set_option autoImplicit false
open PySem PyProof PyProof.Rows PySem.SeqAt
noncomputable def FirstI (h : Heap) (v : Value) : Prop := ∃ (a : Addr) (xs : Array Value) (n : Int) (t : Tok), v = .ref a ∧ IsTup h a xs ∧ xs[0]? = some (.int n t)
section
variable {prog : Program} {w : World} {A : Around} {s : Shared}
theorem first_at {v : Value} (h : FirstI s.heap v) {E : Value → Shared → Prop} : wpAny (model prog w) A (firstOfTuple' v) (fun r s' => s' = s ∧ ∃ n t, r = some (.int n t)) E s := by
  obtain ⟨a, xs, n, t, rfl, ⟨o, e1, e2, m, d⟩, hx⟩ := h
  refine wpAny_bind (wpAny_typeOf (T := "tuple") ⟨o, e1, e2⟩ ?_)
  have : (Value.type "tuple" != Value.type "tuple") = false := by rfl
  rw [this]
  refine wpAny_bind (listItems_at e1 d (wpAny_pure ⟨rfl, n, t, hx⟩))
theorem firsts_at {E : Value → Shared → Prop} : ∀ (vs : List Value), (∀ v, v ∈ vs → FirstI s.heap v) → wpAny (model prog w) A (vs.mapM firstOfTuple') (fun r s' => s' = s ∧ ∃ us ns, IntsAre us ns ∧ r = us.map some ∧ us.length = vs.length) E s
  | [], _ => by rw [List.mapM_nil]; exact wpAny_pure ⟨rfl, [], [], .nil, rfl, rfl⟩
  | v :: vs, h => by
    rw [List.mapM_cons]
    refine wpAny_bind (wpAny_mono (first_at (h v (List.mem_cons_self ..))) ?_ fun _ _ e => e)
    rintro r s' ⟨es, n, t, rfl⟩
    rw [es]
    refine wpAny_bind (wpAny_mono (firsts_at vs fun u hu => h u (List.mem_cons_of_mem _ hu)) ?_ fun _ _ e => e)
    rintro r s' ⟨es, us, ns, h1, rfl, h3⟩
    rw [es]
    exact wpAny_pure ⟨rfl, .int n t :: us, n :: ns, .cons n t h1, rfl, by simp [h3]⟩
theorem kind_at {vs : List Value} (h : ∀ v, v ∈ vs → FirstI s.heap v) (h0 : 2 ≤ vs.length) {E : Value → Shared → Prop} {Q : SortKind → Shared → Prop} (hq : Q (tuples' true) s) : wpAny (model prog w) A (keyKind' vs.toArray) Q E s := by
  rw [keyKind'_eq, List.mapM_toArray, map_eq_pure_bind, bind_assoc]
  refine wpAny_bind (wpAny_mono (firsts_at vs h) ?_ fun _ _ e => e)
  rintro r s' ⟨rfl, us, ns, h1, rfl, h3⟩
  rw [pure_bind]
  rw [if_pos (by simp)]
  refine wpAny_bind (wpAny_rule ?_)
  have e1 : Array.filterMap id (us.map some).toArray = us.toArray := by simp
  rw [e1, oneTypeOnly'_eq, List.mapM_toArray, mapM_typeOf_ints h1]
  simp only [map_pure, pure_bind]
  obtain ⟨u, us', rfl⟩ : ∃ u us', us = u :: us' := by
    cases us with
    | nil => simp at h3; omega
    | cons u us' => exact ⟨u, us', rfl⟩
  have hall : ((List.map (fun _ => Value.type "int") (u :: us')).toArray.all fun x => x == Value.type "int") = true := by
    simp only [List.all_toArray, List.all_map, List.all_eq_true]
    intro _ _
    rfl
  have h0' : (List.map (fun _ => Value.type "int") (u :: us')).toArray[0]? = some (Value.type "int") := by simp
  rw [h0']
  simp only [hall, if_true, pure_bind]
  exact wpAny_pure hq
end
theorem lex_tr : ∀ a b c : List Int, HT.lexLt a b = true → HT.lexLt b c = true → HT.lexLt a c = true
  | [], [], _, h, _ => by cases h
  | [], _ :: _, [], _, h => by cases h
  | [], _ :: _, _ :: _, _, _ => rfl
  | _ :: _, [], _, h, _ => by cases h
  | _ :: _, _ :: _, [], _, h => by cases h
  | x :: a, y :: b, z :: c, h1, h2 => by
    rw [HT.lexLt_cons] at h1 h2 ⊢
    have ih := lex_tr a b c
    split at h1 <;> split at h2 <;> split <;> simp_all <;> omega
theorem lex_ng : ∀ a b c : List Int, HT.lexLt a c = true → HT.lexLt a b = true ∨ HT.lexLt b c = true
  | [], _, [], h => by cases h
  | [], [], _ :: _, _ => .inr rfl
  | [], _ :: _, _ :: _, _ => .inl rfl
  | _ :: _, _, [], h => by cases h
  | _ :: _, [], _ :: _, _ => .inr rfl
  | x :: a, y :: b, z :: c, h => by
    rw [HT.lexLt_cons] at h ⊢
    rw [HT.lexLt_cons]
    have ih := lex_ng a b c
    split at h <;> split <;> split <;> simp_all <;> omega
theorem lex_tt : ∀ a b : List Int, HT.lexLt a b = false → HT.lexLt b a = false → a = b
  | [], [], _, _ => rfl
  | [], _ :: _, h, _ => by cases h
  | _ :: _, [], _, h => by cases h
  | x :: a, y :: b, h1, h2 => by
    rw [HT.lexLt_cons] at h1 h2
    have ih := lex_tt a b
    split at h1 <;> split at h2 <;> simp_all <;> omega
theorem pLt_irr (a : Int × List Int) : L3.pLt a a = false := by unfold L3.pLt; rw [if_pos rfl, L3.lex_self]
theorem pLt_tr (a b c : Int × List Int) (h1 : L3.pLt a b = true) (h2 : L3.pLt b c = true) : L3.pLt a c = true := by
  unfold L3.pLt at *
  have := lex_tr a.2 b.2 c.2
  split at h1 <;> split at h2 <;> split <;> simp_all <;> omega
theorem pLt_ng (a b c : Int × List Int) (h : L3.pLt a c = true) : L3.pLt a b = true ∨ L3.pLt b c = true := by
  unfold L3.pLt at *
  have := lex_ng a.2 b.2 c.2
  split at h <;> split <;> split <;> simp_all <;> omega
theorem pLt_tt (a b : Int × List Int) (h1 : L3.pLt a b = false) (h2 : L3.pLt b a = false) : a = b := by
  unfold L3.pLt at *
  have := lex_tt a.2 b.2
  split at h1 <;> split at h2 <;> simp_all <;> first | omega | exact Prod.ext (Eq.symm (by assumption)) (by assumption)
noncomputable def ordP : KeyOrd := ⟨Int × List Int, L3.pLt, pLt_irr, pLt_tr, pLt_ng, pLt_tt⟩
theorem pair_inj {h : Heap} {v : Value} {p q : Int × List Int} (h1 : L3.PairAt h v p) (h2 : L3.PairAt h v q) : p = q := by
  obtain ⟨a, x, t, its, rfl, ⟨o, e1, _, n1, d1⟩, ⟨o2, e2, _, n2, d2⟩, hi⟩ := h1
  obtain ⟨b, y, t', its', eb, ⟨o', e1', _, n1', d1'⟩, ⟨o2', e2', _, n2', d2'⟩, hj⟩ := h2
  cases eb
  rw [e1] at e1'
  cases e1'
  rw [d1] at d1'
  injection d1' with z1 _
  have z2 : [Value.int p.1 t, .ref x] = [.int q.1 t', .ref y] := by simpa using congrArg Array.toList z1
  injection z2 with y1 z3
  injection z3 with y2 _
  injection y1 with y1 _
  injection y2 with y2
  subst y2
  rw [e2] at e2'
  cases e2'
  rw [d2] at d2'
  injection d2' with z4 _
  have z5 : its = its' := by simpa using congrArg Array.toList z4
  subst z5
  exact Prod.ext y1 (L3.ints_inj hi hj)
theorem TupAt.keep {h h' : Heap} {v : Value} {p : List Int} (k : ∀ b o, h.get? b = some o → h'.get? b = some o) : TupAt h v p → TupAt h' v p := fun ⟨a, its, e, ⟨o, x1, x2⟩, z⟩ => ⟨a, its, e, ⟨o, k _ _ x1, x2⟩, z⟩
theorem pair_first {h : Heap} {v : Value} {p : Int × List Int} (h1 : L3.PairAt h v p) : FirstI h v := by
  obtain ⟨a, x, t, its, rfl, ha, _, _⟩ := h1
  exact ⟨a, _, p.1, t, rfl, ha, rfl⟩
structure KR where
  O : KeyOrd
  dflt : O.α
  At : Heap → Value → O.α → Prop
  inj : ∀ {h v p q}, At h v p → At h v q → p = q
  keep : ∀ {h h' : Heap} {v p}, (∀ b o, h.get? b = some o → h'.get? b = some o) → At h v p → At h' v p
  first : ∀ {h v p}, At h v p → FirstI h v
  lt : ∀ {prog : Program} {w : World} {A : Around} {s : Shared} {E : Value → Shared → Prop} {Q : Bool → Shared → Prop} {u v p q}, At s.heap v p → At s.heap u q → A.units + 2 < cLine → Q (O.blt p q) s → wpAny (model prog w) A (keyLt' (tuples' true) v u) Q E s
noncomputable def krP : KR := ⟨ordP, (0, []), L3.PairAt, pair_inj, L3.PairAt.keep, pair_first, keyLt_pair⟩
open Classical in
noncomputable def KR.ky (k : KR) (h : Heap) (v : Value) : k.O.α := if e : ∃ p, k.At h v p then e.choose else k.dflt
theorem KR.ky_eq {k : KR} {h : Heap} {v : Value} {p : k.O.α} (e : k.At h v p) : k.ky h v = p := by
  unfold KR.ky
  rw [dif_pos ⟨p, e⟩]
  exact k.inj (Exists.choose_spec ⟨p, e⟩) e
theorem KR.srt (k : KR) {prog : Program} {w : World} {A : Around} {vs : List Value} {s1 : Shared} (hr : A.units + 2 < cLine) (h : ∀ v, v ∈ vs → ∃ p, k.At s1.heap v p) : Srt prog w A vs s1 (tuples' true) k.O (k.ky s1.heap) (fun v => ∃ p, k.At s1.heap v p) := by
  refine ⟨h, fun s2 hk => ⟨fun h2 E Q hq => kind_at (fun v hv => ?_) h2 hq, fun E x y Q hx hy hq => ?_⟩⟩
  · obtain ⟨p, hp⟩ := h v hv
    exact k.first (k.keep hk hp)
  · obtain ⟨p, hp⟩ := hx
    obtain ⟨q, hq'⟩ := hy
    rw [KR.ky_eq hp, KR.ky_eq hq'] at hq
    exact k.lt (k.keep hk hp) (k.keep hk hq') hr hq
end TS
end
section
set_option maxHeartbeats 4000000
namespace TS
set_option autoImplicit false
open PySem PyProof.Rows
theorem pair_lift {α β : Type} {R : α → β → Prop} {l l' : List β} (hp : l'.Perm l) : ∀ {as : List α}, PySem.Paired R as l → ∃ as', as'.Perm as ∧ PySem.Paired R as' l' := by
  induction hp with
  | nil => intro as h; exact ⟨as, .refl _, h⟩
  | cons x _ ih =>
    intro as h
    cases h with
    | cons r t =>
      obtain ⟨as', h1, h2⟩ := ih t
      exact ⟨_ :: as', h1.cons _, .cons r h2⟩
  | swap x y l =>
    intro as h
    cases h with
    | cons r t =>
      cases t with
      | cons r2 t2 => exact ⟨_, .swap _ _ _, .cons r2 (.cons r t2)⟩
  | trans _ _ ih1 ih2 =>
    intro as h
    obtain ⟨a1, g1, g2⟩ := ih2 h
    obtain ⟨a2, g3, g4⟩ := ih1 g2
    exact ⟨a2, g3.trans g1, g4⟩
noncomputable def insK {α : Type} (lt : α → α → Bool) (x : α) : List α → List α
  | [] => [x]
  | y :: r => if lt x y then x :: y :: r else y :: insK lt x r
noncomputable def sortK {α : Type} (lt : α → α → Bool) : List α → List α
  | [] => []
  | x :: r => insK lt x (sortK lt r)
theorem insK_perm {α : Type} (lt : α → α → Bool) (x : α) : ∀ l : List α, (insK lt x l).Perm (x :: l)
  | [] => .refl _
  | y :: r => by
    unfold insK
    split
    · exact .refl _
    · exact ((insK_perm lt x r).cons y).trans (.swap _ _ _)
theorem sortK_perm {α : Type} (lt : α → α → Bool) : ∀ l : List α, (sortK lt l).Perm l
  | [] => .refl _
  | x :: r => (insK_perm lt x _).trans ((sortK_perm lt r).cons x)
theorem insK_up (O : KeyOrd) (x : O.α) : ∀ l : List O.α, l.Pairwise O.kle → (insK O.blt x l).Pairwise O.kle
  | [], _ => List.pairwise_singleton _ _
  | y :: r, h => by
    unfold insK
    have h' := List.pairwise_cons.mp h
    split
    · rename_i hl
      refine List.pairwise_cons.mpr ⟨fun z hz => ?_, h⟩
      rcases List.mem_cons.mp hz with rfl | hz
      · exact KeyOrd.kle_of_klt hl
      · exact KeyOrd.kle_trans (KeyOrd.kle_of_klt hl) (h'.1 z hz)
    · rename_i hl
      refine List.pairwise_cons.mpr ⟨fun z hz => ?_, insK_up O x r h'.2⟩
      rcases List.mem_cons.mp ((insK_perm _ _ _).mem_iff.mp hz) with rfl | hz
      · exact KeyOrd.kle_of_not_klt hl
      · exact h'.1 z hz
theorem sortK_up (O : KeyOrd) : ∀ l : List O.α, (sortK O.blt l).Pairwise O.kle
  | [] => .nil
  | x :: r => insK_up O x _ (sortK_up O r)
theorem sortK_eq (O : KeyOrd) {l l' : List O.α} (hp : l'.Perm l) (hs : l'.Pairwise O.kle) : l' = sortK O.blt l :=
  List.Perm.eq_of_pairwise (le := O.kle) (fun a b _ _ h1 h2 => KeyOrd.kle_antisymm h1 h2) hs (sortK_up O l) (hp.trans (sortK_perm _ _).symm)
end TS
namespace L2
open PySem PySem.Spec PyProof.Rows TS
section
variable {X : L2.Cx}
theorem call_sortedG (k : KR) {VA : W.Frag → Hp → V → k.O.α → Prop} (of : ∀ {pins : List (Addr × Obj)} {σ : L2.St} {H : Hp} {s : Shared} {v : V} {u : Value} {p : k.O.α}, Inv X pins σ H s → VA X.K H v p → RelV v u → k.At s.heap u p) (hu : X.A.units + 60 < cLine) :
    CallR X (.builtin "sorted") (fun xs H Q => ∃ (a : Addr) (zs : List (V × k.O.α)), xs = [.ref a] ∧ SqL X.K H a (zs.map (·.1)) ∧ (∀ z, z ∈ zs → VA X.K H z.1 z.2) ∧
      ∀ zs' : List (V × k.O.α), zs'.Perm zs → zs'.Pairwise (fun x y => k.O.kle x.2 y.2) → ∀ l, H l = none → Q (.ref l) (upd H l (.lst (zs'.map (·.1))))) := by
  intro pins s σ H xs us Q I r h
  obtain ⟨a, zs, rfl, hq, hv, q⟩ := h
  obtain ⟨u, rfl, rx⟩ := vals1 r
  cases rx
  obtain ⟨its, r', pl, hz⟩ := I.list hq
  have lz : its.length = zs.length := by rw [← r'.length, List.length_map]
  have mk : ∀ {zs : List (V × k.O.α)} {its : List Value}, Vals (zs.map (·.1)) its → (∀ z, z ∈ zs → VA X.K H z.1 z.2) → PySem.Paired (fun z u => RelV z.1 u ∧ k.At s.heap u z.2) zs its := by
    intro zs
    induction zs with
    | nil => intro its h _; cases h; exact .nil
    | cons z zs ih =>
      intro its h hv
      cases h with
      | cons r t => exact .cons ⟨r, of I (hv z (List.mem_cons_self ..)) r⟩ (ih t fun y hy => hv y (List.mem_cons_of_mem _ hy))
  have hp := mk r' hv
  have back : ∀ {zs : List (V × k.O.α)} {its : List Value}, PySem.Paired (fun z u => RelV z.1 u ∧ k.At s.heap u z.2) zs its → Vals (zs.map (·.1)) its ∧ (its.Pairwise (fun x y => k.O.kle (k.ky s.heap x) (k.ky s.heap y)) → zs.Pairwise (fun x y => k.O.kle x.2 y.2)) ∧ (∀ u, u ∈ its → ∃ p, k.At s.heap u p) ∧ ∀ y, y ∈ zs → ∃ u, u ∈ its ∧ k.ky s.heap u = y.2 := by
    intro zs its h
    induction h with
    | nil => exact ⟨.nil, fun _ => .nil, fun u hu => (List.not_mem_nil hu).elim, fun u hu => (List.not_mem_nil hu).elim⟩
    | cons r t ih =>
      obtain ⟨i1, i2, i3, i4⟩ := ih
      refine ⟨.cons r.1 i1, fun hh => ?_, fun u hu => ?_, fun y hy => ?_⟩
      · have hh' := List.pairwise_cons.mp hh
        refine List.pairwise_cons.mpr ⟨fun y hy => ?_, i2 hh'.2⟩
        obtain ⟨u, u1, u2⟩ := i4 y hy
        have := hh'.1 u u1
        rw [u2, KR.ky_eq r.2] at this
        exact this
      · rcases List.mem_cons.mp hu with rfl | hu
        · exact ⟨_, r.2⟩
        · exact i3 u hu
      · rcases List.mem_cons.mp hy with rfl | hy
        · exact ⟨_, List.mem_cons_self .., KR.ky_eq r.2⟩
        · obtain ⟨u, u1, u2⟩ := i4 y hy
          exact ⟨u, List.mem_cons_of_mem _ u1, u2⟩
  have zl : its.length ≤ sizeLine := by rw [lz, ← List.length_map (f := (·.1))]; exact hz
  refine sorted_gen fun E' => collect_list pl.isList ?_ zl
  have kp : ∀ b ob, s.heap.get? b = some ob → ((s.heap.push (seqObj "list" #[] 0)).update s.heap.objs.size (Obj.mapSeq fun x => x ++ its.toArray)).get? b = some ob := fun b ob eb =>
    (Heap.get?_update_other _ _ (fun z => Nat.lt_irrefl _ (z ▸ Heap.lt_size eb))).trans (Heap.get?_push_of_some _ eb)
  refine ⟨zl, _, _, _, _, k.srt (by rw [Around.in1_units, Around.in1_units]; omega) (fun v hv => ?_), fun out e h' ho hs k2 e2 => ?_⟩
  · obtain ⟨p, hp'⟩ := (back hp).2.2.1 v hv
    exact ⟨p, k.keep kp hp'⟩
  · obtain ⟨zs', g1, g2⟩ := pair_lift ho hp
    obtain ⟨b1, b2, b3, _⟩ := back g2
    have I1 := I.grown (s' := { s with heap := (s.heap.push (seqObj "list" #[] 0)).update s.heap.objs.size (Obj.mapSeq fun x => x ++ its.toArray) }) rfl rfl kp
    refine ⟨.ref _, _, I1.laid (t' := s.toks) (o := .lst (zs'.map (·.1))) k2 (Nat.le_refl _) ⟨?_, out, e, b1, e2⟩, rfl, q zs' g1 (b2 ?_) _ (I1.hok.fresh (Nat.le_refl _))⟩
    · rw [List.length_map, g1.length_eq, ← lz]
      exact zl
    · refine List.Pairwise.imp_of_mem ?_ hs
      intro x y hx hy hxy
      obtain ⟨p, hp'⟩ := b3 x hx
      obtain ⟨q', hq'⟩ := b3 y hy
      rw [KR.ky_eq (k.keep kp hp'), KR.ky_eq (k.keep kp hq')] at hxy
      rw [KR.ky_eq hp', KR.ky_eq hq']
      exact hxy
end
end L2
namespace L3
open PySem PySem.Spec PyProof.Rows L2 TS
section
variable {X : L2.Cx} {E : XE}
noncomputable def mkP (p : Int × List Int) : D := .tup [.int p.1, .tup (p.2.map D.int)]
theorem intsD_mk : ∀ {ds : List D} {ns : List Int}, intsD ds = some ns → ds = ns.map D.int
  | [], ns, e => by cases e; rfl
  | d :: r, ns, e => by
    unfold intsD at e
    cases d with
    | int i =>
      dsimp only at e
      cases z : intsD r with
      | none => rw [z] at e; cases e
      | some ms =>
        rw [z] at e
        cases e
        rw [List.map_cons, intsD_mk z]
    | _ => cases e
theorem pairD1_mk {d : D} {p : Int × List Int} (e : pairD1 d = some p) : d = mkP p := by
  unfold pairD1 at e
  split at e
  · rename_i i ds
    cases z : intsD ds with
    | none => rw [z] at e; cases e
    | some ns =>
      rw [z] at e
      cases e
      rw [intsD_mk z]
      rfl
  · cases e
noncomputable def keysD {α : Type} (f : D → Option α) : List D → Option (List α)
  | [] => some []
  | d :: r => (f d).bind fun p => (keysD f r).map fun ps => p :: ps
theorem keysD_pairs : ∀ ds : List D, keysD pairD1 ds = pairsD ds
  | [] => rfl
  | d :: r => by unfold keysD pairsD; rw [keysD_pairs r]
noncomputable def dSortG {α : Type} (f : D → Option α) (mk : α → D) (lt : α → α → Bool) : List D → M D := one1 fun d => do
  let ds ← seqD d
  let ps ← ofO (match d with | .tup _ => none | _ => keysD f ds)
  pure (.lst ((sortK lt ps).map mk))
noncomputable def dSortP : List D → M D := dSortG pairD1 mkP pLt
theorem keysD_zip {α : Type} {f : D → Option α} {mk : α → D} {K : W.Frag} {ι : Io} {H : Hp} {VA : V → α → Prop} (hf : ∀ {d v p}, Rel K ι H d v → f d = some p → d = mk p ∧ VA v p) : ∀ {ds : List D} {vs : List V} {ps : List α}, RelL K ι H ds vs → keysD f ds = some ps →
    ∃ zs : List (V × α), zs.map (·.1) = vs ∧ zs.map (·.2) = ps ∧ ∀ z, z ∈ zs → VA z.1 z.2 ∧ Rel K ι H (mk z.2) z.1
  | [], vs, ps, h, e => by
    simp only [RelL] at h
    subst h
    cases e
    exact ⟨[], rfl, rfl, fun z hz => (List.not_mem_nil hz).elim⟩
  | d :: r, vs, ps, h, e => by
    simp only [RelL] at h
    obtain ⟨v, r', rfl, h1, h2⟩ := h
    unfold keysD at e
    cases z : f d with
    | none => rw [z] at e; cases e
    | some p =>
      rw [z] at e
      cases z2 : keysD f r with
      | none => rw [z2] at e; cases e
      | some qs =>
        rw [z2] at e
        cases e
        obtain ⟨zs, g1, g2, g3⟩ := keysD_zip hf h2 z2
        obtain ⟨k1, k2⟩ := hf h1 z
        refine ⟨(v, p) :: zs, by rw [List.map_cons, g1], by rw [List.map_cons, g2], fun y hy => ?_⟩
        rcases List.mem_cons.mp hy with rfl | hy
        · exact ⟨k2, k1 ▸ h1⟩
        · exact g3 y hy
theorem relL_map {α : Type} {mk : α → D} {K : W.Frag} {ι : Io} {H : Hp} : ∀ {zs : List (V × α)}, (∀ z, z ∈ zs → Rel K ι H (mk z.2) z.1) → RelL K ι H ((zs.map (·.2)).map mk) (zs.map (·.1))
  | [], _ => by simp [RelL]
  | z :: zs, h => by
    simp only [List.map_cons, RelL]
    exact ⟨_, _, rfl, h z (List.mem_cons_self ..), relL_map fun y hy => h y (List.mem_cons_of_mem _ hy)⟩
theorem call_sortGD (k : KR) {f : D → Option k.O.α} {mk : k.O.α → D} {VA : W.Frag → Hp → V → k.O.α → Prop} (of : ∀ {pins : List (Addr × Obj)} {σ : L2.St} {H : Hp} {s : Shared} {v : V} {u : Value} {p : k.O.α}, Inv X pins σ H s → VA X.K H v p → RelV v u → k.At s.heap u p)
    (hf : ∀ {ι : Io} {H : Hp} {d : D} {v : V} {p : k.O.α}, Rel X.K ι H d v → f d = some p → d = mk p ∧ VA X.K H v p) (hu : X.A.units + 60 < cLine) : CallR X (.builtin "sorted") (toRA X.K E (dSortG f mk k.O.blt)) := by
  refine CallR.imp (call_sortedG k of hu) fun xs H Q ⟨ι, h, ds, rl, hr, q⟩ => ?_
  obtain ⟨d, v, e, r, q⟩ := one1_inv rl q
  obtain ⟨a, vs, ds', e', hs, rl', q⟩ := seqD_inv hr r q
  obtain ⟨ps, ep, q⟩ := Fin.ofOb q
  rcases hs with ⟨hs, hd⟩ | ⟨hs, hd⟩
  · have ep' : keysD f ds' = some ps := by
      cases d with
      | tup ts => exact absurd rfl (hd ts)
      | _ => exact ep
    obtain ⟨zs, g1, g2, g3⟩ := keysD_zip (VA := VA X.K H) hf rl' ep'
    refine ⟨a, zs, by rw [e, e'], by rw [g1]; exact hs, fun z hz => (g3 z hz).1, fun zs' hp hw l hl => ?_⟩
    have e3 : zs'.map (·.2) = sortK k.O.blt ps := by
      refine sortK_eq k.O ?_ ?_
      · rw [← g2]; exact hp.map _
      · rw [List.pairwise_map]; exact hw
    refine newL (E := E) hr (relL_map (mk := mk) (zs := zs') fun z hz => (g3 z (hp.mem_iff.mp hz)).2) ?_ hl
    rw [e3]
    exact q
  · subst hd
    cases ep
theorem call_sortPD (hu : X.A.units + 60 < cLine) : CallR X (.builtin "sorted") (toRA X.K E dSortP) :=
  call_sortGD krP (VA := PairV) (fun I h r => pairAt_of I h r) (fun r e => ⟨pairD1_mk e, pairD1_inv r e⟩) hu
end
end L3
end
section
set_option maxHeartbeats 4000000
namespace L3
open PySem PySem.Spec PyProof.Rows L2 LT
noncomputable def Gro (h h' : Hh) : Prop := ∃ t, h' = h ++ t
theorem Gro.refl {h : Hh} : Gro h h := ⟨[], by simp⟩
theorem Gro.trans {h h1 h2 : Hh} (a : Gro h h1) (b : Gro h1 h2) : Gro h h2 := by
  obtain ⟨t, rfl⟩ := a
  obtain ⟨u, rfl⟩ := b
  exact ⟨t ++ u, by simp⟩
theorem Gro.get {h h' : Hh} {n : Nat} {c : C} (g : Gro h h') (e : h[n]? = some c) : h'[n]? = some c := by
  obtain ⟨t, rfl⟩ := g
  rw [List.getElem?_append_left (List.getElem?_eq_some_iff.mp e).1]
  exact e
theorem Gro.ext {b : Nat} {h h' : Hh} (q : Bx b h) (g : Gro h h') : Ext b h h' := by
  obtain ⟨z, e⟩ := q
  exact ⟨⟨z, g.get e⟩, fun n c _ e => g.get e⟩
noncomputable def Ev {α : Type} (m : M α) (a : α) : Prop := ∀ h, ∃ h', m h = .ok a h' ∧ Gro h h'
section
variable {α β : Type} {m : M α} {a : α} {f : α → M β} {b : β} {h : Hh} {P : α → Hh → Prop}
theorem Ev.pure : Ev (Pure.pure a : M α) a := fun h => ⟨h, rfl, .refl⟩
theorem Ev.of (e : m = Pure.pure a) : Ev m a := e ▸ .pure
theorem Ev.bind (x : Ev m a) (y : Ev (f a) b) : Ev (m >>= f) b := fun h => by
  obtain ⟨h1, e1, g1⟩ := x h
  obtain ⟨h2, e2, g2⟩ := y h1
  refine ⟨h2, ?_, g1.trans g2⟩
  show M.bind m f h = _
  unfold M.bind
  rw [e1]
  exact e2
theorem Ev.wp (x : Ev m a) (k : ∀ h', Gro h h' → P a h') : wp m h P := by
  obtain ⟨h1, e1, g1⟩ := x h
  exact ⟨a, h1, e1, k h1 g1⟩
theorem Ev.of_wp (x : ∀ h, L3.wp m h fun r h' => r = a ∧ Gro h h') : Ev m a := fun h => by
  obtain ⟨r, h1, e1, rfl, g⟩ := x h
  exact ⟨h1, e1, g⟩
theorem Ev.noX (x : Ev m a) : Ev (L3.noX m) a := fun h => by
  obtain ⟨h1, e1, g1⟩ := x h
  refine ⟨h1, ?_, g1⟩
  unfold L3.noX
  rw [e1]
end
@[simp] theorem noX_pure {α : Type} {a : α} : noX (pure a : M α) = pure a := rfl
noncomputable def raiseM {α : Type} (c : String) : M α := fun h => .exc c h
@[simp] theorem raise_bind {α β : Type} {c : String} {f : α → M β} : ((raiseM c : M α) >>= f) = raiseM c := rfl
@[simp] theorem e_sRaise {c : String} {sd : Sd} : sRaise c sd = raiseM c := rfl
theorem e_pick {n : Nat} {Fs : List (List D → M D)} {fi : FE} {fs : FA} {sd : Sd} : cPick n Fs fi fs sd = (do let i ← fi sd; let F ← dPick Fs i; let ds ← fs sd; callD n F ds) := rfl
noncomputable def tI (xs : List Int) : D := .tup (xs.map D.int)
noncomputable def offD (o : List Int × Int) : D := .tup [tI o.1, .int o.2]
noncomputable def stkD (m : Int) (os : List (List Int × Int)) : D := .tup [.int m, .tup (os.map offD)]
structure Stk (m : Int) (os : List (List Int × Int)) : Prop where
  m0 : 1 ≤ m
  m1 : m ≤ 10
  len : os.length ≤ 12
  up : ∀ o ∈ os, o.1.Pairwise (· < ·)
  bd : ∀ o ∈ os, ∀ x ∈ o.1, 0 ≤ x ∧ x < m
  ne : ∀ o ∈ os, o.1 ≠ []
  pos : ∀ o ∈ os, 0 < o.2
end L3
end
section
set_option maxHeartbeats 8000000
namespace L3
open PySem PySem.Spec PyProof.Rows L2 LT
theorem e_cExtend {fo fe : FE} {sd : Sd} : cExtend fo fe sd = (do let x ← fo sd; dAlive x; let y ← fe sd; dExtend x y) := rfl
theorem e_alive {n : Nat} : dAlive (.cel n) = (do let _ ← cellGet n; pure ()) := rfl
theorem e_extend {n : Nat} {zs : List D} : dExtend (.cel n) (.tup zs) = (do let ds ← cellGet n; fits (ds.length + zs.length); cellPut n (ds ++ zs); pure .non) := rfl
theorem up_len {xs : List Int} {m : Int} (m0 : 0 ≤ m) (h : xs.Pairwise (· < ·)) (b : ∀ x ∈ xs, 0 ≤ x ∧ x < m) : (xs.length : Int) ≤ m := by
  have := rise_len (m := m) (ts := xs.map D.int) (l := 0) (rise_ints.mpr ⟨h, b⟩) m0
  rw [List.length_map] at this
  omega
theorem dEq_pd {x y : D} {a b : PyData} (e1 : pd x = some a) (e2 : pd y = some b) (h : eqOk a b = true) : dEq x y = pure (.bl (PyData.eqv a b)) := by
  show dEqG false x y = _
  unfold dEqG
  rw [e1, e2]
  simp only [h, if_true]
  rfl
theorem pd_tI (xs : List Int) : pd (tI xs) = some (.tuple (xs.map PyData.int)) := by unfold tI pd; rw [pdL_ints]; rfl
theorem dEq_tI (xs ys : List Int) : dEq (tI xs) (tI ys) = pure (.bl (xs == ys)) := by
  rw [dEq_pd (pd_tI xs) (pd_tI ys) (by unfold eqOk; simp [PyData.canLay0, canLay_ints, PyData.depth, depth_ints])]
  simp only [PyData.eqv, eqv_ints]
theorem dEq_lst (xs ys : List Int) : dEq (.lst (xs.map D.int)) (.lst (ys.map D.int)) = pure (.bl (xs == ys)) := by
  have e1 : pd (.lst (xs.map D.int)) = some (.list (xs.map PyData.int)) := by unfold pd; rw [pdL_ints]; rfl
  have e2 : pd (.lst (ys.map D.int)) = some (.list (ys.map PyData.int)) := by unfold pd; rw [pdL_ints]; rfl
  rw [dEq_pd e1 e2 (by unfold eqOk; simp [PyData.canLay0, canLay_ints, PyData.depth, depth_ints])]
  simp only [PyData.eqv, eqv_ints]
noncomputable def gk (d : D) : Prop := kn d = true ∧ ∀ ds, d = .tup ds → ds.length < 64 ∧ ∀ x ∈ ds, kn x = true
noncomputable def offsL (os : List (List Int × Int)) (ls : List Int) : List (List Int × Int) := ls.map fun i => os.getD i.toNat ([], 0)
theorem e_min {i j : Int} : dMin2 [.int i, .int j] = pure (.int (if j < i then j else i)) := rfl
theorem e_max {i j : Int} : dMax2 [.int i, .int j] = pure (.int (if j > i then j else i)) := rfl
theorem subs_wp {b : Nat} {turn : D → M (Option D)} (ht : ∀ (i : Int) {h : Hh} {Q : Option D → Hh → Prop}, Bx b h → (∀ o h', Ext b h h' → (o = none ∨ o = some (.int i)) → Q o h') → wp (turn (.int i)) h Q) :
    ∀ (is : List Int) {h : Hh} {P : List D → Hh → Prop}, Bx b h → (∀ (ys : List Int) h', Ext b h h' → ys.Sublist is → P (ys.map D.int) h') → wp (cLoop turn (is.map D.int)) h P
  | [], h, P, q, k => by
    rw [List.map_nil, cLoop, wp_pure]
    exact k [] h (Ext.refl q) .slnil
  | i :: r, h, P, q, k => by
    rw [List.map_cons, cLoop, wp_bind]
    refine ht i q fun o h2 x2 ho => ?_
    rw [wp_bind]
    refine subs_wp ht r x2.1 fun ys h3 x3 hl => ?_
    rw [wp_pure]
    rcases ho with rfl | rfl
    · exact k ys h3 (x2.trans x3) (.cons _ hl)
    · exact k (i :: ys) h3 (x2.trans x3) (.cons₂ _ hl)
theorem rangeI_up (n : Nat) : ((List.range n).map fun (k : Nat) => (k : Int)).Pairwise (· < ·) := by
  rw [List.pairwise_map]
  exact List.pairwise_lt_range.imp fun z => by omega
theorem rangeI_bd {n : Nat} : ∀ x ∈ (List.range n).map fun (k : Nat) => (k : Int), 0 ≤ x ∧ x < n := fun x hx => by
  obtain ⟨k, hk, rfl⟩ := List.mem_map.mp hx
  have := List.mem_range.mp hk
  omega
end L3
end
section
set_option maxHeartbeats 4000000
namespace L3
open PySem PySem.Spec PyProof.Rows L2 LT
noncomputable def EvX {α : Type} (m : M α) (c : String) : Prop := ∀ h, ∃ h', m h = .exc c h' ∧ Gro h h'
section
variable {α β : Type} {m : M α} {a : α} {f : α → M β} {c : String}
theorem EvX.raise : EvX (raiseM c : M α) c := fun h => ⟨h, rfl, .refl⟩
theorem EvX.of (e : m = raiseM c) : EvX m c := e ▸ .raise
theorem EvX.left (x : EvX m c) : EvX (m >>= f) c := fun h => by
  obtain ⟨h1, e1, g1⟩ := x h
  refine ⟨h1, ?_, g1⟩
  show M.bind m f h = _
  unfold M.bind
  rw [e1]
end
theorem e_snox {g : FS} {sd : Sd} : sNoX g sd = noX (g sd) := rfl
theorem e_cnox {g : FE} {sd : Sd} : cNoX g sd = noX (g sd) := rfl
theorem dAny_ok (bs : List Bool) : dAny [.lst (bs.map D.bl)] = pure (.bl (bs.any id)) := by
  show (do let bs ← ofO (blsD (bs.map D.bl)); pure (.bl (bs.any id)) : M D) = _
  rw [blsD_map]
  rfl
end L3
end
section
set_option maxHeartbeats 8000000
namespace K52
open PySem PySem.Spec PyProof.Rows L2 L3
noncomputable def G__law_take : FS := sThen (sAsg (cApp dDivmod (aCons (cOp dIx (dVar 0) (cK (.int 0))) (aCons (dVar 1) aNil))) (gTupD 2 (gsCons (gSet 2) (gsCons (gSet 3) gsNil)))) (sThen (sAsg (dVar 2) (gSubD (dVar 0) (cK (.int 0)))) (sRet (dVar 3)))
noncomputable def F__law_take : List D → M D := runB 4 G__law_take
theorem d__law_take (x0 x1 : D) : F__law_take [x0, x1] = (do let o ← G__law_take [some x0, some x1, none, none]; outD o) := rfl
noncomputable def E__law_stock_1 : FE := dVar 0
noncomputable def C__law_stock_1 : FT := tCmp dLe (cApp (callD 2 F__law_take) (aCons (dVar 1) (aCons (cK (.int 4)) aNil))) (dVar 2)
noncomputable def B__law_stock_1 : FS := sThen (sSet 8 (dComp (iRng (aCons (dVar 3) aNil)) (gSet 0) C__law_stock_1 E__law_stock_1 [none, some 0, some 5])) (sThen (sIf (tCmp dEq (dVar 8) (cLst aNil)) (sSet 8 (cLst (aCons (cApp (callD 2 F__law_take) (aCons (dVar 0) (aCons (dVar 3) aNil))) aNil))) sNil) (sExpr (cAppend (dVar 6) (cTup (aCons (cApp dTuple (aCons (dVar 8) aNil)) (aCons (cOp dAdd (cK (.int 1)) (cApp (callD 2 F__law_take) (aCons (dVar 0) (aCons (dVar 4) aNil)))) aNil))))))
noncomputable def G__law_stock : FS := sThen (sSet 3 (cOp dAdd (cK (.int 1)) (cApp (callD 2 F__law_take) (aCons (dVar 0) (aCons (dVar 1) aNil))))) (sThen (sSet 4 (cOp dIx (cLst (aCons (cK (.int 1)) (aCons (cK (.int 3)) (aCons (cK (.int 20)) (aCons (cOp dPow (cK (.int 10)) (cK (.int 20))) aNil))))) (cApp (callD 2 F__law_take) (aCons (dVar 0) (aCons (cK (.int 4)) aNil))))) (sThen (sSet 5 (cApp (callD 2 F__law_take) (aCons (dVar 0) (aCons (cK (.int 3)) aNil)))) (sThen (sSet 6 (cLstC aNil)) (sThen (sFor (iRng (aCons (cApp (callD 2 F__law_take) (aCons (dVar 0) (aCons (cOp dAdd (dVar 2) (cK (.int 1))) aNil))) aNil)) (gSet 7) B__law_stock_1) (sRet (cTup (aCons (dVar 3) (aCons (cApp dTuple (aCons (dVar 6) aNil)) aNil))))))))
noncomputable def F__law_stock : List D → M D := runB 9 G__law_stock
theorem d__law_stock (x0 x1 x2 : D) : F__law_stock [x0, x1, x2] = (do let o ← G__law_stock [some x0, some x1, some x2, none, none, none, none, none, none]; outD o) := rfl
noncomputable def G__law_cell : FS := sThen (sIf (tCmp dLt (dVar 1) (cApp dLen (aCons (dVar 0) aNil))) (sRet (cOp dIx (dVar 0) (dVar 1))) sNil) (sRet (cOp dAdd (cOp dMul (cK (.int 6151)) (dVar 1)) (cK (.int 29))))
noncomputable def F__law_cell : List D → M D := runB 2 G__law_cell
theorem d__law_cell (x0 x1 : D) : F__law_cell [x0, x1] = (do let o ← G__law_cell [some x0, some x1]; outD o) := rfl
noncomputable def G__law_mix : FS := sThen (sSet 2 (cOp dAdd (cOp dMulW (cOp dAdd (dVar 0) (cK (.int 1))) (cK (.int 40692))) (cOp dMulW (cK (.int 104729)) (dVar 1)))) (sThen (sSet 2 (cOp dAdd (cOp dMod (cOp dMulW (dVar 2) (dVar 2)) (cK (.int 2147483399))) (dVar 1))) (sRet (cOp dMod (cOp dMulW (dVar 2) (cOp dAdd (dVar 2) (cK (.int 31)))) (cK (.int 2147483563)))))
noncomputable def F__law_mix : List D → M D := runB 3 G__law_mix
theorem d__law_mix (x0 x1 : D) : F__law_mix [x0, x1] = (do let o ← G__law_mix [some x0, some x1, none]; outD o) := rfl
noncomputable def B__law_box_1 : FS := sSet 3 (cOp dAdd (cOp dMulW (dVar 3) (cK (.int 2147483647))) (cApp (callD 2 F__law_mix) (aCons (dVar 2) (aCons (dVar 4) aNil))))
noncomputable def G__law_box : FS := sThen (sSet 2 (cApp (callD 2 F__law_cell) (aCons (dVar 0) (aCons (dVar 1) aNil)))) (sThen (sIf (tCmp dEq (cOp dMod (dVar 2) (cK (.int 2))) (cK (.int 0))) (sRet (cLstC (aCons (cOp dFdiv (dVar 2) (cK (.int 2))) aNil))) sNil) (sThen (sSet 3 (cK (.int 0))) (sThen (sFor (iRng (aCons (cK (.int 24)) aNil)) (gSet 4) B__law_box_1) (sRet (cLstC (aCons (dVar 3) aNil))))))
noncomputable def F__law_box : List D → M D := runB 5 G__law_box
theorem d__law_box (x0 x1 : D) : F__law_box [x0, x1] = (do let o ← G__law_box [some x0, some x1, none, none, none]; outD o) := rfl
noncomputable def E_tuples_of_things_1 : FE := cOp dAdd (dVar 0) (cTup (aCons (dVar 1) aNil))
noncomputable def B_tuples_of_things_1 : FS := sSet 1 (cOp dAdd (dVar 1) (dComp (iSq (dVar 1)) (gSet 0) (fun _ => pure true) E_tuples_of_things_1 [none, some 2]))
noncomputable def G_tuples_of_things : FS := sThen (sSet 1 (cLst (aCons (cTup aNil) aNil))) (sThen (sFor (iRng (aCons (dVar 0) aNil)) (gSet 2) B_tuples_of_things_1) (sRet (dVar 1)))
noncomputable def F_tuples_of_things : List D → M D := runB 3 G_tuples_of_things
theorem d_tuples_of_things (x0 : D) : F_tuples_of_things [x0] = (do let o ← G_tuples_of_things [some x0, none, none]; outD o) := rfl
noncomputable def E_is_offer_hit_1 : FE := cOp dIn (dVar 0) (cOp dIx (dVar 1) (cK (.int 0)))
noncomputable def G_is_offer_hit : FS := sRet (cApp dAny (aCons (dComp (iSq (dVar 1)) (gSet 0) (fun _ => pure true) E_is_offer_hit_1 [none, some 0]) aNil))
noncomputable def F_is_offer_hit : List D → M D := runB 2 G_is_offer_hit
theorem d_is_offer_hit (x0 x1 : D) : F_is_offer_hit [x0, x1] = (do let o ← G_is_offer_hit [some x0, some x1]; outD o) := rfl
noncomputable def G_is_whole : FS := sRet (cAnd (cUn (dIsI "int") (dVar 0)) (cNot (cUn (dIsI "bool") (dVar 0))))
noncomputable def F_is_whole : List D → M D := runB 1 G_is_whole
theorem d_is_whole (x0 : D) : F_is_whole [x0] = (do let o ← G_is_whole [some x0]; outD o) := rfl
noncomputable def B_is_rising_1 : FS := sThen (sIf (tOr (tNot (tVal (cApp (callD 1 F_is_whole) (aCons (dVar 3) aNil)))) (tOr (tCmp dLt (dVar 3) (dVar 2)) (tCmp dGe (dVar 3) (dVar 1)))) (sRet (cK (.bl false))) sNil) (sSet 2 (cOp dAdd (dVar 3) (cK (.int 1))))
noncomputable def G_is_rising : FS := sThen (sIf (tNot (tVal (cUn (dIsI "tuple") (dVar 0)))) (sRet (cK (.bl false))) sNil) (sThen (sSet 2 (cK (.int 0))) (sThen (sFor (iSq (dVar 0)) (gSet 3) B_is_rising_1) (sRet (cK (.bl true)))))
noncomputable def F_is_rising : List D → M D := runB 4 G_is_rising
theorem d_is_rising (x0 x1 : D) : F_is_rising [x0, x1] = (do let o ← G_is_rising [some x0, some x1, none, none]; outD o) := rfl
noncomputable def E_is_hit_1 : FE := cApp (callD 2 F_is_offer_hit) (aCons (dVar 0) (aCons (dVar 1) aNil))
noncomputable def G_is_hit : FS := sRet (cAnd (cApp (callD 2 F_is_rising) (aCons (dVar 1) (aCons (cOp dIx (dVar 0) (cK (.int 0))) aNil))) (cApp dAll (aCons (dComp (iSq (cOp dIx (dVar 0) (cK (.int 1)))) (gSet 0) (fun _ => pure true) E_is_hit_1 [none, some 1]) aNil)))
noncomputable def F_is_hit : List D → M D := runB 2 G_is_hit
theorem d_is_hit (x0 x1 : D) : F_is_hit [x0, x1] = (do let o ← G_is_hit [some x0, some x1]; outD o) := rfl
noncomputable def E_fewest_hit_1 : FE := dVar 0
noncomputable def C_fewest_hit_1 : FT := tVal (cApp (callD 2 F_is_hit) (aCons (dVar 1) (aCons (dVar 0) aNil)))
noncomputable def E_fewest_hit_2 : FE := cTup (aCons (cApp dLen (aCons (dVar 0) aNil)) (aCons (dVar 0) aNil))
noncomputable def G_fewest_hit : FS := sThen (sSet 1 (dComp (iSq (cApp (callD 1 F_tuples_of_things) (aCons (cOp dIx (dVar 0) (cK (.int 0))) aNil))) (gSet 0) C_fewest_hit_1 E_fewest_hit_1 [none, some 0])) (sRet (cOp dIx (cApp dMin1 (aCons (dComp (iSq (dVar 1)) (gSet 0) (fun _ => pure true) E_fewest_hit_2 [none]) aNil)) (cK (.int 1))))
noncomputable def F_fewest_hit : List D → M D := runB 2 G_fewest_hit
theorem d_fewest_hit (x0 : D) : F_fewest_hit [x0] = (do let o ← G_fewest_hit [some x0, none]; outD o) := rfl
noncomputable def G__law_whole : FS := sRet (cAnd (cUn (dIsI "int") (dVar 0)) (cNot (cUn (dIsI "bool") (dVar 0))))
noncomputable def F__law_whole : List D → M D := runB 1 G__law_whole
theorem d__law_whole (x0 : D) : F__law_whole [x0] = (do let o ← G__law_whole [some x0]; outD o) := rfl
noncomputable def E__law_is_hit_1 : FE := cAnd (cApp (callD 1 F__law_whole) (aCons (dVar 0) aNil)) (cChain dLe dLt (cK (.int 0)) (dVar 0) (cOp dIx (dVar 1) (cK (.int 0))))
noncomputable def E__law_is_hit_2 : FE := dVar 0
noncomputable def C__law_is_hit_1 : FT := tCmp dIn (dVar 0) (dVar 1)
noncomputable def E__law_is_hit_3 : FE := cK (.int 1)
noncomputable def C__law_is_hit_2 : FT := tCmp dEq (dComp (iSq (dVar 0)) (gSet 0) C__law_is_hit_1 E__law_is_hit_2 [none, some 2]) (cLst aNil)
noncomputable def G__law_is_hit : FS := sThen (sIf (tOr (tNot (tVal (cUn (dIsI "tuple") (dVar 1)))) (tNot (tVal (cApp dAll (aCons (dComp (iSq (dVar 1)) (gSet 0) (fun _ => pure true) E__law_is_hit_1 [none, some 0]) aNil))))) (sRet (cK (.bl false))) sNil) (sThen (sIf (tCmp dNe (cApp dList (aCons (dVar 1) aNil)) (cUn dSortSet (dVar 1))) (sRet (cK (.bl false))) sNil) (sRet (cOp dEq (dComp (iSq (cOp dIx (dVar 0) (cK (.int 1)))) (gTupD 2 (gsCons (gSet 0) (gsCons (gSet 1) gsNil))) C__law_is_hit_2 E__law_is_hit_3 [none, none, some 1]) (cLst aNil))))
noncomputable def F__law_is_hit : List D → M D := runB 2 G__law_is_hit
theorem d__law_is_hit (x0 x1 : D) : F__law_is_hit [x0, x1] = (do let o ← G__law_is_hit [some x0, some x1]; outD o) := rfl
noncomputable def E__law_hits_1 : FE := dVar 0
noncomputable def C__law_hits_1 : FT := tCmp dEq (cOp dMod (cOp dShr (dVar 1) (dVar 0)) (cK (.int 2))) (cK (.int 1))
noncomputable def B__law_hits_1 : FS := sThen (sSet 3 (cApp dTuple (aCons (dComp (iRng (aCons (cOp dIx (dVar 0) (cK (.int 0))) aNil)) (gSet 0) C__law_hits_1 E__law_hits_1 [none, some 2]) aNil))) (sIf (tVal (cApp (callD 2 F__law_is_hit) (aCons (dVar 0) (aCons (dVar 3) aNil)))) (sExpr (cAppend (dVar 1) (cTup (aCons (cApp dLen (aCons (dVar 3) aNil)) (aCons (dVar 3) aNil))))) sNil)
noncomputable def G__law_hits : FS := sThen (sSet 1 (cLstC aNil)) (sThen (sFor (iRng (aCons (cOp dShl (cK (.int 1)) (cOp dIx (dVar 0) (cK (.int 0)))) aNil)) (gSet 2) B__law_hits_1) (sRet (cApp dSortP (aCons (dVar 1) aNil))))
noncomputable def F__law_hits : List D → M D := runB 4 G__law_hits
theorem d__law_hits (x0 : D) : F__law_hits [x0] = (do let o ← G__law_hits [some x0, none, none, none]; outD o) := rfl
noncomputable def B_law_1 : FS := sThen (sSet 2 (cApp (callD 3 F__law_stock) (aCons (cApp (callD 2 F__law_box) (aCons (dVar 0) (aCons (dVar 1) aNil))) (aCons (cK (.int 8)) (aCons (cK (.int 12)) aNil))))) (sThen (sSet 3 (cApp (callD 1 F_fewest_hit) (aCons (dVar 2) aNil))) (sIf (tOr (tNot (tVal (cUn (dIsI "tuple") (dVar 3)))) (tCmp dNe (dVar 3) (cOp dIx (cOp dIx (cApp (callD 1 F__law_hits) (aCons (dVar 2) aNil)) (cK (.int 0))) (cK (.int 1))))) (sRet (cK (.bl false))) sNil))
noncomputable def G_law : FS := sThen (sFor (iRng (aCons (cApp dMax2 (aCons (cK (.int 1)) (aCons (cApp dMin2 (aCons (cApp dLen (aCons (dVar 0) aNil)) (aCons (cK (.int 4)) aNil))) aNil))) aNil)) (gSet 1) B_law_1) (sRet (cAnd (cOp dEq (cApp (callD 1 F_fewest_hit) (aCons (cTup (aCons (cK (.int 3)) (aCons (cTup aNil) aNil))) aNil)) (cTup aNil)) (cOp dEq (cApp (callD 1 F_fewest_hit) (aCons (cTup (aCons (cK (.int 2)) (aCons (cTup (aCons (cTup (aCons (cTup (aCons (cK (.int 1)) aNil)) (aCons (cK (.int 4)) aNil))) (aCons (cTup (aCons (cTup (aCons (cK (.int 0)) (aCons (cK (.int 1)) aNil))) (aCons (cK (.int 1)) aNil))) aNil))) aNil))) aNil)) (cTup (aCons (cK (.int 1)) aNil)))))
noncomputable def F_law : List D → M D := runB 4 G_law
theorem d_law (x0 : D) : F_law [x0] = (do let o ← G_law [some x0, none, none, none]; outD o) := rfl
end K52
end
section
set_option maxHeartbeats 8000000
set_option genInjectivity false
set_option genSizeOf false
set_option genSizeOfSpec false
namespace K52
open PySem PySem.Spec PyProof.Rows L2 L3
noncomputable def top (i : Nat) : Stmt := PySem.Challenge.pw_cheapcovers_k52_fewest_hits.main.body.getD i (.Pass ⟨0, 0, 0, 0⟩)
theorem hu60 {A : Around} {k : Nat} (hr : Room k A) : A.units + 60 < cLine := by have := hr.units; omega
theorem bt_all : bootBuiltins "all" = some (.builtin "all") := by decide +kernel
theorem bt_any : bootBuiltins "any" = some (.builtin "any") := by decide +kernel
theorem bt_bool : bootBuiltins "bool" = some (.type "bool") := by decide +kernel
theorem bt_divmod : bootBuiltins "divmod" = some (.builtin "divmod") := by decide +kernel
theorem bt_int : bootBuiltins "int" = some (.type "int") := by decide +kernel
theorem bt_len : bootBuiltins "len" = some (.builtin "len") := by decide +kernel
theorem bt_list : bootBuiltins "list" = some (.type "list") := by decide +kernel
theorem bt_max : bootBuiltins "max" = some (.builtin "max") := by decide +kernel
theorem bt_min : bootBuiltins "min" = some (.builtin "min") := by decide +kernel
theorem bt_sorted : bootBuiltins "sorted" = some (.builtin "sorted") := by decide +kernel
theorem bt_tuple : bootBuiltins "tuple" = some (.type "tuple") := by decide +kernel
noncomputable abbrev s__law_take : Stmt := top 12
noncomputable abbrev s__law_stock : Stmt := top 13
noncomputable abbrev s__law_cell : Stmt := top 9
noncomputable abbrev s__law_mix : Stmt := top 10
noncomputable abbrev s__law_box : Stmt := top 11
noncomputable abbrev s_tuples_of_things : Stmt := top 7
noncomputable abbrev s_is_offer_hit : Stmt := top 6
noncomputable abbrev s_is_whole : Stmt := top 1
noncomputable abbrev s_is_rising : Stmt := top 2
noncomputable abbrev s_is_hit : Stmt := top 4
noncomputable abbrev s_fewest_hit : Stmt := top 5
noncomputable abbrev s__law_whole : Stmt := top 14
noncomputable abbrev s__law_is_hit : Stmt := top 15
noncomputable abbrev s__law_hits : Stmt := top 16
noncomputable abbrev s_law : Stmt := top 17
structure Ad where
  a__law_take : Addr
  d__law_take : FuncData
  a__law_stock : Addr
  d__law_stock : FuncData
  a__law_cell : Addr
  d__law_cell : FuncData
  a__law_mix : Addr
  d__law_mix : FuncData
  a__law_box : Addr
  d__law_box : FuncData
  a_tuples_of_things : Addr
  d_tuples_of_things : FuncData
  a_is_offer_hit : Addr
  d_is_offer_hit : FuncData
  a_is_whole : Addr
  d_is_whole : FuncData
  a_is_rising : Addr
  d_is_rising : FuncData
  a_is_hit : Addr
  d_is_hit : FuncData
  a_fewest_hit : Addr
  d_fewest_hit : FuncData
  a__law_whole : Addr
  d__law_whole : FuncData
  a__law_is_hit : Addr
  d__law_is_hit : FuncData
  a__law_hits : Addr
  d__law_hits : FuncData
  a_law : Addr
  d_law : FuncData
structure Tx (K : W.Frag) (mg : Str → Option Value) (t : Ad) : Prop where
  n_all : mg "all" = none
  n_any : mg "any" = none
  n_bool : mg "bool" = none
  n_divmod : mg "divmod" = none
  n_int : mg "int" = none
  n_isinstance : mg "isinstance" = none
  n_len : mg "len" = none
  n_list : mg "list" = none
  n_max : mg "max" = none
  n_min : mg "min" = none
  n_range : mg "range" = none
  n_set : mg "set" = none
  n_sorted : mg "sorted" = none
  n_tuple : mg "tuple" = none
  m__law_take : mg "_law_take" = some (.ref t.a__law_take)
  F__law_take : Fun K "_law_take" "_law_take" s__law_take t.a__law_take t.d__law_take
  b__law_take : Binds K t.d__law_take ["box", "many"] []
  m__law_stock : mg "_law_stock" = some (.ref t.a__law_stock)
  F__law_stock : Fun K "_law_stock" "_law_stock" s__law_stock t.a__law_stock t.d__law_stock
  b__law_stock : Binds K t.d__law_stock ["box", "most_things", "most_offers"] []
  m__law_cell : mg "_law_cell" = some (.ref t.a__law_cell)
  F__law_cell : Fun K "_law_cell" "_law_cell" s__law_cell t.a__law_cell t.d__law_cell
  b__law_cell : Binds K t.d__law_cell ["script", "k"] []
  m__law_mix : mg "_law_mix" = some (.ref t.a__law_mix)
  F__law_mix : Fun K "_law_mix" "_law_mix" s__law_mix t.a__law_mix t.d__law_mix
  b__law_mix : Binds K t.d__law_mix ["cell", "k"] []
  m__law_box : mg "_law_box" = some (.ref t.a__law_box)
  F__law_box : Fun K "_law_box" "_law_box" s__law_box t.a__law_box t.d__law_box
  b__law_box : Binds K t.d__law_box ["script", "k"] []
  m_tuples_of_things : mg "tuples_of_things" = some (.ref t.a_tuples_of_things)
  F_tuples_of_things : Fun K "tuples_of_things" "tuples_of_things" s_tuples_of_things t.a_tuples_of_things t.d_tuples_of_things
  b_tuples_of_things : Binds K t.d_tuples_of_things ["many"] []
  m_is_offer_hit : mg "is_offer_hit" = some (.ref t.a_is_offer_hit)
  F_is_offer_hit : Fun K "is_offer_hit" "is_offer_hit" s_is_offer_hit t.a_is_offer_hit t.d_is_offer_hit
  b_is_offer_hit : Binds K t.d_is_offer_hit ["offer", "things"] []
  m_is_whole : mg "is_whole" = some (.ref t.a_is_whole)
  F_is_whole : Fun K "is_whole" "is_whole" s_is_whole t.a_is_whole t.d_is_whole
  b_is_whole : Binds K t.d_is_whole ["thing"] []
  m_is_rising : mg "is_rising" = some (.ref t.a_is_rising)
  F_is_rising : Fun K "is_rising" "is_rising" s_is_rising t.a_is_rising t.d_is_rising
  b_is_rising : Binds K t.d_is_rising ["thing", "bound"] []
  m_is_hit : mg "is_hit" = some (.ref t.a_is_hit)
  F_is_hit : Fun K "is_hit" "is_hit" s_is_hit t.a_is_hit t.d_is_hit
  b_is_hit : Binds K t.d_is_hit ["stock", "thing"] []
  m_fewest_hit : mg "fewest_hit" = some (.ref t.a_fewest_hit)
  F_fewest_hit : Fun K "fewest_hit" "fewest_hit" s_fewest_hit t.a_fewest_hit t.d_fewest_hit
  b_fewest_hit : Binds K t.d_fewest_hit ["stock"] []
  m__law_whole : mg "_law_whole" = some (.ref t.a__law_whole)
  F__law_whole : Fun K "_law_whole" "_law_whole" s__law_whole t.a__law_whole t.d__law_whole
  b__law_whole : Binds K t.d__law_whole ["found"] []
  m__law_is_hit : mg "_law_is_hit" = some (.ref t.a__law_is_hit)
  F__law_is_hit : Fun K "_law_is_hit" "_law_is_hit" s__law_is_hit t.a__law_is_hit t.d__law_is_hit
  b__law_is_hit : Binds K t.d__law_is_hit ["stock", "thing"] []
  m__law_hits : mg "_law_hits" = some (.ref t.a__law_hits)
  F__law_hits : Fun K "_law_hits" "_law_hits" s__law_hits t.a__law_hits t.d__law_hits
  b__law_hits : Binds K t.d__law_hits ["stock"] []
  m_law : mg "law" = some (.ref t.a_law)
  F_law : Fun K "law" "law" s_law t.a_law t.d_law
  b_law : Binds K t.d_law ["script"] []
section
variable {P : Program} {w : World} {K : W.Frag} {mg : Str → Option Value} {base : Heap} {t : Ad}
theorem nd__law_take : (["box", "many", "left", "digit"] : List Str).Nodup := by decide +kernel
theorem sc__law_take : FnScope ["box", "many", "left", "digit"] ["box", "many"] (defScope s__law_take) := ⟨rfl, rfl, rfl, by decide +kernel, rfl, by decide +kernel, by decide +kernel⟩
theorem ok__law_take (T : Tx K mg t) : FnOk P w K mg base CX0 1 t.a__law_take t.d__law_take ["box", "many"] (spOf K 2 F__law_take) := by
  refine fn_ok (k := 0) (G := G__law_take) (N := ["box", "many", "left", "digit"]) (ps := ["box", "many"]) (st := s__law_take) T.F__law_take sc__law_take fun cdv A outer s H E hr => ?_
  refine r_scons ?_ ?_
  refine r_asg ?_ ?_
  refine r_callB (id := "divmod") ?_ ?_ ?_ ?_
  exact call_divmodD
  exact bt_divmod
  exact T.n_divmod
  refine r_acons ?_ ?_
  refine r_ix ?_ ?_
  exact r_var 0
  exact r_int
  refine r_acons ?_ ?_
  exact r_var 1
  exact r_anil
  refine r_gtup ?_ ?_
  exact rfl
  refine r_gscons ?_ ?_
  exact r_gname 2 nd__law_take
  refine r_gscons ?_ ?_
  exact r_gname 3 nd__law_take
  exact r_gsnil
  refine r_scons ?_ ?_
  refine r_asg ?_ ?_
  exact r_var 2
  refine r_gsub ?_ ?_
  exact r_var 0
  exact r_int
  refine r_sone ?_
  refine r_ret ?_
  exact r_var 3
theorem nd__law_stock : (["box", "most_things", "most_offers", "many", "kind", "full", "offers", "turn", "things"] : List Str).Nodup := by decide +kernel
theorem nd_b6 : (["thing", "box", "full"] : List Str).Nodup := by decide +kernel
theorem sc__law_stock : FnScope ["box", "most_things", "most_offers", "many", "kind", "full", "offers", "turn", "things"] ["box", "most_things", "most_offers"] (defScope s__law_stock) := ⟨rfl, rfl, rfl, by decide +kernel, rfl, by decide +kernel, by decide +kernel⟩
theorem ok__law_stock (T : Tx K mg t) : FnOk P w K mg base CX0 2 t.a__law_stock t.d__law_stock ["box", "most_things", "most_offers"] (spOf K 3 F__law_stock) := by
  have G__law_take := ok__law_take (P := P) (w := w) (base := base) T
  refine fn_ok (k := 1) (G := G__law_stock) (N := ["box", "most_things", "most_offers", "many", "kind", "full", "offers", "turn", "things"]) (ps := ["box", "most_things", "most_offers"]) (st := s__law_stock) T.F__law_stock sc__law_stock fun cdv A outer s H E hr => ?_
  refine r_scons ?_ ?_
  refine r_set 3 ?_ ?_
  exact nd__law_stock
  refine r_op ?_ ?_ ?_
  exact op_addD
  exact r_int
  refine r_call (k := 1) (g := t.a__law_take) (fd := t.d__law_take) (ps := ["box", "many"]) ?_ ?_ ?_ ?_ ?_ ?_
  exact G__law_take
  exact (hr.mono (by decide))
  exact T.m__law_take
  exact T.F__law_take.kp
  exact T.b__law_take
  refine r_acons ?_ ?_
  exact r_var 0
  refine r_acons ?_ ?_
  exact r_var 1
  exact r_anil
  refine r_scons ?_ ?_
  refine r_set 4 ?_ ?_
  exact nd__law_stock
  refine r_ix ?_ ?_
  refine r_lst ?_
  refine r_acons ?_ ?_
  exact r_int
  refine r_acons ?_ ?_
  exact r_int
  refine r_acons ?_ ?_
  exact r_int
  refine r_acons ?_ ?_
  refine r_op ?_ ?_ ?_
  exact op_powD
  exact r_int
  exact r_int
  exact r_anil
  refine r_call (k := 1) (g := t.a__law_take) (fd := t.d__law_take) (ps := ["box", "many"]) ?_ ?_ ?_ ?_ ?_ ?_
  exact G__law_take
  exact (hr.mono (by decide))
  exact T.m__law_take
  exact T.F__law_take.kp
  exact T.b__law_take
  refine r_acons ?_ ?_
  exact r_var 0
  refine r_acons ?_ ?_
  exact r_int
  exact r_anil
  refine r_scons ?_ ?_
  refine r_set 5 ?_ ?_
  exact nd__law_stock
  refine r_call (k := 1) (g := t.a__law_take) (fd := t.d__law_take) (ps := ["box", "many"]) ?_ ?_ ?_ ?_ ?_ ?_
  exact G__law_take
  exact (hr.mono (by decide))
  exact T.m__law_take
  exact T.F__law_take.kp
  exact T.b__law_take
  refine r_acons ?_ ?_
  exact r_var 0
  refine r_acons ?_ ?_
  exact r_int
  exact r_anil
  refine r_scons ?_ ?_
  refine r_set 6 ?_ ?_
  exact nd__law_stock
  refine r_lstC ?_
  exact r_anil
  refine r_scons ?_ ?_
  refine r_for ?_ ?_ ?_ ?_ ?_
  exact rfl
  exact PassesOwn.never
  refine r_rng ?_ ?_
  exact T.n_range
  refine r_acons ?_ ?_
  refine r_call (k := 1) (g := t.a__law_take) (fd := t.d__law_take) (ps := ["box", "many"]) ?_ ?_ ?_ ?_ ?_ ?_
  exact G__law_take
  exact (hr.mono (by decide))
  exact T.m__law_take
  exact T.F__law_take.kp
  exact T.b__law_take
  refine r_acons ?_ ?_
  exact r_var 0
  refine r_acons ?_ ?_
  refine r_op ?_ ?_ ?_
  exact op_addD
  exact r_var 2
  exact r_int
  exact r_anil
  exact r_anil
  exact r_gname 7 nd__law_stock
  refine r_scons ?_ ?_
  refine r_setcomp 8 (N := ["thing", "box", "full"]) ?_ ?_ ?_ ?_ ?_ ?_ ?_ ?_
  exact rfl
  exact nd__law_stock
  exact (BOk.of (Xn := (defScope s__law_stock).names) (XN := ["box", "most_things", "most_offers", "many", "kind", "full", "offers", "turn", "things"]) rfl rfl rfl (by decide +kernel))
  exact (GKeeps.name (i := 0) rfl)
  refine r_rng ?_ ?_
  exact T.n_range
  refine r_acons ?_ ?_
  exact r_var 3
  exact r_anil
  intro _ _ _
  exact r_gname 0 nd_b6
  intro _ _ _
  refine r_cone ?_
  refine r_tcmp ?_ ?_ ?_
  exact op_leD
  refine r_call (k := 1) (g := t.a__law_take) (fd := t.d__law_take) (ps := ["box", "many"]) ?_ ?_ ?_ ?_ ?_ ?_
  exact G__law_take
  exact (hr.mono (by decide))
  exact T.m__law_take
  exact T.F__law_take.kp
  exact T.b__law_take
  refine r_acons ?_ ?_
  exact r_var 1
  refine r_acons ?_ ?_
  exact r_int
  exact r_anil
  exact r_var 2
  intro _ _ _
  exact r_var 0
  refine r_scons ?_ ?_
  refine r_if ?_ ?_ ?_
  refine r_tcmp ?_ ?_ ?_
  exact (op_eqD (hu60 hr))
  exact r_var 8
  refine r_lst ?_
  exact r_anil
  refine r_sone ?_
  refine r_set 8 ?_ ?_
  exact nd__law_stock
  refine r_lst ?_
  refine r_acons ?_ ?_
  refine r_call (k := 1) (g := t.a__law_take) (fd := t.d__law_take) (ps := ["box", "many"]) ?_ ?_ ?_ ?_ ?_ ?_
  exact G__law_take
  exact (hr.mono (by decide))
  exact T.m__law_take
  exact T.F__law_take.kp
  exact T.b__law_take
  refine r_acons ?_ ?_
  exact r_var 0
  refine r_acons ?_ ?_
  exact r_var 3
  exact r_anil
  exact r_anil
  exact r_snil
  refine r_sone ?_
  refine r_expr ?_
  refine r_append ?_ ?_
  exact r_var 6
  refine r_tup ?_
  refine r_acons ?_ ?_
  refine r_callTy (T := "tuple") ?_ ?_ ?_ ?_
  exact call_tupleD
  exact bt_tuple
  exact T.n_tuple
  refine r_acons ?_ ?_
  exact r_var 8
  exact r_anil
  refine r_acons ?_ ?_
  refine r_op ?_ ?_ ?_
  exact op_addD
  exact r_int
  refine r_call (k := 1) (g := t.a__law_take) (fd := t.d__law_take) (ps := ["box", "many"]) ?_ ?_ ?_ ?_ ?_ ?_
  exact G__law_take
  exact (hr.mono (by decide))
  exact T.m__law_take
  exact T.F__law_take.kp
  exact T.b__law_take
  refine r_acons ?_ ?_
  exact r_var 0
  refine r_acons ?_ ?_
  exact r_var 4
  exact r_anil
  exact r_anil
  refine r_sone ?_
  refine r_ret ?_
  refine r_tup ?_
  refine r_acons ?_ ?_
  exact r_var 3
  refine r_acons ?_ ?_
  refine r_callTy (T := "tuple") ?_ ?_ ?_ ?_
  exact call_tupleD
  exact bt_tuple
  exact T.n_tuple
  refine r_acons ?_ ?_
  exact r_var 6
  exact r_anil
  exact r_anil
theorem sc__law_cell : FnScope ["script", "k"] ["script", "k"] (defScope s__law_cell) := ⟨rfl, rfl, rfl, by decide +kernel, rfl, by decide +kernel, by decide +kernel⟩
theorem ok__law_cell (T : Tx K mg t) : FnOk P w K mg base CX0 1 t.a__law_cell t.d__law_cell ["script", "k"] (spOf K 2 F__law_cell) := by
  refine fn_ok (k := 0) (G := G__law_cell) (N := ["script", "k"]) (ps := ["script", "k"]) (st := s__law_cell) T.F__law_cell sc__law_cell fun cdv A outer s H E hr => ?_
  refine r_scons ?_ ?_
  refine r_if ?_ ?_ ?_
  refine r_tcmp ?_ ?_ ?_
  exact op_ltD
  exact r_var 1
  refine r_callB (id := "len") ?_ ?_ ?_ ?_
  exact call_lenD
  exact bt_len
  exact T.n_len
  refine r_acons ?_ ?_
  exact r_var 0
  exact r_anil
  refine r_sone ?_
  refine r_ret ?_
  refine r_ix ?_ ?_
  exact r_var 0
  exact r_var 1
  exact r_snil
  refine r_sone ?_
  refine r_ret ?_
  refine r_op ?_ ?_ ?_
  exact op_addD
  refine r_op ?_ ?_ ?_
  exact op_mulX
  exact r_int
  exact r_var 1
  exact r_int
theorem nd__law_mix : (["cell", "k", "number"] : List Str).Nodup := by decide +kernel
theorem sc__law_mix : FnScope ["cell", "k", "number"] ["cell", "k"] (defScope s__law_mix) := ⟨rfl, rfl, rfl, by decide +kernel, rfl, by decide +kernel, by decide +kernel⟩
theorem ok__law_mix (T : Tx K mg t) : FnOk P w K mg base CX0 1 t.a__law_mix t.d__law_mix ["cell", "k"] (spOf K 2 F__law_mix) := by
  refine fn_ok (k := 0) (G := G__law_mix) (N := ["cell", "k", "number"]) (ps := ["cell", "k"]) (st := s__law_mix) T.F__law_mix sc__law_mix fun cdv A outer s H E hr => ?_
  refine r_scons ?_ ?_
  refine r_set 2 ?_ ?_
  exact nd__law_mix
  refine r_op ?_ ?_ ?_
  exact op_addD
  refine r_op ?_ ?_ ?_
  exact op_mulW
  refine r_op ?_ ?_ ?_
  exact op_addD
  exact r_var 0
  exact r_int
  exact r_int
  refine r_op ?_ ?_ ?_
  exact op_mulW
  exact r_int
  exact r_var 1
  refine r_scons ?_ ?_
  refine r_set 2 ?_ ?_
  exact nd__law_mix
  refine r_op ?_ ?_ ?_
  exact op_addD
  refine r_op ?_ ?_ ?_
  exact op_modD
  refine r_op ?_ ?_ ?_
  exact op_mulW
  exact r_var 2
  exact r_var 2
  exact r_int
  exact r_var 1
  refine r_sone ?_
  refine r_ret ?_
  refine r_op ?_ ?_ ?_
  exact op_modD
  refine r_op ?_ ?_ ?_
  exact op_mulW
  exact r_var 2
  refine r_op ?_ ?_ ?_
  exact op_addD
  exact r_var 2
  exact r_int
  exact r_int
theorem nd__law_box : (["script", "k", "here", "number", "j"] : List Str).Nodup := by decide +kernel
theorem sc__law_box : FnScope ["script", "k", "here", "number", "j"] ["script", "k"] (defScope s__law_box) := ⟨rfl, rfl, rfl, by decide +kernel, rfl, by decide +kernel, by decide +kernel⟩
theorem ok__law_box (T : Tx K mg t) : FnOk P w K mg base CX0 2 t.a__law_box t.d__law_box ["script", "k"] (spOf K 2 F__law_box) := by
  have G__law_cell := ok__law_cell (P := P) (w := w) (base := base) T
  have G__law_mix := ok__law_mix (P := P) (w := w) (base := base) T
  refine fn_ok (k := 1) (G := G__law_box) (N := ["script", "k", "here", "number", "j"]) (ps := ["script", "k"]) (st := s__law_box) T.F__law_box sc__law_box fun cdv A outer s H E hr => ?_
  refine r_scons ?_ ?_
  refine r_set 2 ?_ ?_
  exact nd__law_box
  refine r_call (k := 1) (g := t.a__law_cell) (fd := t.d__law_cell) (ps := ["script", "k"]) ?_ ?_ ?_ ?_ ?_ ?_
  exact G__law_cell
  exact (hr.mono (by decide))
  exact T.m__law_cell
  exact T.F__law_cell.kp
  exact T.b__law_cell
  refine r_acons ?_ ?_
  exact r_var 0
  refine r_acons ?_ ?_
  exact r_var 1
  exact r_anil
  refine r_scons ?_ ?_
  refine r_if ?_ ?_ ?_
  refine r_tcmp ?_ ?_ ?_
  exact (op_eqD (hu60 hr))
  refine r_op ?_ ?_ ?_
  exact op_modD
  exact r_var 2
  exact r_int
  exact r_int
  refine r_sone ?_
  refine r_ret ?_
  refine r_lstC ?_
  refine r_acons ?_ ?_
  refine r_op ?_ ?_ ?_
  exact op_fdivD
  exact r_var 2
  exact r_int
  exact r_anil
  exact r_snil
  refine r_scons ?_ ?_
  refine r_set 3 ?_ ?_
  exact nd__law_box
  exact r_int
  refine r_scons ?_ ?_
  refine r_for ?_ ?_ ?_ ?_ ?_
  exact rfl
  exact PassesOwn.never
  refine r_rng ?_ ?_
  exact T.n_range
  refine r_acons ?_ ?_
  exact r_int
  exact r_anil
  exact r_gname 4 nd__law_box
  refine r_sone ?_
  refine r_set 3 ?_ ?_
  exact nd__law_box
  refine r_op ?_ ?_ ?_
  exact op_addD
  refine r_op ?_ ?_ ?_
  exact op_mulW
  exact r_var 3
  exact r_int
  refine r_call (k := 1) (g := t.a__law_mix) (fd := t.d__law_mix) (ps := ["cell", "k"]) ?_ ?_ ?_ ?_ ?_ ?_
  exact G__law_mix
  exact (hr.mono (by decide))
  exact T.m__law_mix
  exact T.F__law_mix.kp
  exact T.b__law_mix
  refine r_acons ?_ ?_
  exact r_var 2
  refine r_acons ?_ ?_
  exact r_var 4
  exact r_anil
  refine r_sone ?_
  refine r_ret ?_
  refine r_lstC ?_
  refine r_acons ?_ ?_
  exact r_var 3
  exact r_anil
theorem nd_tuples_of_things : (["many", "found", "thing"] : List Str).Nodup := by decide +kernel
theorem nd_b5 : (["things", "thing"] : List Str).Nodup := by decide +kernel
theorem sc_tuples_of_things : FnScope ["many", "found", "thing"] ["many"] (defScope s_tuples_of_things) := ⟨rfl, rfl, rfl, by decide +kernel, rfl, by decide +kernel, by decide +kernel⟩
theorem ok_tuples_of_things (T : Tx K mg t) : FnOk P w K mg base CX0 1 t.a_tuples_of_things t.d_tuples_of_things ["many"] (spOf K 1 F_tuples_of_things) := by
  refine fn_ok (k := 0) (G := G_tuples_of_things) (N := ["many", "found", "thing"]) (ps := ["many"]) (st := s_tuples_of_things) T.F_tuples_of_things sc_tuples_of_things fun cdv A outer s H E hr => ?_
  refine r_scons ?_ ?_
  refine r_set 1 ?_ ?_
  exact nd_tuples_of_things
  refine r_lst ?_
  refine r_acons ?_ ?_
  refine r_tup ?_
  exact r_anil
  exact r_anil
  refine r_scons ?_ ?_
  refine r_for ?_ ?_ ?_ ?_ ?_
  exact rfl
  exact PassesOwn.never
  refine r_rng ?_ ?_
  exact T.n_range
  refine r_acons ?_ ?_
  exact r_var 0
  exact r_anil
  exact r_gname 2 nd_tuples_of_things
  refine r_sone ?_
  refine r_set 1 ?_ ?_
  exact nd_tuples_of_things
  refine r_op ?_ ?_ ?_
  exact op_addD
  exact r_var 1
  refine r_comp (N := ["things", "thing"]) ?_ ?_ ?_ ?_ ?_ ?_ ?_
  exact rfl
  exact (BOk.of (Xn := (defScope s_tuples_of_things).names) (XN := ["many", "found", "thing"]) rfl rfl rfl (by decide +kernel))
  exact (GKeeps.name (i := 0) rfl)
  refine r_seq ?_
  exact r_var 1
  intro _ _ _
  exact r_gname 0 nd_b5
  intro _ _ _
  exact r_cnil
  intro _ _ _
  refine r_op ?_ ?_ ?_
  exact op_addD
  exact r_var 0
  refine r_tup ?_
  refine r_acons ?_ ?_
  exact r_var 1
  exact r_anil
  refine r_sone ?_
  refine r_ret ?_
  exact r_var 1
theorem nd_b4 : (["thing", "offer"] : List Str).Nodup := by decide +kernel
theorem sc_is_offer_hit : FnScope ["offer", "things"] ["offer", "things"] (defScope s_is_offer_hit) := ⟨rfl, rfl, rfl, by decide +kernel, rfl, by decide +kernel, by decide +kernel⟩
theorem ok_is_offer_hit (T : Tx K mg t) : FnOk P w K mg base CX0 1 t.a_is_offer_hit t.d_is_offer_hit ["offer", "things"] (spOf K 2 F_is_offer_hit) := by
  refine fn_ok (k := 0) (G := G_is_offer_hit) (N := ["offer", "things"]) (ps := ["offer", "things"]) (st := s_is_offer_hit) T.F_is_offer_hit sc_is_offer_hit fun cdv A outer s H E hr => ?_
  refine r_sone ?_
  refine r_ret ?_
  refine r_callB (id := "any") ?_ ?_ ?_ ?_
  exact (call_anyD rfl)
  exact bt_any
  exact T.n_any
  refine r_acons ?_ ?_
  refine r_comp (N := ["thing", "offer"]) ?_ ?_ ?_ ?_ ?_ ?_ ?_
  exact rfl
  exact (BOk.of (Xn := (defScope s_is_offer_hit).names) (XN := ["offer", "things"]) rfl rfl rfl (by decide +kernel))
  exact (GKeeps.name (i := 0) rfl)
  refine r_seq ?_
  exact r_var 1
  intro _ _ _
  exact r_gname 0 nd_b4
  intro _ _ _
  exact r_cnil
  intro _ _ _
  refine r_cmp ?_ ?_ ?_
  exact (op_inD (hu60 hr))
  exact r_var 0
  refine r_ix ?_ ?_
  exact r_var 1
  exact r_int
  exact r_anil
theorem sc_is_whole : FnScope ["thing"] ["thing"] (defScope s_is_whole) := ⟨rfl, rfl, rfl, by decide +kernel, rfl, by decide +kernel, by decide +kernel⟩
theorem ok_is_whole (T : Tx K mg t) : FnOk P w K mg base CX0 1 t.a_is_whole t.d_is_whole ["thing"] (spOf K 1 F_is_whole) := by
  refine fn_ok (k := 0) (G := G_is_whole) (N := ["thing"]) (ps := ["thing"]) (st := s_is_whole) T.F_is_whole sc_is_whole fun cdv A outer s H E hr => ?_
  refine r_sone ?_
  refine r_ret ?_
  refine r_and ?_ ?_
  refine r_isI ?_ ?_ ?_ ?_ ?_
  exact kit_int
  exact bt_int
  exact T.n_isinstance
  exact T.n_int
  exact r_var 0
  refine r_one ?_
  refine r_not ?_
  refine r_isI ?_ ?_ ?_ ?_ ?_
  exact kit_bool
  exact bt_bool
  exact T.n_isinstance
  exact T.n_bool
  exact r_var 0
theorem nd_is_rising : (["thing", "bound", "least", "number"] : List Str).Nodup := by decide +kernel
theorem sc_is_rising : FnScope ["thing", "bound", "least", "number"] ["thing", "bound"] (defScope s_is_rising) := ⟨rfl, rfl, rfl, by decide +kernel, rfl, by decide +kernel, by decide +kernel⟩
theorem ok_is_rising (T : Tx K mg t) : FnOk P w K mg base CX0 2 t.a_is_rising t.d_is_rising ["thing", "bound"] (spOf K 2 F_is_rising) := by
  have G_is_whole := ok_is_whole (P := P) (w := w) (base := base) T
  refine fn_ok (k := 1) (G := G_is_rising) (N := ["thing", "bound", "least", "number"]) (ps := ["thing", "bound"]) (st := s_is_rising) T.F_is_rising sc_is_rising fun cdv A outer s H E hr => ?_
  refine r_scons ?_ ?_
  refine r_if ?_ ?_ ?_
  refine r_tnot ?_
  refine r_tval ?_
  refine r_isI ?_ ?_ ?_ ?_ ?_
  exact kit_tuple
  exact bt_tuple
  exact T.n_isinstance
  exact T.n_tuple
  exact r_var 0
  refine r_sone ?_
  refine r_ret ?_
  exact r_bl
  exact r_snil
  refine r_scons ?_ ?_
  refine r_set 2 ?_ ?_
  exact nd_is_rising
  exact r_int
  refine r_scons ?_ ?_
  refine r_for ?_ ?_ ?_ ?_ ?_
  exact rfl
  exact PassesOwn.never
  refine r_seq ?_
  exact r_var 0
  exact r_gname 3 nd_is_rising
  refine r_scons ?_ ?_
  refine r_if ?_ ?_ ?_
  refine r_tbool ?_
  refine r_wor ?_ ?_
  refine r_tnot ?_
  refine r_tval ?_
  refine r_call (k := 1) (g := t.a_is_whole) (fd := t.d_is_whole) (ps := ["thing"]) ?_ ?_ ?_ ?_ ?_ ?_
  exact G_is_whole
  exact (hr.mono (by decide))
  exact T.m_is_whole
  exact T.F_is_whole.kp
  exact T.b_is_whole
  refine r_acons ?_ ?_
  exact r_var 3
  exact r_anil
  refine r_wor ?_ ?_
  refine r_tcmp ?_ ?_ ?_
  exact op_ltD
  exact r_var 3
  exact r_var 2
  refine r_wor1 ?_
  refine r_tcmp ?_ ?_ ?_
  exact op_geD
  exact r_var 3
  exact r_var 1
  refine r_sone ?_
  refine r_ret ?_
  exact r_bl
  exact r_snil
  refine r_sone ?_
  refine r_set 2 ?_ ?_
  exact nd_is_rising
  refine r_op ?_ ?_ ?_
  exact op_addD
  exact r_var 3
  exact r_int
  refine r_sone ?_
  refine r_ret ?_
  exact r_bl
theorem nd_b1 : (["offer", "thing"] : List Str).Nodup := by decide +kernel
theorem sc_is_hit : FnScope ["stock", "thing"] ["stock", "thing"] (defScope s_is_hit) := ⟨rfl, rfl, rfl, by decide +kernel, rfl, by decide +kernel, by decide +kernel⟩
theorem ok_is_hit (T : Tx K mg t) : FnOk P w K mg base CX0 3 t.a_is_hit t.d_is_hit ["stock", "thing"] (spOf K 2 F_is_hit) := by
  have G_is_offer_hit := ok_is_offer_hit (P := P) (w := w) (base := base) T
  have G_is_rising := ok_is_rising (P := P) (w := w) (base := base) T
  refine fn_ok (k := 2) (G := G_is_hit) (N := ["stock", "thing"]) (ps := ["stock", "thing"]) (st := s_is_hit) T.F_is_hit sc_is_hit fun cdv A outer s H E hr => ?_
  refine r_sone ?_
  refine r_ret ?_
  refine r_and ?_ ?_
  refine r_call (k := 2) (g := t.a_is_rising) (fd := t.d_is_rising) (ps := ["thing", "bound"]) ?_ ?_ ?_ ?_ ?_ ?_
  exact G_is_rising
  exact (hr.mono (by decide))
  exact T.m_is_rising
  exact T.F_is_rising.kp
  exact T.b_is_rising
  refine r_acons ?_ ?_
  exact r_var 1
  refine r_acons ?_ ?_
  refine r_ix ?_ ?_
  exact r_var 0
  exact r_int
  exact r_anil
  refine r_one ?_
  refine r_callB (id := "all") ?_ ?_ ?_ ?_
  exact (call_allD rfl)
  exact bt_all
  exact T.n_all
  refine r_acons ?_ ?_
  refine r_comp (N := ["offer", "thing"]) ?_ ?_ ?_ ?_ ?_ ?_ ?_
  exact rfl
  exact (BOk.of (Xn := (defScope s_is_hit).names) (XN := ["stock", "thing"]) rfl rfl rfl (by decide +kernel))
  exact (GKeeps.name (i := 0) rfl)
  refine r_seq ?_
  refine r_ix ?_ ?_
  exact r_var 0
  exact r_int
  intro _ _ _
  exact r_gname 0 nd_b1
  intro _ _ _
  exact r_cnil
  intro _ _ _
  refine r_call (k := 1) (g := t.a_is_offer_hit) (fd := t.d_is_offer_hit) (ps := ["offer", "things"]) ?_ ?_ ?_ ?_ ?_ ?_
  exact G_is_offer_hit
  exact (hr.mono (by decide))
  exact T.m_is_offer_hit
  exact T.F_is_offer_hit.kp
  exact T.b_is_offer_hit
  refine r_acons ?_ ?_
  exact r_var 0
  refine r_acons ?_ ?_
  exact r_var 1
  exact r_anil
  exact r_anil
theorem nd_fewest_hit : (["stock", "hits"] : List Str).Nodup := by decide +kernel
theorem nd_b2 : (["things", "stock"] : List Str).Nodup := by decide +kernel
theorem nd_b3 : (["hit"] : List Str).Nodup := by decide +kernel
theorem sc_fewest_hit : FnScope ["stock", "hits"] ["stock"] (defScope s_fewest_hit) := ⟨rfl, rfl, rfl, by decide +kernel, rfl, by decide +kernel, by decide +kernel⟩
theorem ok_fewest_hit (T : Tx K mg t) : FnOk P w K mg base CX0 4 t.a_fewest_hit t.d_fewest_hit ["stock"] (spOf K 1 F_fewest_hit) := by
  have G_tuples_of_things := ok_tuples_of_things (P := P) (w := w) (base := base) T
  have G_is_hit := ok_is_hit (P := P) (w := w) (base := base) T
  refine fn_ok (k := 3) (G := G_fewest_hit) (N := ["stock", "hits"]) (ps := ["stock"]) (st := s_fewest_hit) T.F_fewest_hit sc_fewest_hit fun cdv A outer s H E hr => ?_
  refine r_scons ?_ ?_
  refine r_setcomp 1 (N := ["things", "stock"]) ?_ ?_ ?_ ?_ ?_ ?_ ?_ ?_
  exact rfl
  exact nd_fewest_hit
  exact (BOk.of (Xn := (defScope s_fewest_hit).names) (XN := ["stock", "hits"]) rfl rfl rfl (by decide +kernel))
  exact (GKeeps.name (i := 0) rfl)
  refine r_seq ?_
  refine r_call (k := 1) (g := t.a_tuples_of_things) (fd := t.d_tuples_of_things) (ps := ["many"]) ?_ ?_ ?_ ?_ ?_ ?_
  exact G_tuples_of_things
  exact (hr.mono (by decide))
  exact T.m_tuples_of_things
  exact T.F_tuples_of_things.kp
  exact T.b_tuples_of_things
  refine r_acons ?_ ?_
  refine r_ix ?_ ?_
  exact r_var 0
  exact r_int
  exact r_anil
  intro _ _ _
  exact r_gname 0 nd_b2
  intro _ _ _
  refine r_cone ?_
  refine r_tval ?_
  refine r_call (k := 3) (g := t.a_is_hit) (fd := t.d_is_hit) (ps := ["stock", "thing"]) ?_ ?_ ?_ ?_ ?_ ?_
  exact G_is_hit
  exact (hr.mono (by decide))
  exact T.m_is_hit
  exact T.F_is_hit.kp
  exact T.b_is_hit
  refine r_acons ?_ ?_
  exact r_var 1
  refine r_acons ?_ ?_
  exact r_var 0
  exact r_anil
  intro _ _ _
  exact r_var 0
  refine r_sone ?_
  refine r_ret ?_
  refine r_ix ?_ ?_
  refine r_callB (id := "min") ?_ ?_ ?_ ?_
  exact (call_min1D (hu60 hr))
  exact bt_min
  exact T.n_min
  refine r_acons ?_ ?_
  refine r_comp (N := ["hit"]) ?_ ?_ ?_ ?_ ?_ ?_ ?_
  exact rfl
  exact (BOk.of (Xn := (defScope s_fewest_hit).names) (XN := ["stock", "hits"]) rfl rfl rfl (by decide +kernel))
  exact (GKeeps.name (i := 0) rfl)
  refine r_seq ?_
  exact r_var 1
  intro _ _ _
  exact r_gname 0 nd_b3
  intro _ _ _
  exact r_cnil
  intro _ _ _
  refine r_tup ?_
  refine r_acons ?_ ?_
  refine r_callB (id := "len") ?_ ?_ ?_ ?_
  exact call_lenD
  exact bt_len
  exact T.n_len
  refine r_acons ?_ ?_
  exact r_var 0
  exact r_anil
  refine r_acons ?_ ?_
  exact r_var 0
  exact r_anil
  exact r_anil
  exact r_int
theorem sc__law_whole : FnScope ["found"] ["found"] (defScope s__law_whole) := ⟨rfl, rfl, rfl, by decide +kernel, rfl, by decide +kernel, by decide +kernel⟩
theorem ok__law_whole (T : Tx K mg t) : FnOk P w K mg base CX0 1 t.a__law_whole t.d__law_whole ["found"] (spOf K 1 F__law_whole) := by
  refine fn_ok (k := 0) (G := G__law_whole) (N := ["found"]) (ps := ["found"]) (st := s__law_whole) T.F__law_whole sc__law_whole fun cdv A outer s H E hr => ?_
  refine r_sone ?_
  refine r_ret ?_
  refine r_and ?_ ?_
  refine r_isI ?_ ?_ ?_ ?_ ?_
  exact kit_int
  exact bt_int
  exact T.n_isinstance
  exact T.n_int
  exact r_var 0
  refine r_one ?_
  refine r_not ?_
  refine r_isI ?_ ?_ ?_ ?_ ?_
  exact kit_bool
  exact bt_bool
  exact T.n_isinstance
  exact T.n_bool
  exact r_var 0
theorem nd_b7 : (["one", "stock"] : List Str).Nodup := by decide +kernel
theorem nd_b8 : (["things", "price", "thing"] : List Str).Nodup := by decide +kernel
theorem nd_b9 : (["one", "thing"] : List Str).Nodup := by decide +kernel
theorem sc__law_is_hit : FnScope ["stock", "thing"] ["stock", "thing"] (defScope s__law_is_hit) := ⟨rfl, rfl, rfl, by decide +kernel, rfl, by decide +kernel, by decide +kernel⟩
theorem ok__law_is_hit (T : Tx K mg t) : FnOk P w K mg base CX0 2 t.a__law_is_hit t.d__law_is_hit ["stock", "thing"] (spOf K 2 F__law_is_hit) := by
  have G__law_whole := ok__law_whole (P := P) (w := w) (base := base) T
  refine fn_ok (k := 1) (G := G__law_is_hit) (N := ["stock", "thing"]) (ps := ["stock", "thing"]) (st := s__law_is_hit) T.F__law_is_hit sc__law_is_hit fun cdv A outer s H E hr => ?_
  refine r_scons ?_ ?_
  refine r_if ?_ ?_ ?_
  refine r_tbool ?_
  refine r_wor ?_ ?_
  refine r_tnot ?_
  refine r_tval ?_
  refine r_isI ?_ ?_ ?_ ?_ ?_
  exact kit_tuple
  exact bt_tuple
  exact T.n_isinstance
  exact T.n_tuple
  exact r_var 1
  refine r_wor1 ?_
  refine r_tnot ?_
  refine r_tval ?_
  refine r_callB (id := "all") ?_ ?_ ?_ ?_
  exact (call_allD rfl)
  exact bt_all
  exact T.n_all
  refine r_acons ?_ ?_
  refine r_comp (N := ["one", "stock"]) ?_ ?_ ?_ ?_ ?_ ?_ ?_
  exact rfl
  exact (BOk.of (Xn := (defScope s__law_is_hit).names) (XN := ["stock", "thing"]) rfl rfl rfl (by decide +kernel))
  exact (GKeeps.name (i := 0) rfl)
  refine r_seq ?_
  exact r_var 1
  intro _ _ _
  exact r_gname 0 nd_b7
  intro _ _ _
  exact r_cnil
  intro _ _ _
  refine r_and ?_ ?_
  refine r_call (k := 1) (g := t.a__law_whole) (fd := t.d__law_whole) (ps := ["found"]) ?_ ?_ ?_ ?_ ?_ ?_
  exact G__law_whole
  exact (hr.mono (by decide))
  exact T.m__law_whole
  exact T.F__law_whole.kp
  exact T.b__law_whole
  refine r_acons ?_ ?_
  exact r_var 0
  exact r_anil
  refine r_one ?_
  refine r_chain ?_ ?_ ?_ ?_ ?_
  exact op_leD
  exact op_ltD
  exact r_int
  exact r_var 0
  refine r_ix ?_ ?_
  exact r_var 1
  exact r_int
  exact r_anil
  refine r_sone ?_
  refine r_ret ?_
  exact r_bl
  exact r_snil
  refine r_scons ?_ ?_
  refine r_if ?_ ?_ ?_
  refine r_tcmp ?_ ?_ ?_
  exact (op_neD (hu60 hr))
  refine r_callTy (T := "list") ?_ ?_ ?_ ?_
  exact call_listD
  exact bt_list
  exact T.n_list
  refine r_acons ?_ ?_
  exact r_var 1
  exact r_anil
  refine r_sortset ?_ ?_ ?_ ?_
  exact rfl
  exact T.n_sorted
  exact T.n_set
  exact r_var 1
  refine r_sone ?_
  refine r_ret ?_
  exact r_bl
  exact r_snil
  refine r_sone ?_
  refine r_ret ?_
  refine r_cmp ?_ ?_ ?_
  exact (op_eqD (hu60 hr))
  refine r_comp (N := ["things", "price", "thing"]) ?_ ?_ ?_ ?_ ?_ ?_ ?_
  exact rfl
  exact (BOk.of (Xn := (defScope s__law_is_hit).names) (XN := ["stock", "thing"]) rfl rfl rfl (by decide +kernel))
  exact (GKeeps.tup (GsKeeps.cons (i := 0) rfl (GsKeeps.cons (i := 1) rfl GsKeeps.nil)))
  refine r_seq ?_
  refine r_ix ?_ ?_
  exact r_var 0
  exact r_int
  intro _ _ _
  refine r_gtup ?_ ?_
  exact rfl
  refine r_gscons ?_ ?_
  exact r_gname 0 nd_b8
  refine r_gscons ?_ ?_
  exact r_gname 1 nd_b8
  exact r_gsnil
  intro _ _ _
  refine r_cone ?_
  refine r_tcmp ?_ ?_ ?_
  exact (op_eqD (hu60 hr))
  refine r_comp (N := ["one", "thing"]) ?_ ?_ ?_ ?_ ?_ ?_ ?_
  exact rfl
  exact (BOk.of (N := ["one", "thing"]) (src := [none, some 2]) rfl rfl rfl (by rfl))
  exact (GKeeps.name (i := 0) rfl)
  refine r_seq ?_
  exact r_var 0
  intro _ _ _
  exact r_gname 0 nd_b9
  intro _ _ _
  refine r_cone ?_
  refine r_tcmp ?_ ?_ ?_
  exact (op_inD (hu60 hr))
  exact r_var 0
  exact r_var 1
  intro _ _ _
  exact r_var 0
  refine r_lst ?_
  exact r_anil
  intro _ _ _
  exact r_int
  refine r_lst ?_
  exact r_anil
theorem nd__law_hits : (["stock", "found", "bits", "thing"] : List Str).Nodup := by decide +kernel
theorem nd_b10 : (["one", "bits"] : List Str).Nodup := by decide +kernel
theorem sc__law_hits : FnScope ["stock", "found", "bits", "thing"] ["stock"] (defScope s__law_hits) := ⟨rfl, rfl, rfl, by decide +kernel, rfl, by decide +kernel, by decide +kernel⟩
theorem ok__law_hits (T : Tx K mg t) : FnOk P w K mg base CX0 3 t.a__law_hits t.d__law_hits ["stock"] (spOf K 1 F__law_hits) := by
  have G__law_is_hit := ok__law_is_hit (P := P) (w := w) (base := base) T
  refine fn_ok (k := 2) (G := G__law_hits) (N := ["stock", "found", "bits", "thing"]) (ps := ["stock"]) (st := s__law_hits) T.F__law_hits sc__law_hits fun cdv A outer s H E hr => ?_
  refine r_scons ?_ ?_
  refine r_set 1 ?_ ?_
  exact nd__law_hits
  refine r_lstC ?_
  exact r_anil
  refine r_scons ?_ ?_
  refine r_for ?_ ?_ ?_ ?_ ?_
  exact rfl
  exact PassesOwn.never
  refine r_rng ?_ ?_
  exact T.n_range
  refine r_acons ?_ ?_
  refine r_op ?_ ?_ ?_
  exact op_shlD
  exact r_int
  refine r_ix ?_ ?_
  exact r_var 0
  exact r_int
  exact r_anil
  exact r_gname 2 nd__law_hits
  refine r_scons ?_ ?_
  refine r_set 3 ?_ ?_
  exact nd__law_hits
  refine r_callTy (T := "tuple") ?_ ?_ ?_ ?_
  exact call_tupleD
  exact bt_tuple
  exact T.n_tuple
  refine r_acons ?_ ?_
  refine r_comp (N := ["one", "bits"]) ?_ ?_ ?_ ?_ ?_ ?_ ?_
  exact rfl
  exact (BOk.of (Xn := (defScope s__law_hits).names) (XN := ["stock", "found", "bits", "thing"]) rfl rfl rfl (by decide +kernel))
  exact (GKeeps.name (i := 0) rfl)
  refine r_rng ?_ ?_
  exact T.n_range
  refine r_acons ?_ ?_
  refine r_ix ?_ ?_
  exact r_var 0
  exact r_int
  exact r_anil
  intro _ _ _
  exact r_gname 0 nd_b10
  intro _ _ _
  refine r_cone ?_
  refine r_tcmp ?_ ?_ ?_
  exact (op_eqD (hu60 hr))
  refine r_op ?_ ?_ ?_
  exact op_modD
  refine r_op ?_ ?_ ?_
  exact op_shrD
  exact r_var 1
  exact r_var 0
  exact r_int
  exact r_int
  intro _ _ _
  exact r_var 0
  exact r_anil
  refine r_sone ?_
  refine r_if ?_ ?_ ?_
  refine r_tval ?_
  refine r_call (k := 2) (g := t.a__law_is_hit) (fd := t.d__law_is_hit) (ps := ["stock", "thing"]) ?_ ?_ ?_ ?_ ?_ ?_
  exact G__law_is_hit
  exact (hr.mono (by decide))
  exact T.m__law_is_hit
  exact T.F__law_is_hit.kp
  exact T.b__law_is_hit
  refine r_acons ?_ ?_
  exact r_var 0
  refine r_acons ?_ ?_
  exact r_var 3
  exact r_anil
  refine r_sone ?_
  refine r_expr ?_
  refine r_append ?_ ?_
  exact r_var 1
  refine r_tup ?_
  refine r_acons ?_ ?_
  refine r_callB (id := "len") ?_ ?_ ?_ ?_
  exact call_lenD
  exact bt_len
  exact T.n_len
  refine r_acons ?_ ?_
  exact r_var 3
  exact r_anil
  refine r_acons ?_ ?_
  exact r_var 3
  exact r_anil
  exact r_snil
  refine r_sone ?_
  refine r_ret ?_
  refine r_callB (id := "sorted") ?_ ?_ ?_ ?_
  exact (call_sortPD (hu60 hr))
  exact bt_sorted
  exact T.n_sorted
  refine r_acons ?_ ?_
  exact r_var 1
  exact r_anil
theorem nd_law : (["script", "k", "stock", "found"] : List Str).Nodup := by decide +kernel
theorem sc_law : FnScope ["script", "k", "stock", "found"] ["script"] (defScope s_law) := ⟨rfl, rfl, rfl, by decide +kernel, rfl, by decide +kernel, by decide +kernel⟩
theorem ok_law (T : Tx K mg t) : FnOk P w K mg base CX0 5 t.a_law t.d_law ["script"] (spOf K 1 F_law) := by
  have G__law_stock := ok__law_stock (P := P) (w := w) (base := base) T
  have G__law_box := ok__law_box (P := P) (w := w) (base := base) T
  have G_fewest_hit := ok_fewest_hit (P := P) (w := w) (base := base) T
  have G__law_hits := ok__law_hits (P := P) (w := w) (base := base) T
  refine fn_ok (k := 4) (G := G_law) (N := ["script", "k", "stock", "found"]) (ps := ["script"]) (st := s_law) T.F_law sc_law fun cdv A outer s H E hr => ?_
  refine r_scons ?_ ?_
  refine r_for ?_ ?_ ?_ ?_ ?_
  exact rfl
  exact PassesOwn.never
  refine r_rng ?_ ?_
  exact T.n_range
  refine r_acons ?_ ?_
  refine r_callB (id := "max") ?_ ?_ ?_ ?_
  exact (call_max2D rfl)
  exact bt_max
  exact T.n_max
  refine r_acons ?_ ?_
  exact r_int
  refine r_acons ?_ ?_
  refine r_callB (id := "min") ?_ ?_ ?_ ?_
  exact (call_min2D rfl)
  exact bt_min
  exact T.n_min
  refine r_acons ?_ ?_
  refine r_callB (id := "len") ?_ ?_ ?_ ?_
  exact call_lenD
  exact bt_len
  exact T.n_len
  refine r_acons ?_ ?_
  exact r_var 0
  exact r_anil
  refine r_acons ?_ ?_
  exact r_int
  exact r_anil
  exact r_anil
  exact r_anil
  exact r_gname 1 nd_law
  refine r_scons ?_ ?_
  refine r_set 2 ?_ ?_
  exact nd_law
  refine r_call (k := 2) (g := t.a__law_stock) (fd := t.d__law_stock) (ps := ["box", "most_things", "most_offers"]) ?_ ?_ ?_ ?_ ?_ ?_
  exact G__law_stock
  exact (hr.mono (by decide))
  exact T.m__law_stock
  exact T.F__law_stock.kp
  exact T.b__law_stock
  refine r_acons ?_ ?_
  refine r_call (k := 2) (g := t.a__law_box) (fd := t.d__law_box) (ps := ["script", "k"]) ?_ ?_ ?_ ?_ ?_ ?_
  exact G__law_box
  exact (hr.mono (by decide))
  exact T.m__law_box
  exact T.F__law_box.kp
  exact T.b__law_box
  refine r_acons ?_ ?_
  exact r_var 0
  refine r_acons ?_ ?_
  exact r_var 1
  exact r_anil
  refine r_acons ?_ ?_
  exact r_int
  refine r_acons ?_ ?_
  exact r_int
  exact r_anil
  refine r_scons ?_ ?_
  refine r_set 3 ?_ ?_
  exact nd_law
  refine r_call (k := 4) (g := t.a_fewest_hit) (fd := t.d_fewest_hit) (ps := ["stock"]) ?_ ?_ ?_ ?_ ?_ ?_
  exact G_fewest_hit
  exact (hr.mono (by decide))
  exact T.m_fewest_hit
  exact T.F_fewest_hit.kp
  exact T.b_fewest_hit
  refine r_acons ?_ ?_
  exact r_var 2
  exact r_anil
  refine r_sone ?_
  refine r_if ?_ ?_ ?_
  refine r_tbool ?_
  refine r_wor ?_ ?_
  refine r_tnot ?_
  refine r_tval ?_
  refine r_isI ?_ ?_ ?_ ?_ ?_
  exact kit_tuple
  exact bt_tuple
  exact T.n_isinstance
  exact T.n_tuple
  exact r_var 3
  refine r_wor1 ?_
  refine r_tcmp ?_ ?_ ?_
  exact (op_neD (hu60 hr))
  exact r_var 3
  refine r_ix ?_ ?_
  refine r_ix ?_ ?_
  refine r_call (k := 3) (g := t.a__law_hits) (fd := t.d__law_hits) (ps := ["stock"]) ?_ ?_ ?_ ?_ ?_ ?_
  exact G__law_hits
  exact (hr.mono (by decide))
  exact T.m__law_hits
  exact T.F__law_hits.kp
  exact T.b__law_hits
  refine r_acons ?_ ?_
  exact r_var 2
  exact r_anil
  exact r_int
  exact r_int
  refine r_sone ?_
  refine r_ret ?_
  exact r_bl
  exact r_snil
  refine r_sone ?_
  refine r_ret ?_
  refine r_and ?_ ?_
  refine r_cmp ?_ ?_ ?_
  exact (op_eqD (hu60 hr))
  refine r_call (k := 4) (g := t.a_fewest_hit) (fd := t.d_fewest_hit) (ps := ["stock"]) ?_ ?_ ?_ ?_ ?_ ?_
  exact G_fewest_hit
  exact (hr.mono (by decide))
  exact T.m_fewest_hit
  exact T.F_fewest_hit.kp
  exact T.b_fewest_hit
  refine r_acons ?_ ?_
  refine r_tup ?_
  refine r_acons ?_ ?_
  exact r_int
  refine r_acons ?_ ?_
  refine r_tup ?_
  exact r_anil
  exact r_anil
  exact r_anil
  refine r_tup ?_
  exact r_anil
  refine r_one ?_
  refine r_cmp ?_ ?_ ?_
  exact (op_eqD (hu60 hr))
  refine r_call (k := 4) (g := t.a_fewest_hit) (fd := t.d_fewest_hit) (ps := ["stock"]) ?_ ?_ ?_ ?_ ?_ ?_
  exact G_fewest_hit
  exact (hr.mono (by decide))
  exact T.m_fewest_hit
  exact T.F_fewest_hit.kp
  exact T.b_fewest_hit
  refine r_acons ?_ ?_
  refine r_tup ?_
  refine r_acons ?_ ?_
  exact r_int
  refine r_acons ?_ ?_
  refine r_tup ?_
  refine r_acons ?_ ?_
  refine r_tup ?_
  refine r_acons ?_ ?_
  refine r_tup ?_
  refine r_acons ?_ ?_
  exact r_int
  exact r_anil
  refine r_acons ?_ ?_
  exact r_int
  exact r_anil
  refine r_acons ?_ ?_
  refine r_tup ?_
  refine r_acons ?_ ?_
  refine r_tup ?_
  refine r_acons ?_ ?_
  exact r_int
  refine r_acons ?_ ?_
  exact r_int
  exact r_anil
  refine r_acons ?_ ?_
  exact r_int
  exact r_anil
  exact r_anil
  exact r_anil
  exact r_anil
  refine r_tup ?_
  refine r_acons ?_ ?_
  exact r_int
  exact r_anil
end
end K52
end
section
set_option maxHeartbeats 8000000
namespace L3
open PySem PySem.Spec PyProof.Rows L2 LT
theorem dDivmod_ok {i j : Int} (h0 : 0 < j) (h1 : j < 2 ^ 100) : dDivmod [.int i, .int j] = pure (.tup [.int (i / j), .int (i % j)]) := by
  unfold dDivmod
  simp only
  rw [if_pos ⟨h0, h1⟩]
theorem dMulW_ok {i j : Int} (h : (small64 i || small64 j || mulOk i j) = true) : dMulW (.int i) (.int j) = pure (.int (i * j)) := by
  show (if (small64 i || small64 j || mulOk i j) = true then _ else _) = _
  rw [if_pos h]
theorem dMulW_l {i j : Int} (h : -1000000000000000 < i) (h' : i < 1000000000000000) : dMulW (.int i) (.int j) = pure (.int (i * j)) := dMulW_ok (by rw [small_of h h']; rfl)
theorem dMulW_r {i j : Int} (h : -1000000000000000 < j) (h' : j < 1000000000000000) : dMulW (.int i) (.int j) = pure (.int (i * j)) := dMulW_ok (by rw [small_of h h']; simp)
theorem bits_lt {x : Int} {n : Nat} (h : x.natAbs < 2 ^ n) : Builtin.Int.intBits x ≤ n := by
  unfold Builtin.Int.intBits
  split
  · exact Nat.zero_le _
  · rename_i c
    have h0 : x.natAbs ≠ 0 := fun z => c (by simp; omega)
    exact (Nat.log2_lt h0).mpr h
theorem abs_of_bits {x : Int} {n : Nat} (h : Builtin.Int.intBits x ≤ n) : x.natAbs < 2 ^ n := by
  unfold Builtin.Int.intBits at h
  split at h
  · rename_i c
    have : x = 0 := by simpa using c
    subst this
    exact Nat.pow_pos (by decide)
  · rename_i c
    have h0 : x.natAbs ≠ 0 := fun z => c (by simp; omega)
    exact (Nat.log2_lt h0).mp h
theorem mix_bits {c k : Int} {n : Nat} (h : Builtin.Int.intBits c ≤ n) (k0 : 0 ≤ k) (k1 : k < 24) : Builtin.Int.intBits ((c + 1) * 40692 + 104729 * k) ≤ n + 22 := by
  refine bits_lt ?_
  have h1 := abs_of_bits h
  rw [Nat.pow_add]
  generalize 2 ^ n = B at h1
  have : (2 : Nat) ^ 22 = 4194304 := rfl
  rw [this]
  omega
theorem dPow20 : dPow (.int 10) (.int 20) = pure (.int 100000000000000000000) := by
  unfold dPow dII
  simp only
  rw [if_pos (by decide)]
  rfl
theorem e_tupC {n : Nat} : dTuple [.cel n] = (do let ds ← cellGet n; pure (.tup ds)) := rfl
end L3
namespace K52
open PySem PySem.Spec PyProof.Rows L2 L3 LT
theorem take_wp {h : Hh} {b : Nat} {m : Int} {P : D → Hh → Prop} (q : Bx b h) (h0 : 0 < m) (h1 : m < 2 ^ 100) (k : ∀ t h', 0 ≤ t → t < m → Ext b h h' → P (.int t) h') : wp (F__law_take [.cel b, .int m]) h P := by
  obtain ⟨z, e⟩ := id q
  rw [d__law_take]
  have e2 : ixN ([D.int z] : List D).length 0 = some 0 := rfl
  simp only [G__law_take, e_sThen, e_sAsg, e_cApp, e_aCons, e_aNil, e_cOp, e_var0, e_varS, pure_bind, bind_assoc, e_cK, e_ixC, wp_bind, wp_get e, e_at0, e_ofO, wp_pure, dDivmod_ok h0 h1, e_gtup2, e_gscons, e_gSet, e_gsnil, e_nx, List.set, e_gSubD, e_setI, e2, wp_put, e_sRet, e_ort]
  exact k _ _ (Int.emod_nonneg _ (by omega)) (Int.emod_lt_of_pos _ h0) q.set
theorem cell_ok {ns : List Int} {k : Int} (h0 : 0 ≤ k) (h1 : k < 6) (hb : ∀ i ∈ ns, Builtin.Int.intBits i ≤ 2 ^ 20) : ∃ c : Int, F__law_cell [.scr (ns.map D.int), .int k] = pure (.int c) ∧ Builtin.Int.intBits c ≤ 2 ^ 20 := by
  rw [d__law_cell]
  simp only [G__law_cell, e_sThen, e_sIf, e_tCmp, e_varS, e_var0, pure_bind, bind_assoc, e_cApp, e_aCons, e_aNil, e_lenS, e_lt, e_bool]
  by_cases hk : k < ((ns.map D.int).length : Int)
  · have hk' : k.toNat < ns.length := by simp at hk; omega
    have ea : atI (ns.map D.int) k = some (.int ns[k.toNat]) := by
      have := atI_nat (xs := ns.map D.int) (j := k.toNat) (v := .int ns[k.toNat]) (by simp [hk'])
      rw [← this]
      congr 1
      omega
    simp only [hk, decide_true, if_true, e_sRet, e_cOp, e_var0, e_varS, pure_bind, e_ixS, ea, e_ofO, e_rt, e_ort]
    exact ⟨_, rfl, hb _ (List.getElem_mem hk')⟩
  · simp only [hk, decide_false, Bool.false_eq_true, if_false, e_sNil, pure_bind, e_nx, e_sRet, e_cOp, e_cK, e_varS, e_var0, dMul_l (show (-1000000000000000 : Int) < 6151 by decide) (show (6151 : Int) < 1000000000000000 by decide), e_addI, e_ort]
    exact ⟨_, rfl, Nat.le_trans (intBits_le_64 (by omega) (by omega)) (by decide)⟩
theorem mix_ok {c k : Int} (hc : Builtin.Int.intBits c ≤ 2 ^ 20) (k0 : 0 ≤ k) (k1 : k < 24) : ∃ r : Int, F__law_mix [.int c, .int k] = pure (.int r) := by
  rw [d__law_mix]
  have hm : mulOk ((c + 1) * 40692 + 104729 * k) ((c + 1) * 40692 + 104729 * k) = true := by
    have := mix_bits hc k0 k1
    unfold mulOk
    rw [decide_eq_true_eq]
    have e1 : (2 : Nat) ^ 20 = 1048576 := rfl
    have e2 : (2 : Nat) ^ 26 = 67108864 := rfl
    rw [e1] at this
    rw [e2]
    omega
  have n0 := Int.emod_nonneg (((c + 1) * 40692 + 104729 * k) * ((c + 1) * 40692 + 104729 * k)) (show (2147483399 : Int) ≠ 0 by decide)
  have n1 := Int.emod_lt_of_pos (((c + 1) * 40692 + 104729 * k) * ((c + 1) * 40692 + 104729 * k)) (show (0 : Int) < 2147483399 by decide)
  simp only [G__law_mix, e_sThen, e_sSet, e_cOp, e_var0, e_varS, e_cK, e_addI, pure_bind, bind_assoc, dMulW_r (show (-1000000000000000 : Int) < 40692 by decide) (show (40692 : Int) < 1000000000000000 by decide), dMulW_l (show (-1000000000000000 : Int) < 104729 by decide) (show (104729 : Int) < 1000000000000000 by decide),
    e_nx, List.set, dMulW_ok (show (small64 ((c + 1) * 40692 + 104729 * k) || small64 ((c + 1) * 40692 + 104729 * k) || mulOk ((c + 1) * 40692 + 104729 * k) ((c + 1) * 40692 + 104729 * k)) = true by rw [hm]; simp), dMod_ok (show (0 : Int) < 2147483399 by decide), e_sRet]
  generalize hN : ((c + 1) * 40692 + 104729 * k) * ((c + 1) * 40692 + 104729 * k) % 2147483399 = N at n0 n1
  simp only [dMulW_l (i := N + k) (show -1000000000000000 < N + k by omega) (show N + k < 1000000000000000 by omega), pure_bind, dMod_ok (show (0 : Int) < 2147483563 by decide), e_ort]
  exact ⟨_, rfl⟩
theorem box_loop {s0 s1 : Option D} {c : Int} (hc : Builtin.Int.intBits c ≤ 2 ^ 20) : ∀ (ds : List D) (n : Int) (x4 : Option D), (∀ d ∈ ds, ∃ j : Int, d = .int j ∧ 0 ≤ j ∧ j < 24) →
    ∃ (n' : Int) (x4' : Option D), fLoop (fun x sd => do let sd1 ← gSet 4 x sd; B__law_box_1 sd1) ds [s0, s1, some (.int c), some (.int n), x4] = pure (.nx [s0, s1, some (.int c), some (.int n'), x4'])
  | [], n, x4, _ => ⟨n, x4, rfl⟩
  | d :: r, n, x4, hd => by
    obtain ⟨j, rfl, j0, j1⟩ := hd _ List.mem_cons_self
    obtain ⟨mx, em⟩ := mix_ok hc j0 j1
    obtain ⟨n', x4', ih⟩ := box_loop hc r (n * 2147483647 + mx) (some (.int j)) (fun y hy => hd y (List.mem_cons_of_mem _ hy))
    refine ⟨n', x4', ?_⟩
    rw [e_floop, ← ih]
    simp only [B__law_box_1, e_gSet, List.set, pure_bind, bind_assoc, e_sSet, e_cOp, e_varS, e_var0, e_cK, dMulW_r (i := n) (show (-1000000000000000 : Int) < 2147483647 by decide) (show (2147483647 : Int) < 1000000000000000 by decide), e_cApp, e_aCons, e_aNil, e_call2, em, e_addI]
theorem box_wp {h : Hh} {ns : List Int} {k : Int} {P : D → Hh → Prop} (hb : ∀ i ∈ ns, Builtin.Int.intBits i ≤ 2 ^ 20) (k0 : 0 ≤ k) (k6 : k < 6) (q : ∀ z : Int, P (.cel h.length) (h ++ [.lst [.int z]])) : wp (F__law_box [.scr (ns.map D.int), .int k]) h P := by
  obtain ⟨c, ec, hc⟩ := cell_ok k0 k6 hb
  rw [d__law_box]
  simp only [G__law_box, e_sThen, e_sSet, e_cApp, e_aCons, e_aNil, e_var0, e_varS, pure_bind, bind_assoc, e_call2, ec, e_nx, List.set, e_sIf, e_tCmp, e_cOp, e_cK, dMod_ok (show (0 : Int) < 2 by decide), dEqI, e_bool]
  by_cases hc2 : (c % 2 == 0) = true
  · simp only [hc2, if_true, e_sRet, e_cLstC, e_aCons, e_aNil, e_cOp, e_varS, e_var0, e_cK, pure_bind, bind_assoc, dFdiv_ok (show (0 : Int) < 2 by decide) (show (2 : Int) < 2 ^ 64 by decide), List.length_cons, List.length_nil, fits_ok (show 0 + 1 ≤ 1000 by decide), wp_bind, wp_new, wp_pure, e_rt, e_ort]
    exact q _
  · obtain ⟨n', x4', el⟩ := box_loop (s0 := some (.scr (ns.map D.int))) (s1 := some (.int k)) hc (rngD 0 24) 0 none (fun d hd => by
      obtain ⟨i, e, i0, i1⟩ := rng_mem hd
      exact ⟨i, e, i0, by omega⟩)
    have er : dRng1 [.int 24] = pure (rngD 0 24) := dRng_ok (by decide) (by decide)
    simp only [hc2, if_false, e_sNil, pure_bind, e_nx, e_sThen, e_sSet, e_cK, List.set, e_varS, e_var0, e_sFor, e_iRng, e_aCons, e_aNil, er, bind_assoc, el, e_sRet, e_cLstC, List.length_cons, List.length_nil, fits_ok (show 0 + 1 ≤ 1000 by decide), wp_bind, wp_new, wp_pure, e_ort, Bool.false_eq_true]
    exact q _
end K52
end
section
set_option maxHeartbeats 8000000
namespace K52
open PySem PySem.Spec PyProof.Rows L2 L3 LT
theorem dEq_intsNil (xs : List Int) : dEq (.lst (xs.map D.int)) (.lst []) = pure (.bl xs.isEmpty) := by
  have := dEq_lst xs []
  rw [List.map_nil] at this
  rw [this]
  cases xs <;> rfl
noncomputable def Go (m : Int) (o : List Int × Int) : Prop := o.1.Pairwise (· < ·) ∧ (∀ x ∈ o.1, 0 ≤ x ∧ x < m) ∧ o.1 ≠ [] ∧ 0 < o.2
theorem stock_turn {b : Nat} {full : Int} (i : Int) {h : Hh} {Q : Option D → Hh → Prop} (q : Bx b h) (k : ∀ o h', Ext b h h' → (o = none ∨ o = some (.int i)) → Q o h') :
    wp (cTurn (gSet 0) C__law_stock_1 E__law_stock_1 [none, some (.cel b), some (.int full)] (.int i)) h Q := by
  simp only [cTurn, e_gSet, List.set, pure_bind, C__law_stock_1, e_tCmp, e_cApp, e_aCons, e_aNil, e_varS, e_var0, e_cK, bind_assoc, e_call2, wp_bind]
  refine take_wp q (by decide) (by decide) fun t h2 t0 t1 x2 => ?_
  simp only [e_le, wp_pure, e_bool]
  rw [wp_ite]
  split
  · simp only [E__law_stock_1, e_var0, pure_bind, wp_pure]
    exact k _ _ x2 (.inr rfl)
  · rw [wp_pure]
    exact k _ _ x2 (.inl rfl)
theorem stock_loop {b n : Nat} {m kind full : Int} {s1 s2 : Option D} {N : Nat} (hN : N ≤ 12) (hnb : n ≠ b) (m0 : 1 ≤ m) (m1 : m ≤ 10) (k0 : 0 < kind) (k1 : kind < 2 ^ 100) : ∀ (ds : List D) {h : Hh} {x7 x8 : Option D} {os : List (List Int × Int)} {P : Out → Hh → Prop}, Bx b h → h[n]? = some (.lst (os.map offD)) → (∀ o ∈ os, Go m o) → os.length + ds.length ≤ N →
    (∀ (x7' x8' : Option D) (os' : List (List Int × Int)) (h' : Hh), Bx b h' → h'[n]? = some (.lst (os'.map offD)) → (∀ o ∈ os', Go m o) → os'.length ≤ N → P (.nx [some (.cel b), s1, s2, some (.int m), some (.int kind), some (.int full), some (.cel n), x7', x8']) h') →
    wp (fLoop (fun x sd => do let sd1 ← gSet 7 x sd; B__law_stock_1 sd1) ds [some (.cel b), s1, s2, some (.int m), some (.int kind), some (.int full), some (.cel n), x7, x8]) h P
  | [], h, x7, x8, os, P, q, e, ho, hl, k => by
    rw [e_floop0, wp_pure]
    exact k _ _ os h q e ho (by simpa using hl)
  | d :: r, h, x7, x8, os, P, q, e, ho, hl, k => by
    have ih : ∀ {h : Hh} {x7 x8 : Option D} {os : List (List Int × Int)}, Bx b h → h[n]? = some (.lst (os.map offD)) → (∀ o ∈ os, Go m o) → os.length + r.length ≤ N →
      wp (fLoop (fun x sd => do let sd1 ← gSet 7 x sd; B__law_stock_1 sd1) r [some (.cel b), s1, s2, some (.int m), some (.int kind), some (.int full), some (.cel n), x7, x8]) h P := fun q e ho hl => stock_loop hN hnb m0 m1 k0 k1 r q e ho hl k
    rw [e_floop]
    generalize fLoop (fun x sd => do let sd1 ← gSet 7 x sd; B__law_stock_1 sd1) r = rest at ih ⊢
    have eb : bStartD [none, some 0, some 5] [some (.cel b), s1, s2, some (.int m), some (.int kind), some (.int full), some (.cel n), some d, x8] = [none, some (D.cel b), some (.int full)] := rfl
    simp only [e_gSet, List.set, pure_bind, B__law_stock_1, e_sThen, e_sSet, wp_bind]
    unfold dComp
    simp only [e_iRng, e_aCons, e_aNil, e_varS, e_var0, pure_bind, dRng_ok (show 0 ≤ m by omega) (show m < 1000 by omega), wp_bind, rng_len, fits_ok (show m.toNat ≤ 1000 by omega), wp_pure, eb]
    rw [rng_ints]
    refine subs_wp (fun i {h Q} q k => stock_turn i q k) _ q fun ys h2 x2 hys => ?_
    have hyu := (rangeI_up m.toNat).sublist hys
    have hyb : ∀ x ∈ ys, 0 ≤ x ∧ x < m := fun x hx => by have := rangeI_bd x (hys.subset hx); omega
    have fin : ∀ (zs : List Int) (h3 : Hh), (zs.Pairwise (· < ·) ∧ (∀ x ∈ zs, 0 ≤ x ∧ x < m) ∧ zs ≠ []) → Ext b h h3 → wp ((cAppend (dVar 6) (cTup (aCons (cApp dTuple (aCons (dVar 8) aNil)) (aCons (cOp dAdd (cK (.int 1)) (cApp (callD 2 F__law_take) (aCons (dVar 0) (aCons (dVar 4) aNil)))) aNil)))) [some (.cel b), s1, s2, some (.int m), some (.int kind), some (.int full), some (.cel n), some d, some (.lst (zs.map D.int))]) h3
        fun _ h4 => wp (rest [some (.cel b), s1, s2, some (.int m), some (.int kind), some (.int full), some (.cel n), some d, some (.lst (zs.map D.int))]) h4 P := fun zs h3 hz x3 => by
      have e3 := x3.2 n _ hnb e
      simp only [cAppend, dAlive, e_varS, e_var0, pure_bind, bind_assoc, wp_bind, wp_get e3, e_cTup, e_aCons, e_aNil, e_cApp, e_tupL, e_cOp, e_cK, e_call2, wp_pure]
      refine take_wp x3.1 k0 k1 fun t h4 t0 t1 x4 => ?_
      have e4 := x4.2 n _ hnb e3
      simp only [e_addI, pure_bind, wp_pure, wp_bind, List.length_cons, List.length_nil, fits_ok (show 0 + 1 + 1 ≤ 1000 by decide), dAppend, wp_get e4, List.length_map, fits_ok (show os.length + 1 ≤ 1000 by simp at hl; omega), wp_put]
      have hlt : n < h4.length := (List.getElem?_eq_some_iff.mp e4).1
      refine ih (os := os ++ [(zs, 1 + t)]) ?_ (by rw [List.getElem?_set_self hlt]; simp [offD, tI]) ?_ ?_
      · obtain ⟨y, ey⟩ := x4.1
        exact ⟨y, by rw [List.getElem?_set_ne hnb]; exact ey⟩
      · intro o hmem
        rcases List.mem_append.mp hmem with w | w
        · exact ho o w
        · simp at w
          subst w
          exact ⟨hz.1, hz.2.1, hz.2.2, by show (0 : Int) < 1 + t; omega⟩
      · simp at hl ⊢
        omega
    simp only [wp_pure, e_nx, List.set, e_sThen, e_sIf, e_tCmp, e_varS, e_var0, pure_bind, e_cLst, e_aNil, List.length_nil, fits_ok (show 0 ≤ 1000 by decide), dEq_intsNil, e_bool, bind_assoc, wp_bind]
    rw [wp_ite]
    split
    · simp only [e_sSet, e_cLst, e_aCons, e_aNil, e_cApp, e_varS, e_var0, pure_bind, bind_assoc, e_call2, wp_bind]
      refine take_wp x2.1 (by omega) (by omega) fun t h3 t0 t1 x3 => ?_
      simp only [wp_pure, pure_bind, wp_bind, List.length_cons, List.length_nil, fits_ok (show 0 + 1 ≤ 1000 by decide), List.set, e_nx, e_sExpr]
      exact wp_mono (fin [t] h3 ⟨by simp, by simp; omega, by simp⟩ (x2.trans x3)) fun _ _ z => z
    · rename_i hne
      simp only [e_sNil, wp_pure, e_nx, e_sExpr, wp_bind]
      exact wp_mono (fin ys h2 ⟨hyu, hyb, fun z => hne (by rw [z]; rfl)⟩ x2) fun _ _ z => z
theorem stock_wp {h : Hh} {b : Nat} {mt mo : Int} {P : D → Hh → Prop} (q : Bx b h) (t0 : 1 ≤ mt) (t1 : mt ≤ 10) (o0 : 0 ≤ mo) (o1 : mo ≤ 12) (k : ∀ (m : Int) (os : List (List Int × Int)) h', Bx b h' → 1 ≤ m → m ≤ mt → (os.length : Int) ≤ mo → (∀ o ∈ os, Go m o) → P (stkD m os) h') : wp (F__law_stock [.cel b, .int mt, .int mo]) h P := by
  rw [d__law_stock]
  simp only [G__law_stock, e_sThen, e_sSet, e_cOp, e_cK, e_cApp, e_aCons, e_aNil, e_var0, e_varS, pure_bind, bind_assoc, e_call2, wp_bind]
  refine take_wp q (by omega) (by omega) fun t h2 t0' t1' x2 => ?_
  simp only [e_addI, pure_bind, wp_pure, e_nx, List.set, e_sThen, e_sSet, e_cOp, e_cLst, e_aCons, e_aNil, e_cK, dPow20, bind_assoc, wp_bind, List.length_cons, List.length_nil, fits_ok (show 0 + 1 + 1 + 1 + 1 ≤ 1000 by decide), e_cApp, e_var0, e_varS, e_call2]
  refine take_wp x2.1 (by decide) (by decide) fun f h3 f0 f1 x3 => ?_
  obtain ⟨kind, ef, g0, g1⟩ : ∃ kind : Int, atI [D.int 1, .int 3, .int 20, .int 100000000000000000000] f = some (.int kind) ∧ 0 < kind ∧ kind < 2 ^ 100 := by
    have : f = 0 ∨ f = 1 ∨ f = 2 ∨ f = 3 := by omega
    rcases this with rfl | rfl | rfl | rfl
    · exact ⟨1, rfl, by decide, by decide⟩
    · exact ⟨3, rfl, by decide, by decide⟩
    · exact ⟨20, rfl, by decide, by decide⟩
    · exact ⟨100000000000000000000, rfl, by decide, by decide⟩
  simp only [e_ixL, ef, e_ofO, wp_pure, e_nx, List.set, e_sThen, e_sSet, e_cApp, e_aCons, e_aNil, e_var0, e_cK, pure_bind, bind_assoc, e_call2, wp_bind]
  refine take_wp x3.1 (by decide) (by decide) fun full h4 u0 u1 x4 => ?_
  simp only [wp_pure, e_nx, List.set, e_sThen, e_sSet, e_cLstC, e_aNil, pure_bind, List.length_nil, fits_ok (show 0 ≤ 1000 by decide), wp_bind, wp_new, e_sFor, e_iRng, e_aCons, e_cApp, e_cOp, e_varS, e_var0, e_cK, e_addI, bind_assoc, e_call2]
  have x5 := x4.1.push (c := .lst [])
  have hnb : h4.length ≠ b := fun z => by
    obtain ⟨y, ey⟩ := x4.1
    have := (List.getElem?_eq_some_iff.mp ey).1
    omega
  refine take_wp x5.1 (by omega) (by omega) fun turns h6 v0 v1 x6 => ?_
  have e6 : h6[h4.length]? = some (.lst []) := x6.2 _ _ hnb (by simp)
  simp only [wp_pure, pure_bind, dRng_ok v0 (show turns < 1000 by omega), wp_bind]
  refine stock_loop (N := mo.toNat) (by omega) hnb (by omega) (by omega) g0 g1 _ x6.1 (os := []) e6 (fun o ho => by cases ho) (by rw [rng_len]; simp; omega) fun x7 x8 os h7 q7 e7 ho hl => ?_
  simp only [e_nx, e_sRet, e_cTup, e_aCons, e_aNil, e_varS, e_var0, pure_bind, bind_assoc, e_cApp, e_tupC, wp_bind, wp_get e7, wp_pure, List.length_cons, List.length_nil, fits_ok (show 0 + 1 + 1 ≤ 1000 by decide), e_ort]
  exact k (1 + t) os h7 q7 (by omega) (by omega) (by omega) ho
end K52
end
section
set_option maxHeartbeats 8000000
namespace L3
open PySem PySem.Spec PyProof.Rows L2 LT
theorem lex_trans : ∀ {xs ys zs : List Int}, HT.lexLt xs ys = true → HT.lexLt ys zs = true → HT.lexLt xs zs = true
  | [], [], _, h, _ => by cases h
  | [], _ :: _, [], _, h => by cases h
  | [], _ :: _, _ :: _, _, _ => rfl
  | _ :: _, [], _, h, _ => by cases h
  | _ :: _, _ :: _, [], _, h => by cases h
  | x :: xs, y :: ys, z :: zs, h1, h2 => by
    rw [HT.lexLt_cons] at h1 h2 ⊢
    split at h1
    · split at h2
      · rw [if_pos (by omega)]
        exact lex_trans h1 h2
      · simp at h2
        rw [if_neg (by omega)]
        simp
        omega
    · simp at h1
      split at h2
      · rw [if_neg (by omega)]
        simp
        omega
      · simp at h2
        rw [if_neg (by omega)]
        simp
        omega
theorem lex_anti : ∀ {xs ys : List Int}, HT.lexLt xs ys = false → HT.lexLt ys xs = false → xs = ys
  | [], [], _, _ => rfl
  | [], _ :: _, h, _ => by cases h
  | _ :: _, [], _, h => by cases h
  | x :: xs, y :: ys, h1, h2 => by
    rw [HT.lexLt_cons] at h1 h2
    by_cases e : x = y
    · rw [if_pos e] at h1
      rw [if_pos e.symm] at h2
      rw [e, lex_anti h1 h2]
    · rw [if_neg e] at h1
      rw [if_neg (Ne.symm e)] at h2
      simp at h1 h2
      omega
theorem pLt_trans {p q r : Int × List Int} (h1 : pLt p q = true) (h2 : pLt q r = true) : pLt p r = true := by
  unfold pLt at *
  split at h1
  · split at h2
    · rw [if_pos (by omega)]
      exact lex_trans h1 h2
    · simp at h2
      rw [if_neg (by omega)]
      simp
      omega
  · simp at h1
    split at h2
    · rw [if_neg (by omega)]
      simp
      omega
    · simp at h2
      rw [if_neg (by omega)]
      simp
      omega
theorem pLt_anti {p q : Int × List Int} (h1 : pLt p q = false) (h2 : pLt q p = false) : p = q := by
  unfold pLt at *
  by_cases e : p.1 = q.1
  · rw [if_pos e] at h1
    rw [if_pos e.symm] at h2
    exact Prod.ext e (lex_anti h1 h2)
  · rw [if_neg e] at h1
    rw [if_neg (Ne.symm e)] at h2
    simp at h1 h2
    omega
theorem best_le (f : Nat → Int × List Int) : ∀ k, argBest (fun i j => pLt (f i) (f j)) k ≤ k ∧ ∀ i, i ≤ k → pLt (f i) (f (argBest (fun i j => pLt (f i) (f j)) k)) = false
  | 0 => ⟨Nat.le_refl _, fun i hi => by
    have : i = 0 := by omega
    subst this
    show pLt (f 0) (f 0) = false
    unfold pLt
    rw [if_pos rfl, lex_self]⟩
  | k + 1 => by
    obtain ⟨h1, h2⟩ := best_le f k
    unfold argBest
    by_cases c : pLt (f (k + 1)) (f (argBest (fun i j => pLt (f i) (f j)) k)) = true
    · rw [if_pos c]
      refine ⟨Nat.le_refl _, fun i hi => ?_⟩
      by_cases e : i = k + 1
      · subst e
        unfold pLt
        rw [if_pos rfl, lex_self]
      · have h3 := h2 i (by omega)
        cases h4 : pLt (f i) (f (k + 1)) with
        | false => rfl
        | true => rw [pLt_trans h4 c] at h3; cases h3
    · rw [if_neg c]
      refine ⟨by omega, fun i hi => ?_⟩
      by_cases e : i = k + 1
      · subst e
        simpa using c
      · exact h2 i (by omega)
theorem best_spec {ps : List (Int × List Int)} (h : ps ≠ []) : bestI ps < ps.length ∧ ∀ q ∈ ps, pLt q (ps.getD (bestI ps) (0, [])) = false := by
  have hl := List.length_pos_iff.mpr h
  obtain ⟨h1, h2⟩ := best_le (fun i => ps.getD i (0, [])) (ps.length - 1)
  refine ⟨Nat.lt_of_le_of_lt h1 (by omega), fun q hq => ?_⟩
  obtain ⟨i, hi, rfl⟩ := List.getElem_of_mem hq
  have h3 := h2 i (by omega)
  have e : ps.getD i (0, []) = ps[i] := by simp [List.getD, hi]
  rw [← e]
  exact h3
theorem best_same {ps qs : List (Int × List Int)} (h : ps ≠ []) (hm : ∀ x, x ∈ ps ↔ x ∈ qs) : ps.getD (bestI ps) (0, []) = qs.getD (bestI qs) (0, []) := by
  have h' : qs ≠ [] := fun z => by
    obtain ⟨x, hx⟩ := List.exists_mem_of_ne_nil ps h
    rw [hm x, z] at hx
    cases hx
  obtain ⟨a1, a2⟩ := best_spec h
  obtain ⟨b1, b2⟩ := best_spec h'
  have ma : ps.getD (bestI ps) (0, []) ∈ ps := by simp [List.getD, a1]
  have mb : qs.getD (bestI qs) (0, []) ∈ qs := by simp [List.getD, b1]
  exact pLt_anti (b2 _ ((hm _).mp ma)) (a2 _ ((hm _).mpr mb))
noncomputable def bitsL (n b : Nat) : List Nat := (List.range n).filter fun i => b / 2 ^ i % 2 == 1
theorem bitsL_succ {n b : Nat} (h : b < 2 ^ n) : bitsL (n + 1) b = bitsL n b ∧ bitsL (n + 1) (b + 2 ^ n) = bitsL n b ++ [n] := by
  unfold bitsL
  rw [List.range_succ, List.filter_append, List.filter_append]
  have e1 : b / 2 ^ n = 0 := Nat.div_eq_of_lt h
  have e2 : (b + 2 ^ n) / 2 ^ n = 1 := by
    rw [Nat.add_div_right _ (Nat.two_pow_pos n), e1]
  constructor
  · simp [e1]
  · have e3 : ((List.range n).filter fun i => (b + 2 ^ n) / 2 ^ i % 2 == 1) = (List.range n).filter fun i => b / 2 ^ i % 2 == 1 := by
      refine List.filter_congr fun i hi => ?_
      have hi := List.mem_range.mp hi
      have e4 : 2 ^ n = 2 ^ i * (2 * 2 ^ (n - i - 1)) := by
        rw [← Nat.mul_assoc, Nat.mul_comm (2 ^ i) 2, ← Nat.pow_succ', ← Nat.pow_add]
        congr 1
        omega
      rw [e4, Nat.add_mul_div_left _ _ (Nat.two_pow_pos i), Nat.add_mul_mod_self_left]
    rw [e3]
    simp [e2]
theorem bits_all : ∀ (n : Nat) (xs : List Int), xs.Pairwise (· < ·) → (∀ x ∈ xs, 0 ≤ x ∧ x < (n : Int)) → ∃ b, b < 2 ^ n ∧ (bitsL n b).map (fun (k : Nat) => (k : Int)) = xs
  | 0, xs, _, hb => ⟨0, by decide, by
    cases xs with
    | nil => rfl
    | cons x r => have := hb x List.mem_cons_self; omega⟩
  | n + 1, xs, hu, hb => by
    by_cases hl : xs.getLast? = some (n : Int)
    · obtain ⟨ys, rfl⟩ := List.getLast?_eq_some_iff.mp hl
      rw [List.pairwise_append] at hu
      obtain ⟨b, hb1, hb2⟩ := bits_all n ys hu.1 fun x hx => ⟨(hb x (List.mem_append_left _ hx)).1, hu.2.2 x hx n (by simp)⟩
      refine ⟨b + 2 ^ n, by rw [Nat.pow_succ]; omega, ?_⟩
      rw [(bitsL_succ hb1).2, List.map_append, hb2]
      rfl
    · have hlt : ∀ x ∈ xs, 0 ≤ x ∧ x < (n : Int) := fun x hx => by
        have h1 := hb x hx
        refine ⟨h1.1, ?_⟩
        by_cases e : x = (n : Int)
        · exfalso
          subst e
          obtain ⟨as, bs, rfl⟩ := List.append_of_mem hx
          cases bs with
          | nil => simp at hl
          | cons y r =>
            have := (List.pairwise_append.mp hu).2.1
            have h2 := (List.pairwise_cons.mp this).1 y List.mem_cons_self
            have h3 := hb y (by simp)
            omega
        · omega
      obtain ⟨b, hb1, hb2⟩ := bits_all n xs hu hlt
      exact ⟨b, by rw [Nat.pow_succ]; omega, by rw [(bitsL_succ hb1).1]; exact hb2⟩
theorem bitsL_up (n b : Nat) : ((bitsL n b).map fun (k : Nat) => (k : Int)).Pairwise (· < ·) := by
  rw [List.pairwise_map]
  exact (List.pairwise_lt_range.filter _).imp fun z => by omega
theorem bitsL_bd (n b : Nat) : ∀ x ∈ (bitsL n b).map fun (k : Nat) => (k : Int), 0 ≤ x ∧ x < (n : Int) := fun x hx => by
  obtain ⟨k, hk, rfl⟩ := List.mem_map.mp hx
  have := List.mem_range.mp (List.mem_filter.mp hk).1
  omega
theorem dNe_pd {x y : D} {a b : PyData} (e1 : pd x = some a) (e2 : pd y = some b) (h : eqOk a b = true) : dNe x y = pure (.bl (!PyData.eqv a b)) := by
  show dEqG true x y = _
  unfold dEqG
  rw [e1, e2]
  simp only [h, if_true]
theorem dNe_tI (xs ys : List Int) : dNe (tI xs) (tI ys) = pure (.bl (!(xs == ys))) := by
  rw [dNe_pd (pd_tI xs) (pd_tI ys) (by unfold eqOk; simp [PyData.canLay0, canLay_ints, PyData.depth, depth_ints])]
  simp only [PyData.eqv, eqv_ints]
theorem dComp_src {α : Type} {g' : α → D} {fi : FA} {g : D → Sd → M Sd} {tc : FT} {te : FE} {src : List (Option Nat)} {sd : Sd} {xs : List α} {k : α → Option D} (hi : fi sd = pure (xs.map g')) (hl : xs.length ≤ 1000) (hf : ∀ x ∈ xs, cTurn g tc te (bStartD src sd) (g' x) = pure (k x)) : dComp fi g tc te src sd = pure (.lst (xs.filterMap k)) := by
  unfold dComp
  rw [hi]
  simp only [pure_bind]
  rw [fits_ok (by rw [List.length_map]; exact hl)]
  simp only [pure_bind]
  have : ∀ {ys : List α}, (∀ x ∈ ys, cTurn g tc te (bStartD src sd) (g' x) = pure (k x)) → cLoop (cTurn g tc te (bStartD src sd)) (ys.map g') = pure (ys.filterMap k) := by
    intro ys
    induction ys with
    | nil => intro _; rfl
    | cons x r ih =>
      intro hf
      rw [List.map_cons, cLoop, hf x List.mem_cons_self, ih fun y hy => hf y (List.mem_cons_of_mem _ hy)]
      simp only [pure_bind]
      cases e : k x <;> simp [List.filterMap_cons, e]
  rw [this hf]
  simp only [pure_bind]
theorem filterMap_if {α β : Type} {p : α → Bool} {g : α → β} : ∀ xs : List α, xs.filterMap (fun x => if p x = true then some (g x) else none) = (xs.filter p).map g
  | [] => rfl
  | x :: r => by
    rw [List.filterMap_cons, List.filter_cons, filterMap_if r]
    cases p x <;> simp
theorem rng_cons (j : Int) (r : Nat) : rngD j (r + 1) = .int j :: rngD (j + 1) r := by
  unfold rngD
  rw [List.range_succ_eq_map, List.map_cons, List.map_map]
  congr 1
  · simp
  · refine List.map_congr_left fun k _ => ?_
    simp
    omega
noncomputable def pD (p : Int × List Int) : D := .tup [.int p.1, tI p.2]
theorem pairs_map : ∀ ps : List (Int × List Int), pairsD (ps.map pD) = some ps
  | [] => rfl
  | p :: r => by
    rw [List.map_cons, pairsD, pairs_map r]
    simp only [pD, tI, pairD1, intsD_map, Option.map, Option.bind]
theorem dMin1_lst {ps : List (Int × List Int)} (h : ps ≠ []) : dMin1 [.lst (ps.map pD)] = pure (pD (ps.getD (bestI ps) (0, []))) := by
  have hb := (best_spec h).1
  have e : (ps.map pD)[bestI ps]? = some (pD (ps.getD (bestI ps) (0, []))) := by simp [List.getD, hb]
  show (do let ps' ← ofO (pairsD (ps.map pD)); ofO ((ps.map pD)[bestI ps']?) : M D) = _
  rw [pairs_map]
  show (ofO ((ps.map pD)[bestI ps]?) : M D) = _
  rw [e]
  rfl
noncomputable def flt (os : List (List Int × Int)) (ls : List Int) : List Int := (offsL os ls).flatMap (·.1)
theorem below {n : Nat} {xs : List Int} (hu : xs.Pairwise (· < ·)) (hb : ∀ x ∈ xs, 0 ≤ x ∧ x < ((n + 1 : Nat) : Int)) (hl : xs.getLast? ≠ some (n : Int)) : ∀ x ∈ xs, 0 ≤ x ∧ x < (n : Int) := fun x hx => by
  have h1 := hb x hx
  refine ⟨h1.1, ?_⟩
  by_cases e : x = (n : Int)
  · exfalso
    subst e
    obtain ⟨as, bs, rfl⟩ := List.append_of_mem hx
    cases bs with
    | nil => simp at hl
    | cons y r =>
      have := (List.pairwise_append.mp hu).2.1
      have h2 := (List.pairwise_cons.mp this).1 y List.mem_cons_self
      have h3 := hb y (by simp)
      omega
  · omega
noncomputable def tupF : Nat → List (List Int)
  | 0 => [[]]
  | j + 1 => tupF j ++ (tupF j).map fun ls => ls ++ [(j : Int)]
theorem tup_mem : ∀ (j : Nat) (x : List Int), x ∈ tupF j ↔ x.Pairwise (· < ·) ∧ ∀ y ∈ x, 0 ≤ y ∧ y < (j : Int)
  | 0, x => by
    unfold tupF
    rw [List.mem_singleton]
    constructor
    · rintro rfl
      exact ⟨.nil, fun y hy => by cases hy⟩
    · rintro ⟨_, h⟩
      cases x with
      | nil => rfl
      | cons y r => have := h y List.mem_cons_self; omega
  | j + 1, x => by
    unfold tupF
    rw [List.mem_append, tup_mem j x, List.mem_map]
    constructor
    · rintro (⟨h1, h2⟩ | ⟨y, hy, rfl⟩)
      · exact ⟨h1, fun y hy => by have := h2 y hy; omega⟩
      · obtain ⟨g1, g2⟩ := (tup_mem j y).mp hy
        refine ⟨List.pairwise_append.mpr ⟨g1, by simp, fun a ha b hb => ?_⟩, fun z hz => ?_⟩
        · rw [List.mem_singleton] at hb
          have := g2 a ha
          omega
        · rcases List.mem_append.mp hz with w | w
          · have := g2 z w
            omega
          · rw [List.mem_singleton] at w
            omega
    · rintro ⟨h1, h2⟩
      by_cases hl : x.getLast? = some (j : Int)
      · obtain ⟨ys, rfl⟩ := List.getLast?_eq_some_iff.mp hl
        rw [List.pairwise_append] at h1
        exact .inr ⟨ys, (tup_mem j ys).mpr ⟨h1.1, fun y hy => ⟨(h2 y (List.mem_append_left _ hy)).1, h1.2.2 y hy j (by simp)⟩⟩, rfl⟩
      · exact .inl ⟨h1, below h1 h2 hl⟩
theorem tup_len : ∀ j, (tupF j).length = 2 ^ j
  | 0 => rfl
  | j + 1 => by
    unfold tupF
    rw [List.length_append, List.length_map, tup_len j, Nat.pow_succ]
    omega
noncomputable def hitB (os : List (List Int × Int)) (ls : List Int) : Bool := os.all fun o => ls.any fun t => o.1.any (· == t)
theorem hit_iff {os : List (List Int × Int)} {ls : List Int} : hitB os ls = true ↔ ∀ o ∈ os, ∃ t ∈ ls, t ∈ o.1 := by
  unfold hitB
  simp [List.all_eq_true, List.any_eq_true]
end L3
namespace K52
open PySem PySem.Spec PyProof.Rows L2 L3 LT
local macro_rules | `(tactic| ac_nf0) => `(tactic| simp only [e_sThen, e_sSet, e_sAsg, e_sRet, e_sIf, e_sFor, e_sExpr, e_sNil, e_cApp, e_aCons, e_aNil, e_cOp, e_cUn, e_cK, e_var0, e_varS, pure_bind, bind_assoc, e_nx, e_rt, e_ort, e_onx, List.set, e_tCmp, e_tVal, e_tNot, e_tAnd, e_tOr, e_cAnd, e_cOr, e_cNot, e_cIf, e_cTup, e_cLst, e_cLstC, e_bool, e_call1, e_call2, e_call3, e_addI, e_ixT, e_ixL, e_at0, e_at1, e_ofO, e_lenT, e_lenL, e_itT, e_itL, e_iSq, e_iRng, e_gSet, e_gtup2, e_gscons, e_gsnil, e_tupL, e_tupT, wp_bind, wp_pure, wp_new, List.length_cons, List.length_nil, List.length_map, Nat.zero_add, Nat.reduceAdd, Nat.reduceLeDiff, fits_ok, offD, tI, e_cExtend, e_alive, e_extend, e_pick, e_sRaise, raise_bind, noX_pure, e_cSl, e_oNone, e_oSome, e_part, e_slT, e_rev, e_neg, e_addT, e_addL, e_lstT, e_max, e_sub, e_gt, if_true, Bool.not_true, Bool.not_false, Bool.false_eq_true, if_false, List.length_append, List.cons_append, List.nil_append, e_snox, e_cnox])
variable {m : Int} {os : List (List Int × Int)}
theorem whole_ok {d : D} (k : kn d = true) : F_is_whole [d] = pure (.bl (isI d)) := by
  rw [d_is_whole]
  simp only [G_is_whole, e_sRet, e_cAnd, e_cUn, e_var0, pure_bind, bind_assoc, isIB_ok k, isB_ok k, e_bool, e_cNot]
  cases d <;> simp [isI]
theorem lwhole_ok {d : D} (k : kn d = true) : F__law_whole [d] = pure (.bl (isI d)) := by
  rw [d__law_whole]
  simp only [G__law_whole, e_sRet, e_cAnd, e_cUn, e_var0, pure_bind, bind_assoc, isIB_ok k, isB_ok k, e_bool, e_cNot]
  cases d <;> simp [isI]
theorem rise_loop {m : Int} {x0 : Option D} : ∀ {ds : List D} {l : Int} {x3 : Option D}, (∀ d ∈ ds, kn d = true) →
    (pRise m l ds = true → ∃ sd', fLoop (fun x sd => do let sd1 ← gSet 3 x sd; B_is_rising_1 sd1) ds [x0, some (.int m), some (.int l), x3] = pure (.nx sd')) ∧
    (pRise m l ds = false → fLoop (fun x sd => do let sd1 ← gSet 3 x sd; B_is_rising_1 sd1) ds [x0, some (.int m), some (.int l), x3] = pure (.rt (.bl false)))
  | [], l, x3, _ => ⟨fun _ => ⟨_, rfl⟩, fun h => by simp [pRise] at h⟩
  | d :: r, l, x3, hk => by
    have kd := hk d List.mem_cons_self
    have step : ∀ {i : Int}, d = .int i → (do let sd1 ← gSet 3 d [x0, some (.int m), some (.int l), x3]; B_is_rising_1 sd1) = if (decide (l ≤ i) && decide (i < m)) = true then pure (.nx [x0, some (.int m), some (.int (i + 1)), some (.int i)]) else pure (.rt (.bl false)) := by
      intro i e
      subst e
      simp only [B_is_rising_1, e_gSet, List.set, pure_bind, bind_assoc, e_sThen, e_sIf, e_tOr, e_tNot, e_tVal, e_cApp, e_aCons, e_aNil, e_varS, e_var0, e_call1, whole_ok (show kn (.int i) = true from rfl), e_bool, isI, e_tCmp, e_lt, e_ge, e_sRet, e_cK, e_sNil]
      by_cases h1 : l ≤ i
      · by_cases h2 : i < m
        · have h1' : ¬ i < l := by omega
          have h2' : ¬ m ≤ i := by omega
          simp [h1, h2, h1', h2']
        · have h1' : ¬ i < l := by omega
          have h2' : m ≤ i := by omega
          simp [h1, h2, h1', h2']
      · have h1' : i < l := by omega
        simp [h1, h1']
    by_cases hi : isI d = true
    · obtain ⟨i, e⟩ : ∃ i, d = .int i := by cases d <;> simp [isI] at hi; exact ⟨_, rfl⟩
      have s1 := step e
      subst e
      have ih := rise_loop (m := m) (x0 := x0) (ds := r) (l := i + 1) (x3 := some (.int i)) fun y hy => hk y (List.mem_cons_of_mem _ hy)
      rw [e_floop, s1]
      by_cases c : (decide (l ≤ i) && decide (i < m)) = true
      · have er : pRise m l (.int i :: r) = pRise m (i + 1) r := by rw [pRise, c]; simp
        rw [er]
        simp only [c, if_true, pure_bind]
        exact ih
      · have er : pRise m l (.int i :: r) = false := by rw [pRise, Bool.eq_false_iff.mpr c]; simp
        rw [er]
        simp only [Bool.eq_false_iff.mpr c, if_false, pure_bind, Bool.false_eq_true]
        simp
    · have hi' : isI d = false := Bool.eq_false_iff.mpr hi
      have er : pRise m l (d :: r) = false := by cases d <;> simp [isI] at hi' <;> rfl
      rw [er, e_floop]
      refine ⟨fun h => (by cases h), fun _ => ?_⟩
      simp only [B_is_rising_1, e_gSet, List.set, pure_bind, bind_assoc, e_sThen, e_sIf, e_tOr, e_tNot, e_tVal, e_cApp, e_aCons, e_aNil, e_varS, e_var0, e_call1, whole_ok kd, e_bool, hi', e_sRet, e_cK, e_sNil]
      simp
theorem rising_ok {d : D} {m : Int} (k : kn d = true) (hk : ∀ ds, d = .tup ds → ∀ x ∈ ds, kn x = true) : F_is_rising [d, .int m] = pure (.bl (match d with | .tup ds => pRise m 0 ds | _ => false)) := by
  rw [d_is_rising]
  simp only [G_is_rising, e_sThen, e_sIf, e_tNot, e_tVal, e_cUn, e_var0, pure_bind, bind_assoc, isT_ok k, e_bool]
  cases d with
  | tup ds =>
    simp only [isT, Bool.not_true, Bool.false_eq_true, if_false, e_sNil, pure_bind, e_nx, e_sThen, e_sSet, e_cK, List.set, e_sFor, e_iSq, e_var0, e_itT, bind_assoc]
    have := rise_loop (m := m) (x0 := some (.tup ds)) (ds := ds) (l := 0) (x3 := none) (hk ds rfl)
    cases c : pRise m 0 ds with
    | true =>
      obtain ⟨sd', e⟩ := this.1 c
      rw [e]
      simp
    | false =>
      rw [this.2 c]
      simp
  | _ => simp [isT]
theorem tup_loop : ∀ (r j : Nat) (x2 : Option D) {s0 : Option D}, j + r ≤ 9 →
    ∃ y2, fLoop (fun x sd => do let sd1 ← gSet 2 x sd; B_tuples_of_things_1 sd1) (rngD j r) [s0, some (.lst ((tupF j).map tI)), x2] = pure (.nx [s0, some (.lst ((tupF (j + r)).map tI)), y2])
  | 0, j, x2, s0, _ => ⟨x2, rfl⟩
  | r + 1, j, x2, s0, h => by
    obtain ⟨y2, ih⟩ := tup_loop r (j + 1) (some (.int j)) (s0 := s0) (by omega)
    refine ⟨y2, ?_⟩
    have e1 : ((j + 1 : Nat) : Int) = (j : Int) + 1 := by omega
    have e2 : j + 1 + r = j + (r + 1) := by omega
    rw [e1, e2] at ih
    have hl := tup_len j
    have hl9 : 2 ^ j ≤ 2 ^ 8 := Nat.pow_le_pow_right (by decide) (by omega)
    have c1 : dComp (iSq (dVar 1)) (gSet 0) (fun _ => pure true) E_tuples_of_things_1 [none, some 2] [s0, some (.lst ((tupF j).map tI)), some (.int j)] = pure (.lst (((tupF j).map fun ls => ls ++ [(j : Int)]).map tI)) := by
      rw [show ((tupF j).map fun ls => ls ++ [(j : Int)]).map tI = (tupF j).filterMap fun ls => some (tI (ls ++ [(j : Int)])) by simp]
      refine dComp_src (g' := tI) rfl (by omega) fun ls hls => ?_
      obtain ⟨h1, h2⟩ := (tup_mem j ls).mp hls
      have ll := up_len (by omega) h1 h2
      have f := fits_ok (show ls.length + 1 ≤ 1000 by omega)
      have eb : bStartD [none, some 2] [s0, some (.lst ((tupF j).map tI)), some (.int j)] = [none, some (.int j)] := rfl
      rw [eb]
      simp only [cTurn, E_tuples_of_things_1]
      ac_nf0
      simp only [List.length_map, f]
      ac_nf0
      simp
    have f := fits_ok (show (tupF j).length + (tupF j).length ≤ 1000 by omega)
    rw [rng_cons, e_floop, ← ih]
    generalize fLoop (fun x sd => do let sd1 ← gSet 2 x sd; B_tuples_of_things_1 sd1) (rngD ((j : Int) + 1) r) = rest
    simp only [B_tuples_of_things_1]
    ac_nf0
    rw [c1]
    ac_nf0
    rw [f]
    ac_nf0
    rw [show tupF (j + 1) = tupF j ++ (tupF j).map fun ls => ls ++ [(j : Int)] from rfl, List.map_append]
theorem tuples_ok (m0 : 0 ≤ m) (m1 : m ≤ 9) : F_tuples_of_things [.int m] = pure (.lst ((tupF m.toNat).map tI)) := by
  obtain ⟨y2, el⟩ := tup_loop m.toNat 0 none (s0 := some (.int m)) (by omega)
  rw [Nat.zero_add] at el
  have e0 : (tupF 0).map tI = [.tup []] := rfl
  rw [e0] at el
  rw [d_tuples_of_things]
  simp only [G_tuples_of_things]
  ac_nf0
  rw [dRng_ok m0 (by omega)]
  simp only [e_gSet, pure_bind, Int.natCast_zero] at el
  ac_nf0
  rw [el]
  ac_nf0
theorem ohit_ok {o : List Int × Int} {ls : List Int} (hl : ls.length ≤ 1000) : F_is_offer_hit [offD o, tI ls] = pure (.bl (ls.any fun t => o.1.any (· == t))) := by
  have ec : dComp (iSq (dVar 1)) (gSet 0) (fun _ => pure true) E_is_offer_hit_1 [none, some 0] [some (offD o), some (tI ls)] = pure (.lst ((ls.map fun t => o.1.any (· == t)).map D.bl)) := by
    rw [show (ls.map fun t => o.1.any (· == t)).map D.bl = ls.filterMap fun t => some (.bl (o.1.any (· == t))) by simp]
    refine dComp_src (g' := D.int) rfl hl fun t _ => ?_
    have eb : bStartD [none, some 0] [some (offD o), some (tI ls)] = [none, some (offD o)] := rfl
    rw [eb]
    simp only [cTurn, E_is_offer_hit_1]
    ac_nf0
    rw [dIn_ints]
    ac_nf0
  rw [d_is_offer_hit]
  simp only [G_is_offer_hit, e_sRet, e_cApp, e_aCons, e_aNil]
  rw [ec]
  simp only [pure_bind]
  rw [dAny_ok, List.any_map]
  rfl
theorem est0 : dIx (stkD m os) (.int 0) = pure (.int m) := rfl
theorem hit_ok (s : Stk m os) {ls : List Int} (hu : ls.Pairwise (· < ·)) (hb : ∀ x ∈ ls, 0 ≤ x ∧ x < m) : F_is_hit [stkD m os, tI ls] = pure (.bl (hitB os ls)) := by
  have m0 := s.m0
  have m1 := s.m1
  have ol := s.len
  have ll := up_len (by omega) hu hb
  have er : F_is_rising [tI ls, .int m] = pure (.bl true) := by
    rw [rising_ok rfl fun ds e => by
      cases e
      intro x hx
      obtain ⟨i, _, rfl⟩ := List.mem_map.mp hx
      rfl]
    have := rise_ints.mpr ⟨hu, hb⟩
    show (pure (D.bl (pRise m 0 (ls.map D.int))) : M D) = _
    rw [this]
  have ec : dComp (iSq (cOp dIx (dVar 0) (cK (.int 1)))) (gSet 0) (fun _ => pure true) E_is_hit_1 [none, some 1] [some (stkD m os), some (tI ls)] = pure (.lst ((os.map fun o => ls.any fun t => o.1.any (· == t)).map D.bl)) := by
    rw [show (os.map fun o => ls.any fun t => o.1.any (· == t)).map D.bl = os.filterMap fun o => some (.bl (ls.any fun t => o.1.any (· == t))) by simp]
    refine dComp_src (g' := offD) rfl (by omega) fun o _ => ?_
    have eb : bStartD [none, some 1] [some (stkD m os), some (tI ls)] = [none, some (tI ls)] := rfl
    have eh := ohit_ok (o := o) (ls := ls) (by omega)
    simp only [offD, tI] at eh
    rw [eb]
    simp only [cTurn, E_is_hit_1]
    ac_nf0
    rw [eh]
    ac_nf0
  rw [d_is_hit]
  simp only [G_is_hit]
  simp only [tI] at er ec
  ac_nf0
  rw [est0]
  ac_nf0
  rw [er]
  ac_nf0
  rw [ec]
  ac_nf0
  rw [dAll_ok, List.all_map]
  ac_nf0
  rfl
noncomputable def hitL (m : Int) (os : List (List Int × Int)) : List (Int × List Int) := ((tupF m.toNat).filter (hitB os)).map fun ls => ((ls.length : Int), ls)
noncomputable def hitP (m : Int) (os : List (List Int × Int)) : Int × List Int := (hitL m os).getD (bestI (hitL m os)) (0, [])
theorem hitL_ne (s : Stk m os) : hitL m os ≠ [] := fun z => by
  have m0 := s.m0
  have h1 : (List.range m.toNat).map (fun (k : Nat) => (k : Int)) ∈ (tupF m.toNat).filter (hitB os) := by
    refine List.mem_filter.mpr ⟨(tup_mem _ _).mpr ⟨rangeI_up _, fun y hy => rangeI_bd y hy⟩, hit_iff.mpr fun o ho => ?_⟩
    obtain ⟨t, ht⟩ := List.exists_mem_of_ne_nil _ (s.ne o ho)
    have := s.bd o ho t ht
    exact ⟨t, List.mem_map.mpr ⟨t.toNat, List.mem_range.mpr (by omega), by omega⟩, ht⟩
  have h2 : ((((List.range m.toNat).map (fun (k : Nat) => (k : Int))).length : Int), (List.range m.toNat).map (fun (k : Nat) => (k : Int))) ∈ hitL m os := List.mem_map.mpr ⟨_, h1, rfl⟩
  rw [z] at h2
  cases h2
theorem fewest_ok (s : Stk m os) (m9 : m ≤ 9) : F_fewest_hit [stkD m os] = pure (tI (hitP m os).2) := by
  have m0 := s.m0
  have hl := tup_len m.toNat
  have hl9 : 2 ^ m.toNat ≤ 2 ^ 9 := Nat.pow_le_pow_right (by decide) (by omega)
  have c1 : dComp (iSq (cApp (callD 1 F_tuples_of_things) (aCons (cOp dIx (dVar 0) (cK (.int 0))) aNil))) (gSet 0) C_fewest_hit_1 E_fewest_hit_1 [none, some 0] [some (stkD m os), none] = pure (.lst (((tupF m.toNat).filter (hitB os)).map tI)) := by
    rw [← filterMap_if]
    refine dComp_src (g' := tI) ?_ (by omega) fun ls hls => ?_
    · ac_nf0
      rw [est0]
      ac_nf0
      rw [tuples_ok (by omega) m9]
      ac_nf0
    · obtain ⟨h1, h2⟩ := (tup_mem _ _).mp hls
      have eh := hit_ok s h1 fun x hx => by have := h2 x hx; omega
      have eb : bStartD [none, some 0] [some (stkD m os), none] = [none, some (stkD m os)] := rfl
      simp only [tI] at eh
      rw [eb]
      simp only [cTurn, C_fewest_hit_1, E_fewest_hit_1]
      ac_nf0
      rw [eh]
      ac_nf0
      split <;> rfl
  have hfl : ((tupF m.toNat).filter (hitB os)).length ≤ 1000 := Nat.le_trans (List.length_filter_le _ _) (by omega)
  have c2 : dComp (iSq (dVar 1)) (gSet 0) (fun _ => pure true) E_fewest_hit_2 [none] [some (stkD m os), some (.lst (((tupF m.toNat).filter (hitB os)).map tI))] = pure (.lst ((hitL m os).map pD)) := by
    unfold hitL
    rw [List.map_map, show ((tupF m.toNat).filter (hitB os)).map (pD ∘ fun ls : List Int => ((ls.length : Int), ls)) = ((tupF m.toNat).filter (hitB os)).filterMap fun ls => some (pD ((ls.length : Int), ls)) by simp [Function.comp_def]]
    refine dComp_src (g' := tI) rfl hfl fun ls _ => ?_
    have eb : bStartD [none] [some (stkD m os), some (.lst (((tupF m.toNat).filter (hitB os)).map tI))] = [none] := rfl
    rw [eb]
    simp only [cTurn, E_fewest_hit_2, pD]
    ac_nf0
  have ep : dIx (pD (hitP m os)) (.int 1) = pure (tI (hitP m os).2) := rfl
  rw [d_fewest_hit]
  simp only [G_fewest_hit]
  ac_nf0
  rw [c1]
  ac_nf0
  rw [c2]
  ac_nf0
  rw [dMin1_lst (hitL_ne s), show (hitL m os).getD (bestI (hitL m os)) (0, []) = hitP m os from rfl]
  ac_nf0
  rw [ep]
  ac_nf0
noncomputable def lotB (n b : Nat) : List Int := (bitsL n b).map fun (k : Nat) => (k : Int)
theorem bit_cast (b i : Nat) : ((b : Int) / 2 ^ i % 2 == 1) = (b / 2 ^ i % 2 == 1) := by
  have e : (b : Int) / 2 ^ i % 2 = ((b / 2 ^ i % 2 : Nat) : Int) := by simp
  rw [e, Bool.eq_iff_iff, beq_iff_eq, beq_iff_eq]
  omega
theorem stk_go {m : Int} {os : List (List Int × Int)} (m0 : 1 ≤ m) (m1 : m ≤ 10) (hl : os.length ≤ 12) (h : ∀ o ∈ os, Go m o) : Stk m os :=
  ⟨m0, m1, hl, fun o ho => (h o ho).1, fun o ho => (h o ho).2.1, fun o ho => (h o ho).2.2.1, fun o ho => (h o ho).2.2.2⟩
end K52
end
section
set_option maxHeartbeats 8000000
namespace L3
open PySem PySem.Spec PyProof.Rows L2 LT
section
variable {g g' : FS} {a : FE} {fs : FA} {sd : Sd} {i : Nat} {h : Hh} {P : Out → Hh → Prop} {d : D}
theorem wp_thenS (q : wp (a sd) h fun d h' => wp (g' (sd.set i (some d))) h' P) : wp (sThen (sSet i a) g' sd) h P := by
  rw [e_sThen, e_sSet, bind_assoc, wp_bind]
  exact q
theorem wp_thenP (e : a sd = pure d) (q : wp (g' (sd.set i (some d))) h P) : wp (sThen (sSet i a) g' sd) h P := by
  refine wp_thenS ?_
  rw [e, wp_pure]
  exact q
theorem aCons_ok {x : D} {xs : List D} (e : a sd = pure x) (e2 : fs sd = pure xs) : aCons a fs sd = pure (x :: xs) := by rw [e_aCons, e, e2]; rfl
theorem cOp_ok {F : D → D → M D} {b : FE} {x y z : D} (e : a sd = pure x) (e2 : b sd = pure y) (e3 : F x y = pure z) : cOp F a b sd = pure z := by rw [e_cOp, e, e2, pure_bind, pure_bind, e3]
end
section
variable {g g1 g' : FS} {t : FT} {a : FE} {fs fi : FA} {gt : D → Sd → M Sd} {sd : Sd} {i : Nat} {h : Hh} {P : Out → Hh → Prop} {ds : List D}
theorem wp_forP (e : fi sd = pure ds) (q : wp (fLoop (fun x sd => do let sd1 ← gt x sd; g sd1) ds sd) h fun o h' => wp (andThen o g') h' P) : wp (sThen (sFor fi gt g) g' sd) h P := by
  rw [e_sThen, e_sFor, e, pure_bind, wp_bind]
  exact q
theorem call1_ok {F : List D → M D} {x : D} (e : a sd = pure x) : cApp (callD 1 F) (aCons a aNil) sd = F [x] := by rw [e_cApp, e_aCons, e]; rfl
theorem iRng_ok {rs : List D} (e : fs sd = pure ds) (e2 : dRng1 ds = pure rs) : iRng fs sd = pure rs := by rw [e_iRng, e, pure_bind, e2]
end
theorem keys_pairs : ∀ ps : List (Int × List Int), keysD pairD1 (ps.map pD) = some ps := fun ps => by rw [keysD_pairs, pairs_map]
theorem dSortP_cel {n : Nat} {h : Hh} {ps : List (Int × List Int)} {P : D → Hh → Prop} (e : h[n]? = some (.lst (ps.map pD))) (k : P (.lst ((TS.sortK pLt ps).map pD)) h) : wp (dSortP [.cel n]) h P := by
  unfold dSortP dSortG one1 seqD
  simp only [wp_bind, wp_get e, wp_pure, keys_pairs, e_ofO]
  exact k
theorem sortK_head {ps : List (Int × List Int)} (h : ps ≠ []) : ∃ r, TS.sortK pLt ps = ps.getD (bestI ps) (0, []) :: r := by
  obtain ⟨b1, b2⟩ := best_spec h
  have hp := TS.sortK_perm pLt ps
  have hu := TS.sortK_up TS.ordP ps
  cases hs : TS.sortK pLt ps with
  | nil =>
    rw [hs] at hp
    exact absurd hp.symm.eq_nil h
  | cons x r =>
    have hu' : (x :: r).Pairwise TS.ordP.kle := by rw [← hs]; exact hu
    have hx : x ∈ ps := hp.mem_iff.mp (by rw [hs]; exact List.mem_cons_self ..)
    have hb : ps.getD (bestI ps) (0, []) ∈ ps := by
      rw [List.getD_eq_getElem?_getD, List.getElem?_eq_getElem b1]
      exact List.getElem_mem b1
    have hb2 : ps.getD (bestI ps) (0, []) ∈ x :: r := by rw [← hs]; exact hp.mem_iff.mpr hb
    have e : x = ps.getD (bestI ps) (0, []) := by
      rcases List.mem_cons.mp hb2 with e | hr
      · exact e.symm
      · exact pLt_anti (b2 x hx) ((List.pairwise_cons.mp hu').1 _ hr)
    exact ⟨r, by rw [e]⟩
end L3
namespace K52
open PySem PySem.Spec PyProof.Rows L2 L3 LT
set_option hygiene false in
local macro_rules | `(tactic| ac_nf0) => `(tactic| simp only [e_sThen, e_sSet, e_sAsg, e_sRet, e_sIf, e_sFor, e_sExpr, e_sNil, e_cApp, e_aCons, e_aNil, e_cOp, e_cUn, e_cK, e_var0, e_varS, pure_bind, bind_assoc, e_nx, e_rt, e_ort, e_onx, List.set, e_tCmp, e_tVal, e_tNot, e_tAnd, e_tOr, e_cAnd, e_cOr, e_cNot, e_cIf, e_cTup, e_cLst, e_cLstC, e_bool, e_call1, e_call2, e_call3, e_addI, e_ixT, e_ixL, e_at0, e_at1, e_ofO, e_lenT, e_lenL, e_itT, e_itL, e_iSq, e_iRng, e_gSet, e_gtup2, e_gscons, e_gsnil, e_tupL, e_tupT, wp_bind, wp_pure, wp_new, List.length_cons, List.length_nil, List.length_map, Nat.zero_add, Nat.reduceAdd, Nat.reduceLeDiff, fits_ok, offD, tI, e_cExtend, e_alive, e_extend, e_pick, e_sRaise, raise_bind, noX_pure, e_cSl, e_oNone, e_oSome, e_part, e_slT, e_rev, e_neg, e_addT, e_addL, e_lstT, e_max, e_sub, e_gt, if_true, Bool.not_true, Bool.not_false, Bool.false_eq_true, if_false, List.length_append, List.cons_append, List.nil_append, e_snox, e_cnox])
variable {m : Int} {os : List (List Int × Int)}
theorem lall_comp {ls : List Int} (hl : ls.length ≤ 1000) (hb : ∀ x ∈ ls, 0 ≤ x ∧ x < m) : dComp (iSq (dVar 1)) (gSet 0) (fun _ => pure true) E__law_is_hit_1 [none, some 0] [some (stkD m os), some (tI ls)] = pure (.lst ((ls.map fun _ => true).map D.bl)) := by
  rw [show (ls.map fun _ => true).map D.bl = ls.filterMap fun _ => some (.bl true) by simp]
  refine dComp_src (g' := D.int) rfl hl fun t ht => ?_
  have eb : bStartD [none, some 0] [some (stkD m os), some (tI ls)] = [none, some (stkD m os)] := rfl
  obtain ⟨h0, h1⟩ := hb t ht
  rw [eb]
  simp only [cTurn, E__law_is_hit_1]
  ac_nf0
  rw [lwhole_ok rfl]
  simp only [isI]
  ac_nf0
  simp only [cChain]
  ac_nf0
  simp only [est0, e_le, e_lt]
  ac_nf0
  simp [h0, h1]
theorem lhit_comp {ls : List Int} (hl : os.length ≤ 1000) (ho : ∀ o ∈ os, o.1.length ≤ 1000) : dComp (iSq (cOp dIx (dVar 0) (cK (.int 1)))) (gTupD 2 (gsCons (gSet 0) (gsCons (gSet 1) gsNil))) C__law_is_hit_2 E__law_is_hit_3 [none, none, some 1] [some (stkD m os), some (tI ls)] =
    pure (.lst (((os.filter fun o => (o.1.filter fun t => ls.any (· == t)).isEmpty).map fun _ => (1 : Int)).map D.int)) := by
  rw [List.map_map, ← filterMap_if]
  refine dComp_src (g' := offD) rfl hl fun o hoo => ?_
  have eb : bStartD [none, none, some 1] [some (stkD m os), some (tI ls)] = [none, none, some (tI ls)] := rfl
  have ec : dComp (iSq (dVar 0)) (gSet 0) C__law_is_hit_1 E__law_is_hit_2 [none, some 2] [some (tI o.1), some (.int o.2), some (tI ls)] = pure (.lst ((o.1.filter fun t => ls.any (· == t)).map D.int)) := by
    rw [← filterMap_if]
    refine dComp_src (g' := D.int) rfl (ho o hoo) fun t _ => ?_
    have eb : bStartD [none, some 2] [some (tI o.1), some (.int o.2), some (tI ls)] = [none, some (tI ls)] := rfl
    rw [eb]
    simp only [cTurn, C__law_is_hit_1, E__law_is_hit_2]
    ac_nf0
    rw [dIn_ints]
    ac_nf0
    split <;> rfl
  rw [eb]
  simp only [cTurn, C__law_is_hit_2, E__law_is_hit_3]
  simp only [tI] at ec
  ac_nf0
  rw [ec]
  ac_nf0
  rw [dEq_intsNil]
  ac_nf0
  split <;> rfl
theorem noHit_eq {ls : List Int} : ((os.filter fun o => (o.1.filter fun t => ls.any (· == t)).isEmpty).map fun _ => (1 : Int)).isEmpty = hitB os ls := by
  rw [Bool.eq_iff_iff, hit_iff, List.isEmpty_iff, List.map_eq_nil_iff, List.filter_eq_nil_iff]
  constructor
  · intro h o ho
    have h1 := h o ho
    rw [List.isEmpty_iff, List.filter_eq_nil_iff] at h1
    refine Classical.byContradiction fun hn => h1 fun t ht hm => hn ?_
    obtain ⟨y, hy, e⟩ := List.any_eq_true.mp hm
    exact ⟨t, by rw [beq_iff_eq] at e; exact e ▸ hy, ht⟩
  · intro h o ho hm
    obtain ⟨t, h1, h2⟩ := h o ho
    rw [List.isEmpty_iff, List.filter_eq_nil_iff] at hm
    exact hm t h2 (List.any_eq_true.mpr ⟨t, h1, by simp⟩)
theorem lhit_ok (s : Stk m os) {ls : List Int} (hu : ls.Pairwise (· < ·)) (hb : ∀ x ∈ ls, 0 ≤ x ∧ x < m) : F__law_is_hit [stkD m os, tI ls] = pure (.bl (hitB os ls)) := by
  have m0 := s.m0
  have m1 := s.m1
  have ol := s.len
  have ll := up_len (by omega) hu hb
  have ea := lall_comp (os := os) (by omega) hb
  have eh := lhit_comp (m := m) (ls := ls) (show os.length ≤ 1000 by omega) (fun o ho => by
    have := up_len (by omega) (s.up o ho) (s.bd o ho)
    omega)
  have es : dSortSet (.tup (ls.map D.int)) = pure (.lst (ls.map D.int)) := by rw [dSortSet_ok (by omega), setI_self hu]
  rw [d__law_is_hit]
  simp only [G__law_is_hit]
  simp only [tI] at ea eh
  ac_nf0
  rw [isT_ok rfl]
  simp only [isT]
  ac_nf0
  rw [ea]
  ac_nf0
  rw [dAll_ok]
  have hall : ((ls.map fun _ => true).all id) = true := by simp
  rw [hall]
  ac_nf0
  rw [es]
  ac_nf0
  have en : dNe (.lst (ls.map D.int)) (.lst (ls.map D.int)) = pure (.bl false) := by
    rw [dNe_ints]
    simp
  rw [en]
  ac_nf0
  rw [eh]
  ac_nf0
  rw [dEq_intsNil]
  ac_nf0
  rw [noHit_eq]
noncomputable def lawP (m : Int) (os : List (List Int × Int)) (b : Nat) : Option (Int × List Int) := if hitB os (lotB m.toNat b) = true then some (((lotB m.toNat b).length : Int), lotB m.toNat b) else none
theorem lot_comp {fi : FA} {src : List (Option Nat)} {sd : Sd} {n b : Nat} (hi : fi sd = pure (rngD 0 n)) (hn : n ≤ 1000) (eb : bStartD src sd = [none, some (.int b)]) : dComp fi (gSet 0) C__law_hits_1 E__law_hits_1 src sd = pure (.lst ((lotB n b).map D.int)) := by
  unfold lotB bitsL
  rw [List.map_map, ← filterMap_if]
  refine dComp_src (g' := fun (k : Nat) => .int (k : Int)) (by rw [hi, rng_ints, List.map_map]; rfl) (by simpa using hn) fun i hi' => ?_
  rw [eb]
  simp only [cTurn, C__law_hits_1, E__law_hits_1]
  ac_nf0
  rw [dShr_ok (by omega)]
  ac_nf0
  rw [dMod_ok (by decide)]
  ac_nf0
  rw [dEqI, Int.toNat_natCast, bit_cast]
  ac_nf0
  split <;> rfl
theorem bits_loop (s : Stk m os) {c : Nat} : ∀ (bs : List Nat) {h : Hh} {ps : List (Int × List Int)} {x2 x3 : Option D} {P : Out → Hh → Prop}, h[c]? = some (.lst (ps.map pD)) → ps.length + bs.length ≤ 1000 →
    (∀ y2 y3 h', h'[c]? = some (.lst ((ps ++ bs.filterMap (lawP m os)).map pD)) → P (.nx [some (stkD m os), some (.cel c), y2, y3]) h') →
    wp (fLoop (fun x sd => do let sd1 ← gSet 2 x sd; B__law_hits_1 sd1) (bs.map fun (b : Nat) => .int (b : Int)) [some (stkD m os), some (.cel c), x2, x3]) h P
  | [], h, ps, x2, x3, P, e, hl, k => by
    rw [List.map_nil, e_floop0, wp_pure]
    exact k x2 x3 h (by simpa using e)
  | b :: r, h, ps, x2, x3, P, e, hl, k => by
    have hln := (List.getElem?_eq_some_iff.mp e).1
    rw [List.length_cons] at hl
    have m0 := s.m0
    have m1 := s.m1
    have bd : ∀ x ∈ lotB m.toNat b, 0 ≤ x ∧ x < m := fun x hx => by
      have := bitsL_bd m.toNat b x hx
      omega
    have ec : dComp (iRng (aCons (cOp dIx (dVar 0) (cK (.int 0))) aNil)) (gSet 0) C__law_hits_1 E__law_hits_1 [none, some 2] [some (stkD m os), some (.cel c), some (.int (b : Int)), x3] = pure (.lst ((lotB m.toNat b).map D.int)) := by
      refine lot_comp ?_ (by omega) rfl
      ac_nf0
      rw [est0]
      ac_nf0
      rw [dRng_ok (by omega) (by omega)]
    have ea := lhit_ok s (bitsL_up m.toNat b) bd
    have ihN := fun (y2 y3 : Option D) (hf : lawP m os b = none) => bits_loop s (c := c) r (h := h) (ps := ps) (x2 := y2) (x3 := y3) (P := P) e (by omega) fun a b' h' e' => k a b' h' (by rw [e', List.filterMap_cons, hf])
    have ihS := fun (y2 y3 : Option D) (p : Int × List Int) (hf : lawP m os b = some p) => bits_loop s (c := c) r (h := h.set c (.lst ((ps ++ [p]).map pD))) (ps := ps ++ [p]) (x2 := y2) (x3 := y3) (P := P) (List.getElem?_set_self hln) (by simp; omega) fun a b' h' e' => k a b' h' (by rw [e', List.filterMap_cons, hf]; simp)
    rw [List.map_cons, e_floop]
    generalize fLoop (fun x sd => do let sd1 ← gSet 2 x sd; B__law_hits_1 sd1) (r.map fun (b : Nat) => .int (b : Int)) = rest at ihN ihS ⊢
    have f := fits_ok (show ps.length + 1 ≤ 1000 by omega)
    change F__law_is_hit [stkD m os, tI (lotB m.toNat b)] = pure (.bl (hitB os (lotB m.toNat b))) at ea
    simp only [B__law_hits_1]
    simp only [tI] at ea
    ac_nf0
    rw [ec]
    ac_nf0
    rw [ea]
    ac_nf0
    by_cases hap : hitB os (lotB m.toNat b) = true
    · have hf : lawP m os b = some (((lotB m.toNat b).length : Int), lotB m.toNat b) := by unfold lawP; rw [if_pos hap]
      rw [hap]
      ac_nf0
      simp only [cAppend]
      ac_nf0
      simp only [wp_get e, wp_pure, dAppend, wp_bind, List.length_map, f, wp_put]
      have := ihS (some (.int b)) (some (tI (lotB m.toNat b))) _ hf
      simp only [List.map_append, List.map_cons, List.map_nil, pD, tI] at this
      exact this
    · have hf : lawP m os b = none := by unfold lawP; rw [if_neg hap]
      rw [Bool.eq_false_iff.mpr hap]
      ac_nf0
      exact ihN _ _ hf
theorem law_best (s : Stk m os) : (List.range (2 ^ m.toNat)).filterMap (lawP m os) ≠ [] ∧ ((List.range (2 ^ m.toNat)).filterMap (lawP m os)).getD (bestI ((List.range (2 ^ m.toNat)).filterMap (lawP m os))) (0, []) = hitP m os := by
  have hm : ∀ x, x ∈ hitL m os ↔ x ∈ (List.range (2 ^ m.toNat)).filterMap (lawP m os) := fun x => by
    unfold hitL
    rw [List.mem_map, List.mem_filterMap]
    constructor
    · rintro ⟨ls, hls, rfl⟩
      obtain ⟨h0, h3⟩ := List.mem_filter.mp hls
      obtain ⟨h1, h2⟩ := (tup_mem _ ls).mp h0
      obtain ⟨b, hb1, hb2⟩ := bits_all m.toNat ls h1 h2
      have hb2 : lotB m.toNat b = ls := hb2
      refine ⟨b, List.mem_range.mpr hb1, ?_⟩
      unfold lawP
      rw [hb2, if_pos h3]
    · rintro ⟨b, hb, e⟩
      unfold lawP at e
      split at e
      · rename_i h3
        cases e
        exact ⟨lotB m.toNat b, List.mem_filter.mpr ⟨(tup_mem _ _).mpr ⟨bitsL_up _ _, bitsL_bd _ _⟩, h3⟩, rfl⟩
      · cases e
  refine ⟨fun z => ?_, (best_same (hitL_ne s) hm).symm⟩
  obtain ⟨x, hx⟩ := List.exists_mem_of_ne_nil _ (hitL_ne s)
  rw [hm x, z] at hx
  cases hx
theorem hits_wp (s : Stk m os) (m9 : m ≤ 9) {h : Hh} {P : D → Hh → Prop} (k : ∀ r h', P (.lst (pD (hitP m os) :: r)) h') : wp (F__law_hits [stkD m os]) h P := by
  have m0 := s.m0
  have hp : 2 ^ m.toNat ≤ 512 := Nat.pow_le_pow_right (n := 2) (by decide) (show m.toNat ≤ 9 by omega)
  have hN : ((1 : Int) * 2 ^ m.toNat).toNat = 2 ^ m.toNat := by
    rw [Int.one_mul]
    have : ((2 : Int) ^ m.toNat) = ((2 ^ m.toNat : Nat) : Int) := by simp
    rw [this, Int.toNat_natCast]
  have hN2 : (0 : Int) ≤ 1 * 2 ^ m.toNat ∧ (1 : Int) * 2 ^ m.toNat < 1000 := by
    rw [Int.one_mul]
    have : ((2 : Int) ^ m.toNat) = ((2 ^ m.toNat : Nat) : Int) := by simp
    omega
  rw [d__law_hits, wp_bind]
  unfold G__law_hits
  refine wp_thenS (show wp (do fits 0; newCell []) h _ from ?_)
  rw [fits_ok (by decide), pure_bind, wp_new]
  have e3 : (h ++ [.lst []])[h.length]? = some (.lst []) := by simp
  generalize h.length = c at e3
  generalize h ++ [.lst []] = h3 at e3
  refine wp_forP (ds := (List.range (2 ^ m.toNat)).map fun (b : Nat) => .int (b : Int)) ?_ ?_
  · have e := iRng_ok (aCons_ok (cOp_ok (a := cK (.int 1)) (b := cOp dIx (dVar 0) (cK (.int 0))) (sd := [some (stkD m os), some (.cel c), none, none]) rfl rfl (dShl_ok (m := m) (by omega) (by omega))) (fs := aNil) rfl) (dRng_ok hN2.1 hN2.2)
    rw [hN, rng_ints, List.map_map] at e
    exact e
  refine bits_loop s _ (ps := []) e3 (by simp; omega) fun y2 y3 h4 e4 => ?_
  rw [List.nil_append] at e4
  obtain ⟨hne, hbest⟩ := law_best s
  obtain ⟨r, hr⟩ := sortK_head hne
  rw [hbest] at hr
  ac_nf0
  refine dSortP_cel e4 ?_
  rw [hr, List.map_cons]
  ac_nf0
  exact k _ _
end K52
end
section
set_option maxHeartbeats 8000000
namespace K52
open PySem PySem.Spec PyProof.Rows L2 L3 LT
set_option hygiene false in
local macro_rules | `(tactic| ac_nf0) => `(tactic| simp only [e_sThen, e_sSet, e_sAsg, e_sRet, e_sIf, e_sFor, e_sExpr, e_sNil, e_cApp, e_aCons, e_aNil, e_cOp, e_cUn, e_cK, e_var0, e_varS, pure_bind, bind_assoc, e_nx, e_rt, e_ort, e_onx, List.set, e_tCmp, e_tVal, e_tNot, e_tAnd, e_tOr, e_cAnd, e_cOr, e_cNot, e_cIf, e_cTup, e_cLst, e_cLstC, e_bool, e_call1, e_call2, e_call3, e_addI, e_ixT, e_ixL, e_at0, e_at1, e_ofO, e_lenT, e_lenL, e_itT, e_itL, e_iSq, e_iRng, e_gSet, e_gtup2, e_gscons, e_gsnil, e_tupL, e_tupT, wp_bind, wp_pure, wp_new, List.length_cons, List.length_nil, List.length_map, Nat.zero_add, Nat.reduceAdd, Nat.reduceLeDiff, fits_ok, offD, tI, e_cExtend, e_alive, e_extend, e_pick, e_sRaise, raise_bind, noX_pure, e_cSl, e_oNone, e_oSome, e_part, e_slT, e_rev, e_neg, e_addT, e_addL, e_lstT, e_max, e_sub, e_gt, if_true, Bool.not_true, Bool.not_false, Bool.false_eq_true, if_false, List.length_append, List.cons_append, List.nil_append, e_snox, e_cnox])
variable {m : Int} {os : List (List Int × Int)}
theorem law_turn {ns : List Int} (hb : ∀ i ∈ ns, Builtin.Int.intBits i ≤ 2 ^ 20) {i : Int} (i0 : 0 ≤ i) (i1 : i < 6) {h : Hh} {x2 x3 : Option D} {P : Out → Hh → Prop}
    (k : ∀ y2 y3 h', P (.nx [some (.scr (ns.map D.int)), some (.int i), y2, y3]) h') : wp (B_law_1 [some (.scr (ns.map D.int)), some (.int i), x2, x3]) h P := by
  unfold B_law_1
  refine wp_thenS ?_
  refine wp_mono (P := fun d _ => ∃ m os, d = stkD m os ∧ Stk m os ∧ m ≤ 9) ?_ ?_
  · ac_nf0
    refine box_wp hb i0 i1 fun z => ?_
    have qb : Bx h.length (h ++ [.lst [.int z]]) := ⟨z, by simp⟩
    generalize h.length = b at qb
    generalize h ++ [.lst [.int z]] = h1 at qb
    ac_nf0
    refine stock_wp qb (by decide) (by decide) (by decide) (by decide) fun m os h2 q2 m0 m1 ol ho => ?_
    refine ⟨m, os, ?_, ?_, ?_⟩ <;> first | exact stk_go m0 (by omega) (by omega) ho | rfl | omega
  rintro d h1 ⟨m, os, rfl, s, m9⟩
  refine wp_thenP (d := tI (hitP m os).2) ?_ ?_
  · rw [call1_ok (x := stkD m os) rfl]
    exact fewest_ok s m9
  have en := dNe_tI (hitP m os).2 (hitP m os).2
  have ep : dIx (pD (hitP m os)) (.int 1) = pure (tI (hitP m os).2) := rfl
  have et := isT_ok (show kn (tI (hitP m os).2) = true from rfl)
  simp only [tI, isT] at en ep et
  ac_nf0
  rw [et]
  ac_nf0
  refine hits_wp s m9 fun r h2 => ?_
  ac_nf0
  rw [ep]
  ac_nf0
  rw [en]
  ac_nf0
  simp only [beq_self_eq_true]
  ac_nf0
  exact k _ _ _
theorem law_loop {ns : List Int} (hb : ∀ i ∈ ns, Builtin.Int.intBits i ≤ 2 ^ 20) : ∀ (ds : List D) {h : Hh} {x1 x2 x3 : Option D} {P : Out → Hh → Prop}, (∀ d ∈ ds, ∃ i : Int, d = .int i ∧ 0 ≤ i ∧ i < 6) → (∀ y1 y2 y3 h', P (.nx [some (.scr (ns.map D.int)), y1, y2, y3]) h') →
    wp (fLoop (fun x sd => do let sd1 ← gSet 1 x sd; B_law_1 sd1) ds [some (.scr (ns.map D.int)), x1, x2, x3]) h P
  | [], h, x1, x2, x3, P, _, k => by
    rw [e_floop0, wp_pure]
    exact k _ _ _ _
  | d :: r, h, x1, x2, x3, P, hd, k => by
    obtain ⟨i, rfl, i0, i1⟩ := hd _ List.mem_cons_self
    have ih := fun (h : Hh) (x1 x2 x3 : Option D) => law_loop hb r (h := h) (x1 := x1) (x2 := x2) (x3 := x3) (P := P) (fun y hy => hd y (List.mem_cons_of_mem _ hy)) k
    rw [e_floop]
    generalize fLoop (fun x sd => do let sd1 ← gSet 1 x sd; B_law_1 sd1) r = rest at ih ⊢
    rw [wp_bind, e_gSet, pure_bind]
    exact law_turn hb i0 i1 fun y2 y3 h' => ih _ _ _ _
theorem law_true : ∀ ns : List Int, ns.length ≤ 63 → (∀ i ∈ ns, Builtin.Int.intBits i ≤ 2 ^ 20) → ∃ h', F_law [.scr (ns.map D.int)] [] = .ok (.bl true) h' := by
  intro ns _ hb
  have key : wp (F_law [.scr (ns.map D.int)]) [] fun d _ => d = .bl true := by
    rw [d_law, wp_bind]
    unfold G_law
    generalize hn : (if (if (4 : Int) < (ns.length : Int) then (4 : Int) else (ns.length : Int)) > 1 then (if (4 : Int) < (ns.length : Int) then (4 : Int) else (ns.length : Int)) else (1 : Int)) = n
    have n0 : 0 ≤ n ∧ n ≤ 6 := by
      rw [← hn]
      split <;> split <;> omega
    refine wp_forP (ds := rngD 0 n.toNat) ?_ ?_
    · ac_nf0
      simp only [e_lenS, List.length_map]
      ac_nf0
      simp only [e_min]
      ac_nf0
      rw [hn]
      exact dRng_ok n0.1 (by omega)
    refine law_loop hb _ (fun d hd => ?_) fun y1 y2 y3 h' => ?_
    · obtain ⟨i, e, i0, i1⟩ := rng_mem hd
      exact ⟨i, e, i0, by omega⟩
    have s0 : Stk 3 [] := ⟨by decide, by decide, by decide, by simp, by simp, by simp, by simp⟩
    have s1 : Stk 2 [([1], 4), ([0, 1], 1)] := ⟨by decide, by decide, by decide, by decide, by decide, by decide, by decide⟩
    have v0 : D.tup [.int 3, .tup []] = stkD 3 [] := rfl
    have v1 : D.tup [.int 2, .tup [.tup [.tup [.int 1], .int 4], .tup [.tup [.int 0, .int 1], .int 1]]] = stkD 2 [([1], 4), ([0, 1], 1)] := rfl
    have e0 := fewest_ok s0 (by decide)
    have e1 := fewest_ok s1 (by decide)
    rw [show (hitP 3 []).2 = [] from rfl] at e0
    rw [show (hitP 2 [([1], 4), ([0, 1], 1)]).2 = [1] from rfl] at e1
    have q0 := dEq_tI [] []
    have q1 := dEq_tI [1] [1]
    simp only [tI, List.map_nil, List.map_cons] at e0 e1 q0 q1
    ac_nf0
    rw [v0, e0]
    ac_nf0
    rw [q0]
    ac_nf0
    simp only [beq_self_eq_true]
    ac_nf0
    rw [v1, e1]
    ac_nf0
    rw [q1, wp_pure]
    rfl
  obtain ⟨d, h', e, rfl⟩ := key
  exact ⟨h', e⟩
end K52
end
section
set_option maxHeartbeats 8000000
namespace K52
open PySem PySem.Spec PyProof.Rows L2 L3
theorem all_mk {l : W.OpenLaw} {w : World} {K : W.Frag} {h : Heap} {mg : Str → Option Value} {fa a__law_take a__law_stock a__law_cell a__law_mix a__law_box a_tuples_of_things a_is_offer_hit a_is_whole a_is_rising a_is_hit a_fewest_hit a__law_whole a__law_is_hit a__law_hits a_law : Addr} (X : K.In h) (G : h.Ns mainGlobals mg) (hfa : mg "law" = some (.ref fa))
    {od__law_take an__law_take od__law_stock an__law_stock od__law_cell an__law_cell od__law_mix an__law_mix od__law_box an__law_box od_tuples_of_things an_tuples_of_things od_is_offer_hit an_is_offer_hit od_is_whole an_is_whole od_is_rising an_is_rising od_is_hit an_is_hit od_fewest_hit an_fewest_hit od__law_whole an__law_whole od__law_is_hit an__law_is_hit od__law_hits an__law_hits od_law an_law : Option Addr} {sl__law_take sl__law_stock sl__law_cell sl__law_mix sl__law_box sl_tuples_of_things sl_is_offer_hit sl_is_whole sl_is_rising sl_is_hit sl_fewest_hit sl__law_whole sl__law_is_hit sl__law_hits sl_law : Array (Option Value)} {oc__law_take kV__law_take dc__law_take pm__law_take cd__law_take ct__law_take oc__law_stock kV__law_stock dc__law_stock pm__law_stock cd__law_stock ct__law_stock oc__law_cell kV__law_cell dc__law_cell pm__law_cell cd__law_cell ct__law_cell oc__law_mix kV__law_mix dc__law_mix pm__law_mix cd__law_mix ct__law_mix oc__law_box kV__law_box dc__law_box pm__law_box cd__law_box ct__law_box oc_tuples_of_things kV_tuples_of_things dc_tuples_of_things pm_tuples_of_things cd_tuples_of_things ct_tuples_of_things oc_is_offer_hit kV_is_offer_hit dc_is_offer_hit pm_is_offer_hit cd_is_offer_hit ct_is_offer_hit oc_is_whole kV_is_whole dc_is_whole pm_is_whole cd_is_whole ct_is_whole oc_is_rising kV_is_rising dc_is_rising pm_is_rising cd_is_rising ct_is_rising oc_is_hit kV_is_hit dc_is_hit pm_is_hit cd_is_hit ct_is_hit oc_fewest_hit kV_fewest_hit dc_fewest_hit pm_fewest_hit cd_fewest_hit ct_fewest_hit oc__law_whole kV__law_whole dc__law_whole pm__law_whole cd__law_whole ct__law_whole oc__law_is_hit kV__law_is_hit dc__law_is_hit pm__law_is_hit cd__law_is_hit ct__law_is_hit oc__law_hits kV__law_hits dc__law_hits pm__law_hits cd__law_hits ct__law_hits oc_law kV_law dc_law pm_law cd_law ct_law : Value}
    (e__law_take : W.nsIn K mainGlobals "_law_take" = some (some (.ref a__law_take))) (l__law_take : K.lookup a__law_take = some ⟨oc__law_take, od__law_take, .func (W.fnOf "_law_take" "_law_take" (defArgs s__law_take) (defBody s__law_take) (defScope s__law_take) .none kV__law_take dc__law_take pm__law_take an__law_take cd__law_take ct__law_take), sl__law_take⟩) (c__law_take : W.codeIn K cd__law_take "_law_take" = true) (k__law_take : W.keepIn K (.ref a__law_take) = true)
    (e__law_stock : W.nsIn K mainGlobals "_law_stock" = some (some (.ref a__law_stock))) (l__law_stock : K.lookup a__law_stock = some ⟨oc__law_stock, od__law_stock, .func (W.fnOf "_law_stock" "_law_stock" (defArgs s__law_stock) (defBody s__law_stock) (defScope s__law_stock) .none kV__law_stock dc__law_stock pm__law_stock an__law_stock cd__law_stock ct__law_stock), sl__law_stock⟩) (c__law_stock : W.codeIn K cd__law_stock "_law_stock" = true) (k__law_stock : W.keepIn K (.ref a__law_stock) = true)
    (e__law_cell : W.nsIn K mainGlobals "_law_cell" = some (some (.ref a__law_cell))) (l__law_cell : K.lookup a__law_cell = some ⟨oc__law_cell, od__law_cell, .func (W.fnOf "_law_cell" "_law_cell" (defArgs s__law_cell) (defBody s__law_cell) (defScope s__law_cell) .none kV__law_cell dc__law_cell pm__law_cell an__law_cell cd__law_cell ct__law_cell), sl__law_cell⟩) (c__law_cell : W.codeIn K cd__law_cell "_law_cell" = true) (k__law_cell : W.keepIn K (.ref a__law_cell) = true)
    (e__law_mix : W.nsIn K mainGlobals "_law_mix" = some (some (.ref a__law_mix))) (l__law_mix : K.lookup a__law_mix = some ⟨oc__law_mix, od__law_mix, .func (W.fnOf "_law_mix" "_law_mix" (defArgs s__law_mix) (defBody s__law_mix) (defScope s__law_mix) .none kV__law_mix dc__law_mix pm__law_mix an__law_mix cd__law_mix ct__law_mix), sl__law_mix⟩) (c__law_mix : W.codeIn K cd__law_mix "_law_mix" = true) (k__law_mix : W.keepIn K (.ref a__law_mix) = true)
    (e__law_box : W.nsIn K mainGlobals "_law_box" = some (some (.ref a__law_box))) (l__law_box : K.lookup a__law_box = some ⟨oc__law_box, od__law_box, .func (W.fnOf "_law_box" "_law_box" (defArgs s__law_box) (defBody s__law_box) (defScope s__law_box) .none kV__law_box dc__law_box pm__law_box an__law_box cd__law_box ct__law_box), sl__law_box⟩) (c__law_box : W.codeIn K cd__law_box "_law_box" = true) (k__law_box : W.keepIn K (.ref a__law_box) = true)
    (e_tuples_of_things : W.nsIn K mainGlobals "tuples_of_things" = some (some (.ref a_tuples_of_things))) (l_tuples_of_things : K.lookup a_tuples_of_things = some ⟨oc_tuples_of_things, od_tuples_of_things, .func (W.fnOf "tuples_of_things" "tuples_of_things" (defArgs s_tuples_of_things) (defBody s_tuples_of_things) (defScope s_tuples_of_things) .none kV_tuples_of_things dc_tuples_of_things pm_tuples_of_things an_tuples_of_things cd_tuples_of_things ct_tuples_of_things), sl_tuples_of_things⟩) (c_tuples_of_things : W.codeIn K cd_tuples_of_things "tuples_of_things" = true) (k_tuples_of_things : W.keepIn K (.ref a_tuples_of_things) = true)
    (e_is_offer_hit : W.nsIn K mainGlobals "is_offer_hit" = some (some (.ref a_is_offer_hit))) (l_is_offer_hit : K.lookup a_is_offer_hit = some ⟨oc_is_offer_hit, od_is_offer_hit, .func (W.fnOf "is_offer_hit" "is_offer_hit" (defArgs s_is_offer_hit) (defBody s_is_offer_hit) (defScope s_is_offer_hit) .none kV_is_offer_hit dc_is_offer_hit pm_is_offer_hit an_is_offer_hit cd_is_offer_hit ct_is_offer_hit), sl_is_offer_hit⟩) (c_is_offer_hit : W.codeIn K cd_is_offer_hit "is_offer_hit" = true) (k_is_offer_hit : W.keepIn K (.ref a_is_offer_hit) = true)
    (e_is_whole : W.nsIn K mainGlobals "is_whole" = some (some (.ref a_is_whole))) (l_is_whole : K.lookup a_is_whole = some ⟨oc_is_whole, od_is_whole, .func (W.fnOf "is_whole" "is_whole" (defArgs s_is_whole) (defBody s_is_whole) (defScope s_is_whole) .none kV_is_whole dc_is_whole pm_is_whole an_is_whole cd_is_whole ct_is_whole), sl_is_whole⟩) (c_is_whole : W.codeIn K cd_is_whole "is_whole" = true) (k_is_whole : W.keepIn K (.ref a_is_whole) = true)
    (e_is_rising : W.nsIn K mainGlobals "is_rising" = some (some (.ref a_is_rising))) (l_is_rising : K.lookup a_is_rising = some ⟨oc_is_rising, od_is_rising, .func (W.fnOf "is_rising" "is_rising" (defArgs s_is_rising) (defBody s_is_rising) (defScope s_is_rising) .none kV_is_rising dc_is_rising pm_is_rising an_is_rising cd_is_rising ct_is_rising), sl_is_rising⟩) (c_is_rising : W.codeIn K cd_is_rising "is_rising" = true) (k_is_rising : W.keepIn K (.ref a_is_rising) = true)
    (e_is_hit : W.nsIn K mainGlobals "is_hit" = some (some (.ref a_is_hit))) (l_is_hit : K.lookup a_is_hit = some ⟨oc_is_hit, od_is_hit, .func (W.fnOf "is_hit" "is_hit" (defArgs s_is_hit) (defBody s_is_hit) (defScope s_is_hit) .none kV_is_hit dc_is_hit pm_is_hit an_is_hit cd_is_hit ct_is_hit), sl_is_hit⟩) (c_is_hit : W.codeIn K cd_is_hit "is_hit" = true) (k_is_hit : W.keepIn K (.ref a_is_hit) = true)
    (e_fewest_hit : W.nsIn K mainGlobals "fewest_hit" = some (some (.ref a_fewest_hit))) (l_fewest_hit : K.lookup a_fewest_hit = some ⟨oc_fewest_hit, od_fewest_hit, .func (W.fnOf "fewest_hit" "fewest_hit" (defArgs s_fewest_hit) (defBody s_fewest_hit) (defScope s_fewest_hit) .none kV_fewest_hit dc_fewest_hit pm_fewest_hit an_fewest_hit cd_fewest_hit ct_fewest_hit), sl_fewest_hit⟩) (c_fewest_hit : W.codeIn K cd_fewest_hit "fewest_hit" = true) (k_fewest_hit : W.keepIn K (.ref a_fewest_hit) = true)
    (e__law_whole : W.nsIn K mainGlobals "_law_whole" = some (some (.ref a__law_whole))) (l__law_whole : K.lookup a__law_whole = some ⟨oc__law_whole, od__law_whole, .func (W.fnOf "_law_whole" "_law_whole" (defArgs s__law_whole) (defBody s__law_whole) (defScope s__law_whole) .none kV__law_whole dc__law_whole pm__law_whole an__law_whole cd__law_whole ct__law_whole), sl__law_whole⟩) (c__law_whole : W.codeIn K cd__law_whole "_law_whole" = true) (k__law_whole : W.keepIn K (.ref a__law_whole) = true)
    (e__law_is_hit : W.nsIn K mainGlobals "_law_is_hit" = some (some (.ref a__law_is_hit))) (l__law_is_hit : K.lookup a__law_is_hit = some ⟨oc__law_is_hit, od__law_is_hit, .func (W.fnOf "_law_is_hit" "_law_is_hit" (defArgs s__law_is_hit) (defBody s__law_is_hit) (defScope s__law_is_hit) .none kV__law_is_hit dc__law_is_hit pm__law_is_hit an__law_is_hit cd__law_is_hit ct__law_is_hit), sl__law_is_hit⟩) (c__law_is_hit : W.codeIn K cd__law_is_hit "_law_is_hit" = true) (k__law_is_hit : W.keepIn K (.ref a__law_is_hit) = true)
    (e__law_hits : W.nsIn K mainGlobals "_law_hits" = some (some (.ref a__law_hits))) (l__law_hits : K.lookup a__law_hits = some ⟨oc__law_hits, od__law_hits, .func (W.fnOf "_law_hits" "_law_hits" (defArgs s__law_hits) (defBody s__law_hits) (defScope s__law_hits) .none kV__law_hits dc__law_hits pm__law_hits an__law_hits cd__law_hits ct__law_hits), sl__law_hits⟩) (c__law_hits : W.codeIn K cd__law_hits "_law_hits" = true) (k__law_hits : W.keepIn K (.ref a__law_hits) = true)
    (e_law : W.nsIn K mainGlobals "law" = some (some (.ref a_law))) (l_law : K.lookup a_law = some ⟨oc_law, od_law, .func (W.fnOf "law" "law" (defArgs s_law) (defBody s_law) (defScope s_law) .none kV_law dc_law pm_law an_law cd_law ct_law), sl_law⟩) (c_law : W.codeIn K cd_law "law" = true) (k_law : W.keepIn K (.ref a_law) = true)
    (z_all : W.nsIn K mainGlobals "all" = some none)
    (z_any : W.nsIn K mainGlobals "any" = some none)
    (z_bool : W.nsIn K mainGlobals "bool" = some none)
    (z_divmod : W.nsIn K mainGlobals "divmod" = some none)
    (z_int : W.nsIn K mainGlobals "int" = some none)
    (z_isinstance : W.nsIn K mainGlobals "isinstance" = some none)
    (z_len : W.nsIn K mainGlobals "len" = some none)
    (z_list : W.nsIn K mainGlobals "list" = some none)
    (z_max : W.nsIn K mainGlobals "max" = some none)
    (z_min : W.nsIn K mainGlobals "min" = some none)
    (z_range : W.nsIn K mainGlobals "range" = some none)
    (z_set : W.nsIn K mainGlobals "set" = some none)
    (z_sorted : W.nsIn K mainGlobals "sorted" = some none)
    (z_tuple : W.nsIn K mainGlobals "tuple" = some none)
    : ∃ fd : FuncData, (∀ (s : Shared) (v : Value), BindsTo s fd ⟨[v], []⟩ [("script", v)]) ∧ ∀ base : Heap, K.In base → base.Ns mainGlobals mg → FnOk l.prog w K mg base CX0 5 fa fd ["script"] (spOf K 1 F_law) := by
  have e := hfa.symm.trans (W.mg_of X G e_law)
  cases e
  have F__law_take := fun_mk (st := s__law_take) l__law_take c__law_take k__law_take
  have b__law_take := F__law_take.binds (ps := ["box", "many"]) fun _ _ _ _ _ _ us hl => match us, hl with | [_, _], _ => rfl
  have F__law_stock := fun_mk (st := s__law_stock) l__law_stock c__law_stock k__law_stock
  have b__law_stock := F__law_stock.binds (ps := ["box", "most_things", "most_offers"]) fun _ _ _ _ _ _ us hl => match us, hl with | [_, _, _], _ => rfl
  have F__law_cell := fun_mk (st := s__law_cell) l__law_cell c__law_cell k__law_cell
  have b__law_cell := F__law_cell.binds (ps := ["script", "k"]) fun _ _ _ _ _ _ us hl => match us, hl with | [_, _], _ => rfl
  have F__law_mix := fun_mk (st := s__law_mix) l__law_mix c__law_mix k__law_mix
  have b__law_mix := F__law_mix.binds (ps := ["cell", "k"]) fun _ _ _ _ _ _ us hl => match us, hl with | [_, _], _ => rfl
  have F__law_box := fun_mk (st := s__law_box) l__law_box c__law_box k__law_box
  have b__law_box := F__law_box.binds (ps := ["script", "k"]) fun _ _ _ _ _ _ us hl => match us, hl with | [_, _], _ => rfl
  have F_tuples_of_things := fun_mk (st := s_tuples_of_things) l_tuples_of_things c_tuples_of_things k_tuples_of_things
  have b_tuples_of_things := F_tuples_of_things.binds (ps := ["many"]) fun _ _ _ _ _ _ us hl => match us, hl with | [_], _ => rfl
  have F_is_offer_hit := fun_mk (st := s_is_offer_hit) l_is_offer_hit c_is_offer_hit k_is_offer_hit
  have b_is_offer_hit := F_is_offer_hit.binds (ps := ["offer", "things"]) fun _ _ _ _ _ _ us hl => match us, hl with | [_, _], _ => rfl
  have F_is_whole := fun_mk (st := s_is_whole) l_is_whole c_is_whole k_is_whole
  have b_is_whole := F_is_whole.binds (ps := ["thing"]) fun _ _ _ _ _ _ us hl => match us, hl with | [_], _ => rfl
  have F_is_rising := fun_mk (st := s_is_rising) l_is_rising c_is_rising k_is_rising
  have b_is_rising := F_is_rising.binds (ps := ["thing", "bound"]) fun _ _ _ _ _ _ us hl => match us, hl with | [_, _], _ => rfl
  have F_is_hit := fun_mk (st := s_is_hit) l_is_hit c_is_hit k_is_hit
  have b_is_hit := F_is_hit.binds (ps := ["stock", "thing"]) fun _ _ _ _ _ _ us hl => match us, hl with | [_, _], _ => rfl
  have F_fewest_hit := fun_mk (st := s_fewest_hit) l_fewest_hit c_fewest_hit k_fewest_hit
  have b_fewest_hit := F_fewest_hit.binds (ps := ["stock"]) fun _ _ _ _ _ _ us hl => match us, hl with | [_], _ => rfl
  have F__law_whole := fun_mk (st := s__law_whole) l__law_whole c__law_whole k__law_whole
  have b__law_whole := F__law_whole.binds (ps := ["found"]) fun _ _ _ _ _ _ us hl => match us, hl with | [_], _ => rfl
  have F__law_is_hit := fun_mk (st := s__law_is_hit) l__law_is_hit c__law_is_hit k__law_is_hit
  have b__law_is_hit := F__law_is_hit.binds (ps := ["stock", "thing"]) fun _ _ _ _ _ _ us hl => match us, hl with | [_, _], _ => rfl
  have F__law_hits := fun_mk (st := s__law_hits) l__law_hits c__law_hits k__law_hits
  have b__law_hits := F__law_hits.binds (ps := ["stock"]) fun _ _ _ _ _ _ us hl => match us, hl with | [_], _ => rfl
  have F_law := fun_mk (st := s_law) l_law c_law k_law
  have b_law := F_law.binds (ps := ["script"]) fun _ _ _ _ _ _ us hl => match us, hl with | [_], _ => rfl
  have T : Tx K mg ⟨a__law_take, _, a__law_stock, _, a__law_cell, _, a__law_mix, _, a__law_box, _, a_tuples_of_things, _, a_is_offer_hit, _, a_is_whole, _, a_is_rising, _, a_is_hit, _, a_fewest_hit, _, a__law_whole, _, a__law_is_hit, _, a__law_hits, _, fa, _⟩ :=
    { n_all := W.mg_none_of X G z_all,
      n_any := W.mg_none_of X G z_any,
      n_bool := W.mg_none_of X G z_bool,
      n_divmod := W.mg_none_of X G z_divmod,
      n_int := W.mg_none_of X G z_int,
      n_isinstance := W.mg_none_of X G z_isinstance,
      n_len := W.mg_none_of X G z_len,
      n_list := W.mg_none_of X G z_list,
      n_max := W.mg_none_of X G z_max,
      n_min := W.mg_none_of X G z_min,
      n_range := W.mg_none_of X G z_range,
      n_set := W.mg_none_of X G z_set,
      n_sorted := W.mg_none_of X G z_sorted,
      n_tuple := W.mg_none_of X G z_tuple,
      m__law_take := W.mg_of X G e__law_take,
      F__law_take := F__law_take,
      b__law_take := b__law_take,
      m__law_stock := W.mg_of X G e__law_stock,
      F__law_stock := F__law_stock,
      b__law_stock := b__law_stock,
      m__law_cell := W.mg_of X G e__law_cell,
      F__law_cell := F__law_cell,
      b__law_cell := b__law_cell,
      m__law_mix := W.mg_of X G e__law_mix,
      F__law_mix := F__law_mix,
      b__law_mix := b__law_mix,
      m__law_box := W.mg_of X G e__law_box,
      F__law_box := F__law_box,
      b__law_box := b__law_box,
      m_tuples_of_things := W.mg_of X G e_tuples_of_things,
      F_tuples_of_things := F_tuples_of_things,
      b_tuples_of_things := b_tuples_of_things,
      m_is_offer_hit := W.mg_of X G e_is_offer_hit,
      F_is_offer_hit := F_is_offer_hit,
      b_is_offer_hit := b_is_offer_hit,
      m_is_whole := W.mg_of X G e_is_whole,
      F_is_whole := F_is_whole,
      b_is_whole := b_is_whole,
      m_is_rising := W.mg_of X G e_is_rising,
      F_is_rising := F_is_rising,
      b_is_rising := b_is_rising,
      m_is_hit := W.mg_of X G e_is_hit,
      F_is_hit := F_is_hit,
      b_is_hit := b_is_hit,
      m_fewest_hit := W.mg_of X G e_fewest_hit,
      F_fewest_hit := F_fewest_hit,
      b_fewest_hit := b_fewest_hit,
      m__law_whole := W.mg_of X G e__law_whole,
      F__law_whole := F__law_whole,
      b__law_whole := b__law_whole,
      m__law_is_hit := W.mg_of X G e__law_is_hit,
      F__law_is_hit := F__law_is_hit,
      b__law_is_hit := b__law_is_hit,
      m__law_hits := W.mg_of X G e__law_hits,
      F__law_hits := F__law_hits,
      b__law_hits := b__law_hits,
      m_law := W.mg_of X G e_law,
      F_law := F_law,
      b_law := b_law }
  exact ⟨W.fnOf "law" "law" (defArgs s_law) (defBody s_law) (defScope s_law) .none kV_law dc_law pm_law an_law cd_law ct_law, fun s v => .of_eq rfl, fun base _ _ => ok_law T⟩
theorem walk {l : W.OpenLaw} {q : Program} {loose : List Str} {XP : (Str → Option Value) → Heap → Prop} {YP : World → Heap → Prop} {d : DefRec} {K : Params → W.Frag} (hn : l.most = some 63) (hdf : d.params.defaults = [])
    (hY : ∀ (w : World) (h : Heap), YP w h → (K w.params).In h)
    (F : ∀ (w : World) (mg : Str → Option Value) (fa : Addr) (h : Heap), (K w.params).In h → h.Ns mainGlobals mg → mg d.name = some (.ref fa) →
      ∃ fd : FuncData, (∀ (s : Shared) (u : Value), BindsTo s fd ⟨[u], []⟩ [("script", u)]) ∧ ∀ base : Heap, (K w.params).In base → base.Ns mainGlobals mg → FnOk l.prog w (K w.params) mg base CX0 5 fa fd ["script"] (spOf (K w.params) 1 F_law))
    (hm : ∀ ns : List Int, ns.length ≤ 63 → (∀ i ∈ ns, Builtin.Int.intBits i ≤ 2 ^ 20) → ∃ h', F_law [.scr (ns.map D.int)] [] = .ok (.bl true) h') :
    W.WalkO q loose XP YP l.row.toRowW d [] (fun f vs => PySem.call f vs) :=
  L2.walk_ofB (n := 63) (k := 5) (x := "script") (CX := fun _ => CX0) (sp := fun w => spOf (K w.params) 1 F_law) hn (by decide) hdf ⟨rfl, by decide, by decide⟩ hY F (fun w H a ns hl hw hS => sp_of hS (hm ns hl hw)) fun _ _ _ _ _ z => z
end K52
end
open PySem PySem.W PyProof.Rows
set_option maxRecDepth 100000 in
set_option maxHeartbeats 0 in
theorem PySem.Challenge.cw_cheapcovers_k52_fewest_hits_holds : PySem.Challenge.rw_cheapcovers_k52_fewest_hits.Holds := by
  w_on; o_law; k_head; (case hw => w_witness2)
  k_fill
  refine K52.walk (l := PySem.Challenge.rw_cheapcovers_k52_fewest_hits) rfl rfl (fun w h Y => W.kIn_of Y) ?F K52.law_true
  case F =>
    intro w mg fa h KX G hmg
    refine' K52.all_mk KX G hmg ?e__law_take ?l__law_take ?c__law_take ?k__law_take ?e__law_stock ?l__law_stock ?c__law_stock ?k__law_stock ?e__law_cell ?l__law_cell ?c__law_cell ?k__law_cell ?e__law_mix ?l__law_mix ?c__law_mix ?k__law_mix ?e__law_box ?l__law_box ?c__law_box ?k__law_box ?e_tuples_of_things ?l_tuples_of_things ?c_tuples_of_things ?k_tuples_of_things ?e_is_offer_hit ?l_is_offer_hit ?c_is_offer_hit ?k_is_offer_hit ?e_is_whole ?l_is_whole ?c_is_whole ?k_is_whole ?e_is_rising ?l_is_rising ?c_is_rising ?k_is_rising ?e_is_hit ?l_is_hit ?c_is_hit ?k_is_hit ?e_fewest_hit ?l_fewest_hit ?c_fewest_hit ?k_fewest_hit ?e__law_whole ?l__law_whole ?c__law_whole ?k__law_whole ?e__law_is_hit ?l__law_is_hit ?c__law_is_hit ?k__law_is_hit ?e__law_hits ?l__law_hits ?c__law_hits ?k__law_hits ?e_law ?l_law ?c_law ?k_law ?z_all ?z_any ?z_bool ?z_divmod ?z_int ?z_isinstance ?z_len ?z_list ?z_max ?z_min ?z_range ?z_set ?z_sorted ?z_tuple
    (case e__law_take => k_is)
    (case l__law_take => k_is)
    (case c__law_take => k_is)
    (case k__law_take => k_is)
    (case e__law_stock => k_is)
    (case l__law_stock => k_is)
    (case c__law_stock => k_is)
    (case k__law_stock => k_is)
    (case e__law_cell => k_is)
    (case l__law_cell => k_is)
    (case c__law_cell => k_is)
    (case k__law_cell => k_is)
    (case e__law_mix => k_is)
    (case l__law_mix => k_is)
    (case c__law_mix => k_is)
    (case k__law_mix => k_is)
    (case e__law_box => k_is)
    (case l__law_box => k_is)
    (case c__law_box => k_is)
    (case k__law_box => k_is)
    (case e_tuples_of_things => k_is)
    (case l_tuples_of_things => k_is)
    (case c_tuples_of_things => k_is)
    (case k_tuples_of_things => k_is)
    (case e_is_offer_hit => k_is)
    (case l_is_offer_hit => k_is)
    (case c_is_offer_hit => k_is)
    (case k_is_offer_hit => k_is)
    (case e_is_whole => k_is)
    (case l_is_whole => k_is)
    (case c_is_whole => k_is)
    (case k_is_whole => k_is)
    (case e_is_rising => k_is)
    (case l_is_rising => k_is)
    (case c_is_rising => k_is)
    (case k_is_rising => k_is)
    (case e_is_hit => k_is)
    (case l_is_hit => k_is)
    (case c_is_hit => k_is)
    (case k_is_hit => k_is)
    (case e_fewest_hit => k_is)
    (case l_fewest_hit => k_is)
    (case c_fewest_hit => k_is)
    (case k_fewest_hit => k_is)
    (case e__law_whole => k_is)
    (case l__law_whole => k_is)
    (case c__law_whole => k_is)
    (case k__law_whole => k_is)
    (case e__law_is_hit => k_is)
    (case l__law_is_hit => k_is)
    (case c__law_is_hit => k_is)
    (case k__law_is_hit => k_is)
    (case e__law_hits => k_is)
    (case l__law_hits => k_is)
    (case c__law_hits => k_is)
    (case k__law_hits => k_is)
    (case e_law => k_is)
    (case l_law => k_is)
    (case c_law => k_is)
    (case k_law => k_is)
    (case z_all => k_is)
    (case z_any => k_is)
    (case z_bool => k_is)
    (case z_divmod => k_is)
    (case z_int => k_is)
    (case z_isinstance => k_is)
    (case z_len => k_is)
    (case z_list => k_is)
    (case z_max => k_is)
    (case z_min => k_is)
    (case z_range => k_is)
    (case z_set => k_is)
    (case z_sorted => k_is)
    (case z_tuple => k_is)
