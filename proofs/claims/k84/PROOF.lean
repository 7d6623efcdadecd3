import PyProof.Rows.All
import Wide.All
import OpenK.AllK
import Wide.FinOn
import PyProof.EqAt
import PyProof.EqKinds
import PyProof.TupleCall
import PyProof.StationsW
import PyProof.ExcArgs
import PyProof.Seq
import PyProof.TupleIter
import PyProof.RangeIter
import PyProof.WalkInts
import PyProof.SumWalkG
import PyProof.ListRange
import PyProof.Rows.Range3
import OpenK.KDescr
import PyProof.ExcAttrAll.ValueError
import PyProof.Draws
import PyProof.EnumFor
import PyProof.EnumMake
import PyProof.LayNew
import PyProof.Rows.EnumRows
import PyProof.MinMaxWalk
import Lean
import PySem.Challenge.RW_cheapcovers_k84_whole_prices_that_may_ri
set_option Elab.async false
set_option linter.all false
set_option maxRecDepth 100000
set_option compiler.extract_closed false
set_option bootstrap.genMatcherCode false
set_option genSizeOfSpec false
noncomputable def PySem.W.Fast.tw13128432666548680430 : Nat := 0
noncomputable def PySem.W.Fast.tw564319663611748381 : Nat := 0
noncomputable def PySem.W.Fast.tw14579586024438987199 : Nat := 0
noncomputable def PySem.W.Fast.tw9050873600974634705 : Nat := 0
section
set_option maxHeartbeats 4000000
namespace L3
open PySem
noncomputable def ExcO (h : Heap) (e : Addr) (cls head : Value) : Prop := ∃ ob vs, h.get? e = some ob ∧ ob.cls = cls ∧ ob.dict = none ∧ ob.data = .fields vs ∧ vs[2]? = some .none ∧ vs[1]? = some head
noncomputable def TbAt (h B : Heap) (e : Addr) (head fl : Value) : Prop := ∃ T ot ts, head = .ref T ∧ B.get? T = none ∧ T ≠ e ∧ h.get? T = some ot ∧ ot.data = .fields ts ∧ ts[3]? = some fl
structure Fly (B : Heap) (l : List Env) (e : Addr) (cls fl : Value) (h : Heap) : Prop where
  stays : B.StaysIn h
  new : B.get? e = none
  frames : h.FunFrames B l
  exc : ∃ head, ExcO h e cls head ∧ TbAt h B e head fl
theorem dict_map (o : Obj) (f) : (o.mapFields f).dict = o.dict := by
  obtain ⟨c, d, t, z⟩ := o
  cases t <;> rfl
section
variable {M : Model} {A : Around} {E : Value → Shared → Prop} {s : Shared} {B : Heap} {env : Env} {outer l : List Env} {L e : Addr} {cls head fl : Value}
theorem entry_wp {hd0 : Value} {hadNext : Bool} {Q : Unit → Shared → Prop} (hfr : A.frames = some (env :: outer)) (hl : s.heap.FunFrames B (env :: outer)) (hf : env.frame = some L) (hx : ExcO s.heap e cls head)
    (hkb : B.StaysIn s.heap) (hen : B.get? e = none) (q : ∀ h', Fly B (env :: outer) e cls (rawInt L) h' → s.heap.UpToSlots h' → Q () { s with heap := h' }) :
    wpAny M A (do let a ← frameOf env; let pl ← entryPlaceOf L hadNext; let b ← EntryCells.newEntry hd0 a .none (rawInt L) .none pl; setField (.ref e) 1 b) Q E s := by
  obtain ⟨ob, vs, h1, h2, h3, h4, h5, h6⟩ := hx
  have hsz : 1 < vs.size := (Array.getElem?_eq_some_iff.mp h6).1
  have nfr : e ∉ (env :: outer).filterMap (·.frame) := fun z => by
    obtain ⟨_, o, ho, hn⟩ := hl.mem z
    rw [h1] at ho
    cases ho
    exact hn vs h4
  refine wpAny_bind (wpAny_frameOf_fun hfr hl hf fun g sg => ?_)
  refine wpAny_bind (wpAny_entryPlaceOf fun pl hpl => ?_)
  unfold EntryCells.newEntry newFields
  refine wpAny_bind (wpAny_newObj_type ?_ (hpl.sizeOk5 _ _ _ _ _))
  have e1 : g.get? e = some ob := (sg.2.1 e nfr).trans h1
  have kb : B.StaysIn g := fun b o z => (sg.2.1 b fun w => by rw [(hl.mem w).1] at z; cases z).trans (hkb b o z)
  generalize hob : ({ cls := .type "traceback", dict := none, data := .fields ([hd0, .ref L, .none, rawInt L, .none] ++ (if pl.isEmpty then List.replicate 6 Value.none else pl)).toArray } : Obj) = tb
  have e2 : (g.push tb).get? e = some ob := Heap.get?_push_of_some _ e1
  have ne : g.objs.size ≠ e := Nat.ne_of_gt (Heap.lt_size e1)
  have d3 := Obj.data_mapFields h4 (·.setIfInBounds 1 (Value.ref g.objs.size))
  have e3 := Heap.get?_update_self (Obj.mapFields (·.setIfInBounds 1 (Value.ref g.objs.size))) e2 (Obj.isFreed_of_fields d3)
  have ft : tb.isFreed = false := by rw [← hob]; rfl
  have t3 : ((g.push tb).update e (Obj.mapFields (·.setIfInBounds 1 (Value.ref g.objs.size)))).get? g.objs.size = some tb := (Heap.get?_update_other _ _ (Ne.symm ne)).trans (Heap.get?_push_size g ft)
  have stay : ∀ b o, b ≠ e → g.get? b = some o → ((g.push tb).update e (Obj.mapFields (·.setIfInBounds 1 (Value.ref g.objs.size)))).get? b = some o := fun b o hb z => by
    rw [Heap.get?_update_other _ _ (Ne.symm hb)]
    exact Heap.get?_push_of_some _ z
  have nrec : ∀ b o, s.heap.get? b = some o → (∀ ws, o.data ≠ .fields ws) → b ≠ e := fun b o z hn w => by
    rw [w, h1] at z
    cases z
    exact hn vs h4
  have ht : ∃ ts, tb.data = .fields ts ∧ ts[3]? = some (rawInt L) := ⟨_, by rw [← hob], by rcases hpl with rfl | ⟨_, _, _, _, _, _, _, rfl⟩ <;> simp⟩
  obtain ⟨ts, ht1, ht2⟩ := ht
  refine wpAny_setField e2 h4 hsz (q _ ⟨fun b o z => stay b o (fun w => by rw [w, hen] at z; cases z) (kb b o z), hen, hl.of_keeps fun b o z hn => ?_, .ref g.objs.size, ⟨_, _, e3, (Obj.cls_mapFields _ _).trans h2, (dict_map _ _).trans h3, d3, ?_, ?_⟩, g.objs.size, tb, ts, rfl, kb.fresh, ne, t3, ht1, ht2⟩ fun b o z hn => ?_)
  · obtain ⟨sl, hs⟩ := sg.2.2 b o z
    exact ⟨_, stay b _ (nrec b o z hn) hs, rfl⟩
  · rw [Array.getElem?_setIfInBounds_ne (by decide)]
    exact h5
  · simp [hsz]
  · obtain ⟨sl, hs⟩ := sg.2.2 b o z
    exact ⟨sl, stay b _ (nrec b o z hn) hs⟩
theorem note_first {Q : Unit → Shared → Prop} (hfr : A.frames = some (env :: outer)) (hl : s.heap.FunFrames B (env :: outer)) (hf : env.frame = some L) (hx : ExcO s.heap e cls .none)
    (hkb : B.StaysIn s.heap) (hen : B.get? e = none) (q : ∀ h', Fly B (env :: outer) e cls (rawInt L) h' → s.heap.UpToSlots h' → Q () { s with heap := h' }) : wpAny M A (noteFrame (.ref e) env) Q E s := by
  obtain ⟨ob, vs, h1, h2, h3, h4, h5, h6⟩ := id hx
  unfold noteFrame
  simp only [hf]
  refine wpAny_bind (wpAny_field h1 h4 h6 ?_)
  rw [if_neg (by decide)]
  exact entry_wp hfr hl hf hx hkb hen q
theorem flight_off {Q : Unit → Shared → Prop} (y : Fly B l e cls fl s.heap) (q : ∀ h', Fly B l e cls .none h' → (∀ b o, s.heap.get? b = some o → (∀ ws, o.data ≠ .fields ws) → h'.get? b = some o) → Q () { s with heap := h' }) :
    wpAny M A (setFlight (.ref e) none) Q E s := by
  obtain ⟨hkb, hen, hl, hd, ⟨ob, vs, h1, h2, h3, h4, h5, h6⟩, T, ot, ts, rfl, t1, t2, t3, t4, t5⟩ := y
  have hsz := (Array.getElem?_eq_some_iff.mp t5).1
  have oth : ∀ b, b ≠ T → (s.heap.update T (Obj.mapFields (·.setIfInBounds 3 ((none : Option Addr).elim Value.none fun f => rawInt f)))).get? b = s.heap.get? b := fun b hb => Heap.get?_update_other _ _ (Ne.symm hb)
  have nrec : ∀ b o, s.heap.get? b = some o → (∀ ws, o.data ≠ .fields ws) → b ≠ T := fun b o z hn w => by
    rw [w, t3] at z
    cases z
    exact hn ts t4
  unfold setFlight
  refine wpAny_bind (wpAny_field h1 h4 h6 ?_)
  rw [if_pos (show (Value.ref T != Value.none) = true by simp)]
  refine wpAny_setField t3 t4 hsz (q _ ⟨fun b o z => (oth b fun w => by rw [w, t1] at z; cases z).trans (hkb b o z), hen, hl.of_keeps fun b o z hn => ⟨o, (oth b (nrec b o z hn)).trans z, rfl⟩,
    .ref T, ⟨ob, vs, (oth e (Ne.symm t2)).trans h1, h2, h3, h4, h5, h6⟩, T, _, _, rfl, t1, t2, Heap.get?_update_self _ t3 (Obj.isFreed_of_fields (Obj.data_mapFields t4 _)), Obj.data_mapFields t4 _, by simp [hsz]⟩ fun b o z hn => (oth b (nrec b o z hn)).trans z)
theorem Fly.tail {h : Heap} (y : Fly B (env :: outer) e cls fl h) : Fly B outer e cls fl h := ⟨y.stays, y.new, y.frames.2.2, y.exc⟩
theorem leave_first {Q : Unit → Shared → Prop} (hfr : A.frames = some (env :: outer)) (hl : s.heap.FunFrames B (env :: outer)) (hf : env.frame = some L) (hx : ExcO s.heap e cls .none)
    (hkb : B.StaysIn s.heap) (hen : B.get? e = none) (q : ∀ h', Fly B outer e cls .none h' → s.heap.UpToSlots h' → Q () { s with heap := h' }) : wpAny M A (leaving env (.ref e)) Q E s := by
  unfold leaving
  refine wpAny_bind (note_first hfr hl hf hx hkb hen fun h1 y1 u1 => ?_)
  refine flight_off (s := { s with heap := h1 }) y1 fun h2 y2 k2 => q h2 y2.tail (u1.trans fun b o z hn => ⟨o.slots, k2 b o z hn⟩)
theorem exc_made {h h' : Heap} {args : List Value} (x : Heap.MadeExcOf h h' e cls args) : ExcO h' e cls .none := by
  obtain ⟨t, h1, _, _⟩ := x.there
  exact ⟨_, _, h1, rfl, rfl, rfl, rfl, rfl⟩
end
end L3
end
section
set_option maxHeartbeats 4000000
namespace L3
open PySem
theorem unchain_entry : entryFor table "proto.unchain" = some Builtin.«proto.unchain» := entryFor_of_tree (by kernel_rfl)
section
variable {prog : Program} {w : World} {A : Around} {E : Value → Shared → Prop} {s : Shared}
theorem raise_hand {α : Type} {a h : Addr} {o : Obj} {us : Array Value} {cls head : Value} {Q : α → Shared → Prop} (hh : A.handled = some (.ref h)) (hx : ExcO s.heap h cls head) (ho : s.heap.get? a = some o) (hd : o.data = .fields us) (hz : 2 < us.size) (hne : h ≠ a)
    (q : E (.ref a) { s with heap := s.heap.update a (Obj.mapFields (·.setIfInBounds 2 (.ref h))) }) : wpAny (model prog w) A (raiseNew (.ref a) : Sem α) Q E s := by
  obtain ⟨ob, vs, h1, h2, h3, h4, h5, h6⟩ := hx
  unfold raiseNew
  refine wpAny_bind (wpAny_handled ?_)
  rw [hh]
  dsimp only
  rw [if_pos (show (Value.ref h != Value.ref a) = true by simp [hne])]
  refine wpAny_bind (wpAny_holding (wpAny_runValue (codeAny_builtin unchain_entry ?_)))
  unfold Builtin.«proto.unchain»
  refine wpAny_bind (wpAny_field h1 h4 h5 ?_)
  rw [if_pos (show (Value.none == Value.none) = true from rfl)]
  refine wpAny_bind (wpAny_pure (wpAny_pure ?_))
  refine wpAny_bind ?_
  obtain ⟨c, d, dt, sl⟩ := o
  dsimp only at hd
  subst hd
  unfold updateField
  refine wpAny_bind (wpAny_load ho ?_)
  dsimp only
  rw [if_pos hz]
  exact wpAny_update ho (wpAny_throw q)
noncomputable def Hand (A : Around) (h : Heap) : Prop := A.handled = none ∨ ∃ a cls head, A.handled = some (.ref a) ∧ ExcO h a cls head
theorem list_end {it l : Addr} {i : Nat} {items : Array Value} {Q : Option Value → Shared → Prop} (hh : Hand A s.heap) (hit : s.heap.IsListIter it l i) (hl : s.heap.IsList l items) (hx : items[i]? = none)
    (k : ∀ h', Heap.ExtBut it s.heap h' → Q none { s with heap := h' }) : wpAny (model prog w) A (pyNext (.ref it)) Q E s := by
  rcases hh with hh | ⟨ha, cls, head, hh, hX⟩
  · exact wpAny_pyNext_list_end hh hit hl hx k
  obtain ⟨o, h1, h2, h3⟩ := id hit
  obtain ⟨ol, l1, _, nl, l2⟩ := hl
  unfold pyNext
  refine wpAny_bind (wpAny_attempt (wpAny_callSpecial?_slot (name := Str.ofString "__next__") hit.typeIs slot_listiter_next (wpAny_call_entry slot_listiter_next hit.typeIs entry_listiter_next ?_ (args_listiter_next _))))
  show wpAny _ _ (field (.ref it) 0 >>= _) _ _ s
  refine wpAny_bind (wpAny_field h1 h3 (x := .ref l) rfl ?_)
  show wpAny _ _ (if (Value.ref l == Value.none) = true then _ else _) _ _ s
  rw [if_neg (show ¬ (Value.ref l == Value.none) = true from nofun)]
  show wpAny _ _ (field (.ref it) 1 >>= _) _ _ s
  refine wpAny_bind (wpAny_field h1 h3 (x := .int i 0) rfl ?_)
  show wpAny _ _ (seqItems? (.ref l) >>= _) _ _ s
  refine wpAny_bind (wpAny_seqItems l1 l2 ?_)
  simp only [Int.toNat_natCast, hx]
  refine wpAny_bind (wpAny_rule (wpAny_bind (wpAny_setField h1 h3 (by simp) ?_)))
  have nit : ha ≠ it := fun z => by
    subst z
    obtain ⟨ob, vs, x1, _, _, x4, x5, x6⟩ := hX
    rw [h1] at x1
    cases x1
    rw [h3] at x4
    cases x4
    simp at x5
  have hX1 : ExcO (s.heap.update it (Obj.mapFields (·.setIfInBounds 0 Value.none))) ha cls head := by
    obtain ⟨ob, vs, x1, x2⟩ := hX
    exact ⟨ob, vs, (Heap.get?_update_other _ _ (Ne.symm nit)).trans x1, x2⟩
  show wpAny _ _ (newExc (.type "StopIteration") [] >>= _) _ _ _
  refine wpAny_bind ?_
  simp only [newExc, newTuple]
  refine wpAny_bind (wpAny_newObj_type ?_ (by size_fits))
  refine wpAny_bind (m := firstArgMember _ _) (wpAny_of_eq (a := Value.none) (by first | rfl | (simp only [firstArgMember]; rfl)) ?_)
  refine wpAny_newObj_type ?_ (by size_fits)
  obtain ⟨ob, vs, x1, x2⟩ := hX1
  have y1 := Heap.get?_push_of_some { cls := .type "tuple", dict := none, data := .seq [].toArray } x1
  refine raise_hand (h := ha) (cls := cls) (head := head) hh ⟨ob, vs, Heap.get?_push_of_some _ y1, x2⟩ (Heap.get?_push_size _ rfl) rfl (by simp; omega) (Nat.ne_of_lt (Heap.lt_size y1)) ?_
  refine wpAny_bind (wpAny_isInstance (T := "StopIteration") (b := true) ⟨_, Heap.get?_update_self _ (Heap.get?_push_size _ rfl) rfl, rfl⟩ isSubtype_stop ?_)
  refine wpAny_pure (k _ fun b o hb z => ?_)
  have z1 : (s.heap.update it (Obj.mapFields (·.setIfInBounds 0 Value.none))).get? b = some o := (Heap.get?_update_other _ _ (Ne.symm hb)).trans z
  have z2 := Heap.get?_push_of_some { cls := .type "tuple", dict := none, data := .seq [].toArray } z1
  rw [Heap.get?_update_other _ _ (Nat.ne_of_gt (Heap.lt_size z2))]
  exact Heap.get?_push_of_some _ z2
theorem tuple_end {it l : Addr} {i : Nat} {items : Array Value} {Q : Option Value → Shared → Prop} (hh : Hand A s.heap) (hit : s.heap.IsTupleIter it l i) (hl : s.heap.IsTuple l items) (hx : items[i]? = none)
    (k : ∀ h', Heap.ExtBut it s.heap h' → Q none { s with heap := h' }) : wpAny (model prog w) A (pyNext (.ref it)) Q E s := by
  rcases hh with hh | ⟨ha, cls, head, hh, hX⟩
  · exact wpAny_pyNext_tuple_end hh hit hl hx k
  obtain ⟨o, h1, h2, h3⟩ := id hit
  obtain ⟨ol, l1, _, nl, l2⟩ := hl
  unfold pyNext
  refine wpAny_bind (wpAny_attempt (wpAny_callSpecial?_slot (name := Str.ofString "__next__") hit.typeIs F.slot_tuple_iterator_next (wpAny_call_entry F.slot_tuple_iterator_next hit.typeIs F.entry_tuple_iterator_next ?_ (F.args_tuple_iterator_next_1 _))))
  show wpAny _ _ (field (.ref it) 0 >>= _) _ _ s
  refine wpAny_bind (wpAny_field h1 h3 (x := .ref l) rfl ?_)
  show wpAny _ _ (if (Value.ref l == Value.none) = true then _ else _) _ _ s
  rw [if_neg (show ¬ (Value.ref l == Value.none) = true from nofun)]
  show wpAny _ _ (field (.ref it) 1 >>= _) _ _ s
  refine wpAny_bind (wpAny_field h1 h3 (x := .int i 0) rfl ?_)
  show wpAny _ _ (seqItems? (.ref l) >>= _) _ _ s
  refine wpAny_bind (wpAny_seqItems l1 l2 ?_)
  simp only [Int.toNat_natCast, hx]
  refine wpAny_bind (wpAny_rule (wpAny_bind (wpAny_setField h1 h3 (by simp) ?_)))
  have nit : ha ≠ it := fun z => by
    subst z
    obtain ⟨ob, vs, x1, _, _, x4, x5, x6⟩ := hX
    rw [h1] at x1
    cases x1
    rw [h3] at x4
    cases x4
    simp at x5
  have hX1 : ExcO (s.heap.update it (Obj.mapFields (·.setIfInBounds 0 Value.none))) ha cls head := by
    obtain ⟨ob, vs, x1, x2⟩ := hX
    exact ⟨ob, vs, (Heap.get?_update_other _ _ (Ne.symm nit)).trans x1, x2⟩
  show wpAny _ _ (newExc (.type "StopIteration") [] >>= _) _ _ _
  refine wpAny_bind ?_
  simp only [newExc, newTuple]
  refine wpAny_bind (wpAny_newObj_type ?_ (by size_fits))
  refine wpAny_bind (m := firstArgMember _ _) (wpAny_of_eq (a := Value.none) (by first | rfl | (simp only [firstArgMember]; rfl)) ?_)
  refine wpAny_newObj_type ?_ (by size_fits)
  obtain ⟨ob, vs, x1, x2⟩ := hX1
  have y1 := Heap.get?_push_of_some { cls := .type "tuple", dict := none, data := .seq [].toArray } x1
  refine raise_hand (h := ha) (cls := cls) (head := head) hh ⟨ob, vs, Heap.get?_push_of_some _ y1, x2⟩ (Heap.get?_push_size _ rfl) rfl (by simp; omega) (Nat.ne_of_lt (Heap.lt_size y1)) ?_
  refine wpAny_bind (wpAny_isInstance (T := "StopIteration") (b := true) ⟨_, Heap.get?_update_self _ (Heap.get?_push_size _ rfl) rfl, rfl⟩ isSubtype_stop ?_)
  refine wpAny_pure (k _ fun b o hb z => ?_)
  have z1 : (s.heap.update it (Obj.mapFields (·.setIfInBounds 0 Value.none))).get? b = some o := (Heap.get?_update_other _ _ (Ne.symm hb)).trans z
  have z2 := Heap.get?_push_of_some { cls := .type "tuple", dict := none, data := .seq [].toArray } z1
  rw [Heap.get?_update_other _ _ (Nat.ne_of_gt (Heap.lt_size z2))]
  exact Heap.get?_push_of_some _ z2
theorem range_end {it : Addr} {x left step : Int} {Q : Option Value → Shared → Prop} (hh : Hand A s.heap) (hit : IsRangeIter s.heap it x left step) (hleft : left ≤ 0)
    (k : ∀ h', Heap.ExtBut it s.heap h' → Q none { s with heap := h' }) : wpAny (model prog w) A (pyNext (.ref it)) Q E s := by
  rcases hh with hh | ⟨ha, cls, head, hh, hX⟩
  · exact wpAny_pyNext_range_end hh hit hleft k
  have hT : s.TypeIs (.ref it) "range_iterator" := ⟨_, hit, rfl⟩
  unfold pyNext
  refine wpAny_bind (wpAny_attempt (wpAny_callSpecial?_slot (name := Str.ofString "__next__") hT F.slot_range_iterator_next (wpAny_call_entry F.slot_range_iterator_next hT F.entry_range_iterator_next ?_ (F.args_range_iterator_next_1 _))))
  show wpAny _ _ (field (.ref it) 0 >>= _) _ _ s
  refine wpAny_bind (wpAny_field hit rfl (x := rawInt x) rfl ?_)
  show wpAny _ _ (field (.ref it) 1 >>= _) _ _ s
  refine wpAny_bind (wpAny_field hit rfl (x := rawInt left) rfl ?_)
  show wpAny _ _ (field (.ref it) 2 >>= _) _ _ s
  refine wpAny_bind (wpAny_field hit rfl (x := rawInt step) rfl ?_)
  show wpAny _ _ (if left ≤ 0 then _ else _) _ _ s
  rw [if_pos hleft]
  refine wpAny_bind (wpAny_rule (wpAny_bind ?_))
  show wpAny _ _ (newExc (.type "StopIteration") [] >>= _) _ _ _
  refine wpAny_bind ?_
  simp only [newExc, newTuple]
  refine wpAny_bind (wpAny_newObj_type ?_ (by size_fits))
  refine wpAny_bind (m := firstArgMember _ _) (wpAny_of_eq (a := Value.none) (by first | rfl | (simp only [firstArgMember]; rfl)) ?_)
  refine wpAny_newObj_type ?_ (by size_fits)
  obtain ⟨ob, vs, x1, x2⟩ := hX
  have y1 := Heap.get?_push_of_some { cls := .type "tuple", dict := none, data := .seq [].toArray } x1
  refine raise_hand (h := ha) (cls := cls) (head := head) hh ⟨ob, vs, Heap.get?_push_of_some _ y1, x2⟩ (Heap.get?_push_size _ rfl) rfl (by simp; omega) (Nat.ne_of_lt (Heap.lt_size y1)) ?_
  refine wpAny_bind (wpAny_isInstance (T := "StopIteration") (b := true) ⟨_, Heap.get?_update_self _ (Heap.get?_push_size _ rfl) rfl, rfl⟩ isSubtype_stop ?_)
  refine wpAny_pure (k _ fun b o hb z => ?_)
  have z2 := Heap.get?_push_of_some { cls := .type "tuple", dict := none, data := .seq [].toArray } z
  rw [Heap.get?_update_other _ _ (Nat.ne_of_gt (Heap.lt_size z2))]
  exact Heap.get?_push_of_some _ z2
theorem ExcO.keep {h h' : Heap} {a : Addr} {cls head : Value} (x : ExcO h a cls head) (k : ∀ o, h.get? a = some o → h'.get? a = some o) : ExcO h' a cls head := by
  obtain ⟨ob, vs, x1, x2⟩ := x
  exact ⟨ob, vs, k _ x1, x2⟩
theorem walks_hand {ha : Addr} {cls head : Value} (hh : A.handled = some (.ref ha)) (I ax : Addr) (hne : ax ≠ I) (hn2 : ha ≠ I) (items : Array Value) :
    Walks prog w A I [I, ax, ha] [I] items.size (fun i v => items[i]? = some v) (fun i h => h.IsListIter I ax i ∧ h.IsList ax items ∧ ExcO h ha cls head) where
  sub := fun b hb => by simp at hb; simp [hb]
  frame := fun _ _ _ st hk => ⟨st.1.at fun o e => hk I (by simp) o e, st.2.1.at fun o e => hk ax (by simp) o e, st.2.2.keep fun o e => hk ha (by simp) o e⟩
  item := fun i s Q E hi st hQ => by
    refine wpAny_pyNext_list_item st.1 st.2.1 (x := items[i]) (by simp [hi]) fun h' hit' hs' => ?_
    exact hQ _ h' s.toks (by simp [hi]) ⟨hit', st.2.1.extBut hs'.extBut hne, st.2.2.keep fun o e => hs'.extBut ha o hn2 e⟩ fun b o hb e => hs'.extBut b o (fun h => hb (by simp [h])) e
  done := fun s Q E st hQ => list_end (.inr ⟨ha, cls, head, hh, st.2.2⟩) st.1 st.2.1 (by simp) fun h' he' => hQ h' s.toks fun b o hb e => he' b o (fun h => hb (by simp [h])) e
  self := fun _ _ _ _ st hQ => wpAny_pyIter_listiter st.1 hQ
end
end L3
end
namespace L2
open PySem PySem.Spec PyProof.Rows
noncomputable abbrev Key := Sum Int Str
noncomputable def keyIs : Key → Value → Bool
  | .inl k, v => Value.isInt k v
  | .inr x, v => Value.isStrOf x v
noncomputable def keyH (w : World) : Key → Int
  | .inl k => hashInt k
  | .inr x => hashStr w x
theorem keyIs_shape : ∀ {k : Key} {v : Value}, keyIs k v = true → (∃ i t, k = Sum.inl i ∧ v = Value.int i t) ∨ (∃ x t, k = Sum.inr x ∧ v = Value.str x t)
  | .inl i, v, h => by
    obtain ⟨t, e⟩ := Value.isInt_shape (k := i) (v := v) h
    exact .inl ⟨i, t, rfl, e⟩
  | .inr x, v, h => by
    obtain ⟨t, e⟩ := Value.isStrOf_shape (x := x) (v := v) h
    exact .inr ⟨x, t, rfl, e⟩
theorem key_ll (a b : Int) : decide ((Sum.inl a : Key) = Sum.inl b) = (a == b) := by
  by_cases e : a = b
  · subst e; simp
  · have h : ¬ (Sum.inl a : Key) = Sum.inl b := fun q => e (Sum.inl.inj q)
    rw [decide_eq_false h]
    exact (beq_eq_false_iff_ne.mpr e).symm
theorem key_rr (a b : Str) : decide ((Sum.inr a : Key) = Sum.inr b) = decide (a = b) := by
  by_cases e : a = b
  · subst e; simp
  · have h : ¬ (Sum.inr a : Key) = Sum.inr b := fun q => e (Sum.inr.inj q)
    rw [decide_eq_false h, decide_eq_false e]
theorem key_lr (a : Int) (b : Str) : decide ((Sum.inl a : Key) = Sum.inr b) = false := decide_eq_false (fun q => nomatch q)
theorem key_rl (a : Str) (b : Int) : decide ((Sum.inr a : Key) = Sum.inl b) = false := decide_eq_false (fun q => nomatch q)
noncomputable def mixKind (prog : Program) (w : World) : PySem.KeyKind prog w Key where
  is := keyIs
  hash := keyH w
  inj := fun v a b ha hb => by
    rcases keyIs_shape ha with ⟨i, t, rfl, rfl⟩ | ⟨x, t, rfl, rfl⟩
    · rcases keyIs_shape hb with ⟨j, u, rfl, e⟩ | ⟨y, u, rfl, e⟩
      · injection e with e1 _; rw [e1]
      · exact nomatch e
    · rcases keyIs_shape hb with ⟨j, u, rfl, e⟩ | ⟨y, u, rfl, e⟩
      · exact nomatch e
      · injection e with e1 _; rw [e1]
  byValue := fun k v h => by
    rcases keyIs_shape h with ⟨i, t, rfl, rfl⟩ | ⟨x, t, rfl, rfl⟩ <;> rfl
  pyHash := fun hv h => by
    rcases keyIs_shape hv with ⟨i, t, rfl, rfl⟩ | ⟨x, t, rfl, rfl⟩
    · exact wpAny_pyHash_int h
    · exact wpAny_pyHash_str h
  eqBool := fun hu hv h => by
    rcases keyIs_shape hu with ⟨i, t, rfl, rfl⟩ | ⟨x, t, rfl, rfl⟩
    · rcases keyIs_shape hv with ⟨j, u, rfl, rfl⟩ | ⟨y, u, rfl, rfl⟩
      · rw [key_ll] at h; exact wpAny_eqBool_int h
      · rw [key_lr] at h; exact SeqAt.EqAt.int_str i t y u _ _ _ _ h
    · rcases keyIs_shape hv with ⟨j, u, rfl, rfl⟩ | ⟨y, u, rfl, rfl⟩
      · rw [key_rl] at h; exact SeqAt.EqAt.str_int x t j u _ _ _ _ h
      · rw [key_rr] at h; exact wpAny_eqBool_str h
  «strs» := fun k x t v h => by
    rcases keyIs_shape h with ⟨i, u, rfl, e⟩ | ⟨y, u, rfl, e⟩
    · exact nomatch e
    · injection e with e1 _
      subst e1
      cases v <;> rfl
end L2
namespace L2
open PySem PySem.Spec PyProof.Rows
inductive V where
  | non | bl (b : Bool) | int (i : Int) | str (x : Str) | byt (b : Array UInt8) | flt (b : UInt64) | ref (a : Addr) | ty (n : String)
  deriving DecidableEq
noncomputable def RelV : V → Value → Prop
  | .non, u => u = Value.none
  | .bl b, u => u = Value.bool b
  | .int i, u => ∃ t, u = Value.int i t
  | .str x, u => ∃ t, u = Value.str x t
  | .byt b, u => ∃ t, u = Value.bytes b t
  | .flt b, u => ∃ t, u = Value.float b t
  | .ref a, u => u = Value.ref a
  | .ty n, u => u = Value.type n
noncomputable abbrev Vals : List V → List Value → Prop := Paired RelV
theorem Vals.length {xs : List V} {us : List Value} (r : Vals xs us) : xs.length = us.length := Paired.length r
theorem Vals.get : ∀ {xs : List V} {us : List Value} {i : Nat} {x : V}, Vals xs us → xs[i]? = some x → ∃ u, us[i]? = some u ∧ RelV x u
  | _, _, _, _, .nil, e => by simp at e
  | _, _, 0, _, .cons r _, e => by simp at e; subst e; exact ⟨_, rfl, r⟩
  | _, _, i + 1, x, .cons _ t, e => by
    obtain ⟨u, h1, h2⟩ := Vals.get (i := i) (x := x) t (by simpa using e)
    exact ⟨u, by simpa using h1, h2⟩
theorem Vals.set {x : V} {u : Value} (r : RelV x u) : ∀ {xs : List V} {us : List Value} (i : Nat), Vals xs us → Vals (xs.set i x) (us.set i u)
  | _, _, _, .nil => .nil
  | _, _, 0, .cons _ t => .cons r t
  | _, _, i + 1, .cons q t => .cons q (Vals.set r i t)
theorem Vals.append : ∀ {xs ys : List V} {us ws : List Value}, Vals xs us → Vals ys ws → Vals (xs ++ ys) (us ++ ws)
  | _, _, _, _, .nil, s => s
  | _, _, _, _, .cons r t, s => .cons r (Vals.append t s)
theorem Vals.take : ∀ {xs : List V} {us : List Value} (n : Nat), Vals xs us → Vals (xs.take n) (us.take n)
  | _, _, 0, _ => .nil
  | _, _, _ + 1, .nil => .nil
  | _, _, n + 1, .cons r t => .cons r (Vals.take n t)
theorem Vals.drop : ∀ {xs : List V} {us : List Value} (n : Nat), Vals xs us → Vals (xs.drop n) (us.drop n)
  | _, _, 0, r => r
  | _, _, _ + 1, .nil => .nil
  | _, _, n + 1, .cons _ t => Vals.drop n t
noncomputable def RelO : Option V → Option Value → Prop
  | some v, some u => RelV v u
  | none, none => True
  | _, _ => False
noncomputable def KV {κ : Type} : List (κ × V) → List (κ × Value) → Prop := Paired fun (p : κ × V) (q : κ × Value) => p.1 = q.1 ∧ RelV p.2 q.2
noncomputable def kV : Key → V
  | .inl i => .int i
  | .inr x => .str x
inductive HO where
  | lst (xs : List V)
  | tup (xs : List V)
  | dK (kvs : List (Key × V)) | dT (kvs : List (List Key × V))
  | set (S : Int → Bool) (n : Nat)
  | ins (C dx : Addr) (fs : List (Str × V))
  | own (x : Addr)
  | xd (fs : List (Str × V))
  | met (f x : Addr)
  | rng (lo hi : Int)
  | frz (o : Obj) (u : HO)
  | tbl (ps : Array Value)
  | ext (φ : Heap → Prop)
noncomputable abbrev Hp := Addr → Option HO
noncomputable def upd (H : Hp) (a : Addr) (o : HO) : Hp := fun b => if b = a then some o else H b
theorem upd_same {H : Hp} {a : Addr} {o : HO} : upd H a o a = some o := by unfold upd; rw [if_pos rfl]
theorem upd_ne {H : Hp} {a b : Addr} {o : HO} (h : b ≠ a) : upd H a o b = H b := by unfold upd; rw [if_neg h]
theorem ne_of_none {H : Hp} {a b : Addr} {o : HO} (h : H a = some o) (h' : H b = none) : a ≠ b := by
  intro e; subst e; rw [h] at h'; cases h'
section
variable (P : Program) (w : World)
noncomputable def ObjOk (H : Hp) (h : Heap) (a : Addr) : HO → Prop
  | .lst xs => xs.length ≤ sizeLine ∧ ∃ (its : List Value) (n : Nat), Vals xs its ∧ h.get? a = some { cls := .type "list", data := .seq its.toArray n }
  | .tup xs => xs.length ≤ sizeLine ∧ ∃ its : List Value, Vals xs its ∧ IsTup h a its.toArray
  | .dK kvs => kvs.length ≤ sizeLine ∧ (a == sysModules) = false ∧ ∃ vs, KV kvs vs ∧ h.DictOf (mixKind P w) a vs
  | .dT kvs => kvs.length ≤ sizeLine ∧ (a == sysModules) = false ∧ ∃ xs : List (List Key × Addr × Value),
      Paired (fun (p : List Key × V) (q : List Key × Addr × Value) => p.1 = q.1 ∧ H q.2.1 = some (.tup (p.1.map kV)) ∧ RelV p.2 q.2.2) kvs xs ∧
      ∃ o es ep, h.get? a = some o ∧ o.ExactDict ∧ o.data = .dict es ep ∧ es.toList = xs.map (entryOfKey (tupleKind (mixKind P w))) ∧ (xs.map (·.1)).Nodup
  | .set S n => h.SetOf (intKind P w) a S n
  | .ins C dx fs => H dx = some (.own a) ∧ fs.length ≤ 1000 ∧ dx ≠ a ∧ h.get? a = some (W.instObj C dx) ∧
      ∃ mA, h.Ns1 dx mA ∧ (∀ f, RelO (fs.lookup f) (mA f)) ∧ PySem.Within mA (fs.map (·.1))
  | .own _ => ∃ o, h.get? a = some o
  | .xd fs => ∃ mA, h.Ns1 a mA ∧ ∀ f, RelO (fs.lookup f) (mA f)
  | .rng lo hi => ∃ t u v, h.get? a = some { cls := .type "range", data := .fields #[.int lo t, .int hi u, .int 1 v] }
  | .frz o u => h.get? a = some o ∧ ObjOk H h a u
  | .tbl ps => h.get? a = some { cls := .none, data := .fields ps }
  | .met f x => h.get? a = some (W.methodObj (.ref f) (.ref x))
  | .ext φ => φ h ∧ (∃ o, h.get? a = some o) ∧ ∀ h1 h2 : Heap, φ h1 → (∀ o, h1.get? a = some o → h2.get? a = some o) → φ h2
noncomputable def HOk (H : Hp) (h : Heap) : Prop := ∀ a o, H a = some o → ObjOk P w H h a o
end
section
variable {P : Program} {w : World} {H H' : Hp} {h h' : Heap} {a : Addr} {o : HO}
theorem ObjOk.lt (x : ObjOk P w H h a o) : a < h.objs.size := by
  cases o with
  | lst xs => obtain ⟨_, _, _, _, e⟩ := x; exact Heap.lt_size e
  | tup xs => obtain ⟨_, _, _, p⟩ := x; exact p.lt
  | dK kvs => obtain ⟨_, _, _, _, o, _, _, e, _⟩ := x; exact Heap.lt_size e
  | dT kvs => obtain ⟨_, _, _, _, o, _, _, e, _⟩ := x; exact Heap.lt_size e
  | set S n => obtain ⟨o, _, _, _, e, _⟩ := x; exact Heap.lt_size e
  | ins C dx fs => obtain ⟨_, _, _, e, _⟩ := x; exact Heap.lt_size e
  | own y => obtain ⟨_, e⟩ := x; exact Heap.lt_size e
  | xd fs => obtain ⟨_, ⟨_, _, _, e, _⟩, _⟩ := x; exact Heap.lt_size e
  | rng lo hi => obtain ⟨_, _, _, e⟩ := x; exact Heap.lt_size e
  | frz ob u => obtain ⟨e, _⟩ := x; exact Heap.lt_size e
  | tbl ps => exact Heap.lt_size (show h.get? a = some _ from x)
  | met f y => exact Heap.lt_size (show h.get? a = some _ from x)
  | ext φ => obtain ⟨_, ⟨_, e⟩, _⟩ := x; exact Heap.lt_size e
theorem Paired.mapP {α β : Type} {F G : α → β → Prop} : ∀ {l₁ : List α} {l₂ : List β}, Paired F l₁ l₂ → (∀ a b, F a b → G a b) → Paired G l₁ l₂
  | _, _, .nil, _ => .nil
  | _, _, .cons r t, f => .cons (f _ _ r) (Paired.mapP t f)
theorem ObjOk.stay (x : ObjOk P w H h a o) (k : ∀ b u, (b = a ∨ H b = some (.own a)) → h.get? b = some u → h'.get? b = some u)
    (ho : ∀ b, H b = some (.own a) → H' b = some (.own a)) (ht : ∀ b xs, H b = some (.tup xs) → H' b = some (.tup xs)) : ObjOk P w H' h' a o := by
  induction o with
  | lst xs => obtain ⟨z, its, n, r, e⟩ := x; exact ⟨z, its, n, r, k _ _ (.inl rfl) e⟩
  | tup xs => obtain ⟨z, its, r, ob, e, c⟩ := x; exact ⟨z, its, r, ob, k _ _ (.inl rfl) e, c⟩
  | dK kvs => obtain ⟨z, y, vs, r, ob, es, ep, e, c⟩ := x; exact ⟨z, y, vs, r, ob, es, ep, k _ _ (.inl rfl) e, c⟩
  | dT kvs =>
    obtain ⟨z, y, xs, r, ob, es, ep, e, c⟩ := x
    exact ⟨z, y, xs, Paired.mapP r fun p q z => ⟨z.1, ht _ _ z.2.1, z.2.2⟩, ob, es, ep, k _ _ (.inl rfl) e, c⟩
  | set S n => obtain ⟨ob, es, ep, t, e, c⟩ := x; exact ⟨ob, es, ep, t, k _ _ (.inl rfl) e, c⟩
  | ins C dx fs =>
    obtain ⟨d, z, ne, e, mA, ⟨od, es, ep, e2, c⟩, r⟩ := x
    exact ⟨ho _ d, z, ne, k _ _ (.inl rfl) e, mA, ⟨od, es, ep, k _ _ (.inr d) e2, c⟩, r⟩
  | own y => obtain ⟨ob, e⟩ := x; exact ⟨ob, k _ _ (.inl rfl) e⟩
  | xd fs => obtain ⟨mA, ⟨od, es, ep, e, c⟩, r⟩ := x; exact ⟨mA, ⟨od, es, ep, k _ _ (.inl rfl) e, c⟩, r⟩
  | rng lo hi => obtain ⟨t, u, v, e⟩ := x; exact ⟨t, u, v, k _ _ (.inl rfl) e⟩
  | frz ob u ih => obtain ⟨e, q⟩ := x; exact ⟨k _ _ (.inl rfl) e, ih q⟩
  | tbl ps =>
    have e : h.get? a = some { cls := .none, data := .fields ps } := x
    show h'.get? a = some { cls := .none, data := .fields ps }
    exact k a _ (.inl rfl) e
  | met f y =>
    have e : h.get? a = some (W.methodObj (.ref f) (.ref y)) := x
    show h'.get? a = some (W.methodObj (.ref f) (.ref y))
    exact k a _ (.inl rfl) e
  | ext φ => obtain ⟨p, ⟨o, e⟩, st⟩ := x; exact ⟨st _ _ p fun o q => k _ _ (.inl rfl) q, ⟨o, k _ _ (.inl rfl) e⟩, st⟩
theorem HOk.lt (x : HOk P w H h) (e : H a = some o) : a < h.objs.size := (x a o e).lt
theorem HOk.fresh (x : HOk P w H h) (e : h.objs.size ≤ a) : H a = none := by
  cases q : H a with
  | none => rfl
  | some u => exact absurd (Nat.lt_of_lt_of_le (x.lt q) e) (Nat.lt_irrefl _)
theorem HOk.kept (x : HOk P w H h) (k : ∀ b u, h.get? b = some u → h'.get? b = some u) : HOk P w H h' := fun a o e =>
  (x a o e).stay (fun b u _ q => k b u q) (fun _ q => q) fun _ _ q => q
theorem HOk.laid (x : HOk P w H h) (k : ∀ b u, h.get? b = some u → h'.get? b = some u) (hp : h.objs.size ≤ a) (new : ObjOk P w (upd H a o) h' a o) : HOk P w (upd H a o) h' := fun b u e => by
  have hn := x.fresh hp
  by_cases hb : b = a
  · subst hb; rw [upd_same] at e; cases e; exact new
  · rw [upd_ne hb] at e
    exact (x b u e).stay (fun c v _ q => k c v q) (fun c q => by rw [upd_ne (ne_of_none q hn)]; exact q) fun c xs q => by rw [upd_ne (ne_of_none q hn)]; exact q
end
noncomputable def Rd (H : Hp) (a : Addr) (u : HO) : Prop := H a = some u ∨ ∃ o, H a = some (.frz o u)
theorem Rd.of {H : Hp} {a : Addr} {u : HO} (h : H a = some u) : Rd H a u := .inl h
theorem Rd.ok {P : Program} {w : World} {H : Hp} {h : Heap} {a : Addr} {u : HO} (r : Rd H a u) (x : HOk P w H h) : ObjOk P w H h a u := by
  rcases r with r | ⟨o, r⟩
  · exact x a u r
  · obtain ⟨_, q⟩ := x a _ r
    exact q
noncomputable def Mut : Option HO → Prop
  | some (.lst _) => True
  | some (.dK _) => True
  | some (.dT _) => True
  | some (.set _ _) => True
  | some (.ins _ _ _) => True
  | some (.ext _) => True
  | _ => False
section
variable {P : Program} {w : World} {H : Hp} {h h' : Heap} {x e : Addr} {o' : HO}
theorem HOk.write (ok : HOk P w H h) (mu : Mut (H x)) (he : e = x ∨ H e = some (.own x)) (k : ∀ b u, b ≠ e → h.get? b = some u → h'.get? b = some u) (heo : ∃ u, h'.get? e = some u)
    (new : ObjOk P w (upd H x o') h' x o') : HOk P w (upd H x o') h' := fun b u q => by
  have nown : ∀ c y, H c = some (.own y) → c ≠ x := fun c y r z => by subst z; rw [r] at mu; exact mu
  have ntup : ∀ c xs, H c = some (.tup xs) → c ≠ x := fun c xs r z => by subst z; rw [r] at mu; exact mu
  by_cases hb : b = x
  · subst hb; rw [upd_same] at q; cases q; exact new
  · rw [upd_ne hb] at q
    by_cases hbe : b = e
    · have q' : H b = some (.own x) := by
        rcases he with z | z
        · exact absurd (hbe.trans z) hb
        · rw [hbe]; exact z
      rw [q] at q'; cases q'
      obtain ⟨v, hv⟩ := heo
      exact ⟨v, by rw [hbe]; exact hv⟩
    · refine (ok b u q).stay (fun c v hc r => k c v ?_ r) (fun c r => by rw [upd_ne (nown c b r)]; exact r) fun c xs r => by rw [upd_ne (ntup c xs r)]; exact r
      rcases hc with rfl | hc
      · exact hbe
      · rintro rfl
        rcases he with z | z
        · exact nown c b hc z
        · rw [hc] at z; cases z; exact hb rfl
end
structure Un (fs ex : List Addr) (H H' : Hp) (h h' : Heap) : Prop where
  keep : ∀ b o, h.get? b = some o → H b = none → b ∉ fs → b ∉ ex → h'.get? b = some o
  slot : ∀ b o, h.get? b = some o → H b = none → b ∈ fs → b ∉ ex → ∃ sl, h'.get? b = some { o with slots := sl }
  free : ∀ b o, h.get? b = some o → H b = none → b ∉ ex → H' b = none
  there : ∀ b o, h.get? b = some o → b ∉ ex → ∃ o', h'.get? b = some o'
  tups : ∀ b xs, H b = some (.tup xs) → H' b = some (.tup xs)
  frzs : ∀ b o u, H b = some (.frz o u) → H' b = some (.frz o u)
  tbls : ∀ b ps, H b = some (.tbl ps) → ∃ more, H' b = some (.tbl (ps ++ more))
section
variable {fs fs' ex ex' : List Addr} {H H1 H2 : Hp} {h h1 h2 h' : Heap} {a x e : Addr} {o : HO}
theorem Un.any (u : Un fs ex H H1 h h1) {b : Addr} {ob : Obj} (q : h.get? b = some ob) (n : H b = none) (hx : b ∉ ex) : ∃ sl, h1.get? b = some { ob with slots := sl } := by
  by_cases hb : b ∈ fs
  · exact u.slot b ob q n hb hx
  · exact ⟨ob.slots, u.keep b ob q n hb hx⟩
theorem Un.trans (a : Un fs ex H H1 h h1) (b : Un fs ex H1 H2 h1 h2) : Un fs ex H H2 h h2 where
  keep := fun c ob q n hc hx => b.keep c ob (a.keep c ob q n hc hx) (a.free c ob q n hx) hc hx
  slot := fun c ob q n hc hx => by
    obtain ⟨sl, e1⟩ := a.slot c ob q n hc hx
    obtain ⟨sl', e2⟩ := b.slot c _ e1 (a.free c ob q n hx) hc hx
    exact ⟨sl', e2⟩
  free := fun c ob q n hx => by
    obtain ⟨o', e1⟩ := a.there c ob q hx
    exact b.free c o' e1 (a.free c ob q n hx) hx
  there := fun c ob q hx => by
    obtain ⟨o', e1⟩ := a.there c ob q hx
    exact b.there c o' e1 hx
  tups := fun c xs q => b.tups c xs (a.tups c xs q)
  frzs := fun c ob xs q => b.frzs c ob xs (a.frzs c ob xs q)
  tbls := fun c ps q => by
    obtain ⟨m1, e1⟩ := a.tbls c ps q
    obtain ⟨m2, e2⟩ := b.tbls c _ e1
    exact ⟨m1 ++ m2, by rw [e2, Array.append_assoc]⟩
theorem Un.kept (k : ∀ b u, h.get? b = some u → h'.get? b = some u) : Un fs ex H H h h' :=
  ⟨fun b ob q _ _ _ => k b ob q, fun b ob q _ _ _ => ⟨ob.slots, k b ob q⟩, fun _ _ _ n _ => n, fun b ob q _ => ⟨ob, k b ob q⟩, fun _ _ q => q, fun _ _ _ q => q, fun _ ps q => ⟨#[], by rw [q]; simp⟩⟩
theorem Un.refl : Un fs ex H H h h := Un.kept fun _ _ q => q
theorem Un.laid (k : ∀ b u, h.get? b = some u → h'.get? b = some u) (hp : h.objs.size ≤ a) (hn : H a = none) : Un fs ex H (upd H a o) h h' where
  keep := fun b u q _ _ _ => k b u q
  slot := fun b u q _ _ _ => ⟨u.slots, k b u q⟩
  free := fun b u q n _ => by rw [upd_ne (Nat.ne_of_lt (Nat.lt_of_lt_of_le (Heap.lt_size q) hp))]; exact n
  there := fun b u q _ => ⟨u, k b u q⟩
  tups := fun b xs q => by rw [upd_ne (ne_of_none q hn)]; exact q
  frzs := fun b u xs q => by rw [upd_ne (ne_of_none q hn)]; exact q
  tbls := fun b ps q => ⟨#[], by rw [upd_ne (ne_of_none q hn), q]; simp⟩
theorem Un.write (mu : Mut (H x)) (he : e = x ∨ H e = some (.own x)) (k : ∀ b u, b ≠ e → h.get? b = some u → h'.get? b = some u) (heo : ∃ u, h'.get? e = some u) : Un fs ex H (upd H x o) h h' := by
  have hx : ∀ b, H b = none → b ≠ x := fun b n z => by subst z; rw [n] at mu; exact mu
  have hb : ∀ b, H b = none → b ≠ e := fun b n z => by
    subst z
    rcases he with r | r
    · exact hx b n r
    · rw [n] at r; cases r
  have hm : ∀ b u, H b = some u → ¬ Mut (some u) → b ≠ x := fun b u q nm z => by subst z; rw [q] at mu; exact nm mu
  refine ⟨fun b u q n _ _ => k b u (hb b n) q, fun b u q n _ _ => ⟨u.slots, k b u (hb b n) q⟩, fun b u q n _ => by rw [upd_ne (hx b n)]; exact n, fun b u q _ => ?_,
    fun b xs q => by rw [upd_ne (hm b _ q fun z => z)]; exact q, fun b u xs q => by rw [upd_ne (hm b _ q fun z => z)]; exact q, fun b ps q => ⟨#[], by rw [upd_ne (hm b _ q fun z => z), q]; simp⟩⟩
  by_cases hbe : b = e
  · subst hbe; exact heo
  · exact ⟨u, k b u hbe q⟩
theorem Un.mono (u : Un fs ex H H1 h h1) (hs : ∀ b ∈ fs, b ∈ fs') (hx : ∀ b ∈ ex, b ∈ ex') : Un fs' ex' H H1 h h1 :=
  ⟨fun b ob q n hb he => u.keep b ob q n (fun z => hb (hs b z)) fun z => he (hx b z), fun _ _ q n _ he => u.any q n fun z => he (hx _ z), fun b ob q n he => u.free b ob q n fun z => he (hx b z), fun b ob q he => u.there b ob q fun z => he (hx b z), u.tups, u.frzs, u.tbls⟩
end
noncomputable def trk (h : Heap) (H : Hp) : List Addr := (List.range h.objs.size).filter fun a => (H a).isSome
noncomputable def hidT (h : Heap) (H : Hp) : Heap := W.hideAll h (trk h H)
theorem hidT_size (h : Heap) (H : Hp) : (hidT h H).objs.size = h.objs.size := W.hideAll_size _ _
theorem hidT_get {h : Heap} {H : Hp} {b : Addr} {o : Obj} (e : h.get? b = some o) (n : H b = none) : (hidT h H).get? b = some o :=
  W.hideAll_get _ e fun hm => by
    have q : (H b).isSome = true := (List.mem_filter.mp hm).2
    rw [n] at q; simp at q
theorem of_hidT {h : Heap} {H : Hp} {b : Addr} {o : Obj} (e : (hidT h H).get? b = some o) : h.get? b = some o ∧ H b = none := by
  have e' : h.get? b = some o := W.of_hideAll (trk h H) e
  refine ⟨e', ?_⟩
  cases q : H b with
  | none => rfl
  | some x =>
    have hm : b ∈ trk h H := List.mem_filter.mpr ⟨List.mem_range.mpr (Heap.lt_size e'), by simp [q]⟩
    have z : (hidT h H).get? b = none := W.hideAll_none (trk h H) hm
    rw [z] at e; cases e
noncomputable def allNews (g h : Heap) (L : Addr) : List (Addr × Obj) := (List.range h.objs.size).filterMap fun a => if a = L ∨ (g.get? a).isSome = true then none else (h.get? a).map fun o => (a, o)
noncomputable def rest (g h : Heap) (L d : Addr) : List (Addr × Obj) := (allNews g h L).filter fun p => decide (p.1 ≠ d)
end L2
namespace L2
open PySem PySem.Spec PyProof.Rows
structure Mod (K : W.Frag) (mg : Str → Option Value) (base : Heap) : Prop where
  kin : K.In base
  glob : base.Ns mainGlobals mg
  blt : ∃ mb, base.Ns builtinsNs mb ∧ ∀ x : Str, x ≠ "__name__" → mb x = bootBuiltins x
  nolimit : base.NoLimit
structure Cx where
  prog : Program
  w : World
  K : W.Frag
  mg : Str → Option Value
  base : Heap
  A : Around
  N : List Str
  s₀ : Shared
  H₀ : Hp
  env : Env
  outer : List Env
  stack : List Env
  ex : List Addr
  fn : Str → Bool
  calm : Bool
  pn : List (Addr × Obj)
  xe : Value → Shared → Prop
noncomputable def frs (l : List Env) : List Addr := l.filterMap (·.frame)
noncomputable abbrev Cx.fs (X : Cx) : List Addr := frs X.outer
noncomputable def Vis (sc : Scope) (x : Str) : Prop := sc.names.lookup x = some .local ∨ sc.names.lookup x = some .cell ∨ sc.names.lookup x = some .free
noncomputable def Loc (sc : Scope) (x : Str) : Prop := sc.names.lookup x = some .local ∨ sc.names.lookup x = some .cell
noncomputable def Look (env : Env) (h : Heap) (m : Str → Option Value) (x : Str) (u : Value) : Prop :=
  (env.kindOf x = some .local ∧ m x = some u) ∨ ((env.kindOf x = some .cell ∨ env.kindOf x = some .free) ∧ ∃ c, env.cells.lookup x = some c ∧ h.IsCell c (some u))
noncomputable def HandA (A : Around) (H : Hp) : Prop := A.handled = none ∨ ∃ a o cls head vs, A.handled = some (.ref a) ∧ H a = some (.frz o (.own 0)) ∧ o.cls = cls ∧ o.dict = none ∧ o.data = .fields vs ∧ vs[2]? = some .none ∧ vs[1]? = some head
structure Cx.Ok (X : Cx) : Prop where
  mod : Mod X.K X.mg X.base
  kind : X.env.scope.kind = .function
  glob : X.env.globals = mainGlobals
  blt : X.env.builtins = builtinsNs
  above : X.s₀.heap.objs.size ≤ X.env.locals
  inj : ∀ x y c, X.env.cells.lookup x = some c → X.env.cells.lookup y = some c → x = y
  has : ∀ x, (X.env.kindOf x = some .cell ∨ X.env.kindOf x = some .free) → ∃ c, X.env.cells.lookup x = some c
  cab : ∀ x c, X.fn x = true → X.env.cells.lookup x = some c → X.s₀.heap.objs.size ≤ c
  hd : X.calm = true → X.A.handled = none
  hx : HandA X.A X.H₀
  frames : X.A.frames = some X.stack
  stk : X.stack = X.outer ∨ (X.stack = X.env :: X.outer ∧ X.env.frame = some X.env.locals)
  exf : ∀ b ∈ X.ex, b ≠ X.env.locals ∧ ∀ x c, X.env.cells.lookup x = some c → c ≠ b
  bs : ∀ b o, X.base.get? b = some o → X.s₀.heap.get? b = some o ∧ X.H₀ b = none
  bsz : X.base.objs.size ≤ X.s₀.heap.objs.size
  noex : ∀ b o, X.base.get? b = some o → b ∉ X.ex
  exfs : ∀ b ∈ X.ex, b ∉ X.fs
  funs : X.s₀.heap.FunFrames X.base X.outer
  frf : ∀ b ∈ X.fs, X.H₀ b = none
structure Inv (X : Cx) (pins : List (Addr × Obj)) (σ : List (Option V)) (H : Hp) (s : Shared) : Prop where
  ok : X.Ok
  os : s.os = X.s₀.os
  bare : AllBare s.gens
  base : Un X.fs X.ex X.H₀ H X.s₀.heap s.heap
  loc : ∃ m, s.heap.Ns X.env.locals m ∧ ∀ (i : Nat) (x : Str) (v : V), X.N[i]? = some x → σ[i]? = some (some v) → Vis X.env.scope x → ∃ u, RelV v u ∧ Look X.env s.heap m x u
  cell : ∀ x c, X.env.cells.lookup x = some c → ∃ v, s.heap.IsCell c v
  free : H X.env.locals = none
  freeC : ∀ x c, X.env.cells.lookup x = some c → H c = none
  pin : ∀ p ∈ X.pn ++ pins, s.heap.get? p.1 = some p.2 ∧ H p.1 = none ∧ p.1 ≠ X.env.locals ∧ p.1 ∉ X.fs ∧ ∀ v, p.2.data ≠ .cell v
  hok : HOk X.prog X.w H s.heap
  len : σ.length = X.N.length
section
variable {X : Cx} {pins : List (Addr × Obj)} {σ : List (Option V)} {H H' : Hp} {s : Shared} {h' : Heap}
theorem Cx.Ok.nofr (ok : X.Ok) {b : Addr} {o : Obj} (e : X.base.get? b = some o) : b ∉ X.fs := fun hb => by
  have := (ok.funs.mem hb).1
  rw [e] at this; cases this
theorem Inv.bs (I : Inv X pins σ H s) : ∀ b o, X.base.get? b = some o → s.heap.get? b = some o ∧ H b = none := fun b o e =>
  ⟨I.base.keep b o (I.ok.bs b o e).1 (I.ok.bs b o e).2 (I.ok.nofr e) (I.ok.noex b o e), I.base.free b o (I.ok.bs b o e).1 (I.ok.bs b o e).2 (I.ok.noex b o e)⟩
theorem Inv.bk (I : Inv X pins σ H s) : ∀ b o, X.base.get? b = some o → s.heap.get? b = some o := fun b o e => (I.bs b o e).1
theorem Inv.mod (I : Inv X pins σ H s) : Mod X.K X.mg X.base := I.ok.mod
theorem Inv.kIn (I : Inv X pins σ H s) : X.K.In s.heap := I.ok.mod.kin.keeps I.bk
theorem Inv.nolimit (I : Inv X pins σ H s) : s.heap.NoLimit := I.ok.mod.nolimit.keeps I.bk
theorem Inv.fr (I : Inv X pins σ H s) : ∃ m, Fr X.base X.env.locals s.heap m :=
  let ⟨m, hn, _⟩ := I.loc
  ⟨m, hn, I.bk, Nat.le_trans I.ok.bsz I.ok.above⟩
theorem Inv.lt (I : Inv X pins σ H s) : X.env.locals < s.heap.objs.size := let ⟨_, hn, _⟩ := I.loc; hn.lt
theorem Inv.sz (I : Inv X pins σ H s) : X.s₀.heap.objs.size ≤ s.heap.objs.size := Nat.le_trans I.ok.above (Nat.le_of_lt I.lt)
theorem Inv.nofs (I : Inv X pins σ H s) {a : Addr} (h : s.heap.objs.size ≤ a) : a ∉ X.fs := fun hb => by
  obtain ⟨_, o, ho, _⟩ := I.ok.funs.mem hb
  exact absurd (Nat.lt_of_lt_of_le (Heap.lt_size ho) (Nat.le_trans I.sz h)) (Nat.lt_irrefl _)
theorem Inv.cne (I : Inv X pins σ H s) : ∀ x c, X.env.cells.lookup x = some c → c ≠ X.env.locals := fun x c e z => by
  obtain ⟨v, o, ho, hd⟩ := I.cell x c e
  obtain ⟨m, ⟨o', es, ep, ho', hd', _⟩, _⟩ := I.loc
  rw [z, ho'] at ho; cases ho; rw [hd'] at hd; cases hd
theorem Inv.funs (I : Inv X pins σ H s) : s.heap.FunFrames X.base X.outer := by
  have all : ∀ (l : List Env), (∀ b ∈ frs l, b ∈ X.fs) → X.s₀.heap.FunFrames X.base l → s.heap.FunFrames X.base l := by
    intro l
    induction l with
    | nil => intro _ _; trivial
    | cons env r ih =>
      intro hs hl
      obtain ⟨hk, ⟨L, o, hf, hn, ho, hd⟩, hr⟩ := hl
      have hL : L ∈ X.fs := hs L (by unfold frs; rw [List.filterMap_cons, hf]; exact List.mem_cons_self)
      obtain ⟨sl, e⟩ := I.base.slot L o ho (I.ok.frf L hL) hL fun z => I.ok.exfs L z hL
      exact ⟨hk, ⟨L, _, hf, hn, e, hd⟩, ih (fun b hb => hs b (by unfold frs; rw [List.filterMap_cons, hf]; exact List.mem_cons_of_mem _ hb)) hr⟩
  exact all X.outer (fun _ hb => hb) I.ok.funs
theorem Inv.stack (I : Inv X pins σ H s) : s.heap.FunFrames X.base X.stack := by
  rcases I.ok.stk with e | ⟨e, hf⟩
  · rw [e]; exact I.funs
  · rw [e]
    obtain ⟨m, hn, _⟩ := I.loc
    refine .cons (by rw [I.ok.kind]; decide) hf hn ?_ I.funs
    exact Heap.get?_none_of_le (Nat.le_trans I.ok.bsz I.ok.above)
theorem Inv.stkSub (I : Inv X pins σ H s) : ∀ b ∈ frs X.stack, b ∈ X.env.locals :: X.fs := fun b hb => by
  rcases I.ok.stk with e | ⟨e, hf⟩
  · rw [e] at hb; exact List.mem_cons_of_mem _ hb
  · rw [e] at hb
    unfold frs at hb
    rw [List.filterMap_cons, hf] at hb
    exact hb
theorem Inv.stkFree (I : Inv X pins σ H s) : ∀ b ∈ frs X.stack, H b = none := fun b hb => by
  rcases List.mem_cons.mp (I.stkSub b hb) with e | hb
  · rw [e]; exact I.free
  · obtain ⟨_, o, ho, _⟩ := I.ok.funs.mem hb
    exact I.base.free b o ho (I.ok.frf b hb) fun z => I.ok.exfs b z hb
theorem Inv.step {g' : Array GenState} {t' : Nat} {d' : Drawn} {ch : List Addr} (I : Inv X pins σ H s)
    (hch : ∀ b ∈ ch, (b ∈ X.ex ∨ X.s₀.heap.objs.size ≤ b) ∧ b ≠ X.env.locals ∧ (∀ x c, X.env.cells.lookup x = some c → c ≠ b) ∧ ∀ p ∈ X.pn ++ pins, p.1 ≠ b)
    (keep : ∀ b o, b ≠ X.env.locals → b ∉ X.fs → b ∉ ch → s.heap.get? b = some o → H b = none → h'.get? b = some o)
    (slot : ∀ b o, b ≠ X.env.locals → b ∈ X.fs → b ∉ ch → s.heap.get? b = some o → H b = none → ∃ sl, h'.get? b = some { o with slots := sl }) (free : ∀ b o, b ∉ ch → s.heap.get? b = some o → H b = none → H' b = none)
    (there : ∀ b o, b ∉ ch → s.heap.get? b = some o → ∃ o', h'.get? b = some o')
    (tups : ∀ b xs, H b = some (.tup xs) → H' b = some (.tup xs)) (frzs : ∀ b o u, H b = some (.frz o u) → H' b = some (.frz o u)) (tbls : ∀ b ps, H b = some (.tbl ps) → ∃ more, H' b = some (.tbl (ps ++ more)))
    (ns : ∀ m, s.heap.Ns X.env.locals m → h'.Ns X.env.locals m) (hok : HOk X.prog X.w H' h') (hg : AllBare g') :
    Inv X pins σ H' { s with heap := h', gens := g', drawn := d', toks := t' } := by
  have neL : ∀ b o, X.s₀.heap.get? b = some o → b ≠ X.env.locals := fun b o e => Nat.ne_of_lt (Nat.lt_of_lt_of_le (Heap.lt_size e) I.ok.above)
  have neC : ∀ b o, X.s₀.heap.get? b = some o → b ∉ X.ex → b ∉ ch := fun b o e hx hb => by
    rcases (hch b hb).1 with z | z
    · exact hx z
    · exact absurd (Nat.lt_of_lt_of_le (Heap.lt_size e) z) (Nat.lt_irrefl _)
  have cellK : ∀ x c, X.env.cells.lookup x = some c → ∀ v, s.heap.IsCell c v → h'.IsCell c v := fun x c e v ⟨o, ho, hd⟩ => by
    have nch : c ∉ ch := fun z => (hch c z).2.2.1 x c e rfl
    by_cases hc : c ∈ X.fs
    · obtain ⟨sl, q⟩ := slot c o (I.cne x c e) hc nch ho (I.freeC x c e)
      exact ⟨_, q, hd⟩
    · exact ⟨o, keep c o (I.cne x c e) hc nch ho (I.freeC x c e), hd⟩
  refine ⟨I.ok, I.os, hg, ⟨fun b o e n hb hx => ?_, fun b o e n hb hx => ?_, fun b o e n hx => ?_, fun b o e hx => ?_, fun b xs e => tups b xs (I.base.tups b xs e), fun b o xs e => frzs b o xs (I.base.frzs b o xs e), fun b ps e => ?_⟩, ?_, fun x c e => ?_, ?_, fun x c e => ?_, fun p hp => ?_, hok, I.len⟩
  · exact keep b o (neL b o e) hb (neC b o e hx) (I.base.keep b o e n hb hx) (I.base.free b o e n hx)
  · obtain ⟨sl, e1⟩ := I.base.slot b o e n hb hx
    obtain ⟨sl', e2⟩ := slot b _ (neL b o e) hb (neC b o e hx) e1 (I.base.free b o e n hx)
    exact ⟨sl', e2⟩
  · obtain ⟨o', e1⟩ := I.base.there b o e hx
    exact free b o' (neC b o e hx) e1 (I.base.free b o e n hx)
  · obtain ⟨o', e1⟩ := I.base.there b o e hx
    exact there b o' (neC b o e hx) e1
  · obtain ⟨m1, e1⟩ := I.base.tbls b ps e
    obtain ⟨m2, e2⟩ := tbls b _ e1
    exact ⟨m1 ++ m2, by rw [e2, Array.append_assoc]⟩
  · obtain ⟨m, hn, hl⟩ := I.loc
    refine ⟨m, ns m hn, fun i x v e1 e2 e3 => ?_⟩
    obtain ⟨u, r, l⟩ := hl i x v e1 e2 e3
    refine ⟨u, r, ?_⟩
    rcases l with l | ⟨k, c, e, z⟩
    · exact .inl l
    · exact .inr ⟨k, c, e, cellK x c e _ z⟩
  · obtain ⟨v, z⟩ := I.cell x c e
    exact ⟨v, cellK x c e v z⟩
  · obtain ⟨m, ⟨o, _, _, ho, _⟩, _⟩ := I.loc
    exact free _ o (fun z => (hch _ z).2.1 rfl) ho I.free
  · obtain ⟨v, o, ho, hd⟩ := I.cell x c e
    exact free c o (fun z => (hch c z).2.2.1 x c e rfl) ho (I.freeC x c e)
  · obtain ⟨e, n, ne, nf, d⟩ := I.pin p hp
    have nch : p.1 ∉ ch := fun z => (hch p.1 z).2.2.2 p hp rfl
    exact ⟨keep p.1 p.2 ne nf nch e n, free p.1 p.2 nch e n, ne, nf, d⟩
theorem Inv.un {t' : Nat} (I : Inv X pins σ H s) (u : Un X.fs [] H H' s.heap h') (hok : HOk X.prog X.w H' h') : Inv X pins σ H' { s with heap := h', toks := t' } := by
  obtain ⟨m, ⟨o, es, ep, ho, r⟩, _⟩ := id I.loc
  obtain ⟨sl, hL⟩ := u.any ho I.free (by simp)
  exact I.step (g' := s.gens) (d' := s.drawn) (ch := []) (fun _ z => nomatch z) (fun b o _ hb _ e n => u.keep b o e n hb (by simp)) (fun b o _ hb _ e n => u.slot b o e n hb (by simp)) (fun b o _ e n => u.free b o e n (by simp)) (fun b o _ e => u.there b o e (by simp)) u.tups u.frzs u.tbls (fun m' hm => by
    obtain ⟨o', es', ep', ho', r'⟩ := hm
    rw [ho] at ho'; cases ho'
    exact ⟨_, es', ep', hL, r'⟩) hok I.bare
theorem Inv.call {g' : Array GenState} {t' : Nat} {d' : Drawn} {ch : List Addr} (I : Inv X pins σ H s) (u : Un (frs X.stack) ch H H' s.heap h') (hok : HOk X.prog X.w H' h') (hg : AllBare g')
    (hch : ∀ b ∈ ch, (b ∈ X.ex ∨ X.s₀.heap.objs.size ≤ b) ∧ b ≠ X.env.locals ∧ (∀ x c, X.env.cells.lookup x = some c → c ≠ b) ∧ ∀ p ∈ X.pn ++ pins, p.1 ≠ b) :
    Inv X pins σ H' { s with heap := h', gens := g', drawn := d', toks := t' } := by
  obtain ⟨m, ⟨o, es, ep, ho, r⟩, _⟩ := id I.loc
  obtain ⟨sl, hL⟩ := u.any ho I.free fun z => (hch _ z).2.1 rfl
  exact I.step (ch := ch) hch (fun b o hL hb hc e n => u.keep b o e n (fun z => (List.mem_cons.mp (I.stkSub b z)).elim hL hb) hc) (fun b o _ _ hc e n => u.any e n hc) (fun b o hc e n => u.free b o e n hc) (fun b o hc e => u.there b o e hc) u.tups u.frzs u.tbls (fun m' hm => by
    obtain ⟨o', es', ep', ho', r'⟩ := hm
    rw [ho] at ho'; cases ho'
    exact ⟨_, es', ep', hL, r'⟩) hok hg
theorem Inv.turned {t' : Nat} {it : Addr} (I : Inv X pins σ H s) (k : ∀ b o, b ≠ it → s.heap.get? b = some o → h'.get? b = some o) (hn : H it = none) (hL : it ≠ X.env.locals)
    (h1 : it ∈ X.ex ∨ X.s₀.heap.objs.size ≤ it) (h2 : ∀ x c, X.env.cells.lookup x = some c → c ≠ it) (h3 : ∀ p ∈ X.pn ++ pins, p.1 ≠ it) : Inv X pins σ H { s with heap := h', toks := t' } := by
  have nit : ∀ b u, H b = some u → b ≠ it := fun b u e z => by rw [z, hn] at e; cases e
  refine I.step (g' := s.gens) (d' := s.drawn) (ch := [it]) (fun b hb => ?_) (fun b o _ _ hc e _ => k b o (fun z => hc (by simp [z])) e) (fun b o _ _ hc e _ => ⟨o.slots, k b o (fun z => hc (by simp [z])) e⟩) (fun _ _ _ _ n => n)
    (fun b o hc e => ⟨o, k b o (fun z => hc (by simp [z])) e⟩) (fun _ _ e => e) (fun _ _ _ e => e) (fun b ps e => ⟨#[], by rw [e]; simp⟩) (fun m hm => ?_) (fun b u e => ?_) I.bare
  · have e : b = it := by simpa using hb
    subst e
    exact ⟨h1, hL, h2, h3⟩
  · obtain ⟨o, es, ep, ho, r⟩ := hm
    exact ⟨o, es, ep, k _ o (Ne.symm hL) ho, r⟩
  · refine (I.hok b u e).stay (fun c v hc q => k c v ?_ q) (fun _ q => q) fun _ _ q => q
    rcases hc with z | z
    · rw [z]; exact nit b u e
    · exact nit c _ z
theorem Inv.tok (I : Inv X pins σ H s) (t : Nat) : Inv X pins σ H { s with toks := t } := I.un (h' := s.heap) (t' := t) Un.refl I.hok
theorem Inv.kept {t' : Nat} (I : Inv X pins σ H s) (k : ∀ b u, s.heap.get? b = some u → h'.get? b = some u) : Inv X pins σ H { s with heap := h', toks := t' } := I.un (Un.kept k) (I.hok.kept k)
theorem Inv.laid {a : Addr} {o : HO} {t' : Nat} (I : Inv X pins σ H s) (k : ∀ b u, s.heap.get? b = some u → h'.get? b = some u) (hp : s.heap.objs.size ≤ a) (new : ObjOk X.prog X.w (upd H a o) h' a o) :
    Inv X pins σ (upd H a o) { s with heap := h', toks := t' } := I.un (Un.laid k hp (I.hok.fresh hp)) (I.hok.laid k hp new)
theorem Inv.write {x e : Addr} {o : HO} {t' : Nat} (I : Inv X pins σ H s) (mu : Mut (H x)) (he : e = x ∨ H e = some (.own x)) (k : ∀ b u, b ≠ e → s.heap.get? b = some u → h'.get? b = some u) (heo : ∃ u, h'.get? e = some u)
    (new : ObjOk X.prog X.w (upd H x o) h' x o) : Inv X pins σ (upd H x o) { s with heap := h', toks := t' } := I.un (Un.write mu he k heo) (I.hok.write mu he k heo new)
theorem Inv.pins_of {pins' : List (Addr × Obj)} (I : Inv X pins σ H s) (h : ∀ p ∈ pins', s.heap.get? p.1 = some p.2 ∧ H p.1 = none ∧ p.1 ≠ X.env.locals ∧ p.1 ∉ X.fs ∧ ∀ v, p.2.data ≠ .cell v) : Inv X pins' σ H s :=
  ⟨I.ok, I.os, I.bare, I.base, I.loc, I.cell, I.free, I.freeC, fun p hp => (List.mem_append.mp hp).elim (fun z => I.pin p (List.mem_append_left _ z)) (h p), I.hok, I.len⟩
theorem nodup_ix {N : List Str} (hN : N.Nodup) {i j : Nat} {x : Str} (a : N[i]? = some x) (b : N[j]? = some x) : i = j := by
  obtain ⟨h1, e1⟩ := List.getElem?_eq_some_iff.mp a
  obtain ⟨h2, e2⟩ := List.getElem?_eq_some_iff.mp b
  exact (List.getElem_inj hN).mp (e1.trans e2.symm)
theorem store_ok2 {M : Model} {A : Around} {E : Value → Shared → Prop} {i : Nat} {x : Str} {v : V} {u : Value} {Q : Unit → Shared → Prop} (I : Inv X pins σ H s) (hN : X.N.Nodup) (hi : X.N[i]? = some x) (hx : Loc X.env.scope x) (r : RelV v u)
    (h : ∀ s', Inv X pins (σ.set i (some v)) H s' → (∃ a, Heap.SameBut a s.heap s'.heap ∧ (a = X.env.locals ∨ X.env.cells.lookup x = some a)) → Q () s') (hf : X.fn x = true ∨ X.env.scope.names.lookup x = some .local := by first | exact .inl rfl | exact .inr rfl | assumption) : wpAny M A (storeName X.env x u) Q E s := by
  obtain ⟨m, hn, hl⟩ := id I.loc
  have hcls : (X.env.scope.kind == .class || (X.env.scope.kind == .module && X.env.locals != X.env.globals)) = false := by rw [I.ok.kind]; rfl
  have hiσ : i < σ.length := by rw [I.len]; exact (List.getElem?_eq_some_iff.mp hi).1
  have cne := I.cne
  have tracked : ∀ {a : Addr} {h' : Heap}, (∃ o, s.heap.get? a = some o ∧ H a = none) → Heap.SameBut a s.heap h' → HOk X.prog X.w H h' := fun {a h'} ha hs b ob e => by
    obtain ⟨_, _, hfree⟩ := ha
    refine (I.hok b ob e).stay (fun c w' hc q => (hs.2 c ?_).trans q) (fun _ q => q) fun _ _ q => q
    rintro rfl
    rcases hc with rfl | hc
    · rw [hfree] at e; cases e
    · rw [hfree] at hc; cases hc
  rcases hx with hk | hk
  · refine wpAny_storeName_local hk hn (fun h' hn' hs => ?_) hcls
    obtain ⟨oL, _, _, hoL, _⟩ := id hn
    refine h _ ⟨I.ok, I.os, I.bare, ⟨fun b o e n hb hx => ?_, fun b o e n hb hx => ?_, I.base.free, fun b o e hx => ?_, I.base.tups, I.base.frzs, I.base.tbls⟩, ⟨_, hn', fun j y v' e1 e2 e3 => ?_⟩, fun y c e => ?_, I.free, I.freeC, fun p hp => ?_, tracked ⟨oL, hoL, I.free⟩ hs, by simpa using I.len⟩ ⟨_, hs, .inl rfl⟩
    · exact (hs.2 b (Nat.ne_of_lt (Nat.lt_of_lt_of_le (Heap.lt_size e) I.ok.above))).trans (I.base.keep b o e n hb hx)
    · obtain ⟨sl, e1⟩ := I.base.slot b o e n hb hx
      exact ⟨sl, (hs.2 b (Nat.ne_of_lt (Nat.lt_of_lt_of_le (Heap.lt_size e) I.ok.above))).trans e1⟩
    · obtain ⟨o', e1⟩ := I.base.there b o e hx
      exact ⟨o', (hs.2 b (Nat.ne_of_lt (Nat.lt_of_lt_of_le (Heap.lt_size e) I.ok.above))).trans e1⟩
    · by_cases hj : j = i
      · subst hj
        rw [hi] at e1; cases e1
        rw [List.getElem?_set_self hiσ] at e2
        cases e2
        exact ⟨u, r, .inl ⟨hk, by simp⟩⟩
      · rw [List.getElem?_set_ne (Ne.symm hj)] at e2
        obtain ⟨u', r', q⟩ := hl j y v' e1 e2 e3
        refine ⟨u', r', ?_⟩
        rcases q with ⟨k, e⟩ | ⟨k, c, e, z⟩
        · refine .inl ⟨k, ?_⟩
          have : y ≠ x := fun e => hj (nodup_ix hN e1 (e ▸ hi))
          simp [this, e]
        · exact .inr ⟨k, c, e, z.sameBut hs (cne y c e)⟩
    · obtain ⟨w', z⟩ := I.cell y c e
      exact ⟨w', z.sameBut hs (cne y c e)⟩
    · obtain ⟨e, n, ne, nf, d⟩ := I.pin p hp
      exact ⟨(hs.2 p.1 ne).trans e, n, ne, nf, d⟩
  · have hfn : X.fn x = true := by
      rcases hf with z | z
      · exact z
      · rw [z] at hk; cases hk
    obtain ⟨c, hc⟩ := I.ok.has x (.inl hk)
    obtain ⟨w', z⟩ := I.cell x c hc
    refine wpAny_storeName_cell I.ok.kind hk hc z (fun h' hc' hs => ?_)
    obtain ⟨oc, hoc, hocd⟩ := id z
    refine h { s with heap := h' } ⟨I.ok, I.os, I.bare, ⟨fun b o e n hb hx => ?_, fun b o e n hb hx => ?_, I.base.free, fun b o e hx => ?_, I.base.tups, I.base.frzs, I.base.tbls⟩, ⟨m, hn.sameBut hs (Ne.symm (cne x c hc)), fun j y v' e1 e2 e3 => ?_⟩, fun y c' e => ?_, I.free, I.freeC, fun p hp => ?_, tracked ⟨oc, hoc, I.freeC x c hc⟩ hs, by simpa using I.len⟩ ⟨c, hs, .inr hc⟩
    · exact (hs.2 b (Nat.ne_of_lt (Nat.lt_of_lt_of_le (Heap.lt_size e) (I.ok.cab x c hfn hc)))).trans (I.base.keep b o e n hb hx)
    · obtain ⟨sl, e1⟩ := I.base.slot b o e n hb hx
      exact ⟨sl, (hs.2 b (Nat.ne_of_lt (Nat.lt_of_lt_of_le (Heap.lt_size e) (I.ok.cab x c hfn hc)))).trans e1⟩
    · obtain ⟨o', e1⟩ := I.base.there b o e hx
      exact ⟨o', (hs.2 b (Nat.ne_of_lt (Nat.lt_of_lt_of_le (Heap.lt_size e) (I.ok.cab x c hfn hc)))).trans e1⟩
    · by_cases hj : j = i
      · subst hj
        rw [hi] at e1; cases e1
        rw [List.getElem?_set_self hiσ] at e2
        cases e2
        exact ⟨u, r, .inr ⟨.inl hk, c, hc, hc'⟩⟩
      · rw [List.getElem?_set_ne (Ne.symm hj)] at e2
        obtain ⟨u', r', q⟩ := hl j y v' e1 e2 e3
        refine ⟨u', r', ?_⟩
        rcases q with q | ⟨k, c', e, z'⟩
        · exact .inl q
        · refine .inr ⟨k, c', e, z'.sameBut hs ?_⟩
          rintro rfl
          exact hj (nodup_ix hN e1 (I.ok.inj _ _ _ e hc ▸ hi))
    · by_cases hcc : c' = c
      · subst hcc; exact ⟨_, hc'⟩
      · obtain ⟨w2, z2⟩ := I.cell y c' e
        exact ⟨w2, z2.sameBut hs hcc⟩
    · obtain ⟨e, n, ne, nf, d⟩ := I.pin p hp
      refine ⟨(hs.2 p.1 ?_).trans e, n, ne, nf, d⟩
      intro q
      rw [q, hoc] at e
      have q' : oc = p.2 := Option.some.inj e
      exact d w' (by rw [← q']; exact hocd)
theorem store_ok {M : Model} {A : Around} {E : Value → Shared → Prop} {i : Nat} {x : Str} {v : V} {u : Value} {Q : Unit → Shared → Prop} (I : Inv X pins σ H s) (hN : X.N.Nodup) (hi : X.N[i]? = some x) (hx : Loc X.env.scope x) (r : RelV v u)
    (h : ∀ s', Inv X pins (σ.set i (some v)) H s' → Q () s') (hf : X.fn x = true ∨ X.env.scope.names.lookup x = some .local := by first | exact .inl rfl | exact .inr rfl | assumption) : wpAny M A (storeName X.env x u) Q E s :=
  store_ok2 I hN hi hx r (fun s' I' _ => h s' I') hf
theorem Inv.call' {s' : Shared} {ch : List Addr} (I : Inv X pins σ H s) (ho : s'.os = s.os) (u : Un (frs X.stack) ch H H' s.heap s'.heap) (hok : HOk X.prog X.w H' s'.heap) (hg : AllBare s'.gens)
    (hch : ∀ b ∈ ch, (b ∈ X.ex ∨ X.s₀.heap.objs.size ≤ b) ∧ b ≠ X.env.locals ∧ (∀ x c, X.env.cells.lookup x = some c → c ≠ b) ∧ ∀ p ∈ X.pn ++ pins, p.1 ≠ b) : Inv X pins σ H' s' := by
  obtain ⟨h', g', d', t', o'⟩ := s'
  have e : o' = s.os := ho
  subst e
  exact I.call (g' := g') (t' := t') (d' := d') u hok hg hch
end
noncomputable abbrev XK := Value → Option Addr → Hp → Prop
noncomputable abbrev St := List (Option V)
noncomputable abbrev VK := V → Hp → Prop
noncomputable abbrev TE := St → Hp → VK → Prop
noncomputable abbrev TT := St → Hp → (Bool → Hp → Prop) → Prop
noncomputable abbrev TA := St → Hp → (List V → Hp → Prop) → Prop
structure Ends where
  nx : St → Hp → Prop
  rt : VK
  bk : St → Hp → Prop := fun _ _ => False
  ct : St → Hp → Prop := fun _ _ => False
noncomputable abbrev TS := Ends → St → Hp → Prop
noncomputable def EP (X : Cx) (pins : List (Addr × Obj)) (σ : St) (Q : VK) (u : Value) (s' : Shared) : Prop := ∃ v H', Inv X pins σ H' s' ∧ RelV v u ∧ Q v H'
noncomputable def TP (X : Cx) (pins : List (Addr × Obj)) (σ : St) (Q : Bool → Hp → Prop) (b : Bool) (s' : Shared) : Prop := ∃ H', Inv X pins σ H' s' ∧ Q b H'
noncomputable def AP (X : Cx) (pins : List (Addr × Obj)) (σ : St) (Q : List V → Hp → Prop) (us : List Value) (s' : Shared) : Prop := ∃ vs H', Inv X pins σ H' s' ∧ Vals vs us ∧ Q vs H'
noncomputable def SP (X : Cx) (pins : List (Addr × Obj)) (D : Ends) (f : Flow) (s' : Shared) : Prop :=
  match f with
  | .next => ∃ σ' H', Inv X pins σ' H' s' ∧ D.nx σ' H'
  | .brk => ∃ σ' H', Inv X pins σ' H' s' ∧ D.bk σ' H'
  | .cont => ∃ σ' H', Inv X pins σ' H' s' ∧ D.ct σ' H'
  | .ret u => ∃ v σ' H', Inv X pins σ' H' s' ∧ RelV v u ∧ D.rt v H'
noncomputable def PE (X : Cx) (e : Expr) (t : TE) : Prop :=
  ∀ (pins : List (Addr × Obj)) (s : Shared) (σ : St) (H : Hp) (Q : VK), Inv X pins σ H s → t σ H Q → wpAny (model X.prog X.w) X.A (eval e X.env) (EP X pins σ Q) X.xe s
noncomputable def PT (X : Cx) (e : Expr) (t : TT) : Prop :=
  ∀ (pins : List (Addr × Obj)) (s : Shared) (σ : St) (H : Hp) (Q : Bool → Hp → Prop), Inv X pins σ H s → t σ H Q → wpAny (model X.prog X.w) X.A (isTrue e X.env (eval e X.env)) (TP X pins σ Q) X.xe s
noncomputable def PW (X : Cx) (e : Expr) (t : TT) : Prop :=
  ∀ (whole : Sem Value) (pins : List (Addr × Obj)) (s : Shared) (σ : St) (H : Hp) (Q : Bool → Hp → Prop), Inv X pins σ H s → t σ H Q → wpAny (model X.prog X.w) X.A (isTrue e X.env whole) (TP X pins σ Q) X.xe s
theorem PW.pt {X : Cx} {e : Expr} {t : TT} (h : PW X e t) : PT X e t := h _
noncomputable def PA (X : Cx) (es : List Expr) (t : TA) : Prop :=
  ∀ (pos : Pos) (pins : List (Addr × Obj)) (s : Shared) (σ : St) (H : Hp) (Q : List V → Hp → Prop), Inv X pins σ H s → t σ H Q → wpAny (model X.prog X.w) X.A (spliced (backTo pos (starEach es X.env))) (AP X pins σ Q) X.xe s
noncomputable def PS (X : Cx) (st : Stmt) (t : TS) : Prop :=
  ∀ (pins : List (Addr × Obj)) (s : Shared) (σ : St) (H : Hp) (D : Ends), Inv X pins σ H s → t D σ H → wpAny (model X.prog X.w) X.A (exec st X.env) (SP X pins D) X.xe s
noncomputable def PSs (X : Cx) (st : List Stmt) (t : TS) : Prop :=
  ∀ (pins : List (Addr × Obj)) (s : Shared) (σ : St) (H : Hp) (D : Ends), Inv X pins σ H s → t D σ H → wpAny (model X.prog X.w) X.A (execs st X.env) (SP X pins D) X.xe s
theorem thn {α : Type} {t : Sem α} {Q Q' : α → Shared → Prop} {M : Model} {A : Around} {E : Value → Shared → Prop} {s : Shared} (h : wpAny M A t Q E s) (hQ : ∀ a s, Q a s → Q' a s) : wpAny M A t Q' E s := wpAny_mono h hQ fun _ _ x => x
end L2
namespace L2
open PySem PySem.Spec PyProof.Rows
section
variable {X : Cx}
noncomputable def tVar (i : Nat) : TE := fun σ H Q => ∃ v, σ[i]? = some (some v) ∧ Q v H
noncomputable def tC (v : V) : TE := fun _ H Q => Q v H
theorem pe_var {i : Nat} {x : Str} {pos : Pos} (hN : X.N[i]? = some x) (hv : Vis X.env.scope x) (hd : (x == ("__debug__" : Str)) = false := by decide) (hcd : (x == ("__classdict__" : Str)) = false := by decide) : PE X (.Name x pos) (tVar i) := by
  intro pins s σ H Q I h
  obtain ⟨v, e, h⟩ := h
  obtain ⟨m, hn, hl⟩ := I.loc
  obtain ⟨u, r, l⟩ := hl i x v hN e hv
  have fin : EP X pins σ Q u s := ⟨v, H, I, r, h⟩
  rcases l with ⟨hk, hm⟩ | ⟨hk, c, hc, hcell⟩
  · exact wpAny_Name (wpAny_loadName_local I.ok.kind hk hn hm fin) hd
  · rcases hk with hk | hk
    · exact wpAny_Name (wpAny_loadName_cell I.ok.kind hk hc hcell fin) hd
    · exact wpAny_Name (wpAny_loadName_free I.ok.kind hk hc hcell fin hcd) hd
theorem pe_int {i j pos} : PE X (.Constant (.int i) j pos) (tC (.int i)) := fun _ _ _ H _ I h => wpAny_Constant_int ⟨.int i, H, I.tok _, ⟨_, rfl⟩, h⟩
theorem pe_bl {b j pos} : PE X (.Constant (.bool b) j pos) (tC (.bl b)) := fun _ _ _ H _ I h => Constant_bool ⟨.bl b, H, I, rfl, h⟩
theorem pe_non {j pos} : PE X (.Constant .none j pos) (tC .non) := fun _ _ _ H _ I h => Constant_none ⟨.non, H, I, rfl, h⟩
noncomputable def Gl (X : Cx) (x : Str) : Prop := X.env.kindOf x = some .globalImplicit
theorem ld_glob {E : Value → Shared → Prop} {pins : List (Addr × Obj)} {s : Shared} {σ : St} {H : Hp} {x : Str} {u : Value} {pos : Pos} {Q : Value → Shared → Prop} (I : Inv X pins σ H s) (hg : Gl X x) (hm : X.mg x = some u) (h : Q u s)
    (hd : (x == ("__debug__" : Str)) = false := by decide) : wpAny (model X.prog X.w) X.A (eval (.Name x pos) X.env) Q E s :=
  Calls.Name_function_global I.ok.kind hg (Calls.loadGlobal_global (by rw [I.ok.glob]; exact I.mod.glob.keeps I.bk) hm h) hd
theorem ld_blt {E : Value → Shared → Prop} {pins : List (Addr × Obj)} {s : Shared} {σ : St} {H : Hp} {x : Str} {u : Value} {pos : Pos} {Q : Value → Shared → Prop} (I : Inv X pins σ H s) (hg : Gl X x) (hm : X.mg x = none) (hv : bootBuiltins x = some u) (h : Q u s)
    (hn : x ≠ "__name__" := by decide) (hd : (x == ("__debug__" : Str)) = false := by decide) : wpAny (model X.prog X.w) X.A (eval (.Name x pos) X.env) Q E s := by
  obtain ⟨mb, h1, h2⟩ := I.mod.blt
  exact Calls.Name_function_global I.ok.kind hg (Calls.loadGlobal_builtin (by rw [I.ok.glob]; exact I.mod.glob.keeps I.bk) hm (by rw [I.ok.blt]; exact h1.keeps I.bk) ((h2 x hn).trans hv) h) hd
theorem pe_bltn {x : Str} {v : V} {u : Value} {pos : Pos} (hg : Gl X x) (hm : X.mg x = none) (hv : bootBuiltins x = some u) (r : RelV v u) (hn : x ≠ "__name__" := by decide) (hd : (x == ("__debug__" : Str)) = false := by decide) : PE X (.Name x pos) (tC v) :=
  fun _ _ _ H _ I h => ld_blt I hg hm hv ⟨v, H, I, r, h⟩ hn hd
noncomputable def t2I (ta tb : TE) (k : Int → Int → Hp → Prop) : St → Hp → Prop := fun σ H => ta σ H fun x H1 => tb σ H1 fun y H2 => ∃ i j, x = .int i ∧ y = .int j ∧ k i j H2
variable {a b : Expr} {ta tb : TE} {pos : Pos}
noncomputable def tCmp (p : Int → Int → Bool) (ta tb : TE) : TE := fun σ H Q => t2I ta tb (fun i j H2 => Q (.bl (p i j)) H2) σ H
noncomputable def tB (t : TE) : TT := fun σ H Q => t σ H fun x H1 => ∃ c, x = .bl c ∧ Q c H1
theorem pt_val {e : Expr} {t : TE} (h : PE X e t) (he : ∀ whole, isTrue e X.env whole = (do let v ← whole; standAt e.pos; holding [v] (truthy v)) := by intro _; rfl) : PT X e (tB t) := by
  intro pins s σ H Q I hw
  refine isTrue_plain (thn (h pins s σ H _ I hw) fun v s1 ⟨x, H1, I1, r1, q1⟩ => ?_) (he _)
  obtain ⟨d, rfl, q⟩ := q1
  cases r1
  exact wpAny_truthy_bool ⟨H1, I1, q⟩
variable {tA tB' : TT} {rest : List Expr}
noncomputable def tAnd (t u : TT) : TT := fun σ H Q => t σ H fun c H1 => if c = true then u σ H1 Q else Q false H1
noncomputable def tOr (t u : TT) : TT := fun σ H Q => t σ H fun c H1 => if c = true then Q true H1 else u σ H1 Q
noncomputable def tNot (t : TT) : TT := fun σ H Q => t σ H fun c H1 => Q (!c) H1
theorem pw_or1 (ha : PT X a tA) : PW X (.BoolOp .Or [a] pos) tA := by
  intro wh pins s σ H Q I h
  refine isTrue_or (thn (ha pins s σ H Q I h) fun c s1 e => ?_)
  cases c with
  | false => exact isTrue_or_nil e
  | true => exact e
theorem pw_or (ha : PT X a tA) (hb : PW X (.BoolOp .Or (b :: rest) pos) tB') : PW X (.BoolOp .Or (a :: b :: rest) pos) (tOr tA tB') := by
  intro wh pins s σ H Q I h
  refine isTrue_or (thn (ha pins s σ H _ I h) fun c s1 ⟨H1, I1, q1⟩ => ?_)
  cases c with
  | true => exact ⟨H1, I1, q1⟩
  | false => exact hb wh pins s1 σ H1 Q I1 q1
theorem pt_not (ha : PT X a tA) : PT X (.UnaryOp .Not a pos) (tNot tA) := by
  intro pins s σ H Q I h
  exact isTrue_not (ha pins s σ H (fun c H1 => Q (!c) H1) I h)
noncomputable def tAndV (ta tb : TE) : TE := fun σ H Q => ta σ H fun x H1 => ∃ c, x = .bl c ∧ if c = true then tb σ H1 Q else Q (.bl false) H1
noncomputable def tOrV (ta tb : TE) : TE := fun σ H Q => ta σ H fun x H1 => ∃ c, x = .bl c ∧ if c = true then Q (.bl true) H1 else tb σ H1 Q
noncomputable def tNotV (ta : TE) : TE := fun σ H Q => ta σ H fun x H1 => ∃ c, x = .bl c ∧ Q (.bl (!c)) H1
theorem pe_one {op} {t : TE} (h : PE X a t) : PE X (.BoolOp op [a] pos) t := fun pins s σ H Q I hw => BoolOp_one (h pins s σ H Q I hw)
theorem pe_and (ha : PE X a ta) (hb : PE X (.BoolOp .And (b :: rest) pos) tb) : PE X (.BoolOp .And (a :: b :: rest) pos) (tAndV ta tb) := by
  intro pins s σ H Q I h
  refine BoolOp_and (thn (ha pins s σ H _ I h) fun v s1 ⟨x, H1, I1, r1, q1⟩ => ?_)
  obtain ⟨c, rfl, q1⟩ := q1
  cases r1
  refine wpAny_truthy_bool ?_
  cases c with
  | true => exact hb pins s1 σ H1 Q I1 q1
  | false => exact ⟨.bl false, H1, I1, rfl, q1⟩
theorem pe_or (ha : PE X a ta) (hb : PE X (.BoolOp .Or (b :: rest) pos) tb) : PE X (.BoolOp .Or (a :: b :: rest) pos) (tOrV ta tb) := by
  intro pins s σ H Q I h
  refine BoolOp_or (thn (ha pins s σ H _ I h) fun v s1 ⟨x, H1, I1, r1, q1⟩ => ?_)
  obtain ⟨c, rfl, q1⟩ := q1
  cases r1
  refine wpAny_truthy_bool ?_
  cases c with
  | false => exact hb pins s1 σ H1 Q I1 q1
  | true => exact ⟨.bl true, H1, I1, rfl, q1⟩
theorem pe_not (ha : PE X a ta) : PE X (.UnaryOp .Not a pos) (tNotV ta) := by
  intro pins s σ H Q I h
  refine UnaryOp_ (thn (ha pins s σ H _ I h) fun v s1 ⟨x, H1, I1, r1, q1⟩ => ?_)
  obtain ⟨c, rfl, q1⟩ := q1
  cases r1
  exact not_of (wpAny_truthy_bool ⟨.bl (!c), H1, I1, rfl, q1⟩)
noncomputable def tIf (t : TT) (ta tb : TE) : TE := fun σ H Q => t σ H fun c H1 => if c = true then ta σ H1 Q else tb σ H1 Q
theorem pe_ifExp {c : Expr} (hc : PT X c tA) (ha : PE X a ta) (hb : PE X b tb) : PE X (.IfExp c a b pos) (tIf tA ta tb) := by
  intro pins s σ H Q I h
  refine wpAny_IfExp (thn (hc pins s σ H _ I h) fun d s1 ⟨H1, I1, q1⟩ => ?_)
  cases d with
  | true => exact ha pins s1 σ H1 Q I1 q1
  | false => exact hb pins s1 σ H1 Q I1 q1
end
end L2
namespace L2
open PySem PySem.Spec PyProof.Rows
noncomputable def SqL (K : W.Frag) (H : Hp) (a : Addr) (xs : List V) : Prop :=
  Rd H a (.lst xs) ∨
    ∃ (o : Obj) (its : Array Value) (n : Nat), K.lookup a = some o ∧ o.cls = .type "list" ∧ o.dict = none ∧ o.data = .seq its n ∧ its.size ≤ sizeLine ∧ Vals xs its.toList
noncomputable def SqT (K : W.Frag) (H : Hp) (a : Addr) (xs : List V) : Prop :=
  Rd H a (.tup xs) ∨
    ∃ (o : Obj) (its : Array Value) (n : Nat), K.lookup a = some o ∧ o.cls = .type "tuple" ∧ o.data = .seq its n ∧ its.size ≤ sizeLine ∧ Vals xs its.toList
noncomputable def absV : Value → Option V
  | .none => some .non
  | .bool b => some (.bl b)
  | .int i _ => some (.int i)
  | .str x _ => some (.str x)
  | .bytes b _ => some (.byt b)
  | .float b _ => some (.flt b)
  | .ref a => some (.ref a)
  | .type n => some (.ty n)
  | _ => none
theorem RelV.abs {x : V} {u : Value} (r : RelV x u) : absV u = some x := by
  cases x with
  | non => cases r; rfl
  | bl _ => cases r; rfl
  | int _ => obtain ⟨t, rfl⟩ := r; rfl
  | str _ => obtain ⟨t, rfl⟩ := r; rfl
  | byt _ => obtain ⟨t, rfl⟩ := r; rfl
  | flt _ => obtain ⟨t, rfl⟩ := r; rfl
  | ref _ => cases r; rfl
  | ty _ => cases r; rfl
theorem RelV.inj {x y : V} {u : Value} (r : RelV x u) (q : RelV y u) : x = y := Option.some.inj (r.abs.symm.trans q.abs)
theorem Vals.inj : ∀ {xs ys : List V} {us : List Value}, Vals xs us → Vals ys us → xs = ys
  | _, _, _, .nil, .nil => rfl
  | _, _, _, .cons r t, .cons r' t' => by rw [r.inj r', Vals.inj t t']
section
variable {X : Cx} {pins : List (Addr × Obj)} {σ : St} {H : Hp} {s : Shared} {a : Addr} {xs ys : List V}
theorem SqL.of {K : W.Frag} (h : H a = some (.lst xs)) : SqL K H a xs := .inl (.inl h)
theorem SqT.of {K : W.Frag} (h : H a = some (.tup xs)) : SqT K H a xs := .inl (.inl h)
theorem Inv.list (I : Inv X pins σ H s) (h : SqL X.K H a xs) : ∃ its : List Value, Vals xs its ∧ PlainL s.heap a its.toArray ∧ xs.length ≤ sizeLine := by
  rcases h with h | ⟨o, its, n, hk, hc, hd, hs, hz, r⟩
  · obtain ⟨z, its, n, r, e⟩ := h.ok I.hok
    exact ⟨its, r, ⟨_, n, e, rfl, rfl, rfl⟩, z⟩
  · refine ⟨its.toList, r, ⟨o, n, I.kIn a o hk, hc, hd, by simpa using hs⟩, ?_⟩
    have e := r.length
    simp only [Array.length_toList] at e
    omega
theorem Inv.tuple (I : Inv X pins σ H s) (h : SqT X.K H a xs) : ∃ its : List Value, Vals xs its ∧ IsTup s.heap a its.toArray ∧ xs.length ≤ sizeLine := by
  rcases h with h | ⟨o, its, n, hk, hc, hs, hz, r⟩
  · obtain ⟨z, its, r, p⟩ := h.ok I.hok
    exact ⟨its, r, p, z⟩
  · refine ⟨its.toList, r, ⟨o, I.kIn a o hk, hc, n, by simpa using hs⟩, ?_⟩
    have e := r.length
    simp only [Array.length_toList] at e
    omega
theorem Inv.list_inj (I : Inv X pins σ H s) (h : SqL X.K H a xs) (h' : SqL X.K H a ys) : xs = ys := by
  obtain ⟨its, r, ⟨o, n, e, _, _, d⟩, _⟩ := I.list h
  obtain ⟨its', r', ⟨o', n', e', _, _, d'⟩, _⟩ := I.list h'
  rw [e] at e'; cases e'
  rw [d] at d'
  injection d' with d1 _
  have : its = its' := by simpa using congrArg Array.toList d1
  subst this
  exact r.inj r'
theorem Inv.tuple_inj (I : Inv X pins σ H s) (h : SqT X.K H a xs) (h' : SqT X.K H a ys) : xs = ys := by
  obtain ⟨its, r, ⟨o, e, _, n, d⟩, _⟩ := I.tuple h
  obtain ⟨its', r', ⟨o', e', _, n', d'⟩, _⟩ := I.tuple h'
  rw [e] at e'; cases e'
  rw [d] at d'
  injection d' with d1 _
  have : its = its' := by simpa using congrArg Array.toList d1
  subst this
  exact r.inj r'
end
noncomputable abbrev Cx.wish (X : Cx) (E : Value → Shared → Prop) : Cx := { X with xe := E }
noncomputable abbrev Cx.nox (X : Cx) : Cx := X.wish fun _ _ => False
theorem Cx.Ok.wish {X : Cx} (ok : X.Ok) (E : Value → Shared → Prop) : (X.wish E).Ok :=
  ⟨ok.mod, ok.kind, ok.glob, ok.blt, ok.above, ok.inj, ok.has, ok.cab, ok.hd, ok.hx, ok.frames, ok.stk, ok.exf, ok.bs, ok.bsz, ok.noex, ok.exfs, ok.funs, ok.frf⟩
theorem Cx.Ok.unwish {X : Cx} {E : Value → Shared → Prop} (ok : (X.wish E).Ok) : X.Ok :=
  ⟨ok.mod, ok.kind, ok.glob, ok.blt, ok.above, ok.inj, ok.has, ok.cab, ok.hd, ok.hx, ok.frames, ok.stk, ok.exf, ok.bs, ok.bsz, ok.noex, ok.exfs, ok.funs, ok.frf⟩
section
variable {X : Cx} {pins : List (Addr × Obj)} {σ : St} {H : Hp} {s : Shared} {E : Value → Shared → Prop}
theorem Inv.wish (I : Inv X pins σ H s) (E : Value → Shared → Prop) : Inv (X.wish E) pins σ H s := ⟨I.ok.wish E, I.os, I.bare, I.base, I.loc, I.cell, I.free, I.freeC, I.pin, I.hok, I.len⟩
theorem Inv.unwish (I : Inv (X.wish E) pins σ H s) : Inv X pins σ H s := ⟨I.ok.unwish, I.os, I.bare, I.base, I.loc, I.cell, I.free, I.freeC, I.pin, I.hok, I.len⟩
theorem SP.unwish {D : Ends} {f : Flow} {s' : Shared} (h : SP (X.wish E) pins D f s') : SP X pins D f s' := by
  cases f with
  | next => obtain ⟨σ', H', I, q⟩ := h; exact ⟨σ', H', I.unwish, q⟩
  | brk => obtain ⟨σ', H', I, q⟩ := h; exact ⟨σ', H', I.unwish, q⟩
  | cont => obtain ⟨σ', H', I, q⟩ := h; exact ⟨σ', H', I.unwish, q⟩
  | ret u => obtain ⟨v, σ', H', I, r, q⟩ := h; exact ⟨v, σ', H', I.unwish, r, q⟩
theorem PE.nox {e : Expr} {t : TE} (h : PE X.nox e t) : PE X e t := fun pins s σ H Q I hw =>
  wpAny_mono (h pins s σ H Q (I.wish _) hw) (fun _ _ ⟨v, H', I', r, q⟩ => ⟨v, H', I'.unwish, r, q⟩) fun _ _ z => False.elim z
theorem PT.nox {e : Expr} {t : TT} (h : PT X.nox e t) : PT X e t := fun pins s σ H Q I hw =>
  wpAny_mono (h pins s σ H Q (I.wish _) hw) (fun _ _ ⟨H', I', q⟩ => ⟨H', I'.unwish, q⟩) fun _ _ z => False.elim z
theorem PSs.nox {st : List Stmt} {t : TS} (h : PSs X.nox st t) : PSs X st t := fun pins s σ H D I hw =>
  wpAny_mono (h pins s σ H D (I.wish _) hw) (fun _ _ q => q.unwish) fun _ _ z => False.elim z
end
section
variable {X : Cx} {st : Stmt} {rest : List Stmt} {t u : TS} {e : Expr} {te : TE} {pos : Pos}
noncomputable def tNext : TS := fun D σ H => D.nx σ H
noncomputable def tSeq (t u : TS) : TS := fun D σ H => t { D with nx := u D } σ H
theorem pss_nil : PSs X [] tNext := fun _ _ σ H _ I h => wpAny_execs_nil ⟨σ, H, I, h⟩
theorem pss_cons (h1 : PS X st t) (h2 : PSs X rest u) : PSs X (st :: rest) (tSeq t u) := by
  intro pins s σ H D I h
  refine wpAny_execs_cons (thn (h1 pins s σ H { D with nx := u D } I h) fun f s1 q => ?_)
  cases f with
  | next =>
    obtain ⟨σ', H', I', q⟩ := q
    exact h2 pins s1 σ' H' D I' q
  | ret v => exact q
  | brk => exact q
  | cont => exact q
theorem pss_one (h1 : PS X st t) : PSs X [st] t := by
  intro pins s σ H D I h
  refine wpAny_execs_cons (thn (h1 pins s σ H D I h) fun f s1 q => ?_)
  cases f with
  | next => exact wpAny_execs_nil q
  | ret v => exact q
  | brk => exact q
  | cont => exact q
theorem Inv.quiet {pins : List (Addr × Obj)} {σ : St} {H : Hp} {s : Shared} (I : Inv X pins σ H s) : interactive X.env = false := by simp [interactive, I.ok.kind]
noncomputable def tDrop (te : TE) : TS := fun D σ H => te σ H fun _ H1 => D.nx σ H1
theorem ps_expr (he : PE X e te) (hs : swapsWith e none pos.line X.env = pure false := by rfl) : PS X (.Expr e pos) (tDrop te) := by
  intro pins s σ H D I h
  exact wpAny_Expr_any (thn (he pins s σ H _ I h) fun v s1 ⟨x, H1, I1, r1, q1⟩ => ⟨σ, H1, I1, q1⟩) I.quiet hs
noncomputable def tRet (te : TE) : TS := fun D σ H => te σ H D.rt
theorem ps_ret (he : PE X e te) : PS X (.Return (some e) pos) (tRet te) := by
  intro pins s σ H D I h
  exact wpAny_Return_some (thn (he pins s σ H _ I h) fun v s1 ⟨x, H1, I1, r1, q1⟩ => ⟨x, σ, H1, I1, r1, q1⟩)
noncomputable def tIfS (c : TT) (t u : TS) : TS := fun D σ H => c σ H fun b H1 => if b = true then t D σ H1 else u D σ H1
theorem ps_if {c : Expr} {a b : List Stmt} {tc : TT} (hc : PT X c tc) (ha : PSs X a t) (hb : PSs X b u) : PS X (.If c a b pos) (tIfS tc t u) := by
  intro pins s σ H D I h
  refine wpAny_If (thn (hc pins s σ H _ I h) fun d s1 ⟨H1, I1, q1⟩ => ?_)
  cases d with
  | true => exact ha pins s1 σ H1 D I1 q1
  | false => exact hb pins s1 σ H1 D I1 q1
end
noncomputable abbrev TG := V → St → Hp → (St → Hp → Prop) → Prop
noncomputable abbrev TGs := List V → St → Hp → (St → Hp → Prop) → Prop
noncomputable def PG (X : Cx) (target : Expr) (t : TG) : Prop :=
  ∀ (pins : List (Addr × Obj)) (s : Shared) (σ : St) (H : Hp) (v : V) (u : Value) (Q : St → Hp → Prop), Inv X pins σ H s → RelV v u → t v σ H Q →
    wpAny (model X.prog X.w) X.A (assign target X.env u) (fun _ s' => ∃ σ' H', Inv X pins σ' H' s' ∧ Q σ' H') X.xe s
noncomputable def PGs (X : Cx) (ts : List Expr) (t : TGs) : Prop :=
  ∀ (pins : List (Addr × Obj)) (s : Shared) (σ : St) (H : Hp) (vs : List V) (us : List Value) (Q : St → Hp → Prop), Inv X pins σ H s → Vals vs us → t vs σ H Q →
    wpAny (model X.prog X.w) X.A (assignInOrder ((assignEach ts X.env).map (·.2)) us) (fun _ s' => ∃ σ' H', Inv X pins σ' H' s' ∧ Q σ' H') X.xe s
noncomputable abbrev TSet := V → V → V → Hp → (Hp → Prop) → Prop
noncomputable def PSet (X : Cx) (t : TSet) : Prop :=
  ∀ (pins : List (Addr × Obj)) (s : Shared) (σ : St) (H : Hp) (o i v : V) (ov iv u : Value) (Q : Hp → Prop), Inv X pins σ H s → RelV o ov → RelV i iv → RelV v u → t o i v H Q →
    wpAny (model X.prog X.w) X.A (setItem ov iv u) (fun _ s' => ∃ H', Inv X pins σ H' s' ∧ Q H') X.xe s
section
variable {X : Cx} {pos : Pos}
noncomputable def gName (i : Nat) : TG := fun v σ H Q => Q (σ.set i (some v)) H
theorem pg_name {i : Nat} {x : Str} (hN : X.N.Nodup) (hi : X.N[i]? = some x) (hx : Loc X.env.scope x) (hf : X.fn x = true ∨ X.env.scope.names.lookup x = some .local := by first | exact .inl rfl | exact .inr rfl | assumption) : PG X (.Name x pos) (gName i) := by
  intro pins s σ H v u Q I r h
  exact wpAny_assign_Name (store_ok I hN hi hx r (fun s' I' => ⟨_, H, I', h⟩) hf)
noncomputable def gNil : TGs := fun vs σ H Q => vs = [] ∧ Q σ H
noncomputable def gCons (t : TG) (u : TGs) : TGs := fun vs σ H Q => ∃ v r, vs = v :: r ∧ t v σ H fun σ' H' => u r σ' H' Q
theorem pgs_nil : PGs X [] gNil := by
  intro pins s σ H vs us Q I r h
  obtain ⟨e, h⟩ := h
  subst e
  cases r
  exact assignInOrder_nil ⟨σ, H, I, h⟩
theorem pgs_cons {e : Expr} {es : List Expr} {t : TG} {u : TGs} (h1 : PG X e t) (h2 : PGs X es u)
    (hs : (assignEach (e :: es) X.env).map (·.2) = assign e X.env :: (assignEach es X.env).map (·.2) := by rfl) : PGs X (e :: es) (gCons t u) := by
  intro pins s σ H vs us Q I r h
  obtain ⟨v, vr, e1, h⟩ := h
  subst e1
  cases r with
  | cons r rr =>
    rw [hs]
    refine assignInOrder_cons (thn (h1 pins s σ H _ _ _ I r h) fun _ s1 ⟨σ1, H1, I1, q1⟩ => ?_)
    exact h2 pins s1 σ1 H1 _ _ Q I1 rr q1
noncomputable def gTup (K : W.Frag) (n : Nat) (t : TGs) : TG := fun v σ H Q => ∃ a xs, v = .ref a ∧ SqT K H a xs ∧ xs.length = n ∧ t xs σ H Q
theorem pg_tup {es : List Expr} {k : Nat} {t : TGs} {n : Nat} (hc : X.calm = true) (h : PGs X es t)
    (hn : (assignEach es X.env).length = n := by rfl) (hst : (assignEach es X.env).findIdx? (·.1) = none := by rfl) : PG X (.Tuple es k pos) (gTup X.K n t) := by
  intro pins s σ H v u Q I r hw
  obtain ⟨a, xs, e1, hq, hl, hw⟩ := hw
  subst e1
  cases r
  obtain ⟨its, rv, ht, hz⟩ := I.tuple hq
  refine assign_Tuple_tuple (I.ok.hd hc) ht (by simp [hn, ← hl, rv.length]) hst fun h' hx => ?_
  have I1 : Inv X pins σ H { s with heap := h' } := I.kept (t' := s.toks) fun b o e => hx b o (Nat.ne_of_lt (Heap.lt_size e)) e
  exact h pins _ σ H xs _ Q I1 (by simpa using rv) hw
noncomputable def gSub (to ti : TE) (t : TSet) : TG := fun v σ H Q => to σ H fun o H1 => ti σ H1 fun i H2 => t o i v H2 fun H3 => Q σ H3
theorem pg_sub {o i : Expr} {to ti : TE} {t : TSet} (ho : PE X o to) (hi : PE X i ti) (hs : PSet X t)
    (ha : ∀ v, assign (.Subscript o i pos) X.env v = (do
      let ov ← holding [v] (eval o X.env)
      let iv ← holding [v, ov] (eval i X.env)
      standAt pos
      holding [v, ov, iv] (setItem ov iv v)
      release [v, ov, iv] []) := by intro _; rfl) : PG X (.Subscript o i pos) (gSub to ti t) := by
  intro pins s σ H v u Q I r h
  rw [ha]
  refine wpAny_bind (wpAny_holding (thn (ho pins s σ H _ I h) fun ov s1 ⟨x, H1, I1, r1, q1⟩ => ?_))
  refine wpAny_bind (wpAny_holding (thn (hi pins s1 σ H1 _ I1 q1) fun iv s2 ⟨y, H2, I2, r2, q2⟩ => ?_))
  refine wpAny_bind (wpAny_standAt (wpAny_bind (wpAny_holding (thn (hs pins s2 σ H2 x y v ov iv u _ I2 r1 r2 r q2) fun _ s3 ⟨H3, I3, q3⟩ => ?_))))
  exact wpAny_release ⟨σ, H3, I3, q3⟩
noncomputable def tAsg (te : TE) (g : TG) : TS := fun D σ H => te σ H fun x H1 => g x σ H1 D.nx
theorem ps_asg {tg e : Expr} {te : TE} {g : TG} (he : PE X e te) (hg : PG X tg g) (hs : swapsWithSole [tg] e pos.line X.env = pure false := by rfl) (hw : swappedStores [tg] e X.env = pure none := by rfl)
    (h1 : (assignEach [tg] X.env).map (·.2) = [assign tg X.env] := by rfl) : PS X (.Assign [tg] e pos) (tAsg te g) := by
  intro pins s σ H D I h
  refine wpAny_Assign_stores (thn (he pins s σ H _ I h) fun v s1 ⟨x, H1, I1, r1, q1⟩ => ?_) hs hw
  rw [h1]
  exact thn (hg pins s1 σ H1 x v _ I1 r1 q1) fun _ s2 q => q
theorem ps_set {i : Nat} {x : Str} {e : Expr} {te : TE} {pos' : Pos} (hN : X.N.Nodup) (hi : X.N[i]? = some x) (hx : Loc X.env.scope x) (he : PE X e te) (hs : swapsWith e (some (.Name x pos')) pos.line X.env = pure false := by rfl) (hf : X.fn x = true ∨ X.env.scope.names.lookup x = some .local := by first | exact .inl rfl | exact .inr rfl | assumption) :
    PS X (.Assign [.Name x pos'] e pos) (tAsg te (gName i)) := by
  intro pins s σ H D I h
  refine wpAny_Assign_Name (thn (he pins s σ H _ I h) fun v s1 ⟨y, H1, I1, r1, q1⟩ => ?_) hs
  exact store_ok I1 hN hi hx r1 (fun s2 I2 => ⟨_, H1, I2, q1⟩) hf
end
section
variable {X : Cx} {pos : Pos}
end
structure It where
  go : Nat → Hp → Prop
  yld : Nat → Hp → V → Hp → Prop
  stop : Nat → Hp → Prop
noncomputable def FpOk (X : Cx) (pins : List (Addr × Obj)) (H : Hp) (b : Addr) : Prop :=
  H b = none ∧ b ≠ X.env.locals ∧ b ∉ X.fs ∧ (b ∈ X.ex ∨ X.s₀.heap.objs.size ≤ b) ∧ (∀ x c, X.env.cells.lookup x = some c → c ≠ b) ∧ ∀ p ∈ X.pn ++ pins, p.1 ≠ b
theorem Inv.fpOk {X : Cx} {pins : List (Addr × Obj)} {σ : St} {H H' : Hp} {s : Shared} {b : Addr} (I : Inv X pins σ H s) (hb : s.heap.objs.size ≤ b) (hn : H' b = none) : FpOk X pins H' b := by
  refine ⟨hn, Nat.ne_of_gt (Nat.lt_of_lt_of_le I.lt hb), I.nofs hb, .inr (Nat.le_trans I.sz hb), fun x c e z => ?_, fun p hp z => ?_⟩
  · obtain ⟨v, q⟩ := I.cell x c e
    exact absurd (Nat.lt_of_lt_of_le q.lt (by rw [z]; exact hb)) (Nat.lt_irrefl _)
  · exact absurd (Nat.lt_of_lt_of_le (Heap.lt_size (I.pin p hp).1) (by rw [z]; exact hb)) (Nat.lt_irrefl _)
structure Turn (P : Program) (w : World) (K : W.Frag) (tg : Expr) (J : It) (fp : List Addr) (it : Addr) (tn : Nat → Heap → Prop) : Prop where
  mem : it ∈ fp
  obj : ∀ i h, tn i h → ∀ b ∈ fp, ∃ o, h.get? b = some o ∧ ∀ v, o.data ≠ .cell v
  keep : ∀ i h h', tn i h → (∀ b ∈ fp, ∀ o, h.get? b = some o → h'.get? b = some o) → tn i h'
  item : ∀ (X : Cx), X.prog = P → X.w = w → X.K = K → ∀ (i : Nat) (pins : List (Addr × Obj)) (s : Shared) (σ : St) (H : Hp) (E : Value → Shared → Prop), Inv X pins σ H s → (∀ b ∈ fp, FpOk X pins H b) → tn i s.heap → J.go i H →
    wpAny (model P w) X.A (pyNext (.ref it)) (fun r s1 => ∃ u, r = some u ∧
      wpAny (model P w) X.A (letOwnedTupleGo tg (.ref it) u) (fun _ s2 => ∃ x H', Inv X pins σ H' s2 ∧ RelV x u ∧ J.yld i H x H' ∧ tn (i + 1) s2.heap ∧ ∀ b ∈ fp, H' b = none) E s1) E s
  done : ∀ (X : Cx), X.prog = P → X.w = w → X.K = K → ∀ (i : Nat) (pins : List (Addr × Obj)) (s : Shared) (σ : St) (H : Hp) (E : Value → Shared → Prop), Inv X pins σ H s → (∀ b ∈ fp, FpOk X pins H b) → tn i s.heap → J.stop i H →
    wpAny (model P w) X.A (pyNext (.ref it)) (fun r s1 => r = none ∧ Inv X pins σ H s1) E s
  self : ∀ (A : Around) (i : Nat) (s : Shared) (Q : Value → Shared → Prop) (E : Value → Shared → Prop), tn i s.heap → Q (.ref it) s → wpAny (model P w) A (pyIter (.ref it)) Q E s
noncomputable abbrev TI := St → Hp → (It → Hp → Prop) → Prop
noncomputable def PIE (X : Cx) (pins : List (Addr × Obj)) (σ : St) (tg : Expr) (R : It → Hp → Prop) (itv : Value) (s2 : Shared) : Prop :=
  ∃ (it : Addr) (fp : List Addr) (tn : Nat → Heap → Prop) (J : It) (H' : Hp), itv = .ref it ∧ Inv X pins σ H' s2 ∧ Turn X.prog X.w X.K tg J fp it tn ∧ tn 0 s2.heap ∧ (∀ b ∈ fp, FpOk X pins H' b) ∧ R J H'
noncomputable def PI (X : Cx) (tg iter : Expr) (wi : TI) : Prop :=
  ∀ (pins : List (Addr × Obj)) (s : Shared) (σ : St) (H : Hp) (R : It → Hp → Prop), Inv X pins σ H s → wi σ H R →
    wpAny (model X.prog X.w) X.A (eval iter X.env) (fun v s1 => wpAny (model X.prog X.w) X.A (pyIter v) (PIE X pins σ tg R) X.xe s1) X.xe s
theorem go_of {M : Model} {A : Around} {E : Value → Shared → Prop} {s : Shared} {tg : Expr} {it : Addr} {u : Value} {o : Obj} {n : String} {vs : Array Value} {Q : Unit → Shared → Prop} (ho : s.heap.get? it = some o) (hc : o.cls = .type n) (hd : o.data = .fields vs)
    (hn : ["enumerate", "zip", "dict_itemiterator", "dict_reverseitemiterator", "odict_iterator", "itertools.zip_longest", "itertools.pairwise"].contains n = false) (hQ : Q () s) : wpAny M A (letOwnedTupleGo tg (.ref it) u) Q E s := by
  unfold letOwnedTupleGo
  cases tg <;> first
    | exact wpAny_pure hQ
    | (cases u <;> first
        | exact wpAny_pure hQ
        | (refine wpAny_bind (wpAny_load ho ?_)
           rw [hc, hd]
           show wpAny M A (if (["enumerate", "zip", "dict_itemiterator", "dict_reverseitemiterator", "odict_iterator", "itertools.zip_longest", "itertools.pairwise"].contains n && vs[0]? == some (rawInt _)) = true then _ else _) Q E s
           rw [if_neg (by intro h; rw [hn, Bool.false_and] at h; cases h)]
           exact wpAny_pure hQ))
noncomputable def Itl (K : W.Frag) (a : Addr) : It :=
  ⟨fun i H => ∃ xs x, SqL K H a xs ∧ xs[i]? = some x, fun i H x H' => H' = H ∧ ∀ xs, SqL K H a xs → xs[i]? = some x, fun i H => ∃ xs, SqL K H a xs ∧ xs.length ≤ i⟩
noncomputable def Itt (K : W.Frag) (a : Addr) : It :=
  ⟨fun i H => ∃ xs x, SqT K H a xs ∧ xs[i]? = some x, fun i H x H' => H' = H ∧ ∀ xs, SqT K H a xs → xs[i]? = some x, fun i H => ∃ xs, SqT K H a xs ∧ xs.length ≤ i⟩
noncomputable def Itr (lo : Int) (n : Nat) : It := ⟨fun i _ => i < n, fun i H x H' => H' = H ∧ x = .int (lo + i), fun i _ => n ≤ i⟩
theorem HandA.keep {A : Around} {H H' : Hp} (x : HandA A H) (k : ∀ b o u, H b = some (.frz o u) → H' b = some (.frz o u)) : HandA A H' := by
  rcases x with x | ⟨a, o, cls, head, vs, x1, x2, x3⟩
  · exact .inl x
  · exact .inr ⟨a, o, cls, head, vs, x1, k _ _ _ x2, x3⟩
theorem HandA.at_ {A : Around} {P : Program} {w : World} {H : Hp} {h : Heap} (x : HandA A H) (ok : HOk P w H h) : L3.Hand A h := by
  rcases x with x | ⟨a, o, cls, head, vs, x1, x2, x3⟩
  · exact .inl x
  · exact .inr ⟨a, cls, head, x1, o, vs, (ok a _ x2).1, x3⟩
theorem Inv.handA {X : Cx} {pins : List (Addr × Obj)} {σ : St} {H : Hp} {s : Shared} (I : Inv X pins σ H s) : HandA X.A H := I.ok.hx.keep I.base.frzs
theorem Inv.hand {X : Cx} {pins : List (Addr × Obj)} {σ : St} {H : Hp} {s : Shared} (I : Inv X pins σ H s) : L3.Hand X.A s.heap := I.handA.at_ I.hok
theorem turn_list {P : Program} {w : World} {K : W.Frag} {tg : Expr} (a it : Addr) : Turn P w K tg (Itl K a) [it] it (fun i h => h.IsListIter it a i) where
  mem := by simp
  obj := fun i h st b hb => by
    have e : b = it := by simpa using hb
    subst e
    obtain ⟨o, e, c, d⟩ := st
    exact ⟨o, e, fun v z => by rw [d] at z; cases z⟩
  keep := fun i h h' st k => st.at fun o e => k it (by simp) o e
  item := by
    intro X hP hw hK i pins s σ H E I hf st hg
    subst hP hw hK
    obtain ⟨xs, x, hq, hx⟩ := hg
    obtain ⟨its, rv, p, hz⟩ := I.list hq
    obtain ⟨u, hu, ru⟩ := rv.get hx
    obtain ⟨f0, f1, f2, f3, f4, f5⟩ := hf it (by simp)
    refine wpAny_pyNext_list_item st p.isList (x := u) (by simpa using hu) fun h' st' sb => ?_
    have I1 : Inv X pins σ H { s with heap := h' } := I.turned (t' := s.toks) (fun b o hb e => (sb.2 b hb).trans e) f0 f1 f3 f4 f5
    obtain ⟨o, e, c, d⟩ := id st'
    exact ⟨u, rfl, go_of (s := { s with heap := h' }) e c d (by decide) ⟨x, H, I1, ru, ⟨rfl, fun ys hy => by rw [I.list_inj hy hq]; exact hx⟩, st', fun b hb => (hf b hb).1⟩⟩
  done := by
    intro X hP hw hK i pins s σ H E I hf st hg
    subst hP hw hK
    obtain ⟨xs, hq, hx⟩ := hg
    obtain ⟨its, rv, p, hz⟩ := I.list hq
    obtain ⟨f0, f1, f2, f3, f4, f5⟩ := hf it (by simp)
    have hl := rv.length
    exact L3.list_end I.hand st p.isList (by simp; omega) fun h' eb => ⟨rfl, I.turned (t' := s.toks) (fun b o hb e => eb b o hb e) f0 f1 f3 f4 f5⟩
  self := fun _ _ _ _ _ st h => wpAny_pyIter_listiter st h
theorem turn_tuple {P : Program} {w : World} {K : W.Frag} {tg : Expr} (a it : Addr) : Turn P w K tg (Itt K a) [it] it (fun i h => h.IsTupleIter it a i) where
  mem := by simp
  obj := fun i h st b hb => by
    have e : b = it := by simpa using hb
    subst e
    obtain ⟨o, e, c, d⟩ := st
    exact ⟨o, e, fun v z => by rw [d] at z; cases z⟩
  keep := fun i h h' st k => st.at fun o e => k it (by simp) o e
  item := by
    intro X hP hw hK i pins s σ H E I hf st hg
    subst hP hw hK
    obtain ⟨xs, x, hq, hx⟩ := hg
    obtain ⟨its, rv, p, hz⟩ := I.tuple hq
    obtain ⟨u, hu, ru⟩ := rv.get hx
    obtain ⟨f0, f1, f2, f3, f4, f5⟩ := hf it (by simp)
    refine wpAny_pyNext_tuple_item st (show s.heap.IsTuple a its.toArray from p) (x := u) (by simpa using hu) fun h' st' sb => ?_
    have I1 : Inv X pins σ H { s with heap := h' } := I.turned (t' := s.toks) (fun b o hb e => (sb.2 b hb).trans e) f0 f1 f3 f4 f5
    obtain ⟨o, e, c, d⟩ := id st'
    exact ⟨u, rfl, go_of (s := { s with heap := h' }) e c d (by decide) ⟨x, H, I1, ru, ⟨rfl, fun ys hy => by rw [I.tuple_inj hy hq]; exact hx⟩, st', fun b hb => (hf b hb).1⟩⟩
  done := by
    intro X hP hw hK i pins s σ H E I hf st hg
    subst hP hw hK
    obtain ⟨xs, hq, hx⟩ := hg
    obtain ⟨its, rv, p, hz⟩ := I.tuple hq
    obtain ⟨f0, f1, f2, f3, f4, f5⟩ := hf it (by simp)
    have hl := rv.length
    exact L3.tuple_end I.hand st (show s.heap.IsTuple a its.toArray from p) (by simp; omega) fun h' eb => ⟨rfl, I.turned (t' := s.toks) (fun b o hb e => eb b o hb e) f0 f1 f3 f4 f5⟩
  self := fun _ _ _ _ _ st h => wpAny_pyIter_tupleiter st h
theorem turn_range {P : Program} {w : World} {K : W.Frag} {tg : Expr} (it : Addr) (lo : Int) (n : Nat) : Turn P w K tg (Itr lo n) [it] it (fun i h => IsRangeIter h it (lo + (i : Nat) * 1) ((n : Int) - (i : Nat)) 1) where
  mem := by simp
  obj := fun i h st b hb => by
    have e : b = it := by simpa using hb
    subst e
    exact ⟨_, st, fun v z => by
      have z' : Data.fields _ = Data.cell v := z
      cases z'⟩
  keep := fun i h h' st k => k it (by simp) _ st
  item := by
    intro X hP hw hK i pins s σ H E I hf st hg
    subst hP hw hK
    obtain ⟨f0, f1, f2, f3, f4, f5⟩ := hf it (by simp)
    refine wpAny_pyNext_range_item st (by have : i < n := hg; omega) fun h' st' kk => ?_
    have e1 : lo + (i : Nat) * 1 + 1 = lo + ((i + 1 : Nat) : Int) * 1 := by omega
    have e2 : (n : Int) - (i : Nat) - 1 = (n : Int) - ((i + 1 : Nat) : Int) := by omega
    rw [e1, e2] at st'
    have I1 : Inv X pins σ H { s with heap := h', toks := s.toks + 1 } := I.turned (fun b o hb e => (kk.2 b hb).trans e) f0 f1 f3 f4 f5
    refine ⟨_, rfl, go_of (s := { s with heap := h', toks := s.toks + 1 }) (n := "range_iterator") st' rfl rfl (by decide) ⟨.int (lo + i), H, I1, ⟨s.toks, ?_⟩, ⟨rfl, rfl⟩, st', fun b hb => (hf b hb).1⟩⟩
    rw [Int.mul_one]
  done := by
    intro X hP hw hK i pins s σ H E I hf st hg
    subst hP hw hK
    obtain ⟨f0, f1, f2, f3, f4, f5⟩ := hf it (by simp)
    exact L3.range_end I.hand st (by have : n ≤ i := hg; omega) fun h' eb => ⟨rfl, I.turned (t' := s.toks) (fun b o hb e => eb b o hb e) f0 f1 f3 f4 f5⟩
  self := fun _ _ _ _ _ st h => wpAny_pyIter_rangeiter st h
end L2
namespace L2
open PySem PySem.Spec PyProof.Rows
section
variable {X : Cx} {tg : Expr}
theorem range_it {pins : List (Addr × Obj)} {σ : St} {H : Hp} {s : Shared} {R : It → Hp → Prop} {E : Value → Shared → Prop} {lo hi : Int} {t u v : Tok} {tk : Nat} (I : Inv X pins σ H s) (h1 : -(2 ^ 62) ≤ lo) (h2 : lo < 2 ^ 62) (h3 : -(2 ^ 62) ≤ hi) (h4 : hi < 2 ^ 62)
    (q : R (Itr lo (hi - lo).toNat) H) : wpAny (model X.prog X.w) X.A (pyIter (.ref s.heap.objs.size)) (PIE X pins σ tg R) E { s with heap := s.heap.push { cls := .type "range", data := .fields #[.int lo t, .int hi u, .int 1 v] }, toks := tk } := by
  refine wpAny_pyIter_range (IsRange.new ..) (small_one h1 h2 h3 h4) ?_
  have I1 : Inv X pins σ H { s with heap := s.heap.push { cls := .type "range", data := .fields #[.int lo t, .int hi u, .int 1 v] }, toks := tk } := I.kept fun b o e => Heap.get?_push_of_some _ e
  refine ⟨(s.heap.push { cls := .type "range", data := .fields #[.int lo t, .int hi u, .int 1 v] }).objs.size, [(s.heap.push { cls := .type "range", data := .fields #[.int lo t, .int hi u, .int 1 v] }).objs.size], _, _, H, rfl,
    I1.kept (t' := tk) fun b o e => Heap.get?_push_of_some _ e, turn_range _ lo (hi - lo).toNat, ?_, fun b hb => ?_, q⟩
  · have e1 : lo + ((0 : Nat) : Int) * 1 = lo := by simp
    have e2 : (((hi - lo).toNat : Nat) : Int) - ((0 : Nat) : Int) = Builtin.Range.rangeSize lo hi 1 := by rw [rangeSize_one]; split <;> omega
    show IsRangeIter _ _ (lo + ((0 : Nat) : Int) * 1) ((((hi - lo).toNat : Nat) : Int) - ((0 : Nat) : Int)) 1
    rw [e1, e2]
    exact Heap.get?_push_size _ rfl
  · have e : b = (s.heap.push { cls := .type "range", data := .fields #[.int lo t, .int hi u, .int 1 v] }).objs.size := by simpa using hb
    subst e
    exact I1.fpOk (Nat.le_refl _) (I1.hok.fresh (Nat.le_refl _))
noncomputable def iRng1 (ta : TA) : TI := fun σ H R => ta σ H fun vs H1 => ∃ j : Int, vs = [.int j] ∧ -(2 ^ 62) ≤ j ∧ j < 2 ^ 62 ∧ R (Itr 0 j.toNat) H1
theorem pi_range1 {a : Expr} {ta : TA} {p pos : Pos} (hg : Gl X "range") (hm : X.mg "range" = none) (ha : PA X [a] ta) (hs : starEach [a] X.env = [(false, eval a X.env)] := by rfl) : PI X tg (.Call (.Name "range" p) [a] [] pos) (iRng1 ta) := by
  intro pins s σ H R I h
  refine Call_ (ld_blt I hg hm boot_range (PyProof.Rows.callWith_type1 (thn (ha pos pins s σ H _ I h) fun us s1 ⟨vs, H1, I1, r1, q1⟩ => ?_) hs rfl))
  obtain ⟨j, e, q1, q2, q⟩ := q1
  subst e
  cases r1 with
  | cons r rr =>
    cases rr
    obtain ⟨t, rfl⟩ := r
    exact call_range_1 (range_it I1 (by omega) (by omega) q1 q2 (by simpa using q))
noncomputable def tFor (wi : TI) (g : TG) (tb : TS) : TS := fun D σ H => wi σ H fun J H1 => ∃ W : Nat → Nat → St → Hp → Prop, (∃ m, W 0 m σ H1) ∧ ∀ i m σ H, W i m σ H →
  (J.stop i H ∧ D.nx σ H) ∨ (J.go i H ∧ ∃ N : St → Hp → Prop, (∀ σ' H', N σ' H' → ∃ m', m' < m ∧ W (i + 1) m' σ' H') ∧ ∀ x H', J.yld i H x H' → g x σ H' fun σ2 H2 => tb { D with nx := N, ct := N, bk := D.nx } σ2 H2)
noncomputable def pinsAt (fp : List Addr) (h : Heap) : List (Addr × Obj) := fp.filterMap fun b => (h.get? b).map fun o => (b, o)
theorem mem_pinsAt {fp : List Addr} {h : Heap} {b : Addr} {o : Obj} (hb : b ∈ fp) (e : h.get? b = some o) : (b, o) ∈ pinsAt fp h := List.mem_filterMap.mpr ⟨b, hb, by rw [e]; rfl⟩
theorem of_pinsAt {fp : List Addr} {h : Heap} {p : Addr × Obj} (hp : p ∈ pinsAt fp h) : p.1 ∈ fp ∧ h.get? p.1 = some p.2 := by
  obtain ⟨b, hb, e⟩ := List.mem_filterMap.mp hp
  cases q : h.get? b with
  | none => rw [q] at e; cases e
  | some o =>
    rw [q] at e
    have e' : (b, o) = p := Option.some.inj e
    subst e'
    exact ⟨hb, q⟩
theorem Inv.pinned {pins : List (Addr × Obj)} {σ : St} {H : Hp} {s : Shared} {fp : List Addr} (I : Inv X pins σ H s) (hf : ∀ b ∈ fp, FpOk X pins H b) (ho : ∀ b ∈ fp, ∃ o, s.heap.get? b = some o ∧ ∀ v, o.data ≠ .cell v) : Inv X (pins ++ pinsAt fp s.heap) σ H s :=
  I.pins_of fun p hp => (List.mem_append.mp hp).elim (fun z => I.pin p (List.mem_append_right _ z)) fun z => by
    obtain ⟨hb, e⟩ := of_pinsAt z
    obtain ⟨f0, f1, f2, _⟩ := hf p.1 hb
    obtain ⟨o, e', d⟩ := ho p.1 hb
    rw [e] at e'; cases e'
    exact ⟨e, f0, f1, f2, d⟩
theorem Inv.unpinned {pins pl : List (Addr × Obj)} {σ : St} {H : Hp} {s : Shared} (I : Inv X (pins ++ pl) σ H s) : Inv X pins σ H s := I.pins_of fun p hp => I.pin p (List.mem_append_right _ (List.mem_append_left _ hp))
theorem ps_for {iter : Expr} {body : List Stmt} {wi : TI} {g : TG} {tb : TS} {pos : Pos} (hp : PassesOwn (model X.prog X.w) X.A X.env X.xe) (hc : X.calm = true) (hi : PI X tg iter wi) (hg : PG X tg g) (hb : PSs X body tb)
    (hs : ∀ x, foldedSetIterable iter X.env x = pure x := by intro _; rfl) : PS X (.For tg iter body [] pos) (tFor wi g tb) := by
  intro pins s σ H D I h
  refine wpAny_For (thn (hi pins s σ H _ I h) fun v s1 h1 => thn h1 fun itv s2 h2 => ?_) hs
  obtain ⟨it, fp, tn, J, H2, e, I2, T, st2, f2, W, ⟨m0, w0⟩, turn⟩ := h2
  subst e
  have stat : ∀ {H' : Hp}, (∀ b ∈ fp, H' b = none) → ∀ b ∈ fp, FpOk X pins H' b := fun hn b hb => ⟨hn b hb, (f2 b hb).2⟩
  refine codeAny_forLoop_any (fun n s' => ∃ i σ' H', Inv X pins σ' H' s' ∧ tn i s'.heap ∧ (∀ b ∈ fp, H' b = none) ∧ W i n σ' H') ?_ m0 ⟨0, σ, H2, I2, st2, fun b hb => (f2 b hb).1, w0⟩
  rintro n s3 ⟨i, σ3, H3, I3, st3, fr3, w3⟩
  rcases turn i n σ3 H3 w3 with ⟨stop, qn⟩ | ⟨go, N, hN, step⟩
  · refine wpAny_passesOwn hp (thn (T.done X rfl rfl rfl i pins s3 σ3 H3 X.xe I3 (stat fr3) st3 stop) fun r s4 ⟨hr, I4⟩ => ?_)
    subst hr
    exact wpAny_execs_nil ⟨σ3, H3, I4, qn⟩
  · refine wpAny_passesOwn hp (thn (T.item X rfl rfl rfl i pins s3 σ3 H3 X.xe I3 (stat fr3) st3 go) fun r s4 ⟨u, hr, h4⟩ => ?_)
    subst hr
    refine wpAny_passesOwn hp (thn h4 fun _ s5 ⟨x, H5, I5, r5, y5, st5, fr5⟩ => ?_)
    have I5' := I5.pinned (stat fr5) (T.obj _ _ st5)
    refine wpAny_passesOwn hp (thn (hg _ s5 σ3 H5 x u _ I5' r5 (step x H5 y5)) fun _ s6 ⟨σ6, H6, I6, q6⟩ => ?_)
    refine wpAny_passesOwn hp (thn (hb _ s6 σ6 H6 _ I6 q6) fun f s7 q7 => ?_)
    have again : ∀ {σ7 : St} {H7 : Hp}, Inv X (pins ++ pinsAt fp s5.heap) σ7 H7 s7 → N σ7 H7 → ∃ m, m < n ∧ ∃ i σ' H', Inv X pins σ' H' s7 ∧ tn i s7.heap ∧ (∀ b ∈ fp, H' b = none) ∧ W i m σ' H' := fun {σ7 H7} I7 n7 => by
      obtain ⟨m', hm, w7⟩ := hN σ7 H7 n7
      refine ⟨m', hm, i + 1, σ7, H7, I7.unpinned, T.keep _ _ _ st5 fun b hb o e => (I7.pin (b, o) (List.mem_append_right _ (List.mem_append_right _ (mem_pinsAt hb e)))).1, fun b hb => ?_, w7⟩
      obtain ⟨o, e, d⟩ := T.obj _ _ st5 b hb
      exact (I7.pin (b, o) (List.mem_append_right _ (List.mem_append_right _ (mem_pinsAt hb e)))).2.1
    cases f with
    | next => obtain ⟨σ7, H7, I7, n7⟩ := q7; exact again I7 n7
    | cont => obtain ⟨σ7, H7, I7, n7⟩ := q7; exact again I7 n7
    | brk => obtain ⟨σ7, H7, I7, q7⟩ := q7; exact ⟨σ7, H7, I7.unpinned, q7⟩
    | ret v => obtain ⟨x7, σ7, H7, I7, r7, q7⟩ := q7; exact ⟨x7, σ7, H7, I7.unpinned, r7, q7⟩
end
end L2
namespace L2
open PySem PySem.Spec PyProof.Rows
noncomputable abbrev R2 := V → V → Hp → VK → Prop
noncomputable def OpR (X : Cx) (f : Value → Value → Sem Value) (r : R2) : Prop :=
  ∀ (pins : List (Addr × Obj)) (s : Shared) (σ : St) (H : Hp) (x y : V) (v u : Value) (Q : VK), Inv X pins σ H s → RelV x v → RelV y u → r x y H Q →
    wpAny (model X.prog X.w) X.A (f v u) (EP X pins σ Q) X.xe s
noncomputable def UnR (X : Cx) (f : Value → Sem Value) (r : V → Hp → VK → Prop) : Prop :=
  ∀ (pins : List (Addr × Obj)) (s : Shared) (σ : St) (H : Hp) (x : V) (v : Value) (Q : VK), Inv X pins σ H s → RelV x v → r x H Q →
    wpAny (model X.prog X.w) X.A (f v) (EP X pins σ Q) X.xe s
noncomputable def CallR (X : Cx) (f : Value) (r : List V → Hp → VK → Prop) : Prop :=
  ∀ (pins : List (Addr × Obj)) (s : Shared) (σ : St) (H : Hp) (xs : List V) (us : List Value) (Q : VK), Inv X pins σ H s → Vals xs us → r xs H Q →
    wpAny (model X.prog X.w) X.A (call f us) (EP X pins σ Q) X.xe s
noncomputable def TruR (X : Cx) (r : V → Hp → (Bool → Hp → Prop) → Prop) : Prop :=
  ∀ (pins : List (Addr × Obj)) (s : Shared) (σ : St) (H : Hp) (x : V) (v : Value) (Q : Bool → Hp → Prop), Inv X pins σ H s → RelV x v → r x H Q →
    wpAny (model X.prog X.w) X.A (truthy v) (TP X pins σ Q) X.xe s
noncomputable def tOp (r : R2) (ta tb : TE) : TE := fun σ H Q => ta σ H fun x H1 => tb σ H1 fun y H2 => r x y H2 Q
noncomputable def tUn (r : V → Hp → VK → Prop) (ta : TE) : TE := fun σ H Q => ta σ H fun x H1 => r x H1 Q
noncomputable def rI (C : Int → Int → Prop) (g : Int → Int → V) : R2 := fun x y H Q => ∃ i j, x = .int i ∧ y = .int j ∧ C i j ∧ Q (g i j) H
noncomputable def rI0 (g : Int → Int → V) : R2 := fun x y H Q => ∃ i j, x = .int i ∧ y = .int j ∧ Q (g i j) H
noncomputable def rU (g : Int → V) : V → Hp → VK → Prop := fun x H Q => ∃ i, x = .int i ∧ Q (g i) H
section
variable {X : Cx} {a b c : Expr} {ta tb tc : TE} {pos : Pos}
theorem binT (ha : PE X a ta) (hb : PE X b tb) {pins : List (Addr × Obj)} {s : Shared} {σ : St} {H : Hp} {R : V → V → Hp → Prop} (I : Inv X pins σ H s)
    (h : ta σ H fun x H1 => tb σ H1 fun y H2 => R x y H2) {Q : Value → Shared → Prop} {f : Value → Value → Sem Value}
    (hf : ∀ v u s2 x y H2, Inv X pins σ H2 s2 → RelV x v → RelV y u → R x y H2 → wpAny (model X.prog X.w) X.A (f v u) Q X.xe s2) :
    wpAny (model X.prog X.w) X.A (eval a X.env) (fun v s₁ => wpAny (model X.prog X.w) X.A (eval b X.env) (fun u s₂ => wpAny (model X.prog X.w) X.A (f v u) Q X.xe s₂) X.xe s₁) X.xe s := by
  refine thn (ha pins s σ H _ I h) fun v s1 ⟨x, H1, I1, r1, q1⟩ => ?_
  refine thn (hb pins s1 σ H1 _ I1 q1) fun u s2 ⟨y, H2, I2, r2, q2⟩ => ?_
  exact hf v u s2 x y H2 I2 r1 r2 q2
theorem pe_op {op : Operator} {r : R2} (ho : OpR X (binaryOp op) r) (ha : PE X a ta) (hb : PE X b tb) : PE X (.BinOp a op b pos) (tOp r ta tb) := by
  intro pins s σ H Q I h
  exact wpAny_BinOp (binT ha hb I h fun v u s2 x y H2 I2 rx ry q => ho pins s2 σ H2 x y v u Q I2 rx ry q)
theorem pe_un {op : UnaryOp} {r : V → Hp → VK → Prop} (ho : UnR X (unaryOp op) r) (ha : PE X a ta) : PE X (.UnaryOp op a pos) (tUn r ta) := by
  intro pins s σ H Q I h
  exact UnaryOp_ (thn (ha pins s σ H _ I h) fun v s1 ⟨x, H1, I1, r1, q1⟩ => ho pins s1 σ H1 x v Q I1 r1 q1)
theorem opI {f : Value → Value → Sem Value} {C : Int → Int → Prop} {g : Int → Int → Int}
    (rule : ∀ (i j : Int) (t u : Tok) (s : Shared) (Q : Value → Shared → Prop) (E : Value → Shared → Prop), C i j → Q (.int (g i j) s.toks) { s with toks := s.toks + 1 } → wpAny (model X.prog X.w) X.A (f (.int i t) (.int j u)) Q E s) :
    OpR X f (rI C fun i j => .int (g i j)) := by
  intro pins s σ H x y v u Q I rx ry h
  obtain ⟨i, j, rfl, rfl, hc, q⟩ := h
  obtain ⟨t, rfl⟩ := rx
  obtain ⟨t', rfl⟩ := ry
  exact rule i j t t' s _ _ hc ⟨.int (g i j), H, I.tok _, ⟨_, rfl⟩, q⟩
theorem opI0 {f : Value → Value → Sem Value} {g : Int → Int → Int}
    (rule : ∀ (i j : Int) (t u : Tok) (s : Shared) (Q : Value → Shared → Prop) (E : Value → Shared → Prop), Q (.int (g i j) s.toks) { s with toks := s.toks + 1 } → wpAny (model X.prog X.w) X.A (f (.int i t) (.int j u)) Q E s) :
    OpR X f (rI0 fun i j => .int (g i j)) := by
  intro pins s σ H x y v u Q I rx ry h
  obtain ⟨i, j, rfl, rfl, q⟩ := h
  obtain ⟨t, rfl⟩ := rx
  obtain ⟨t', rfl⟩ := ry
  exact rule i j t t' s _ _ ⟨.int (g i j), H, I.tok _, ⟨_, rfl⟩, q⟩
theorem opB0 {f : Value → Value → Sem Value} {g : Int → Int → Bool}
    (rule : ∀ (i j : Int) (t u : Tok) (s : Shared) (Q : Value → Shared → Prop) (E : Value → Shared → Prop), Q (.bool (g i j)) s → wpAny (model X.prog X.w) X.A (f (.int i t) (.int j u)) Q E s) :
    OpR X f (rI0 fun i j => .bl (g i j)) := by
  intro pins s σ H x y v u Q I rx ry h
  obtain ⟨i, j, rfl, rfl, q⟩ := h
  obtain ⟨t, rfl⟩ := rx
  obtain ⟨t', rfl⟩ := ry
  exact rule i j t t' s _ _ ⟨.bl (g i j), H, I, rfl, q⟩
noncomputable def CPow (i j : Int) : Prop := 0 ≤ j ∧ j ≤ 1000000 ∧ i.natAbs < 2 ^ 64
noncomputable def CMul (i j : Int) : Prop := (-(2 ^ 64) < i ∧ i < 2 ^ 64) ∨ (-(2 ^ 64) < j ∧ j < 2 ^ 64)
theorem CMul.ok {i j : Int} (h : CMul i j) : IntMulOk i j := by
  rcases h with ⟨h1, h2⟩ | ⟨h1, h2⟩
  · exact .of_left (intBits_le_64 h1 h2)
  · exact .of_right (intBits_le_64 h1 h2)
theorem op_add : OpR X (binaryOp .Add) (rI0 fun i j => .int (i + j)) := opI0 fun _ _ _ _ _ _ _ q => add_int q
theorem op_sub : OpR X (binaryOp .Sub) (rI0 fun i j => .int (i - j)) := opI0 fun _ _ _ _ _ _ _ q => sub_int q
theorem op_mul : OpR X (binaryOp .Mult) (rI CMul fun i j => .int (i * j)) := opI fun _ _ _ _ _ _ _ hc q => mul_int q hc.ok
theorem op_mod : OpR X (binaryOp .Mod) (rI (fun _ j => 0 < j) fun i j => .int (i % j)) := opI fun i j _ _ _ _ _ hc q => by
  have h1 : (0 : Int) < j := hc
  exact mod_int' (by omega) (by rw [Int.fmod_eq_emod_of_nonneg i (by omega)]; exact q)
theorem op_pow : OpR X (binaryOp .Pow) (rI CPow fun i j => .int (i ^ j.toNat)) := opI fun _ _ _ _ _ _ _ hc q => pow_int_small hc.1 hc.2.1 hc.2.2 q
theorem op_or : OpR X (binaryOp .BitOr) (rI0 fun i j => .int (Builtin.bitOr i j)) := opI0 fun _ _ _ _ _ _ _ q => or_int q
theorem unI {f : Value → Sem Value} {g : Int → Int}
    (rule : ∀ (i : Int) (t : Tok) (s : Shared) (Q : Value → Shared → Prop) (E : Value → Shared → Prop), Q (.int (g i) s.toks) { s with toks := s.toks + 1 } → wpAny (model X.prog X.w) X.A (f (.int i t)) Q E s) :
    UnR X f (rU fun i => .int (g i)) := by
  intro pins s σ H x v Q I rx h
  obtain ⟨i, rfl, q⟩ := h
  obtain ⟨t, rfl⟩ := rx
  exact rule i t s _ _ ⟨.int (g i), H, I.tok _, ⟨_, rfl⟩, q⟩
theorem un_neg : UnR X (unaryOp .USub) (rU fun i => .int (-i)) := unI fun _ _ _ _ _ q => neg_int q
end
section
variable {X : Cx} {a b c : Expr} {ta tb tc : TE} {pos : Pos}
theorem fin_bl {pins : List (Addr × Obj)} {σ : St} {H : Hp} {s : Shared} {Q : VK} {k k' : Bool} (I : Inv X pins σ H s) (q : Q (.bl k) H) (e : k = k') : EP X pins σ Q (.bool k') s := by
  subst e
  exact ⟨.bl k, H, I, rfl, q⟩
theorem op_lt : OpR X (compareOp .Lt) (rI0 fun i j => .bl (decide (i < j))) := opB0 fun _ _ _ _ _ _ _ q => lt_int q
theorem op_le : OpR X (compareOp .LtE) (rI0 fun i j => .bl (decide (i ≤ j))) := opB0 fun _ _ _ _ _ _ _ q => le_int q
theorem op_gt : OpR X (compareOp .Gt) (rI0 fun i j => .bl (decide (j < i))) := opB0 fun _ _ _ _ _ _ _ q => gt_int q
theorem op_ge : OpR X (compareOp .GtE) (rI0 fun i j => .bl (decide (j ≤ i))) := opB0 fun _ _ _ _ _ _ _ q => ge_int q
theorem op_isN : OpR X (compareOp .Is) (fun x y H Q => y = .non ∧ Q (.bl (decide (x = .non))) H) := by
  intro pins s σ H x y v u Q I rx ry h
  obtain ⟨rfl, q⟩ := h
  cases ry
  refine is_none_gen (fin_bl I q ?_)
  cases x <;> first
    | (cases rx; rfl)
    | (obtain ⟨t, rfl⟩ := rx; rfl)
theorem OpR.or {f : Value → Value → Sem Value} {r r' : R2} (h : OpR X f r) (h' : OpR X f r') : OpR X f (fun x y H Q => r x y H Q ∨ r' x y H Q) := by
  intro pins s σ H x y v u Q I rx ry q
  rcases q with q | q
  · exact h pins s σ H x y v u Q I rx ry q
  · exact h' pins s σ H x y v u Q I rx ry q
theorem pe_cmpR {op : CmpOp} {r : R2} (ho : OpR X (compareOp op) r) (ha : PE X a ta) (hb : PE X b tb) (hm : behindInMarks op b = false) : PE X (.Compare a [op] [b] pos) (tOp r ta tb) := by
  intro pins s σ H Q I h
  exact wpAny_Compare1 (binT ha hb I h fun v u s2 x y H2 I2 rx ry q => ho pins s2 σ H2 x y v u Q I2 rx ry q) hm
noncomputable def tTest (t : TE) : TT := fun σ H Q => t σ H fun x H' => ∃ k, x = .bl k ∧ Q k H'
theorem pt_cmpR {op : CmpOp} {r : R2} (ho : OpR X (compareOp op) r) (ha : PE X a ta) (hb : PE X b tb) (hm : behindInMarks op b = false) : PT X (.Compare a [op] [b] pos) (tTest (tOp r ta tb)) := by
  intro pins s σ H Q I h
  refine wpAny_isTrue_Compare1 (thn (ha pins s σ H _ I h) fun v s1 ⟨x, H1, I1, r1, q1⟩ => thn (hb pins s1 σ H1 _ I1 q1) fun u s2 ⟨y, H2, I2, r2, q2⟩ =>
    thn (ho pins s2 σ H2 x y v u _ I2 r1 r2 q2) fun c s3 ⟨z, H3, I3, r3, k, e, q3⟩ => ?_) hm
  subst e
  cases r3
  exact wpAny_truthy_bool ⟨H3, I3, q3⟩
noncomputable def TruV (K : W.Frag) (x : V) (H : Hp) (k : Bool) : Prop :=
  match x with
  | .non => k = false
  | .bl b => k = b
  | .int i => k = (i != 0)
  | .str y => y.length ≤ sizeLine ∧ k = ((y.length : Int) != 0)
  | .byt y => y.size ≤ sizeLine ∧ k = ((y.size : Int) != 0)
  | .ref p => (∃ xs, SqL K H p xs ∧ k = !xs.isEmpty) ∨ (∃ xs, SqT K H p xs ∧ k = !xs.isEmpty) ∨ ∃ kvs, H p = some (.dK kvs) ∧ k = !kvs.isEmpty
  | _ => False
theorem isEmpty_kv {κ : Type} {kvs : List (κ × V)} {vs : List (κ × Value)} (r : KV kvs vs) : (!vs.isEmpty) = !kvs.isEmpty := by
  cases r <;> rfl
theorem isEmpty_of {xs : List V} {its : List Value} (r : Vals xs its) : (!its.toArray.isEmpty) = !xs.isEmpty := by
  cases r <;> simp
theorem line63 : (sizeLine : Nat) < 2 ^ 63 := by rw [sizeLine_eq]; decide
theorem tru_ok : TruR X (fun x H Q => ∃ k, TruV X.K x H k ∧ Q k H) := by
  intro pins s σ H x v Q I rx h
  obtain ⟨k, e, q⟩ := h
  have hl := line63
  have hs : sizeLine = 16777216 := sizeLine_eq
  cases x with
  | non =>
    cases rx
    have e' : k = false := e
    subst e'
    exact truthy_none ⟨H, I, q⟩
  | bl b =>
    cases rx
    have e' : k = b := e
    subst e'
    exact wpAny_truthy_bool ⟨H, I, q⟩
  | int i =>
    obtain ⟨t, rfl⟩ := rx
    have e' : k = (i != 0) := e
    subst e'
    exact PySem.P.truthy_int ⟨H, I, q⟩
  | str y =>
    obtain ⟨t, rfl⟩ := rx
    obtain ⟨hy, e'⟩ : y.length ≤ sizeLine ∧ k = ((y.length : Int) != 0) := e
    subst e'
    exact PySem.P.truthy_str (by omega) ⟨H, I.tok _, q⟩
  | byt y =>
    obtain ⟨t, rfl⟩ := rx
    obtain ⟨hy, e'⟩ : y.size ≤ sizeLine ∧ k = ((y.size : Int) != 0) := e
    subst e'
    exact W.truthy_bytes (by omega) ⟨H, I.tok _, q⟩
  | ref p =>
    cases rx
    have e' : (∃ xs, SqL X.K H p xs ∧ k = !xs.isEmpty) ∨ (∃ xs, SqT X.K H p xs ∧ k = !xs.isEmpty) ∨ ∃ kvs, H p = some (.dK kvs) ∧ k = !kvs.isEmpty := e
    rcases e' with ⟨xs, hx, e'⟩ | ⟨xs, hx, e'⟩ | ⟨kvs, hx, e'⟩
    · subst e'
      obtain ⟨its, r, pl, hz⟩ := I.list hx
      have hlen := r.length
      exact wpAny_truthy_list pl.isList (by simp only [List.size_toArray]; omega) ⟨H, I.tok _, by rw [isEmpty_of r]; exact q⟩
    · subst e'
      obtain ⟨its, r, pl, hz⟩ := I.tuple hx
      have hlen := r.length
      exact truthy_tuple pl (by simp only [List.size_toArray]; omega) ⟨H, I.tok _, by rw [isEmpty_of r]; exact q⟩
    · subst e'
      obtain ⟨hz, hS, vs, r, m⟩ : kvs.length ≤ sizeLine ∧ (p == sysModules) = false ∧ ∃ vs, KV kvs vs ∧ s.heap.DictOf (mixKind X.prog X.w) p vs := I.hok p _ hx
      have hlen : kvs.length = vs.length := Paired.length r
      exact wpAny_truthy_dict hS m (by omega) ⟨H, I.tok _, by rw [isEmpty_kv r]; exact q⟩
  | _ => exact (show False from e).elim
theorem pt_truth (ha : PE X a ta) (he : ∀ whole, isTrue a X.env whole = (do let v ← whole; standAt a.pos; holding [v] (truthy v))) :
    PT X a (fun σ H Q => ta σ H fun x H' => ∃ k, TruV X.K x H' k ∧ Q k H') := by
  intro pins s σ H Q I h
  exact isTrue_plain (thn (ha pins s σ H _ I h) fun v s1 ⟨x, H1, I1, r1, q1⟩ => tru_ok pins s1 σ H1 x v Q I1 r1 q1) (he _)
theorem op_add_str : OpR X (binaryOp .Add) (fun x y H Q => ∃ i j, x = .str i ∧ y = .str j ∧ i.length + j.length ≤ sizeLine ∧ Q (.str (i ++ j)) H) := by
  intro pins s σ H x y v u Q I rx ry h
  obtain ⟨i, j, rfl, rfl, hz, q⟩ := h
  obtain ⟨t, rfl⟩ := rx
  obtain ⟨t', rfl⟩ := ry
  exact add_str (fun t' tk => ⟨.str (i ++ j), H, I.tok _, ⟨_, rfl⟩, q⟩) hz
theorem vals1 {x : V} {us : List Value} (r : Vals [x] us) : ∃ u, us = [u] ∧ RelV x u := by
  cases r with
  | cons r1 r2 => cases r2; exact ⟨_, rfl, r1⟩
theorem vals2 {x y : V} {us : List Value} (r : Vals [x, y] us) : ∃ u w', us = [u, w'] ∧ RelV x u ∧ RelV y w' := by
  cases r with
  | cons r1 r2 =>
    cases r2 with
    | cons r3 r4 => cases r4; exact ⟨_, _, rfl, r1, r3⟩
theorem call_max2 (hc : X.calm = true) : CallR X (.builtin "max") (fun xs H Q => ∃ i j, xs = [.int i, .int j] ∧ Q (.int (if j > i then j else i)) H) := by
  intro pins s σ H xs us Q I r h
  obtain ⟨i, j, rfl, q⟩ := h
  obtain ⟨u, w', rfl, ⟨t, rfl⟩, ⟨t', rfl⟩⟩ := vals2 r
  refine max_two_ints (I.ok.hd hc) fun h' tk k => ⟨_, H, I.kept k, ?_, q⟩
  by_cases hj : j > i
  · rw [if_pos hj, if_pos hj]; exact ⟨_, rfl⟩
  · rw [if_neg hj, if_neg hj]; exact ⟨_, rfl⟩
theorem call_min2 (hc : X.calm = true) : CallR X (.builtin "min") (fun xs H Q => ∃ i j, xs = [.int i, .int j] ∧ Q (.int (if j < i then j else i)) H) := by
  intro pins s σ H xs us Q I r h
  obtain ⟨i, j, rfl, q⟩ := h
  obtain ⟨u, w', rfl, ⟨t, rfl⟩, ⟨t', rfl⟩⟩ := vals2 r
  refine min_two_ints (I.ok.hd hc) fun h' tk k => ⟨_, H, I.kept k, ?_, q⟩
  by_cases hj : j < i
  · rw [if_pos hj, if_pos hj]; exact ⟨_, rfl⟩
  · rw [if_neg hj, if_neg hj]; exact ⟨_, rfl⟩
end
end L2
namespace L2
open PySem PySem.Spec PyProof.Rows
structure ObjM (h : Heap) (x dx C : Addr) (mA : Str → Option Value) : Prop where
  obj : h.get? x = some (W.instObj C dx)
  ns : h.Ns1 dx mA
  ne : dx ≠ x
theorem lookIn_ns {h : Heap} {dx : Addr} {mA : Str → Option Value} (n : h.Ns1 dx mA) : ∃ od, h.get? dx = some od ∧ ∀ name, W.lookIn name od = some (mA name) := by
  obtain ⟨o, es, ep, ho, hd, hk, _, hm⟩ := n
  refine ⟨o, ho, fun name => ?_⟩
  have e := hm name
  unfold nsFind findBy at e
  rw [← Array.find?_toList] at e
  unfold W.lookIn
  rw [hd]
  dsimp only
  split
  · rename_i y q
    rw [q] at e
    exact congrArg some e
  · rename_i q
    rw [q] at e
    have a : es.toList.any (·.refKey) = false := by
      rw [List.any_eq_false]
      intro y hy
      obtain ⟨z, t, hkey⟩ := hk y (Array.mem_toList_iff.mp hy)
      simp [DictEntry.refKey, hkey]
    have a' : ¬ es.toList.any (·.refKey) = true := by rw [a]; exact Bool.false_ne_true
    rw [if_neg a']
    exact congrArg some e
theorem ObjM.look {h : Heap} {x dx C : Addr} {mA : Str → Option Value} (I : ObjM h x dx C mA) : ∃ od, W.InstAt h x (W.instObj C dx) C (some od) ∧ ∀ name, W.lookIn name od = some (mA name) :=
  let ⟨od, ho, hl⟩ := lookIn_ns I.ns
  ⟨od, ⟨I.obj, rfl, rfl, ho⟩, hl⟩
section
variable {prog : Program} {w : World} {A : Around} {E : Value → Shared → Prop} {s : Shared} {K : W.Frag} {x dx C f : Addr} {mA : Str → Option Value} {name : Str} {v : Value}
end
section
variable {P : Program} {w : World} {H H' : Hp} {h h' : Heap} {a C dx : Addr} {fs fs' : List (Str × V)}
theorem ins_get (hok : HOk P w H h) (e : H a = some (.ins C dx fs)) : ∃ mA, ObjM h a dx C mA ∧ (∀ f, RelO (fs.lookup f) (mA f)) ∧ PySem.Within mA (fs.map (·.1)) ∧ fs.length ≤ 1000 ∧ H dx = some (.own a) := by
  obtain ⟨d, z, ne, ob, mA, n, r, q⟩ := (show ObjOk P w H h a (.ins C dx fs) from hok a _ e)
  exact ⟨mA, ⟨ob, n, ne⟩, r, q, z, d⟩
end
structure Cls (K : W.Frag) (C : Addr) : Prop where
  pg : W.plainGet K C Str.empty = true
  hd : W.hasDictIn K C = true
  po : W.plainOver K C = true
  sa : W.findIn K (.ref C) "__setattr__" = some (some (.builtin "object.__setattr__"))
theorem Cls.get {K : W.Frag} {C : Addr} (c : Cls K C) (f : Str) : W.plainGet K C f = true := c.pg
structure Con (K : W.Frag) (C : Addr) (f : Str) (v : V) (u : Value) : Prop where
  at_ : W.findIn K (.ref C) f = some (some u)
  rel : RelV v u
  get : W.specialIn K u "__get__" = some none
  cp : W.copiedNames.contains f = false
structure Meth (K : W.Frag) (C : Addr) (m : Str) (f : Addr) : Prop where
  at_ : W.findIn K (.ref C) m = some (some (.ref f))
  fn : W.isFn K (.ref f) = true
  kp : W.keepIn K (.ref f) = true
section
variable {X : Cx} {pins : List (Addr × Obj)} {σ : St} {H : Hp} {s : Shared} {a C dx : Addr} {fs : List (Str × V)} {f : Str} {v : V} {A : Around} {E : Value → Shared → Prop}
theorem Inv.made (I : Inv X pins σ H s) : Inv X pins σ (upd (upd H s.heap.objs.size (.own (s.heap.objs.size + 1))) (s.heap.objs.size + 1) (.ins C s.heap.objs.size []))
    { s with heap := (s.heap.push W.emptyDict).push (W.instObj C s.heap.objs.size) } := by
  have e1 : (s.heap.push W.emptyDict).get? s.heap.objs.size = some W.emptyDict := Heap.get?_push_size s.heap rfl
  have e2 : ((s.heap.push W.emptyDict).push (W.instObj C s.heap.objs.size)).get? (s.heap.objs.size + 1) = some (W.instObj C s.heap.objs.size) := by
    have := Heap.get?_push_size (s.heap.push W.emptyDict) (o := W.instObj C s.heap.objs.size) rfl
    rwa [Heap.size_push] at this
  have e3 : (s.heap.push W.emptyDict).Ns s.heap.objs.size (fun _ => none) := ⟨W.emptyDict, #[], _, e1, rfl, (fun e he => absurd he (by simp)), fun _ => rfl⟩
  have I1 := I.laid (a := s.heap.objs.size) (o := .own (s.heap.objs.size + 1)) (h' := s.heap.push W.emptyDict) (t' := s.toks) (fun b u q => Heap.get?_push_of_some _ q) (Nat.le_refl _) ⟨_, e1⟩
  refine I1.laid (a := s.heap.objs.size + 1) (o := .ins C s.heap.objs.size []) (t' := s.toks) (fun b u q => Heap.get?_push_of_some _ q) (Nat.le_of_eq (Heap.size_push _ _)) ?_
  have ne : s.heap.objs.size ≠ s.heap.objs.size + 1 := Nat.ne_of_lt (Nat.lt_succ_self _)
  refine ⟨by rw [upd_ne ne, upd_same], Nat.zero_le _, ne, e2, fun _ => none, (Heap.Ns1.of_empty e3).at fun o q => Heap.get?_push_of_some _ q, fun _ => True.intro, fun y hy => absurd rfl hy⟩
end
section
variable {X : Cx} {o e value : Expr} {f : Str} {pos pos' tpos : Pos} {ta tv : TE}
end
section
variable {X : Cx} {pins : List (Addr × Obj)} {σ : St} {H : Hp} {s : Shared} {A : Around} {E : Value → Shared → Prop} {Q : Value → Shared → Prop} {c : Value} {b : Bool}
inductive TyOf (K : W.Frag) (H : Hp) : V → Value → Prop where
  | non : TyOf K H .non (.type "NoneType")
  | bl (x : Bool) : TyOf K H (.bl x) (.type "bool")
  | int (i : Int) : TyOf K H (.int i) (.type "int")
  | str (x : Str) : TyOf K H (.str x) (.type "str")
  | flt (x : UInt64) : TyOf K H (.flt x) (.type "float")
  | lst {a : Addr} {xs : List V} (e : H a = some (.lst xs)) : TyOf K H (.ref a) (.type "list")
  | frz {a : Addr} {o : Obj} {xs : List V} (e : H a = some (.frz o (.lst xs))) : TyOf K H (.ref a) (.type "list")
  | tup {a : Addr} {xs : List V} (e : H a = some (.tup xs)) : TyOf K H (.ref a) (.type "tuple")
  | dK {a : Addr} {kvs : List (Key × V)} (e : H a = some (.dK kvs)) : TyOf K H (.ref a) (.type "dict")
  | dT {a : Addr} {kvs : List (List Key × V)} (e : H a = some (.dT kvs)) : TyOf K H (.ref a) (.type "dict")
  | ins {a C dx : Addr} {fs : List (Str × V)} (e : H a = some (.ins C dx fs)) (cl : Cls K C) (ha : W.findIn K (.ref C) "__class__" = some (some (.builtin "object.__class__")))
      (hn : W.specialIn K (.builtin "object.__class__") "__get__" = some (some (.builtin "getset_descriptor.__get__"))) (htk : W.takesIn K (.builtin "object.__class__") = some true)
      (hm : W.mroIn K C (.type "object") = some true) : TyOf K H (.ref a) (.ref C)
theorem isinst_ok {x : V} {u t : Value} (I : Inv X pins σ H s) (rx : RelV x u) (ty : TyOf X.K H x t) (e : W.kitOne X.K t c = some b) (h : ∀ tk, Q (.bool b) { s with toks := tk }) :
    wpAny (model X.prog X.w) A (call (.builtin "isinstance") [u, c]) Q E s := by
  cases ty with
  | non => cases (show u = Value.none from rx); exact W.kia_one W.kitx_none I.kIn True.intro e (fun z => nomatch z) h
  | bl y => cases (show u = Value.bool y from rx); exact W.kia_one W.kitx_bool I.kIn True.intro e (fun z => nomatch z) h
  | int i => obtain ⟨t, q⟩ := (show ∃ t, u = Value.int i t from rx); cases q; exact W.kia_one W.kitx_int I.kIn True.intro e (fun z => nomatch z) h
  | str y => obtain ⟨t, q⟩ := (show ∃ t, u = Value.str y t from rx); cases q; exact W.kia_one W.kitx_str I.kIn True.intro e (fun z => nomatch z) h
  | flt y => obtain ⟨t, q⟩ := (show ∃ t, u = Value.float y t from rx); cases q; exact W.kia_one W.kitx_float I.kIn True.intro e (fun z => nomatch z) h
  | @lst a xs ea =>
    cases (show u = Value.ref a from rx)
    obtain ⟨_, _, n, _, h1⟩ := (show ObjOk X.prog X.w H s.heap a (.lst xs) from I.hok a _ ea)
    exact W.kia_one W.kitx_list I.kIn ⟨_, h1, rfl⟩ e (fun z => nomatch z) h
  | @frz a ob xs ea =>
    cases (show u = Value.ref a from rx)
    obtain ⟨_, _, _, n, _, h1⟩ := (show ObjOk X.prog X.w H s.heap a (.frz ob (.lst xs)) from I.hok a _ ea)
    exact W.kia_one W.kitx_list I.kIn ⟨_, h1, rfl⟩ e (fun z => nomatch z) h
  | @tup a xs ea =>
    cases (show u = Value.ref a from rx)
    obtain ⟨_, _, _, p⟩ := (show ObjOk X.prog X.w H s.heap a (.tup xs) from I.hok a _ ea)
    obtain ⟨o, h1, h2, _⟩ := p
    exact W.kia_one W.kitx_tuple I.kIn ⟨o, h1, h2⟩ e (fun z => nomatch z) h
  | @dK a kvs ea =>
    cases (show u = Value.ref a from rx)
    obtain ⟨_, _, vs, _, p⟩ := (show ObjOk X.prog X.w H s.heap a (.dK kvs) from I.hok a _ ea)
    obtain ⟨o, es, ep, h1, h2, _⟩ := p
    exact W.kia_one W.kitx_dict I.kIn ⟨o, h1, h2.1⟩ e (fun z => nomatch z) h
  | @dT a kvs ea =>
    cases (show u = Value.ref a from rx)
    obtain ⟨_, _, xs, _, o, es, ep, h1, h2, _⟩ := (show ObjOk X.prog X.w H s.heap a (.dT kvs) from I.hok a _ ea)
    exact W.kia_one W.kitx_dict I.kIn ⟨o, h1, h2.1⟩ e (fun z => nomatch z) h
  | @ins a C dx fs ea cl ha hn htk hm =>
    cases (show u = Value.ref a from rx)
    obtain ⟨mA, O, _⟩ := ins_get I.hok ea
    obtain ⟨od, J, _⟩ := O.look
    exact W.kia_one (W.kitx_own (cl.get _) cl.hd ha hn htk hm) I.kIn J e (fun z => nomatch z) h
end
end L2
namespace L2
open PySem PySem.Spec PyProof.Rows
structure Room (k : Nat) (A : Around) : Prop where
  hd : A.handled = none
  dp : A.depth + 3 * k + 5 < recursionLimit
  un : A.units + 16 * k + 200 < cLine
theorem Room.mono {j k : Nat} {A : Around} (r : Room k A) (h : j ≤ k) : Room j A := ⟨r.hd, by have := r.dp; omega, by have := r.un; omega⟩
theorem Room.deeper {k : Nat} {A : Around} (r : Room (k + 1) A) (env : Env) : Room k (A.deeper env) :=
  ⟨r.hd, by have := r.dp; show A.depth + 1 + 3 * k + 5 < _; omega, by have := r.un; show A.units + 3 + 16 * k + 200 < _; omega⟩
theorem Room.in1 {k : Nat} {A : Around} (r : Room (k + 1) A) : Room k A.in1 :=
  ⟨r.hd, by have := r.dp; show A.depth + 3 * k + 5 < _; omega, by have := r.un; show A.units + 1 + 16 * k + 200 < _; omega⟩
theorem Room.depth {k : Nat} {A : Around} (r : Room k A) : A.depth < recursionLimit := by have := r.dp; omega
theorem Room.units {k : Nat} {A : Around} (r : Room k A) : A.units + 64 < cLine := by have := r.un; omega
noncomputable def tNil : TA := fun _ H Q => Q [] H
noncomputable def tCons (ta : TE) (tr : TA) : TA := fun σ H Q => ta σ H fun x H1 => tr σ H1 fun xs H2 => Q (x :: xs) H2
section
variable {X : Cx} {e : Expr} {es : List Expr} {te : TE} {t : TA} {pos : Pos}
theorem pa_nil : PA X [] tNil := fun _ _ _ _ H Q I h => Calls.spliced_nil ⟨[], H, I, .nil, h⟩
theorem pa_cons (ha : PE X e te) (hr : PA X es t) (hs : starEach (e :: es) X.env = (false, eval e X.env) :: starEach es X.env := by rfl) : PA X (e :: es) (tCons te t) := by
  intro pos pins s σ H Q I h
  rw [hs]
  show wpAny _ _ (spliced ((false, eval e X.env) :: backTo pos (starEach es X.env))) _ _ s
  refine Calls.spliced_cons (thn (ha pins s σ H _ I h) fun u s1 ⟨x, H1, I1, r1, q1⟩ => ?_)
  exact thn (hr pos pins s1 σ H1 _ I1 q1) fun us s2 ⟨xs, H2, I2, r2, q2⟩ => ⟨x :: xs, H2, I2, .cons r1 r2, q2⟩
noncomputable def tTup (t : TA) : TE := fun σ H Q => t σ H fun xs H1 => xs.length ≤ sizeLine ∧ ∀ p, H1 p = none → Q (.ref p) (upd H1 p (.tup xs))
noncomputable def tLst (t : TA) : TE := fun σ H Q => t σ H fun xs H1 => xs.length ≤ sizeLine ∧ ∀ p, H1 p = none → Q (.ref p) (upd H1 p (.lst xs))
theorem pe_tup {x1} (h : PA X es t) : PE X (.Tuple es x1 pos) (tTup t) := by
  intro pins s σ H Q I hq
  refine wpAny_Tuple_spliced (thn (h pos pins s σ H _ I hq) fun us s1 ⟨xs, H1, I1, r, z, q⟩ => ⟨by rw [← r.length]; exact z, ?_⟩)
  have hf : H1 s1.heap.objs.size = none := I1.hok.fresh (Nat.le_refl _)
  refine ⟨.ref s1.heap.objs.size, upd H1 s1.heap.objs.size (.tup xs), I1.laid (t' := s1.toks) (fun b u e => Heap.get?_push_of_some _ e) (Nat.le_refl _) ?_, rfl, q _ hf⟩
  exact ⟨z, us, r, ⟨_, Heap.get?_push_size _ rfl, rfl, _, rfl⟩⟩
theorem pe_lst (h : PA X es t) : PE X (.List es pos) (tLst t) := by
  intro pins s σ H Q I hq
  refine wpAny_List_spliced (thn (h pos pins s σ H _ I hq) fun us s1 ⟨xs, H1, I1, r, z, q⟩ => ⟨by rw [← r.length]; exact z, ?_⟩)
  have hf : H1 s1.heap.objs.size = none := I1.hok.fresh (Nat.le_refl _)
  refine ⟨.ref s1.heap.objs.size, upd H1 s1.heap.objs.size (.lst xs), I1.laid (t' := s1.toks) (fun b u e => Heap.get?_push_of_some _ e) (Nat.le_refl _) ?_, rfl, q _ hf⟩
  exact ⟨z, us, 0, r, Heap.get?_push_size _ rfl⟩
end
noncomputable abbrev Sp := List V → Hp → VK → XK → Prop
noncomputable abbrev CXT := List Env → Hp → Shared → XK → Value → Shared → Prop
structure Env0 (P : Program) (w : World) (K : W.Frag) (mg : Str → Option Value) (base : Heap) (A : Around) (outer : List Env) (s : Shared) (H : Hp) : Prop where
  frames : A.frames = some outer
  mod : Mod K mg base
  bs : ∀ b o, base.get? b = some o → s.heap.get? b = some o ∧ H b = none
  bsz : base.objs.size ≤ s.heap.objs.size
  funs : s.heap.FunFrames base outer
  frf : ∀ b ∈ frs outer, H b = none
  hok : HOk P w H s.heap
  bare : AllBare s.gens
  hand : HandA A H
noncomputable def CE (outer : List Env) (P : Program) (w : World) (H : Hp) (s : Shared) (Q : VK) (u : Value) (s' : Shared) : Prop :=
  ∃ v H', s'.os = s.os ∧ AllBare s'.gens ∧ Un (frs outer) [] H H' s.heap s'.heap ∧ HOk P w H' s'.heap ∧ RelV v u ∧ Q v H'
noncomputable def CR (CX : CXT) (outer : List Env) (P : Program) (w : World) (H : Hp) (s : Shared) (Q : VK) (E : XK) (r : Result) (s' : Shared) : Prop :=
  match r with
  | .ok (.ret u) => CE outer P w H s Q u s'
  | .ok _ => False
  | .error e => CX outer H s E e s'
structure FnOk (P : Program) (w : World) (K : W.Frag) (mg : Str → Option Value) (base : Heap) (CX : CXT) (k : Nat) (f : Addr) (fd : FuncData) (ps : List Str) (sp : Sp) : Prop where
  len : ∀ vs H Q E, sp vs H Q E → vs.length = ps.length
  run : ∀ (A : Around) (outer : List Env) (s : Shared) (H : Hp) (args : Args) (us : List Value) (vs : List V) (Q : VK) (E : XK), Room k A → Env0 P w K mg base A outer s H → BindsTo s fd args (ps.zip us) → Vals vs us → sp vs H Q E →
    codeAny (model P w) A (.call (.ref f) args) (CR CX outer P w H s Q E) s
theorem FnOk.mono {P : Program} {w : World} {K : W.Frag} {mg : Str → Option Value} {base : Heap} {CX : CXT} {j k : Nat} {f : Addr} {fd : FuncData} {ps : List Str} {sp : Sp} (F : FnOk P w K mg base CX j f fd ps sp) (h : j ≤ k) :
    FnOk P w K mg base CX k f fd ps sp := ⟨F.len, fun A outer s H args us vs Q E hr => F.run A outer s H args us vs Q E (hr.mono h)⟩
theorem FnOk.imp {P : Program} {w : World} {K : W.Frag} {mg : Str → Option Value} {base : Heap} {CX : CXT} {k : Nat} {f : Addr} {fd : FuncData} {ps : List Str} {sp sp' : Sp} (F : FnOk P w K mg base CX k f fd ps sp)
    (h : ∀ vs H Q E, sp' vs H Q E → sp vs H Q E) : FnOk P w K mg base CX k f fd ps sp' :=
  ⟨fun vs H Q E q => F.len vs H Q E (h _ _ _ _ q), fun A outer s H args us vs Q E hr he hb hv hs => F.run A outer s H args us vs Q E hr he hb hv (h _ _ _ _ hs)⟩
theorem Env0.in1 {P : Program} {w : World} {K : W.Frag} {mg : Str → Option Value} {base : Heap} {A : Around} {outer : List Env} {s : Shared} {H : Hp} (e : Env0 P w K mg base A outer s H) :
    Env0 P w K mg base A.in1 outer s H := ⟨e.frames, e.mod, e.bs, e.bsz, e.funs, e.frf, e.hok, e.bare, e.hand⟩
section
variable {X : Cx} {pins : List (Addr × Obj)} {σ : St} {H : Hp} {s s' : Shared}
theorem Inv.env0 (I : Inv X pins σ H s) : Env0 X.prog X.w X.K X.mg X.base X.A X.stack s H :=
  ⟨I.ok.frames, I.ok.mod, I.bs, Nat.le_trans I.ok.bsz I.sz, I.stack, I.stkFree, I.hok, I.bare, I.handA⟩
theorem Inv.after {Q : VK} {u : Value} (I : Inv X pins σ H s) (h : CE X.stack X.prog X.w H s Q u s') : EP X pins σ Q u s' := by
  obtain ⟨v, H', os, bare, un, hok, r, q⟩ := h
  obtain ⟨hh, g, d, t, os'⟩ := s'
  obtain rfl : os' = s.os := os
  exact ⟨v, H', I.call (h' := hh) (g' := g) (d' := d) (t' := t) (ch := []) un hok bare (fun b z => absurd z (by simp)), r, q⟩
end
noncomputable def tCall (sp : Sp) (dvs : List V) (E : XK) (t : TA) : TE := fun σ H Q => t σ H fun vs H1 => sp (vs ++ dvs) H1 Q E
noncomputable def Binds (K : W.Frag) (fd : FuncData) (ps : List Str) (ds : List Value) : Prop :=
  ∀ (s : Shared) (us : List Value), K.In s.heap → (us ++ ds).length = ps.length → BindsTo s fd ⟨us, []⟩ (ps.zip (us ++ ds))
theorem Binds.all {K : W.Frag} {fd : FuncData} {ps : List Str} (h : ∀ us : List Value, us.length = ps.length → bindArgs fd ⟨us, []⟩ = pure (ps.zip us)) : Binds K fd ps [] := fun s us _ hl => by
  rw [List.append_nil] at hl ⊢
  exact .of_eq (h us hl)
noncomputable def Passes (CX : CXT) (X : Cx) (E : XK) : Prop := ∀ (pins : List (Addr × Obj)) (σ : St) (H : Hp) (s : Shared) (e : Value) (s' : Shared), Inv X pins σ H s → CX X.stack H s E e s' → X.xe e s'
section
variable {X : Cx} {CX : CXT} {k : Nat} {f C : Addr} {fd : FuncData} {ps : List Str} {sp : Sp} {dvs : List V} {ds : List Value} {E : XK} {x m : Str} {p pos apos : Pos} {e o : Expr} {es : List Expr} {ta : TE} {t : TA}
theorem run_fn {pins : List (Addr × Obj)} {σ : St} {H : Hp} {s : Shared} {Q : VK} {us : List Value} {vs : List V} (F : FnOk X.prog X.w X.K X.mg X.base CX k f fd ps sp) (hr : Room k X.A) (hb : Binds X.K fd ps ds) (hd : Vals dvs ds) (hx : Passes CX X E)
    (I : Inv X pins σ H s) (r : Vals vs us) (h : sp (vs ++ dvs) H Q E) : wpAny (model X.prog X.w) X.A (call (.ref f) us) (EP X pins σ Q) X.xe s := by
  have r2 : Vals (vs ++ dvs) (us ++ ds) := r.append hd
  have hl : (us ++ ds).length = ps.length := by rw [← r2.length]; exact F.len _ _ _ _ h
  refine wpAny_call (codeAny_mono (F.run X.A X.stack s H ⟨us, []⟩ (us ++ ds) (vs ++ dvs) Q E hr I.env0 (hb s us I.kIn hl) r2 h) fun r s' hq => ?_)
  cases r with
  | error e => exact hx pins σ H s e s' I hq
  | ok fl =>
    cases fl with
    | ret u => exact I.after hq
    | next => exact False.elim hq
    | brk => exact False.elim hq
    | cont => exact False.elim hq
theorem pe_call (F : FnOk X.prog X.w X.K X.mg X.base CX k f fd ps sp) (hr : Room k X.A) (hg : Gl X x) (hm : X.mg x = some (.ref f)) (hk : W.keepIn X.K (.ref f) = true) (hb : Binds X.K fd ps ds) (hd : Vals dvs ds) (hx : Passes CX X E)
    (ha : PA X (e :: es) t) (hdb : (x == ("__debug__" : Str)) = false := by decide) (he : starEach (e :: es) X.env = (false, eval e X.env) :: starEach es X.env := by rfl) (hpl : (backTo pos (starEach es X.env)).any (·.1) = false := by rfl) :
    PE X (.Call (.Name x p) (e :: es) [] pos) (tCall sp dvs E t) := by
  intro pins s σ H Q I h
  refine wpAny_Call_Name_kw (ld_glob I hg hm ?_ hdb)
  refine W.callWith_K (h₀ := X.base) I.ok.mod.kin hk (thn (ha pos pins s σ H _ I h) fun us s1 ⟨vs, H1, I1, r, q⟩ => ⟨I1.kIn, ?_⟩) he hpl
  exact run_fn F hr hb hd hx I1 r q
structure Mk (K : W.Frag) (C f : Addr) : Prop where
  makes : W.makesIn K C = true
  init : W.findIn K (.ref C) "__init__" = some (some (.ref f))
  fn : W.isFn K (.ref f) = true
  kp : W.keepIn K (.ref C) = true
end
section
variable {X : Cx} {CX : CXT} {k : Nat} {f C : Addr} {fd : FuncData} {ps ks : List Str} {sp : Sp} {E : XK} {x m : Str} {p pos apos kpos : Pos} {e o : Expr} {es : List Expr} {kws : List Keyword} {te ta : TE} {t tk : TA} {nm : Option Str}
structure KBinds (K : W.Frag) (fd : FuncData) (ps ks : List Str) (g : List Value → List Value → List Value) (gV : List V → List V → List V) : Prop where
  to : ∀ (s : Shared) (us ws : List Value), K.In s.heap → (g us ws).length = ps.length → BindsTo s fd ⟨us, ks.zip ws⟩ (ps.zip (g us ws))
  rel : ∀ {vs : List V} {us : List Value} {zs : List V} {ws : List Value}, Vals vs us → Vals zs ws → Vals (gV vs zs) (g us ws)
variable {g : List Value → List Value → List Value} {gV : List V → List V → List V}
end
structure FnScope (N P : List Str) (sc : Scope) : Prop where
  kind : sc.kind = .function
  co : sc.isCoroutine = false
  gen : sc.isGenerator = false
  nd : N.Nodup
  pre : N.take P.length = P
  par : ∀ x ∈ P, sc.names.lookup x = some .local ∨ sc.names.lookup x = some .cell
  nofree : ∀ y ∈ sc.names, y.2 ≠ .free
theorem bindL_out {kindOf : Str → Option NameKind} {x : Str} : ∀ {binds : List (Str × Value)} {m : Str → Option Value}, (∀ v, (x, v) ∉ binds) → bindL kindOf binds m x = m x
  | [], _, _ => rfl
  | (n, v) :: r, m, h => by
    unfold bindL
    rw [bindL_out fun w hw => h w (List.mem_cons_of_mem _ hw)]
    split
    · have : x ≠ n := by rintro rfl; exact h v List.mem_cons_self
      simp [this]
    · rfl
theorem bindC_out {kindOf : Str → Option NameKind} {x : Str} : ∀ {binds : List (Str × Value)} {m : Str → Option Value}, (∀ v, (x, v) ∉ binds) → bindC kindOf binds m x = m x
  | [], _, _ => rfl
  | (n, v) :: r, m, h => by
    unfold bindC
    rw [bindC_out fun w hw => h w (List.mem_cons_of_mem _ hw)]
    split
    · rfl
    · have : x ≠ n := by rintro rfl; exact h v List.mem_cons_self
      simp [this]
theorem bindL_get {kindOf : Str → Option NameKind} {x : Str} {v : Value} : ∀ {P : List Str} {vs : List Value} {i : Nat} {m : Str → Option Value}, P.Nodup → P[i]? = some x → vs[i]? = some v → kindOf x = some .local →
    bindL kindOf (P.zip vs) m x = some v
  | [], _, _, _, _, h, _, _ => by simp at h
  | _ :: _, [], _, _, _, _, h, _ => by simp at h
  | p :: P, w :: vs, 0, m, nd, h1, h2, hk => by
    simp at h1 h2; subst h1; subst h2
    show bindL kindOf ((p, w) :: P.zip vs) m p = _
    unfold bindL
    rw [bindL_out fun v hv => (List.nodup_cons.mp nd).1 (List.of_mem_zip hv).1, if_pos hk]
    simp
  | p :: P, w :: vs, i + 1, m, nd, h1, h2, hk => by
    show bindL kindOf ((p, w) :: P.zip vs) m x = _
    unfold bindL
    exact bindL_get (i := i) (List.nodup_cons.mp nd).2 (by simpa using h1) (by simpa using h2) hk
theorem bindC_get {kindOf : Str → Option NameKind} {x : Str} {v : Value} : ∀ {P : List Str} {vs : List Value} {i : Nat} {m : Str → Option Value}, P.Nodup → P[i]? = some x → vs[i]? = some v → kindOf x ≠ some .local →
    bindC kindOf (P.zip vs) m x = some v
  | [], _, _, _, _, h, _, _ => by simp at h
  | _ :: _, [], _, _, _, _, h, _ => by simp at h
  | p :: P, w :: vs, 0, m, nd, h1, h2, hk => by
    simp at h1 h2; subst h1; subst h2
    show bindC kindOf ((p, w) :: P.zip vs) m p = _
    unfold bindC
    rw [bindC_out fun v hv => (List.nodup_cons.mp nd).1 (List.of_mem_zip hv).1, if_neg hk]
    simp
  | p :: P, w :: vs, i + 1, m, nd, h1, h2, hk => by
    show bindC kindOf ((p, w) :: P.zip vs) m x = _
    unfold bindC
    exact bindC_get (i := i) (List.nodup_cons.mp nd).2 (by simpa using h1) (by simpa using h2) hk
noncomputable def start (N : List Str) (vs : List V) : St := vs.map some ++ List.replicate (N.length - vs.length) none
noncomputable def cxOf (CX : CXT) (P : Program) (w : World) (K : W.Frag) (mg : Str → Option Value) (base : Heap) (N : List Str) (qual : Str) (scope : Scope) (f : Addr) (cd : Value) (A : Around) (outer : List Env) (s : Shared) (H : Hp) (E : XK) : Cx where
  prog := P
  w := w
  K := K
  mg := mg
  base := base
  A := A.deeper (envOfC qual scope s.heap.objs.size f cd)
  N := N
  s₀ := s
  H₀ := H
  env := envOfC qual scope s.heap.objs.size f cd
  outer := outer
  stack := envOfC qual scope s.heap.objs.size f cd :: outer
  ex := []
  calm := true
  fn := fun _ => true
  pn := []
  xe := fun e s' => wpAny (model P w) (A.deeper (envOfC qual scope s.heap.objs.size f cd)) (leaving (envOfC qual scope s.heap.objs.size f cd) e) (fun _ s'' => CX outer H s E e s'') (fun e' s'' => CX outer H s E e' s'') s'
theorem cell_has {sc : Scope} {n : Nat} {x : Str} (h : sc.names.lookup x = some .cell) : ∃ c, (cellsFrom n sc.names []).lookup x = some c := by
  have q := W.cellsFrom_some sc.names n [] (.inl h)
  exact Option.isSome_iff_exists.mp q
theorem inv_start {CX : CXT} {P : Program} {w : World} {K : W.Frag} {mg : Str → Option Value} {base : Heap} {N ps : List Str} {qual : Str} {scope : Scope} {f : Addr} {cd : Value} {A : Around} {outer : List Env} {s s1 : Shared} {H : Hp} {E : XK} {us : List Value} {vs : List V}
    (S : FnScope N ps scope) {cm : Bool} (hd : cm = true → A.handled = none) (e0 : Env0 P w K mg base A outer s H) (hl : vs.length = ps.length) (r : Vals vs us)
    (x : InCallC s s.heap.objs.size (bindL (envOfC qual scope s.heap.objs.size f cd).kindOf (ps.zip us) fun _ => none) (cellsFrom (s.heap.objs.size + 1) scope.names []) (bindC (envOfC qual scope s.heap.objs.size f cd).kindOf (ps.zip us) fun _ => none) s1) :
    Inv { cxOf CX P w K mg base N qual scope f cd A outer s H E with calm := cm } [] (start N vs) H s1 := by
  have hpl : ps.length ≤ N.length := by have := congrArg List.length S.pre; rw [List.length_take] at this; omega
  obtain ⟨h1, tk, rfl, hk⟩ := x.done
  have noA : ∀ b : Addr, b ∉ (cxOf CX P w K mg base N qual scope f cd A outer s H E).ex := fun b z => absurd (show b ∈ ([] : List Addr) from z) (by simp)
  refine ⟨⟨e0.mod, S.kind, rfl, rfl, Nat.le_refl _, fun y z c h1 h2 => ?_, fun y hy => ?_, fun y c _ h => ?_, hd, e0.hand, Around.frames_deeper e0.frames, .inr ⟨rfl, rfl⟩, fun b z => absurd z (noA b), e0.bs, e0.bsz, fun b _ _ => noA b, fun b z => absurd z (noA b), e0.funs, e0.frf⟩,
    rfl, e0.bare, Un.kept hk, ⟨_, x.toInCall.ns, fun i y v h1 h2 h3 => ?_⟩, fun y c h => ⟨_, x.cell y c h⟩, e0.hok.fresh (Nat.le_refl _), fun y c h => ?_, fun p hp => absurd (show p ∈ ([] : List (Addr × Obj)) from hp) (by simp), e0.hok.kept hk, ?_⟩
  · exact name_of_addr x.apart (PySem.mem_of_lookup h1) (PySem.mem_of_lookup h2)
  · have hy : scope.names.lookup y = some .cell ∨ scope.names.lookup y = some .free := hy
    rcases hy with hy | hy
    · exact cell_has hy
    · exact absurd rfl (S.nofree _ (PySem.mem_of_lookup hy))
  · exact Nat.le_of_lt (x.above y c (PySem.mem_of_lookup h))
  · have hi : i < vs.length := by
      unfold start at h2
      by_cases hi : i < vs.length
      · exact hi
      · rw [List.getElem?_append_right (by simpa using hi)] at h2
        rw [List.getElem?_replicate] at h2
        split at h2 <;> cases h2
    have ha : vs[i]? = some v := by
      unfold start at h2
      rw [List.getElem?_append_left (by simpa using hi), List.getElem?_map] at h2
      cases e : vs[i]? with
      | none => rw [e] at h2; cases h2
      | some a => rw [e] at h2; cases h2; rfl
    obtain ⟨u, hu, rv⟩ := r.get ha
    have hp : ps[i]? = some y := by
      rw [← S.pre, List.getElem?_take_of_lt (by omega)]; exact h1
    have ndP : ps.Nodup := by rw [← S.pre]; exact S.nd.sublist (List.take_sublist _ _)
    refine ⟨u, rv, ?_⟩
    rcases S.par y (List.mem_of_getElem? hp) with k | k
    · exact .inl ⟨k, bindL_get ndP hp hu k⟩
    · obtain ⟨c, e⟩ := cell_has (n := s.heap.objs.size + 1) k
      refine .inr ⟨.inl k, c, e, ?_⟩
      have q := x.cell y c e
      rw [bindC_get ndP hp hu (by show scope.names.lookup y ≠ _; rw [k]; decide)] at q
      exact q
  · exact e0.hok.fresh (Nat.le_of_lt (x.above y c (PySem.mem_of_lookup h)))
  · unfold start
    show _ = N.length
    rw [List.length_append, List.length_map, List.length_replicate]
    omega
theorem fn_of {CX : CXT} {P : Program} {w : World} {K : W.Frag} {mg : Str → Option Value} {base : Heap} {k : Nat} {f : Addr} {name qual : Str} {params : Arguments} {body : List Stmt} {scope : Scope} {dV kV doc pm cdv ct oc : Value} {an od : Option Addr}
    {osl : Array (Option Value)} {N ps : List Str} {sp : Sp} (lk : K.lookup f = some ⟨oc, od, .func (W.fnOf name qual params body scope dV kV doc pm an cdv ct), osl⟩) (hcd : W.codeIn K cdv qual = true) (S : FnScope N ps scope)
    (len : ∀ vs H Q E, sp vs H Q E → vs.length = ps.length)
    (hbody : ∀ (A : Around) (outer : List Env) (s : Shared) (H : Hp) (vs : List V) (Q : VK) (E : XK), Room k (A.deeper (envOfC qual scope s.heap.objs.size f cdv)) → sp vs H Q E →
      ∃ t, PSs (cxOf CX P w K mg base N qual scope f cdv A outer s H E) body t ∧ t { nx := fun _ H' => Q .non H', rt := Q } (start N vs) H) :
    FnOk P w K mg base CX (k + 1) f (W.fnOf name qual params body scope dV kV doc pm an cdv ct) ps sp := by
  refine ⟨len, fun A outer s H args us vs Q E hr e0 hb r hsp => ?_⟩
  have hl := len _ _ _ _ hsp
  have KX : K.In s.heap := e0.mod.kin.keeps fun b o e => (e0.bs b o e).1
  have lim : s.heap.NoLimit := e0.mod.nolimit.keeps fun b o e => (e0.bs b o e).1
  have hkind : ∀ y ∈ ps.zip us, scope.names.lookup y.1 = some .local ∨ (scope.names.lookup y.1 = some .cell ∧ ((cellsFrom (s.heap.objs.size + 1) scope.names []).lookup y.1).isSome = true) := fun ⟨n, v⟩ hy => by
    rcases S.par n (List.of_mem_zip hy).1 with q | q
    · exact .inl q
    · exact .inr ⟨q, W.cellsFrom_some _ _ _ (.inl q)⟩
  refine codeAny_call_function hr.depth (KX _ _ lk) rfl S.co S.gen rfl (W.codeRec_of KX hcd) (hb _ _ _ _ ?_)
  refine wpAny_newFunctionEnv_cells S.kind hkind fun env he s1 x => ?_
  subst he
  refine ⟨lim.keeps x.toInCall.keep, codeAny_func ?_⟩
  obtain ⟨t, ht, hq⟩ := hbody A outer s H vs Q E (hr.deeper _) hsp
  have I : Inv (cxOf CX P w K mg base N qual scope f cdv A outer s H E) [] (start N vs) H s1 := inv_start (cm := true) S (fun _ => hr.hd) e0 hl r x
  refine wpAny_mono (ht [] s1 (start N vs) H _ I hq) (fun fl s' hs => ?_) fun e s' hs => hs
  have fin : ∀ {σ' : St} {H' : Hp} {v : V} {u : Value}, Inv (cxOf CX P w K mg base N qual scope f cdv A outer s H E) [] σ' H' s' → RelV v u → Q v H' → CE outer P w H s Q u s' :=
    fun {σ' H' v u} J rv q => ⟨v, H', J.os, J.bare, J.base, J.hok, rv, q⟩
  cases fl with
  | ret u =>
    obtain ⟨v, σ', H', J, rv, q⟩ := hs
    exact fin J rv q
  | next =>
    obtain ⟨σ', H', J, q⟩ := hs
    exact fin (v := V.non) (u := Value.none) J rfl q
  | brk =>
    obtain ⟨_, _, _, q⟩ := hs
    exact False.elim q
  | cont =>
    obtain ⟨_, _, _, q⟩ := hs
    exact False.elim q
end L2
namespace L2
open PySem PySem.Spec PyProof.Rows
section
variable {X : Cx} {x : Str} {p pos : Pos} {e : Expr} {es : List Expr} {t : TA} {id T : String} {r : List V → Hp → VK → Prop}
noncomputable def tCB (r : List V → Hp → VK → Prop) (t : TA) : TE := fun σ H Q => t σ H fun vs H1 => r vs H1 Q
theorem pe_callB (hc : CallR X (.builtin id) r) (hg : Gl X x) (hm : X.mg x = none) (hv : bootBuiltins x = some (.builtin id)) (ha : PA X (e :: es) t) (hn : x ≠ "__name__" := by decide) (hdb : (x == ("__debug__" : Str)) = false := by decide)
    (he : starEach (e :: es) X.env = (false, eval e X.env) :: starEach es X.env := by rfl) (hpl : (backTo pos (starEach es X.env)).any (·.1) = false := by rfl) : PE X (.Call (.Name x p) (e :: es) [] pos) (tCB r t) := by
  intro pins s σ H Q I h
  refine wpAny_Call_Name_kw (ld_blt I hg hm hv ?_ hn hdb)
  exact PyProof.Rows.callWith_builtin1 (thn (ha pos pins s σ H _ I h) fun us s1 ⟨vs, H1, I1, r1, q1⟩ => hc pins s1 σ H1 vs us Q I1 r1 q1) he hpl
theorem pe_callTy (hc : CallR X (.type T) r) (hg : Gl X x) (hm : X.mg x = none) (hv : bootBuiltins x = some (.type T)) (ha : PA X (e :: es) t) (hn : x ≠ "__name__" := by decide) (hdb : (x == ("__debug__" : Str)) = false := by decide)
    (he : starEach (e :: es) X.env = (false, eval e X.env) :: starEach es X.env := by rfl) (hpl : (backTo pos (starEach es X.env)).any (·.1) = false := by rfl) : PE X (.Call (.Name x p) (e :: es) [] pos) (tCB r t) := by
  intro pins s σ H Q I h
  refine wpAny_Call_Name_kw (ld_blt I hg hm hv ?_ hn hdb)
  exact PyProof.Rows.callWith_type1 (thn (ha pos pins s σ H _ I h) fun us s1 ⟨vs, H1, I1, r1, q1⟩ => hc pins s1 σ H1 vs us Q I1 r1 q1) he hpl
end
end L2
namespace HT
open PySem PyProof.Rows
noncomputable def lexLt : List Int → List Int → Bool
  | [], [] => false
  | [], _ :: _ => true
  | _ :: _, [] => false
  | x :: xs, y :: ys => if x = y then lexLt xs ys else decide (x < y)
theorem lexLt_cons (x y : Int) (xs ys : List Int) : lexLt (x :: xs) (y :: ys) = if x = y then lexLt xs ys else decide (x < y) := rfl
theorem lexLt_nil_nil : lexLt [] [] = false := rfl
theorem lexLt_nil_cons (y : Int) (ys : List Int) : lexLt [] (y :: ys) = true := rfl
theorem lexLt_cons_nil (x : Int) (xs : List Int) : lexLt (x :: xs) [] = false := rfl
theorem eqAt_int (A : Around) (s : Shared) (a : Int) (t : Tok) (c : Int) (u : Tok) : ∃ e, SeqAt.EqAt A s (.int a t) (.int c u) e ∧ (e = true ↔ a = c) :=
  ⟨(a == c), SeqAt.EqAt.int_int a t c u, by simp⟩
theorem rcLt_int (A : Around) (s : Shared) (a : Int) (t : Tok) (c : Int) (u : Tok) (prog : Program) (w : World) (E : Value → Shared → Prop) (Q : Value → Shared → Prop) (h : Q (.bool (decide (a < c))) s) :
    wpAny (model prog w) A (richCompare .Lt (.int a t) (.int c u)) Q E s :=
  (PyProof.Rows.lt_int h : wpAny (model prog w) A (compareOp .Lt (.int a t) (.int c u)) Q E s)
section
open PySem.SeqAt
open PySem.AutoSeq1 (wpAny_loadPart')
open PySem.MeetsSeq PySem.MeetsSeq2 PySem.MeetsSeq3
theorem tuple_lt_ints (l b : Addr) (items items2 : Array Value) (n n2 : Nat) (dd dd2 : Option Addr) (sl sl2 : Array (Option Value)) (ns ms : List Int) (hi : IntsAre items.toList ns) (hj : IntsAre items2.toList ms) :
    Meets (Builtin.«tuple.__lt__» ⟨[.ref l, .ref b], []⟩)
      (fun _ R s => s.heap.get? l = some { cls := .type "tuple", dict := dd, data := .seq items n, slots := sl } ∧ s.heap.get? b = some { cls := .type "tuple", dict := dd2, data := .seq items2 n2, slots := sl2 } ∧
        R (.ok (.ret (.bool (lexLt ns ms)))) s) :=
  .of_wp fun prog w A R s h => by
    obtain ⟨hp, g, d, tk, os⟩ := s; obtain ⟨hl, hb, h⟩ := h
    have f2 := AutoSeq1.sub_tuple_tuple
    have z1 : items.size = ns.length := by rw [← hi.length]; simp
    have z2 : items2.size = ms.length := by rw [← hj.length]; simp
    wp_walk using wpAny_loadPart' hl, wpAny_loadPart' hb, wpAny_forIn_list _ (fun rest b s' => b.1 = none ∧ s' = ⟨hp, g, d, tk, os⟩ ∧ ∃ (vs ws : List Value) (ns' ms' : List Int), rest = vs.zip ws ∧
      IntsAre vs ns' ∧ IntsAre ws ms' ∧ ns'.length + items2.size = ms'.length + items.size ∧ R (.ok (.ret (.bool (lexLt ns' ms')))) ⟨hp, g, d, tk, os⟩) _
    case turn =>
      rintro ⟨y, x⟩ rest b s' ⟨hb', rfl, vs, ws, ns', ms', hz, hvi, hwi, hlen, hR⟩
      cases hvi with
      | nil => rw [List.zip_nil_left] at hz; cases hz
      | cons a t hvi' =>
        cases hwi with
        | nil => rw [List.zip_nil_right] at hz; cases hz
        | cons c u hwi' =>
          rw [List.zip_cons_cons] at hz
          injection hz with hyx hrest
          injection hyx with hy hx
          subst hy hx
          rw [lexLt_cons] at hR
          simp only [List.length_cons] at hlen
          obtain ⟨e, he, hiff⟩ := eqAt_int A.in1 ⟨hp, g, d, tk, os⟩ a t c u
          refine wpAny_bind (he prog w _ _ ?_)
          cases e with
          | true =>
            rw [if_pos (hiff.mp rfl)] at hR
            wp_walk
            exact ⟨rfl, rfl, _, _, _, _, hrest, hvi', hwi', by omega, hR⟩
          | false =>
            rw [if_neg (fun q => absurd (hiff.mpr q) Bool.false_ne_true)] at hR
            have hri := rcLt_int A.in1 ⟨hp, g, d, tk, os⟩ a t c u prog w
            wp_walk using hri
            exact ⟨_, rfl, by simpa using hR⟩
    case fin =>
      rintro ⟨b1, b2⟩ s' ⟨hb', rfl, vs, ws, ns', ms', hz, hvi, hwi, hlen, hR⟩
      simp only at hb'
      subst hb'
      have hv : lexLt ns' ms' = decide (items.size < items2.size) := by
        cases hvi with
        | nil =>
          cases hwi with
          | nil =>
            simp only [List.length_nil] at hlen
            rw [lexLt_nil_nil]
            exact (decide_eq_false (by omega)).symm
          | cons c u hw =>
            simp only [List.length_nil, List.length_cons] at hlen
            rw [lexLt_nil_cons]
            exact (decide_eq_true (by omega)).symm
        | cons a t hv =>
          cases hwi with
          | nil =>
            simp only [List.length_nil, List.length_cons] at hlen
            rw [lexLt_cons_nil]
            exact (decide_eq_false (by omega)).symm
          | cons c u hw =>
            rw [List.zip_cons_cons] at hz
            cases hz
      rw [hv] at hR
      wp_walk
      exact ⟨_, rfl, by simpa [Builtin.Tuple.tupleCompareSizes] using hR⟩
    case h =>
      exact ⟨rfl, rfl, items.toList, items2.toList, ns, ms, rfl, hi, hj, by omega, h⟩
end
section
variable {prog : Program} {w : World} {A : Around} {E : Value → Shared → Prop} {s : Shared}
theorem lt_tupInts {l b : Addr} {items items2 : Array Value} {ns ms : List Int} {Q : Value → Shared → Prop} (hl : IsTup s.heap l items) (hb : IsTup s.heap b items2) (hi : IntsAre items.toList ns) (hj : IntsAre items2.toList ms)
    (hu : A.units < cLine) (h : Q (.bool (lexLt ns ms)) s) : wpAny (model prog w) A (compareOp .Lt (.ref l) (.ref b)) Q E s := by
  obtain ⟨⟨cls, dd, data, sl⟩, ho, hc, n, hd⟩ := id hl
  obtain ⟨⟨cls2, dd2, data2, sl2⟩, ho2, hc2, n2, hd2⟩ := id hb
  simp only at hc hd hc2 hd2
  subst hc hd hc2 hd2
  exact richCompare_meets_room (op := .Lt) ⟨_, ho, rfl⟩ ⟨_, ho2, rfl⟩ PySem.F.slot_tuple_lt PySem.F.entry_tuple_lt (PySem.F.args_tuple_lt_2 _ _) (tuple_lt_ints l b items items2 n n2 dd dd2 sl sl2 ns ms hi hj)
    ⟨ho, ho2, show Value.bool (lexLt ns ms) ≠ Value.notImplemented ∧ Q (.bool (lexLt ns ms)) s from ⟨(fun x => nomatch x), h⟩⟩ hu
theorem cat_tup {t b : Addr} {vs ws : List Value} {Q : Value → Shared → Prop} (ht : IsTup s.heap t vs.toArray) (hb : IsTup s.heap b ws.toArray) (hv : vs ≠ [])
    (h1 : ws = [] → Q (.ref t) s) (h2 : ws ≠ [] → Q (.ref s.heap.objs.size) { s with heap := s.heap.push { cls := .type "tuple", data := .seq (vs ++ ws).toArray } })
    (hsz : vs.length + ws.length ≤ sizeLine) : wpAny (model prog w) A (binaryOp .Add (.ref t) (.ref b)) Q E s := by
  obtain ⟨⟨cls, dd, data, sl⟩, ho, hc, n, hd⟩ := id ht
  obtain ⟨⟨cls2, dd2, data2, sl2⟩, ho2, hc2, n2, hd2⟩ := id hb
  simp only at hc hd hc2 hd2
  subst hc hd hc2 hd2
  have e : vs.toArray ++ ws.toArray = (vs ++ ws).toArray := by simp
  by_cases hw : ws = []
  · exact concat_meets ⟨_, ho, rfl⟩ ⟨_, ho2, rfl⟩ noFill_tuple_add seq_tuple_add PySem.F.slot_tuple_add PySem.F.entry_tuple_add (PySem.F.args_tuple_add_2 _ _)
      (tuple_addW1 t b vs.toArray ws.toArray n n2 dd dd2 sl sl2 (by simpa using hv) (by simp [hw])) ⟨ho, ho2, h1 hw⟩
  · refine concat_meets ⟨_, ho, rfl⟩ ⟨_, ho2, rfl⟩ noFill_tuple_add seq_tuple_add PySem.F.slot_tuple_add PySem.F.entry_tuple_add (PySem.F.args_tuple_add_2 _ _)
      (tuple_addW2 t b vs.toArray ws.toArray n n2 dd dd2 sl sl2 (by simpa using hv) (by simpa using hw) (by rw [List.size_toArray, List.size_toArray]; exact hsz)) ⟨ho, ho2, ?_⟩
    rw [e]
    exact h2 hw
noncomputable def sIx (n d : Nat) : Option Int → Nat
  | none => d
  | some v => if v < 0 then (v + (n : Int)).toNat else min v.toNat n
theorem sIx_nat (n d k : Nat) : sIx n d (some (k : Int)) = min k n := by
  show (if (k : Int) < 0 then ((k : Int) + (n : Int)).toNat else min (k : Int).toNat n) = min k n
  rw [if_neg (by omega), Int.toNat_natCast]
theorem sIx_le (n d : Nat) (hd : d ≤ n) (o : Option Int) : sIx n d o ≤ n := by
  cases o with
  | none => exact hd
  | some v =>
    show (if v < 0 then (v + (n : Int)).toNat else min v.toNat n) ≤ n
    by_cases hv : v < 0
    · rw [if_pos hv]; omega
    · rw [if_neg hv]; exact Nat.min_le_right _ _
theorem clip_eq (v : Int) (n d : Nat) : (if v < 0 then max (v + (n : Int)) 0 else min v (n : Int)) = ((sIx n d (some v) : Nat) : Int) := by
  show (if v < 0 then max (v + (n : Int)) 0 else min v (n : Int)) = (((if v < 0 then (v + (n : Int)).toNat else min v.toNat n) : Nat) : Int)
  by_cases hv : v < 0
  · simp only [if_pos hv]; omega
  · simp only [if_neg hv]; omega
theorem adjust_gen (lo hi : Option Int) (n : Nat) : Builtin.Slice.sliceAdjust lo hi 1 (n : Int) = (((sIx n 0 lo : Nat) : Int), ((sIx n n hi : Nat) : Int)) := by
  have h1 : ¬ ((1 : Int) < 0) := by omega
  unfold Builtin.Slice.sliceAdjust
  simp only [h1, if_false]
  refine Prod.ext ?_ ?_
  · cases lo with
    | none => rfl
    | some v => exact clip_eq v n 0
  · cases hi with
    | none => rfl
    | some v => exact clip_eq v n n
theorem places_gen (i j : Nat) : Builtin.Slice.slicePlaces (i : Int) (j : Int) 1 = j - i := by
  unfold Builtin.Slice.slicePlaces
  have h1 : (1 : Int) > 0 := by omega
  simp only [h1, if_true, Int.ediv_one]
  split <;> omega
theorem slicePart_ {v : Value} {o : Option Int} {Q : Option Int → Shared → Prop} (p : IsPart v o) (h : Q o s) : wpAny (model prog w) A (Builtin.Slice.slicePartIndex v) Q E s := by
  cases p with
  | none => exact slicePart_none h
  | int i t => exact slicePart_int h
theorem sliceApplied_gen {sl : Addr} {vl vu : Value} {lo hi : Option Int} {n : Nat} {Q : Int × Int × Nat → Shared → Prop} (hs : s.heap.IsSliceOf sl vl vu .none) (pl : IsPart vl lo) (pu : IsPart vu hi)
    (h : Q (((sIx n 0 lo : Nat) : Int), 1, sIx n n hi - sIx n 0 lo) s) : wpAny (model prog w) A (Builtin.Slice.sliceApplied (.ref sl) (pure (n : Int))) Q E s := by
  obtain ⟨os, hos, hcs, hds⟩ := id hs
  unfold Builtin.Slice.sliceApplied Builtin.Slice.sliceFields
  refine wpAny_bind (wpAny_bind (wpAny_field hos hds (x := vl) rfl (wpAny_bind (wpAny_field hos hds (x := vu) rfl (wpAny_bind (wpAny_field hos hds (x := .none) rfl (wpAny_pure ?_)))))))
  refine wpAny_bind (slicePart_none ?_)
  show wpAny _ _ (if ((1 : Int) == 0) = true then _ else _) _ _ s
  rw [if_neg (by decide)]
  refine wpAny_bind (slicePart_ pl (wpAny_bind (slicePart_ pu (wpAny_bind (wpAny_pure ?_)))))
  show wpAny _ _ (match Builtin.Slice.sliceAdjust lo hi 1 (n : Int) with | (lo, hi) => pure (lo, (1 : Int), Builtin.Slice.slicePlaces lo hi 1)) _ _ s
  rw [adjust_gen lo hi n]
  show wpAny _ _ (pure (((sIx n 0 lo : Nat) : Int), (1 : Int), Builtin.Slice.slicePlaces ((sIx n 0 lo : Nat) : Int) ((sIx n n hi : Nat) : Int) 1)) _ _ s
  rw [places_gen]
  exact wpAny_pure h
theorem pick_gen (xs : Array Value) (i k : Nat) : ((List.range k).filterMap fun (m : Nat) => xs[((i : Int) + (m : Int) * 1).toNat]?).toArray = ((xs.toList.drop i).take k).toArray := by
  have e : (fun (m : Nat) => xs[((i : Int) + (m : Int) * 1).toNat]?) = fun m => xs[i + m]? := by
    funext m
    have : ((i : Int) + (m : Int) * 1).toNat = i + m := by omega
    rw [this]
  rw [e]
  have := pick_run xs i k
  rw [List.filterMap_map] at this
  have e2 : ((fun x => xs[x]?) ∘ fun x => i + x) = fun m => xs[i + m]? := rfl
  rw [e2] at this
  rw [this]
theorem getItem_tuple_cut {t sl : Addr} {items : Array Value} {vl vu : Value} {lo hi : Option Int} {Q : Value → Shared → Prop} (ht : IsTup s.heap t items) (hs : s.heap.IsSliceOf sl vl vu .none) (pl : IsPart vl lo) (pu : IsPart vu hi)
    (hw : ¬ (sIx items.size 0 lo = 0 ∧ sIx items.size items.size hi = items.size))
    (h : Q (.ref s.heap.objs.size) { s with heap := s.heap.push { cls := .type "tuple", data := .seq ((items.toList.drop (sIx items.size 0 lo)).take (sIx items.size items.size hi - sIx items.size 0 lo)).toArray } })
    (hsz : items.size ≤ sizeLine) : wpAny (model prog w) A (getItem (.ref t) (.ref sl)) Q E s := by
  have htake : sizeOk (.seq ((items.toList.drop (sIx items.size 0 lo)).take (sIx items.size items.size hi - sIx items.size 0 lo)).toArray) := by
    show ((items.toList.drop (sIx items.size 0 lo)).take (sIx items.size items.size hi - sIx items.size 0 lo)).toArray.size ≤ sizeLine
    rw [List.size_toArray, List.length_take, List.length_drop, Array.length_toList]
    omega
  have hj : sIx items.size items.size hi ≤ items.size := sIx_le _ _ (Nat.le_refl _) hi
  obtain ⟨os, hos, hcs, hds⟩ := id hs
  have hTs : s.TypeIs (.ref sl) "slice" := ⟨os, hos, hcs⟩
  unfold getItem
  try with_reducible refine wpAny_holding ?_
  first | refine wpAny_bind (wpAny_pure ?_) | skip
  refine wpAny_bind (wpAny_sequenceKey ht.typeIs (by decide) ?_)
  refine wpAny_bind (wpAny_callSpecial?_slot (name := Str.ofString "__getitem__") ht.typeIs PyProof.Rows.slot_tuple_getitem
    (wpAny_call_entry PyProof.Rows.slot_tuple_getitem ht.typeIs entry_tuple_getitem ?_ (args_tuple_getitem _ _)))
  show wpAny _ _ (Builtin.Tuple.tupleItemsOf (.ref t) >>= _) _ _ s
  refine wpAny_bind (tupleItemsOf_ ht ?_)
  refine wpAny_bind (wpAny_typeOf hTs ?_)
  rw [if_pos (by decide)]
  refine wpAny_bind (sliceApplied_gen hs pl pu ?_)
  have hno : ¬ ((((sIx items.size 0 lo : Nat) : Int) == 0 && (1 : Int) == 1 && (sIx items.size items.size hi - sIx items.size 0 lo) == items.size) = true) := by
    intro q
    rw [Bool.and_eq_true, Bool.and_eq_true] at q
    have q1 : ((sIx items.size 0 lo : Nat) : Int) = 0 := eq_of_beq q.1.1
    have q2 : sIx items.size items.size hi - sIx items.size 0 lo = items.size := eq_of_beq q.2
    exact hw ⟨by omega, by omega⟩
  show wpAny _ _ (if (((sIx items.size 0 lo : Nat) : Int) == 0 && (1 : Int) == 1 && (sIx items.size items.size hi - sIx items.size 0 lo) == items.size) = true then _ else _) _ _ s
  rw [if_neg hno, pick_gen]
  first
    | exact wpAny_bind (m := Builtin.Tuple.tupleExact _) (wpAny_newObj_type (wpAny_pure ⟨_, rfl, wpAny_pure h⟩) htake)
    | exact wpAny_bind (m := Builtin.Tuple.tupleExact _) (wpAny_newObj_type (wpAny_bind (wpAny_pure (wpAny_pure ⟨_, rfl, wpAny_pure h⟩))) htake)
    | exact wpAny_bind (wpAny_bind (m := Builtin.Tuple.tupleExact _) (wpAny_newObj_type (wpAny_pure (wpAny_pure ⟨_, rfl, wpAny_pure h⟩)) htake))
    | exact wpAny_bind (wpAny_bind (m := Builtin.Tuple.tupleExact _) (wpAny_newObj_type (wpAny_pure ⟨_, rfl, wpAny_pure h⟩) htake))
end
end HT
namespace L2
open PySem PySem.Spec PyProof.Rows
noncomputable abbrev TO := St → Hp → (Option Int → Hp → Prop) → Prop
noncomputable def PO (X : Cx) (e : Option Expr) (t : TO) : Prop :=
  ∀ (pins : List (Addr × Obj)) (s : Shared) (σ : St) (H : Hp) (Q : Option Int → Hp → Prop), Inv X pins σ H s → t σ H Q →
    wpAny (model X.prog X.w) X.A (evalPart e X.env) (fun u s' => ∃ o H', Inv X pins σ H' s' ∧ IsPart u o ∧ Q o H') X.xe s
noncomputable def tNoPart : TO := fun _ H Q => Q none H
noncomputable def tPart (t : TE) : TO := fun σ H Q => t σ H fun x H1 => ∃ i, x = .int i ∧ Q (some i) H1
theorem intsAre_of {ns : List Int} : ∀ {us : List Value}, Vals (ns.map V.int) us → IntsAre us ns := by
  induction ns with
  | nil => intro us r; rw [List.map_nil] at r; cases r; exact .nil
  | cons n ns ih =>
    intro us r
    rw [List.map_cons] at r
    cases r with
    | cons r1 r2 =>
      obtain ⟨t, e⟩ := r1
      subst e
      exact .cons n t (ih r2)
section
variable {X : Cx} {e : Expr} {te : TE} {lo hi : Option Expr} {tl th : TO} {pos p2 : Pos}
theorem po_none : PO X none tNoPart := by
  intro pins s σ H Q I h
  rw [evalPart_none]
  exact wpAny_pure ⟨none, H, I, .none, h⟩
theorem po_some (h : PE X e te) : PO X (some e) (tPart te) := by
  intro pins s σ H Q I hw
  rw [evalPart_some]
  refine thn (h pins s σ H _ I hw) fun u s1 ⟨x, H1, I1, r1, q1⟩ => ?_
  obtain ⟨i, rfl, q⟩ := q1
  obtain ⟨t, rfl⟩ := r1
  exact ⟨some i, H1, I1, .int i t, q⟩
noncomputable def SlR (X : Cx) (r : V → Option Int → Option Int → Hp → VK → Prop) : Prop :=
  ∀ (pins : List (Addr × Obj)) (s : Shared) (σ : St) (H : Hp) (x : V) (v vl vu : Value) (lo hi : Option Int) (sl : Addr) (Q : VK), Inv X pins σ H s → RelV x v → s.heap.IsSliceOf sl vl vu .none → IsPart vl lo → IsPart vu hi → r x lo hi H Q →
    ∃ T id, typeLookup (.type T) "__getitem__" = pure (some (.builtin id)) ∧ s.TypeIs v T ∧ wpAny (model X.prog X.w) X.A (getItem v (.ref sl)) (EP X pins σ Q) X.xe s
theorem SlR.or {r r' : V → Option Int → Option Int → Hp → VK → Prop} (h : SlR X r) (h' : SlR X r') : SlR X (fun x lo hi H Q => r x lo hi H Q ∨ r' x lo hi H Q) := by
  intro pins s σ H x v vl vu lo hi sl Q I rx hs pl pu q
  rcases q with q | q
  · exact h pins s σ H x v vl vu lo hi sl Q I rx hs pl pu q
  · exact h' pins s σ H x v vl vu lo hi sl Q I rx hs pl pu q
noncomputable def tSl (r : V → Option Int → Option Int → Hp → VK → Prop) (te : TE) (tl th : TO) : TE := fun σ H Q => te σ H fun x H1 => tl σ H1 fun l H2 => th σ H2 fun u H3 => r x l u H3 Q
theorem pe_slice {r : V → Option Int → Option Int → Hp → VK → Prop} (hr : SlR X r) (he : PE X e te) (hl : PO X lo tl) (hu : PO X hi th) : PE X (.Subscript e (.Slice lo hi none p2) pos) (tSl r te tl th) := by
  intro pins s σ H Q I h
  refine Subscript_ (thn (he pins s σ H _ I h) fun v s1 ⟨x, H1, I1, r1, q1⟩ => ?_)
  refine wpAny_Slice (thn (hl pins s1 σ H1 _ I1 q1) fun vl s2 ⟨l, H2, I2, pl, q2⟩ => thn (hu pins s2 σ H2 _ I2 q2) fun vu s3 ⟨u, H3, I3, pu, q3⟩ => ?_)
  rw [evalPart_none]
  refine wpAny_pure ?_
  have I4 : Inv X pins σ H3 { s3 with heap := s3.heap.push { cls := .type "slice", data := .fields #[vl, vu, .none] } } := I3.kept (t' := s3.toks) fun b ob q => Heap.get?_push_of_some _ q
  obtain ⟨T, id, hT, ht, hg⟩ := hr pins { s3 with heap := s3.heap.push { cls := .type "slice", data := .fields #[vl, vu, .none] } } σ H3 x v vl vu l u s3.heap.objs.size Q I4 r1 (Heap.IsSliceOf.new ..) pl pu q3
  show wpAny (model X.prog X.w) X.A (subscriptTail e (.Slice lo hi none p2) v (.ref s3.heap.objs.size)) (EP X pins σ Q) X.xe { s3 with heap := s3.heap.push { cls := .type "slice", data := .fields #[vl, vu, .none] } }
  exact tail_any (ops := [.ref s3.heap.objs.size, v]) ht hT hg (by with_unfolding_all rfl)
noncomputable def cutV (xs : List V) (lo hi : Option Int) : List V := (xs.drop (HT.sIx xs.length 0 lo)).take (HT.sIx xs.length xs.length hi - HT.sIx xs.length 0 lo)
theorem cutV_length (xs : List V) (lo hi : Option Int) : (cutV xs lo hi).length ≤ xs.length := by
  unfold cutV
  rw [List.length_take, List.length_drop]
  omega
noncomputable def rSlT (K : W.Frag) : V → Option Int → Option Int → Hp → VK → Prop := fun x lo hi H Q => ∃ a xs, x = .ref a ∧ SqT K H a xs ∧
  ¬ (HT.sIx xs.length 0 lo = 0 ∧ HT.sIx xs.length xs.length hi = xs.length) ∧ ∀ p, H p = none → Q (.ref p) (upd H p (.tup (cutV xs lo hi)))
theorem sl_tup : SlR X (rSlT X.K) := by
  intro pins s σ H x v vl vu lo hi sl Q I rx hs pl pu h
  obtain ⟨a, xs, rfl, hx, hw, q⟩ := h
  cases rx
  obtain ⟨its, r, ht, hz⟩ := I.tuple hx
  have hlen : its.toArray.size = xs.length := by rw [List.size_toArray]; exact r.length.symm
  refine ⟨"tuple", _, PyProof.Rows.slot_tuple_getitem.lookup, ht.typeIs, ?_⟩
  refine HT.getItem_tuple_cut ht hs pl pu (by rw [hlen]; exact hw) ?_ (by rw [hlen]; exact hz)
  rw [hlen]
  refine ⟨.ref s.heap.objs.size, _, I.laid (t' := s.toks) (o := .tup (cutV xs lo hi)) (fun b ob q => Heap.get?_push_of_some _ q) (Nat.le_refl _) ?_, rfl, q _ (I.hok.fresh (Nat.le_refl _))⟩
  exact ⟨Nat.le_trans (cutV_length xs lo hi) hz, _, (r.drop (HT.sIx xs.length 0 lo)).take (HT.sIx xs.length xs.length hi - HT.sIx xs.length 0 lo), IsTup.new _ _⟩
noncomputable def rCatT (K : W.Frag) : R2 := fun x y H Q => ∃ a b xs ys, x = .ref a ∧ y = .ref b ∧ SqT K H a xs ∧ SqT K H b ys ∧ xs ≠ [] ∧ xs.length + ys.length ≤ sizeLine ∧
  (ys = [] → Q (.ref a) H) ∧ (ys ≠ [] → ∀ p, H p = none → Q (.ref p) (upd H p (.tup (xs ++ ys))))
theorem Vals.nil_iff {xs : List V} {us : List Value} (r : Vals xs us) : us = [] ↔ xs = [] := by
  cases r with
  | nil => simp
  | cons _ _ => simp
theorem op_catT : OpR X (binaryOp .Add) (rCatT X.K) := by
  intro pins s σ H x y v u Q I rx ry h
  obtain ⟨a, b, xs, ys, rfl, rfl, ha, hb, hx, hz, q1, q2⟩ := h
  cases rx
  cases ry
  obtain ⟨its, r1, p1, _⟩ := I.tuple ha
  obtain ⟨its2, r2, p2, _⟩ := I.tuple hb
  refine HT.cat_tup p1 p2 (fun z => hx (r1.nil_iff.mp z)) (fun z => ⟨.ref a, H, I, rfl, q1 (r2.nil_iff.mp z)⟩) (fun z => ?_) (by rw [← r1.length, ← r2.length]; exact hz)
  refine ⟨.ref s.heap.objs.size, _, I.laid (t' := s.toks) (o := .tup (xs ++ ys)) (fun b ob q => Heap.get?_push_of_some _ q) (Nat.le_refl _) ?_, rfl, q2 (fun w => z (r2.nil_iff.mpr w)) _ (I.hok.fresh (Nat.le_refl _))⟩
  exact ⟨by rw [List.length_append]; exact hz, _, r1.append r2, IsTup.new _ _⟩
end
end L2
namespace L2
open PySem PySem.Spec PyProof.Rows
noncomputable def ixN (n : Nat) (i : Int) : Option Nat := if 0 ≤ i then (if i < n then some i.toNat else none) else if -(n : Int) ≤ i then some (i + n).toNat else none
noncomputable def atI {α : Type} (xs : List α) (i : Int) : Option α := (ixN xs.length i).bind fun j => xs[j]?
theorem ixN_seq {n : Nat} {i : Int} {j : Nat} (h : ixN n i = some j) : seqIndex? i n = some j ∧ j < n ∧ -(n : Int) ≤ i ∧ i < n := by
  unfold ixN at h
  by_cases h0 : 0 ≤ i
  · rw [if_pos h0] at h
    by_cases h1 : i < n
    · rw [if_pos h1] at h
      have e : i.toNat = j := Option.some.inj h
      exact ⟨by rw [seqIndex_of h0 h1, e], by omega, by omega, h1⟩
    · rw [if_neg h1] at h; cases h
  · rw [if_neg h0] at h
    by_cases h1 : -(n : Int) ≤ i
    · rw [if_pos h1] at h
      have e : (i + n).toNat = j := Option.some.inj h
      exact ⟨by rw [seqIndex_neg (by omega) h1, e], by omega, h1, by omega⟩
    · rw [if_neg h1] at h; cases h
theorem atI_get {α : Type} {xs : List α} {i : Int} {v : α} (h : atI xs i = some v) : ∃ j, seqIndex? i xs.length = some j ∧ xs[j]? = some v ∧ j < xs.length ∧ -(xs.length : Int) ≤ i ∧ i < xs.length := by
  unfold atI at h
  cases e : ixN xs.length i with
  | none => rw [e] at h; cases h
  | some j =>
    rw [e] at h
    obtain ⟨h1, h2, h3, h4⟩ := ixN_seq e
    exact ⟨j, h1, h, h2, h3, h4⟩
theorem atI_nat {α : Type} {xs : List α} {j : Nat} {v : α} (h : xs[j]? = some v) : atI xs (j : Int) = some v := by
  have hj : j < xs.length := (List.getElem?_eq_some_iff.mp h).1
  have e : ixN xs.length (j : Int) = some j := by
    unfold ixN
    rw [if_pos (by omega), if_pos (by omega)]; simp
  unfold atI; rw [e]; exact h
noncomputable def PlainIx (b : Expr) : Prop := ∀ o i, subscripted b false o i = operate [o, i] (getItem o i)
noncomputable def IxR (X : Cx) (r : R2) : Prop :=
  ∀ (value slice : Expr) (pins : List (Addr × Obj)) (s : Shared) (σ : St) (H : Hp) (x y : V) (v u : Value) (Q : VK), Inv X pins σ H s → RelV x v → RelV y u → r x y H Q →
    subscripted slice false v u = operate [v, u] (getItem v u) → wpAny (model X.prog X.w) X.A (subscriptTail value slice v u) (EP X pins σ Q) X.xe s
noncomputable def MtR (X : Cx) (id : String) (r : V → List V → Hp → VK → Prop) : Prop :=
  ∀ (pins : List (Addr × Obj)) (s : Shared) (σ : St) (H : Hp) (x : V) (xs : List V) (v : Value) (us : List Value) (Q : VK), Inv X pins σ H s → RelV x v → Vals xs us → r x xs H Q →
    wpAny (model X.prog X.w) X.A (call (.builtin id) (v :: us)) (EP X pins σ Q) X.xe s
section
variable {X : Cx} {a b : Expr} {ta tb : TE} {pos : Pos}
theorem IxR.or {r r' : R2} (h : IxR X r) (h' : IxR X r') : IxR X (fun x y H Q => r x y H Q ∨ r' x y H Q) := by
  intro value slice pins s σ H x y v u Q I rx ry q hs
  rcases q with q | q
  · exact h value slice pins s σ H x y v u Q I rx ry q hs
  · exact h' value slice pins s σ H x y v u Q I rx ry q hs
theorem MtR.or {id : String} {r r' : V → List V → Hp → VK → Prop} (h : MtR X id r) (h' : MtR X id r') : MtR X id (fun x xs H Q => r x xs H Q ∨ r' x xs H Q) := by
  intro pins s σ H x xs v us Q I rx rs q
  rcases q with q | q
  · exact h pins s σ H x xs v us Q I rx rs q
  · exact h' pins s σ H x xs v us Q I rx rs q
theorem pe_ix {r : R2} (hr : IxR X r) (ha : PE X a ta) (hb : PE X b tb) (hs : PlainIx b) : PE X (.Subscript a b pos) (tOp r ta tb) := by
  intro pins s σ H Q I h
  exact Subscript_ (binT ha hb I h fun v u s2 x y H2 I2 rx ry q => hr a b pins s2 σ H2 x y v u Q I2 rx ry q (hs _ _))
noncomputable def rIxL (K : W.Frag) : R2 := fun x y H Q => ∃ p xs i v, x = .ref p ∧ y = .int i ∧ SqL K H p xs ∧ atI xs i = some v ∧ Q v H
noncomputable def rIxT (K : W.Frag) : R2 := fun x y H Q => ∃ p xs i v, x = .ref p ∧ y = .int i ∧ SqT K H p xs ∧ atI xs i = some v ∧ Q v H
theorem ix_list : IxR X (rIxL X.K) := by
  intro value slice pins s σ H x y v u Q I rx ry h hs
  obtain ⟨p, xs, i, z, rfl, rfl, hq, he, q⟩ := h
  cases rx
  obtain ⟨t, rfl⟩ := ry
  obtain ⟨its, r, pl, hz⟩ := I.list hq
  obtain ⟨j, h1, h2, h3, h4, h5⟩ := atI_get he
  obtain ⟨w, ew, rw'⟩ := r.get h2
  have hl := r.length
  have hn := line63
  have fin : EP X pins σ Q w s := ⟨z, H, I, rw', q⟩
  by_cases h0 : 0 ≤ i
  · have hj : i.toNat = j := by
      rw [seqIndex_of h0 h5] at h1
      exact Option.some.inj h1
    exact item_listR pl.isList h0 (by omega) (by rw [hj]; simpa using ew) fin hs
  · have hj : (i + (its.toArray.size : Int)).toNat = j := by
      rw [seqIndex_neg (by omega) h4] at h1
      rw [List.size_toArray, ← hl]
      exact Option.some.inj h1
    exact subscriptTail_builtinR (x := w) pl.isList.typeIs slot_list_getitem.lookup
      (wpAny_getItem_list_neg (Q := fun r s' => r = w ∧ EP X pins σ Q r s') pl.isList (by omega) (by rw [List.size_toArray] <;> omega) (by omega) (by rw [hj]; simpa using ew) ⟨rfl, fin⟩) hs
theorem ix_tup : IxR X (rIxT X.K) := by
  intro value slice pins s σ H x y v u Q I rx ry h hs
  obtain ⟨p, xs, i, z, rfl, rfl, hq, he, q⟩ := h
  cases rx
  obtain ⟨t, rfl⟩ := ry
  obtain ⟨its, r, pl, hz⟩ := I.tuple hq
  obtain ⟨j, h1, h2, h3, h4, h5⟩ := atI_get he
  obtain ⟨w, ew, rw'⟩ := r.get h2
  have hl := r.length
  have hn := line63
  have fin : EP X pins σ Q w s := ⟨z, H, I, rw', q⟩
  exact subscriptTail_builtinR (x := w) pl.typeIs slot_tuple_getitem.lookup
    (getItem_tuple (j := j) (Q := fun r s' => r = w ∧ EP X pins σ Q r s') pl (by omega) (by omega) (by rw [List.size_toArray, ← hl]; exact h1) (by simpa using ew) ⟨rfl, fin⟩) hs
theorem mapSeq_set (its : List Value) (n j : Nat) (u : Value) : Obj.mapSeq (·.setIfInBounds j u) { cls := .type "list", data := .seq its.toArray n } = { cls := .type "list", data := .seq (its.set j u).toArray n } := by
  simp [Obj.mapSeq]
theorem Inv.lst {pins : List (Addr × Obj)} {σ : St} {H : Hp} {s : Shared} {p : Addr} {xs : List V} (I : Inv X pins σ H s) (h : H p = some (.lst xs)) :
    ∃ (its : List Value) (n : Nat), Vals xs its ∧ s.heap.get? p = some { cls := .type "list", data := .seq its.toArray n } ∧ xs.length ≤ sizeLine := by
  obtain ⟨z, its, n, r, e⟩ := I.hok p _ h
  exact ⟨its, n, r, e, z⟩
theorem Inv.lstUpd {pins : List (Addr × Obj)} {σ : St} {H : Hp} {s : Shared} {p : Addr} {xs ys : List V} {its its' : List Value} {n n' : Nat} {f : Obj → Obj} (I : Inv X pins σ H s) (h : H p = some (.lst xs))
    (ho : s.heap.get? p = some { cls := .type "list", data := .seq its.toArray n }) (hf : f { cls := .type "list", data := .seq its.toArray n } = { cls := .type "list", data := .seq its'.toArray n' }) (r : Vals ys its') (hz : ys.length ≤ sizeLine) (t : Nat) :
    Inv X pins σ (upd H p (.lst ys)) { s with heap := s.heap.update p f, toks := t } := by
  have e : (s.heap.update p f).get? p = some { cls := .type "list", data := .seq its'.toArray n' } := by
    rw [Heap.get?_update_self f ho (by rw [hf] <;> rfl), hf]
  refine I.write (x := p) (e := p) (by rw [h]; trivial) (.inl rfl) (fun b u hb q => (Heap.get?_update_other _ _ (Ne.symm hb)).trans q) ⟨_, e⟩ ?_
  exact ⟨hz, its', n', r, e⟩
noncomputable def rSetL : V → V → V → Hp → (Hp → Prop) → Prop := fun o i v H Q => ∃ p xs k j, o = .ref p ∧ i = .int k ∧ H p = some (.lst xs) ∧ ixN xs.length k = some j ∧ Q (upd H p (.lst (xs.set j v)))
theorem set_list : PSet X rSetL := by
  intro pins s σ H o i v ov iv u Q I ro ri rv h
  obtain ⟨p, xs, k, j, rfl, rfl, hp, hj, q⟩ := h
  cases ro
  obtain ⟨t, rfl⟩ := ri
  obtain ⟨its, n, r, ho, hz⟩ := I.lst hp
  obtain ⟨h1, h2, h3, h4⟩ := ixN_seq hj
  have hl := r.length
  have hn := line63
  have I' : Inv X pins σ (upd H p (.lst (xs.set j v))) { s with heap := s.heap.update p (Obj.mapSeq (·.setIfInBounds j u)) } :=
    I.lstUpd hp ho (mapSeq_set its n j u) (r.set rv j) (by rw [List.length_set]; exact hz) s.toks
  by_cases h0 : 0 ≤ k
  · have hk : k.toNat = j := by
      rw [seqIndex_of h0 h4] at h1
      exact Option.some.inj h1
    exact W.ki_setAt ho h0 (by omega) (by rw [List.size_toArray, ← hl]; exact h4) (by rw [hk]; exact ⟨_, I', q⟩)
  · have hk : (k + (its.toArray.size : Int)).toNat = j := by
      rw [seqIndex_neg (by omega) h3] at h1
      rw [List.size_toArray, ← hl]
      exact Option.some.inj h1
    exact W.ki_setBack ho (by omega) (by rw [List.size_toArray, ← hl]; exact h3) (by omega) (by rw [hk]; exact ⟨_, I', q⟩)
theorem slice_bounds (lo hi : Option Int) (n : Nat) : (sliceBounds lo hi none n).1 = ((HT.sIx n 0 lo : Nat) : Int) ∧ (sliceBounds lo hi none n).2.1 = ((HT.sIx n n hi : Nat) : Int) ∧ (sliceBounds lo hi none n).2.2 = 1 := by
  refine ⟨?_, ?_, rfl⟩
  · cases lo with
    | none => simp [sliceBounds, HT.sIx]
    | some i =>
      simp only [sliceBounds, HT.sIx, Option.getD_none, show (1 : Int) > 0 by decide, if_true]
      by_cases h : i < 0
      · simp only [h, if_true] <;> omega
      · simp only [h, if_false] <;> omega
  · cases hi with
    | none => simp [sliceBounds, HT.sIx]
    | some i =>
      simp only [sliceBounds, HT.sIx, Option.getD_none, show (1 : Int) > 0 by decide, if_true]
      by_cases h : i < 0
      · simp only [h, if_true] <;> omega
      · simp only [h, if_false] <;> omega
theorem slicePick_cut (its : List Value) (lo hi : Option Int) : slicePick its.toArray lo hi none = ((its.drop (HT.sIx its.length 0 lo)).take (HT.sIx its.length its.length hi - HT.sIx its.length 0 lo)).toArray := by
  obtain ⟨h1, h2, h3⟩ := slice_bounds lo hi its.toArray.size
  unfold slicePick
  rw [h1, h2, h3]
  simp only [sliceRange_one, pick_run, List.size_toArray] <;> rfl
noncomputable def rSlL (K : W.Frag) : V → Option Int → Option Int → Hp → VK → Prop := fun x lo hi H Q => ∃ a xs, x = .ref a ∧ SqL K H a xs ∧ ∀ p, H p = none → Q (.ref p) (upd H p (.lst (cutV xs lo hi)))
theorem sl_list : SlR X (rSlL X.K) := by
  intro pins s σ H x v vl vu lo hi sl Q I rx hs pl pu h
  obtain ⟨a, xs, rfl, hx, q⟩ := h
  cases rx
  obtain ⟨its, r, ht, hz⟩ := I.list hx
  have hlen := r.length
  refine ⟨"list", _, slot_list_getitem.lookup, ht.isList.typeIs, ?_⟩
  refine wpAny_getItem_list_slice ht.isList hs pl pu .none (by simp) ?_ (by rw [List.size_toArray] <;> omega)
  rw [slicePick_cut, ← hlen]
  refine ⟨.ref s.heap.objs.size, _, I.laid (t' := s.toks) (o := .lst (cutV xs lo hi)) (fun b ob q => Heap.get?_push_of_some _ q) (Nat.le_refl _) ?_, rfl, q _ (I.hok.fresh (Nat.le_refl _))⟩
  exact ⟨Nat.le_trans (cutV_length xs lo hi) hz, _, 0, (r.drop (HT.sIx xs.length 0 lo)).take (HT.sIx xs.length xs.length hi - HT.sIx xs.length 0 lo), Heap.get?_push_size _ rfl⟩
theorem call_len_seq : CallR X (.builtin "len") (fun xs H Q => ∃ p ys, xs = [.ref p] ∧ (SqL X.K H p ys ∨ SqT X.K H p ys) ∧ Q (.int ys.length) H) := by
  intro pins s σ H xs us Q I r h
  obtain ⟨p, ys, rfl, hq, q⟩ := h
  obtain ⟨u, rfl, rx⟩ := vals1 r
  cases rx
  have hn := line63
  rcases hq with hq | hq
  · obtain ⟨its, r', pl, hz⟩ := I.list hq
    have hlen := r'.length
    exact Calls.call_len_list pl.isList (by simp only [List.size_toArray] <;> omega) ⟨.int ys.length, H, I.tok _, ⟨s.toks + 1, by rw [List.size_toArray, hlen]⟩, q⟩
  · obtain ⟨its, r', pl, hz⟩ := I.tuple hq
    have hlen := r'.length
    exact len_tuple pl (by simp only [List.size_toArray] <;> omega) ⟨.int ys.length, H, I.tok _, ⟨s.toks + 1, by rw [List.size_toArray, hlen]⟩, q⟩
theorem CallR.or {f : Value} {r r' : List V → Hp → VK → Prop} (h : CallR X f r) (h' : CallR X f r') : CallR X f (fun xs H Q => r xs H Q ∨ r' xs H Q) := by
  intro pins s σ H xs us Q I rs q
  rcases q with q | q
  · exact h pins s σ H xs us Q I rs q
  · exact h' pins s σ H xs us Q I rs q
theorem call_tuple_of : CallR X (.type "tuple") (fun xs H Q => ∃ p ys, xs = [.ref p] ∧ ((SqL X.K H p ys ∧ ∀ l, H l = none → Q (.ref l) (upd H l (.tup ys))) ∨ (SqT X.K H p ys ∧ Q (.ref p) H))) := by
  intro pins s σ H xs us Q I r h
  obtain ⟨p, ys, rfl, h⟩ := h
  obtain ⟨u, rfl, rx⟩ := vals1 r
  cases rx
  rcases h with ⟨hq, q⟩ | ⟨hq, q⟩
  · obtain ⟨its, r', pl, hz⟩ := I.list hq
    have hlen := r'.length
    refine call_tuple_list pl.isList (fun h' kp => ?_) (by simp only [List.size_toArray] <;> omega)
    have I1 : Inv X pins σ H { s with heap := h' } := I.kept (t' := s.toks) kp
    have I2 : Inv X pins σ (upd H h'.objs.size (.tup ys)) { s with heap := h'.push { cls := .type "tuple", data := .seq its.toArray } } :=
      I1.laid (t' := s.toks) (fun b o e => Heap.get?_push_of_some _ e) (Nat.le_refl _) (show ObjOk X.prog X.w _ _ _ (.tup ys) from ⟨hz, its, r', IsTup.new _ _⟩)
    exact ⟨.ref h'.objs.size, _, I2, rfl, q _ (I1.hok.fresh (Nat.le_refl _))⟩
  · obtain ⟨its, r', pl, hz⟩ := I.tuple hq
    exact call_tuple_same pl ⟨.ref p, H, I, rfl, q⟩
noncomputable def tyV (K : W.Frag) (T : String) (x : V) (H : Hp) : Prop := match x with
  | .str _ => T = "str"
  | .int _ => T = "int"
  | .ref p => (T = "list" ∧ ∃ xs, SqL K H p xs) ∨ (T = "tuple" ∧ ∃ o, K.lookup p = some o ∧ o.cls = .type "tuple" ∧ o.dict = none) ∨
      (T = "dict" ∧ ((∃ kvs, H p = some (.dK kvs)) ∨ ∃ kvs, H p = some (.dT kvs))) ∨ (T = "set" ∧ ∃ S n, H p = some (.set S n))
  | _ => False
theorem tyV_is {pins : List (Addr × Obj)} {σ : St} {H : Hp} {s : Shared} {T : String} {x : V} {v : Value} (I : Inv X pins σ H s) (r : RelV x v) (ty : tyV X.K T x H) :
    s.TypeIs v T ∧ ∀ a, v = .ref a → ∃ ob, s.heap.get? a = some ob ∧ ob.dict = none := by
  cases x with
  | str z =>
    obtain ⟨t, rfl⟩ := r
    cases (show T = "str" from ty)
    exact ⟨typeIs_str s z t, fun _ e => nomatch e⟩
  | int i =>
    obtain ⟨t, rfl⟩ := r
    cases (show T = "int" from ty)
    exact ⟨typeIs_int s i t, fun _ e => nomatch e⟩
  | ref p =>
    cases r
    rcases ty with ⟨rfl, xs, hq⟩ | ⟨rfl, o, hk, hc, hd⟩ | ⟨rfl, hk⟩ | ⟨rfl, S, n, hk⟩
    · obtain ⟨its, _, pl, _⟩ := I.list hq
      refine ⟨pl.isList.typeIs, fun a e => ?_⟩
      cases e
      obtain ⟨o, n, e, c, hd, _⟩ := pl
      exact ⟨o, e, hd⟩
    · refine ⟨⟨o, I.kIn p o hk, hc⟩, fun a e => ?_⟩
      cases e
      exact ⟨o, I.kIn _ o hk, hd⟩
    · have z : ∃ o, s.heap.get? p = some o ∧ o.ExactDict := by
        rcases hk with ⟨kvs, hk⟩ | ⟨kvs, hk⟩
        · obtain ⟨_, _, _, _, o, _, _, e, ex, _⟩ := I.hok p _ hk
          exact ⟨o, e, ex⟩
        · obtain ⟨_, _, _, _, o, _, _, e, ex, _⟩ := I.hok p _ hk
          exact ⟨o, e, ex⟩
      obtain ⟨o, e, ex⟩ := z
      refine ⟨⟨o, e, ex.1⟩, fun a e2 => ?_⟩
      cases e2
      exact ⟨o, e, ex.2.1⟩
    · obtain ⟨o, _, _, _, e, ex, _⟩ := I.hok p _ hk
      refine ⟨⟨o, e, ex.1⟩, fun a e2 => ?_⟩
      cases e2
      exact ⟨o, e, ex.2.1⟩
  | _ => exact False.elim ty
noncomputable def tBM (K : W.Frag) (T : String) (r : V → List V → Hp → VK → Prop) (to : TE) (t : TA) : TE := fun σ H Q => to σ H fun x H1 => tyV K T x H1 ∧ t σ H1 fun xs H2 => r x xs H2 Q
variable {o e : Expr} {es : List Expr} {to : TE} {t : TA} {name : Str} {apos cpos : Pos} {T id : String} {r : V → List V → Hp → VK → Prop}
theorem pe_bm (pa : PlainAttrs T) (slot : Slot T name id) (hty : typeOf (.builtin id) = pure (.type "method_descriptor")) (hm : MtR X id r) (ho : PE X o to) (ha : PA X (e :: es) t)
    (hbase : attributeBase o name X.env (eval o X.env) = eval o X.env := by rfl)
    (hfew : ((backTo cpos (starEach (e :: es) X.env)).all (fun x => !x.1) && (backToKw cpos (keywordEach [] X.env)).all (fun x => x.1.isSome)
      && decide ((e :: es).length + ([] : List Keyword).length + (if ([] : List Keyword).isEmpty then 0 else 1) < 30)) = true := by rfl)
    (hline : (apos.endLine == cpos.line) = true := by rfl) (hs : starEach (e :: es) X.env = (false, eval e X.env) :: starEach es X.env := by rfl) (hplain : (backTo cpos (starEach es X.env)).any (·.1) = false := by rfl) :
    PE X (.Call (.Attribute o name apos) (e :: es) [] cpos) (tBM X.K T r to t) := by
  intro pins s σ H Q I h
  refine wpAny_Call_method_late hbase hfew hline rfl (thn (ho pins s σ H _ I h) fun v s1 ⟨x, H1, I1, r1, ty, q1⟩ => ?_)
  obtain ⟨h1, h2⟩ := tyV_is I1 r1 ty
  refine ⟨T, id, pa, slot, hty, h1, h2, ?_⟩
  have hA := ha cpos pins s1 σ H1 _ I1 q1
  rw [hs] at hA ⊢
  refine Calls.callWith_builtin (by show (false || (backTo cpos (starEach es X.env)).any (·.1)) = false; rw [hplain] <;> rfl) (Calls.evalArgs_plain ?_)
  exact thn hA fun us s2 ⟨vs, H2, I2, r2, q2⟩ => hm pins s2 σ H2 x vs v us Q I2 r1 r2 q2
end
end L2
namespace L2
open PySem PySem.Spec PyProof.Rows
noncomputable def MtM (X : Cx) (id : String) (r : V → List V → Hp → VK → Prop) : Prop :=
  ∀ (pins : List (Addr × Obj)) (s : Shared) (σ : St) (H : Hp) (x : V) (xs : List V) (v : Value) (us : List Value) (Q : VK), Inv X pins σ H s → RelV x v → Vals xs us → r x xs H Q →
    wpAny (model X.prog X.w) X.A (call (.builtin id) (v :: us)) (EP X pins σ Q) X.xe s
theorem Vals.one : ∀ {x : V} {us : List Value}, Vals [x] us → ∃ u, us = [u] ∧ RelV x u
  | _, _, .cons r .nil => ⟨_, rfl, r⟩
theorem Vals.zero : ∀ {us : List Value}, Vals [] us → us = []
  | _, .nil => rfl
theorem Vals.eraseIdx : ∀ {xs : List V} {us : List Value} (i : Nat), Vals xs us → Vals (xs.eraseIdx i) (us.eraseIdx i)
  | _, _, _, .nil => .nil
  | _, _, 0, .cons _ t => t
  | _, _, i + 1, .cons r t => .cons r (Vals.eraseIdx i t)
theorem Vals.reverse {xs : List V} {us : List Value} (h : Vals xs us) : Vals xs.reverse us.reverse := by
  induction h with
  | nil => exact .nil
  | cons r t ih => rw [List.reverse_cons, List.reverse_cons]; exact Vals.append ih (.cons r .nil)
theorem Vals.rep {xs : List V} {us : List Value} (h : Vals xs us) : ∀ k : Nat, Vals (List.replicate k xs).flatten (List.replicate k us).flatten
  | 0 => .nil
  | k + 1 => by
    rw [List.replicate_succ, List.replicate_succ, List.flatten_cons, List.flatten_cons]
    exact Vals.append h (Vals.rep h k)
theorem foldl_rep (its : List Value) : ∀ (k : Nat) (acc : List Value),
    List.foldl (fun x1 x2 => x1 ++ x2) acc.toArray (List.replicate k its.toArray) = (acc ++ (List.replicate k its).flatten).toArray
  | 0, acc => by simp
  | k + 1, acc => by
    have e : acc.toArray ++ its.toArray = (acc ++ its).toArray := by simp
    have e2 : (acc ++ its) ++ (List.replicate k its).flatten = acc ++ (List.replicate (k + 1) its).flatten := by
      rw [List.replicate_succ, List.flatten_cons, List.append_assoc]
    rw [← e2, ← foldl_rep its k (acc ++ its), ← e, List.replicate_succ, List.foldl_cons]
section
variable {X : Cx} {pins : List (Addr × Obj)} {σ : St} {H : Hp} {s : Shared} {l b : Addr} {xs ys zs : List V}
theorem Inv.lset {its its' : List Value} {n : Nat} {f : Array Value → Array Value} {t' : Nat} (I : Inv X pins σ H s) (hH : H l = some (.lst xs))
    (e : s.heap.get? l = some { cls := .type "list", data := .seq its.toArray n }) (hf : f its.toArray = its'.toArray) (hv : Vals ys its') (hz : ys.length ≤ sizeLine) :
    Inv X pins σ (upd H l (.lst ys)) { s with heap := s.heap.update l (Obj.mapSeq f), toks := t' } := by
  have q := PySem.IsL.update e f
  rw [hf] at q
  refine I.write (x := l) (e := l) (by rw [hH]; exact trivial) (.inl rfl) (fun b' u hb hu => (Heap.get?_update_other s.heap (Obj.mapSeq f) (Ne.symm hb)).trans hu) ⟨_, q⟩ ?_
  exact ⟨hz, its', _, hv, q⟩
theorem Inv.lnew {its : List Value} {t' : Nat} (I : Inv X pins σ H s) (hv : Vals ys its) (hz : ys.length ≤ sizeLine) :
    Inv X pins σ (upd H s.heap.objs.size (.lst ys)) { s with heap := s.heap.push { cls := .type "list", data := .seq its.toArray }, toks := t' } :=
  I.laid (fun _ _ q => Heap.get?_push_of_some _ q) (Nat.le_refl _) ⟨hz, its, 0, hv, Heap.get?_push_size _ rfl⟩
theorem Inv.fresh (I : Inv X pins σ H s) : H s.heap.objs.size = none := I.hok.fresh (Nat.le_refl _)
theorem Inv.lstM (I : Inv X pins σ H s) (hH : H l = some (.lst xs)) : xs.length ≤ sizeLine ∧ ∃ (its : List Value) (n : Nat), Vals xs its ∧ xs.length = its.length ∧ s.heap.get? l = some { cls := .type "list", data := .seq its.toArray n } := by
  obtain ⟨z, its, n, r, e⟩ := I.hok l _ hH
  exact ⟨z, its, n, r, r.length, e⟩
theorem notLongL {n : Nat} (h : n ≤ sizeLine) : Builtin.List.listTooLong n = false := by
  unfold Builtin.List.listTooLong
  exact decide_eq_false (by omega)
end
section
variable {X : Cx}
noncomputable def rAppend : V → List V → Hp → VK → Prop := fun x vs H Q => ∃ l xs y, x = .ref l ∧ vs = [y] ∧ H l = some (.lst xs) ∧ xs.length < sizeLine ∧ Q .non (upd H l (.lst (xs ++ [y])))
theorem mt_append : MtM X "list.append" rAppend := by
  intro pins s σ H x vs v us Q I rx rv h
  obtain ⟨l, xs, y, rfl, rfl, hH, hz, q⟩ := h
  cases rx
  obtain ⟨u, rfl, ru⟩ := rv.one
  obtain ⟨z, its, n, r, hl, e⟩ := I.lstM hH
  refine call_meets F.slot_list_append ⟨_, e, rfl⟩ F.entry_list_append (F.args_list_append_2 _ _) (PySem.list_append l its.toArray n u (by rw [List.size_toArray]; omega)) ⟨e, ?_⟩
  refine ⟨.non, _, I.lset (its' := its ++ [u]) hH e (by simp) (r.append (.cons ru .nil)) ?_, rfl, q⟩
  rw [List.length_append, List.length_singleton]
  omega
noncomputable def rCat : R2 := fun x y H Q => ∃ l b xs zs, x = .ref l ∧ y = .ref b ∧ H l = some (.lst xs) ∧ H b = some (.lst zs) ∧ xs.length + zs.length ≤ sizeLine ∧ ∀ p, H p = none → Q (.ref p) (upd H p (.lst (xs ++ zs)))
theorem op_cat : OpR X (binaryOp .Add) rCat := by
  intro pins s σ H x y v u Q I rx ry h
  obtain ⟨l, b, xs, zs, rfl, rfl, hH, hB, hz, q⟩ := h
  cases rx
  cases ry
  obtain ⟨z, its, n, r, hl, e⟩ := I.lstM hH
  obtain ⟨z2, its2, n2, r2, hl2, e2⟩ := I.lstM hB
  refine PySem.P.add_list e e2 ?_ (by rw [List.size_toArray, List.size_toArray]; omega)
  have ea : its.toArray ++ its2.toArray = (its ++ its2).toArray := by simp
  rw [ea]
  exact ⟨.ref _, _, I.lnew (t' := s.toks) (r.append r2) (by rw [List.length_append]; omega), rfl, q _ I.fresh⟩
theorem len_rep {α : Type} (xs : List α) (k : Nat) : (List.replicate k xs).flatten.length = k * xs.length := by
  induction k with
  | zero => simp
  | succ k ih => rw [List.replicate_succ, List.flatten_cons, List.length_append, ih, Nat.succ_mul, Nat.add_comm]
end
section
variable {prog : Program} {w : World} {A : Around} {E : Value → Shared → Prop} {s : Shared}
end
section
variable {X : Cx}
end
end L2
namespace Att
open PySem PySem.W PySem.Calls PyProof.Rows
theorem ints_of_wellAll {P : Params} {h : Heap} : ∀ (ns : List Int) (vs : List Value), WellAll P h vs (ns.map WData.int) → IntsAre vs ns := by
  intro ns
  induction ns with
  | nil =>
    intro vs w
    rw [List.map_nil] at w
    cases w
    exact .nil
  | cons n ns ih =>
    intro vs w
    rw [List.map_cons] at w
    cases w with
    | cons a b =>
      cases a
      exact .cons _ _ (ih _ b)
theorem script_of {l : OpenLaw} {n : Nat} (hn : l.most = some n) {P : Params} {h : Heap} {args : List WData} {vals : List Value}
    (hpre : l.row.toRowW.claim.pre args = true) (hwl : WellAll P h vals args) :
    ∃ a vs ns, vals = [Value.ref a] ∧ args = [WData.list (ns.map WData.int)] ∧ h.get? a = some { cls := .type "list", data := .seq vs.toArray } ∧ IntsAre vs ns ∧ ns.length ≤ n := by
  have hsh : WShape.hasAll [] args [.list .int] = true := (pre_splitW hpre).1
  have hc : l.pre.holds [] { args := args } = true := (pre_splitW hpre).2
  obtain ⟨d, r, rfl, h1, h2⟩ := hasAllW_cons hsh
  obtain rfl := hasAllW_nil h2
  obtain ⟨xs, rfl, h3⟩ := hasW_list h1
  obtain ⟨ns, rfl⟩ := items_int h3
  have hlen : ns.length ≤ n := by
    unfold OpenLaw.pre at hc
    have h4 : (WTm.not (.lt (.lit (.int (n : Int))) (.len (.arg 0)))).holds [] { args := [.list (ns.map .int)] } = true := by
      have h4 := (holds_andW hc).1
      rw [hn] at h4
      exact h4
    have h5 := condW_of h4 (w_not (w_lt w_lit (w_len_list (w_arg rfl))))
    rw [List.length_map] at h5
    refine Nat.le_of_not_lt fun q => ?_
    have q' : (n : Int) < ((ns.length : Nat) : Int) := by omega
    first
      | (rw [decide_eq_true q'] at h5; exact absurd h5 (by decide))
      | (simp at h5; omega)
  cases hwl with
  | cons w1 w2 =>
    cases w2
    cases w1 with
    | list ho hall => exact ⟨_, _, ns, rfl, rfl, ho, ints_of_wellAll ns _ hall, hlen⟩
theorem post_true (l : OpenLaw) (args : List WData) : l.row.toRowW.claim.post args (.bool true) args = true :=
  postW_of (r := l.row.toRowW) (X := (true == true))
    (show WShape.has [] (.bool true) .bool = true by first | rfl | decide | simp [WShape.has, WShape.arms, WShape.armsAll])
    (show (WTm.eq .res (.lit (.bool true))).value [] { args := args, res := some (.bool true), after := args } = some (.bool (true == true)) from w_eq_bool (w_res rfl) w_lit) rfl
section
variable {prog : Program} {w : World} {A : Around} {E : Value → Shared → Prop} {s : Shared} {K : Frag}
end
end Att
namespace L2
open PySem PySem.Spec PyProof.Rows
theorem vals_ints : ∀ {vs : List Value} {ns : List Int}, IntsAre vs ns → Vals (ns.map V.int) vs
  | _, _, .nil => .nil
  | _, _, .cons n t h => .cons ⟨t, rfl⟩ (vals_ints h)
noncomputable def Only (H : Hp) : Prop := ∀ b, H b = none ∨ ∃ o xs, H b = some (.frz o (.lst xs))
theorem law_call {P : Program} {w : World} {K : W.Frag} {mg mb : Str → Option Value} {CX : CXT} {k : Nat} {fa a : Addr} {fd : FuncData} {x : Str} {sp : Sp} {s₁ : Shared} {vs : List Value} {ns : List Int}
    (KX : K.In s₁.heap) (hns : s₁.heap.Ns mainGlobals mg) (hb : s₁.heap.Ns builtinsNs mb) (hbb : ∀ x : Str, x ≠ "__name__" → mb x = bootBuiltins x) (hlim : s₁.heap.NoLimit) (hg : s₁.gens = #[])
    (ha : s₁.heap.get? a = some { cls := .type "list", data := .seq vs.toArray }) (hi : IntsAre vs ns) (hl : ns.length ≤ sizeLine) (hr : Room k callerA)
    (F : ∀ base : Heap, K.In base → base.Ns mainGlobals mg → FnOk P w K mg base CX k fa fd [x] sp) (hbind : ∀ (s : Shared) (u : Value), BindsTo s fd ⟨[u], []⟩ [(x, u)])
    (hsp : ∀ H : Hp, Only H → SqL K H a (ns.map V.int) → sp [.ref a] H (fun v _ => v = .bl true) fun _ _ _ => False)
    (hCX : ∀ H e s', CX [] H s₁ (fun _ _ _ => False) e s' → False) :
    codeAny (model P w) callerA (.call (.ref fa) ⟨[.ref a], []⟩) (fun r s' => r = .ok (.ret (.bool true)) ∧ OldK s₁.heap s'.heap ∧ s'.os = s₁.os ∧ AllBare s'.gens) s₁ := by
  have rv := vals_ints hi
  have lenV := hi.length
  have core : ∀ H : Hp, Only H → SqL K H a (ns.map V.int) → HOk P w H s₁.heap → (∀ b, H b ≠ none → b = a) → (H a ≠ none → K.lookup a = none) →
      codeAny (model P w) callerA (.call (.ref fa) ⟨[.ref a], []⟩) (fun r s' => r = .ok (.ret (.bool true)) ∧ OldK s₁.heap s'.heap ∧ s'.os = s₁.os ∧ AllBare s'.gens) s₁ := by
    intro H hO hS hok hA hK
    have base_of : ∀ {b : Addr} {o : Obj}, s₁.heap.get? b = some o → H b = none → (hidT s₁.heap H).get? b = some o := fun e n => hidT_get e n
    have noA : ∀ {b : Addr} {o : Obj} {es : Array DictEntry} {ep : Nat}, s₁.heap.get? b = some o → o.data = .dict es ep → H b = none := fun {b o es ep} e d => by
      cases q : H b with
      | none => rfl
      | some u =>
        have e' : b = a := hA b (by rw [q]; simp)
        subst e'
        rw [ha] at e; cases e
        have d' : Data.seq vs.toArray _ = Data.dict es ep := d
        cases d'
    have nsK : ∀ {b : Addr} {m : Str → Option Value}, s₁.heap.Ns b m → (hidT s₁.heap H).Ns b m := fun {b m} ⟨o, es, ep, e, d, r⟩ => ⟨o, es, ep, base_of e (noA e d), d, r⟩
    have hKb : K.In (hidT s₁.heap H) := fun b o e => base_of (KX b o e) (by
      cases q : H b with
      | none => rfl
      | some u =>
        have e' : b = a := hA b (by rw [q]; simp)
        subst e'
        rw [hK (by rw [q]; simp)] at e; cases e)
    have hM : Mod K mg (hidT s₁.heap H) := ⟨hKb, nsK hns, ⟨mb, nsK hb, hbb⟩, let ⟨mc, h1, h2⟩ := hlim; ⟨mc, nsK h1, h2⟩⟩
    have e0 : Env0 P w K mg (hidT s₁.heap H) callerA [] s₁ H := ⟨rfl, hM, fun b o e => of_hidT e, Nat.le_of_eq (hidT_size _ _), trivial, fun b hb => absurd (show b ∈ ([] : List Addr) from hb) (by simp), hok, .of_eq hg, .inl rfl⟩
    refine codeAny_mono ((F _ hKb (nsK hns)).run callerA [] s₁ H ⟨[.ref a], []⟩ [.ref a] [.ref a] _ _ hr e0 (hbind s₁ (.ref a)) (.cons rfl .nil) (hsp H hO hS)) fun r s' h => ?_
    cases r with
    | error e => exact (hCX H e s' h).elim
    | ok fl =>
      cases fl with
      | next => exact False.elim h
      | brk => exact False.elim h
      | cont => exact False.elim h
      | ret u =>
        obtain ⟨v, H', os, bare, un, hok', r', q⟩ := h
        have q' : v = .bl true := q
        subst q'
        obtain rfl : u = Value.bool true := r'
        refine ⟨rfl, OldK.of_keep fun b o e => ?_, os, bare⟩
        cases q : H b with
        | none => exact un.keep b o e q (by intro z; exact absurd (show b ∈ ([] : List Addr) from z) (by simp)) (by simp)
        | some u =>
          rcases hO b with z | ⟨ob, xs, z⟩
          · rw [q] at z; cases z
          · have z2 := un.frzs b ob _ z
            obtain ⟨e1, _⟩ := hok b _ z
            obtain ⟨e2, _⟩ := hok' b _ z2
            rw [e] at e1; cases e1
            exact e2
  cases hk : K.lookup a with
  | some o =>
    have e := KX a o hk
    rw [ha] at e
    cases e
    refine core (fun _ => none) (fun _ => .inl rfl) (.inr ⟨_, vs.toArray, _, hk, rfl, rfl, rfl, by rw [List.size_toArray, lenV]; exact hl, by simpa using rv⟩) (fun b u z => by have z' : (none : Option HO) = some u := z; cases z') (fun b z => absurd rfl z) fun z => absurd rfl z
  | none =>
    refine core (fun b => if b = a then some (.frz { cls := .type "list", data := .seq vs.toArray } (.lst (ns.map V.int))) else none) (fun b => ?_) (.inl (.inr ⟨{ cls := .type "list", data := .seq vs.toArray }, if_pos rfl⟩)) (fun b u z => ?_) (fun b z => ?_) fun _ => hk
    · by_cases hb : b = a
      · exact .inr ⟨_, _, if_pos hb⟩
      · exact .inl (if_neg hb)
    · by_cases hb : b = a
      · have z' := (if_pos hb).symm.trans z
        cases z'
        subst hb
        exact ⟨ha, by rw [List.length_map]; exact hl, vs, _, rv, ha⟩
      · have z' := (if_neg hb).symm.trans z
        cases z'
    · by_cases hb : b = a
      · exact hb
      · exact absurd (if_neg hb) z
end L2
namespace L2
open PySem PySem.Spec PyProof.Rows
end L2
namespace L2
open PySem PySem.Spec PyProof.Rows
noncomputable def defArgs (s : Stmt) : Arguments := match s with
  | .FunctionDef _ a _ _ _ _ _ _ _ _ => a
  | _ => { posonlyargs := [], args := [], vararg := none, kwonlyargs := [], kw_defaults := [], kwarg := none, defaults := [] }
noncomputable def defBody (s : Stmt) : List Stmt := match s with
  | .FunctionDef _ _ b _ _ _ _ _ _ _ => b
  | _ => []
noncomputable def defScope (s : Stmt) : Scope := match s with
  | .FunctionDef _ _ _ _ _ _ sc _ _ _ => sc
  | _ => { kind := .function, names := [], isGenerator := false, isCoroutine := false }
noncomputable abbrev CX0 : CXT := fun _ _ _ _ _ _ => False
noncomputable abbrev E0 : XK := fun _ _ _ => False
theorem pass0 {X : Cx} : Passes CX0 X E0 := fun _ _ _ _ _ _ _ h => h.elim
structure Fun (K : W.Frag) (x qual : Str) (st : Stmt) (f : Addr) (fd : FuncData) : Prop where
  ex : ∃ (oc : Value) (od : Option Addr) (kV doc pm : Value) (an : Option Addr) (cdv ct : Value) (osl : Array (Option Value)),
    fd = W.fnOf x qual (defArgs st) (defBody st) (defScope st) .none kV doc pm an cdv ct ∧ K.lookup f = some ⟨oc, od, .func fd, osl⟩ ∧ W.codeIn K cdv qual = true
  kp : W.keepIn K (.ref f) = true
section
variable {P : Program} {w : World} {K : W.Frag} {mg : Str → Option Value} {base : Heap}
theorem Fun.ok {x qual : Str} {st : Stmt} {f : Addr} {fd : FuncData} {N ps : List Str} {k : Nat} {sp : Sp} (F : Fun K x qual st f fd) (S : FnScope N ps (defScope st)) (len : ∀ vs H Q E, sp vs H Q E → vs.length = ps.length)
    (hbody : ∀ (cdv : Value) (A : Around) (outer : List Env) (s : Shared) (H : Hp) (vs : List V) (Q : VK) (E : XK), Room k (A.deeper (envOfC qual (defScope st) s.heap.objs.size f cdv)) → sp vs H Q E →
      ∃ t, PSs (cxOf CX0 P w K mg base N qual (defScope st) f cdv A outer s H E).nox (defBody st) t ∧ t { nx := fun _ H' => Q .non H', rt := Q } (start N vs) H) : FnOk P w K mg base CX0 (k + 1) f fd ps sp := by
  obtain ⟨oc, od, kV, doc, pm, an, cdv, ct, osl, rfl, lk, hcd⟩ := F.ex
  refine fn_of lk hcd S len fun A outer s H vs Q E hr hsp => ?_
  obtain ⟨t, h, q⟩ := hbody cdv A outer s H vs Q E hr hsp
  exact ⟨t, h.nox, q⟩
theorem Fun.binds {x qual : Str} {st : Stmt} {f : Addr} {fd : FuncData} {ps : List Str} (F : Fun K x qual st f fd)
    (h : ∀ (kV doc pm : Value) (an : Option Addr) (cdv ct : Value) (us : List Value), us.length = ps.length → bindArgs (W.fnOf x qual (defArgs st) (defBody st) (defScope st) .none kV doc pm an cdv ct) ⟨us, []⟩ = pure (ps.zip us)) : Binds K fd ps [] := by
  obtain ⟨oc, od, kV, doc, pm, an, cdv, ct, osl, rfl, lk, hcd⟩ := F.ex
  exact .all (h kV doc pm an cdv ct)
theorem fun_mk {x qual : Str} {st : Stmt} {f : Addr} {oc : Value} {od an : Option Addr} {osl : Array (Option Value)} {kV doc pm cdv ct : Value} (l : K.lookup f = some ⟨oc, od, .func (W.fnOf x qual (defArgs st) (defBody st) (defScope st) .none kV doc pm an cdv ct), osl⟩)
    (c : W.codeIn K cdv qual = true) (k : W.keepIn K (.ref f) = true) : Fun K x qual st f (W.fnOf x qual (defArgs st) (defBody st) (defScope st) .none kV doc pm an cdv ct) := ⟨⟨oc, od, kV, doc, pm, an, cdv, ct, osl, rfl, l, c⟩, k⟩
end
section
variable {X : Cx}
theorem pv (i : Nat) {x : Str} {pos : Pos} (hN : X.N[i]? = some x := by rfl) (hv : Vis X.env.scope x := by first | exact Or.inl rfl | exact Or.inr (Or.inl rfl) | exact Or.inr (Or.inr rfl)) (hd : (x == ("__debug__" : Str)) = false := by decide)
    (hcd : (x == ("__classdict__" : Str)) = false := by decide) : PE X (.Name x pos) (tVar i) := pe_var hN hv hd hcd
end
theorem iteF {A B : Prop} (h : B) : if false = true then A else B := by
  rw [if_neg Bool.false_ne_true]
  exact h
theorem iteT {A B : Prop} (h : A) : if true = true then A else B := by
  rw [if_pos rfl]
  exact h
noncomputable def Same (H H' : Hp) : Prop := ∀ b o, H b = some o → H' b = some o
theorem Same.refl (H : Hp) : Same H H := fun _ _ h => h
theorem Same.trans {H H1 H2 : Hp} (a : Same H H1) (b : Same H1 H2) : Same H H2 := fun c o h => b c o (a c o h)
theorem Same.free {H H' : Hp} (e : Same H H') {l : Addr} (h : H' l = Option.none) : H l = Option.none := by
  cases q : H l with
  | none => rfl
  | some o =>
    rw [e l o q] at h
    cases h
theorem Same.seq {K : W.Frag} {H H' : Hp} {a : Addr} {xs : List V} (e : Same H H') (h : SqL K H a xs) : SqL K H' a xs := by
  rcases h with (h | ⟨o, h⟩) | h
  · exact .inl (.inl (e _ _ h))
  · exact .inl (.inr ⟨o, e _ _ h⟩)
  · exact .inr h
end L2
section
set_option maxHeartbeats 4000000
namespace L2
open PySem PySem.Spec PyProof.Rows
noncomputable def closOf (cells : List (Str × Addr)) : List (Str × NameKind) → List (Str × Addr) → List (Str × Addr)
  | [], acc => acc
  | (n, k) :: r, acc => if k == .free then closOf cells r ((n, (cells.lookup n).getD 0) :: acc) else closOf cells r acc
theorem closureFor_eq {scope : Scope} {env : Env} (h : ∀ x ∈ scope.names, x.2 = .free → ∃ c, env.cells.lookup x.1 = some c) : closureFor scope env = pure (closOf env.cells scope.names []) := by
  simp only [closureFor]
  generalize hn : scope.names = names at h
  clear hn
  generalize hacc : ([] : List (Str × Addr)) = acc
  clear hacc
  have key : ∀ (names : List (Str × NameKind)) (acc : List (Str × Addr)), (∀ x ∈ names, x.2 = .free → ∃ c, env.cells.lookup x.1 = some c) →
      (forIn (m := Sem) names acc fun (x : Str × NameKind) (r : List (Str × Addr)) => (match x with
        | (name, kind) => if (kind == NameKind.free) = true then do
            let a ← cellOf env name
            pure (ForInStep.yield ((name, a) :: r))
          else pure (ForInStep.yield r))) = pure (closOf env.cells names acc) := by
    intro names
    induction names with
    | nil => intro acc _; rfl
    | cons x r ih =>
      intro acc h
      obtain ⟨n, k⟩ := x
      rw [List.forIn_cons]
      unfold closOf
      by_cases hk : (k == NameKind.free) = true
      · simp only [hk, if_true]
        obtain ⟨c, hc⟩ := h (n, k) List.mem_cons_self (by simpa using hk)
        have e : cellOf env n = pure c := by unfold cellOf; rw [show env.cells.lookup n = some c from hc]
        rw [e, show (env.cells.lookup n).getD 0 = c by rw [show env.cells.lookup n = some c from hc]; rfl]
        exact ih _ fun y hy => h y (List.mem_cons_of_mem _ hy)
      · simp only [hk, if_false]
        exact ih _ fun y hy => h y (List.mem_cons_of_mem _ hy)
  have k := key names acc h
  refine Eq.trans (congrArg (fun (z : Sem (List (Str × Addr))) => z >>= fun r => pure r) k) ?_
  rfl
theorem closOf_mem {cells : List (Str × Addr)} : ∀ {names : List (Str × NameKind)} {acc : List (Str × Addr)} {n : Str} {c : Addr}, (n, c) ∈ closOf cells names acc →
    (n, c) ∈ acc ∨ ((n, NameKind.free) ∈ names ∧ c = (cells.lookup n).getD 0)
  | [], _, _, _, h => .inl h
  | (y, k) :: r, acc, n, c, h => by
    unfold closOf at h
    by_cases hk : (k == NameKind.free) = true
    · rw [if_pos hk] at h
      have ek : k = .free := by simpa using hk
      subst ek
      rcases closOf_mem h with h | ⟨h1, h2⟩
      · rcases List.mem_cons.mp h with e | h
        · cases e
          exact .inr ⟨List.mem_cons_self, rfl⟩
        · exact .inl h
      · exact .inr ⟨List.mem_cons_of_mem _ h1, h2⟩
    · rw [if_neg hk] at h
      rcases closOf_mem h with h | ⟨h1, h2⟩
      · exact .inl h
      · exact .inr ⟨List.mem_cons_of_mem _ h1, h2⟩
theorem closOf_keep {cells : List (Str × Addr)} {x : Str} {c : Addr} (hc : cells.lookup x = some c) : ∀ (names : List (Str × NameKind)) (acc : List (Str × Addr)), ((x, NameKind.free) ∈ names ∨ acc.lookup x = some c) → (closOf cells names acc).lookup x = some c
  | [], acc, h => h.elim (fun z => nomatch z) id
  | (y, k) :: r, acc, h => by
    unfold closOf
    by_cases hk : (k == NameKind.free) = true
    · rw [if_pos hk]
      refine closOf_keep hc r _ ?_
      by_cases hy : x = y
      · subst hy
        exact .inr (by rw [List.lookup_cons, beq_self_eq_true, hc]; rfl)
      · rcases h with h | h
        · rcases List.mem_cons.mp h with e | h
          · cases e; exact absurd rfl hy
          · exact .inl h
        · refine .inr ?_
          rw [List.lookup_cons, show (x == y) = false by simpa using hy]
          exact h
    · rw [if_neg hk]
      refine closOf_keep hc r _ ?_
      rcases h with h | h
      · rcases List.mem_cons.mp h with e | h
        · cases e; exact absurd rfl hk
        · exact .inl h
      · exact .inr h
theorem cellsFrom_mem : ∀ {names : List (Str × NameKind)} {n : Nat} {acc : List (Str × Addr)} {x : Str} {c : Addr}, (x, c) ∈ cellsFrom n names acc → (x, c) ∈ acc ∨ (n ≤ c ∧ (x, NameKind.cell) ∈ names)
  | [], _, _, _, _, h => .inl h
  | (y, k) :: r, n, acc, x, c, h => by
    unfold cellsFrom at h
    by_cases hk : (k == NameKind.cell) = true
    · rw [if_pos hk] at h
      have ek : k = .cell := by simpa using hk
      subst ek
      rcases cellsFrom_mem h with h | ⟨h, h'⟩
      · rcases List.mem_cons.mp h with e | h
        · cases e; exact .inr ⟨Nat.le_refl _, List.mem_cons_self⟩
        · exact .inl h
      · exact .inr ⟨Nat.le_of_succ_le h, List.mem_cons_of_mem _ h'⟩
    · rw [if_neg hk] at h
      rcases cellsFrom_mem h with h | ⟨h, h'⟩
      · exact .inl h
      · exact .inr ⟨h, List.mem_cons_of_mem _ h'⟩
theorem cellsFrom_outer {x : Str} {c : Addr} : ∀ (names : List (Str × NameKind)) (n : Nat) (acc : List (Str × Addr)), (x, NameKind.cell) ∉ names → acc.lookup x = some c → (cellsFrom n names acc).lookup x = some c
  | [], _, _, _, h => h
  | (y, k) :: r, n, acc, hn, h => by
    unfold cellsFrom
    by_cases hk : (k == NameKind.cell) = true
    · rw [if_pos hk]
      have ek : k = .cell := by simpa using hk
      subst ek
      refine cellsFrom_outer r _ _ (fun z => hn (List.mem_cons_of_mem _ z)) ?_
      have hy : x ≠ y := fun e => hn (by rw [e]; exact List.mem_cons_self)
      rw [List.lookup_cons, show (x == y) = false by simpa using hy]
      exact h
    · rw [if_neg hk]
      exact cellsFrom_outer r _ _ (fun z => hn (List.mem_cons_of_mem _ z)) h
theorem cellsFrom_apart : ∀ (names : List (Str × NameKind)) (n : Nat) (acc : List (Str × Addr)), (∀ x c, (x, c) ∈ acc → c < n) → (acc.Pairwise fun x y => x.2 ≠ y.2) → (cellsFrom n names acc).Pairwise fun x y => x.2 ≠ y.2
  | [], _, _, _, h => h
  | (y, k) :: r, n, acc, hlt, h => by
    unfold cellsFrom
    by_cases hk : (k == NameKind.cell) = true
    · rw [if_pos hk]
      refine cellsFrom_apart r (n + 1) _ (fun x c hm => ?_) (List.pairwise_cons.mpr ⟨fun z hz e => ?_, h⟩)
      · rcases List.mem_cons.mp hm with e | hm
        · cases e; exact Nat.lt_succ_self _
        · exact Nat.lt_succ_of_lt (hlt x c hm)
      · have := hlt z.1 z.2 hz
        have e' : n = z.2 := e
        exact Nat.lt_irrefl _ (e' ▸ this)
    · rw [if_neg hk]
      exact cellsFrom_apart r n acc hlt h
noncomputable def bEnv (env : Env) (scope : Scope) (C : Addr) : Env :=
  { scope := relabel scope env, locals := C, globals := env.globals, cells := cellsFrom (C + 1) scope.names (closOf env.cells scope.names []), qual := env.qual, func := none, code := env.code, frame := env.frame, builtins := env.builtins }
section
variable {M : Model} {A : Around} {E : Value → Shared → Prop} {s : Shared}
theorem wpAny_blockEnv {scope : Scope} {env : Env} {cl : List (Str × Addr)} {Q : Env → Shared → Prop}
    (hQ : ∀ h', (∀ b o, s.heap.get? b = some o → h'.get? b = some o) → h'.Ns s.heap.objs.size (fun _ => none) → (∀ x c, (x, NameKind.cell) ∈ scope.names → (x, c) ∈ cellsFrom (s.heap.objs.size + 1) scope.names cl → (x, c) ∉ cl → h'.IsCell c none) →
      Q { scope, locals := s.heap.objs.size, globals := env.globals, cells := cellsFrom (s.heap.objs.size + 1) scope.names cl, qual := env.qual, func := none, code := env.code, frame := env.frame, builtins := env.builtins } { s with heap := h' }) :
    wpAny M A (newFunctionEnv scope env.globals cl [] env.qual none .none (some env)) Q E s := by
  simp only [newFunctionEnv, Option.isSome_some, if_true]
  refine wpAny_bind (wpAny_alloc ?_)
  refine wpAny_bind (wpAny_layCells _ (fun name kind cells => by cases hkc : kind == NameKind.cell <;> simp [hkc]) _ _ _ _ ?_)
  simp only [List.forIn_nil]
  refine wpAny_bind (wpAny_pure (wpAny_pure ?_))
  rw [show ({ s with heap := s.heap.push { cls := .type "dict", data := .dict #[] } } : Shared).heap.objs.size = s.heap.objs.size + 1 from Heap.size_push ..]
  have key : ∀ (names : List (Str × NameKind)) (h : Heap) (acc : List (Str × Addr)) (x : Str) (c : Addr), (x, c) ∈ cellsFrom h.objs.size names acc → (x, c) ∉ acc → (pushCells h names).IsCell c none := by
    intro names
    induction names with
    | nil => intro h acc x c hm hn; exact absurd hm hn
    | cons y r ih =>
      intro h acc x c hm hn
      obtain ⟨n, k⟩ := y
      unfold cellsFrom at hm
      unfold pushCells
      by_cases hk : (k == NameKind.cell) = true
      · rw [if_pos hk] at hm ⊢
        by_cases hin : (x, c) ∈ ((n, h.objs.size) :: acc)
        · rcases List.mem_cons.mp hin with e | e
          · cases e
            exact ⟨_, pushCells_keeps _ _ _ _ (Heap.get?_push_size _ rfl), rfl⟩
          · exact absurd e hn
        · refine ih (h.push { cls := .type "cell", data := .cell none }) ((n, h.objs.size) :: acc) x c ?_ hin
          rw [Heap.size_push]
          exact hm
      · rw [if_neg hk] at hm ⊢
        exact ih h acc x c hm hn
  refine hQ _ (fun b o e => pushCells_keeps _ _ b o (Heap.get?_push_of_some _ e)) ((Heap.Ns.new s.heap (.type "dict")).keeps (pushCells_keeps _ _)) fun x c _ hm hn => ?_
  refine key scope.names _ cl x c ?_ hn
  rw [Heap.size_push]
  exact hm
end
end L2
end
section
set_option maxHeartbeats 4000000
namespace L2
open PySem PySem.Spec PyProof.Rows
section
variable {prog : Program} {w : World} {A : Around} {E : Value → Shared → Prop} {R : Result → Shared → Prop} {s : Shared}
theorem compLoop_any {elt target iter : Expr} {ifs : List Expr} {scope : Scope} {pos : Pos} {it acc : Value} {env : Env} (I : Nat → Shared → Prop)
    (turn : ∀ n s, I n s → wpAny (model prog w) A (pyNext it) (fun r s₁ => match r with
      | none => R (.ok .next) s₁
      | some v => wpAny (model prog w) A (letOwnedTupleGo target it v) (fun _ s₁' => wpAny (model prog w) A (assign target env v) (fun _ s₂ =>
          wpAny (model prog w) A (forIn ifs true fun c r => if r = true then do let ok ← isTrue c env (eval c env); pure (ForInStep.yield ok) else pure (ForInStep.yield r)) (fun ok s₃ =>
            if ok = true then wpAny (model prog w) A (eval elt env) (fun x s₄ =>
              wpAny (model prog w) A (call (.builtin "list.append") [acc, x]) (fun _ s₅ => ∃ m, m < n ∧ I m s₅) (fun _ _ => False) s₄) (fun _ _ => False) s₃
            else ∃ m, m < n ∧ I m s₃) (fun _ _ => False) s₂) (fun _ _ => False) s₁') (fun _ _ => False) s₁) (fun _ _ => False) s)
    (n : Nat) (h : I n s) :
    codeAny (model prog w) A (.compLoop (.ListComp elt [⟨target, iter, ifs, 0⟩] scope pos) 0 it acc env) R s := by
  refine codeAny_loop rfl I (fun n s hI => ?_) n h
  show wpAny _ A ((compTurn (.ListComp elt [⟨target, iter, ifs, 0⟩] scope pos) 0 it acc env).onRaise (fun x => do noteFrame x env; theTreesLotGoes x)) _ _ s
  refine wpAny_noted ?_
  rw [compTurn_list]
  refine wpAny_bind (wpAny_standAt (wpAny_bind (wpAny_mono (turn n s hI) (fun r s₁ h₁ => ?_) fun _ _ h' => h'.elim)))
  cases r with
  | none => exact wpAny_pure h₁
  | some v =>
    refine wpAny_bind (wpAny_mono h₁ (fun _ s₁' h₁' => ?_) fun _ _ h' => h'.elim)
    refine wpAny_bind (wpAny_mono h₁' (fun _ s₂ h₂ => wpAny_bind (wpAny_mono h₂ (fun ok s₃ h₃ => ?_) fun _ _ h' => h'.elim)) fun _ _ h' => h'.elim)
    cases ok with
    | false => exact wpAny_pure ⟨rfl, h₃⟩
    | true =>
      exact wpAny_bind (wpAny_bind (wpAny_mono h₃ (fun x s₄ h₄ => wpAny_bind (wpAny_mono h₄ (fun _ s₅ h₅ => wpAny_pure (wpAny_pure ⟨rfl, h₅⟩)) fun _ _ h' => h'.elim)) fun _ _ h' => h'.elim))
end
noncomputable abbrev cxB (X : Cx) (scope : Scope) (N : List Str) (s : Shared) (H : Hp) (fp : List Addr) : Cx :=
  { prog := X.prog, w := X.w, K := X.K, mg := X.mg, base := X.base, A := X.A, N := N, s₀ := s, H₀ := H, env := bEnv X.env scope s.heap.objs.size, outer := X.stack, stack := X.stack, ex := fp,
    fn := fun x => scope.names.lookup x == some .cell, calm := X.calm, pn := [], xe := fun _ _ => False }
noncomputable def bCheck (Xn : List (Str × NameKind)) (XN : List Str) (names : List (Str × NameKind)) (N : List Str) (src : List (Option Nat)) : Bool :=
  decide N.Nodup && decide (names.map (·.1)).Nodup && (src.length == N.length) &&
  names.all (fun x => x.2 != .local || names.lookup x.1 == some .local) &&
  names.all (fun x => x.2 != .cell || names.lookup x.1 == some .cell) &&
  names.all (fun x => x.2 != .free || Xn.lookup x.1 == some .cell || Xn.lookup x.1 == some .free) &&
  (N.zip src).all (fun p => match p.2 with
    | none => true
    | some i => XN[i]? == some p.1 && names.lookup p.1 == some .free)
structure BOk (X : Cx) (scope : Scope) (N : List Str) (src : List (Option Nat)) : Prop where
  kind : scope.kind = .function
  nd : N.Nodup
  keys : (scope.names.map (·.1)).Nodup
  len : src.length = N.length
  locs : ∀ x ∈ scope.names, x.2 = .local → scope.names.lookup x.1 = some .local
  cels : ∀ x ∈ scope.names, x.2 = .cell → scope.names.lookup x.1 = some .cell
  free : ∀ x ∈ scope.names, x.2 = .free → X.env.kindOf x.1 = some .cell ∨ X.env.kindOf x.1 = some .free
  src : ∀ (k i : Nat) (x : Str), src[k]? = some (some i) → N[k]? = some x → X.N[i]? = some x ∧ scope.names.lookup x = some .free
theorem BOk.of {X : Cx} {scope : Scope} {N : List Str} {src : List (Option Nat)} {Xn : List (Str × NameKind)} {XN : List Str} (hk : scope.kind = .function) (hX : X.env.scope.names = Xn) (hN : X.N = XN)
    (h : bCheck Xn XN scope.names N src = true) : BOk X scope N src := by
  unfold bCheck at h
  simp only [Bool.and_eq_true, decide_eq_true_eq, List.all_eq_true, beq_iff_eq] at h
  obtain ⟨⟨⟨⟨⟨⟨h1, h2⟩, h3⟩, h4⟩, h4'⟩, h5⟩, h6⟩ := h
  refine ⟨hk, h1, h2, h3, fun x hx e => ?_, fun x hx e => ?_, fun x hx e => ?_, fun k i x e1 e2 => ?_⟩
  · have := h4 x hx
    rw [e] at this
    simpa using this
  · have := h4' x hx
    rw [e] at this
    simpa using this
  · have := h5 x hx
    rw [e] at this
    unfold Env.kindOf
    rw [hX]
    simpa using this
  · have hm : (x, some i) ∈ N.zip src := by
      refine List.mem_iff_getElem?.mpr ⟨k, ?_⟩
      rw [List.getElem?_zip_eq_some]
      exact ⟨e2, e1⟩
    have := h6 _ hm
    dsimp only at this
    simp only [Bool.and_eq_true, beq_iff_eq] at this
    rw [hN]
    exact this
noncomputable def bStart (src : List (Option Nat)) (σ : St) : St := src.map fun o => o.bind fun i => (σ[i]?).join
theorem lookup_relabel {scope : Scope} {env : Env} {x : Str} : (relabel scope env).names.lookup x = (scope.names.lookup x).map fun k => if (k == .free && env.scope.kind == .function && env.kindOf x == some .cell) then .cell else k := by
  show List.lookup x (scope.names.map _) = _
  induction scope.names with
  | nil => rfl
  | cons y r ih =>
    obtain ⟨n, k⟩ := y
    rw [List.map_cons]
    dsimp only
    by_cases hx : x = n
    · subst hx
      by_cases hc : (k == NameKind.free && env.scope.kind == .function && env.kindOf x == some .cell) = true
      · rw [if_pos hc, List.lookup_cons, List.lookup_cons, beq_self_eq_true]
        dsimp only [Option.map]
        rw [if_pos hc]
      · rw [if_neg hc, List.lookup_cons, List.lookup_cons, beq_self_eq_true]
        dsimp only [Option.map]
        rw [if_neg hc]
    · have hb : (x == n) = false := by simpa using hx
      by_cases hc : (k == NameKind.free && env.scope.kind == .function && env.kindOf n == some .cell) = true
      · rw [if_pos hc, List.lookup_cons, List.lookup_cons, hb]
        exact ih
      · rw [if_neg hc, List.lookup_cons, List.lookup_cons, hb]
        exact ih
section
variable {X : Cx} {pins : List (Addr × Obj)} {σ : St} {H : Hp} {s : Shared} {scope : Scope} {N : List Str} {src : List (Option Nat)} {fp : List Addr}
theorem clos_in (I : Inv X pins σ H s) (B : BOk X scope N src) {x : Str} {c : Addr} (h : (x, c) ∈ closOf X.env.cells scope.names []) : X.env.cells.lookup x = some c ∧ (x, NameKind.free) ∈ scope.names := by
  rcases closOf_mem h with z | ⟨z, e⟩
  · exact nomatch z
  · obtain ⟨c', hc⟩ := I.ok.has x (B.free _ z rfl)
    rw [hc] at e
    exact ⟨by rw [hc, e]; rfl, z⟩
theorem names_one {l : List (Str × NameKind)} (h : (l.map (·.1)).Nodup) {x : Str} {j k : NameKind} (a : (x, j) ∈ l) (b : (x, k) ∈ l) : j = k := by
  induction l with
  | nil => exact nomatch a
  | cons y r ih =>
    obtain ⟨h1, h2⟩ := List.nodup_cons.mp (show (y.1 :: r.map (·.1)).Nodup from h)
    rcases List.mem_cons.mp a with e | a <;> rcases List.mem_cons.mp b with e' | b
    · rw [← e] at e'; cases e'; rfl
    · exact absurd (List.mem_map.mpr ⟨_, b, by rw [← e]⟩) h1
    · exact absurd (List.mem_map.mpr ⟨_, a, by rw [← e']⟩) h1
    · exact ih h2 a b
theorem clos_apart (I : Inv X pins σ H s) : ∀ (names : List (Str × NameKind)) (acc : List (Str × Addr)), (∀ x ∈ names, x.2 = .free → ∃ c, X.env.cells.lookup x.1 = some c) → (names.map (·.1)).Nodup → (∀ x c, (x, c) ∈ acc → X.env.cells.lookup x = some c ∧ x ∉ names.map (·.1)) →
    (acc.Pairwise fun x y => x.2 ≠ y.2) → (closOf X.env.cells names acc).Pairwise fun x y => x.2 ≠ y.2
  | [], _, _, _, _, h => h
  | (n, k) :: r, acc, hf, nd, ha, h => by
    unfold closOf
    obtain ⟨h1, h2⟩ := List.nodup_cons.mp (show (n :: r.map (·.1)).Nodup from nd)
    by_cases hk : (k == NameKind.free) = true
    · rw [if_pos hk]
      obtain ⟨c, hc⟩ := hf (n, k) List.mem_cons_self (by simpa using hk)
      have hc : X.env.cells.lookup n = some c := hc
      rw [show (X.env.cells.lookup n).getD 0 = c by rw [hc]; rfl]
      refine clos_apart I r _ (fun x hx => hf x (List.mem_cons_of_mem _ hx)) h2 (fun x c' hm => ?_) (List.pairwise_cons.mpr ⟨fun y hy e => ?_, h⟩)
      · rcases List.mem_cons.mp hm with e | hm
        · cases e; exact ⟨hc, h1⟩
        · exact ⟨(ha x c' hm).1, fun z => (ha x c' hm).2 (List.mem_cons_of_mem _ z)⟩
      · obtain ⟨q1, q2⟩ := ha y.1 y.2 hy
        have e' : c = y.2 := e
        rw [← e'] at q1
        have := I.ok.inj _ _ _ hc q1
        exact q2 (by rw [← this]; exact List.mem_cons_self)
    · rw [if_neg hk]
      exact clos_apart I r acc (fun x hx => hf x (List.mem_cons_of_mem _ hx)) h2 (fun x c' hm => ⟨(ha x c' hm).1, fun z => (ha x c' hm).2 (List.mem_cons_of_mem _ z)⟩) h
theorem inv_block (I : Inv X pins σ H s) (B : BOk X scope N src) (hf : ∀ b ∈ fp, FpOk X pins H b) (hfo : ∀ b ∈ fp, ∃ o, s.heap.get? b = some o) {h' : Heap} (hk : ∀ b o, s.heap.get? b = some o → h'.get? b = some o) (hns : h'.Ns s.heap.objs.size (fun _ => none))
    (hce : ∀ x c, (x, NameKind.cell) ∈ scope.names → (x, c) ∈ cellsFrom (s.heap.objs.size + 1) scope.names (closOf X.env.cells scope.names []) → (x, c) ∉ closOf X.env.cells scope.names [] → h'.IsCell c none) :
    Inv (cxB X scope N s H fp) [] (bStart src σ) H { s with heap := h' } := by
  have cin : ∀ {x : Str} {c : Addr}, (x, c) ∈ closOf X.env.cells scope.names [] → X.env.cells.lookup x = some c ∧ (x, NameKind.free) ∈ scope.names := fun h => clos_in I B h
  have old : ∀ {x : Str} {c : Addr}, X.env.cells.lookup x = some c → c < s.heap.objs.size := fun {x c} h => (let ⟨_, q⟩ := I.cell x c h; q.lt)
  have all : ∀ {x : Str} {c : Addr}, (x, c) ∈ cellsFrom (s.heap.objs.size + 1) scope.names (closOf X.env.cells scope.names []) → (X.env.cells.lookup x = some c ∧ (x, NameKind.free) ∈ scope.names) ∨ (s.heap.objs.size < c ∧ (x, NameKind.cell) ∈ scope.names) := fun {x c} h => by
    rcases cellsFrom_mem h with z | ⟨z, z'⟩
    · exact .inl (cin z)
    · exact .inr ⟨z, z'⟩
  have lk : ∀ {x : Str} {c : Addr}, (bEnv X.env scope s.heap.objs.size).cells.lookup x = some c → (x, c) ∈ cellsFrom (s.heap.objs.size + 1) scope.names (closOf X.env.cells scope.names []) := fun h => PySem.mem_of_lookup h
  have hasF : ∀ x ∈ scope.names, x.2 = .free → ∃ c, X.env.cells.lookup x.1 = some c := fun x hx e => I.ok.has x.1 (B.free x hx e)
  have ap : (cellsFrom (s.heap.objs.size + 1) scope.names (closOf X.env.cells scope.names [])).Pairwise fun x y => x.2 ≠ y.2 :=
    cellsFrom_apart _ _ _ (fun x c hm => Nat.lt_succ_of_lt (old (cin hm).1)) (clos_apart I scope.names [] hasF B.keys (fun _ _ z => nomatch z) .nil)
  have outer : ∀ {x : Str} {c : Addr}, (x, NameKind.free) ∈ scope.names → X.env.cells.lookup x = some c → (bEnv X.env scope s.heap.objs.size).cells.lookup x = some c := fun {x c} h1 h2 =>
    cellsFrom_outer _ _ _ (fun z => nomatch names_one B.keys h1 z) (closOf_keep h2 scope.names [] (.inl h1))
  have kinds : ∀ x, (bEnv X.env scope s.heap.objs.size).kindOf x = (scope.names.lookup x).map fun k => if (k == .free && X.env.scope.kind == .function && X.env.kindOf x == some .cell) then .cell else k := fun x => lookup_relabel
  have ckind : ∀ x, ((bEnv X.env scope s.heap.objs.size).kindOf x = some .cell ∨ (bEnv X.env scope s.heap.objs.size).kindOf x = some .free) → scope.names.lookup x = some .cell ∨ scope.names.lookup x = some .free := fun x h => by
    rw [kinds x] at h
    cases e : scope.names.lookup x with
    | none => rw [e] at h; simp at h
    | some k =>
      rw [e] at h
      cases k <;> simp at h ⊢
  refine ⟨⟨I.ok.mod, B.kind, I.ok.glob, I.ok.blt, Nat.le_refl _, fun x y c h1 h2 => name_of_addr ap (lk h1) (lk h2), fun x hx => ?_, fun x c hfn hx => ?_, I.ok.hd, I.handA, I.ok.frames, .inl rfl, fun b hb => ?_, I.bs, Nat.le_trans I.ok.bsz I.sz, fun b o e hb => ?_, fun b hb hb' => ?_, I.stack, I.stkFree⟩,
    rfl, I.bare, Un.kept hk, ⟨_, hns, fun i x v h1 h2 h3 => ?_⟩, fun x c h => ?_, I.hok.fresh (Nat.le_refl _), fun x c h => ?_, fun p hp => absurd (show p ∈ ([] : List (Addr × Obj)) from hp) (by simp), I.hok.kept hk, ?_⟩
  · -- has
    rcases ckind x hx with h | h
    · exact Option.isSome_iff_exists.mp (W.cellsFrom_some scope.names _ _ (.inl h))
    · have hm := PySem.mem_of_lookup h
      obtain ⟨c, hc⟩ := hasF _ hm rfl
      exact ⟨c, outer hm hc⟩
  · -- cab
    have hfn : scope.names.lookup x = some .cell := by simpa using hfn
    rcases all (lk hx) with ⟨_, z⟩ | ⟨z, _⟩
    · exact absurd (names_one B.keys z (PySem.mem_of_lookup hfn)) (by decide)
    · exact Nat.le_of_lt z
  · -- exf
    obtain ⟨o, ho⟩ := hfo b hb
    refine ⟨Nat.ne_of_lt (Heap.lt_size ho), fun x c hx z => ?_⟩
    rcases all (lk hx) with ⟨q, _⟩ | ⟨q, _⟩
    · exact (hf b hb).2.2.2.2.1 x c q z
    · have := Heap.lt_size ho
      rw [← z] at this
      exact Nat.lt_irrefl _ (Nat.lt_trans q this)
  · -- noex
    rcases (hf b hb).2.2.2.1 with z | z
    · exact I.ok.noex b o e z
    · exact Nat.lt_irrefl _ (Nat.lt_of_lt_of_le (Nat.lt_of_lt_of_le (Heap.lt_size e) I.ok.bsz) z)
  · -- exfs
    rcases List.mem_cons.mp (I.stkSub b hb') with z | z
    · exact (hf b hb).2.1 z
    · exact (hf b hb).2.2.1 z
  · -- loc
    unfold bStart at h2
    rw [List.getElem?_map] at h2
    cases e : src[i]? with
    | none => rw [e] at h2; cases h2
    | some o =>
      rw [e] at h2
      cases o with
      | none => cases h2
      | some j =>
        have h2 : (σ[j]?).join = some v := by simpa using h2
        have e3 : σ[j]? = some (some v) := by
          cases q : σ[j]? with
          | none => rw [q] at h2; cases h2
          | some z => rw [q] at h2; simp at h2; rw [h2]
        obtain ⟨b1, b2⟩ := B.src i j x e h1
        have hm := PySem.mem_of_lookup b2
        obtain ⟨m, hn, hl⟩ := I.loc
        have hfr := B.free _ hm rfl
        obtain ⟨u, r, l⟩ := hl j x v b1 e3 (.inr hfr)
        rcases l with ⟨k, _⟩ | ⟨k, c, hc, q⟩
        · rcases hfr with z | z <;> (have z' := k.symm.trans z; cases z')
        · refine ⟨u, r, .inr ⟨?_, c, outer hm hc, q.keeps hk⟩⟩
          rw [kinds x, b2]
          dsimp only [Option.map]
          split
          · exact .inl rfl
          · exact .inr rfl
  · -- cell
    rcases all (lk h) with ⟨q, _⟩ | ⟨q, q'⟩
    · obtain ⟨v, z⟩ := I.cell x c q
      exact ⟨v, z.keeps hk⟩
    · exact ⟨none, hce x c q' (lk h) fun z => absurd (Nat.lt_trans q (old (cin z).1)) (Nat.lt_irrefl _)⟩
  · -- freeC
    rcases all (lk h) with ⟨q, _⟩ | ⟨q, q'⟩
    · exact I.freeC x c q
    · exact I.hok.fresh (Nat.le_of_lt q)
  · unfold bStart
    rw [List.length_map]
    exact B.len
end
end L2
end
section
set_option maxHeartbeats 4000000
namespace L2
open PySem PySem.Spec PyProof.Rows
noncomputable def PCs (X : Cx) (ifs : List Expr) (t : TT) : Prop :=
  ∀ (pins : List (Addr × Obj)) (s : Shared) (σ : St) (H : Hp) (Q : Bool → Hp → Prop), Inv X pins σ H s → t σ H Q →
    wpAny (model X.prog X.w) X.A (forIn ifs true fun c r => if r = true then do let ok ← isTrue c X.env (eval c X.env); pure (ForInStep.yield ok) else pure (ForInStep.yield r)) (TP X pins σ Q) X.xe s
noncomputable def tAll : TT := fun _ H Q => Q true H
theorem pcs_nil {X : Cx} : PCs X [] tAll := fun pins s σ H Q I h => wpAny_tests_nil ⟨H, I, h⟩
theorem pcs_one {X : Cx} {c : Expr} {t : TT} (h : PT X c t) : PCs X [c] t := fun pins s σ H Q I hw => wpAny_tests_one (h pins s σ H Q I hw)
noncomputable def tBlk (J : It) (g : TG) (tc : TT) (te : TE) (σ0 : St) (H1 : Hp) (D : Addr) (Q : Hp → Prop) : Prop :=
  ∃ W : Nat → Nat → St → Hp → Prop, (∃ m, W 0 m σ0 (upd H1 D (.lst []))) ∧ ∀ i m σ' H', W i m σ' H' →
    (J.stop i H' ∧ Q H') ∨ (J.go i H' ∧ ∃ Nn : St → Hp → Prop, (∀ σ2 H2, Nn σ2 H2 → ∃ m', m' < m ∧ W (i + 1) m' σ2 H2) ∧ ∀ x H2, J.yld i H' x H2 → g x σ' H2 fun σ2 H3 => tc σ2 H3 fun b H4 =>
      if b = true then te σ2 H4 fun y H5 => ∃ xs, H5 D = some (.lst xs) ∧ xs.length < sizeLine ∧ Nn σ2 (upd H5 D (.lst (xs ++ [y]))) else Nn σ2 H4)
section
variable {X : Cx} {scope : Scope} {N : List Str} {src : List (Option Nat)} {tg iter elt : Expr} {ifs : List Expr} {pos : Pos}
theorem comp_run {pins : List (Addr × Obj)} {σ : St} {H : Hp} {s₂ : Shared} {it : Addr} {fp : List Addr} {tn : Nat → Heap → Prop} {J : It} {g : TG} {tc : TT} {te : TE} {Q : Addr → Hp → Prop} {E : Value → Shared → Prop} {RR : Value → Addr → Result → Shared → Prop}
    (B : BOk X scope N src)
    (hg : ∀ s H fp, PG (cxB X scope N s H fp) tg g) (ht : ∀ s H fp, PCs (cxB X scope N s H fp) ifs tc) (he : ∀ s H fp, PE (cxB X scope N s H fp) elt te)
    (I2 : Inv X pins σ H s₂) (T : Turn X.prog X.w X.K tg J fp it tn) (st2 : tn 0 s₂.heap) (f2 : ∀ b ∈ fp, FpOk X pins H b) (hw : ∀ D, H D = none → tBlk J g tc te (bStart src σ) H D (Q D))
    (hRR : ∀ D C H' s' m, Inv X pins σ H' s' → s'.heap.Ns C m → s₂.heap.objs.size ≤ C → C < s'.heap.objs.size → H' C = none → Q D H' → RR (.ref D) C (.ok .next) s') :
    wpAny (model X.prog X.w) X.A (newList []) (fun acc s₃ => wpAny (model X.prog X.w) X.A (newFunctionEnv scope X.env.globals (closOf X.env.cells scope.names []) [] X.env.qual none .none (some X.env)) (fun cenv s₄ =>
      codeAny (model X.prog X.w) X.A (.compStart (.ListComp elt [⟨tg, iter, ifs, 0⟩] scope pos) 0 (.ref it) acc { cenv with scope := relabel scope X.env }) (RR acc cenv.locals) s₄) E s₃) E s₂ := by
  refine wpAny_newObj_type (wpAny_blockEnv fun h₁ hk₁ hns₁ hce₁ => ?_)
  dsimp only at hk₁ hns₁ hce₁ ⊢
  have hfresh : H s₂.heap.objs.size = none := I2.hok.fresh (Nat.le_refl _)
  have I3 : Inv X pins σ (upd H s₂.heap.objs.size (.lst [])) { s₂ with heap := s₂.heap.push { cls := .type "list", dict := none, data := .seq ([] : List Value).toArray } } := by
    have := I2.lnew (its := []) (ys := []) (t' := s₂.toks) .nil (Nat.zero_le _)
    exact this
  obtain ⟨W, ⟨m0, w0⟩, turn⟩ := hw _ hfresh
  generalize hD : s₂.heap.objs.size = D at *
  generalize hs3 : ({ s₂ with heap := s₂.heap.push { cls := .type "list", dict := none, data := .seq ([] : List Value).toArray } } : Shared) = s₃ at *
  have hh3 : s₂.heap.push { cls := .type "list", dict := none, data := .seq ([] : List Value).toArray } = s₃.heap := by rw [← hs3]
  rw [hh3] at hk₁ hns₁ hce₁ ⊢
  have push3 : ∀ b o, s₂.heap.get? b = some o → s₃.heap.get? b = some o := fun b o e => by rw [← hs3]; exact Heap.get?_push_of_some _ e
  have sz3 : s₃.heap.objs.size = D + 1 := by rw [← hs3, ← hD]; exact Heap.size_push ..
  have fpo : ∀ b ∈ fp, ∃ o, s₂.heap.get? b = some o ∧ ∀ v, o.data ≠ .cell v := T.obj _ _ st2
  have fpD : ∀ b ∈ fp, b ≠ D := fun b hb z => by
    obtain ⟨o, e, _⟩ := fpo b hb
    have := Heap.lt_size e
    rw [z, ← hD] at this
    exact Nat.lt_irrefl _ this
  have f3 : ∀ b ∈ fp, FpOk X pins (upd H D (.lst [])) b := fun b hb => ⟨by rw [upd_ne (fpD b hb)]; exact (f2 b hb).1, (f2 b hb).2⟩
  have I4 : Inv (cxB X scope N s₃ (upd H D (.lst [])) fp) [] (bStart src σ) (upd H D (.lst [])) { s₃ with heap := h₁ } :=
    inv_block I3 B f3 (fun b hb => let ⟨o, e, _⟩ := fpo b hb; ⟨o, push3 b o e⟩) hk₁ hns₁ hce₁
  have fB : ∀ {H' : Hp}, (∀ b ∈ fp, H' b = none) → ∀ b ∈ fp, FpOk (cxB X scope N s₃ (upd H D (.lst [])) fp) [] H' b := fun {H'} hn b hb =>
    ⟨hn b hb, (I4.ok.exf b hb).1, I4.ok.exfs b hb, .inl hb, fun x c e => (I4.ok.exf b hb).2 x c e, fun p hp => absurd (show p ∈ ([] : List (Addr × Obj)) from hp) (by simp)⟩
  have stat4 : ∀ s', s' = ({ s₃ with heap := h₁ } : Shared) → codeAny (model X.prog X.w) X.A (.compLoop (.ListComp elt [⟨tg, iter, ifs, 0⟩] scope pos) 0 (.ref it) (.ref D) (bEnv X.env scope s₃.heap.objs.size)) (RR (.ref D) s₃.heap.objs.size) s' := by
    intro s' es
    refine compLoop_any (fun n s' => ∃ i σ' H', Inv (cxB X scope N s₃ (upd H D (.lst [])) fp) [] σ' H' s' ∧ tn i s'.heap ∧ (∀ b ∈ fp, H' b = none) ∧ W i n σ' H') ?_ m0 ⟨0, _, _, by rw [es]; exact I4, by rw [es]; exact T.keep _ _ _ st2 fun b hb o e => hk₁ b o (push3 b o e), fun b hb => (f3 b hb).1, w0⟩
    rintro n s5 ⟨i, σ5, H5, I5, st5, fr5, w5⟩
    rcases turn i n σ5 H5 w5 with ⟨stop, qn⟩ | ⟨go, Nn, hN, step⟩
    · refine thn (T.done (cxB X scope N s₃ (upd H D (.lst [])) fp) rfl rfl rfl i [] s5 σ5 H5 _ I5 (fB fr5) st5 stop) fun r s6 ⟨hr, I6⟩ => ?_
      subst hr
      obtain ⟨m, hnC, _⟩ := I6.loc
      have un := I6.base
      have u2 : Un (frs X.stack) fp H H5 s₂.heap s6.heap := by
        refine Un.trans ?_ un
        have := Un.laid (fs := frs X.stack) (ex := fp) (H := H) (h := s₂.heap) (h' := s₃.heap) (a := D) (o := .lst []) push3 (Nat.le_of_eq hD) hfresh
        exact this
      refine hRR D _ H5 s6 m (I2.call' (ch := fp) (by rw [I6.os, ← hs3]) u2 I6.hok I6.bare fun b hb => ?_) hnC (by rw [sz3]; exact Nat.le_succ _) hnC.lt I6.free qn
      obtain ⟨q0, q1, q2, q3, q4, q5⟩ := f2 b hb
      exact ⟨q3, q1, q4, q5⟩
    · refine thn (T.item (cxB X scope N s₃ (upd H D (.lst [])) fp) rfl rfl rfl i [] s5 σ5 H5 _ I5 (fB fr5) st5 go) fun r s6 ⟨u, hr, h6⟩ => ?_
      subst hr
      refine thn h6 fun _ s7 ⟨x, H7, I7, r7, y7, st7, fr7⟩ => ?_
      have I7' := I7.pinned (fB fr7) (T.obj _ _ st7)
      refine thn (hg _ _ _ _ s7 σ5 H7 x u _ I7' r7 (step x H7 y7)) fun _ s8 ⟨σ8, H8, I8, q8⟩ => ?_
      refine thn (ht _ _ _ _ s8 σ8 H8 _ I8 q8) fun ok s9 ⟨H9, I9, q9⟩ => ?_
      have again : ∀ {σ7 : St} {Hz : Hp} {sz : Shared}, Inv (cxB X scope N s₃ (upd H D (.lst [])) fp) ([] ++ pinsAt fp s7.heap) σ7 Hz sz → Nn σ7 Hz → ∃ m, m < n ∧ ∃ i σ' H', Inv (cxB X scope N s₃ (upd H D (.lst [])) fp) [] σ' H' sz ∧ tn i sz.heap ∧ (∀ b ∈ fp, H' b = none) ∧ W i m σ' H' := fun {σz Hz sz} Iz nz => by
        obtain ⟨m', hm, wz⟩ := hN _ _ nz
        refine ⟨m', hm, i + 1, _, _, Iz.unpinned, T.keep _ _ _ st7 fun b hb o e => (Iz.pin (b, o) (List.mem_append_right _ (List.mem_append_right _ (mem_pinsAt hb e)))).1, fun b hb => ?_, wz⟩
        obtain ⟨o, e, d⟩ := T.obj _ _ st7 b hb
        exact (Iz.pin (b, o) (List.mem_append_right _ (List.mem_append_right _ (mem_pinsAt hb e)))).2.1
      cases ok with
      | false =>
        rw [if_neg (by decide)] at q9
        rw [if_neg (by decide)]
        exact again I9 q9
      | true =>
        rw [if_pos rfl] at q9
        rw [if_pos rfl]
        refine thn (he _ _ _ _ s9 σ8 H9 _ I9 q9) fun y s10 ⟨yv, H10, I10, ry, xs, e10, z10, q10⟩ => ?_
        refine thn (mt_append (X := cxB X scope N s₃ (upd H D (.lst [])) fp) _ s10 σ8 H10 (.ref D) [yv] (.ref D) [y] (fun _ Hf => Nn σ8 Hf) I10 rfl (.cons ry .nil) ⟨D, xs, yv, rfl, rfl, e10, z10, q10⟩) fun _ s11 ⟨_, H11, I11, _, q11⟩ => ?_
        exact again I11 q11
  exact codeAny_compStart_list (stat4 _ (by rw [← hs3])) (T.self _ 0 _ _ _ (T.keep _ _ _ st2 fun b hb o e => hk₁ b o (push3 b o e)) (stat4 _ (by rw [← hs3])))
noncomputable def tComp (wi : TI) (g : TG) (tc : TT) (te : TE) (src : List (Option Nat)) : TE := fun σ H Q => wi σ H fun J H1 => ∀ D, H1 D = none → tBlk J g tc te (bStart src σ) H1 D fun H' => Q (.ref D) H'
theorem Inv.letGo {pins : List (Addr × Obj)} {σ : St} {H : Hp} {s : Shared} {C : Addr} {m : Str → Option Value} {h' : Heap} (I : Inv X pins σ H s) (hn : s.heap.Ns C m) (hn' : H C = none) (hC : X.s₀.heap.objs.size ≤ C) (hL : C ≠ X.env.locals) (hp : ∀ p ∈ X.pn ++ pins, p.1 ≠ C) (hs : Heap.SameBut C s.heap h') : Inv X pins σ H { s with heap := h' } := by
  refine I.turned (t' := s.toks) (it := C) (fun b o hb e => (hs.2 b hb).trans e) hn' hL (.inr hC) (fun x c e z => ?_) hp
  obtain ⟨v, o, ho, hd⟩ := I.cell x c e
  obtain ⟨o', es, ep, ho', hd', _⟩ := hn
  rw [z, ho'] at ho
  cases ho
  rw [hd'] at hd
  cases hd
theorem pe_comp {wi : TI} {g : TG} {tc : TT} {te : TE} (B : BOk X scope N src) (hi : PI X tg iter wi)
    (hg : ∀ s H fp, PG (cxB X scope N s H fp) tg g) (ht : ∀ s H fp, PCs (cxB X scope N s H fp) ifs tc) (he : ∀ s H fp, PE (cxB X scope N s H fp) elt te)
    (hs : ∀ x, foldedSetIterable iter X.env x = pure x := by intro _; rfl) : PE X (.ListComp elt [⟨tg, iter, ifs, 0⟩] scope pos) (tComp wi g tc te src) := by
  intro pins s σ H Q I h
  rw [eval_ListComp]
  refine wpAny_comprehension_free (use := none) rfl hs (closureFor_eq fun x hx e => I.ok.has x.1 (B.free x hx e)) B.kind B.locs ?_
  refine thn (hi pins s σ H _ I h) fun v s1 h1 => thn h1 fun itv s2 h2 => ?_
  obtain ⟨it, fp, tn, J, H2, e, I2, T, st2, f2, hw⟩ := h2
  subst e
  refine comp_run (RR := fun acc C => compPost (model X.prog X.w) X.A X.xe none (EP X pins σ Q) acc C) (Q := fun D H' => Q (.ref D) H') B hg ht he I2 T st2 f2 hw ?_
  intro D C H' s' m I' hn hC hCs hf q
  refine ⟨m, hn, fun h' hs' => ⟨.ref D, H', I'.letGo hn hf (Nat.le_trans I2.sz hC) (fun z => ?_) (fun p hp z => ?_) hs', rfl, q⟩⟩
  · exact Nat.lt_irrefl _ (Nat.lt_of_lt_of_le (z ▸ I2.lt) hC)
  · have := Heap.lt_size (I2.pin p hp).1
    rw [z] at this
    exact Nat.lt_irrefl _ (Nat.lt_of_lt_of_le this hC)
theorem ps_setcomp {wi : TI} {g : TG} {tc : TT} {te : TE} {i : Nat} {y : Str} {py spos : Pos} (B : BOk X scope N src) (hi : PI X tg iter wi)
    (hg : ∀ s H fp, PG (cxB X scope N s H fp) tg g) (ht : ∀ s H fp, PCs (cxB X scope N s H fp) ifs tc) (he : ∀ s H fp, PE (cxB X scope N s H fp) elt te)
    (hN : X.N.Nodup) (hy : X.N[i]? = some y) (hx : Loc X.env.scope y) (hsw : swapsWith (.ListComp elt [⟨tg, iter, ifs, 0⟩] scope pos) (some (.Name y py)) spos.line X.env = pure true)
    (hf : X.fn y = true ∨ X.env.scope.names.lookup y = some .local := by first | exact .inl rfl | exact .inr rfl | assumption)
    (hs : ∀ x, foldedSetIterable iter X.env x = pure x := by intro _; rfl) : PS X (.Assign [.Name y py] (.ListComp elt [⟨tg, iter, ifs, 0⟩] scope pos) spos) (tAsg (tComp wi g tc te src) (gName i)) := by
  intro pins s σ H D0 I h
  rw [exec_Assign_Name_used _ _ _ _ hsw]
  refine wpAny_bind (wpAny_standAt (wpAny_bind ?_))
  show wpAny _ X.A (do let _ ← comprehension (.ListComp elt [⟨tg, iter, ifs, 0⟩] scope pos) scope X.env _ (newList []) false (eval iter X.env) (some (assign (.Name y py) X.env))) _ _ s
  refine wpAny_bind (wpAny_mono (wpAny_comprehension_free (use := some (assign (.Name y py) X.env)) (Q := fun _ s' => SP X pins D0 .next s') rfl hs (closureFor_eq fun x hx e => I.ok.has x.1 (B.free x hx e)) B.kind B.locs ?_)
    (fun _ s' hq => wpAny_pure (wpAny_pure hq)) fun _ _ e => e)
  refine thn (hi pins s σ H _ I h) fun v s1 h1 => thn h1 fun itv s2 h2 => ?_
  obtain ⟨it, fp, tn, J, H2, e, I2, T, st2, f2, hw⟩ := h2
  subst e
  refine comp_run (RR := fun acc C => compPost (model X.prog X.w) X.A X.xe (some (assign (.Name y py) X.env)) (fun _ s' => SP X pins D0 .next s') acc C) (Q := fun D H' => D0.nx (σ.set i (some (.ref D))) H') B hg ht he I2 T st2 f2 hw ?_
  intro D C H' s' m I' hn hC hCs hf' q
  show wpAny _ X.A (assign (.Name y py) X.env (.ref D)) _ _ _
  have hCL : C ≠ X.env.locals := fun z => Nat.lt_irrefl _ (Nat.lt_of_lt_of_le (z ▸ I2.lt) hC)
  have hCp : ∀ p ∈ X.pn ++ pins, p.1 ≠ C := fun p hp z => by
    have := Heap.lt_size (I2.pin p hp).1
    rw [z] at this
    exact Nat.lt_irrefl _ (Nat.lt_of_lt_of_le this hC)
  have hCc : ∀ x c, X.env.cells.lookup x = some c → c ≠ C := fun x c e z => by
    obtain ⟨v, hv⟩ := I2.cell x c e
    exact Nat.lt_irrefl _ (Nat.lt_of_lt_of_le (z ▸ hv.lt) hC)
  obtain ⟨oC, es, ep, hoC, hdC, hrest⟩ := hn
  have hCfs : C ∉ X.fs := I2.nofs hC
  have Ip : Inv X (pins ++ [(C, oC)]) σ H' s' := I'.pins_of fun p hp => by
    rcases List.mem_append.mp hp with z | z
    · exact I'.pin p (List.mem_append_right _ z)
    · obtain rfl : p = (C, oC) := by simpa using z
      exact ⟨hoC, hf', hCL, hCfs, fun v z => by have z' := hdC.symm.trans z; cases z'⟩
  refine wpAny_assign_Name (store_ok Ip hN hy hx (v := .ref D) rfl (fun s3 I3 => ?_) hf)
  have hC3 := (I3.pin (C, oC) (by simp)).1
  refine ⟨m, ⟨oC, es, ep, hC3, hdC, hrest⟩, fun h' hs' => ?_⟩
  exact ⟨_, H', (I3.unpinned).letGo ⟨oC, es, ep, hC3, hdC, hrest⟩ hf' (Nat.le_trans I2.sz hC) hCL hCp hs', q⟩
end
end L2
end
section
set_option maxHeartbeats 4000000
namespace L3
open PySem PySem.Spec PyProof.Rows L2
inductive D where
  | non | bl (b : Bool) | int (i : Int) | str (x : Str) | tup (xs : List D) | lst (xs : List D) | cel (n : Nat) | set (xs : List Int) | dct | fn (a : Addr) | scr (xs : List D) | exn (c : String)
inductive C where
  | lst (xs : List D) | dead
noncomputable abbrev Hh := List C
structure Io where
  c : List (Option Addr)
  x : List Addr
noncomputable def Io.Has (ι : Io) (a : Addr) : Prop := some a ∈ ι.c ∨ a ∈ ι.x
inductive R (α : Type) where
  | ok (a : α) (h : Hh) | exc (c : String) (h : Hh) | bad
noncomputable def M (α : Type) := Hh → R α
@[inline] noncomputable def M.bind {α β : Type} (m : M α) (f : α → M β) : M β := fun h => match m h with
  | .ok a h' => f a h'
  | .exc c h' => .exc c h'
  | .bad => .bad
@[inline] noncomputable def M.pure {α : Type} (a : α) : M α := fun h => .ok a h
noncomputable instance : Monad M where
  pure := M.pure
  bind := M.bind
noncomputable def M.bad {α : Type} : M α := fun _ => .bad
noncomputable def KL (K : W.Frag) (a : Addr) (xs : List V) : Prop := SqL K (fun _ => none) a xs
mutual
noncomputable def Rel (K : W.Frag) (ι : Io) (H : Hp) : D → V → Prop
  | .non, v => v = .non
  | .bl b, v => v = .bl b
  | .int i, v => v = .int i
  | .str x, v => v = .str x
  | .tup ds, v => ∃ a vs, v = .ref a ∧ (H a = some (.tup vs) ∧ ¬ ι.Has a) ∧ RelL K ι H ds vs
  | .lst ds, v => ∃ a vs, v = .ref a ∧ (H a = some (.lst vs) ∧ ¬ ι.Has a) ∧ RelL K ι H ds vs
  | .scr ds, v => ∃ a vs, v = .ref a ∧ ((Rd H a (.lst vs) ∧ ¬ ι.Has a) ∨ KL K a vs) ∧ RelL K ι H ds vs
  | .cel n, v => ∃ a, v = .ref a ∧ (ι.c[n]? = some (some a) ∨ ι.c[n]? = some none)
  | .set xs, v => ∃ a, v = .ref a ∧ H a = some (.set (fun k => xs.any (· == k)) xs.length) ∧ ¬ ι.Has a
  | .dct, v => ∃ a, v = .ref a ∧ H a = some (.dK []) ∧ ¬ ι.Has a
  | .fn a, v => v = .ref a
  | .exn c, v => ∃ a o C head vs, v = .ref a ∧ (H a = some (.frz o (.own 0)) ∧ ¬ ι.Has a) ∧ W.nsIn K mainGlobals (c : Str) = some (some (.ref C)) ∧ o.cls = .ref C ∧ o.dict = none ∧ o.data = .fields vs ∧ vs[2]? = some .none ∧ vs[1]? = some head
noncomputable def RelL (K : W.Frag) (ι : Io) (H : Hp) : List D → List V → Prop
  | [], vs => vs = []
  | d :: ds, vs => ∃ v r, vs = v :: r ∧ Rel K ι H d v ∧ RelL K ι H ds r
end
structure Step (ι : Io) (H : Hp) (ι' : Io) (H' : Hp) : Prop where
  old : ∀ (n : Nat) (o : Option Addr), ι.c[n]? = some o → ι'.c[n]? = some o ∨ ι'.c[n]? = some none
  new : ∀ a, some a ∈ ι'.c → some a ∈ ι.c ∨ H a = none
  hid : ι'.x = ι.x
  hidk : ∀ a ∈ ι.x, H' a = H a
  keep : ∀ b o, H b = some o → ¬ ι.Has b → H' b = some o
theorem Step.refl (ι : Io) (H : Hp) : Step ι H ι H := ⟨fun _ _ h => .inl h, fun _ h => .inl h, rfl, fun _ _ => rfl, fun _ _ h _ => h⟩
theorem Step.nin {ι ι' : Io} {H H' : Hp} (s : Step ι H ι' H') {a : Addr} {o : HO} (h : H a = some o) (n : ¬ ι.Has a) : ¬ ι'.Has a := fun z => by
  rcases z with z | z
  · rcases s.new a z with z | z
    · exact n (.inl z)
    · rw [h] at z; cases z
  · rw [s.hid] at z; exact n (.inr z)
theorem Step.trans {ι ι1 ι2 : Io} {H H1 H2 : Hp} (s : Step ι H ι1 H1) (t : Step ι1 H1 ι2 H2) : Step ι H ι2 H2 where
  old := fun n o h => by
    rcases s.old n o h with h | h
    · exact t.old n o h
    · rcases t.old n _ h with h | h <;> exact .inr h
  new := fun a h => by
    rcases t.new a h with h | h
    · exact s.new a h
    · by_cases z : some a ∈ ι.c
      · exact .inl z
      · refine .inr ?_
        cases q : H a with
        | none => rfl
        | some o =>
          by_cases z' : a ∈ ι.x
          · rw [s.hidk a z', q] at h; cases h
          · rw [s.keep a o q (fun w => w.elim z z')] at h; cases h
  hid := t.hid.trans s.hid
  hidk := fun a h => (t.hidk a (by rw [s.hid]; exact h)).trans (s.hidk a h)
  keep := fun b o h n => t.keep b o (s.keep b o h n) (s.nin h n)
theorem Step.rd {ι ι' : Io} {H H' : Hp} (s : Step ι H ι' H') {a : Addr} {u : HO} (h : Rd H a u) (n : ¬ ι.Has a) : Rd H' a u ∧ ¬ ι'.Has a := by
  rcases h with h | ⟨o, h⟩
  · exact ⟨.inl (s.keep _ _ h n), s.nin h n⟩
  · exact ⟨.inr ⟨o, s.keep _ _ h n⟩, s.nin h n⟩
structure Pass (ι : Io) (H : Hp) (ι' : Io) (H' : Hp) : Prop where
  old : ∀ (n : Nat) (o : Option Addr), ι.c[n]? = some o → ι'.c[n]? = some o ∨ ι'.c[n]? = some none
  keep : ∀ b o, H b = some o → ¬ ι.Has b → H' b = some o ∧ ¬ ι'.Has b
theorem Step.pass {ι ι' : Io} {H H' : Hp} (s : Step ι H ι' H') : Pass ι H ι' H' := ⟨s.old, fun b o h n => ⟨s.keep b o h n, s.nin h n⟩⟩
theorem Pass.rd {ι ι' : Io} {H H' : Hp} (s : Pass ι H ι' H') {a : Addr} {u : HO} (h : Rd H a u) (n : ¬ ι.Has a) : Rd H' a u ∧ ¬ ι'.Has a := by
  rcases h with h | ⟨o, h⟩
  · exact ⟨.inl (s.keep _ _ h n).1, (s.keep _ _ h n).2⟩
  · exact ⟨.inr ⟨o, (s.keep _ _ h n).1⟩, (s.keep _ _ h n).2⟩
section
variable {K : W.Frag} {ι ι' : Io} {H H' : Hp}
mutual
theorem Rel.pass (s : Pass ι H ι' H') : ∀ {d : D} {v : V}, Rel K ι H d v → Rel K ι' H' d v
  | .non, _, h => by simpa [Rel] using h
  | .bl _, _, h => by simpa [Rel] using h
  | .int _, _, h => by simpa [Rel] using h
  | .str _, _, h => by simpa [Rel] using h
  | .tup ds, v, h => by
    simp only [Rel] at h ⊢
    obtain ⟨a, vs, e, h1, h2⟩ := h
    exact ⟨a, vs, e, s.keep _ _ h1.1 h1.2, RelL.pass s h2⟩
  | .lst ds, v, h => by
    simp only [Rel] at h ⊢
    obtain ⟨a, vs, e, h1, h2⟩ := h
    exact ⟨a, vs, e, s.keep _ _ h1.1 h1.2, RelL.pass s h2⟩
  | .scr ds, v, h => by
    simp only [Rel] at h ⊢
    obtain ⟨a, vs, e, h1, h2⟩ := h
    exact ⟨a, vs, e, h1.imp (fun z => s.rd z.1 z.2) id, RelL.pass s h2⟩
  | .cel n, v, h => by
    simp only [Rel] at h ⊢
    obtain ⟨a, e, h⟩ := h
    refine ⟨a, e, ?_⟩
    rcases h with h | h
    · exact s.old n _ h
    · rcases s.old n _ h with h | h <;> exact .inr h
  | .set xs, v, h => by
    simp only [Rel] at h ⊢
    obtain ⟨a, e, h, n⟩ := h
    exact ⟨a, e, (s.keep _ _ h n).1, (s.keep _ _ h n).2⟩
  | .dct, v, h => by
    simp only [Rel] at h ⊢
    obtain ⟨a, e, h, n⟩ := h
    exact ⟨a, e, (s.keep _ _ h n).1, (s.keep _ _ h n).2⟩
  | .fn _, _, h => by simpa [Rel] using h
  | .exn _, _, h => by
    simp only [Rel] at h ⊢
    obtain ⟨a, o, C, head, vs, e, h1, h2⟩ := h
    exact ⟨a, o, C, head, vs, e, s.keep _ _ h1.1 h1.2, h2⟩
theorem RelL.pass (s : Pass ι H ι' H') : ∀ {ds : List D} {vs : List V}, RelL K ι H ds vs → RelL K ι' H' ds vs
  | [], _, h => by simpa [RelL] using h
  | d :: ds, _, h => by
    simp only [RelL] at h ⊢
    obtain ⟨v, r, e, h1, h2⟩ := h
    exact ⟨v, r, e, Rel.pass s h1, RelL.pass s h2⟩
end
theorem Rel.step (s : Step ι H ι' H') {d : D} {v : V} (h : Rel K ι H d v) : Rel K ι' H' d v := h.pass s.pass
theorem RelL.step (s : Step ι H ι' H') {ds : List D} {vs : List V} (h : RelL K ι H ds vs) : RelL K ι' H' ds vs := h.pass s.pass
theorem RelL.nil : RelL K ι H [] [] := by simp [RelL]
theorem RelL.cons {d : D} {ds : List D} {v : V} {vs : List V} (h : Rel K ι H d v) (t : RelL K ι H ds vs) : RelL K ι H (d :: ds) (v :: vs) := by simp only [RelL]; exact ⟨v, vs, rfl, h, t⟩
theorem RelL.length : ∀ {ds : List D} {vs : List V}, RelL K ι H ds vs → ds.length = vs.length
  | [], _, h => by simp only [RelL] at h; subst h; rfl
  | d :: ds, _, h => by
    simp only [RelL] at h
    obtain ⟨v, r, rfl, _, h⟩ := h
    simp [RelL.length h]
theorem RelL.get : ∀ {ds : List D} {vs : List V} {i : Nat} {d : D}, RelL K ι H ds vs → ds[i]? = some d → ∃ v, vs[i]? = some v ∧ Rel K ι H d v
  | [], _, _, _, _, e => by simp at e
  | d :: ds, _, i, x, h, e => by
    simp only [RelL] at h
    obtain ⟨v, r, rfl, h1, h2⟩ := h
    cases i with
    | zero => simp at e; subst e; exact ⟨v, rfl, h1⟩
    | succ i => simp at e; simpa using RelL.get h2 e
theorem RelL.getV : ∀ {ds : List D} {vs : List V} {i : Nat} {v : V}, RelL K ι H ds vs → vs[i]? = some v → ∃ d, ds[i]? = some d ∧ Rel K ι H d v
  | [], _, _, _, h, e => by simp only [RelL] at h; subst h; simp at e
  | d :: ds, _, i, x, h, e => by
    simp only [RelL] at h
    obtain ⟨v, r, rfl, h1, h2⟩ := h
    cases i with
    | zero => simp at e; subst e; exact ⟨d, rfl, h1⟩
    | succ i => simp at e; simpa using RelL.getV h2 e
theorem RelL.append : ∀ {ds es : List D} {vs ws : List V}, RelL K ι H ds vs → RelL K ι H es ws → RelL K ι H (ds ++ es) (vs ++ ws)
  | [], _, _, _, h, t => by simp only [RelL] at h; subst h; exact t
  | d :: ds, es, _, ws, h, t => by
    simp only [RelL] at h
    obtain ⟨v, r, rfl, h1, h2⟩ := h
    exact RelL.cons h1 (RelL.append h2 t)
theorem RelL.take : ∀ {ds : List D} {vs : List V} (n : Nat), RelL K ι H ds vs → RelL K ι H (ds.take n) (vs.take n)
  | _, _, 0, _ => by simpa using RelL.nil
  | [], _, n + 1, h => by simp only [RelL] at h; subst h; exact RelL.nil
  | d :: ds, _, n + 1, h => by
    simp only [RelL] at h
    obtain ⟨v, r, rfl, h1, h2⟩ := h
    exact RelL.cons h1 (RelL.take n h2)
theorem RelL.drop : ∀ {ds : List D} {vs : List V} (n : Nat), RelL K ι H ds vs → RelL K ι H (ds.drop n) (vs.drop n)
  | _, _, 0, h => h
  | [], _, n + 1, h => by simp only [RelL] at h; subst h; exact RelL.nil
  | d :: ds, _, n + 1, h => by
    simp only [RelL] at h
    obtain ⟨v, r, rfl, h1, h2⟩ := h
    exact RelL.drop n h2
theorem RelL.reverse {ds : List D} {vs : List V} (h : RelL K ι H ds vs) : RelL K ι H ds.reverse vs.reverse := by
  induction ds generalizing vs with
  | nil => simp only [RelL] at h; subst h; exact RelL.nil
  | cons d ds ih =>
    simp only [RelL] at h
    obtain ⟨v, r, rfl, h1, h2⟩ := h
    rw [List.reverse_cons, List.reverse_cons]
    exact RelL.append (ih h2) (RelL.cons h1 RelL.nil)
theorem RelL.set {d : D} {v : V} (hd : Rel K ι H d v) : ∀ {ds : List D} {vs : List V} (i : Nat), RelL K ι H ds vs → RelL K ι H (ds.set i d) (vs.set i v)
  | [], _, _, h => by simp only [RelL] at h; subst h; exact RelL.nil
  | x :: ds, _, i, h => by
    simp only [RelL] at h
    obtain ⟨w, r, rfl, h1, h2⟩ := h
    cases i with
    | zero => exact RelL.cons hd h2
    | succ i => exact RelL.cons h1 (RelL.set hd i h2)
theorem relL_ints : ∀ {is : List Int} {vs : List V}, RelL K ι H (is.map D.int) vs ↔ vs = is.map V.int
  | [], vs => by simp [RelL]
  | i :: is, vs => by
    simp only [List.map_cons, RelL]
    constructor
    · rintro ⟨v, r, rfl, h1, h2⟩
      simp only [Rel] at h1
      rw [h1, relL_ints.mp h2]
    · rintro rfl
      exact ⟨_, _, rfl, by simp [Rel], relL_ints.mpr rfl⟩
structure HRel (K : W.Frag) (ι : Io) (H : Hp) (h : Hh) : Prop where
  len : h.length = ι.c.length
  inj : ∀ (m n : Nat) (a : Addr), ι.c[m]? = some (some a) → ι.c[n]? = some (some a) → m = n
  at_ : ∀ (n : Nat) (a : Addr) (c : C), ι.c[n]? = some (some a) → h[n]? = some c → ∃ ds vs, c = .lst ds ∧ H a = some (.lst vs) ∧ RelL K ι H ds vs
  dead : ∀ (n : Nat), ι.c[n]? = some none → h[n]? = some .dead
  hidt : ∀ a ∈ ι.x, (∃ o, H a = some o) ∧ some a ∉ ι.c
noncomputable abbrev Sd := List (Option D)
noncomputable def LRel (K : W.Frag) (ι : Io) (H : Hp) (sd : Sd) (σ : L2.St) : Prop := sd.length = σ.length ∧ ∀ (i : Nat) (d : D), sd[i]? = some (some d) → ∃ v, σ[i]? = some (some v) ∧ Rel K ι H d v
theorem LRel.pass {sd : Sd} {σ : L2.St} (s : Pass ι H ι' H') (h : LRel K ι H sd σ) : LRel K ι' H' sd σ := ⟨h.1, fun i d e => let ⟨v, h1, h2⟩ := h.2 i d e; ⟨v, h1, h2.pass s⟩⟩
theorem LRel.step {sd : Sd} {σ : L2.St} (s : Step ι H ι' H') (h : LRel K ι H sd σ) : LRel K ι' H' sd σ := ⟨h.1, fun i d e => let ⟨v, h1, h2⟩ := h.2 i d e; ⟨v, h1, h2.step s⟩⟩
theorem LRel.set {sd : Sd} {σ : L2.St} {d : D} {v : V} (h : LRel K ι H sd σ) (r : Rel K ι H d v) (i : Nat) : LRel K ι H (sd.set i (some d)) (σ.set i (some v)) := by
  refine ⟨by rw [List.length_set, List.length_set]; exact h.1, fun j d' e => ?_⟩
  by_cases hij : i = j
  · subst hij
    by_cases hl : i < sd.length
    · rw [List.getElem?_set_self hl] at e
      cases e
      exact ⟨v, by rw [List.getElem?_set_self (by rw [← h.1]; exact hl)], r⟩
    · rw [List.getElem?_eq_none (by rw [List.length_set]; omega)] at e
      cases e
  · rw [List.getElem?_set_ne hij] at e ⊢
    exact h.2 j d' e
theorem LRel.skip {sd : Sd} {σ : L2.St} {o : Option V} (h : LRel K ι H sd σ) (i : Nat) (hn : sd[i]? = some none) : LRel K ι H sd (σ.set i o) := by
  refine ⟨by rw [List.length_set]; exact h.1, fun j d' e => ?_⟩
  by_cases hij : i = j
  · subst hij; rw [hn] at e; cases e
  · rw [List.getElem?_set_ne hij]; exact h.2 j d' e
end
end L3
end
section
set_option maxHeartbeats 4000000
namespace L3
open PySem PySem.Spec PyProof.Rows L2
noncomputable abbrev St := L2.St
noncomputable abbrev XE := String → Hp → Prop
noncomputable def Fin {α : Type} (K : W.Frag) (E : XE) (ι : Io) (H : Hp) (r : R α) (P : α → Io → Hp → Prop) : Prop := match r with
  | .ok a h' => ∀ ι' H', Step ι H ι' H' → HRel K ι' H' h' → P a ι' H'
  | .exc c h' => ∀ ι' H', Step ι H ι' H' → HRel K ι' H' h' → E c H'
  | .bad => False
section
variable {α β : Type} {K : W.Frag} {E : XE} {ι ι' : Io} {H H' : Hp}
theorem Fin.step {r : R α} {P : α → Io → Hp → Prop} (s : Step ι H ι' H') (h : Fin K E ι H r P) : Fin K E ι' H' r P := by
  cases r with
  | ok a h' => exact fun ι2 H2 t hr => h ι2 H2 (s.trans t) hr
  | exc c h' => exact fun ι2 H2 t hr => h ι2 H2 (s.trans t) hr
  | bad => exact h
theorem Fin.mono {r : R α} {P P' : α → Io → Hp → Prop} (h : Fin K E ι H r P) (m : ∀ a ι' H', P a ι' H' → P' a ι' H') : Fin K E ι H r P' := by
  cases r with
  | ok a h' => exact fun ι2 H2 t hr => m _ _ _ (h ι2 H2 t hr)
  | exc c h' => exact h
  | bad => exact h
theorem Fin.bind {m : M α} {f : α → M β} {h : Hh} {P : β → Io → Hp → Prop} {P' : α → Io → Hp → Prop} (q : Fin K E ι H ((m >>= f) h) P)
    (k : ∀ a h' ι' H', m h = .ok a h' → Step ι H ι' H' → HRel K ι' H' h' → Fin K E ι' H' (f a h') P → P' a ι' H') : Fin K E ι H (m h) P' := by
  have q' : Fin K E ι H (M.bind m f h) P := q
  unfold M.bind at q'
  cases e : m h with
  | ok a h' =>
    rw [e] at q'
    intro ι' H' s hr
    exact k a h' ι' H' e s hr (Fin.step s q')
  | exc c h' => rw [e] at q'; exact q'
  | bad => rw [e] at q'; exact q'
theorem Fin.out {a : α} {h : Hh} {P : α → Io → Hp → Prop} (hr : HRel K ι H h) (q : Fin K E ι H ((pure a : M α) h) P) : P a ι H := q ι H (Step.refl _ _) hr
end
noncomputable def toTE (K : W.Frag) (E : XE) (f : Sd → M D) : TE := fun σ H Q => ∃ ι h sd, LRel K ι H sd σ ∧ HRel K ι H h ∧ Fin K E ι H (f sd h) fun d ι' H' => ∀ v, Rel K ι' H' d v → Q v H'
noncomputable def toTT (K : W.Frag) (E : XE) (f : Sd → M Bool) : TT := fun σ H Q => ∃ ι h sd, LRel K ι H sd σ ∧ HRel K ι H h ∧ Fin K E ι H (f sd h) fun b ι' H' => Q b H'
noncomputable def toTA (K : W.Frag) (E : XE) (f : Sd → M (List D)) : TA := fun σ H Q => ∃ ι h sd, LRel K ι H sd σ ∧ HRel K ι H h ∧ Fin K E ι H (f sd h) fun ds ι' H' => ∀ vs, RelL K ι' H' ds vs → Q vs H'
noncomputable abbrev SE (X : Cx) (E : XE) (e : Expr) (f : Sd → M D) : Prop := PE X e (toTE X.K E f)
noncomputable abbrev ST (X : Cx) (E : XE) (e : Expr) (f : Sd → M Bool) : Prop := PT X e (toTT X.K E f)
noncomputable abbrev SA (X : Cx) (E : XE) (es : List Expr) (f : Sd → M (List D)) : Prop := PA X es (toTA X.K E f)
noncomputable def toR2 (K : W.Frag) (E : XE) (F : D → D → M D) : R2 := fun x y H Q => ∃ ι h d1 d2, Rel K ι H d1 x ∧ Rel K ι H d2 y ∧ HRel K ι H h ∧ Fin K E ι H (F d1 d2 h) fun d ι' H' => ∀ v, Rel K ι' H' d v → Q v H'
noncomputable def toRA (K : W.Frag) (E : XE) (F : List D → M D) : List V → Hp → VK → Prop := fun xs H Q => ∃ ι h ds, RelL K ι H ds xs ∧ HRel K ι H h ∧ Fin K E ι H (F ds h) fun d ι' H' => ∀ v, Rel K ι' H' d v → Q v H'
theorem PE.imp {X : Cx} {e : Expr} {t t' : TE} (h : PE X e t) (m : ∀ σ H Q, t' σ H Q → t σ H Q) : PE X e t' := fun pins s σ H Q I q => h pins s σ H Q I (m _ _ _ q)
theorem PT.imp {X : Cx} {e : Expr} {t t' : TT} (h : PT X e t) (m : ∀ σ H Q, t' σ H Q → t σ H Q) : PT X e t' := fun pins s σ H Q I q => h pins s σ H Q I (m _ _ _ q)
theorem PA.imp {X : Cx} {e : List Expr} {t t' : TA} (h : PA X e t) (m : ∀ σ H Q, t' σ H Q → t σ H Q) : PA X e t' := fun pos pins s σ H Q I q => h pos pins s σ H Q I (m _ _ _ q)
theorem OpR.imp {X : Cx} {f : Value → Value → Sem Value} {r r' : R2} (h : OpR X f r) (m : ∀ x y H Q, r' x y H Q → r x y H Q) : OpR X f r' := fun pins s σ H x y v u Q I rx ry q => h pins s σ H x y v u Q I rx ry (m _ _ _ _ q)
theorem CallR.imp {X : Cx} {f : Value} {r r' : List V → Hp → VK → Prop} (h : CallR X f r) (m : ∀ xs H Q, r' xs H Q → r xs H Q) : CallR X f r' := by
  intro pins s σ H xs us Q I rx q
  exact h pins s σ H xs us Q I rx (m _ _ _ q)
theorem IxR.imp {X : Cx} {r r' : R2} (h : IxR X r) (m : ∀ x y H Q, r' x y H Q → r x y H Q) : IxR X r' := by
  intro value slice pins s σ H x y v u Q I rx ry q hs
  exact h value slice pins s σ H x y v u Q I rx ry (m _ _ _ _ q) hs
theorem MtM.imp {X : Cx} {id : String} {r r' : V → List V → Hp → VK → Prop} (h : MtM X id r) (m : ∀ x xs H Q, r' x xs H Q → r x xs H Q) : MtM X id r' := fun pins s σ H x xs v us Q I rx rs q => h pins s σ H x xs v us Q I rx rs (m _ _ _ _ q)
theorem SlR.imp {X : Cx} {r r' : V → Option Int → Option Int → Hp → VK → Prop} (h : SlR X r) (m : ∀ x l u H Q, r' x l u H Q → r x l u H Q) : SlR X r' := fun pins s σ H x v vl vu lo hi sl Q I rx hs pl pu q => h pins s σ H x v vl vu lo hi sl Q I rx hs pl pu (m _ _ _ _ _ q)
theorem PSet.imp {X : Cx} {r r' : TSet} (h : PSet X r) (m : ∀ o i v H Q, r' o i v H Q → r o i v H Q) : PSet X r' := fun pins s σ H o i v ov iv u Q I ro ri rv q => h pins s σ H o i v ov iv u Q I ro ri rv (m _ _ _ _ _ q)
theorem PI.imp {X : Cx} {tg iter : Expr} {t t' : TI} (h : PI X tg iter t) (m : ∀ σ H Q, t' σ H Q → t σ H Q) : PI X tg iter t' := fun pins s σ H Q I q => h pins s σ H Q I (m _ _ _ q)
theorem PG.imp {X : Cx} {tg : Expr} {t t' : TG} (h : PG X tg t) (m : ∀ v σ H Q, t' v σ H Q → t v σ H Q) : PG X tg t' := fun pins s σ H v u Q I r q => h pins s σ H v u Q I r (m _ _ _ _ q)
theorem PS.imp {X : Cx} {st : Stmt} {t t' : TS} (h : PS X st t) (m : ∀ D σ H, t' D σ H → t D σ H) : PS X st t' := fun pins s σ H D I q => h pins s σ H D I (m _ _ _ q)
theorem PSs.imp {X : Cx} {st : List Stmt} {t t' : TS} (h : PSs X st t) (m : ∀ D σ H, t' D σ H → t D σ H) : PSs X st t' := fun pins s σ H D I q => h pins s σ H D I (m _ _ _ q)
section
variable {X : Cx} {E : XE} {a b e : Expr} {es : List Expr} {pos : Pos} {fa fb : Sd → M D}
theorem te2 {K : W.Frag} {F : D → D → M D} {r : R2} (hr : ∀ x y H Q, toR2 K E F x y H Q → r x y H Q) (σ : St) (H : Hp) (Q : VK) (q : toTE K E (fun sd => do let x ← fa sd; let y ← fb sd; F x y) σ H Q) : tOp r (toTE K E fa) (toTE K E fb) σ H Q := by
  obtain ⟨ι, h, sd, L, hh, q⟩ := q
  refine ⟨ι, h, sd, L, hh, Fin.bind q fun d1 h1 ι1 H1 e1 s1 hr1 q1 v r1 => ?_⟩
  refine ⟨ι1, h1, sd, L.step s1, hr1, Fin.bind q1 fun d2 h2 ι2 H2 e2 s2 hr2 q2 w r2 => ?_⟩
  exact hr _ _ _ _ ⟨ι2, h2, d1, d2, r1.step s2, r2, hr2, q2⟩
theorem se_op {op : Operator} {F : D → D → M D} (ho : OpR X (binaryOp op) (toR2 X.K E F)) (ha : SE X E a fa) (hb : SE X E b fb) : SE X E (.BinOp a op b pos) (fun sd => do let x ← fa sd; let y ← fb sd; F x y) :=
  PE.imp (pe_op ho ha hb) (te2 fun _ _ _ _ q => q)
theorem se_cmp {op : CmpOp} {F : D → D → M D} (ho : OpR X (compareOp op) (toR2 X.K E F)) (ha : SE X E a fa) (hb : SE X E b fb) (hm : behindInMarks op b = false) : SE X E (.Compare a [op] [b] pos) (fun sd => do let x ← fa sd; let y ← fb sd; F x y) :=
  PE.imp (pe_cmpR ho ha hb hm) (te2 fun _ _ _ _ q => q)
theorem se_ix {F : D → D → M D} (ho : IxR X (toR2 X.K E F)) (ha : SE X E a fa) (hb : SE X E b fb) (hs : PlainIx b) : SE X E (.Subscript a b pos) (fun sd => do let x ← fa sd; let y ← fb sd; F x y) :=
  PE.imp (pe_ix ho ha hb hs) (te2 fun _ _ _ _ q => q)
noncomputable def dBool : D → M Bool
  | .bl b => pure b
  | _ => M.bad
theorem te_bool {K : W.Frag} {f : Sd → M D} (σ : St) (H : Hp) (Q : Bool → Hp → Prop) (q : toTT K E (fun sd => do let x ← f sd; dBool x) σ H Q) : (toTE K E f) σ H fun x H1 => ∃ c, x = .bl c ∧ Q c H1 := by
  obtain ⟨ι, h, sd, L, hh, q⟩ := q
  refine ⟨ι, h, sd, L, hh, Fin.bind q fun d1 h1 ι1 H1 e1 s1 hr1 q2 v r1 => ?_⟩
  cases d1 with
  | bl b => simp only [Rel] at r1; exact ⟨b, r1, Fin.out hr1 q2⟩
  | _ => exact False.elim q2
theorem st_cmp {op : CmpOp} {F : D → D → M D} (ho : OpR X (compareOp op) (toR2 X.K E F)) (ha : SE X E a fa) (hb : SE X E b fb) (hm : behindInMarks op b = false) :
    ST X E (.Compare a [op] [b] pos) (fun sd => do let z ← (do let x ← fa sd; let y ← fb sd; F x y); dBool z) := by
  refine PT.imp (pt_cmpR ho ha hb hm) fun σ H Q q => ?_
  have q1 := te_bool (f := fun sd => do let x ← fa sd; let y ← fb sd; F x y) σ H Q q
  exact te2 (fun _ _ _ _ q => q) σ H _ q1
theorem st_val {f : Sd → M D} (h : SE X E e f) (he : ∀ whole, isTrue e X.env whole = (do let v ← whole; standAt e.pos; holding [v] (truthy v)) := by intro _; rfl) : ST X E e (fun sd => do let x ← f sd; dBool x) :=
  PT.imp (pt_val h he) fun σ H Q q => te_bool σ H Q q
theorem st_not {t : Sd → M Bool} (ha : ST X E a t) : ST X E (.UnaryOp .Not a pos) (fun sd => do let c ← t sd; pure (!c)) := by
  refine PT.imp (pt_not ha) fun σ H Q ⟨ι, h, sd, L, hh, q⟩ => ⟨ι, h, sd, L, hh, Fin.bind q fun c h1 ι1 H1 e1 s1 hr1 q1 => ?_⟩
  exact Fin.out hr1 q1
theorem st_or1 {t : Sd → M Bool} (ha : ST X E a t) : PW X (.BoolOp .Or [a] pos) (toTT X.K E t) := pw_or1 ha
theorem PW.imp {t t' : TT} (h : PW X e t) (m : ∀ σ H Q, t' σ H Q → t σ H Q) : PW X e t' := fun whole pins s σ H Q I q => h whole pins s σ H Q I (m _ _ _ q)
theorem st_or {rest : List Expr} {t u : Sd → M Bool} (ha : ST X E a t) (hb : PW X (.BoolOp .Or (b :: rest) pos) (toTT X.K E u)) : PW X (.BoolOp .Or (a :: b :: rest) pos) (toTT X.K E fun sd => do let c ← t sd; if c = true then pure true else u sd) := by
  refine PW.imp (pw_or ha hb) fun σ H Q ⟨ι, h, sd, L, hh, q⟩ => ⟨ι, h, sd, L, hh, Fin.bind q fun c h1 ι1 H1 e1 s1 hr1 q1 => ?_⟩
  cases c with
  | false => exact iteF ⟨ι1, h1, sd, L.step s1, hr1, q1⟩
  | true => exact iteT (Fin.out hr1 q1)
theorem st_bool {op : BoolOp} {vs : List Expr} {t : Sd → M Bool} (h : PW X (.BoolOp op vs pos) (toTT X.K E t)) : ST X E (.BoolOp op vs pos) t := h.pt
theorem se_one {op : BoolOp} (h : SE X E a fa) : SE X E (.BoolOp op [a] pos) fa := pe_one h
theorem se_and {rest : List Expr} (ha : SE X E a fa) (hb : SE X E (.BoolOp .And (b :: rest) pos) fb) : SE X E (.BoolOp .And (a :: b :: rest) pos) (fun sd => do let c ← (do let x ← fa sd; dBool x); if c = true then fb sd else pure (.bl false)) := by
  refine PE.imp (pe_and ha hb) fun σ H Q ⟨ι, h, sd, L, hh, q⟩ => ?_
  have q1 := te_bool (K := X.K) (E := E) (f := fa) σ H (fun c H1 => if c = true then toTE X.K E fb σ H1 Q else Q (.bl false) H1) ⟨ι, h, sd, L, hh, Fin.bind q fun c h1 ι1 H1 e1 s1 hr1 q1 => ?_⟩
  · exact q1
  · cases c with
    | true => exact iteT ⟨ι1, h1, sd, L.step s1, hr1, q1⟩
    | false => exact iteF (Fin.out hr1 q1 _ (by simp [Rel]))
theorem se_or {rest : List Expr} (ha : SE X E a fa) (hb : SE X E (.BoolOp .Or (b :: rest) pos) fb) : SE X E (.BoolOp .Or (a :: b :: rest) pos) (fun sd => do let c ← (do let x ← fa sd; dBool x); if c = true then pure (.bl true) else fb sd) := by
  refine PE.imp (pe_or ha hb) fun σ H Q ⟨ι, h, sd, L, hh, q⟩ => ?_
  have q1 := te_bool (K := X.K) (E := E) (f := fa) σ H (fun c H1 => if c = true then Q (.bl true) H1 else toTE X.K E fb σ H1 Q) ⟨ι, h, sd, L, hh, Fin.bind q fun c h1 ι1 H1 e1 s1 hr1 q1 => ?_⟩
  · exact q1
  · cases c with
    | false => exact iteF ⟨ι1, h1, sd, L.step s1, hr1, q1⟩
    | true => exact iteT (Fin.out hr1 q1 _ (by simp [Rel]))
theorem se_not (ha : SE X E a fa) : SE X E (.UnaryOp .Not a pos) (fun sd => do let c ← (do let x ← fa sd; dBool x); pure (.bl (!c))) := by
  refine PE.imp (pe_not ha) fun σ H Q ⟨ι, h, sd, L, hh, q⟩ => ?_
  have q1 := te_bool (K := X.K) (E := E) (f := fa) σ H (fun c H1 => Q (.bl (!c)) H1) ⟨ι, h, sd, L, hh, Fin.bind q fun c h1 ι1 H1 e1 s1 hr1 q1 => ?_⟩
  · exact q1
  · exact Fin.out hr1 q1 _ (by simp [Rel])
theorem se_ifExp {c : Expr} {t : Sd → M Bool} (hc : ST X E c t) (ha : SE X E a fa) (hb : SE X E b fb) : SE X E (.IfExp c a b pos) (fun sd => do let c ← t sd; if c = true then fa sd else fb sd) := by
  refine PE.imp (pe_ifExp hc ha hb) fun σ H Q ⟨ι, h, sd, L, hh, q⟩ => ⟨ι, h, sd, L, hh, Fin.bind q fun c h1 ι1 H1 e1 s1 hr1 q1 => ?_⟩
  cases c with
  | true => exact iteT ⟨ι1, h1, sd, L.step s1, hr1, q1⟩
  | false => exact iteF ⟨ι1, h1, sd, L.step s1, hr1, q1⟩
noncomputable def dVar (i : Nat) : Sd → M D := fun sd => match sd[i]? with
  | some (some d) => pure d
  | _ => M.bad
theorem se_var (i : Nat) {x : Str} (hN : X.N[i]? = some x) (hv : Vis X.env.scope x) (hd : (x == ("__debug__" : Str)) = false := by decide) (hcd : (x == ("__classdict__" : Str)) = false := by decide) : SE X E (.Name x pos) (dVar i) := by
  refine PE.imp (pe_var hN hv hd hcd) fun σ H Q ⟨ι, h, sd, L, hh, q⟩ => ?_
  unfold dVar at q
  cases e : sd[i]? with
  | none => rw [e] at q; exact False.elim q
  | some o =>
    rw [e] at q
    cases o with
    | none => exact False.elim q
    | some d =>
      obtain ⟨v, e1, r⟩ := L.2 i d e
      exact ⟨v, e1, Fin.out hh q v r⟩
theorem te_const {K : W.Frag} {d : D} {v : V} (r : ∀ ι H, Rel K ι H d v) (σ : St) (H : Hp) (Q : VK) (q : toTE K E (fun _ => pure d) σ H Q) : tC v σ H Q := by
  obtain ⟨ι, h, sd, L, hh, q⟩ := q
  exact Fin.out hh q v (r _ _)
theorem se_int {i : Int} {j : Nat} : SE X E (.Constant (.int i) j pos) (fun _ => pure (.int i)) := PE.imp pe_int (te_const fun _ _ => by simp [Rel])
theorem se_bl {i : Bool} {j : Nat} : SE X E (.Constant (.bool i) j pos) (fun _ => pure (.bl i)) := PE.imp pe_bl (te_const fun _ _ => by simp [Rel])
theorem se_non {j : Nat} : SE X E (.Constant .none j pos) (fun _ => pure .non) := PE.imp pe_non (te_const fun _ _ => by simp [Rel])
theorem sa_nil : SA X E [] (fun _ => pure []) := PA.imp pa_nil fun σ H Q ⟨ι, h, sd, L, hh, q⟩ => Fin.out hh q [] RelL.nil
theorem sa_cons {fs : Sd → M (List D)} (ha : SE X E e fa) (hr : SA X E es fs) (hs : starEach (e :: es) X.env = (false, eval e X.env) :: starEach es X.env := by rfl) : SA X E (e :: es) (fun sd => do let x ← fa sd; let r ← fs sd; pure (x :: r)) := by
  refine PA.imp (pa_cons ha hr hs) fun σ H Q ⟨ι, h, sd, L, hh, q⟩ => ⟨ι, h, sd, L, hh, Fin.bind q fun d h1 ι1 H1 e1 s1 hr1 q1 v rv => ?_⟩
  refine ⟨ι1, h1, sd, L.step s1, hr1, Fin.bind q1 fun ds h2 ι2 H2 e2 s2 hr2 q2 vs rvs => ?_⟩
  exact Fin.out hr2 q2 _ (RelL.cons (rv.step s2) rvs)
end
theorem HRel.nin {K : W.Frag} {ι : Io} {H : Hp} {h : Hh} (hr : HRel K ι H h) {p : Addr} (hp : H p = none) : ¬ ι.Has p := fun z => by
  rcases z with z | z
  · obtain ⟨n, hn⟩ := List.mem_iff_getElem?.mp z
    have hl : n < h.length := by rw [hr.len]; exact (List.getElem?_eq_some_iff.mp hn).1
    obtain ⟨ds, vs, _, e, _⟩ := hr.at_ n p h[n] hn (by simp [hl])
    rw [hp] at e
    cases e
  · obtain ⟨⟨o, e⟩, _⟩ := hr.hidt p z
    rw [hp] at e
    cases e
theorem HRel.laidS {K : W.Frag} {ι : Io} {H : Hp} {h : Hh} (hr : HRel K ι H h) {p : Addr} {o : HO} (hp : H p = none) : Step ι H ι (upd H p o) :=
  ⟨fun _ _ h => .inl h, fun _ h => .inl h, rfl, fun a ha => upd_ne fun z => hr.nin hp (.inr (z ▸ ha)), fun b o' h _ => by rw [upd_ne (ne_of_none h hp)]; exact h⟩
theorem HRel.laid {K : W.Frag} {ι : Io} {H : Hp} {h : Hh} {p : Addr} {o : HO} (hr : HRel K ι H h) (hp : H p = none) : HRel K ι (upd H p o) h :=
  ⟨hr.len, hr.inj, fun n a c hn hc => by
    obtain ⟨ds, vs, e1, e2, e3⟩ := hr.at_ n a c hn hc
    exact ⟨ds, vs, e1, by rw [upd_ne (ne_of_none e2 hp)]; exact e2, e3.step (hr.laidS hp)⟩, hr.dead, fun a ha => ⟨by rw [upd_ne (show a ≠ p from fun z => hr.nin hp (.inr (z ▸ ha)))]; exact (hr.hidt a ha).1, (hr.hidt a ha).2⟩⟩
noncomputable def fits (n : Nat) : M Unit := if n ≤ sizeLine then pure () else M.bad
theorem Fin.fits {α : Type} {K : W.Frag} {E : XE} {ι : Io} {H : Hp} {n : Nat} {f : M α} {h : Hh} {P : α → Io → Hp → Prop} (q : Fin K E ι H ((do L3.fits n; f) h) P) : n ≤ sizeLine ∧ Fin K E ι H (f h) P := by
  have q' : Fin K E ι H (M.bind (L3.fits n) (fun _ => f) h) P := q
  unfold M.bind L3.fits at q'
  by_cases hn : n ≤ sizeLine
  · rw [if_pos hn] at q'
    exact ⟨hn, q'⟩
  · rw [if_neg hn] at q'
    exact False.elim q'
section
variable {X : Cx} {E : XE} {es : List Expr} {pos : Pos} {fs : Sd → M (List D)}
theorem newT {K : W.Frag} {ι : Io} {H : Hp} {h : Hh} {ds : List D} {vs : List V} {Q : VK} (hr : HRel K ι H h) (rl : RelL K ι H ds vs) (q : Fin K E ι H ((pure (.tup ds) : M D) h) fun d ι' H' => ∀ v, Rel K ι' H' d v → Q v H') {p : Addr} (hp : H p = none) : Q (.ref p) (upd H p (.tup vs)) :=
  q ι _ (hr.laidS hp) (hr.laid hp) _ (by
    simp only [Rel]
    exact ⟨p, vs, rfl, ⟨upd_same, hr.nin hp⟩, rl.step (hr.laidS hp)⟩)
theorem newL {K : W.Frag} {ι : Io} {H : Hp} {h : Hh} {ds : List D} {vs : List V} {Q : VK} (hr : HRel K ι H h) (rl : RelL K ι H ds vs) (q : Fin K E ι H ((pure (.lst ds) : M D) h) fun d ι' H' => ∀ v, Rel K ι' H' d v → Q v H') {p : Addr} (hp : H p = none) : Q (.ref p) (upd H p (.lst vs)) :=
  q ι _ (hr.laidS hp) (hr.laid hp) _ (by
    simp only [Rel]
    exact ⟨p, vs, rfl, ⟨upd_same, hr.nin hp⟩, rl.step (hr.laidS hp)⟩)
noncomputable def newCell (ds : List D) : M D := fun h => .ok (.cel h.length) (h ++ [.lst ds])
theorem newC {K : W.Frag} {ι : Io} {H : Hp} {h : Hh} {ds : List D} {vs : List V} {Q : VK} (hr : HRel K ι H h) (rl : RelL K ι H ds vs) (q : Fin K E ι H (newCell ds h) fun d ι' H' => ∀ v, Rel K ι' H' d v → Q v H') {p : Addr} (hp : H p = none) : Q (.ref p) (upd H p (.lst vs)) := by
  have hlen := hr.len
  have nh := hr.nin hp
  have st : Step ι H ⟨ι.c ++ [some p], ι.x⟩ (upd H p (.lst vs)) := by
    refine ⟨fun n o h => .inl ?_, fun a h => ?_, rfl, fun a ha => upd_ne fun z => nh (.inr (z ▸ ha)), fun b o' h _ => by rw [upd_ne (ne_of_none h hp)]; exact h⟩
    · show (ι.c ++ [some p])[n]? = _
      rw [List.getElem?_append_left (List.getElem?_eq_some_iff.mp h).1]; exact h
    · rcases List.mem_append.mp h with h | h
      · exact .inl h
      · simp at h; subst h; exact .inr hp
  have at_ : ∀ (n : Nat) (a : Addr), (ι.c ++ [some p])[n]? = some (some a) → (ι.c[n]? = some (some a)) ∨ (n = ι.c.length ∧ a = p) := fun n a h => by
    by_cases hl : n < ι.c.length
    · rw [List.getElem?_append_left hl] at h; exact .inl h
    · rw [List.getElem?_append_right (by omega)] at h
      have : n - ι.c.length = 0 := by
        cases z : n - ι.c.length with
        | zero => rfl
        | succ k => rw [z] at h; simp at h
      rw [this] at h
      simp at h
      exact .inr ⟨by omega, h.symm⟩
  refine q _ _ st ⟨?_, fun m n a h1 h2 => ?_, fun n a c h1 h2 => ?_, fun n h1 => ?_, fun a ha => ⟨?_, fun z => ?_⟩⟩ _ ?_
  · show (h ++ [C.lst ds]).length = (ι.c ++ [some p]).length
    rw [List.length_append, List.length_append, hlen]; rfl
  · rcases at_ m a h1 with z1 | ⟨z1, z1'⟩ <;> rcases at_ n a h2 with z2 | ⟨z2, z2'⟩
    · exact hr.inj m n a z1 z2
    · subst z2'; exact absurd (.inl (List.mem_of_getElem? z1)) nh
    · subst z1'; exact absurd (.inl (List.mem_of_getElem? z2)) nh
    · rw [z1, z2]
  · rcases at_ n a h1 with z1 | ⟨z1, z1'⟩
    · rw [List.getElem?_append_left (by rw [hlen]; exact (List.getElem?_eq_some_iff.mp z1).1)] at h2
      obtain ⟨ds', vs', e1, e2, e3⟩ := hr.at_ n a c z1 h2
      exact ⟨ds', vs', e1, by rw [upd_ne (ne_of_none e2 hp)]; exact e2, e3.step st⟩
    · subst z1 z1'
      rw [← hlen, List.getElem?_append_right (Nat.le_refl _)] at h2
      simp at h2
      exact ⟨ds, vs, h2.symm, upd_same, rl.step st⟩
  · have h1 : (ι.c ++ [some p])[n]? = some none := h1
    by_cases hl : n < ι.c.length
    · rw [List.getElem?_append_left hl] at h1
      rw [List.getElem?_append_left (by rw [hlen]; exact hl)]
      exact hr.dead n h1
    · rw [List.getElem?_append_right (by omega)] at h1
      cases z : n - ι.c.length with
      | zero => rw [z] at h1; simp at h1
      | succ k => rw [z] at h1; simp at h1
  · rw [upd_ne (show a ≠ p from fun z => nh (.inr (z ▸ ha)))]
    exact (hr.hidt a ha).1
  · rcases List.mem_append.mp z with z | z
    · exact (hr.hidt a ha).2 z
    · simp at z; subst z; exact nh (.inr ha)
  · simp only [Rel]
    refine ⟨p, rfl, .inl ?_⟩
    show (ι.c ++ [some p])[h.length]? = _
    rw [hlen, List.getElem?_append_right (Nat.le_refl _)]
    simp
theorem se_tup {x1} (h : SA X E es fs) : SE X E (.Tuple es x1 pos) (fun sd => do let ds ← fs sd; fits ds.length; pure (.tup ds)) := by
  refine PE.imp (pe_tup h) fun σ H Q ⟨ι, h, sd, L, hh, q⟩ => ⟨ι, h, sd, L, hh, Fin.bind q fun ds h1 ι1 H1 e1 s1 hr1 q1 vs rvs => ?_⟩
  obtain ⟨z, q2⟩ := Fin.fits q1
  exact ⟨by rw [← rvs.length]; exact z, fun p hp => newT hr1 rvs q2 hp⟩
theorem se_lst (h : SA X E es fs) : SE X E (.List es pos) (fun sd => do let ds ← fs sd; fits ds.length; pure (.lst ds)) := by
  refine PE.imp (pe_lst h) fun σ H Q ⟨ι, h, sd, L, hh, q⟩ => ⟨ι, h, sd, L, hh, Fin.bind q fun ds h1 ι1 H1 e1 s1 hr1 q1 vs rvs => ?_⟩
  obtain ⟨z, q2⟩ := Fin.fits q1
  exact ⟨by rw [← rvs.length]; exact z, fun p hp => newL hr1 rvs q2 hp⟩
theorem se_lstC (h : SA X E es fs) : SE X E (.List es pos) (fun sd => do let ds ← fs sd; fits ds.length; newCell ds) := by
  refine PE.imp (pe_lst h) fun σ H Q ⟨ι, h, sd, L, hh, q⟩ => ⟨ι, h, sd, L, hh, Fin.bind q fun ds h1 ι1 H1 e1 s1 hr1 q1 vs rvs => ?_⟩
  obtain ⟨z, q2⟩ := Fin.fits q1
  exact ⟨by rw [← rvs.length]; exact z, fun p hp => newC hr1 rvs q2 hp⟩
end
end L3
end
section
set_option maxHeartbeats 4000000
namespace L3
open PySem PySem.Spec PyProof.Rows L2
inductive Out where
  | nx (sd : Sd) | rt (d : D) | bk (sd : Sd) | ct (sd : Sd)
noncomputable def OutP (K : W.Frag) (D0 : Ends) : Out → Io → Hp → Prop
  | .nx sd', ι', H' => ∀ σ', LRel K ι' H' sd' σ' → D0.nx σ' H'
  | .rt d, ι', H' => ∀ v, Rel K ι' H' d v → D0.rt v H'
  | .bk sd', ι', H' => ∀ σ', LRel K ι' H' sd' σ' → D0.bk σ' H'
  | .ct sd', ι', H' => ∀ σ', LRel K ι' H' sd' σ' → D0.ct σ' H'
noncomputable def toTS (K : W.Frag) (E : XE) (G : Sd → M Out) : TS := fun D0 σ H => ∃ ι h sd, LRel K ι H sd σ ∧ HRel K ι H h ∧ Fin K E ι H (G sd h) (OutP K D0)
noncomputable abbrev SS (X : Cx) (E : XE) (st : Stmt) (G : Sd → M Out) : Prop := PS X st (toTS X.K E G)
noncomputable abbrev SSs (X : Cx) (E : XE) (st : List Stmt) (G : Sd → M Out) : Prop := PSs X st (toTS X.K E G)
noncomputable def andThen (o : Out) (g : Sd → M Out) : M Out := match o with
  | .nx sd => g sd
  | o => pure o
section
variable {X : Cx} {E : XE} {pos : Pos}
theorem ss_nil : SSs X E [] (fun sd => pure (.nx sd)) := PSs.imp pss_nil fun D0 σ H ⟨ι, h, sd, L, hh, q⟩ => Fin.out hh q σ L
theorem ss_cons {st : Stmt} {rest : List Stmt} {g g' : Sd → M Out} (h1 : SS X E st g) (h2 : SSs X E rest g') : SSs X E (st :: rest) (fun sd => do let o ← g sd; andThen o g') := by
  refine PSs.imp (pss_cons h1 h2) fun D0 σ H ⟨ι, h, sd, L, hh, q⟩ => ⟨ι, h, sd, L, hh, Fin.bind q fun o h1 ι1 H1 e1 s1 hr1 q1 => ?_⟩
  cases o with
  | nx sd' => exact fun σ' L' => ⟨ι1, h1, sd', L', hr1, q1⟩
  | rt d => exact Fin.out (E := E) (P := OutP X.K D0) hr1 q1
  | bk sd' => exact Fin.out (E := E) (P := OutP X.K D0) hr1 q1
  | ct sd' => exact Fin.out (E := E) (P := OutP X.K D0) hr1 q1
theorem ss_one {st : Stmt} {g : Sd → M Out} (h1 : SS X E st g) : SSs X E [st] g := pss_one h1
theorem s_expr {e : Expr} {f : Sd → M D} (he : SE X E e f) (hs : swapsWith e none pos.line X.env = pure false := by rfl) : SS X E (.Expr e pos) (fun sd => do let _ ← f sd; pure (.nx sd)) := by
  refine PS.imp (ps_expr he hs) fun D0 σ H ⟨ι, h, sd, L, hh, q⟩ => ⟨ι, h, sd, L, hh, Fin.bind q fun d h1 ι1 H1 e1 s1 hr1 q1 v rv => ?_⟩
  exact Fin.out hr1 q1 σ (L.step s1)
theorem s_ret {e : Expr} {f : Sd → M D} (he : SE X E e f) : SS X E (.Return (some e) pos) (fun sd => do let d ← f sd; pure (.rt d)) := by
  refine PS.imp (ps_ret he) fun D0 σ H ⟨ι, h, sd, L, hh, q⟩ => ⟨ι, h, sd, L, hh, Fin.bind q fun d h1 ι1 H1 e1 s1 hr1 q1 v rv => ?_⟩
  exact Fin.out hr1 q1 v rv
theorem s_if {c : Expr} {a b : List Stmt} {t : Sd → M Bool} {g g' : Sd → M Out} (hc : ST X E c t) (ha : SSs X E a g) (hb : SSs X E b g') : SS X E (.If c a b pos) (fun sd => do let c ← t sd; if c = true then g sd else g' sd) := by
  refine PS.imp (ps_if hc ha hb) fun D0 σ H ⟨ι, h, sd, L, hh, q⟩ => ⟨ι, h, sd, L, hh, Fin.bind q fun c h1 ι1 H1 e1 s1 hr1 q1 => ?_⟩
  cases c with
  | true => exact iteT ⟨ι1, h1, sd, L.step s1, hr1, q1⟩
  | false => exact iteF ⟨ι1, h1, sd, L.step s1, hr1, q1⟩
noncomputable def toTG (K : W.Frag) (E : XE) (g : D → Sd → M Sd) : TG := fun v σ H Q => ∃ ι h sd d, LRel K ι H sd σ ∧ HRel K ι H h ∧ Rel K ι H d v ∧ Fin K E ι H (g d sd h) fun sd' ι' H' => ∀ σ', LRel K ι' H' sd' σ' → Q σ' H'
noncomputable def toTGs (K : W.Frag) (E : XE) (g : List D → Sd → M Sd) : TGs := fun vs σ H Q => ∃ ι h sd ds, LRel K ι H sd σ ∧ HRel K ι H h ∧ RelL K ι H ds vs ∧ Fin K E ι H (g ds sd h) fun sd' ι' H' => ∀ σ', LRel K ι' H' sd' σ' → Q σ' H'
noncomputable abbrev SG (X : Cx) (E : XE) (tg : Expr) (g : D → Sd → M Sd) : Prop := PG X tg (toTG X.K E g)
noncomputable abbrev SGs (X : Cx) (E : XE) (tgs : List Expr) (g : List D → Sd → M Sd) : Prop := PGs X tgs (toTGs X.K E g)
noncomputable def gSet (i : Nat) : D → Sd → M Sd := fun d sd => pure (sd.set i (some d))
theorem sg_name (i : Nat) {x : Str} (hN : X.N.Nodup) (hi : X.N[i]? = some x) (hx : Loc X.env.scope x) (hf : X.fn x = true ∨ X.env.scope.names.lookup x = some .local) : SG X E (.Name x pos) (gSet i) := by
  refine PG.imp (pg_name hN hi hx hf) fun v σ H Q ⟨ι, h, sd, d, L, hh, r, q⟩ => ?_
  exact Fin.out hh q _ (L.set r i)
theorem PGs.imp {tgs : List Expr} {t t' : TGs} (h : PGs X tgs t) (m : ∀ v σ H Q, t' v σ H Q → t v σ H Q) : PGs X tgs t' := fun pins s σ H v u Q I r q => h pins s σ H v u Q I r (m _ _ _ _ q)
noncomputable def gsNil : List D → Sd → M Sd := fun ds sd => match ds with | [] => pure sd | _ => M.bad
noncomputable def gsCons (g : D → Sd → M Sd) (gs : List D → Sd → M Sd) : List D → Sd → M Sd := fun ds sd => match ds with
  | [] => M.bad
  | d :: r => do let sd1 ← g d sd; gs r sd1
theorem sgs_nil : SGs X E [] gsNil := by
  refine PGs.imp pgs_nil fun v σ H Q ⟨ι, h, sd, ds, L, hh, r, q⟩ => ?_
  cases ds with
  | nil => simp only [RelL] at r; exact ⟨r, Fin.out hh q _ L⟩
  | cons d r => exact False.elim q
theorem sgs_cons {e : Expr} {es : List Expr} {g : D → Sd → M Sd} {gs : List D → Sd → M Sd} (h1 : SG X E e g) (h2 : SGs X E es gs)
    (hs : (assignEach (e :: es) X.env).map (·.2) = assign e X.env :: (assignEach es X.env).map (·.2) := by rfl) : SGs X E (e :: es) (gsCons g gs) := by
  refine PGs.imp (pgs_cons h1 h2 hs) fun v σ H Q ⟨ι, h, sd, ds, L, hh, r, q⟩ => ?_
  cases ds with
  | nil => exact False.elim q
  | cons d ds =>
    simp only [RelL] at r
    obtain ⟨v1, vr, rfl, r1, r2⟩ := r
    refine ⟨v1, vr, rfl, ι, h, sd, d, L, hh, r1, Fin.bind q fun sd1 h1 ι1 H1 e1 s1 hr1 q1 σ1 L1 => ?_⟩
    exact ⟨ι1, h1, sd1, ds, L1, hr1, r2.step s1, q1⟩
noncomputable def gTupD (n : Nat) (gs : List D → Sd → M Sd) : D → Sd → M Sd := fun d sd => match d with
  | .tup ds => if ds.length = n then gs ds sd else M.bad
  | _ => M.bad
theorem relSqT {K : W.Frag} {ι : Io} {H : Hp} {ds : List D} {v : V} (h : Rel K ι H (.tup ds) v) : ∃ a vs, v = .ref a ∧ SqT K H a vs ∧ RelL K ι H ds vs := by
  simp only [Rel] at h
  obtain ⟨a, vs, e, h1, h2⟩ := h
  exact ⟨a, vs, e, .inl (.inl h1.1), h2⟩
theorem relSqS {K : W.Frag} {ι : Io} {H : Hp} {ds : List D} {v : V} (h : Rel K ι H (.scr ds) v) : ∃ a vs, v = .ref a ∧ SqL K H a vs ∧ RelL K ι H ds vs := by
  simp only [Rel] at h
  obtain ⟨a, vs, e, h1, h2⟩ := h
  refine ⟨a, vs, e, ?_, h2⟩
  rcases h1 with h1 | h1
  · exact .inl h1.1
  · rcases h1 with h1 | h1
    · rcases h1 with h1 | ⟨o, h1⟩ <;> cases h1
    · exact .inr h1
theorem relSqL {K : W.Frag} {ι : Io} {H : Hp} {ds : List D} {v : V} (h : Rel K ι H (.lst ds) v) : ∃ a vs, v = .ref a ∧ SqL K H a vs ∧ RelL K ι H ds vs := by
  simp only [Rel] at h
  obtain ⟨a, vs, e, h1, h2⟩ := h
  exact ⟨a, vs, e, .inl (.inl h1.1), h2⟩
theorem sg_tup {es : List Expr} {k : Nat} {gs : List D → Sd → M Sd} {n : Nat} (hc : X.calm = true) (h : SGs X E es gs)
    (hn : (assignEach es X.env).length = n := by rfl) (hst : (assignEach es X.env).findIdx? (·.1) = none := by rfl) : SG X E (.Tuple es k pos) (gTupD n gs) := by
  refine PG.imp (pg_tup hc h hn hst) fun v σ H Q ⟨ι, h, sd, d, L, hh, r, q⟩ => ?_
  cases d with
  | tup ds =>
    obtain ⟨a, vs, e, h1, h2⟩ := relSqT r
    have q : Fin X.K E ι H ((if ds.length = n then gs ds sd else M.bad) h) _ := q
    by_cases hl : ds.length = n
    · rw [if_pos hl] at q
      exact ⟨a, vs, e, h1, by rw [← h2.length]; exact hl, ι, h, sd, ds, L, hh, h2, q⟩
    · rw [if_neg hl] at q
      exact False.elim q
  | _ => exact False.elim q
theorem s_asg {tg e : Expr} {f : Sd → M D} {g : D → Sd → M Sd} (he : SE X E e f) (hg : SG X E tg g) (hs : swapsWithSole [tg] e pos.line X.env = pure false := by rfl) (hw : swappedStores [tg] e X.env = pure none := by rfl)
    (h1 : (assignEach [tg] X.env).map (·.2) = [assign tg X.env] := by rfl) : SS X E (.Assign [tg] e pos) (fun sd => do let d ← f sd; let sd' ← g d sd; pure (.nx sd')) := by
  refine PS.imp (ps_asg he hg hs hw h1) fun D0 σ H ⟨ι, h, sd, L, hh, q⟩ => ⟨ι, h, sd, L, hh, Fin.bind q fun d h1 ι1 H1 e1 s1 hr1 q1 v rv => ?_⟩
  exact ⟨ι1, h1, sd, d, L.step s1, hr1, rv, Fin.bind q1 fun sd' h2 ι2 H2 e2 s2 hr2 q2 => Fin.out hr2 q2⟩
theorem s_set (i : Nat) {x : Str} {e : Expr} {f : Sd → M D} {pos' : Pos} (hN : X.N.Nodup) (hi : X.N[i]? = some x) (hx : Loc X.env.scope x) (hf : X.fn x = true ∨ X.env.scope.names.lookup x = some .local) (he : SE X E e f) (hs : swapsWith e (some (.Name x pos')) pos.line X.env = pure false := by rfl) :
    SS X E (.Assign [.Name x pos'] e pos) (fun sd => do let d ← f sd; pure (.nx (sd.set i (some d)))) := by
  refine PS.imp (ps_set hN hi hx he hs hf) fun D0 σ H ⟨ι, h, sd, L, hh, q⟩ => ⟨ι, h, sd, L, hh, Fin.bind q fun d h1 ι1 H1 e1 s1 hr1 q1 v rv => ?_⟩
  exact Fin.out hr1 q1 _ ((L.step s1).set rv i)
noncomputable def Grow (H H2 : Hp) : Prop := H2 = H ∨ ∃ q vs, H q = none ∧ H2 = upd H q (.tup vs)
theorem Grow.step {K : W.Frag} {ι : Io} {H H2 : Hp} {h : Hh} (g : Grow H H2) (hr : HRel K ι H h) : Step ι H ι H2 ∧ HRel K ι H2 h := by
  rcases g with e | ⟨q, vs, hq, e⟩
  · subst e; exact ⟨Step.refl _ _, hr⟩
  · subst e; exact ⟨hr.laidS hq, hr.laid hq⟩
structure ItOk (K : W.Frag) (ι : Io) (H : Hp) (J : It) (ds : List D) : Prop where
  go : ∀ ι' H' (i : Nat), Pass ι H ι' H' → i < ds.length → J.go i H'
  yld : ∀ ι' H' h (i : Nat) x H2, Pass ι H ι' H' → HRel K ι' H' h → i < ds.length → J.yld i H' x H2 → Grow H' H2 ∧ ∃ d, ds[i]? = some d ∧ Rel K ι' H2 d x
  stop : ∀ ι' H', Pass ι H ι' H' → J.stop ds.length H'
noncomputable def toTI (K : W.Frag) (E : XE) (f : Sd → M (List D)) : TI := fun σ H Q => ∃ ι h sd, LRel K ι H sd σ ∧ HRel K ι H h ∧ Fin K E ι H (f sd h) fun ds ι' H' => ∀ J, ItOk K ι' H' J ds → Q J H'
noncomputable abbrev SI (X : Cx) (E : XE) (tg iter : Expr) (f : Sd → M (List D)) : Prop := PI X tg iter (toTI X.K E f)
noncomputable def dItems : D → M (List D)
  | .tup ds => pure ds
  | .lst ds => pure ds
  | _ => M.bad
theorem itOk_tup {K : W.Frag} {ι : Io} {H : Hp} {a : Addr} {vs : List V} {ds : List D} (h : ∀ ι' H', Pass ι H ι' H' → SqT K H' a vs) (rl : RelL K ι H ds vs) : ItOk K ι H (Itt K a) ds where
  go := fun ι' H' i s hi => ⟨vs, vs[i]'(by rw [← rl.length]; exact hi), h ι' H' s, by simp⟩
  yld := fun ι' H' _ i x H2 s _ hi ⟨e, y⟩ => by
    subst e
    have hx := y vs (h ι' _ s)
    obtain ⟨d, e1, e2⟩ := rl.getV hx
    exact ⟨.inl rfl, d, e1, e2.pass s⟩
  stop := fun ι' H' s => ⟨vs, h ι' H' s, by rw [rl.length]; exact Nat.le_refl _⟩
theorem itOk_lst {K : W.Frag} {ι : Io} {H : Hp} {a : Addr} {vs : List V} {ds : List D} (h : ∀ ι' H', Pass ι H ι' H' → SqL K H' a vs) (rl : RelL K ι H ds vs) : ItOk K ι H (Itl K a) ds where
  go := fun ι' H' i s hi => ⟨vs, vs[i]'(by rw [← rl.length]; exact hi), h ι' H' s, by simp⟩
  yld := fun ι' H' _ i x H2 s _ hi ⟨e, y⟩ => by
    subst e
    have hx := y vs (h ι' _ s)
    obtain ⟨d, e1, e2⟩ := rl.getV hx
    exact ⟨.inl rfl, d, e1, e2.pass s⟩
  stop := fun ι' H' s => ⟨vs, h ι' H' s, by rw [rl.length]; exact Nat.le_refl _⟩
theorem Pass.refl (ι : Io) (H : Hp) : Pass ι H ι H := (Step.refl ι H).pass
theorem stepSqT {K : W.Frag} {ι : Io} {H : Hp} {ds : List D} {v : V} (h : Rel K ι H (.tup ds) v) : ∃ a vs, v = .ref a ∧ (∀ ι' H', Pass ι H ι' H' → SqT K H' a vs) ∧ RelL K ι H ds vs := by
  simp only [Rel] at h
  obtain ⟨a, vs, e, h1, h2⟩ := h
  exact ⟨a, vs, e, fun ι' H' s => .inl (.inl (s.keep _ _ h1.1 h1.2).1), h2⟩
theorem stepSqL {K : W.Frag} {ι : Io} {H : Hp} {ds : List D} {v : V} (h : Rel K ι H (.lst ds) v) : ∃ a vs, v = .ref a ∧ (∀ ι' H', Pass ι H ι' H' → SqL K H' a vs) ∧ RelL K ι H ds vs := by
  simp only [Rel] at h
  obtain ⟨a, vs, e, h1, h2⟩ := h
  exact ⟨a, vs, e, fun ι' H' s => .inl (.inl (s.keep _ _ h1.1 h1.2).1), h2⟩
end
end L3
end
section
set_option maxHeartbeats 4000000
namespace L2
open PySem PySem.Spec PyProof.Rows
noncomputable def iSeq (K : W.Frag) (tl : TE) : TI := fun σ H R => tl σ H fun x H1 => ∃ a, x = .ref a ∧ (((∃ xs, SqL K H1 a xs) ∧ R (Itl K a) H1) ∨ ((∃ xs, SqT K H1 a xs) ∧ R (Itt K a) H1))
theorem pi_seq {X : Cx} {tg : Expr} {l : Expr} {tl : TE} (hl : PE X l tl) : PI X tg l (iSeq X.K tl) := by
  intro pins s σ H R I h
  refine thn (hl pins s σ H _ I h) fun v s1 ⟨x, H1, I1, r1, q1⟩ => ?_
  obtain ⟨a, e, ⟨⟨xs, hq⟩, q⟩ | ⟨⟨xs, hq⟩, q⟩⟩ := q1
  · subst e
    cases r1
    obtain ⟨its, rv, p, hz⟩ := I1.list hq
    refine wpAny_pyIter_list p.isList ?_
    refine ⟨s1.heap.objs.size, [s1.heap.objs.size], _, _, H1, rfl, I1.kept (t' := s1.toks) fun b o e => Heap.get?_push_of_some _ e, turn_list a _, ⟨_, Heap.get?_push_size _ rfl, rfl, rfl⟩, fun b hb => ?_, q⟩
    have e : b = s1.heap.objs.size := by simpa using hb
    subst e
    exact I1.fpOk (Nat.le_refl _) (I1.hok.fresh (Nat.le_refl _))
  · subst e
    cases r1
    obtain ⟨its, rv, p, hz⟩ := I1.tuple hq
    refine wpAny_pyIter_tuple (show s1.heap.IsTuple a its.toArray from p) ?_
    refine ⟨s1.heap.objs.size, [s1.heap.objs.size], _, _, H1, rfl, I1.kept (t' := s1.toks) fun b o e => Heap.get?_push_of_some _ e, turn_tuple a _, ⟨_, Heap.get?_push_size _ rfl, rfl, rfl⟩, fun b hb => ?_, q⟩
    have e : b = s1.heap.objs.size := by simpa using hb
    subst e
    exact I1.fpOk (Nat.le_refl _) (I1.hok.fresh (Nat.le_refl _))
end L2
namespace L3
open PySem PySem.Spec PyProof.Rows L2
section
variable {X : Cx} {E : XE} {pos : Pos}
theorem si_seq {tg e : Expr} {f : Sd → M D} (he : SE X E e f) : SI X E tg e (fun sd => do let d ← f sd; dItems d) := by
  refine PI.imp (pi_seq he) fun σ H Q ⟨ι, h, sd, L, hh, q⟩ => ⟨ι, h, sd, L, hh, Fin.bind q fun d h1 ι1 H1 e1 s1 hr1 q1 v rv => ?_⟩
  cases d with
  | lst ds =>
    obtain ⟨a, vs, e, h1', h2⟩ := stepSqL rv
    exact ⟨a, e, .inl ⟨⟨vs, h1' _ _ (Pass.refl _ _)⟩, Fin.out hr1 q1 _ (itOk_lst h1' h2)⟩⟩
  | tup ds =>
    obtain ⟨a, vs, e, h1', h2⟩ := stepSqT rv
    exact ⟨a, e, .inr ⟨⟨vs, h1' _ _ (Pass.refl _ _)⟩, Fin.out hr1 q1 _ (itOk_tup h1' h2)⟩⟩
  | _ => exact False.elim q1
noncomputable def rngD (lo : Int) (n : Nat) : List D := (List.range n).map fun (k : Nat) => D.int (lo + (k : Int))
theorem itOk_rng {K : W.Frag} {ι : Io} {H : Hp} {lo : Int} {n : Nat} : ItOk K ι H (Itr lo n) (rngD lo n) where
  go := fun ι' H' i s hi => by show i < n; simpa [rngD] using hi
  yld := fun ι' H' _ i x H2 s _ hi ⟨e, y⟩ => by
    subst e y
    have hi : i < n := by simpa [rngD] using hi
    refine ⟨.inl rfl, .int (lo + i), ?_, by simp [Rel]⟩
    simp [rngD, hi]
  stop := fun ι' H' s => by
    show n ≤ (rngD lo n).length
    simp [rngD]
noncomputable def small62 (j : Int) : Bool := decide (-(2 ^ 62) ≤ j) && decide (j < 2 ^ 62)
noncomputable def dRng1 : List D → M (List D)
  | [.int j] => if small62 j = true then pure (rngD 0 j.toNat) else M.bad
  | _ => M.bad
theorem small62_iff {j : Int} (h : small62 j = true) : -(2 ^ 62) ≤ j ∧ j < 2 ^ 62 := by
  unfold small62 at h
  simpa using h
theorem si_rng1 {tg a : Expr} {p : Pos} {fs : Sd → M (List D)} (hg : Gl X "range") (hm : X.mg "range" = none) (ha : SA X E [a] fs) (hs : starEach [a] X.env = [(false, eval a X.env)] := by rfl) :
    SI X E tg (.Call (.Name "range" p) [a] [] pos) (fun sd => do let ds ← fs sd; dRng1 ds) := by
  refine PI.imp (pi_range1 hg hm ha hs) fun σ H Q ⟨ι, h, sd, L, hh, q⟩ => ⟨ι, h, sd, L, hh, Fin.bind q fun ds h1 ι1 H1 e1 s1 hr1 q1 vs rv => ?_⟩
  match ds, rv, q1 with
  | [.int j], rv, q1 =>
    simp only [RelL, Rel] at rv
    obtain ⟨v, r, rfl, rfl, rfl⟩ := rv
    have q1 : Fin X.K E ι1 H1 ((if small62 j = true then (pure (rngD 0 j.toNat) : M (List D)) else M.bad) h1) _ := q1
    by_cases hj : small62 j = true
    · rw [if_pos hj] at q1
      exact ⟨j, rfl, (small62_iff hj).1, (small62_iff hj).2, Fin.out hr1 q1 _ itOk_rng⟩
    · rw [if_neg hj] at q1
      exact False.elim q1
  | [], _, q1 => exact False.elim q1
  | .non :: _, _, q1 => exact False.elim q1
  | .bl _ :: _, _, q1 => exact False.elim q1
  | .str _ :: _, _, q1 => exact False.elim q1
  | .tup _ :: _, _, q1 => exact False.elim q1
  | .lst _ :: _, _, q1 => exact False.elim q1
  | .cel _ :: _, _, q1 => exact False.elim q1
  | .set _ :: _, _, q1 => exact False.elim q1
  | .dct :: _, _, q1 => exact False.elim q1
  | .fn _ :: _, _, q1 => exact False.elim q1
  | .scr _ :: _, _, q1 => exact False.elim q1
  | .exn _ :: _, _, q1 => exact False.elim q1
  | .int _ :: _ :: _, _, q1 => exact False.elim q1
noncomputable def fLoop (body : D → Sd → M Out) : List D → Sd → M Out
  | [], sd => pure (.nx sd)
  | x :: r, sd => do
    let o ← body x sd
    match o with
    | .nx sd' => fLoop body r sd'
    | .ct sd' => fLoop body r sd'
    | .bk sd' => pure (.nx sd')
    | .rt d => pure (.rt d)
theorem s_for {tg iter : Expr} {body : List Stmt} {fi : Sd → M (List D)} {g : D → Sd → M Sd} {gb : Sd → M Out} (hc : X.calm = true) (hp : PassesOwn (model X.prog X.w) X.A X.env X.xe) (hi : SI X E tg iter fi) (hg : SG X E tg g) (hb : SSs X E body gb)
    (hs : ∀ x, foldedSetIterable iter X.env x = pure x := by intro _; rfl) : SS X E (.For tg iter body [] pos) (fun sd => do let ds ← fi sd; fLoop (fun x sd => do let sd1 ← g x sd; gb sd1) ds sd) := by
  refine PS.imp (ps_for hp hc hi hg hb hs) fun D0 σ H ⟨ι, h, sd, L, hh, q⟩ => ⟨ι, h, sd, L, hh, Fin.bind q fun ds h1 ι1 H1 e1 s1 hr1 q1 J ok => ?_⟩
  refine ⟨fun i m σ' H' => m = ds.length - i ∧ i ≤ ds.length ∧ ∃ ι' h' sd', Step ι1 H1 ι' H' ∧ LRel X.K ι' H' sd' σ' ∧ HRel X.K ι' H' h' ∧ Fin X.K E ι' H' (fLoop (fun x sd => do let sd1 ← g x sd; gb sd1) (ds.drop i) sd' h') (OutP X.K D0),
    ⟨_, rfl, Nat.zero_le _, ι1, h1, sd, Step.refl _ _, L.step s1, hr1, by simpa using q1⟩, ?_⟩
  rintro i m σ2 H2 ⟨rfl, hi2, ι2, h2, sd2, s2, L2, hr2, q2⟩
  by_cases hlt : i < ds.length
  · right
    refine ⟨ok.go ι2 H2 i s2.pass hlt, fun σ' H' => i + 1 ≤ ds.length ∧ ∃ ι' h' sd', Step ι1 H1 ι' H' ∧ LRel X.K ι' H' sd' σ' ∧ HRel X.K ι' H' h' ∧ Fin X.K E ι' H' (fLoop (fun x sd => do let sd1 ← g x sd; gb sd1) (ds.drop (i + 1)) sd' h') (OutP X.K D0),
      fun σ' H' p => ⟨ds.length - (i + 1), by omega, rfl, p.1, p.2⟩, fun x H3 y => ?_⟩
    obtain ⟨gr, d, ed, rd⟩ := ok.yld ι2 H2 h2 i x H3 s2.pass hr2 hlt y
    obtain ⟨s3, hr3⟩ := gr.step hr2
    have edr : ds.drop i = d :: ds.drop (i + 1) := by
      rw [List.drop_eq_getElem_cons hlt]
      rw [List.getElem?_eq_getElem hlt] at ed
      rw [Option.some.inj ed]
    rw [edr] at q2
    have q3 : Fin X.K E ι2 H3 (fLoop (fun x sd => do let sd1 ← g x sd; gb sd1) (d :: ds.drop (i + 1)) sd2 h2) (OutP X.K D0) := Fin.step s3 q2
    refine ⟨ι2, h2, sd2, d, L2.step s3, hr3, rd, ?_⟩
    have q5 : Fin X.K E ι2 H3 ((g d sd2 >>= fun sd1 => (gb sd1 >>= fun o => (match o with
      | .nx sd' => fLoop (fun x sd => do let sd1 ← g x sd; gb sd1) (ds.drop (i + 1)) sd'
      | .ct sd' => fLoop (fun x sd => do let sd1 ← g x sd; gb sd1) (ds.drop (i + 1)) sd'
      | .bk sd' => pure (.nx sd')
      | .rt d => pure (.rt d) : M Out))) h2) (OutP X.K D0) := by
      have e : (fLoop (fun x sd => do let sd1 ← g x sd; gb sd1) (d :: ds.drop (i + 1)) sd2 h2) = ((g d sd2 >>= fun sd1 => (gb sd1 >>= fun o => (match o with
        | .nx sd' => fLoop (fun x sd => do let sd1 ← g x sd; gb sd1) (ds.drop (i + 1)) sd'
        | .ct sd' => fLoop (fun x sd => do let sd1 ← g x sd; gb sd1) (ds.drop (i + 1)) sd'
        | .bk sd' => pure (.nx sd')
        | .rt d => pure (.rt d) : M Out))) h2) := by
        show M.bind (M.bind (g d sd2) gb) _ h2 = M.bind (g d sd2) _ h2
        unfold M.bind
        cases g d sd2 h2 <;> rfl
      rw [← e]
      exact q3
    refine Fin.bind q5 fun sd6 h6 ι6 H6 e6 s6 hr6 q6 σ6 L6 => ?_
    refine ⟨ι6, h6, sd6, L6, hr6, Fin.bind q6 fun o h7 ι7 H7 e7 s7 hr7 q7 => ?_⟩
    have st7 : Step ι1 H1 ι7 H7 := ((s2.trans s3).trans s6).trans s7
    cases o with
    | nx sd' => exact fun σ' L' => ⟨hlt, ι7, h7, sd', st7, L', hr7, q7⟩
    | ct sd' => exact fun σ' L' => ⟨hlt, ι7, h7, sd', st7, L', hr7, q7⟩
    | bk sd' => exact fun σ' L' => Fin.out (E := E) (P := OutP X.K D0) hr7 q7 σ' L'
    | rt d => exact fun v rv => Fin.out (E := E) (P := OutP X.K D0) hr7 q7 v rv
  · left
    have e : i = ds.length := by omega
    subst e
    refine ⟨ok.stop ι2 H2 s2.pass, ?_⟩
    rw [List.drop_length] at q2
    exact Fin.out (E := E) (P := OutP X.K D0) hr2 q2 σ2 L2
noncomputable def cLoop (f : D → M (Option D)) : List D → M (List D)
  | [] => pure []
  | x :: r => do
    let o ← f x
    let ys ← cLoop f r
    pure (match o with | some y => y :: ys | none => ys)
noncomputable def cTurn (g : D → Sd → M Sd) (tc : Sd → M Bool) (te : Sd → M D) (sd : Sd) (x : D) : M (Option D) := do
  let sd1 ← g x sd
  let c ← tc sd1
  if c = true then do
    let y ← te sd1
    pure (some y)
  else pure none
end
end L3
end
section
set_option maxHeartbeats 4000000
namespace L3
open PySem PySem.Spec PyProof.Rows L2
noncomputable def Io.hide (ι : Io) (p : Addr) : Io := ⟨ι.c, p :: ι.x⟩
noncomputable def Io.show (ι : Io) : Io := ⟨ι.c, ι.x.tail⟩
theorem has_show {ι : Io} {a : Addr} (h : ι.show.Has a) : ι.Has a := h.imp id List.mem_of_mem_tail
section
variable {K : W.Frag} {ι ι' : Io} {H H' : Hp} {p : Addr} {o : HO} {h : Hh}
theorem pass_hide (hp : H p = none) : Pass ι H (ι.hide p) (upd H p o) := ⟨fun _ _ z => .inl z, fun b o' hb n => ⟨by rw [upd_ne (ne_of_none hb hp)]; exact hb, fun z => by
  rcases z with z | z
  · exact n (.inl z)
  · rcases List.mem_cons.mp z with z | z
    · rw [z, hp] at hb; cases hb
    · exact n (.inr z)⟩⟩
theorem pass_show : Pass ι H ι.show H := ⟨fun _ _ z => .inl z, fun b o' hb n => ⟨hb, fun z => n (has_show z)⟩⟩
theorem pass_hid (hp : p ∈ ι.x) : Pass ι H ι (upd H p o) := ⟨fun _ _ z => .inl z, fun b o' hb n => ⟨by rw [upd_ne (show b ≠ p from fun z => n (.inr (z ▸ hp)))]; exact hb, n⟩⟩
theorem HRel.hide (hr : HRel K ι H h) (hp : H p = none) : HRel K (ι.hide p) (upd H p o) h :=
  ⟨hr.len, hr.inj, fun n a c h1 h2 => by
    obtain ⟨ds, vs, e1, e2, e3⟩ := hr.at_ n a c h1 h2
    exact ⟨ds, vs, e1, by rw [upd_ne (ne_of_none e2 hp)]; exact e2, e3.pass (pass_hide hp)⟩, hr.dead, fun a ha => by
    rcases List.mem_cons.mp ha with z | z
    · subst z; exact ⟨⟨o, upd_same⟩, fun z => hr.nin hp (.inl z)⟩
    · refine ⟨?_, (hr.hidt a z).2⟩
      rw [upd_ne (show a ≠ p from fun w => hr.nin hp (.inr (w ▸ z)))]
      exact (hr.hidt a z).1⟩
theorem HRel.hid (hr : HRel K ι H h) (hp : p ∈ ι.x) : HRel K ι (upd H p o) h :=
  ⟨hr.len, hr.inj, fun n a c h1 h2 => by
    obtain ⟨ds, vs, e1, e2, e3⟩ := hr.at_ n a c h1 h2
    have ne : a ≠ p := fun z => (hr.hidt p hp).2 (z ▸ List.mem_of_getElem? h1)
    exact ⟨ds, vs, e1, by rw [upd_ne ne]; exact e2, e3.pass (pass_hid hp)⟩, hr.dead, fun a ha => by
    refine ⟨?_, (hr.hidt a ha).2⟩
    by_cases z : a = p
    · subst z; exact ⟨o, upd_same⟩
    · rw [upd_ne z]; exact (hr.hidt a ha).1⟩
theorem HRel.show (hr : HRel K ι H h) : HRel K ι.show H h :=
  ⟨hr.len, hr.inj, fun n a c h1 h2 => by
    obtain ⟨ds, vs, e1, e2, e3⟩ := hr.at_ n a c h1 h2
    exact ⟨ds, vs, e1, e2, e3.pass pass_show⟩, hr.dead, fun a ha => hr.hidt a (List.mem_of_mem_tail ha)⟩
theorem step_turn {ι1 ι2 : Io} {H1 H2 : Hp} (hp : H p = none) (hpx : p ∉ ι.x) (hx : ι1.x = p :: ι.x) (s : Step ι H ι1.show H1) (t : Step ι1 H1 ι2 H2) : Step ι H ι2.show (upd H2 p o) where
  old := fun n q h => by
    rcases s.old n q h with h | h
    · exact t.old n q h
    · rcases t.old n _ h with h | h <;> exact .inr h
  new := fun a h => by
    rcases t.new a h with h | h
    · exact s.new a h
    · by_cases z : some a ∈ ι.c
      · exact .inl z
      · refine .inr ?_
        cases q : H a with
        | none => rfl
        | some o =>
          by_cases z' : a ∈ ι.x
          · rw [s.hidk a z', q] at h; cases h
          · rw [s.keep a o q (fun w => w.elim z z')] at h; cases h
  hid := by
    show ι2.x.tail = ι.x
    rw [t.hid, hx]
    rfl
  hidk := fun a ha => by
    have z : a ≠ p := fun z => hpx (z ▸ ha)
    rw [upd_ne z, t.hidk a (by rw [hx]; exact List.mem_cons_of_mem _ ha)]
    exact s.hidk a ha
  keep := fun b q hb n => by
    have ne : b ≠ p := ne_of_none hb hp
    rw [upd_ne ne]
    refine t.keep b q (s.keep b q hb n) fun z => ?_
    rcases z with z | z
    · rcases s.new b z with z | z
      · exact n (.inl z)
      · rw [hb] at z; cases z
    · rw [hx] at z
      rcases List.mem_cons.mp z with z | z
      · exact ne z
      · exact n (.inr z)
theorem Step.shown {ι2 : Io} {H2 : Hp} {r : List Addr} (hx : ι.x = p :: r) (t : Step ι H ι2 H2) : Step ι.show H ι2.show H2 where
  old := t.old
  new := t.new
  hid := by show ι2.x.tail = ι.x.tail; rw [t.hid]
  hidk := fun a ha => t.hidk a (List.mem_of_mem_tail ha)
  keep := fun b q hb n => by
    by_cases z : b = p
    · subst z
      rw [t.hidk b (by rw [hx]; exact List.mem_cons_self)]
      exact hb
    · refine t.keep b q hb fun w => ?_
      rcases w with w | w
      · exact n (.inl w)
      · rw [hx] at w
        rcases List.mem_cons.mp w with w | w
        · exact z w
        · exact n (.inr (by show b ∈ ι.x.tail; rw [hx]; exact w))
theorem Fin.bindB {α β : Type} {E : XE} {m : M α} {f : α → M β} {P : β → Io → Hp → Prop} {P' : α → Io → Hp → Prop} {ιb : Io} {Hb : Hp} (q : Fin K E ιb Hb ((m >>= f) h) P)
    (conv : ∀ ι' H' h', Step ι H ι' H' → HRel K ι' H' h' → ∃ ι'', Step ιb Hb ι'' H' ∧ HRel K ι'' H' h')
    (k : ∀ a h' ι' H', m h = .ok a h' → Step ι H ι' H' → HRel K ι' H' h' → Fin K E ιb Hb (f a h') P → P' a ι' H') : Fin K E ι H (m h) P' := by
  have q' : Fin K E ιb Hb (M.bind m f h) P := q
  unfold M.bind at q'
  cases e : m h with
  | ok a h' =>
    rw [e] at q'
    intro ι' H' s hr
    exact k a h' ι' H' e s hr q'
  | exc c h' =>
    rw [e] at q'
    intro ι' H' s hr
    obtain ⟨ι'', s2, hr2⟩ := conv ι' H' h' s hr
    exact q' _ _ s2 hr2
  | bad => rw [e] at q'; exact q'
end
noncomputable instance : LawfulMonad M := LawfulMonad.mk' M
  (id_map := fun x => by
    funext h
    show M.bind x (fun a => M.pure (id a)) h = x h
    unfold M.bind M.pure
    cases x h <;> rfl)
  (pure_bind := fun x f => rfl)
  (bind_assoc := fun x f g => by
    funext h
    show M.bind (M.bind x f) g h = M.bind x (fun a => M.bind (f a) g) h
    unfold M.bind
    cases x h <;> rfl)
noncomputable def bStartD (src : List (Option Nat)) (sd : Sd) : Sd := src.map fun o => o.bind fun i => (sd[i]?).join
theorem LRel.bStart {K : W.Frag} {ι : Io} {H : Hp} {sd : Sd} {σ : L2.St} {src : List (Option Nat)} (h : LRel K ι H sd σ) : LRel K ι H (bStartD src sd) (bStart src σ) := by
  refine ⟨by unfold bStartD L2.bStart; rw [List.length_map, List.length_map], fun i d e => ?_⟩
  unfold bStartD at e
  unfold L2.bStart
  rw [List.getElem?_map] at e ⊢
  cases z : src[i]? with
  | none => rw [z] at e; cases e
  | some o =>
    rw [z] at e
    cases o with
    | none => cases e
    | some j =>
      have e : (sd[j]?).join = some d := by simpa using e
      cases w : sd[j]? with
      | none => rw [w] at e; cases e
      | some q =>
        rw [w] at e
        have e : q = some d := by simpa using e
        subst e
        obtain ⟨v, h1, h2⟩ := h.2 j d w
        exact ⟨v, by simp [h1], h2⟩
noncomputable def GKeeps (g : D → Sd → M Sd) (src : List (Option Nat)) : Prop := ∀ x sd h sd1 h1, sd.length = src.length → (∀ (i : Nat), src[i]? = some none → sd[i]? = some none) → g x sd h = .ok sd1 h1 → sd1.length = sd.length ∧ ∀ (i : Nat) d, src[i]? ≠ some none → sd[i]? = some (some d) → sd1[i]? = some (some d)
noncomputable def GsKeeps (g : List D → Sd → M Sd) (src : List (Option Nat)) : Prop := ∀ x sd h sd1 h1, g x sd h = .ok sd1 h1 → sd1.length = sd.length ∧ ∀ (i : Nat) d, src[i]? ≠ some none → sd[i]? = some (some d) → sd1[i]? = some (some d)
theorem keeps_set {i : Nat} {src : List (Option Nat)} (h : src[i]? = some none) : ∀ x sd h sd1 h1, gSet i x sd h = .ok sd1 h1 → sd1.length = sd.length ∧ ∀ (j : Nat) d, src[j]? ≠ some none → sd[j]? = some (some d) → sd1[j]? = some (some d) := fun x sd h0 sd1 h1 e => by
  have e : R.ok (sd.set i (some x)) h0 = .ok sd1 h1 := e
  cases e
  refine ⟨List.length_set, fun j d hj e => ?_⟩
  rw [List.getElem?_set_ne (show i ≠ j from fun z => hj (z ▸ h))]
  exact e
theorem GKeeps.name {i : Nat} {src : List (Option Nat)} (h : src[i]? = some none) : GKeeps (gSet i) src := fun x sd h0 sd1 h1 _ _ e => keeps_set h x sd h0 sd1 h1 e
theorem GsKeeps.nil {src : List (Option Nat)} : GsKeeps gsNil src := fun x sd h sd1 h1 e => by
  cases x with
  | nil =>
    have e : R.ok sd h = .ok sd1 h1 := e
    cases e
    exact ⟨rfl, fun _ _ _ z => z⟩
  | cons _ _ => cases (show R.bad = R.ok sd1 h1 from e)
theorem GsKeeps.cons {i : Nat} {gs : List D → Sd → M Sd} {src : List (Option Nat)} (h : src[i]? = some none) (t : GsKeeps gs src) : GsKeeps (gsCons (gSet i) gs) src := fun x sd h0 sd1 h1 e => by
  cases x with
  | nil => cases (show R.bad = R.ok sd1 h1 from e)
  | cons d r =>
    have e : gs r (sd.set i (some d)) h0 = .ok sd1 h1 := e
    obtain ⟨e1, e2⟩ := t r _ h0 sd1 h1 e
    refine ⟨by rw [e1, List.length_set], fun j d' hj z => e2 j d' hj ?_⟩
    rw [List.getElem?_set_ne (show i ≠ j from fun z => hj (z ▸ h))]
    exact z
theorem GKeeps.tup {n : Nat} {gs : List D → Sd → M Sd} {src : List (Option Nat)} (t : GsKeeps gs src) : GKeeps (gTupD n gs) src := fun x sd h0 sd1 h1 _ _ e => by
  cases x with
  | tup ds =>
    have e : (if ds.length = n then gs ds sd else M.bad) h0 = .ok sd1 h1 := e
    by_cases hl : ds.length = n
    · rw [if_pos hl] at e; exact t _ _ _ _ _ e
    · rw [if_neg hl] at e; cases (show R.bad = R.ok sd1 h1 from e)
  | _ => cases (show R.bad = R.ok sd1 h1 from e)
section
variable {X : Cx} {E : XE} {scope : Scope} {N : List Str} {src : List (Option Nat)} {tg iter elt : Expr} {ifs : List Expr} {pos : Pos}
noncomputable abbrev SCs (X : Cx) (E : XE) (ifs : List Expr) (t : Sd → M Bool) : Prop := PCs X ifs (toTT X.K E t)
theorem sc_nil : SCs X E [] (fun _ => pure true) := fun pins s σ H Q I ⟨ι, h, sd, L, hh, q⟩ => pcs_nil pins s σ H Q I (Fin.out hh q)
theorem sc_one {c : Expr} {t : Sd → M Bool} (h : ST X E c t) : SCs X E [c] t := pcs_one h
theorem blk {K : W.Frag} {g : D → Sd → M Sd} {tc : Sd → M Bool} {te : Sd → M D} {J : It} {ds : List D} {ι : Io} {H : Hp} {h : Hh} {sd : Sd} {σ : L2.St} {Q : VK} {p : Addr} (hk : GKeeps g src) (L : LRel K ι H sd σ) (hr : HRel K ι H h) (ok : ItOk K ι H J ds) (hz : ds.length ≤ sizeLine)
    (q : Fin K E ι H ((do let ys ← cLoop (cTurn g tc te (bStartD src sd)) ds; pure (D.lst ys)) h) fun d ι' H' => ∀ v, Rel K ι' H' d v → Q v H') (hp : H p = none) :
    tBlk J (toTG K E g) (toTT K E tc) (toTE K E te) (bStart src σ) H p fun H' => Q (.ref p) H' := by
  generalize hP : (fun (d : D) (ι' : Io) (H' : Hp) => ∀ v, Rel K ι' H' d v → Q v H') = P at q
  generalize hf : cTurn g tc te (bStartD src sd) = f at q
  have hpx : p ∉ ι.x := fun z => hr.nin hp (.inr z)
  have h0len : (bStartD src sd).length = src.length := by unfold bStartD; rw [List.length_map]
  have h0non : ∀ (i : Nat), src[i]? = some none → (bStartD src sd)[i]? = some none := fun i e => by unfold bStartD; rw [List.getElem?_map, e]; rfl
  refine ⟨fun i m σ' H' => m = ds.length - i ∧ i ≤ ds.length ∧ ∃ ι' h' done vs, ι'.x = p :: ι.x ∧ Step ι H ι'.show H' ∧ LRel K ι' H' (bStartD src sd) σ' ∧ HRel K ι' H' h' ∧ H' p = some (.lst vs) ∧ RelL K ι' H' done vs ∧ done.length ≤ i ∧
      Fin K E ι H ((do let ys ← cLoop f (ds.drop i); pure (D.lst (done ++ ys))) h') P,
    ⟨_, rfl, Nat.zero_le _, ι.hide p, h, [], [], rfl, ?_, L.bStart.pass (pass_hide hp), hr.hide hp, upd_same, RelL.nil, Nat.le_refl _, ?_⟩, ?_⟩
  · have := hr.laidS (o := .lst []) hp
    exact ⟨this.old, this.new, this.hid, this.hidk, this.keep⟩
  · simpa using q
  rintro i m σ2 H2 ⟨rfl, hi2, ι2, h2, done, vs, hx2, s2, L2, hr2, e2, rl2, dl2, q2⟩
  have ps2 : Pass ι H ι2 H2 := ⟨s2.old, fun b o hb n => ⟨s2.keep b o hb n, fun z => by
    rcases z with z | z
    · exact s2.nin hb n (.inl z)
    · rw [hx2] at z
      rcases List.mem_cons.mp z with z | z
      · rw [z, hp] at hb; cases hb
      · exact n (.inr z)⟩⟩
  have hp2 : p ∈ ι2.x := by rw [hx2]; exact List.mem_cons_self
  have base : ∀ {ι' : Io} {H' : Hp}, Step ι2 H2 ι' H' → Step ι H ι'.show H' := fun t => s2.trans (t.shown hx2)
  by_cases hlt : i < ds.length
  · right
    refine ⟨ok.go ι2 H2 i ps2 hlt, fun σ' H' => i + 1 ≤ ds.length ∧ ∃ ι' h' done vs, ι'.x = p :: ι.x ∧ Step ι H ι'.show H' ∧ LRel K ι' H' (bStartD src sd) σ' ∧ HRel K ι' H' h' ∧ H' p = some (.lst vs) ∧ RelL K ι' H' done vs ∧ done.length ≤ i + 1 ∧
      Fin K E ι H ((do let ys ← cLoop f (ds.drop (i + 1)); pure (D.lst (done ++ ys))) h') P, fun σ' H' z => ⟨ds.length - (i + 1), by omega, rfl, z.1, z.2⟩, fun x H3 y => ?_⟩
    obtain ⟨gr, d, ed, rd⟩ := ok.yld ι2 H2 h2 i x H3 ps2 hr2 hlt y
    obtain ⟨s3, hr3⟩ := gr.step hr2
    have edr : ds.drop i = d :: ds.drop (i + 1) := by
      rw [List.drop_eq_getElem_cons hlt]
      rw [List.getElem?_eq_getElem hlt] at ed
      rw [Option.some.inj ed]
    rw [edr] at q2
    have q3 := q2
    have st3 : Step ι2 H2 ι2 H3 := s3
    have e3 : H3 p = some (.lst vs) := by rw [s3.hidk p hp2]; exact e2
    have eq1 : (do let ys ← cLoop f (d :: ds.drop (i + 1)); pure (D.lst (done ++ ys)) : M D) = (g d (bStartD src sd) >>= fun sd1 => tc sd1 >>= fun c => if c = true then (te sd1 >>= fun y => cLoop f (ds.drop (i + 1)) >>= fun ys => pure (D.lst (done ++ [y] ++ ys))) else (cLoop f (ds.drop (i + 1)) >>= fun ys => pure (D.lst (done ++ ys)))) := by
      rw [cLoop]
      rw [← hf]
      simp only [cTurn, bind_assoc]
      refine congrArg _ (funext fun sd1 => ?_)
      refine congrArg _ (funext fun c => ?_)
      cases c with
      | true => simp only [if_true, bind_assoc, pure_bind, List.append_assoc, List.cons_append, List.nil_append]
      | false => simp only [Bool.false_eq_true, if_false, pure_bind]
    rw [eq1] at q3
    refine ⟨ι2, h2, bStartD src sd, d, L2.step s3, hr3, rd, ?_⟩
    refine Fin.bindB q3 (fun ι' H' h' s hr' => ⟨ι'.show, base (s3.trans s), hr'.show⟩) fun sd4 h4 ι4 H4 e4 s4 hr4 q4 σ4 L4 => ?_
    have hx4 : ι4.x = p :: ι.x := by rw [s4.hid]; exact hx2
    obtain ⟨k1, k2⟩ := hk d _ h2 sd4 h4 h0len h0non e4
    refine ⟨ι4, h4, sd4, L4, hr4, Fin.bindB q4 (fun ι' H' h' s hr' => ⟨ι'.show, base ((s3.trans s4).trans s), hr'.show⟩) fun c h5 ι5 H5 e5 s5 hr5 q5 => ?_⟩
    have hx5 : ι5.x = p :: ι.x := by rw [s5.hid]; exact hx4
    have sub : ∀ {ι' : Io} {H' : Hp}, LRel K ι' H' sd4 σ4 → LRel K ι' H' (bStartD src sd) σ4 := fun {ι' H'} z => ⟨by rw [← k1]; exact z.1, fun j d' e => z.2 j d' (k2 j d' (fun w => by rw [h0non j w] at e; cases e) e)⟩
    have st5 : Step ι2 H2 ι5 H5 := (s3.trans s4).trans s5
    cases c with
    | false =>
      exact iteF ⟨hlt, ι5, h5, done, vs, hx5, base st5, sub (L4.step s5), hr5, by rw [st5.hidk p hp2]; exact e2, rl2.step st5, Nat.le_succ_of_le dl2, q5⟩
    | true =>
      refine iteT ⟨ι5, h5, sd4, L4.step s5, hr5, Fin.bindB q5 (fun ι' H' h' s hr' => ⟨ι'.show, base (st5.trans s), hr'.show⟩) fun yd h6 ι6 H6 e6 s6 hr6 q6 y ry => ?_⟩
      have st6 : Step ι2 H2 ι6 H6 := st5.trans s6
      have hx6 : ι6.x = p :: ι.x := by rw [s6.hid]; exact hx5
      have hp6 : p ∈ ι6.x := by rw [hx6]; exact List.mem_cons_self
      have e6' : H6 p = some (.lst vs) := by rw [st6.hidk p hp2]; exact e2
      refine ⟨vs, e6', by rw [← rl2.length]; omega, hlt, ι6, h6, done ++ [yd], vs ++ [y], hx6, step_turn hp hpx hx2 s2 st6, ?_, hr6.hid hp6, upd_same, ?_, ?_, ?_⟩
      · exact ((sub (L4.step s5)).step s6).pass (pass_hid hp6)
      · exact ((rl2.step st6).append (RelL.cons ry RelL.nil)).pass (pass_hid hp6)
      · rw [List.length_append, List.length_singleton]; omega
      · exact q6
  · left
    have e : i = ds.length := by omega
    subst e
    refine ⟨ok.stop ι2 H2 ps2, ?_⟩
    rw [List.drop_length] at q2
    have q3 : P (.lst done) ι2.show H2 := by
      have : Fin K E ι H ((pure (D.lst (done ++ [])) : M D) h2) P := q2
      rw [List.append_nil] at this
      exact this _ _ s2 hr2.show
    rw [← hP] at q3
    refine q3 (.ref p) ?_
    simp only [Rel]
    refine ⟨p, vs, rfl, ⟨e2, fun z => ?_⟩, rl2.pass pass_show⟩
    rcases z with z | z
    · exact (hr2.hidt p (by rw [hx2]; exact List.mem_cons_self)).2 z
    · exact hpx (by have z : p ∈ ι2.x.tail := z; rw [hx2] at z; exact z)
noncomputable def dComp (fi : Sd → M (List D)) (g : D → Sd → M Sd) (tc : Sd → M Bool) (te : Sd → M D) (src : List (Option Nat)) : Sd → M D := fun sd => do
  let ds ← fi sd
  fits ds.length
  let ys ← cLoop (cTurn g tc te (bStartD src sd)) ds
  pure (D.lst ys)
theorem te_comp {K : W.Frag} {fi : Sd → M (List D)} {g : D → Sd → M Sd} {tc : Sd → M Bool} {te : Sd → M D} (hk : GKeeps g src) (σ : L2.St) (H : Hp) (Q : VK) (q : toTE K E (dComp fi g tc te src) σ H Q) :
    tComp (toTI K E fi) (toTG K E g) (toTT K E tc) (toTE K E te) src σ H Q := by
  obtain ⟨ι, h, sd, L, hh, q⟩ := q
  refine ⟨ι, h, sd, L, hh, Fin.bind q fun ds h1 ι1 H1 e1 s1 hr1 q1 J ok p hp => ?_⟩
  obtain ⟨z, q2⟩ := Fin.fits q1
  exact blk hk (L.step s1) hr1 ok z q2 hp
theorem se_comp {fi : Sd → M (List D)} {g : D → Sd → M Sd} {tc : Sd → M Bool} {te : Sd → M D} (B : BOk X scope N src) (hk : GKeeps g src) (hi : SI X E tg iter fi)
    (hg : ∀ s H fp, SG (cxB X scope N s H fp) E tg g) (ht : ∀ s H fp, SCs (cxB X scope N s H fp) E ifs tc) (he : ∀ s H fp, SE (cxB X scope N s H fp) E elt te)
    (hs : ∀ x, foldedSetIterable iter X.env x = pure x := by intro _; rfl) : SE X E (.ListComp elt [⟨tg, iter, ifs, 0⟩] scope pos) (dComp fi g tc te src) :=
  PE.imp (pe_comp B hi hg ht he hs) (te_comp hk)
theorem s_setcomp {fi : Sd → M (List D)} {g : D → Sd → M Sd} {tc : Sd → M Bool} {te : Sd → M D} (i : Nat) {y : Str} {py spos : Pos} (B : BOk X scope N src) (hk : GKeeps g src) (hi : SI X E tg iter fi)
    (hg : ∀ s H fp, SG (cxB X scope N s H fp) E tg g) (ht : ∀ s H fp, SCs (cxB X scope N s H fp) E ifs tc) (he : ∀ s H fp, SE (cxB X scope N s H fp) E elt te)
    (hN : X.N.Nodup) (hy : X.N[i]? = some y) (hx : Loc X.env.scope y) (hf : X.fn y = true ∨ X.env.scope.names.lookup y = some .local) (hsw : swapsWith (.ListComp elt [⟨tg, iter, ifs, 0⟩] scope pos) (some (.Name y py)) spos.line X.env = pure true)
    (hs : ∀ x, foldedSetIterable iter X.env x = pure x := by intro _; rfl) : SS X E (.Assign [.Name y py] (.ListComp elt [⟨tg, iter, ifs, 0⟩] scope pos) spos) (fun sd => do let d ← dComp fi g tc te src sd; pure (.nx (sd.set i (some d)))) := by
  refine PS.imp (ps_setcomp B hi hg ht he hN hy hx hsw hf hs) fun D0 σ H ⟨ι, h, sd, L, hh, q⟩ => te_comp hk σ H _ ⟨ι, h, sd, L, hh, Fin.bind q fun d h1 ι1 H1 e1 s1 hr1 q1 v rv => ?_⟩
  exact Fin.out (E := E) (P := OutP X.K D0) hr1 q1 _ ((L.step s1).set rv i)
end
end L3
end
section
set_option maxHeartbeats 4000000
namespace L3
open PySem PySem.Spec PyProof.Rows L2
section
variable {K : W.Frag} {ι : Io} {H : Hp} {h : Hh} {n : Nat} {a : Addr}
theorem pass_cell {o : HO} (hn : ι.c[n]? = some (some a)) : Pass ι H ι (upd H a o) := ⟨fun _ _ z => .inl z, fun b o' hb nb => ⟨by rw [upd_ne (show b ≠ a from fun z => nb (.inl (z ▸ List.mem_of_getElem? hn)))]; exact hb, nb⟩⟩
theorem HRel.cellS {o : HO} (hr : HRel K ι H h) (hn : ι.c[n]? = some (some a)) : Step ι H ι (upd H a o) :=
  ⟨fun _ _ z => .inl z, fun _ z => .inl z, rfl, fun b hb => upd_ne fun z => (hr.hidt b hb).2 (z ▸ List.mem_of_getElem? hn), fun b o' hb nb => ((pass_cell hn).keep b o' hb nb).1⟩
theorem HRel.cell {ds' : List D} {vs' : List V} (hr : HRel K ι H h) (hn : ι.c[n]? = some (some a)) (rl : RelL K ι H ds' vs') : HRel K ι (upd H a (.lst vs')) (h.set n (.lst ds')) := by
  refine ⟨by rw [List.length_set]; exact hr.len, hr.inj, fun m b c hm hc => ?_, fun m hm => ?_, fun b hb => ⟨?_, (hr.hidt b hb).2⟩⟩
  · by_cases e : n = m
    · subst e
      rw [hn] at hm
      cases hm
      rw [List.getElem?_set_self (by rw [hr.len]; exact (List.getElem?_eq_some_iff.mp hn).1)] at hc
      cases hc
      exact ⟨ds', vs', rfl, upd_same, rl.pass (pass_cell hn)⟩
    · rw [List.getElem?_set_ne e] at hc
      obtain ⟨ds, vs, e1, e2, e3⟩ := hr.at_ m b c hm hc
      have ne : b ≠ a := fun z => by subst z; exact e (hr.inj n m b hn hm)
      exact ⟨ds, vs, e1, by rw [upd_ne ne]; exact e2, e3.pass (pass_cell hn)⟩
  · have e : n ≠ m := fun z => by subst z; rw [hn] at hm; cases hm
    rw [List.getElem?_set_ne e]
    exact hr.dead m hm
  · rw [upd_ne (show b ≠ a from fun z => (hr.hidt b hb).2 (z ▸ List.mem_of_getElem? hn))]
    exact (hr.hidt b hb).1
theorem HRel.read {ds : List D} {v : V} (hr : HRel K ι H h) (r : Rel K ι H (.cel n) v) (e : h[n]? = some (.lst ds)) : ∃ a vs, v = .ref a ∧ ι.c[n]? = some (some a) ∧ H a = some (.lst vs) ∧ RelL K ι H ds vs := by
  simp only [Rel] at r
  obtain ⟨a, e1, r | r⟩ := r
  · obtain ⟨ds', vs, e2, e3, e4⟩ := hr.at_ n a _ r e
    cases e2
    exact ⟨a, vs, e1, r, e3, e4⟩
  · rw [hr.dead n r] at e
    cases e
end
noncomputable def cellGet (n : Nat) : M (List D) := fun h => match h[n]? with
  | some (.lst ds) => .ok ds h
  | _ => .bad
noncomputable def cellPut (n : Nat) (ds : List D) : M Unit := fun h => .ok () (h.set n (.lst ds))
theorem cellGet_ok {n : Nat} {h h' : Hh} {ds : List D} (e : cellGet n h = .ok ds h') : h' = h ∧ h[n]? = some (.lst ds) := by
  unfold cellGet at e
  cases z : h[n]? with
  | none => rw [z] at e; cases e
  | some c =>
    rw [z] at e
    cases c with
    | lst xs => cases e; exact ⟨rfl, rfl⟩
    | dead => cases e
noncomputable def ofO {α : Type} : Option α → M α
  | some a => pure a
  | none => M.bad
noncomputable def dIx : D → D → M D := fun x y => match x, y with
  | .tup ds, .int i => ofO (atI ds i)
  | .lst ds, .int i => ofO (atI ds i)
  | .scr ds, .int i => ofO (atI ds i)
  | .cel n, .int i => do let ds ← cellGet n; ofO (atI ds i)
  | _, _ => M.bad
theorem atI_rel {K : W.Frag} {ι : Io} {H : Hp} {ds : List D} {vs : List V} {i : Int} {d : D} (rl : RelL K ι H ds vs) (e : atI ds i = some d) : ∃ v, atI vs i = some v ∧ Rel K ι H d v := by
  unfold atI at e ⊢
  rw [← rl.length]
  cases z : ixN ds.length i with
  | none => rw [z] at e; cases e
  | some j =>
    rw [z] at e
    have e : ds[j]? = some d := e
    exact rl.get e
section
variable {X : Cx} {E : XE}
theorem Fin.ofO {α : Type} {K : W.Frag} {ι : Io} {H : Hp} {h : Hh} {o : Option α} {P : α → Io → Hp → Prop} (hr : HRel K ι H h) (q : Fin K E ι H (L3.ofO o h) P) : ∃ a, o = some a ∧ P a ι H := by
  cases o with
  | none => exact False.elim q
  | some a => exact ⟨a, rfl, Fin.out hr q⟩
theorem ix_D : IxR X (toR2 X.K E dIx) := by
  refine IxR.imp (ix_list.or ix_tup) fun x y H Q ⟨ι, h, d1, d2, r1, r2, hr, q⟩ => ?_
  cases d2 with
  | int i =>
    simp only [Rel] at r2
    cases d1 with
    | tup ds =>
      obtain ⟨a, vs, e, h1, h2⟩ := relSqT r1
      obtain ⟨d, e1, q⟩ := Fin.ofO hr q
      obtain ⟨v, e2, rv⟩ := atI_rel h2 e1
      exact .inr ⟨a, vs, i, v, e, r2, h1, e2, q v rv⟩
    | lst ds =>
      obtain ⟨a, vs, e, h1, h2⟩ := relSqL r1
      obtain ⟨d, e1, q⟩ := Fin.ofO hr q
      obtain ⟨v, e2, rv⟩ := atI_rel h2 e1
      exact .inl ⟨a, vs, i, v, e, r2, h1, e2, q v rv⟩
    | scr ds =>
      obtain ⟨a, vs, e, h1, h2⟩ := relSqS r1
      obtain ⟨d, e1, q⟩ := Fin.ofO hr q
      obtain ⟨v, e2, rv⟩ := atI_rel h2 e1
      exact .inl ⟨a, vs, i, v, e, r2, h1, e2, q v rv⟩
    | cel n =>
      have q : Fin X.K E ι H ((cellGet n >>= fun ds => L3.ofO (atI ds i)) h) _ := q
      have q' : Fin X.K E ι H (M.bind (cellGet n) (fun ds => L3.ofO (atI ds i)) h) _ := q
      unfold M.bind at q'
      cases z : cellGet n h with
      | bad => rw [z] at q'; exact False.elim q'
      | exc c h' => unfold cellGet at z; split at z <;> cases z
      | ok ds h' =>
        rw [z] at q'
        obtain ⟨rfl, z2⟩ := cellGet_ok z
        obtain ⟨a, vs, e, hn, hH, rl⟩ := hr.read r1 z2
        obtain ⟨d, e1, q⟩ := Fin.ofO hr q'
        obtain ⟨v, e2, rv⟩ := atI_rel rl e1
        exact .inl ⟨a, vs, i, v, e, r2, SqL.of hH, e2, q v rv⟩
    | _ => exact False.elim q
  | _ => cases d1 <;> exact False.elim q
noncomputable def dSetI (o i d : D) : M Unit := match o, i with
  | .cel n, .int k => do
    let ds ← cellGet n
    let j ← ofO (ixN ds.length k)
    cellPut n (ds.set j d)
  | _, _ => M.bad
theorem sg_sub {o i : Expr} {pos : Pos} {fo fi : Sd → M D} (hp : ∀ {t : TSet}, PSet X t → PG X (.Subscript o i pos) (gSub (toTE X.K E fo) (toTE X.K E fi) t)) :
    SG X E (.Subscript o i pos) (fun d sd => do let x ← fo sd; let y ← fi sd; dSetI x y d; pure sd) := by
  refine PG.imp (hp set_list) fun v σ H Q ⟨ι, h, sd, d, L, hr, rd, q⟩ => ⟨ι, h, sd, L, hr, Fin.bind q fun x h1 ι1 H1 e1 s1 hr1 q1 xv rx => ?_⟩
  refine ⟨ι1, h1, sd, L.step s1, hr1, Fin.bind q1 fun y h2 ι2 H2 e2 s2 hr2 q2 yv ry => ?_⟩
  cases x with
  | cel n =>
    cases y with
    | int k =>
      have rx2 := rx.step s2
      have q3 : Fin X.K E ι2 H2 ((cellGet n >>= fun ds => (ofO (ixN ds.length k) >>= fun j => cellPut n (ds.set j d) >>= fun _ => pure sd)) h2) (fun sd' ι' H' => ∀ σ', LRel X.K ι' H' sd' σ' → Q σ' H') := by
        have e : (do dSetI (.cel n) (.int k) d; pure sd : M Sd) = (cellGet n >>= fun ds => (ofO (ixN ds.length k) >>= fun j => cellPut n (ds.set j d) >>= fun _ => pure sd)) := by
          show ((cellGet n >>= fun ds => (ofO (ixN ds.length k) >>= fun j => cellPut n (ds.set j d))) >>= fun _ => pure sd) = _
          simp only [bind_assoc]
        rw [← e]
        exact q2
      have q' : Fin X.K E ι2 H2 (M.bind (cellGet n) (fun ds => (ofO (ixN ds.length k) >>= fun j => cellPut n (ds.set j d) >>= fun _ => pure sd)) h2) _ := q3
      unfold M.bind at q'
      cases z : cellGet n h2 with
      | bad => rw [z] at q'; exact False.elim q'
      | exc c h' => unfold cellGet at z; split at z <;> cases z
      | ok ds h' =>
        rw [z] at q'
        obtain ⟨rfl, z2⟩ := cellGet_ok z
        obtain ⟨a, vs, e, hn, hH, rl⟩ := hr2.read rx2 z2
        simp only [Rel] at ry
        have q4 : Fin X.K E ι2 H2 (M.bind (ofO (ixN ds.length k)) (fun j => cellPut n (ds.set j d) >>= fun _ => pure sd) h') _ := q'
        unfold M.bind at q4
        cases z3 : ixN ds.length k with
        | none => rw [z3] at q4; exact False.elim q4
        | some j =>
          rw [z3] at q4
          have q5 : Fin X.K E ι2 H2 (R.ok sd (h'.set n (.lst (ds.set j d)))) (fun sd' ι' H' => ∀ σ', LRel X.K ι' H' sd' σ' → Q σ' H') := q4
          refine ⟨a, vs, k, j, e, ry, hH, by rw [← rl.length]; exact z3, ?_⟩
          have rd2 := (rd.step s1).step s2
          exact q5 ι2 _ (hr2.cellS hn) (hr2.cell hn (rl.set rd2 j)) σ (((L.step s1).step s2).step (hr2.cellS hn))
    | _ => exact False.elim q2
  | _ => cases y <;> exact False.elim q2
end
noncomputable abbrev E0x : XE := fun _ _ => False
noncomputable def spOf (K : W.Frag) (n : Nat) (F : List D → M D) : Sp := fun vs H Q _ => vs.length = n ∧ ∃ ι h ds, RelL K ι H ds vs ∧ HRel K ι H h ∧ Fin K E0x ι H (F ds h) fun d ι' H' => ∀ v, Rel K ι' H' d v → Q v H'
noncomputable def startD (n : Nat) (ds : List D) : Sd := ds.map some ++ List.replicate (n - ds.length) none
noncomputable def outD : Out → M D
  | .nx _ => pure .non
  | .rt d => pure d
  | _ => M.bad
noncomputable def runB (n : Nat) (G : Sd → M Out) (ds : List D) : M D := do let o ← G (startD n ds); outD o
theorem relL_start {K : W.Frag} {ι : Io} {H : Hp} {ds : List D} {vs : List V} {N : List Str} (h : RelL K ι H ds vs) : LRel K ι H (startD N.length ds) (L2.start N vs) := by
  have hl := h.length
  unfold startD L2.start
  refine ⟨by simp [hl], fun i d e => ?_⟩
  by_cases hi : i < ds.length
  · rw [List.getElem?_append_left (by simpa using hi), List.getElem?_map] at e
    cases z : ds[i]? with
    | none => rw [z] at e; cases e
    | some d' =>
      rw [z] at e
      cases e
      obtain ⟨v, h1, h2⟩ := h.get z
      exact ⟨v, by rw [List.getElem?_append_left (by rw [List.length_map, ← hl]; exact hi), List.getElem?_map, h1]; rfl, h2⟩
  · rw [List.getElem?_append_right (by simpa using hi), List.getElem?_replicate] at e
    split at e <;> cases e
section
variable {P : Program} {w : World} {K : W.Frag} {mg : Str → Option Value} {base : Heap}
theorem fn_ok {x qual : Str} {st : Stmt} {f : Addr} {fd : FuncData} {N ps : List Str} {k : Nat} {G : Sd → M Out} (F : Fun K x qual st f fd) (S : FnScope N ps (defScope st))
    (hb : ∀ (cdv : Value) (A : Around) (outer : List Env) (s : Shared) (H : Hp) (E : XK), Room k (A.deeper (envOfC qual (defScope st) s.heap.objs.size f cdv)) → SSs (cxOf CX0 P w K mg base N qual (defScope st) f cdv A outer s H E).nox E0x (defBody st) G) :
    FnOk P w K mg base CX0 (k + 1) f fd ps (spOf K ps.length (runB N.length G)) := by
  refine F.ok S (fun vs H Q E h => h.1) fun cdv A outer s H vs Q E hr ⟨hl, ι, h, ds, rl, hh, q⟩ => ⟨_, hb cdv A outer s H E hr, ι, h, startD N.length ds, relL_start rl, hh, ?_⟩
  refine Fin.bind q fun o h1 ι1 H1 e1 s1 hr1 q1 => ?_
  cases o with
  | nx sd => exact fun σ' _ => Fin.out hr1 q1 _ (by simp [Rel])
  | rt d => exact fun v rv => Fin.out hr1 q1 v rv
  | bk sd => exact False.elim q1
  | ct sd => exact False.elim q1
end
section
variable {X : Cx} {e : Expr} {es : List Expr} {pos p : Pos}
noncomputable def callD (n : Nat) (F : List D → M D) (ds : List D) : M D := if ds.length = n then F ds else M.bad
theorem se_call {k : Nat} {f : Addr} {fd : FuncData} {ps : List Str} {n : Nat} {F : List D → M D} {fs : Sd → M (List D)} {x : Str} (G : FnOk X.prog X.w X.K X.mg X.base CX0 k f fd ps (spOf X.K n F)) (hr : Room k X.A) (hg : Gl X x) (hm : X.mg x = some (.ref f)) (hk : W.keepIn X.K (.ref f) = true) (hb : Binds X.K fd ps [])
    (ha : SA X E0x (e :: es) fs) (hdb : (x == ("__debug__" : Str)) = false := by decide) (he : starEach (e :: es) X.env = (false, eval e X.env) :: starEach es X.env := by rfl) (hpl : (backTo pos (starEach es X.env)).any (·.1) = false := by rfl) :
    SE X E0x (.Call (.Name x p) (e :: es) [] pos) (fun sd => do let ds ← fs sd; callD n F ds) := by
  refine PE.imp (pe_call G hr hg hm hk hb (dvs := []) .nil (E := fun _ _ _ => False) pass0 ha hdb he hpl) fun σ H Q ⟨ι, h, sd, L, hh, q⟩ => ⟨ι, h, sd, L, hh, Fin.bind q fun ds h1 ι1 H1 e1 s1 hr1 q1 vs rv => ?_⟩
  show spOf X.K n F (vs ++ []) H1 Q _
  rw [List.append_nil]
  unfold callD at q1
  by_cases hl : ds.length = n
  · rw [if_pos hl] at q1
    exact ⟨by rw [← rv.length]; exact hl, ι1, h1, ds, rv, hr1, q1⟩
  · rw [if_neg hl] at q1
    exact False.elim q1
end
end L3
end
section
set_option maxHeartbeats 4000000
namespace L3
open PySem PySem.Spec PyProof.Rows L2
section
variable {X : Cx} {E : XE}
theorem Fin.guard {α : Type} {K : W.Frag} {ι : Io} {H : Hp} {h : Hh} {c : Prop} [Decidable c] {f : M α} {P : α → Io → Hp → Prop} (q : Fin K E ι H ((if c then f else M.bad) h) P) : c ∧ Fin K E ι H (f h) P := by
  by_cases hc : c
  · rw [if_pos hc] at q; exact ⟨hc, q⟩
  · rw [if_neg hc] at q; exact False.elim q
theorem op_catT0 : OpR X (binaryOp .Add) (fun x y H Q => ∃ a b ys, x = .ref a ∧ y = .ref b ∧ SqT X.K H a [] ∧ SqT X.K H b ys ∧ Q (.ref b) H) := by
  intro pins s σ H x y v u Q I rx ry h
  obtain ⟨a, b, ys, rfl, rfl, ha, hb, q⟩ := h
  cases rx
  cases ry
  obtain ⟨its, r1, p1, _⟩ := I.tuple ha
  obtain ⟨its2, r2, p2, _⟩ := I.tuple hb
  cases r1
  obtain ⟨⟨cls, dd, data, sl⟩, ho, hc, n, hd⟩ := id p1
  obtain ⟨⟨cls2, dd2, data2, sl2⟩, ho2, hc2, n2, hd2⟩ := id p2
  simp only at hc hd hc2 hd2
  subst hc hd hc2 hd2
  exact concat_meets ⟨_, ho, rfl⟩ ⟨_, ho2, rfl⟩ noFill_tuple_add seq_tuple_add PySem.F.slot_tuple_add PySem.F.entry_tuple_add (PySem.F.args_tuple_add_2 _ _)
      (tuple_addW0 a b _ _ n n2 dd dd2 sl sl2 (by simp)) ⟨ho, ho2, ⟨.ref b, H, I, rfl, q⟩⟩
noncomputable def dAdd (x y : D) : M D := match x, y with
  | .int i, .int j => pure (.int (i + j))
  | .tup xs, .tup ys => do fits (xs.length + ys.length); pure (.tup (xs ++ ys))
  | .lst xs, .lst ys => do fits (xs.length + ys.length); pure (.lst (xs ++ ys))
  | .str x, .str y => do fits (x.length + y.length); pure (.str (x ++ y))
  | _, _ => M.bad
theorem op_addD : OpR X (binaryOp .Add) (toR2 X.K E dAdd) := by
  refine OpR.imp (op_add.or (op_catT0.or (op_catT.or (op_cat.or op_add_str)))) fun x y H Q ⟨ι, h, d1, d2, r1, r2, hr, q⟩ => ?_
  unfold dAdd at q
  split at q
  · simp only [Rel] at r1 r2
    exact .inl ⟨_, _, r1, r2, Fin.out hr q _ (by simp [Rel])⟩
  · rename_i xs ys
    right
    obtain ⟨a, vs, e, h1, h2⟩ := relSqT r1
    obtain ⟨b, ws, e', h1', h2'⟩ := relSqT r2
    obtain ⟨z, q⟩ := Fin.fits q
    cases xs with
    | nil =>
      simp only [RelL] at h2
      subst h2
      exact .inl ⟨a, b, ws, e, e', h1, h1', Fin.out hr q _ (by rw [← e']; exact r2)⟩
    | cons x0 xr =>
      refine .inr (.inl ⟨a, b, vs, ws, e, e', h1, h1', fun z => ?_, by rw [← h2.length, ← h2'.length]; exact z, fun z => ?_, fun z p hp => newT hr (h2.append h2') q hp⟩)
      · subst z
        have := h2.length
        cases this
      · subst z
        have := h2'.length
        cases ys with
        | nil => rw [List.append_nil] at q; exact Fin.out hr q _ (by rw [← e]; exact r1)
        | cons _ _ => cases this
  · rename_i xs ys
    right; right; right; left
    simp only [Rel] at r1 r2
    obtain ⟨a, vs, e, h1, h2⟩ := r1
    obtain ⟨b, ws, e', h1', h2'⟩ := r2
    obtain ⟨z, q⟩ := Fin.fits q
    exact ⟨a, b, vs, ws, e, e', h1.1, h1'.1, by rw [← h2.length, ← h2'.length]; exact z, fun p hp => newL hr (h2.append h2') q hp⟩
  · simp only [Rel] at r1 r2
    obtain ⟨z, q⟩ := Fin.fits q
    exact .inr (.inr (.inr (.inr ⟨_, _, r1, r2, z, Fin.out hr q _ (by simp [Rel])⟩)))
  · exact False.elim q
noncomputable def dII (C : Int → Int → Bool) (g : Int → Int → D) (x y : D) : M D := match x, y with
  | .int i, .int j => if C i j = true then pure (g i j) else M.bad
  | _, _ => M.bad
theorem op_II {f : Value → Value → Sem Value} {C : Int → Int → Bool} {C' : Int → Int → Prop} {g : Int → Int → V} {g' : Int → Int → D} (ho : OpR X f (rI C' g)) (hc : ∀ i j, C i j = true → C' i j) (hg : ∀ i j ι H, Rel X.K ι H (g' i j) (g i j)) : OpR X f (toR2 X.K E (dII C g')) := by
  refine OpR.imp ho fun x y H Q ⟨ι, h, d1, d2, r1, r2, hr, q⟩ => ?_
  unfold dII at q
  split at q
  · simp only [Rel] at r1 r2
    obtain ⟨c, q⟩ := Fin.guard q
    exact ⟨_, _, r1, r2, hc _ _ c, Fin.out hr q _ (hg _ _ _ _)⟩
  · exact False.elim q
theorem op_II0 {f : Value → Value → Sem Value} {g : Int → Int → V} {g' : Int → Int → D} (ho : OpR X f (rI0 g)) (hg : ∀ i j ι H, Rel X.K ι H (g' i j) (g i j)) : OpR X f (toR2 X.K E (dII (fun _ _ => true) g')) := by
  refine OpR.imp ho fun x y H Q ⟨ι, h, d1, d2, r1, r2, hr, q⟩ => ?_
  unfold dII at q
  split at q
  · simp only [Rel] at r1 r2
    obtain ⟨c, q⟩ := Fin.guard q
    exact ⟨_, _, r1, r2, Fin.out hr q _ (hg _ _ _ _)⟩
  · exact False.elim q
noncomputable def dSub := dII (fun _ _ => true) fun i j => .int (i - j)
theorem op_subD : OpR X (binaryOp .Sub) (toR2 X.K E dSub) := op_II0 op_sub fun _ _ _ _ => by simp [Rel]
noncomputable def small64 (i : Int) : Bool := decide (-(2 ^ 64) < i) && decide (i < 2 ^ 64)
theorem small64_iff {i : Int} (h : small64 i = true) : -(2 ^ 64) < i ∧ i < 2 ^ 64 := by unfold small64 at h; simpa using h
theorem op_fdivB : OpR X (binaryOp .FloorDiv) (rI (fun _ j => 0 < j ∧ j < 2 ^ 64) fun i j => .int (i / j)) := opI fun i j _ _ _ _ _ hc q => by
  refine floordiv_int (by omega) (by rw [Int.fdiv_eq_ediv_of_nonneg _ (by omega)]; exact q) (.inl (PyProof.noPylong_of_log2 ?_))
  have h1 : j.natAbs < 2 ^ 64 := by omega
  have h0 : j.natAbs ≠ 0 := by omega
  exact Nat.lt_trans ((Nat.log2_lt h0).mpr h1) (by decide)
noncomputable def dFdiv := dII (fun _ j => decide (0 < j) && decide (j < 2 ^ 64)) fun i j => .int (i / j)
theorem op_fdivD : OpR X (binaryOp .FloorDiv) (toR2 X.K E dFdiv) := op_II op_fdivB (fun i j h => by simpa using h) fun _ _ _ _ => by simp [Rel]
noncomputable def dMod := dII (fun _ j => decide (0 < j)) fun i j => .int (i % j)
theorem op_modD : OpR X (binaryOp .Mod) (toR2 X.K E dMod) := op_II op_mod (fun i j h => by simpa using h) fun _ _ _ _ => by simp [Rel]
noncomputable def cPow (i j : Int) : Bool := decide (0 ≤ j) && decide (j ≤ 1000000) && decide (i.natAbs < 2 ^ 64)
noncomputable def dPow := dII cPow fun i j => .int (i ^ j.toNat)
theorem cPow_iff {i j : Int} (h : cPow i j = true) : CPow i j := by unfold cPow at h; simpa [CPow, and_assoc] using h
theorem op_powD : OpR X (binaryOp .Pow) (toR2 X.K E dPow) := op_II op_pow (fun _ _ => cPow_iff) fun _ _ _ _ => by simp [Rel]
noncomputable def dAnd := dII (fun _ _ => true) fun i j => .int (Builtin.bitAnd i j)
noncomputable def dOr := dII (fun _ _ => true) fun i j => .int (Builtin.bitOr i j)
theorem op_orD : OpR X (binaryOp .BitOr) (toR2 X.K E dOr) := op_II0 op_or fun _ _ _ _ => by simp [Rel]
noncomputable def dLt := dII (fun _ _ => true) fun i j => .bl (decide (i < j))
theorem op_ltD : OpR X (compareOp .Lt) (toR2 X.K E dLt) := op_II0 op_lt fun _ _ _ _ => by simp [Rel]
noncomputable def dLe := dII (fun _ _ => true) fun i j => .bl (decide (i ≤ j))
theorem op_leD : OpR X (compareOp .LtE) (toR2 X.K E dLe) := op_II0 op_le fun _ _ _ _ => by simp [Rel]
noncomputable def dGt := dII (fun _ _ => true) fun i j => .bl (decide (j < i))
theorem op_gtD : OpR X (compareOp .Gt) (toR2 X.K E dGt) := op_II0 op_gt fun _ _ _ _ => by simp [Rel]
noncomputable def dGe := dII (fun _ _ => true) fun i j => .bl (decide (j ≤ i))
theorem op_geD : OpR X (compareOp .GtE) (toR2 X.K E dGe) := op_II0 op_ge fun _ _ _ _ => by simp [Rel]
noncomputable def dNeg : D → M D
  | .int i => pure (.int (-i))
  | _ => M.bad
theorem se_neg {a : Expr} {pos : Pos} {fa : Sd → M D} (ha : SE X E a fa) : SE X E (.UnaryOp .USub a pos) (fun sd => do let x ← fa sd; dNeg x) := by
  refine PE.imp (pe_un un_neg ha) fun σ H Q ⟨ι, h, sd, L, hh, q⟩ => ⟨ι, h, sd, L, hh, Fin.bind q fun d h1 ι1 H1 e1 s1 hr1 q1 v rv => ?_⟩
  cases d with
  | int i => simp only [Rel] at rv; exact ⟨i, rv, Fin.out hr1 q1 _ (by simp [Rel])⟩
  | _ => exact False.elim q1
mutual
noncomputable def pd : D → Option PyData
  | .non => some .none
  | .bl b => some (.bool b)
  | .int i => some (.int i)
  | .str x => some (.str x)
  | .tup xs => (pdL xs).map .tuple
  | .lst xs => (pdL xs).map .list
  | .scr xs => (pdL xs).map .list
  | _ => none
noncomputable def pdL : List D → Option (List PyData)
  | [] => some []
  | x :: xs => match pd x, pdL xs with
    | some a, some r => some (a :: r)
    | _, _ => none
end
mutual
theorem reads {pins : List (Addr × Obj)} {σ : L2.St} {H : Hp} {s : Shared} {ι : Io} (I : Inv X pins σ H s) : ∀ {d : D} {v : V} {u : Value} {p : PyData}, Rel X.K ι H d v → RelV v u → pd d = some p → ∃ as, Reads s.heap u p as
  | .non, v, u, p, r, ru, e => by simp only [Rel] at r; subst r; cases ru; cases e; exact ⟨_, .none⟩
  | .bl b, v, u, p, r, ru, e => by simp only [Rel] at r; subst r; cases ru; cases e; exact ⟨_, .bool _⟩
  | .int i, v, u, p, r, ru, e => by simp only [Rel] at r; subst r; obtain ⟨t, rfl⟩ := ru; cases e; exact ⟨_, .int _ _⟩
  | .str i, v, u, p, r, ru, e => by simp only [Rel] at r; subst r; obtain ⟨t, rfl⟩ := ru; cases e; exact ⟨_, .str _ _⟩
  | .tup ds, v, u, p, r, ru, e => by
    obtain ⟨a, vs, rfl, h1, h2⟩ := relSqT r
    cases ru
    obtain ⟨its, rv, pl, _⟩ := I.tuple h1
    obtain ⟨o, ho, hc, n, hd⟩ := pl
    unfold pd at e
    cases z : pdL ds with
    | none => rw [z] at e; cases e
    | some ps =>
      rw [z] at e; cases e
      obtain ⟨as, q⟩ := readsL I h2 rv z
      exact ⟨_, .tuple ho hc hd (by simpa using q)⟩
  | .lst ds, v, u, p, r, ru, e => by
    obtain ⟨a, vs, rfl, h1, h2⟩ := relSqL r
    cases ru
    obtain ⟨its, rv, pl, _⟩ := I.list h1
    obtain ⟨o, ho, hc, n, hd⟩ := pl.isList
    unfold pd at e
    cases z : pdL ds with
    | none => rw [z] at e; cases e
    | some ps =>
      rw [z] at e; cases e
      obtain ⟨as, q⟩ := readsL I h2 rv z
      exact ⟨_, .list ho hc hd (by simpa using q)⟩
  | .scr ds, v, u, p, r, ru, e => by
    obtain ⟨a, vs, rfl, h1, h2⟩ := relSqS r
    cases ru
    obtain ⟨its, rv, pl, _⟩ := I.list h1
    obtain ⟨o, ho, hc, n, hd⟩ := pl.isList
    unfold pd at e
    cases z : pdL ds with
    | none => rw [z] at e; cases e
    | some ps =>
      rw [z] at e; cases e
      obtain ⟨as, q⟩ := readsL I h2 rv z
      exact ⟨_, .list ho hc hd (by simpa using q)⟩
  | .cel n, _, _, _, _, _, e => by cases e
  | .set xs, _, _, _, _, _, e => by cases e
  | .dct, _, _, _, _, _, e => by cases e
  | .fn _, _, _, _, _, _, e => by cases e
  | .exn _, _, _, _, _, _, e => by cases e
theorem readsL {pins : List (Addr × Obj)} {σ : L2.St} {H : Hp} {s : Shared} {ι : Io} (I : Inv X pins σ H s) : ∀ {ds : List D} {vs : List V} {us : List Value} {ps : List PyData}, RelL X.K ι H ds vs → Vals vs us → pdL ds = some ps → ∃ as, ReadsAll s.heap us ps as
  | [], vs, us, ps, r, ru, e => by simp only [RelL] at r; subst r; cases ru; cases e; exact ⟨_, .nil⟩
  | d :: ds, vs, us, ps, r, ru, e => by
    simp only [RelL] at r
    obtain ⟨v, vr, rfl, r1, r2⟩ := r
    cases ru with
    | cons ru1 ru2 =>
      unfold pdL at e
      cases z : pd d with
      | none => rw [z] at e; cases e
      | some a =>
        cases z2 : pdL ds with
        | none => rw [z, z2] at e; cases e
        | some b =>
          rw [z, z2] at e
          cases e
          obtain ⟨as, q1⟩ := reads I r1 ru1 z
          obtain ⟨bs, q2⟩ := readsL I r2 ru2 z2
          exact ⟨_, .cons q1 q2⟩
end
noncomputable def eqOk (a b : PyData) : Bool := a.canLay0 && b.canLay0 && decide (min a.depth b.depth ≤ 60)
noncomputable def dEqG (neg : Bool) (x y : D) : M D := match pd x, pd y with
  | some a, some b => if eqOk a b = true then pure (.bl (if neg then !PyData.eqv a b else PyData.eqv a b)) else M.bad
  | _, _ => M.bad
noncomputable def dEq := dEqG false
noncomputable def dNe := dEqG true
theorem eqOk_iff {a b : PyData} (h : eqOk a b = true) : a.canLay0 = true ∧ b.canLay0 = true ∧ min a.depth b.depth ≤ 60 := by unfold eqOk at h; simpa [and_assoc] using h
theorem dEqG_inv {K : W.Frag} {ι : Io} {H : Hp} {h : Hh} {neg : Bool} {x y : D} {P : D → Io → Hp → Prop} (q : Fin K E ι H (dEqG neg x y h) P) : ∃ a b, pd x = some a ∧ pd y = some b ∧ eqOk a b = true ∧ Fin K E ι H ((pure (.bl (if neg then !PyData.eqv a b else PyData.eqv a b)) : M D) h) P := by
  unfold dEqG at q
  cases e1 : pd x with
  | none => rw [e1] at q; exact False.elim q
  | some a =>
    cases e2 : pd y with
    | none => rw [e1, e2] at q; exact False.elim q
    | some b =>
      rw [e1, e2] at q
      obtain ⟨c, q⟩ := Fin.guard q
      exact ⟨a, b, rfl, rfl, c, q⟩
theorem op_eqD (hu : X.A.units + 60 < cLine) : OpR X (compareOp .Eq) (toR2 X.K E dEq) := by
  intro pins s σ H x y v u Q I rx ry ⟨ι, h, d1, d2, r1, r2, hr, q⟩
  obtain ⟨a, b, e1, e2, c, q2⟩ := dEqG_inv q
  obtain ⟨c1, c2, c3⟩ := eqOk_iff c
  obtain ⟨as, ra⟩ := reads I r1 rx e1
  obtain ⟨bs, rb⟩ := reads I r2 ry e2
  exact SeqAt.compareEq_reads ra rb c1 c2 (by omega) ⟨.bl _, H, I, rfl, Fin.out hr q2 (.bl _) (by simp [Rel])⟩
theorem op_neD (hu : X.A.units + 60 < cLine) : OpR X (compareOp .NotEq) (toR2 X.K E dNe) := by
  intro pins s σ H x y v u Q I rx ry ⟨ι, h, d1, d2, r1, r2, hr, q⟩
  obtain ⟨a, b, e1, e2, c, q2⟩ := dEqG_inv q
  obtain ⟨c1, c2, c3⟩ := eqOk_iff c
  obtain ⟨as, ra⟩ := reads I r1 rx e1
  obtain ⟨bs, rb⟩ := reads I r2 ry e2
  exact SeqAt.compareNe_reads ra rb c1 c2 (by omega) ⟨.bl _, H, I, rfl, Fin.out hr q2 (.bl _) (by simp [Rel])⟩
noncomputable def inOk (a : PyData) (xs : List PyData) : Bool := a.canLay0 && PyData.canLayAll0 xs && decide (min (PyData.depthAll xs) a.depth ≤ 50)
theorem inOk_iff {a : PyData} {xs : List PyData} (h : inOk a xs = true) : a.canLay0 = true ∧ PyData.canLayAll0 xs = true ∧ min (PyData.depthAll xs) a.depth ≤ 50 := by unfold inOk at h; simpa [and_assoc] using h
noncomputable def dInG (neg : Bool) (x c : D) : M D := match pd x, c with
  | some a, .tup ds => match pdL ds with
    | some xs => if inOk a xs = true then pure (.bl (if neg then !xs.any (fun y => PyData.eqv y a) else xs.any fun y => PyData.eqv y a)) else M.bad
    | none => M.bad
  | some a, .lst ds => match pdL ds with
    | some xs => if inOk a xs = true then pure (.bl (if neg then !xs.any (fun y => PyData.eqv y a) else xs.any fun y => PyData.eqv y a)) else M.bad
    | none => M.bad
  | _, _ => M.bad
noncomputable def dIn := dInG false
noncomputable def dNotIn := dInG true
theorem dInG_inv {K : W.Frag} {ι : Io} {H : Hp} {h : Hh} {neg : Bool} {x c : D} {P : D → Io → Hp → Prop} (q : Fin K E ι H (dInG neg x c h) P) : ∃ a ds xs, pd x = some a ∧ pdL ds = some xs ∧ (c = .tup ds ∨ c = .lst ds) ∧ inOk a xs = true ∧
    Fin K E ι H ((pure (.bl (if neg then !xs.any (fun y => PyData.eqv y a) else xs.any fun y => PyData.eqv y a)) : M D) h) P := by
  unfold dInG at q
  cases e1 : pd x with
  | none => rw [e1] at q; exact False.elim q
  | some a =>
    rw [e1] at q
    cases c with
    | tup ds =>
      dsimp only at q
      cases e2 : pdL ds with
      | none => rw [e2] at q; exact False.elim q
      | some xs =>
        rw [e2] at q
        obtain ⟨c, q⟩ := Fin.guard q
        exact ⟨a, ds, xs, rfl, e2, .inl rfl, c, q⟩
    | lst ds =>
      dsimp only at q
      cases e2 : pdL ds with
      | none => rw [e2] at q; exact False.elim q
      | some xs =>
        rw [e2] at q
        obtain ⟨c, q⟩ := Fin.guard q
        exact ⟨a, ds, xs, rfl, e2, .inr rfl, c, q⟩
    | _ => exact False.elim q
theorem op_inD (hu : X.A.units + 60 < cLine) : OpR X (compareOp .In) (toR2 X.K E dIn) := by
  intro pins s σ H x y v u Q I rx ry ⟨ι, h, d1, d2, r1, r2, hr, q⟩
  obtain ⟨a, ds, xs, e1, e2, ec, c, q2⟩ := dInG_inv q
  obtain ⟨c1, c2, c3⟩ := inOk_iff c
  obtain ⟨as, ra⟩ := reads I r1 rx e1
  rcases ec with rfl | rfl
  · obtain ⟨bs, rb⟩ := reads I r2 ry (p := .tuple xs) (by unfold pd; rw [e2]; rfl)
    exact SeqAt.in_tuple_reads rb ra c2 c1 (by omega) ⟨.bl _, H, I, rfl, Fin.out hr q2 (.bl _) (by simp [Rel])⟩
  · obtain ⟨bs, rb⟩ := reads I r2 ry (p := .list xs) (by unfold pd; rw [e2]; rfl)
    exact SeqAt.in_list_reads rb ra c2 c1 (by omega) ⟨.bl _, H, I, rfl, Fin.out hr q2 (.bl _) (by simp [Rel])⟩
theorem op_notInD (hu : X.A.units + 60 < cLine) : OpR X (compareOp .NotIn) (toR2 X.K E dNotIn) := by
  intro pins s σ H x y v u Q I rx ry ⟨ι, h, d1, d2, r1, r2, hr, q⟩
  obtain ⟨a, ds, xs, e1, e2, ec, c, q2⟩ := dInG_inv q
  obtain ⟨c1, c2, c3⟩ := inOk_iff c
  obtain ⟨as, ra⟩ := reads I r1 rx e1
  rcases ec with rfl | rfl
  · obtain ⟨bs, rb⟩ := reads I r2 ry (p := .tuple xs) (by unfold pd; rw [e2]; rfl)
    exact SeqAt.notIn_tuple_reads rb ra c2 c1 (by omega) ⟨.bl _, H, I, rfl, Fin.out hr q2 (.bl _) (by simp [Rel])⟩
  · obtain ⟨bs, rb⟩ := reads I r2 ry (p := .list xs) (by unfold pd; rw [e2]; rfl)
    exact SeqAt.notIn_list_reads rb ra c2 c1 (by omega) ⟨.bl _, H, I, rfl, Fin.out hr q2 (.bl _) (by simp [Rel])⟩
end
end L3
end
section
set_option maxHeartbeats 4000000
namespace HT
open PySem PySem.Spec PyProof.Rows L2
section
variable {prog : Program} {w : World} {A : Around} {E : Value → Shared → Prop} {s : Shared}
theorem getItem_tuple_whole {t sl : Addr} {items : Array Value} {vl vu : Value} {lo hi : Option Int} {Q : Value → Shared → Prop} (ht : IsTup s.heap t items) (hs : s.heap.IsSliceOf sl vl vu .none) (pl : IsPart vl lo) (pu : IsPart vu hi)
    (hw : sIx items.size 0 lo = 0 ∧ sIx items.size items.size hi = items.size) (h : Q (.ref t) s) : wpAny (model prog w) A (getItem (.ref t) (.ref sl)) Q E s := by
  obtain ⟨os, hos, hcs, hds⟩ := id hs
  have hTs : s.TypeIs (.ref sl) "slice" := ⟨os, hos, hcs⟩
  unfold getItem
  try with_reducible refine wpAny_holding ?_
  first | refine wpAny_bind (wpAny_pure ?_) | skip
  refine wpAny_bind (wpAny_sequenceKey ht.typeIs (by decide) ?_)
  refine wpAny_bind (wpAny_callSpecial?_slot (name := Str.ofString "__getitem__") ht.typeIs PyProof.Rows.slot_tuple_getitem
    (wpAny_call_entry PyProof.Rows.slot_tuple_getitem ht.typeIs entry_tuple_getitem ?_ (args_tuple_getitem _ _)))
  show wpAny _ _ (Builtin.Tuple.tupleItemsOf (.ref t) >>= _) _ _ s
  refine wpAny_bind (tupleItemsOf_ ht ?_)
  refine wpAny_bind (wpAny_typeOf hTs ?_)
  rw [if_pos (by decide)]
  refine wpAny_bind (sliceApplied_gen hs pl pu ?_)
  show wpAny _ _ (if (((sIx items.size 0 lo : Nat) : Int) == 0 && (1 : Int) == 1 && (sIx items.size items.size hi - sIx items.size 0 lo) == items.size) = true then _ else _) _ _ s
  rw [hw.1, hw.2, if_pos (by simp)]
  refine wpAny_bind (m := Builtin.Tuple.tupleIsExact _) (wpAny_bind (wpAny_typeOf ht.typeIs (wpAny_pure ?_)))
  rw [if_pos (by decide)]
  refine wpAny_bind (wpAny_rule ?_)
  exact wpAny_pure ⟨_, rfl, wpAny_pure h⟩
end
end HT
namespace L2
open PySem PySem.Spec PyProof.Rows
section
variable {X : Cx} {e : Expr} {te : TE} {pos p2 : Pos}
theorem sl_tupW : SlR X (fun x lo hi H Q => ∃ a xs, x = .ref a ∧ SqT X.K H a xs ∧ (HT.sIx xs.length 0 lo = 0 ∧ HT.sIx xs.length xs.length hi = xs.length) ∧ Q (.ref a) H) := by
  intro pins s σ H x v vl vu lo hi sl Q I rx hs pl pu h
  obtain ⟨a, xs, rfl, hx, hw, q⟩ := h
  cases rx
  obtain ⟨its, r, ht, hz⟩ := I.tuple hx
  have hlen : its.toArray.size = xs.length := by rw [List.size_toArray]; exact r.length.symm
  refine ⟨"tuple", _, PyProof.Rows.slot_tuple_getitem.lookup, ht.typeIs, ?_⟩
  exact HT.getItem_tuple_whole ht hs pl pu (by rw [hlen]; exact hw) ⟨.ref a, H, I, rfl, q⟩
theorem noFill_tuple_mul : fillsNumberSlot (.type "tuple") "mul" = pure false :=
  PySem.fillsNumberSlot_seq (id := "tuple.__mul__") (r := some (.builtin "tuple.__rmul__")) F.slot_tuple_mul.lookup (by decide +kernel) F.slot_tuple_rmul.lookup (by decide +kernel)
theorem repeat_tuple : seqRepeat? (.type "tuple") = pure (some (.builtin "tuple.__mul__")) := by
  unfold seqRepeat?
  rw [PySem.seqSlot_of (T := "tuple") (name := "__mul__") (id := "tuple.__mul__") F.slot_tuple_mul.lookup (by decide +kernel), PySem.seqSlot_of (T := "tuple") (name := "__rmul__") (id := "tuple.__rmul__") F.slot_tuple_rmul.lookup (by decide +kernel)]
  rfl
theorem int_rmul_tuple (k : Int) (t : Tok) (l : Addr) (items : Array Value) (n : Nat) (dd : Option Addr) (sl : Array (Option Value)) :
    Meets (Builtin.«int.__rmul__» ⟨[.int k t, .ref l], []⟩) (fun _ R s => s.heap.get? l = some { cls := .type "tuple", dict := dd, data := .seq items n, slots := sl } ∧ R (.ok (.ret Value.notImplemented)) s) :=
  .of_wp fun prog w A R s h => by obtain ⟨hp, g, d, tk, os⟩ := s; obtain ⟨hl, h⟩ := h; wp_walk; exact ⟨_, rfl, h⟩
theorem tuple_mul (k : Int) (t : Tok) (l : Addr) (items : Array Value) (n : Nat) (dd : Option Addr) (sl : Array (Option Value)) (hne : items.isEmpty = false) (hk : 2 ≤ k) (hk2 : k < 1000) (hz : items.size * k.toNat ≤ sizeLine) :
    Meets (Builtin.«tuple.__mul__» ⟨[.ref l, .int k t], []⟩) (fun _ R s => s.heap.get? l = some { cls := .type "tuple", dict := dd, data := .seq items n, slots := sl } ∧
      R (.ok (.ret (.ref s.heap.objs.size))) { s with heap := s.heap.push { cls := .type "tuple", data := .seq ((List.replicate k.toNat items).foldl (· ++ ·) #[]) } }) :=
  .of_wp fun prog w A R s h => by
    obtain ⟨hp, g, d, tk, os⟩ := s; obtain ⟨hl, h⟩ := h
    unfold Builtin.«tuple.__mul__» 
    wp_walk
    have hk63 : ¬ (decide (k < -2 ^ 63) || decide (k ≥ 2 ^ 63)) = true := by
      rw [Bool.or_eq_true, decide_eq_true_eq, decide_eq_true_eq]
      omega
    rw [if_neg hk63]
    dsimp only
    have ht : IsTup hp l items := ⟨_, hl, rfl, _, rfl⟩
    refine wpAny_bind (tupleItemsOf_ ht ?_)
    have h1 : ¬ (items.isEmpty || k == 1) = true := by
      rw [hne, Bool.false_or, beq_iff_eq]
      omega
    rw [if_neg h1]
    have h2 : ¬ (decide (k ≤ 0) || items.isEmpty) = true := by
      rw [hne, Bool.or_false, decide_eq_true_eq]
      omega
    rw [if_neg h2]
    have hk0 : ((k.toNat : Nat) : Int) = k := Int.toNat_of_nonneg (by omega)
    have hm : ((items.size : Nat) : Int) * k = ((items.size * k.toNat : Nat) : Int) := by rw [Int.natCast_mul, hk0]
    have hsl : (sizeLine : Nat) = 16777216 := by decide
    have h3 : ¬ ((items.size : Int) * k > (2 ^ 63 - 1) / 8) := by
      rw [hm]
      omega
    rw [if_neg h3]
    have h4 : ¬ Builtin.Tuple.tupleTooMany ((items.size : Int) * k) = true := by
      unfold Builtin.Tuple.tupleTooMany
      rw [hm, decide_eq_true_eq]
      omega
    rw [if_neg h4]
    have hsz : sizeOk (.seq (List.foldl (fun x1 x2 => x1 ++ x2) #[] (List.replicate k.toNat items))) := by
      show (List.foldl (fun x1 x2 => x1 ++ x2) #[] (List.replicate k.toNat items)).size ≤ sizeLine
      have e : ∀ (m : Nat) (acc : Array Value), (List.foldl (fun x1 x2 => x1 ++ x2) acc (List.replicate m items)).size = acc.size + m * items.size := by
        intro m
        induction m with
        | zero => intro acc; simp
        | succ m ih => intro acc; rw [List.replicate_succ, List.foldl_cons, ih, Array.size_append, Nat.succ_mul]; omega
      rw [e, Nat.mul_comm]
      simpa using hz
    exact wpAny_bind (m := Builtin.Tuple.tupleExact _) (wpAny_newObj_type (wpAny_pure ⟨_, rfl, h⟩) hsz)
theorem op_repT : OpR X (binaryOp .Mult) (fun x y H Q => ∃ a k xs, x = .ref a ∧ y = .int k ∧ SqT X.K H a xs ∧ xs ≠ [] ∧ 2 ≤ k ∧ k < 1000 ∧ xs.length * k.toNat ≤ sizeLine ∧ ∀ p, H p = none → Q (.ref p) (upd H p (.tup (List.replicate k.toNat xs).flatten))) := by
  intro pins s σ H x y v u Q I rx ry h
  obtain ⟨a, k, xs, rfl, rfl, hx, hne, h1, h2, hz, q⟩ := h
  cases rx
  obtain ⟨t, rfl⟩ := ry
  obtain ⟨its, r, ht, _⟩ := I.tuple hx
  have hl := r.length
  obtain ⟨⟨cls, dd, data, sl⟩, ho, hc, n, hd⟩ := id ht
  simp only at hc hd
  subst hc hd
  have hemp : its.toArray.isEmpty = false := by
    cases its with
    | nil => cases r; exact absurd rfl hne
    | cons _ _ => simp
  refine wpAny_binaryOp_repeat_ref (T := "tuple") (U := "int") (by decide) ⟨_, ho, rfl⟩ (fun s' => typeIs_int s' k t) noFill_tuple_mul F.fills_int_mul F.slot_int_rmul repeat_tuple F.slot_int_index.lookup
    (call_meets F.slot_int_rmul (typeIs_int s k t) F.entry_int_rmul (F.args_int_rmul_2 _ _) (int_rmul_tuple k t a its.toArray n dd sl)
      ⟨ho, rfl, ⟨_, ho, rfl⟩, call_meets F.slot_tuple_mul ⟨_, ho, rfl⟩ F.entry_tuple_mul (F.args_tuple_mul_2 _ _) (tuple_mul k t a its.toArray n dd sl hemp h1 h2 (by rw [List.size_toArray, ← hl]; exact hz)) ⟨ho, ?_⟩⟩)
  have hnew : List.foldl (fun x1 x2 => x1 ++ x2) #[] (List.replicate k.toNat its.toArray) = (List.replicate k.toNat its).flatten.toArray := by
    have := foldl_rep its k.toNat []
    rw [List.nil_append] at this
    exact this
  rw [hnew]
  refine ⟨.ref _, _, I.laid (t' := s.toks) (o := .tup (List.replicate k.toNat xs).flatten) (fun b ob q => Heap.get?_push_of_some _ q) (Nat.le_refl _) ?_, rfl, q _ (I.hok.fresh (Nat.le_refl _))⟩
  exact ⟨by rw [len_rep, Nat.mul_comm]; exact hz, _, r.rep k.toNat, IsTup.new _ _⟩
end
end L2
end
section
set_option maxHeartbeats 4000000
namespace LT
open PySem PySem.Spec PyProof.Rows
noncomputable abbrev Up (xs : Array Nat) : Prop := xs.toList.Pairwise (· < ·)
theorem Up.lt {xs : Array Nat} (h : Up xs) {i j : Nat} {a b : Nat} (hi : xs[i]? = some a) (hj : xs[j]? = some b) (hij : i < j) : a < b := by
  have hi' : xs.toList[i]? = some a := by simpa using hi
  have hj' : xs.toList[j]? = some b := by simpa using hj
  obtain ⟨h1, e1⟩ := List.getElem?_eq_some_iff.mp hi'
  obtain ⟨h2, e2⟩ := List.getElem?_eq_some_iff.mp hj'
  have := List.pairwise_iff_getElem.mp h i j h1 h2 hij
  rw [e1, e2] at this
  exact this
theorem below_go {xs : Array Nat} (h : Up xs) (j : Nat) : ∀ (fuel lo hi : Nat), hi - lo ≤ fuel → lo ≤ hi → hi ≤ xs.size → (∀ i a, i < lo → xs[i]? = some a → a < j) → (∀ i a, hi ≤ i → xs[i]? = some a → j ≤ a) →
    let r := SetTable.below.go xs j fuel lo hi
    r ≤ xs.size ∧ (∀ i a, i < r → xs[i]? = some a → a < j) ∧ (∀ i a, r ≤ i → xs[i]? = some a → j ≤ a)
  | 0, lo, hi, hf, hl, hs, h1, h2 => by
    have e : lo = hi := by omega
    subst e
    exact ⟨hs, h1, h2⟩
  | fuel + 1, lo, hi, hf, hl, hs, h1, h2 => by
    unfold SetTable.below.go
    by_cases hlt : lo < hi
    · rw [if_pos hlt]
      have hm : (lo + hi) / 2 < xs.size := by omega
      have em : xs[(lo + hi) / 2]? = some xs[(lo + hi) / 2] := by simp [hm]
      have eg : xs.getD ((lo + hi) / 2) j = xs[(lo + hi) / 2] := by simp [Array.getD, hm]
      dsimp only
      by_cases hc : xs.getD ((lo + hi) / 2) j < j
      · rw [if_pos hc]
        refine below_go h j fuel _ hi (by omega) (by omega) hs (fun i a hi' e => ?_) h2
        rw [eg] at hc
        by_cases z : i = (lo + hi) / 2
        · subst z; rw [em] at e; cases e; exact hc
        · exact Nat.lt_trans (h.lt e em (by omega)) hc
      · rw [if_neg hc]
        refine below_go h j fuel lo _ (by omega) (by omega) (by omega) h1 fun i a hi' e => ?_
        rw [eg] at hc
        by_cases z : i = (lo + hi) / 2
        · subst z; rw [em] at e; cases e; omega
        · have := h.lt em e (by omega)
          omega
    · rw [if_neg hlt]
      have e : lo = hi := by omega
      subst e
      exact ⟨hs, h1, h2⟩
theorem below_ok {xs : Array Nat} (h : Up xs) (j : Nat) : SetTable.below xs j ≤ xs.size ∧ (∀ i a, i < SetTable.below xs j → xs[i]? = some a → a < j) ∧ (∀ i a, SetTable.below xs j ≤ i → xs[i]? = some a → j ≤ a) :=
  below_go h j xs.size 0 xs.size (by omega) (Nat.zero_le _) (Nat.le_refl _) (fun _ _ z => absurd z (Nat.not_lt_zero _)) fun i a z e => by
    have := (Array.getElem?_eq_some_iff.mp e).1
    omega
theorem below_next {xs : Array Nat} (h : Up xs) {k a : Nat} (e : xs[k]? = some a) : SetTable.below xs (a + 1) = k + 1 := by
  obtain ⟨h1, h2, h3⟩ := below_ok h (a + 1)
  by_cases c : SetTable.below xs (a + 1) ≤ k
  · have := h3 k a c e
    omega
  · by_cases c2 : k + 1 < SetTable.below xs (a + 1)
    · have hl : k + 1 < xs.size := by omega
      have e2 : xs[k + 1]? = some xs[k + 1] := by simp [hl]
      have a1 := h2 (k + 1) _ c2 e2
      have a2 := h.lt e e2 (by omega)
      omega
    · omega
theorem below_zero {xs : Array Nat} (h : Up xs) : SetTable.below xs 0 = 0 := by
  obtain ⟨h1, h2, h3⟩ := below_ok h 0
  by_cases c : SetTable.below xs 0 = 0
  · exact c
  · have hl : 0 < xs.size := by omega
    exact absurd (h2 0 _ (by omega) (show xs[0]? = some xs[0] by simp [hl])) (Nat.not_lt_zero _)
theorem up_insert {xs : Array Nat} (h : Up xs) {j : Nat} (hn : xs[SetTable.below xs j]? ≠ some j) : Up (SetTable.insertAt xs (SetTable.below xs j) j) := by
  obtain ⟨h1, h2, h3⟩ := below_ok h j
  show (SetTable.insertAt xs (SetTable.below xs j) j).toList.Pairwise (· < ·)
  rw [SetTable.toList_insertAt]
  rw [List.pairwise_append]
  have hsplit : xs.toList.take (SetTable.below xs j) ++ xs.toList.drop (SetTable.below xs j) = xs.toList := List.take_append_drop ..
  have hp : (xs.toList.take (SetTable.below xs j) ++ xs.toList.drop (SetTable.below xs j)).Pairwise (· < ·) := by rw [hsplit]; exact h
  obtain ⟨p1, p2, p3⟩ := List.pairwise_append.mp hp
  have tk : ∀ a ∈ xs.toList.take (SetTable.below xs j), a < j := fun a ha => by
    obtain ⟨i, hi⟩ := List.mem_iff_getElem?.mp ha
    rw [List.getElem?_take] at hi
    split at hi
    · rename_i hlt
      exact h2 i a hlt (by simpa using hi)
    · cases hi
  have dr : ∀ a ∈ xs.toList.drop (SetTable.below xs j), j < a := fun a ha => by
    obtain ⟨i, hi⟩ := List.mem_iff_getElem?.mp ha
    rw [List.getElem?_drop] at hi
    have hi' : xs[SetTable.below xs j + i]? = some a := by simpa using hi
    have a1 := h3 _ a (by omega) hi'
    rcases Nat.lt_or_eq_of_le a1 with z | z
    · exact z
    · subst z
      exfalso
      cases i with
      | zero => exact hn hi'
      | succ i =>
        have hl := (Array.getElem?_eq_some_iff.mp hi').1
        have e0 : xs[SetTable.below xs j]? = some xs[SetTable.below xs j] := by
          have : SetTable.below xs j < xs.size := by omega
          simp [this]
        have b1 := h3 _ _ (Nat.le_refl _) e0
        have b2 := h.lt e0 hi' (by omega)
        omega
  refine ⟨p1, List.pairwise_cons.mpr ⟨dr, p2⟩, fun a ha b hb => ?_⟩
  rcases List.mem_cons.mp hb with z | z
  · rw [z]; exact tk a ha
  · exact p3 a ha b z
structure Good (t : SetTable) (led : Bool) : Prop where
  up : Up t.place
  nod : t.dummies = #[]
  led : t.led = led
theorem has_none {j : Nat} : SetTable.has #[] j = false := by
  unfold SetTable.has
  simp
theorem slot_good {t : SetTable} {led : Bool} (g : Good t led) {j : Nat} (h : t.slot j = .empty) : t.place[SetTable.below t.place j]? ≠ some j := fun e => by
  unfold SetTable.slot at h
  dsimp only at h
  rw [e] at h
  simp at h
theorem probe_go {t : SetTable} {led : Bool} (g : Good t led) (f : Nat → Int) (h : Int) : ∀ (fuel : Nat) (p : SetTable.Probe) (j : Nat) (d : Option Nat), p.dummy = none → SetTable.probe.go t f h fuel p = some (.empty j d) → t.slot j = .empty ∧ d = none
  | 0, _, _, _, _, e => by cases e
  | fuel + 1, p, j, d, hp, e => by
    unfold SetTable.probe.go at e
    have adv : ∀ q : SetTable.Probe, q.dummy = none → (t.advance q).dummy = none := fun q hq => by
      unfold SetTable.advance
      split <;> exact hq
    split at e
    · rename_i hs
      cases e
      exact ⟨hs, hp⟩
    · rename_i hs
      exfalso
      unfold SetTable.slot at hs
      dsimp only at hs
      rw [g.nod, has_none] at hs
      split at hs <;> simp at hs
    · split at e
      · cases e
      · exact probe_go g f h fuel _ j d (adv p hp) e
theorem freeSlot_good {t : SetTable} {led : Bool} (g : Good t led) {h : Int} {j : Nat} {b : Bool} (e : t.freeSlot h = some (j, b)) : t.place[SetTable.below t.place j]? ≠ some j := by
  unfold SetTable.freeSlot at e
  split at e
  · rename_i j' d' hpr
    obtain ⟨h1, h2⟩ := probe_go g _ _ _ _ _ _ rfl hpr
    subst h2
    cases e
    exact slot_good g h1
  · cases e
theorem up_range (n : Nat) : Up (Array.range n) := by
  show (Array.range n).toList.Pairwise (· < ·)
  rw [Array.toList_range]
  exact List.pairwise_lt_range
theorem good_standIn {t : SetTable} {led : Bool} (g : Good t led) (n : Nat) : Good (t.standIn n) led := ⟨up_range n, rfl, g.led⟩
theorem layNew_good {t : SetTable} {led : Bool} (g : Good t led) (es : Array (Int × Value)) (h : Int) (x : Value) : Good (layNew t es h x).2.1 led := by
  unfold layNew
  split
  · rename_i slot wasDummy e
    have g2 : Good (t.put slot).1 led := by
      refine ⟨up_insert g.up (freeSlot_good g e), ?_, g.led⟩
      show (if SetTable.has t.dummies slot then _ else t.dummies) = #[]
      rw [g.nod, has_none]
      rfl
    show Good ((t.put slot).1.orStandIn _) led
    unfold SetTable.orStandIn
    split
    · exact g2
    · exact good_standIn g2 _
  · exact good_standIn g _
theorem laid_good {mask finger moves : Nat} {led plain : Bool} {hs : Array Int} {t : SetTable} {o : Array Nat} (e : SetTable.laid mask finger moves led plain hs = some (t, o)) : Good t led := by
  unfold SetTable.laid at e
  cases z : SetTable.layClean mask hs with
  | none => rw [z] at e; cases e
  | some owner =>
    rw [z] at e
    have e : some (({ mask, place := (((List.range (mask + 1)).filterMap fun j => (owner.getD j none).map (j, ·)).map (·.1)).toArray, dummies := #[], finger, led, moves, plain } : SetTable), _) = some (t, o) := e
    cases e
    refine ⟨?_, rfl, rfl⟩
    show (((List.range (mask + 1)).filterMap fun j => (owner.getD j none).map (j, ·)).map (·.1)).toArray.toList.Pairwise (· < ·)
    rw [List.toList_toArray, List.map_filterMap]
    have sub : List.Sublist ((List.range (mask + 1)).filterMap fun j => ((owner.getD j none).map (j, ·)).map (·.1)) (List.range (mask + 1)) := by
      generalize List.range (mask + 1) = l
      induction l with
      | nil => exact .slnil
      | cons a r ih =>
        rw [List.filterMap_cons]
        cases q : owner.getD a none with
        | none => exact ih.cons a
        | some v => exact ih.cons₂ a
    exact List.pairwise_lt_range.sublist sub
theorem relayAll_good {t : SetTable} {led : Bool} (g : Good t led) (es : Array (Int × Value)) (wanted : Nat) : Good (relayAll t es wanted).2.1 led := by
  unfold relayAll
  split
  · rename_i t' order e
    have g2 : Good t' t.led := laid_good e
    rw [g.led] at g2
    dsimp only
    split
    · exact g2
    · exact good_standIn g _
  · exact good_standIn g _
end LT
end
section
set_option maxHeartbeats 4000000
namespace LT
open PySem PySem.Spec PyProof.Rows
noncomputable def ledOf (w : World) : Bool := !w.params.followText "set-order"
noncomputable def SetG (prog : Program) (w : World) (h : Heap) (a : Addr) (S : Int → Bool) (n : Nat) : Prop :=
  ∃ ob es ep tb, (h.get? a = some ob ∧ ob.ExactSet ∧ ob.data = .set es ep tb) ∧ ElemsOf (intKind prog w) es.toList ∧ (∀ k, S k = true ↔ ∃ e ∈ es.toList, (intKind prog w).is k e.2 = true) ∧
    (es.size < scanBound ∧ tb.fits es.size = true ∧ es.size = n) ∧ Good tb (ledOf w)
theorem SetG.move {prog : Program} {w : World} {h h' : Heap} {a : Addr} {S S' : Int → Bool} {n n' : Nat} (g : SetG prog w h a S n) (k : ∀ ob, h.get? a = some ob → h'.get? a = some ob) (e : ∀ k, S k = S' k) (en : n = n') : SetG prog w h' a S' n' := by
  obtain ⟨ob, es, ep, tb, ⟨h1, h2, h3⟩, h4, h5, ⟨h6, h7, h8⟩, h9⟩ := g
  exact ⟨ob, es, ep, tb, ⟨k ob h1, h2, h3⟩, h4, fun z => by rw [← e z]; exact h5 z, ⟨h6, h7, h8.trans en⟩, h9⟩
section
variable {prog : Program} {w : World} {A : Around} {E : Value → Shared → Prop} {s : Shared}
theorem stored {a : Addr} {ob : Obj} {es es' : Array (Int × Value)} {ep : Nat} {tb tb' : SetTable} {S : Int → Bool} {R : Unit → Shared → Prop} (ho : s.heap.get? a = some ob) (hx : ob.ExactSet) (hd : ob.data = .set es ep tb)
    (hE : ElemsOf (intKind prog w) es'.toList) (hS : ∀ k, S k = true ↔ ∃ e ∈ es'.toList, (intKind prog w).is k e.2 = true) (hb : es'.size < scanBound) (hf : tb'.fits es'.size = true) (hg : Good tb' (ledOf w))
    (q : ∀ h', Heap.SameBut a s.heap h' → h'.get? a = some { ob with data := .set es' (ep + 1) tb' } → SetG prog w h' a S es'.size → R () { s with heap := h' }) : wpAny (model prog w) A (storeSet a es' tb') R E s := by
  have put := putSet_of es' tb' hd
  have at1 : (s.heap.update a (Obj.putSet es' tb')).get? a = some { ob with data := .set es' (ep + 1) tb' } := by
    have z := Heap.get?_update_self (Obj.putSet es' tb') ho (by rw [put]; rfl)
    rwa [put] at z
  exact wpAny_storeSet_of ho hd (q _ (Heap.SameBut.update ..) at1 ⟨_, es', ep + 1, tb', ⟨at1, hx, rfl⟩, hE, hS, ⟨hb, hf, rfl⟩, hg⟩) (fits_of_scanBound hb)
theorem addG {a : Addr} {S : Int → Bool} {n : Nat} {k : Int} {t : Tok} {Q : Bool → Shared → Prop} (g : SetG prog w s.heap a S n) (room : n + 1 < scanBound)
    (q : ∀ h' b, Heap.SameBut a s.heap h' → SetG prog w h' a (fun z => S z || decide (z = k)) (if S k then n else n + 1) → Q b { s with heap := h' }) :
    wpAny (model prog w) A (setAddHashed a (.int k t) ((intKind prog w).hash k)) Q E s := by
  have kis : (intKind prog w).is k (.int k t) = true := intKind_is _ _ _ _
  obtain ⟨ob, es, ep, tb, ⟨h1, h2, h3⟩, h4, h5, ⟨h6, h7, h8⟩, h9⟩ := g
  have scn : (Value.int k t).scannable = true := rfl
  unfold setAddHashed setAddHashedIn
  refine wpAny_holding (wpAny_bind (wpAny_setState_of h1 h3 h7 ?_))
  dsimp only
  rw [if_pos (byScan_of scn h6 h4)]
  refine wpAny_bind ?_
  unfold setAddByScan
  refine wpAny_bind (wpAny_rule (wpAny_bind (wpAny_setScan_of kis h1 h3 h7 h4 ?_)))
  cases fi : List.findIdx? (fun e => (intKind prog w).is k e.2) es.toList with
  | some j =>
    obtain ⟨lj, pj, _⟩ := List.findIdx?_eq_some_iff_getElem.mp fi
    have inS : S k = true := (h5 k).mpr ⟨_, List.getElem_mem lj, pj⟩
    refine wpAny_pure (wpAny_pure ?_)
    have z := q s.heap false (Heap.SameBut.refl ..) ⟨ob, es, ep, tb, ⟨h1, h2, h3⟩, h4, fun y => ?_, ⟨h6, h7, by rw [inS]; exact h8⟩, h9⟩
    · exact z
    · rw [← h5 y, Bool.or_eq_true, decide_eq_true_eq]
      exact ⟨fun c => c.elim id fun c => by rw [c]; exact inS, .inl⟩
  | none =>
    have noS : S k = false := by
      rw [← Bool.not_eq_true, h5 k]
      rintro ⟨e, he, pe⟩
      have := List.findIdx?_eq_none_iff.mp fi e he
      rw [pe] at this
      cases this
    have L1 := layNew_perm tb es ((intKind prog w).hash k) (.int k t)
    have L2 := layNew_fits tb es ((intKind prog w).hash k) (.int k t)
    have L3 := layNew_good h9 es ((intKind prog w).hash k) (.int k t)
    generalize hl : layNew tb es ((intKind prog w).hash k) (.int k t) = ln at L1 L2 L3 ⊢
    obtain ⟨es1, tb1, wd, gv⟩ := ln
    dsimp only at L1 L2 L3 ⊢
    rw [Array.toList_push] at L1
    have E1 : ElemsOf (intKind prog w) es1.toList := (h4.push kis scn).perm L1
    have M1 : ∀ y, (S y || decide (y = k)) = true ↔ ∃ e ∈ es1.toList, (intKind prog w).is y e.2 = true := mem_push_iff kis h5 L1
    have Z1 : es1.size = n + 1 := by
      have z := L1.length_eq
      rw [List.length_append, Array.length_toList, Array.length_toList] at z
      rw [z, h8]; rfl
    have B1 : es1.size < scanBound := by rw [Z1]; exact room
    have quiet : ∀ (b : Bool) (s1 : Shared) (R : Unit → Shared → Prop), R () s1 → wpAny (model prog w) A (match b with | true => rule "set.scan.the-table-gave-way" | false => pure ()) R E s1 := fun b s1 R z => by
      cases b
      · exact wpAny_pure z
      · exact wpAny_rule z
    have fin : ∀ (s1 : Shared) (h' : Heap), s1 = { s with heap := h' } → Heap.SameBut a s.heap h' → SetG prog w h' a (fun y => S y || decide (y = k)) es1.size → Q true s1 := fun s1 h' e1 sb gg => by
      subst e1
      have z := q h' true sb
      rw [noS] at z
      exact z (by rw [Z1] at gg; exact gg)
    refine wpAny_bind (quiet _ _ _ ?_)
    have tail : ∀ (gw : Bool → Sem Unit), (∀ (b : Bool) (s1 : Shared) (R : Unit → Shared → Prop), R () s1 → wpAny (model prog w) A (gw b) R E s1) → wpAny (model prog w) A (do
        storeSet a es1 tb1
        if (!wd && tb1.tooFull) = true then do
          gw (relayAll tb1 es1 (SetTable.grown es1.size)).2.2
          storeSet a (relayAll tb1 es1 (SetTable.grown es1.size)).1 (relayAll tb1 es1 (SetTable.grown es1.size)).2.1
          pure (some true)
        else pure (some true)) (fun r s' => wpAny (model prog w) A (match r with | some b => pure b | none => setAddHashedIn a (.int k t) ((intKind prog w).hash k) 99999) Q E s') E s := by
      intro gw hgw
      refine wpAny_bind (stored h1 h2 h3 E1 M1 B1 L2 L3 fun h' sb at1 gg => ?_)
      by_cases full : (!wd && tb1.tooFull) = true
      · rw [if_pos full]
        have P2 := relayAll_perm tb1 es1 (SetTable.grown es1.size)
        have F2 := relayAll_fits tb1 es1 (SetTable.grown es1.size)
        have G2 := relayAll_good L3 es1 (SetTable.grown es1.size)
        generalize relayAll tb1 es1 (SetTable.grown es1.size) = rl at P2 F2 G2 ⊢
        obtain ⟨es2, tb2, gv2⟩ := rl
        dsimp only at P2 F2 G2 ⊢
        have Z2 : es2.size = es1.size := by
          have z := P2.length_eq
          rwa [Array.length_toList, Array.length_toList] at z
        refine wpAny_bind (hgw _ _ _ (wpAny_bind (stored (s := { s with heap := h' }) (S := fun y => S y || decide (y = k)) at1 h2 rfl (E1.perm P2) (fun y => (M1 y).trans ?_) (by rw [Z2]; exact B1) F2 G2 fun h'' sb2 _ gg2 => ?_)))
        · exact ⟨fun ⟨e, he, pe⟩ => ⟨e, P2.mem_iff.mpr he, pe⟩, fun ⟨e, he, pe⟩ => ⟨e, P2.mem_iff.mp he, pe⟩⟩
        · exact wpAny_pure (wpAny_pure (fin _ h'' rfl (sb.trans sb2) (by rw [Z2] at gg2; exact gg2)))
      · rw [if_neg full]
        exact wpAny_pure (wpAny_pure (fin _ h' rfl sb gg))
    split
    · rw [hashByValue_scannable 8 scn]
      refine wpAny_bind (wpAny_pure ?_)
      exact tail _ fun b s1 R z => by cases b <;> first | exact wpAny_pure z | exact wpAny_rule z
    · refine wpAny_bind (wpAny_pure ?_)
      exact tail _ fun b s1 R z => by cases b <;> first | exact wpAny_pure z | exact wpAny_rule z
end
end LT
end
section
set_option maxHeartbeats 8000000
namespace LT
open PySem PySem.Spec PyProof.Rows
section
variable {prog : Program} {w : World} {A : Around} {R : Result → Shared → Prop} {it : Addr} {fp wr : List Addr} {G : Array GenState → Array GenState → Prop} {n : Nat} {P : Nat → Value → Prop} {St : Nat → Shared → Prop}
theorem updG (W : WalksS prog w A.in1 it fp wr G n P St) (a : Addr) (ha : a ∉ fp) (val : Nat → Int) (hval : ∀ i v, P i v → ∃ t, v = .int (val i) t) (room : n + 1 < scanBound) :
    ∀ (left i : Nat) (s : Shared), n - i = left → i ≤ n → St i s → SetG prog w s.heap a (fun z => (firstMet val i).any (· == z)) (firstMet val i).length →
      (∀ s', Moved (a :: wr) G s s' → SetG prog w s'.heap a (fun z => (firstMet val n).any (· == z)) (firstMet val n).length → R (.ok (.ret .none)) s') →
      codeAny (model prog w) A (.builtin "set.update.loop" ⟨[.ref a, .ref it], []⟩) R s := by
  have awr : a ∉ wr := fun z => ha (W.sub _ z)
  have more : ∀ b ∈ wr, b ∈ a :: wr := fun b z => .tail _ z
  intro left
  induction left with
  | zero =>
    intro i s hleft hin st g q
    obtain rfl : i = n := by omega
    refine codeAny_builtin F.entry_set_update_loop ?_
    rw [Around.under_plainId F.plain_set_update_loop _]
    show wpAny _ _ (pyNext (.ref it) >>= _) _ _ _
    refine wpAny_bind (W.done s _ _ st fun s' mv => ?_)
    exact wpAny_pure (q s' (mv.mono more) (g.move (fun ob e => mv.heap a ob awr e) (fun _ => rfl) rfl))
  | succ left ih =>
    intro i s hleft hin st g q
    have hi : i < n := by omega
    refine codeAny_builtin F.entry_set_update_loop ?_
    rw [Around.under_plainId F.plain_set_update_loop _]
    show wpAny _ _ (pyNext (.ref it) >>= _) _ _ _
    refine wpAny_bind (W.item i s _ _ hi st fun v s1 pv st1 mv => ?_)
    obtain ⟨t, rfl⟩ := hval i v pv
    have g1 : SetG prog w s1.heap a (fun z => (firstMet val i).any (· == z)) (firstMet val i).length := g.move (fun ob e => mv.heap a ob awr e) (fun _ => rfl) rfl
    show wpAny _ _ (holding [Value.int (val i) t] (setAdd a (.int (val i) t)) >>= _) _ _ _
    refine wpAny_bind (wpAny_holding ?_)
    unfold setAdd
    refine wpAny_holding (wpAny_bind ((intKind prog w).pyHash (k := val i) (intKind_is _ _ _ _) ?_))
    have few := firstMet_length_le val i
    refine addG (s := { s1 with toks := s1.toks + 1 }) g1 (by omega) fun h2 b sb g2 => ?_
    have g3 : SetG prog w h2 a (fun z => (firstMet val (i + 1)).any (· == z)) (firstMet val (i + 1)).length :=
      g2.move (fun _ e => e) (fun z => by rw [firstMet_succ, step_any]) (by rw [firstMet_succ, step_length])
    have off : ∀ b, b ≠ a → h2.get? b = s1.heap.get? b := fun b hb => sb.2 b hb
    refine wpAny_pure ⟨plainId_quiet F.plain_set_update_loop _, ih (i + 1) _ (by omega) hi (W.frame _ s1 _ _ st1 (Nat.le_succ _) fun b hb ob e => ?_) g3 fun s3 mv3 g4 => ?_⟩
    · rw [off b fun z => ha (z ▸ hb)]
      exact e
    · refine q s3 (.trans W.gtrans ((mv.mono more).then_heap (Nat.le_succ _) fun b ob hb e => ?_) mv3) g4
      rw [off b fun z => hb (z ▸ .head _)]
      exact e
end
section
variable {prog : Program} {w : World} {A : Around} {E : Value → Shared → Prop} {s : Shared}
theorem freshG (h : Heap) : SetG prog w (h.push { cls := .type "set", dict := none, data := .set #[] 0 (.fresh 0 0 (ledOf w)) }) h.objs.size (fun _ => false) 0 :=
  ⟨_, #[], 0, _, ⟨Heap.get?_push_size _ rfl, ⟨rfl, rfl, rfl⟩, rfl⟩, fun e he => by simp at he, fun k => by simp, ⟨by decide, rfl, rfl⟩, ⟨List.Pairwise.nil, rfl, rfl⟩⟩
theorem newG (x : Value) {Q : Value → Shared → Prop} (q : Q (.ref s.heap.objs.size) { s with heap := s.heap.push { cls := .type "set", dict := none, data := .set #[] 0 (.fresh 0 0 (ledOf w)) } }) :
    codeAny (model prog w) A (.call (.builtin "set.__new__") ⟨[.type "set", x], []⟩) (wants Q E) s := by
  refine codeAny_of_tree ?_
  show wpAny _ _ (do checkBuiltinCall "set.__new__" ⟨[.type "set", x], []⟩; again (.builtin "set.__new__" ⟨[.type "set", x], []⟩)) _ _ _
  refine wpAny_bind (wpAny_of_eq (F.newCall_set_1 x) (wpAny_pure ⟨plainId_quiet F.plain_set_new _, codeAny_builtin F.entry_set_new ?_⟩))
  rw [Around.under_plainId F.plain_set_new _]
  unfold Builtin.«set.__new__» Builtin.Frozenset.newClass
  have self := sub_set_self
  obtain ⟨hp, gs, dr, tk, os⟩ := s
  dsimp only
  wp_walk
  refine wpAny_askSetting (wpAny_pure ?_)
  dsimp only
  simp only [newObj]
  exact wpAny_bind (wpAny_alloc (wpAny_pure (wpAny_pure q)))
theorem setG {l : Addr} {T : String} {items : Array Value} {ns : List Int} {Q : Value → Shared → Prop} (hh : A.handled = none) (hT : (T = "list" ∧ s.heap.IsList l items) ∨ (T = "tuple" ∧ s.heap.IsTuple l items)) (hi : IntsAre items.toList ns) (room : items.size + 1 < scanBound)
    (q : ∀ (h' : Heap) (tk : Nat), SetG prog w h' s.heap.objs.size (fun z => (firstMet (fun i => ns.getD i 0) items.size).any (· == z)) (firstMet (fun i => ns.getD i 0) items.size).length → (∀ b ob, s.heap.get? b = some ob → h'.get? b = some ob) →
      Q (.ref s.heap.objs.size) { s with heap := h', toks := tk }) : wpAny (model prog w) A (call (.type "set") [.ref l]) Q E s := by
  obtain ⟨c, tl, hmro⟩ := F.called_set.mro
  have hmade := F.called_set.made
  have hsub := F.called_set.sub
  refine wpAny_call (codeAny_of_tree ?_)
  show wpAny _ _ (callAny (.type "set") _) _ _ _
  refine wpAny_pure ⟨Code.quiet_builtin _ (by decide +kernel), codeAny_builtin F.entry_type_call ?_⟩
  rw [Around.under_plain (weight_type_call_type "set" [.ref l] []) rfl]
  have hnt := F.called_set.notType
  have hcc := F.called_set.canCreate
  have htc := F.typeCall_set_1 (.ref l)
  repeat' (first | assumption | wp_step)
  refine codeAny_mono (newG (.ref l) (E := E) (Q := fun v s1 => v = .ref s.heap.objs.size ∧ s1 = { s with heap := s.heap.push { cls := .type "set", dict := none, data := .set #[] 0 (.fresh 0 0 (ledOf w)) } }) ⟨rfl, rfl⟩) fun r s1 hr => ?_
  cases r with
  | error e => exact hr
  | ok fl =>
    cases fl with
    | ret v =>
      obtain ⟨rfl, rfl⟩ := hr
      have laid : (s.heap.push { cls := .type "set", dict := none, data := .set #[] 0 (.fresh 0 0 (ledOf w)) }).get? s.heap.objs.size = some { cls := .type "set", dict := none, data := .set #[] 0 (.fresh 0 0 (ledOf w)) } := Heap.get?_push_size _ rfl
      have isSet : Shared.TypeIs { s with heap := s.heap.push { cls := .type "set", dict := none, data := .set #[] 0 (.fresh 0 0 (ledOf w)) } } (.ref s.heap.objs.size) "set" := ⟨_, laid, rfl⟩
      have hli := F.called_set.init.lookup
      have hbi := F.called_set.init.bind (.ref s.heap.objs.size)
      repeat' (first | assumption | wp_step)
      refine codeAny_mono (codeAny_call_builtin (R := wants (fun z s2 => z = .none ∧ ∃ h' tk, s2 = { s with heap := h', toks := tk } ∧
          SetG prog w h' s.heap.objs.size (fun z => (firstMet (fun i => ns.getD i 0) items.size).any (· == z)) (firstMet (fun i => ns.getD i 0) items.size).length ∧ (∀ b ob, s.heap.get? b = some ob → h'.get? b = some ob)) E) F.called_set.init.plain F.entry_set_init (check_set_init_1 isSet ?_)) fun r2 s2 hr2 => ?_
      · have keepL : ∀ ob, s.heap.get? l = some ob → (s.heap.push { cls := .type "set", dict := none, data := .set #[] 0 (.fresh 0 0 (ledOf w)) }).get? l = some ob := fun ob e => Heap.get?_push_of_some _ e
        have hval : ∀ (i : Nat) (v : Value), items[i]? = some v → ∃ t, v = .int ((fun i => ns.getD i 0) i) t := fun i v hv => IntsAre.int_at hi i v (by rw [Array.getElem?_toList]; exact hv)
        have hh3 : A.in1.in1.in1.handled = none := by simp [hh]
        have done1 : ∀ (l0 : Addr) (h0 : Heap) (s' : Shared), l0 = s.heap.objs.size → Moved [l0, (s.heap.push { cls := .type "set", dict := none, data := .set #[] 0 (.fresh 0 0 (ledOf w)) }).objs.size] (fun a b => b = a) { s with heap := h0 } s' → (∀ b ob, s.heap.get? b = some ob → h0.get? b = some ob) →
            (∀ b ob, s.heap.get? b = some ob → s'.heap.get? b = some ob) ∧ s' = { s with heap := s'.heap, toks := s'.toks } := fun l0 h0 s' e0 mv k0 => by
          refine ⟨fun b ob e => mv.heap b ob (fun z => ?_) (k0 b ob e), ?_⟩
          · have lt := Heap.lt_size e
            rw [Heap.size_push, e0] at z
            simp only [List.mem_cons, List.not_mem_nil, or_false] at z
            rcases z with z | z
            · exact Nat.lt_irrefl _ (z ▸ lt)
            · exact Nat.lt_irrefl _ (Nat.lt_of_succ_lt (z ▸ lt))
          · obtain ⟨h', g', d', tk', os'⟩ := s'
            have eg : g' = s.gens := mv.gens
            have ed : d' = s.drawn := mv.drawn
            have eo : os' = s.os := mv.os
            subst eg ed eo
            rfl
        unfold Builtin.«set.__init__» noKeywords Builtin.Frozenset.updateFrom
        generalize hPI : pyIter = PI
        rcases hT with ⟨rfl, hl⟩ | ⟨rfl, hl⟩
        · obtain ⟨⟨ocl, odi, oda, osl⟩, hol, hcl, nl, hdl⟩ := hl
          simp only at hcl hdl
          subst hcl hdl
          have hol' := keepL _ hol
          have f1 := F.sub_list_set
          have f2 := F.sub_list_frozenset
          have f3 : (Value.type "list" == Value.type "dict") = false := by decide
          wp_walk
          subst hPI
          have hl1 : (s.heap.push { cls := .type "set", dict := none, data := .set #[] 0 (.fresh 0 0 (ledOf w)) }).IsList l items := ⟨_, hol', rfl, nl, rfl⟩
          refine wpAny_pyIter_list hl1 ?_
          refine wpAny_bind (wpAny_runValue ?_)
          have ltl : l < s.heap.objs.size := Heap.lt_size hol
          have szp : (s.heap.push { cls := .type "set", dict := none, data := .set #[] 0 (.fresh 0 0 (ledOf w)) }).objs.size = s.heap.objs.size + 1 := Heap.size_push ..
          have ne1 : l ≠ (s.heap.push { cls := .type "set", dict := none, data := .set #[] 0 (.fresh 0 0 (ledOf w)) }).objs.size := by rw [szp]; exact Nat.ne_of_lt (Nat.lt_succ_of_lt ltl)
          have ne2 : s.heap.objs.size ∉ [(s.heap.push { cls := .type "set", dict := none, data := .set #[] 0 (.fresh 0 0 (ledOf w)) }).objs.size, l] := by
            rw [szp]
            simp only [List.mem_cons, List.not_mem_nil, or_false]
            rintro (z | z)
            · exact Nat.succ_ne_self _ z.symm
            · exact Nat.lt_irrefl _ (z ▸ ltl)
          refine updG ((Walks.list hh3 _ l ne1 items).toS) s.heap.objs.size ne2 (fun i => ns.getD i 0) hval room _ 0 _ rfl (Nat.zero_le _) ⟨⟨_, Heap.get?_push_size _ rfl, rfl, rfl⟩, hl1.push _⟩ ?g0 fun s' mv gg => ?_
          case g0 => exact (freshG s.heap).move (fun ob e => Heap.get?_push_of_some _ e) (fun _ => rfl) rfl
          obtain ⟨k1, k2⟩ := done1 _ _ s' rfl mv fun b ob e => Heap.get?_push_of_some _ (Heap.get?_push_of_some _ e)
          exact wpAny_pure (wpAny_pure ⟨rfl, s'.heap, s'.toks, k2, gg, k1⟩)
        · obtain ⟨⟨ocl, odi, oda, osl⟩, hol, hcl, nl, hdl⟩ := hl
          simp only at hcl hdl
          subst hcl hdl
          have hol' := keepL _ hol
          have f1 := F.sub_tuple_set
          have f2 := F.sub_tuple_frozenset
          have f3 : (Value.type "tuple" == Value.type "dict") = false := by decide
          wp_walk
          subst hPI
          have hl1 : (s.heap.push { cls := .type "set", dict := none, data := .set #[] 0 (.fresh 0 0 (ledOf w)) }).IsTuple l items := ⟨_, hol', rfl, nl, rfl⟩
          refine wpAny_pyIter_tuple hl1 ?_
          refine wpAny_bind (wpAny_runValue ?_)
          have ltl : l < s.heap.objs.size := Heap.lt_size hol
          have szp : (s.heap.push { cls := .type "set", dict := none, data := .set #[] 0 (.fresh 0 0 (ledOf w)) }).objs.size = s.heap.objs.size + 1 := Heap.size_push ..
          have ne1 : l ≠ (s.heap.push { cls := .type "set", dict := none, data := .set #[] 0 (.fresh 0 0 (ledOf w)) }).objs.size := by rw [szp]; exact Nat.ne_of_lt (Nat.lt_succ_of_lt ltl)
          have ne2 : s.heap.objs.size ∉ [(s.heap.push { cls := .type "set", dict := none, data := .set #[] 0 (.fresh 0 0 (ledOf w)) }).objs.size, l] := by
            rw [szp]
            simp only [List.mem_cons, List.not_mem_nil, or_false]
            rintro (z | z)
            · exact Nat.succ_ne_self _ z.symm
            · exact Nat.lt_irrefl _ (z ▸ ltl)
          refine updG ((Walks.tuple hh3 _ l ne1 items).toS) s.heap.objs.size ne2 (fun i => ns.getD i 0) hval room _ 0 _ rfl (Nat.zero_le _) ⟨⟨_, Heap.get?_push_size _ rfl, rfl, rfl⟩, ⟨_, Heap.get?_push_of_some _ hol', rfl, nl, rfl⟩⟩ ?g0 fun s' mv gg => ?_
          case g0 => exact (freshG s.heap).move (fun ob e => Heap.get?_push_of_some _ e) (fun _ => rfl) rfl
          obtain ⟨k1, k2⟩ := done1 _ _ s' rfl mv fun b ob e => Heap.get?_push_of_some _ (Heap.get?_push_of_some _ e)
          exact wpAny_pure (wpAny_pure ⟨rfl, s'.heap, s'.toks, k2, gg, k1⟩)
      · cases r2 with
        | error e => exact hr2
        | ok fl2 =>
          cases fl2 with
          | ret z =>
            obtain ⟨rfl, h', tk, rfl, gg, k1⟩ := hr2
            repeat' (first | assumption | wp_step)
            exact q _ _ gg k1
          | _ => exact hr2.elim
    | _ => exact hr.elim
end
end LT
end
section
set_option maxHeartbeats 8000000
namespace LT
open PySem PySem.Spec PyProof.Rows
theorem slot_sit_next : Slot "set_iterator" "__next__" "set_iterator.__next__" := .of (owner := "set_iterator") (n := "__next__") (by rw [typeLookup_type, builtinLookup_eq_fast]; kernel_rfl) (by decide +kernel) (by decide +kernel) (by decide +kernel) (by first | exact .inl (by decide +kernel) | exact .inr (by decide +kernel)) (by rw [isSubtype_type]; kernel_rfl)
theorem slot_sit_iter : Slot "set_iterator" "__iter__" "set_iterator.__iter__" := .of (owner := "set_iterator") (n := "__iter__") (by rw [typeLookup_type, builtinLookup_eq_fast]; kernel_rfl) (by decide +kernel) (by decide +kernel) (by decide +kernel) (by first | exact .inl (by decide +kernel) | exact .inr (by decide +kernel)) (by rw [isSubtype_type]; kernel_rfl)
theorem entry_sit_next : entryFor table "set_iterator.__next__" = some Builtin.«set_iterator.__next__» := entryFor_of_tree (by kernel_rfl)
theorem entry_sit_iter : entryFor table "set_iterator.__iter__" = some Builtin.«dict_keyiterator.__iter__» := entryFor_alias (id' := "dict_keyiterator.__iter__") (by kernel_rfl) rfl (by decide +kernel) (by kernel_rfl)
theorem args_sit_next (a : Value) : argsOk "set_iterator.__next__" ⟨[a], []⟩ := by unfold argsOk; kernel_rfl
theorem args_sit_iter (a : Value) : argsOk "set_iterator.__iter__" ⟨[a], []⟩ := by unfold argsOk; kernel_rfl
theorem entry_set_iter : entryFor table "set.__iter__" = some Builtin.«frozenset.__iter__» := entryFor_alias (id' := "frozenset.__iter__") (by kernel_rfl) rfl (by decide +kernel) (by kernel_rfl)
noncomputable def SIt (h : Heap) (it a : Addr) (first : Value) (i n ep : Nat) : Prop := h.get? it = some { cls := .type "set_iterator", dict := none, data := .fields #[first, .int i 0, .ref a, .int n 0, .int ep 0], slots := #[] }
structure SObj (h : Heap) (a : Addr) (es : Array (Int × Value)) (ep : Nat) (tb : SetTable) : Prop where
  at_ : ∃ ob, h.get? a = some ob ∧ ob.ExactSet ∧ ob.data = .set es ep tb
  fits : tb.fits es.size = true
section
variable {prog : Program} {w : World} {A : Around} {E : Value → Shared → Prop} {s : Shared}
theorem next_by {it a : Addr} {first : Value} {i n ep : Nat} {es : Array (Int × Value)} {tb : SetTable} {Q : Option Value → Shared → Prop} (hI : SIt s.heap it a first i n ep) (hS : SObj s.heap a es ep tb) (hn : es.size = n) (slot : Nat) (hf : first = .int slot 0)
    (q : wpAny (model prog w) A.in1 (do
      match ← setNext a slot i ep with
      | some (x, next) =>
        setField (.ref it) 0 (rawInt next)
        setField (.ref it) 1 (rawInt ((i : Int) + 1))
        ret x
      | none => setField (.ref it) 2 .none; raiseNew (← newExc (.type "StopIteration") [])) (fun f s' => ∃ v, f = .done (.ret v) ∧ Q (some v) s') (fun e s' => wpAny (model prog w) A (do if ← isInstance e (.type "StopIteration") then pure none else throw e) Q E s') s) :
    wpAny (model prog w) A (pyNext (.ref it)) Q E s := by
  obtain ⟨ob, ho, hx, hd⟩ := hS.at_
  subst hf
  have tI : s.TypeIs (.ref it) "set_iterator" := ⟨_, hI, rfl⟩
  unfold pyNext
  refine wpAny_bind (wpAny_attempt (wpAny_callSpecial?_slot (name := Str.ofString "__next__") tI slot_sit_next (wpAny_call_entry slot_sit_next tI entry_sit_next ?_ (args_sit_next _))))
  unfold Builtin.«set_iterator.__next__»
  refine wpAny_bind (m := slotArgs "__next__" 0 _) (wpAny_pure ?_)
  refine wpAny_bind (m := fieldsOf (.ref it)) ?_
  unfold fieldsOf
  refine wpAny_bind (wpAny_load hI (wpAny_pure ?_))
  refine wpAny_bind (wpAny_setEntries_of ho hd hS.fits ?_)
  have same : ¬ (((es.size : Nat) : Int) != (n : Int)) = true := by rw [hn]; simp
  rw [if_neg same]
  exact wpAny_mono q (fun f s' ⟨v, e, z⟩ => ⟨v, e, wpAny_pure z⟩) fun e s' z => z
theorem stop_by {it : Addr} {r : Shared → Prop} {Q : Option Value → Shared → Prop} (hh : A.handled = none) (q : ∀ h', (∀ b ob, s.heap.get? b = some ob → h'.get? b = some ob) → Q none { s with heap := h' }) :
    wpAny (model prog w) A.in1 (do raiseNew (← newExc (.type "StopIteration") []) : Sem PySem.Fin) (fun f s' => ∃ v, f = .done (.ret v) ∧ Q (some v) s') (fun e s' => wpAny (model prog w) A (do if ← isInstance e (.type "StopIteration") then pure none else throw e) Q E s') s := by
  refine wpAny_bind ?_
  simp only [newExc, newTuple]
  refine wpAny_bind (wpAny_newObj_type ?_ (by size_fits))
  refine wpAny_bind (m := firstArgMember _ _) (wpAny_of_eq (a := Value.none) (by first | rfl | (simp only [firstArgMember]; rfl)) ?_)
  refine wpAny_newObj_type ?_ (by size_fits)
  simp only [raiseNew]
  refine wpAny_bind (wpAny_handled ?_)
  rw [show A.in1.handled = none from hh]
  refine wpAny_bind (wpAny_pure (wpAny_throw ?_))
  refine wpAny_bind (wpAny_isInstance (T := "StopIteration") (b := true) ⟨_, Heap.get?_push_size _ rfl, rfl⟩ isSubtype_stop ?_)
  exact wpAny_pure (q _ fun b ob e => Heap.get?_push_of_some _ (Heap.get?_push_of_some _ e))
theorem SIt.set {h h' : Heap} {it a : Addr} {first : Value} {i n ep : Nat} (x : SIt h it a first i n ep) : it < h.objs.size := Heap.lt_size x
theorem place_size {es : Array (Int × Value)} {tb : SetTable} (hf : tb.fits es.size = true) : tb.place.size = es.size := by
  unfold SetTable.fits at hf
  simp only [Bool.and_eq_true, beq_iff_eq] at hf
  exact hf.1
theorem setNext_plain {a : Addr} {ep i slot : Nat} {es : Array (Int × Value)} {tb : SetTable} {R : Option (Value × Nat) → Shared → Prop} (hS : SObj s.heap a es ep tb) (led : tb.led = true) (bt : w.params.followText "set-order" = false) (pl : (!tb.plain && decide (es.size > 1)) = false)
    (q : R (match es[SetTable.below tb.place slot]?, tb.place[SetTable.below tb.place slot]? with | some (_, x), some j => some (x, j + 1) | _, _ => none) s) : wpAny (model prog w) A (setNext a slot i ep) R E s := by
  obtain ⟨ob, ho, hx, hd⟩ := hS.at_
  unfold setNext
  refine wpAny_bind (wpAny_setState_of ho hd hS.fits ?_)
  dsimp only
  unfold setsByText
  refine wpAny_bind (wpAny_bind (wpAny_askSetting (wpAny_pure ?_)))
  dsimp only
  rw [show (model prog w).w.params.followText "set-order" = false from bt]
  simp only [Bool.false_eq_true, if_false]
  show wpAny _ _ (if (!tb.plain && decide (es.size > 1)) = true then _ else _) _ _ _
  rw [if_neg (by rw [pl]; exact Bool.false_ne_true)]
  refine wpAny_bind ?_
  show wpAny _ _ (if (!tb.led && !es.isEmpty) = true then _ else _) _ _ _
  rw [if_neg (by rw [led]; exact Bool.false_ne_true)]
  exact wpAny_pure (wpAny_pure q)
theorem setNext_text {a : Addr} {ep i slot : Nat} {es : Array (Int × Value)} {tb : SetTable} {R : Option (Value × Nat) → Shared → Prop} (hS : SObj s.heap a es ep tb) (bt : w.params.followText "set-order" = true)
    (q : R (((pickOrder (w.params.setOrder a ep) es)[i]?).map fun e => (e.2, slot)) s) : wpAny (model prog w) A (setNext a slot i ep) R E s := by
  obtain ⟨ob, ho, hx, hd⟩ := hS.at_
  unfold setNext
  refine wpAny_bind (wpAny_setState_of ho hd hS.fits ?_)
  dsimp only
  unfold setsByText
  refine wpAny_bind (wpAny_bind (wpAny_askSetting (wpAny_pure ?_)))
  dsimp only
  rw [show (model prog w).w.params.followText "set-order" = true from bt]
  simp only [if_true]
  rw [if_neg (by simp)]
  refine wpAny_bind ?_
  unfold setWalk
  refine wpAny_bind (wpAny_setState_of ho hd hS.fits ?_)
  dsimp only
  unfold setsByText
  refine wpAny_bind (wpAny_bind (wpAny_askSetting (wpAny_pure ?_)))
  dsimp only
  rw [show (model prog w).w.params.followText "set-order" = true from bt]
  simp only [if_true]
  refine wpAny_bind (wpAny_askSetting (wpAny_pure (wpAny_pure q)))
theorem item_by {it a : Addr} {n ep i slot nx : Nat} {x : Value} {es : Array (Int × Value)} {tb : SetTable} {Q : Option Value → Shared → Prop} (hI : SIt s.heap it a (.int slot 0) i n ep) (hS : SObj s.heap a es ep tb) (hn : es.size = n)
    (st : ∀ (R : Option (Value × Nat) → Shared → Prop) (E' : Value → Shared → Prop), R (some (x, nx)) s → wpAny (model prog w) A.in1 (setNext a slot i ep) R E' s)
    (q : ∀ h', SIt h' it a (.int nx 0) (i + 1) n ep → Heap.SameBut it s.heap h' → Q (some x) { s with heap := h' }) : wpAny (model prog w) A (pyNext (.ref it)) Q E s := by
  refine next_by hI hS hn slot rfl (wpAny_bind (st _ _ ?_))
  dsimp only
  refine wpAny_bind (wpAny_setField_rec hI (by simp) fun h1 a1 sb1 => ?_)
  refine wpAny_bind (wpAny_setField_rec (s := { s with heap := h1 }) a1 (by simp) fun h2 a2 sb2 => ?_)
  refine wpAny_pure ⟨x, rfl, q h2 ?_ (sb1.trans sb2)⟩
  unfold SIt
  rw [a2]
  simp [rawInt]
theorem end_by {it a : Addr} {n ep i slot : Nat} {es : Array (Int × Value)} {tb : SetTable} {Q : Option Value → Shared → Prop} (hh : A.handled = none) (hI : SIt s.heap it a (.int slot 0) i n ep) (hS : SObj s.heap a es ep tb) (hn : es.size = n)
    (st : ∀ (R : Option (Value × Nat) → Shared → Prop) (E' : Value → Shared → Prop), R none s → wpAny (model prog w) A.in1 (setNext a slot i ep) R E' s)
    (q : ∀ h', (∀ b ob, b ≠ it → s.heap.get? b = some ob → h'.get? b = some ob) → Q none { s with heap := h' }) : wpAny (model prog w) A (pyNext (.ref it)) Q E s := by
  refine next_by hI hS hn slot rfl (wpAny_bind (st _ _ ?_))
  dsimp only
  refine wpAny_bind (wpAny_setField_rec hI (by simp) fun h1 a1 sb1 => ?_)
  exact stop_by (r := fun _ => True) (it := it) (s := { s with heap := h1 }) hh fun h' k => q h' fun b ob hb e => k b ob ((sb1.2 b hb).trans e)
end
end LT
end
section
set_option maxHeartbeats 8000000
namespace LT
open PySem PySem.Spec PyProof.Rows
theorem perm_erase {α : Type} : ∀ {l : List α} {i : Nat} {x : α}, l[i]? = some x → List.Perm l (x :: l.eraseIdx i)
  | [], _, _, e => by simp at e
  | a :: r, 0, x, e => by simp at e; subst e; exact .rfl
  | a :: r, i + 1, x, e => by
    have e : r[i]? = some x := by simpa using e
    exact ((perm_erase e).cons a).trans (.swap x a _)
theorem len_eraseIdx {α : Type} {l : List α} {i : Nat} {x : α} (e : l[i]? = some x) : (l.eraseIdx i).length + 1 = l.length := by
  have := (perm_erase e).length_eq
  rw [List.length_cons] at this
  exact this.symm
theorem pick_perm {α : Type} (nx : Nat → Nat) : ∀ (fuel k : Nat) (left : List α) (out : Array α), left.length = fuel → List.Perm (pickOrder.go nx fuel k left out).toList (out.toList ++ left)
  | 0, k, left, out, h => by
    have : left = [] := List.length_eq_zero_iff.mp h
    subst this
    simp [pickOrder.go]
  | fuel + 1, k, left, out, h => by
    unfold pickOrder.go
    have hl : nx k % left.length < left.length := Nat.mod_lt _ (by omega)
    have e : left[nx k % left.length]? = some left[nx k % left.length] := by simp [hl]
    rw [e]
    dsimp only
    have hz := len_eraseIdx e
    refine (pick_perm nx fuel (k + 1) _ _ (by omega)).trans ?_
    rw [Array.toList_push, List.append_assoc]
    exact List.Perm.append_left _ (perm_erase e).symm
theorem pickOrder_perm {α : Type} (nx : Nat → Nat) (xs : Array α) : List.Perm (pickOrder nx xs).toList xs.toList := by
  have := pick_perm nx xs.size 0 xs.toList #[] (by simp)
  simpa [pickOrder] using this
section
variable {prog : Program} {w : World} {A : Around} {E : Value → Shared → Prop} {s : Shared}
theorem wpAny_draw {src : Source} {n : Nat} {Q : Nat → Shared → Prop} (hn : n ≠ 0) (q : ∀ k d, k < n → Q k { s with drawn := d }) : wpAny (model prog w) A (choose src n) Q E s := fun Γ p hΓ => ⟨hn, q _ _ (Nat.mod_lt _ (Nat.pos_of_ne_zero hn))⟩
theorem drawOrder_by {α : Type} : ∀ (fuel : Nat) (xs : List α) (s : Shared) (Q : List α → Shared → Prop), xs.length ≤ fuel → (∀ ys d, List.Perm ys xs → Q ys { s with drawn := d }) → wpAny (model prog w) A (drawOrder fuel xs) Q E s
  | 0, xs, s, Q, h, q => by
    have : xs = [] := List.length_eq_zero_iff.mp (by omega)
    subst this
    unfold drawOrder
    exact wpAny_pure (q [] s.drawn .rfl)
  | fuel + 1, [], s, Q, h, q => by
    unfold drawOrder
    exact wpAny_pure (q [] s.drawn .rfl)
  | fuel + 1, x :: r, s, Q, h, q => by
    unfold drawOrder
    refine wpAny_bind (wpAny_draw (by simp) fun k d hk => ?_)
    have e : (x :: r)[k]? = some (x :: r)[k] := by simp [hk]
    rw [e]
    dsimp only
    have hz := len_eraseIdx e
    refine wpAny_bind (drawOrder_by fuel ((x :: r).eraseIdx k) { s with drawn := d } _ (by omega) fun ys d' p => wpAny_pure ?_)
    exact q _ d' ((p.cons _).trans (perm_erase e).symm)
theorem item_drawn {it a tp : Addr} {n ep i p : Nat} {x : Value} {es : Array (Int × Value)} {tb : SetTable} {ps : Array Value} {Q : Option Value → Shared → Prop} (hI : SIt s.heap it a (.ref tp) i n ep) (hS : SObj s.heap a es ep tb) (hn : es.size = n)
    (hT : s.heap.get? tp = some { cls := .type "tuple", data := .seq ps }) (hp : ps[i]? = some (.int (p : Nat) 0)) (he : (es[p]?).map (·.2) = some x)
    (q : ∀ h', SIt h' it a (.ref tp) (i + 1) n ep → Heap.SameBut it s.heap h' → Q (some x) { s with heap := h' }) : wpAny (model prog w) A (pyNext (.ref it)) Q E s := by
  obtain ⟨ob, ho, hx, hd⟩ := hS.at_
  have tI : s.TypeIs (.ref it) "set_iterator" := ⟨_, hI, rfl⟩
  unfold pyNext
  refine wpAny_bind (wpAny_attempt (wpAny_callSpecial?_slot (name := Str.ofString "__next__") tI slot_sit_next (wpAny_call_entry slot_sit_next tI entry_sit_next ?_ (args_sit_next _))))
  unfold Builtin.«set_iterator.__next__»
  refine wpAny_bind (m := slotArgs "__next__" 0 _) (wpAny_pure ?_)
  refine wpAny_bind (m := fieldsOf (.ref it)) ?_
  unfold fieldsOf
  refine wpAny_bind (wpAny_load hI (wpAny_pure ?_))
  refine wpAny_bind (wpAny_setEntries_of ho hd hS.fits ?_)
  have same : ¬ (((es.size : Nat) : Int) != (n : Int)) = true := by rw [hn]; simp
  rw [if_neg same]
  refine wpAny_bind (m := seqItems? (.ref tp)) ?_
  unfold seqItems?
  refine wpAny_bind (wpAny_load hT (wpAny_pure ?_))
  dsimp only
  rw [show ((i : Nat) : Int).toNat = i from Int.toNat_natCast i, hp]
  dsimp only
  refine wpAny_bind (m := setNextDrawn a _ _) ?_
  unfold setNextDrawn
  refine wpAny_bind (wpAny_setState_of ho hd hS.fits ?_)
  dsimp only
  rw [show ((ep : Nat) : Int).toNat = ep from Int.toNat_natCast ep, show ((p : Nat) : Int).toNat = p from Int.toNat_natCast p, if_neg (by simp)]
  cases ee : es[p]? with
  | none => rw [ee] at he; cases he
  | some e =>
    rw [ee] at he
    cases he
    dsimp only
    refine wpAny_pure ?_
    refine wpAny_bind (wpAny_setField_rec hI (by simp) fun h2 a2 sb2 => ?_)
    refine wpAny_pure ⟨_, rfl, wpAny_pure (q h2 ?_ sb2)⟩
    unfold SIt
    rw [a2]
    simp [rawInt]
theorem end_drawn {it a tp : Addr} {n ep i : Nat} {es : Array (Int × Value)} {tb : SetTable} {ps : Array Value} {Q : Option Value → Shared → Prop} (hh : A.handled = none) (hI : SIt s.heap it a (.ref tp) i n ep) (hS : SObj s.heap a es ep tb) (hn : es.size = n)
    (hT : s.heap.get? tp = some { cls := .type "tuple", data := .seq ps }) (hp : ps[i]? = none)
    (q : ∀ h', (∀ b ob, b ≠ it → s.heap.get? b = some ob → h'.get? b = some ob) → Q none { s with heap := h' }) : wpAny (model prog w) A (pyNext (.ref it)) Q E s := by
  obtain ⟨ob, ho, hx, hd⟩ := hS.at_
  have tI : s.TypeIs (.ref it) "set_iterator" := ⟨_, hI, rfl⟩
  unfold pyNext
  refine wpAny_bind (wpAny_attempt (wpAny_callSpecial?_slot (name := Str.ofString "__next__") tI slot_sit_next (wpAny_call_entry slot_sit_next tI entry_sit_next ?_ (args_sit_next _))))
  unfold Builtin.«set_iterator.__next__»
  refine wpAny_bind (m := slotArgs "__next__" 0 _) (wpAny_pure ?_)
  refine wpAny_bind (m := fieldsOf (.ref it)) ?_
  unfold fieldsOf
  refine wpAny_bind (wpAny_load hI (wpAny_pure ?_))
  refine wpAny_bind (wpAny_setEntries_of ho hd hS.fits ?_)
  have same : ¬ (((es.size : Nat) : Int) != (n : Int)) = true := by rw [hn]; simp
  rw [if_neg same]
  refine wpAny_bind (m := seqItems? (.ref tp)) ?_
  unfold seqItems?
  refine wpAny_bind (wpAny_load hT (wpAny_pure ?_))
  dsimp only
  rw [show ((i : Nat) : Int).toNat = i from Int.toNat_natCast i, hp]
  dsimp only
  refine wpAny_bind (wpAny_setField_rec hI (by simp) fun h1 a1 sb1 => ?_)
  refine wpAny_bind (wpAny_setField_rec (s := { s with heap := h1 }) a1 (by simp) fun h2 a2 sb2 => ?_)
  refine wpAny_mono (stop_by (Q := Q) (E := E) (r := fun _ => True) (it := it) (s := { s with heap := h2 }) hh fun h' k => q h' fun b ob hb e => k b ob ((sb2.2 b hb).trans ((sb1.2 b hb).trans e))) (fun f s' ⟨v, e, z⟩ => ⟨v, e, wpAny_pure z⟩) fun e s' z => z
theorem iter_self {it a : Addr} {first : Value} {i n ep : Nat} {Q : Value → Shared → Prop} (hI : SIt s.heap it a first i n ep) (q : Q (.ref it) s) : wpAny (model prog w) A (pyIter (.ref it)) Q E s := by
  have tI : s.TypeIs (.ref it) "set_iterator" := ⟨_, hI, rfl⟩
  refine wpAny_pyIter_slot tI slot_sit_iter (wpAny_call_entry slot_sit_iter tI entry_sit_iter ?_ (args_sit_iter _))
  show wpAny _ _ (ret (.ref it)) _ _ _
  exact wpAny_pure ⟨_, rfl, "set_iterator", _, tI, slot_sit_next.lookup, q⟩
theorem SObj.keep {h h' : Heap} {a : Addr} {es : Array (Int × Value)} {ep : Nat} {tb : SetTable} (x : SObj h a es ep tb) (k : ∀ ob, h.get? a = some ob → h'.get? a = some ob) : SObj h' a es ep tb :=
  ⟨let ⟨ob, h1, h2⟩ := x.at_; ⟨ob, k ob h1, h2⟩, x.fits⟩
noncomputable def slotAt (tb : SetTable) : Nat → Nat
  | 0 => 0
  | i + 1 => tb.place.getD i 0 + 1
theorem walk_plain (hh : A.handled = none) {it a : Addr} {ep : Nat} {es : Array (Int × Value)} {tb : SetTable} (hne : a ≠ it) (up : Up tb.place) (led : tb.led = true) (bt : w.params.followText "set-order" = false) (pl : (!tb.plain && decide (es.size > 1)) = false) (hf : tb.fits es.size = true) :
    Walks prog w A it [it, a] [it] es.size (fun i v => ∃ e, es.toList[i]? = some e ∧ v = e.2) (fun i h => SIt h it a (.int (slotAt tb i : Nat) 0) i es.size ep ∧ SObj h a es ep tb) where
  sub := fun b hb => by simp at hb; simp [hb]
  frame := fun i h h' st k => ⟨k it (by simp) _ st.1, st.2.keep fun ob e => k a (by simp) ob e⟩
  item := fun i s Q E hi st q => by
    have pz := place_size hf
    have hi2 : i < tb.place.size := by omega
    have bl : SetTable.below tb.place (slotAt tb i) = i := by
      cases i with
      | zero => exact below_zero up
      | succ i =>
        have hi3 : i < tb.place.size := by omega
        have e : tb.place[i]? = some (tb.place.getD i 0) := by simp [hi3, Array.getD]
        exact below_next up e
    have ep' : tb.place.getD i 0 = tb.place[i] := by simp [hi2, Array.getD]
    refine item_by (nx := slotAt tb (i + 1)) (x := es[i].2) st.1 st.2 rfl (fun R E' r => setNext_plain st.2 led bt pl ?_) fun h' a1 sb => ?_
    · rw [bl]
      have e1 : es[i]? = some es[i] := by simp [hi]
      have e2 : tb.place[i]? = some tb.place[i] := by simp [hi2]
      rw [e1, e2]
      show R (some (es[i].2, tb.place[i] + 1)) s
      have e3 : slotAt tb (i + 1) = tb.place[i] + 1 := by show tb.place.getD i 0 + 1 = _; rw [ep']
      rw [← e3]
      exact r
    · exact q _ h' s.toks ⟨es[i], by simp [hi], rfl⟩ ⟨a1, st.2.keep fun ob e => (sb.2 a hne).trans e⟩ fun b ob hb e => (sb.2 b fun z => hb (by simp [z])).trans e
  done := fun s Q E st q => by
    have pz := place_size hf
    have bl : SetTable.below tb.place (slotAt tb es.size) = es.size := by
      cases hz : es.size with
      | zero => exact below_zero up
      | succ i =>
        have hi3 : i < tb.place.size := by omega
        have e : tb.place[i]? = some (tb.place.getD i 0) := by simp [hi3, Array.getD]
        exact below_next up e
    refine end_by hh st.1 st.2 rfl (fun R E' r => setNext_plain st.2 led bt pl ?_) fun h' k => q h' s.toks fun b ob hb e => k b ob (fun z => hb (by simp [z])) e
    rw [bl]
    have e1 : es[es.size]? = none := by simp
    rw [e1]
    exact r
  self := fun i s Q E st q => iter_self st.1 q
theorem walk_text (hh : A.handled = none) {it a : Addr} {ep : Nat} {es : Array (Int × Value)} {tb : SetTable} (hne : a ≠ it) (bt : w.params.followText "set-order" = true) (hf : tb.fits es.size = true) :
    Walks prog w A it [it, a] [it] es.size (fun i v => ∃ e, (pickOrder (w.params.setOrder a ep) es).toList[i]? = some e ∧ v = e.2) (fun i h => SIt h it a (.int (0 : Nat) 0) i es.size ep ∧ SObj h a es ep tb) where
  sub := fun b hb => by simp at hb; simp [hb]
  frame := fun i h h' st k => ⟨k it (by simp) _ st.1, st.2.keep fun ob e => k a (by simp) ob e⟩
  item := fun i s Q E hi st q => by
    have pz : (pickOrder (w.params.setOrder a ep) es).size = es.size := by
      have := (pickOrder_perm (w.params.setOrder a ep) es).length_eq
      simpa using this
    have hi2 : i < (pickOrder (w.params.setOrder a ep) es).size := by omega
    refine item_by (nx := 0) (x := (pickOrder (w.params.setOrder a ep) es)[i].2) st.1 st.2 rfl (fun R E' r => setNext_text st.2 bt ?_) fun h' a1 sb => ?_
    · have e1 : (pickOrder (w.params.setOrder a ep) es)[i]? = some (pickOrder (w.params.setOrder a ep) es)[i] := by simp [hi2]
      rw [e1]
      exact r
    · exact q _ h' s.toks ⟨(pickOrder (w.params.setOrder a ep) es)[i], by simp [hi2], rfl⟩ ⟨a1, st.2.keep fun ob e => (sb.2 a hne).trans e⟩ fun b ob hb e => (sb.2 b fun z => hb (by simp [z])).trans e
  done := fun s Q E st q => by
    have pz : (pickOrder (w.params.setOrder a ep) es).size = es.size := by
      have := (pickOrder_perm (w.params.setOrder a ep) es).length_eq
      simpa using this
    refine end_by hh st.1 st.2 rfl (fun R E' r => setNext_text st.2 bt ?_) fun h' k => q h' s.toks fun b ob hb e => k b ob (fun z => hb (by simp [z])) e
    have e1 : (pickOrder (w.params.setOrder a ep) es)[es.size]? = none := by simp [pz]
    rw [e1]
    exact r
  self := fun i s Q E st q => iter_self st.1 q
theorem walk_drawn (hh : A.handled = none) {it a tp : Addr} {ep : Nat} {es : Array (Int × Value)} {tb : SetTable} {ys : List Nat} (hne : a ≠ it) (hne2 : tp ≠ it) (hp : List.Perm ys (List.range es.size)) :
    Walks prog w A it [it, a, tp] [it] es.size (fun i v => ∃ e, (ys.filterMap (es[·]?))[i]? = some e ∧ v = e.2) (fun i h => SIt h it a (.ref tp) i es.size ep ∧ SObj h a es ep tb ∧ h.get? tp = some { cls := .type "tuple", data := .seq (ys.map fun (i : Nat) => rawInt i).toArray }) where
  sub := fun b hb => by simp at hb; simp [hb]
  frame := fun i h h' st k => ⟨k it (by simp) _ st.1, st.2.1.keep fun ob e => k a (by simp) ob e, k tp (by simp) _ st.2.2⟩
  item := fun i s Q E hi st q => by
    have hl : ys.length = es.size := by simpa using hp.length_eq
    have hi2 : i < ys.length := by omega
    have lt : ∀ y ∈ ys, y < es.size := fun y hy => by simpa using hp.mem_iff.mp hy
    have lti := lt _ (List.getElem_mem hi2)
    have fm : ∀ (zs : List Nat), (∀ y ∈ zs, y < es.size) → ∀ (j : Nat) (y : Nat), zs[j]? = some y → (zs.filterMap (es[·]?))[j]? = es[y]? := by
      intro zs
      induction zs with
      | nil => intro _ j y e; simp at e
      | cons z r ih =>
        intro hz j y e
        have lz := hz z (.head _)
        rw [List.filterMap_cons_some (b := es[z]) (by simp [lz])]
        cases j with
        | zero => simp at e; subst e; simp [lz]
        | succ j => simpa using ih (fun y hy => hz y (.tail _ hy)) j y (by simpa using e)
    refine item_drawn (p := ys[i]) (x := es[ys[i]].2) st.1 st.2.1 rfl st.2.2 (by simp [hi2, rawInt]) (by simp [lti]) fun h' a1 sb => ?_
    refine q _ h' s.toks ⟨es[ys[i]], ?_, rfl⟩ ⟨a1, st.2.1.keep fun ob e => (sb.2 a hne).trans e, (sb.2 tp hne2).trans st.2.2⟩ fun b ob hb e => (sb.2 b fun z => hb (by simp [z])).trans e
    rw [fm ys lt i ys[i] (by simp [hi2])]
    simp [lti]
  done := fun s Q E st q => by
    have hl : ys.length = es.size := by simpa using hp.length_eq
    exact end_drawn hh st.1 st.2.1 rfl st.2.2 (by simp [hl]) fun h' k => q h' s.toks fun b ob hb e => k b ob (fun z => hb (by simp [z])) e
  self := fun i s Q E st q => iter_self st.1 q
end
end LT
end
section
set_option maxHeartbeats 8000000
namespace LT
open PySem PySem.Spec PyProof.Rows
section
variable {prog : Program} {w : World} {A : Around} {E : Value → Shared → Prop} {s : Shared}
structure SetWalk (prog : Program) (w : World) (a it : Addr) (es : Array (Int × Value)) (ord : List (Int × Value)) (fp : List Addr) (St : Nat → Heap → Prop) : Prop where
  walks : ∀ A : Around, A.handled = none → Walks prog w A it fp [it] es.size (fun i v => ∃ e, ord[i]? = some e ∧ v = e.2) St
  perm : List.Perm ord es.toList
  mem : it ∈ fp
theorem iterG {a : Addr} {S : Int → Bool} {n : Nat} {Q : Value → Shared → Prop} (g : SetG prog w s.heap a S n)
    (q : ∀ it es ep tb ord fp St h' d, (∃ ob, s.heap.get? a = some ob ∧ ob.ExactSet ∧ ob.data = .set es ep tb) → SetWalk prog w a it es ord fp St → St 0 h' → s.heap.objs.size ≤ it → (∀ b ob, s.heap.get? b = some ob → h'.get? b = some ob) → (∀ b ∈ fp, b = a ∨ s.heap.objs.size ≤ b) → es.size < scanBound →
      Q (.ref it) { s with heap := h', drawn := d }) : wpAny (model prog w) A (pyIter (.ref a)) Q E s := by
  obtain ⟨ob, es, ep, tb, ⟨h1, h2, h3⟩, h4, h5, ⟨h6, h7, h8⟩, h9⟩ := g
  have tS : s.TypeIs (.ref a) "set" := ⟨ob, h1, h2.1⟩
  have lta : a < s.heap.objs.size := Heap.lt_size h1
  refine wpAny_pyIter_slot tS F.slot_set_iter (wpAny_call_entry F.slot_set_iter tS entry_set_iter ?_ (F.args_set_iter_1 _))
  unfold Builtin.«frozenset.__iter__»
  refine wpAny_bind (m := Builtin.Frozenset.slot0 "__iter__" _) (wpAny_pure ?_)
  refine wpAny_bind (m := Builtin.Frozenset.sizeOf a) ?_
  unfold Builtin.Frozenset.sizeOf
  refine wpAny_bind (wpAny_setEntries_of h1 h3 h7 (wpAny_pure ?_))
  refine wpAny_bind (m := setDrawn a) ?_
  unfold setDrawn
  refine wpAny_bind (wpAny_setState_of h1 h3 h7 ?_)
  dsimp only
  unfold setsByText
  refine wpAny_bind (wpAny_bind (wpAny_askSetting (wpAny_pure (wpAny_pure ?_))))
  dsimp only
  have sobj : ∀ {h' : Heap}, (∀ b ob, s.heap.get? b = some ob → h'.get? b = some ob) → SObj h' a es ep tb := fun k => ⟨⟨ob, k _ _ h1, h2, h3⟩, h7⟩
  by_cases dr : (!(model prog w).w.params.followText "set-order" && (!tb.plain && decide (es.size > 1))) = true
  · show wpAny _ _ (if (!(model prog w).w.params.followText "set-order" && (!tb.plain && decide (es.size > 1))) = true then _ else _) _ _ _
    rw [if_pos dr]
    refine wpAny_bind (drawOrder_by es.size (List.range es.size) s _ (by simp) fun ys d hp => ?_)
    have hl : ys.length = es.size := by simpa using hp.length_eq
    have small : es.size ≤ sizeLine := fits_of_scanBound h6
    refine wpAny_bind ?_
    unfold newTuple
    refine wpAny_newObj_type ?_ (by show (ys.map fun (i : Nat) => rawInt i).toArray.size ≤ sizeLine; simp [hl]; exact small)
    unfold setEpoch
    refine wpAny_bind (wpAny_bind (wpAny_setState_of (s := { s with heap := _, drawn := d }) (Heap.get?_push_of_some _ h1) h3 h7 (wpAny_pure ?_)))
    dsimp only
    refine wpAny_bind (wpAny_newObj_type (wpAny_pure ⟨_, rfl, "set_iterator", _, ⟨_, Heap.get?_push_size _ rfl, rfl⟩, slot_sit_next.lookup, ?_⟩))
    have z1 : (s.heap.push { cls := .type "tuple", dict := none, data := .seq (ys.map fun (i : Nat) => rawInt i).toArray }).objs.size = s.heap.objs.size + 1 := Heap.size_push ..
    have kp : ∀ (o2 : Obj) b ob, s.heap.get? b = some ob → ((s.heap.push { cls := .type "tuple", dict := none, data := .seq (ys.map fun (i : Nat) => rawInt i).toArray }).push o2).get? b = some ob := fun o2 b ob e => Heap.get?_push_of_some _ (Heap.get?_push_of_some _ e)
    refine q _ es ep tb (ys.filterMap (es[·]?)) [(s.heap.push { cls := .type "tuple", dict := none, data := .seq (ys.map fun (i : Nat) => rawInt i).toArray }).objs.size, a, s.heap.objs.size] _ _ d ⟨ob, h1, h2, h3⟩ ⟨fun A' hA => walk_drawn (tb := tb) (ep := ep) hA ?_ ?_ hp, ?_, .head _⟩ ⟨?_, sobj (kp _), ?_⟩ ?_ (kp _) (fun b hb => ?_) h6
    · rw [z1]; exact Nat.ne_of_lt (Nat.lt_succ_of_lt lta)
    · rw [z1]; exact Nat.ne_of_lt (Nat.lt_succ_self _)
    · refine (hp.filterMap _).trans ?_
      rw [filterMap_getElem?_range]
    · exact Heap.get?_push_size _ rfl
    · exact Heap.get?_push_of_some _ (Heap.get?_push_size _ rfl)
    · rw [z1]; exact Nat.le_succ _
    · simp only [List.mem_cons, List.not_mem_nil, or_false] at hb
      rcases hb with z | z | z
      · right; rw [z, z1]; exact Nat.le_succ _
      · exact .inl z
      · right; rw [z]; exact Nat.le_refl _
  · show wpAny _ _ (if (!(model prog w).w.params.followText "set-order" && (!tb.plain && decide (es.size > 1))) = true then _ else _) _ _ _
    rw [if_neg dr]
    refine wpAny_bind (wpAny_pure ?_)
    unfold setEpoch
    refine wpAny_bind (wpAny_bind (wpAny_setState_of h1 h3 h7 (wpAny_pure ?_)))
    dsimp only
    refine wpAny_bind (wpAny_newObj_type (wpAny_pure ⟨_, rfl, "set_iterator", _, ⟨_, Heap.get?_push_size _ rfl, rfl⟩, slot_sit_next.lookup, ?_⟩))
    have kp : ∀ (o2 : Obj) b ob, s.heap.get? b = some ob → (s.heap.push o2).get? b = some ob := fun o2 b ob e => Heap.get?_push_of_some _ e
    have fpl : ∀ b ∈ [s.heap.objs.size, a], b = a ∨ s.heap.objs.size ≤ b := fun b hb => by
      simp only [List.mem_cons, List.not_mem_nil, or_false] at hb
      rcases hb with z | z
      · right; rw [z]; exact Nat.le_refl _
      · exact .inl z
    cases bt : w.params.followText "set-order" with
    | true =>
      exact q _ es ep tb _ [s.heap.objs.size, a] _ _ s.drawn ⟨ob, h1, h2, h3⟩ ⟨fun A' hA => walk_text (tb := tb) (ep := ep) hA (Nat.ne_of_lt lta) bt h7, pickOrder_perm _ _, .head _⟩ ⟨Heap.get?_push_size _ rfl, sobj (kp _)⟩ (Nat.le_refl _) (kp _) fpl h6
    | false =>
      have pl : (!tb.plain && decide (es.size > 1)) = false := by
        rw [show (model prog w).w.params.followText "set-order" = false from bt] at dr
        simpa using dr
      have led : tb.led = true := by
        rw [h9.led]
        unfold ledOf
        rw [bt]
        rfl
      exact q _ es ep tb _ [s.heap.objs.size, a] _ _ s.drawn ⟨ob, h1, h2, h3⟩ ⟨fun A' hA => walk_plain (tb := tb) (ep := ep) hA (Nat.ne_of_lt lta) h9.up led bt pl h7, .rfl, .head _⟩ ⟨Heap.get?_push_size _ rfl, sobj (kp _)⟩ (Nat.le_refl _) (kp _) fpl h6
theorem collectG {a : Addr} {S : Int → Bool} {n : Nat} {Q : List Value → Shared → Prop} (hh : A.handled = none) (g : SetG prog w s.heap a S n)
    (q : ∀ vs s' es ep tb, (∃ ob, s.heap.get? a = some ob ∧ ob.ExactSet ∧ ob.data = .set es ep tb) → List.Perm vs (es.toList.map (·.2)) → (∀ b ob, s.heap.get? b = some ob → s'.heap.get? b = some ob) → s'.gens = s.gens → s'.os = s.os → Q vs s') : wpAny (model prog w) A (collect (.ref a)) Q E s := by
  have tS : ∀ {h' : Heap} {s' : Shared}, s'.heap = h' → (∀ b ob, s.heap.get? b = some ob → h'.get? b = some ob) → s'.TypeIs (.ref a) "set" := fun {h' s'} e k => by
    obtain ⟨ob, es, ep, tb, ⟨h1, h2, h3⟩, _⟩ := g
    exact ⟨ob, by rw [e]; exact k _ _ h1, h2.1⟩
  have lta : a < s.heap.objs.size := by
    obtain ⟨ob, es, ep, tb, ⟨h1, h2, h3⟩, _⟩ := g
    exact Heap.lt_size h1
  unfold collect
  refine wpAny_bind (wpAny_runValue (codeAny_builtin F.entry_proto_collect ?_))
  rw [Around.under_plainId F.plain_proto_collect _]
  show wpAny _ _ (newList [] >>= fun l => again (.builtin "list.__iadd__" ⟨[l, .ref a], []⟩)) _ _ _
  refine wpAny_bind (wpAny_newObj_type (wpAny_pure ⟨plainId_quiet F.plain_list_iadd _, codeAny_builtin F.entry_list_iadd ?_⟩))
  rw [Around.under_plainId F.plain_list_iadd _]
  show wpAny _ _ (Builtin.List.listExtendWith (.ref s.heap.objs.size) (.ref a) (.ref s.heap.objs.size)) _ _ _
  unfold Builtin.List.listExtendWith
  have k1 : ∀ b ob, s.heap.get? b = some ob → (s.heap.push { cls := .type "list", data := .seq ([] : List Value).toArray }).get? b = some ob := fun b ob e => Heap.get?_push_of_some _ e
  refine wpAny_bind (wpAny_typeOf (tS rfl k1) ?_)
  have nsame : Builtin.List.listSameRef (.ref s.heap.objs.size) (.ref a) = false := by
    simp only [Builtin.List.listSameRef, beq_eq_false_iff_ne]
    exact fun z => Nat.lt_irrefl _ (z ▸ lta)
  have nl : (Value.type "set" == Value.type "list") = false := by decide
  have nt : (Value.type "set" == Value.type "tuple") = false := by decide
  simp only [nsame, nl, nt, Bool.or_false, Bool.false_eq_true, if_false]
  refine wpAny_bind (iterG (g.move (fun ob e => k1 _ _ e) (fun _ => rfl) rfl) fun it es ep tb ord fp St h2 d hob W st0 lit k2 fpl few => ?_)
  refine wpAny_bind (wpAny_holding ?_)
  unfold Builtin.List.listLengthHint
  have k12 : ∀ b ob, s.heap.get? b = some ob → h2.get? b = some ob := fun b ob e => k2 b ob (k1 b ob e)
  refine wpAny_bind (wpAny_specialOf (tS rfl k12) F.slot_set_len.lookup ?_)
  have sp : splitId "set.__len__" = some ("set", "__len__") := by decide +kernel
  dsimp only
  rw [sp]
  dsimp only
  refine wpAny_bind (wpAny_isInstance (tS rfl k12) sub_set_self ?_)
  rw [if_neg (by decide)]
  rw [if_pos (by decide +kernel)]
  refine wpAny_bind (wpAny_typeOf (tS rfl k12) (wpAny_pure ?_))
  rw [if_pos (by decide +kernel)]
  refine wpAny_bind (wpAny_rule ?_)
  have l2 : h2.get? s.heap.objs.size = some { cls := .type "list", data := .seq ([] : List Value).toArray } := k2 _ _ (Heap.get?_push_size _ rfl)
  refine wpAny_bind ?_
  unfold Builtin.List.listTouch
  show wpAny _ _ (updateSeq s.heap.objs.size (·.push .none) >>= fun _ => updateSeq s.heap.objs.size (·.pop)) _ _ _
  refine wpAny_bind (wpAny_updateSeq l2 rfl ?_)
  have l3 := Heap.get?_update_self (Obj.mapSeq (·.push Value.none)) l2 rfl
  refine wpAny_updateSeq l3 rfl ?_
  have l4 := Heap.get?_update_self (Obj.mapSeq (·.pop)) l3 rfl
  have oth : ∀ b ob, b ≠ s.heap.objs.size → h2.get? b = some ob → ((h2.update s.heap.objs.size (Obj.mapSeq (·.push Value.none))).update s.heap.objs.size (Obj.mapSeq (·.pop))).get? b = some ob := fun b ob hb e =>
    (Heap.get?_update_other _ _ (Ne.symm hb)).trans ((Heap.get?_update_other _ _ (Ne.symm hb)).trans e)
  have nfp : s.heap.objs.size ∉ fp := fun z => by
    rcases fpl _ z with z | z
    · exact Nat.lt_irrefl _ (z ▸ lta)
    · rw [show ({ s with heap := s.heap.push { cls := .type "list", data := .seq ([] : List Value).toArray } } : Shared).heap.objs.size = s.heap.objs.size + 1 from Heap.size_push ..] at z
      exact Nat.lt_irrefl _ z
  have fin : ∀ (s' : Shared) (vs : Array Value) (c : Nat), (∀ b ob, s.heap.get? b = some ob → s'.heap.get? b = some ob) → s'.gens = s.gens → s'.os = s.os → s'.heap.get? s.heap.objs.size = some { cls := .type "list", dict := none, data := .seq vs c, slots := #[] } → ItemsOf (fun i v => ∃ e, ord[i]? = some e ∧ v = e.2) vs es.size →
      wpAny (model prog w) A (load s.heap.objs.size >>= fun o => match o.data with | .seq xs _ => pure xs.toList | _ => unsupported "internal:collect") Q E s' := fun s' vs c k g1 g2 e it1 => by
    refine wpAny_bind (wpAny_load e (wpAny_pure (q vs.toList s' es ep tb ?_ ?_ k g1 g2)))
    · obtain ⟨ob, o1, o2⟩ := hob
      obtain ⟨ob', es', ep', tb', ⟨p1, p2, p3⟩, _⟩ := g
      have := k1 _ _ p1
      rw [o1] at this
      cases this
      exact ⟨ob, p1, o2⟩
    · have hl : ord.length = es.size := by simpa using W.perm.length_eq
      have e2 : vs.toList = ord.map (·.2) := by
        apply List.ext_getElem?
        intro i
        by_cases hi : i < es.size
        · have hv0 : i < vs.size := by rw [it1.1]; exact hi
          have hv : vs[i]? = some vs[i] := by simp [hv0]
          obtain ⟨e, e1, e2⟩ := it1.2 i _ hv
          rw [List.getElem?_map, e1, Array.getElem?_toList, hv, e2]
          rfl
        · rw [List.getElem?_eq_none (by simp [it1.1]; omega), List.getElem?_eq_none (by simp [hl]; omega)]
      rw [e2]
      exact W.perm.map _
  have Wk := (W.walks A.in1 hh).toS
  refine wpAny_pure ⟨plainId_quiet F.plain_extend_loop _, codeAny_extend_loopS Wk ?_ _ nfp _ es.size 0 _ _ _ rfl (Nat.zero_le _) ?_ l4 (ItemsOf.nil _) fun s' vs c mv e it1 => ?_⟩
  · exact fits_of_scanBound few
  · exact (W.walks A.in1 hh).frame 0 h2 _ st0 fun b hb ob e => oth b ob (fun z => nfp (z ▸ hb)) e
  · refine fin s' vs c (fun b ob e' => mv.heap b ob ?_ (oth b ob ?_ (k12 b ob e'))) mv.gens mv.os e it1
    · intro z
      rcases List.mem_cons.mp z with z | z
      · exact Nat.lt_irrefl _ (z ▸ Heap.lt_size e')
      · simp only [List.mem_cons, List.not_mem_nil, or_false] at z
        have := Heap.lt_size e'
        rw [z] at this
        exact Nat.lt_irrefl _ (Nat.lt_of_lt_of_le this (Nat.le_trans (by rw [Heap.size_push]; exact Nat.le_succ _) lit))
    · exact fun z => Nat.lt_irrefl _ (z ▸ Heap.lt_size e')
end
end LT
end
section
set_option maxHeartbeats 8000000
namespace LT
open PySem PySem.Spec PyProof.Rows
noncomputable def insI (x : Int) : List Int → List Int
  | [] => [x]
  | y :: r => if x ≤ y then x :: y :: r else y :: insI x r
noncomputable def sortI : List Int → List Int
  | [] => []
  | x :: r => insI x (sortI r)
theorem insI_perm (x : Int) : ∀ l : List Int, List.Perm (insI x l) (x :: l)
  | [] => .rfl
  | y :: r => by
    unfold insI
    split
    · exact .rfl
    · exact ((insI_perm x r).cons y).trans (.swap x y r)
theorem insI_mem {x z : Int} {l : List Int} : z ∈ insI x l ↔ z = x ∨ z ∈ l := by rw [(insI_perm x l).mem_iff, List.mem_cons]
theorem insI_up (x : Int) : ∀ l : List Int, l.Pairwise (· ≤ ·) → (insI x l).Pairwise (· ≤ ·)
  | [], _ => by unfold insI; simp
  | y :: r, h => by
    obtain ⟨h1, h2⟩ := List.pairwise_cons.mp h
    unfold insI
    split
    · rename_i hxy
      refine List.pairwise_cons.mpr ⟨fun z hz => ?_, h⟩
      rcases List.mem_cons.mp hz with e | hz
      · rw [e]; exact hxy
      · exact Int.le_trans hxy (h1 z hz)
    · rename_i hxy
      refine List.pairwise_cons.mpr ⟨fun z hz => ?_, insI_up x r h2⟩
      rcases insI_mem.mp hz with e | hz
      · rw [e]; omega
      · exact h1 z hz
theorem sortI_perm : ∀ l : List Int, List.Perm (sortI l) l
  | [] => .rfl
  | x :: r => (insI_perm x _).trans ((sortI_perm r).cons x)
theorem sortI_up : ∀ l : List Int, (sortI l).Pairwise (· ≤ ·)
  | [] => .nil
  | x :: r => insI_up x _ (sortI_up r)
theorem sortI_eq {a b : List Int} (hp : a.Perm b) (h : a.Pairwise (· ≤ ·)) : a = sortI b := W.ksm_same (hp.trans (sortI_perm b).symm) h (sortI_up b)
noncomputable def setI (ns : List Int) : List Int := sortI (ns.foldl step_dedup [])
theorem dedup_any (ns : List Int) : ∀ (acc : List Int) (k : Int), (ns.foldl step_dedup acc).any (· == k) = (acc.any (· == k) || ns.any (· == k)) := by
  induction ns with
  | nil => intro acc k; simp
  | cons x r ih =>
    intro acc k
    rw [List.foldl_cons, ih, step_any]
    simp only [List.any_cons]
    have : (x == k) = decide (k = x) := by
      by_cases h : k = x
      · subst h; simp
      · have h' : ¬ x = k := fun e => h e.symm
        simp [h, h']
    rw [this, Bool.or_assoc]
theorem dedup_mem {ns : List Int} {k : Int} : k ∈ ns.foldl step_dedup [] ↔ k ∈ ns := by
  have := dedup_any ns [] k
  simp only [List.any_nil, Bool.false_or] at this
  have e : ∀ l : List Int, k ∈ l ↔ (l.any fun x => x == k) = true := fun l => by
    rw [List.any_eq_true]
    constructor
    · exact fun h => ⟨k, h, by simp⟩
    · rintro ⟨x, h, c⟩
      have c : x = k := by simpa using c
      rw [← c]
      exact h
  rw [e, e, this]
theorem dedup_nodup (ns : List Int) : ∀ acc : List Int, acc.Nodup → (ns.foldl step_dedup acc).Nodup := by
  induction ns with
  | nil => intro acc h; exact h
  | cons x r ih =>
    intro acc h
    refine ih _ ?_
    unfold step_dedup
    split
    · exact h
    · rename_i hx
      rw [List.nodup_append]
      refine ⟨h, by simp, fun a ha b hb => ?_⟩
      simp only [List.mem_singleton] at hb
      subst hb
      intro e
      subst e
      exact hx (List.any_eq_true.mpr ⟨a, ha, by simp⟩)
theorem setI_mem {ns : List Int} {k : Int} : k ∈ setI ns ↔ k ∈ ns := by unfold setI; rw [(sortI_perm _).mem_iff, dedup_mem]
theorem setI_up (ns : List Int) : (setI ns).Pairwise (· < ·) := by
  have h1 := sortI_up (ns.foldl step_dedup [])
  have h2 : (setI ns).Nodup := (sortI_perm _).nodup_iff.mpr (dedup_nodup ns [] List.nodup_nil)
  exact (List.Pairwise.and h1 h2).imp fun ⟨a, b⟩ => by omega
theorem firstMet_eq (ns : List Int) : firstMet (fun i => ns.getD i 0) ns.length = ns.foldl step_dedup [] := by
  unfold firstMet
  congr 1
  apply List.ext_getElem?
  intro i
  by_cases hi : i < ns.length
  · simp [hi, List.getD]
  · rw [List.getElem?_eq_none (by simp; omega), List.getElem?_eq_none (by omega)]
theorem perm_of_mem : ∀ {fm ms : List Int}, fm.Nodup → (∀ k, k ∈ fm → k ∈ ms) → ms.length ≤ fm.length → List.Perm ms fm
  | [], ms, _, _, h => by
    have : ms = [] := List.length_eq_zero_iff.mp (by simpa using h)
    subst this
    exact .rfl
  | x :: r, ms, nd, hm, h => by
    obtain ⟨n1, n2⟩ := List.nodup_cons.mp nd
    have hx := hm x (.head _)
    have p := List.perm_cons_erase hx
    have hl := p.length_eq
    rw [List.length_cons] at hl h
    refine p.trans ((perm_of_mem n2 (fun k hk => ?_) (by omega)).cons x)
    have hne : k ≠ x := fun e => n1 (e ▸ hk)
    rcases List.mem_cons.mp (p.mem_iff.mp (hm k (.tail _ hk))) with e | e
    · exact absurd e hne
    · exact e
section
variable {prog : Program} {w : World} {A : Around} {E : Value → Shared → Prop} {s : Shared}
theorem ints_of_perm {l l' : List Value} {ns : List Int} (p : List.Perm l l') (h : IntsAre l' ns) : ∃ ms, IntsAre l ms ∧ List.Perm ms ns := by
  induction p generalizing ns with
  | nil => exact ⟨ns, h, .rfl⟩
  | cons x _ ih =>
    cases h with
    | cons n t h =>
      obtain ⟨ms, h1, h2⟩ := ih h
      exact ⟨n :: ms, .cons n t h1, h2.cons n⟩
  | swap x y l =>
    cases h with
    | cons n t h =>
      cases h with
      | cons n' t' h => exact ⟨n' :: n :: _, .cons n' t' (.cons n t h), .swap _ _ _⟩
  | trans _ _ ih1 ih2 =>
    obtain ⟨ms, h1, h2⟩ := ih2 h
    obtain ⟨ms', h3, h4⟩ := ih1 h1
    exact ⟨ms', h3, h4.trans h2⟩
theorem elems_ints : ∀ {es : List (Int × Value)}, ElemsOf (intKind prog w) es → ∃ ms, IntsAre (es.map (·.2)) ms ∧ ∀ k, k ∈ ms ↔ ∃ e ∈ es, (intKind prog w).is k e.2 = true
  | [], _ => ⟨[], .nil, fun k => by simp⟩
  | e :: r, h => by
    obtain ⟨ms, h1, h2⟩ := elems_ints (ElemsOf.tail h)
    obtain ⟨⟨k, hk, _⟩, _⟩ := ElemsOf.head h
    obtain ⟨t, ht⟩ := Value.isInt_shape (k := k) (v := e.2) hk
    refine ⟨k :: ms, by rw [List.map_cons, ht]; exact .cons k t h1, fun z => ?_⟩
    rw [List.mem_cons, h2 z]
    constructor
    · rintro (c | ⟨e', c1, c2⟩)
      · exact ⟨e, .head _, by rw [c]; exact hk⟩
      · exact ⟨e', .tail _ c1, c2⟩
    · rintro ⟨e', c1, c2⟩
      rcases List.mem_cons.mp c1 with c | c
      · subst c; exact .inl ((intKind prog w).inj _ _ _ c2 hk)
      · exact .inr ⟨e', c, c2⟩
theorem sorted_by {x : Value} {Q : Value → Shared → Prop} (hc : ∀ E' : Value → Shared → Prop, wpAny (model prog w) A.in1 (collect x) (fun vs s1 => ∃ ns, IntsAre vs ns ∧ vs.length < 64 ∧ ∀ out e h', IntsAre out (sortI ns) → (∀ b ob, s1.heap.get? b = some ob → h'.get? b = some ob) →
      h'.get? s1.heap.objs.size = some (seqObj "list" out.toArray e) → Q (.ref s1.heap.objs.size) { s1 with heap := h' }) E' s) : wpAny (model prog w) A (call (.builtin "sorted") [x]) Q E s := by
  refine Calls.call_function_entry kind_sorted plain_sorted entry_sorted (args_sorted1 _) ?_
  unfold Builtin.«sorted»
  refine wpAny_bind (m := checkCount "sorted" 1 1 _) (wpAny_pure ?_)
  refine wpAny_bind (m := collect x) (wpAny_mono (hc _) (fun vs s1 ⟨ns, hI, h64, q⟩ => ?_) fun _ _ z => z)
  have small : vs.length ≤ sizeLine := Nat.le_trans (Nat.le_of_lt h64) (by decide)
  refine wpAny_bind (wpAny_newList ?_ small)
  have at0 : (s1.heap.push { cls := .type "list", data := .seq vs.toArray }).get? s1.heap.objs.size = some (seqObj "list" vs.toArray 0) := Heap.get?_push_size _ rfl
  refine wpAny_bind (wpAny_holding (wpAny_call_entry slot_list_sort ⟨_, at0, rfl⟩ entry_list_sort (list_sort_tree (s := { s1 with heap := s1.heap.push { cls := .type "list", data := .seq vs.toArray } }) at0 hI h64 fun out ns' a1 a2 a3 => ⟨_, rfl, ?_⟩) (args_list_sort _)))
  obtain ⟨e, he⟩ := sortedHeap_at (out := out) at0
  refine wpAny_pure ⟨_, rfl, q out.toList e _ ?_ (fun b ob eb => ?_) (by simpa using he)⟩
  · rw [← sortI_eq a2 a3]; exact a1
  · have lt := Heap.lt_size eb
    rw [sortedHeap_old (Nat.ne_of_lt lt) (by rw [Heap.size_push]; exact Nat.lt_succ_of_lt lt)]
    exact Heap.get?_push_of_some _ eb
theorem collect_tup {l : Addr} {vs : List Value} {Q : List Value → Shared → Prop} (hl : s.heap.IsTuple l vs.toArray) (small : vs.length ≤ sizeLine)
    (q : ∀ h', (∀ b ob, s.heap.get? b = some ob → h'.get? b = some ob) → Q vs { s with heap := h' }) : wpAny (model prog w) A (collect (.ref l)) Q E s := by
  obtain ⟨ob, ho, hc, n, hd⟩ := id hl
  unfold collect
  refine wpAny_bind (wpAny_runValue (codeAny_builtin F.entry_proto_collect ?_))
  rw [Around.under_plainId F.plain_proto_collect _]
  show wpAny _ _ (newList [] >>= fun d => again (.builtin "list.__iadd__" ⟨[d, .ref l], []⟩)) _ _ _
  refine wpAny_bind (wpAny_newObj_type (wpAny_pure ⟨plainId_quiet F.plain_list_iadd _, codeAny_builtin F.entry_list_iadd ?_⟩))
  rw [Around.under_plainId F.plain_list_iadd _]
  show wpAny _ _ (Builtin.List.listExtendWith (.ref s.heap.objs.size) (.ref l) (.ref s.heap.objs.size)) _ _ _
  unfold Builtin.List.listExtendWith
  have ho' : (s.heap.push { cls := .type "list", data := .seq ([] : List Value).toArray }).get? l = some ob := Heap.get?_push_of_some _ ho
  have d0 : (s.heap.push { cls := .type "list", data := .seq ([] : List Value).toArray }).get? s.heap.objs.size = some (seqObj "list" #[] 0) := Heap.get?_push_size _ rfl
  refine wpAny_bind (wpAny_typeOf (T := "tuple") ⟨ob, ho', hc⟩ ?_)
  rw [if_pos (by simp)]
  refine wpAny_bind (listItems_at ho' hd ?_)
  refine wpAny_bind (listItems_at d0 rfl ?_)
  rw [if_neg (by simp)]
  refine wpAny_bind (listUpdate_at (xs := #[]) (n := 0) d0 rfl ?_ (Nat.zero_le _) (by show (#[] ++ vs.toArray).size ≤ sizeLine + 1; simp; omega))
  refine wpAny_pure ?_
  show wpAny _ _ (load s.heap.objs.size >>= fun o => match o.data with | .seq xs _ => pure xs.toList | _ => unsupported "internal:collect") _ _ _
  refine wpAny_bind (wpAny_load (get?_update_seq d0 _) ?_)
  have z := q ((s.heap.push { cls := .type "list", data := .seq ([] : List Value).toArray }).update s.heap.objs.size (Obj.mapSeq fun x => x ++ vs.toArray)) fun b ob e => (Heap.get?_update_other _ _ (fun z => Nat.lt_irrefl _ (z ▸ Heap.lt_size e))).trans (Heap.get?_push_of_some _ e)
  show wpAny _ _ (pure ((#[] : Array Value) ++ vs.toArray).toList) _ _ _
  rw [show ((#[] : Array Value) ++ vs.toArray).toList = vs by simp]
  exact wpAny_pure z
end
end LT
end
section
set_option maxHeartbeats 8000000
namespace L2
open PySem PySem.Spec PyProof.Rows LT
section
variable {X : Cx}
noncomputable def setHO (P : Program) (w : World) (p : Addr) (ns : List Int) : HO := .ext fun h => SetG P w h p (fun z => (ns.foldl step_dedup []).any (· == z)) (ns.foldl step_dedup []).length
theorem call_setI (hc : X.calm = true) : CallR X (.type "set") (fun xs H Q => ∃ (a : Addr) (ns : List Int), xs = [.ref a] ∧ (SqL X.K H a (ns.map V.int) ∨ SqT X.K H a (ns.map V.int)) ∧ ns.length < 4000 ∧ ∀ p, H p = none → Q (.ref p) (upd H p (setHO X.prog X.w p ns))) := by
  intro pins s σ H xs us Q I r h
  obtain ⟨a, ns, rfl, hq, hl, q⟩ := h
  obtain ⟨u, rfl, rx⟩ := vals1 r
  cases rx
  have fin : ∀ (items : Array Value), items.size = ns.length → ∀ (h' : Heap) (tk : Nat), SetG X.prog X.w h' s.heap.objs.size (fun z => (firstMet (fun i => ns.getD i 0) items.size).any (· == z)) (firstMet (fun i => ns.getD i 0) items.size).length → (∀ b ob, s.heap.get? b = some ob → h'.get? b = some ob) →
      EP X pins σ Q (.ref s.heap.objs.size) { s with heap := h', toks := tk } := fun items hz h' tk g k => by
    rw [hz, firstMet_eq] at g
    refine ⟨.ref s.heap.objs.size, _, I.laid (t' := tk) (o := setHO X.prog X.w s.heap.objs.size ns) k (Nat.le_refl _) ⟨g, ?_, fun h1 h2 z e => z.move e (fun _ => rfl) rfl⟩, rfl, q _ (I.hok.fresh (Nat.le_refl _))⟩
    obtain ⟨ob, es, ep, tb, ⟨h1, _⟩, _⟩ := g
    exact ⟨ob, h1⟩
  have room : ns.length + 1 < scanBound := by
    have : scanBound = 4096 := rfl
    omega
  rcases hq with hq | hq
  · obtain ⟨its, r', pl, _⟩ := I.list hq
    have hz : its.toArray.size = ns.length := by rw [List.size_toArray, ← r'.length, List.length_map]
    exact setG (I.ok.hd hc) (.inl ⟨rfl, pl.isList⟩) (by simpa using intsAre_of r') (by rw [hz]; exact room) fun h' tk g k => fin _ hz h' tk g k
  · obtain ⟨its, r', pl, _⟩ := I.tuple hq
    have hz : its.toArray.size = ns.length := by rw [List.size_toArray, ← r'.length, List.length_map]
    exact setG (I.ok.hd hc) (.inr ⟨rfl, pl⟩) (by simpa using intsAre_of r') (by rw [hz]; exact room) fun h' tk g k => fin _ hz h' tk g k
theorem Inv.grown {pins : List (Addr × Obj)} {σ : St} {H : Hp} {s s' : Shared} (I : Inv X pins σ H s) (ho : s'.os = s.os) (hg : s'.gens = s.gens) (k : ∀ b ob, s.heap.get? b = some ob → s'.heap.get? b = some ob) : Inv X pins σ H s' :=
  I.call' (ch := []) ho (Un.kept k) (I.hok.kept k) (by rw [hg]; exact I.bare) fun b z => nomatch z
theorem vals_out {out : List Value} {ms : List Int} (h : IntsAre out ms) : Vals (ms.map V.int) out := vals_ints h
theorem call_sortedI (hc : X.calm = true) : CallR X (.builtin "sorted") (fun xs H Q => ∃ (p : Addr) (ns : List Int), xs = [.ref p] ∧ ((((ns.foldl step_dedup []).length < 64 ∧ H p = some (setHO X.prog X.w p ns)) ∧ ∀ l, H l = none → Q (.ref l) (upd H l (.lst ((setI ns).map V.int)))) ∨
    ((ns.length < 64 ∧ (SqL X.K H p (ns.map V.int) ∨ SqT X.K H p (ns.map V.int))) ∧ ∀ l, H l = none → Q (.ref l) (upd H l (.lst ((sortI ns).map V.int)))))) := by
  intro pins s σ H xs us Q I r h
  obtain ⟨p, ns, rfl, h⟩ := h
  obtain ⟨u, rfl, rx⟩ := vals1 r
  cases rx
  have fin : ∀ (s1 : Shared) (ms : List Int), ms.length ≤ 64 → (∀ b ob, s.heap.get? b = some ob → s1.heap.get? b = some ob) → s1.gens = s.gens → s1.os = s.os → (∀ l, H l = none → Q (.ref l) (upd H l (.lst ((sortI ms).map V.int)))) → ∀ out e h', IntsAre out (sortI ms) → (∀ b ob, s1.heap.get? b = some ob → h'.get? b = some ob) →
      h'.get? s1.heap.objs.size = some (seqObj "list" out.toArray e) → EP X pins σ Q (.ref s1.heap.objs.size) { s1 with heap := h' } := fun s1 ms hm k g1 o1 q out e h' hi k2 e2 => by
    have I1 := I.grown o1 g1 k
    refine ⟨.ref s1.heap.objs.size, _, I1.laid (t' := s1.toks) (o := .lst ((sortI ms).map V.int)) k2 (Nat.le_refl _) ⟨?_, out, e, vals_out hi, e2⟩, rfl, q _ (I1.hok.fresh (Nat.le_refl _))⟩
    rw [List.length_map, (sortI_perm ms).length_eq]
    exact Nat.le_trans hm (by decide)
  rcases h with ⟨⟨hl, hs⟩, q⟩ | ⟨⟨hl, hq⟩, q⟩
  · obtain ⟨g, _⟩ := (show ObjOk X.prog X.w H s.heap p (setHO X.prog X.w p ns) from I.hok p _ hs)
    refine sorted_by fun E' => collectG (show X.A.in1.handled = none from I.ok.hd hc) g fun vs s1 es ep tb hob pv k g1 o1 => ?_
    obtain ⟨ob', es', ep', tb', ⟨a1, a2, a3⟩, h4, h5, ⟨h6, h7, h8⟩, h9⟩ := g
    obtain ⟨ob, b1, b2, b3⟩ := hob
    rw [a1] at b1
    cases b1
    rw [a3] at b3
    cases b3
    obtain ⟨ms, m1, m2⟩ := elems_ints h4
    obtain ⟨ms', m3, m4⟩ := ints_of_perm pv m1
    have len : ms.length = (ns.foldl step_dedup []).length := by
      rw [← m1.length, List.length_map, Array.length_toList]
      exact h8
    have pm : List.Perm ms (ns.foldl step_dedup []) := perm_of_mem (dedup_nodup ns [] List.nodup_nil) (fun z hz => by
      rw [m2 z, ← h5 z]
      exact List.any_eq_true.mpr ⟨z, hz, by simp⟩) (Nat.le_of_eq len)
    have es1 : sortI ms' = setI ns := by
      unfold setI
      exact sortI_eq ((sortI_perm ms').trans (m4.trans pm)) (sortI_up ms')
    have lm : ms'.length < 64 := by
      rw [m4.length_eq, len]
      exact hl
    refine ⟨ms', m3, by rw [m3.length]; omega, fun out e h' hi k2 e2 => ?_⟩
    exact fin s1 ms' (by omega) k g1 o1 (by rw [es1]; exact q) out e h' hi k2 e2
  · rcases hq with hq | hq
    · obtain ⟨its, r', pl, hz⟩ := I.list hq
      have hi := intsAre_of r'
      have lz : its.length = ns.length := by rw [← r'.length, List.length_map]
      refine sorted_by fun E' => collect_list pl.isList ?_ (by rw [lz, ← List.length_map (f := V.int)]; exact hz)
      refine ⟨ns, hi, by omega, fun out e h' hi2 k2 e2 => ?_⟩
      refine fin { s with heap := (s.heap.push (seqObj "list" #[] 0)).update s.heap.objs.size (Obj.mapSeq fun x => x ++ its.toArray) } ns (by omega) (fun b ob eb => ?_) rfl rfl q out e h' hi2 k2 e2
      exact (Heap.get?_update_other _ _ (fun z => Nat.lt_irrefl _ (z ▸ Heap.lt_size eb))).trans (Heap.get?_push_of_some _ eb)
    · obtain ⟨its, r', pl, hz⟩ := I.tuple hq
      have hi := intsAre_of r'
      have lz : its.length = ns.length := by rw [← r'.length, List.length_map]
      refine sorted_by fun E' => collect_tup pl (by rw [lz, ← List.length_map (f := V.int)]; exact hz) fun h1 k1 => ?_
      refine ⟨ns, hi, by omega, fun out e h' hi2 k2 e2 => ?_⟩
      exact fin { s with heap := h1 } ns (by omega) k1 rfl rfl q out e h' hi2 k2 e2
theorem call_allB (hc : X.calm = true) : CallR X (.builtin "all") (fun xs H Q => ∃ (a : Addr) (bs : List Bool), xs = [.ref a] ∧ SqL X.K H a (bs.map V.bl) ∧ Q (.bl (bs.all id)) H) := by
  intro pins s σ H xs us Q I r h
  obtain ⟨a, bs, rfl, hq, q⟩ := h
  obtain ⟨u, rfl, rx⟩ := vals1 r
  cases rx
  obtain ⟨its, r', pl, hz⟩ := I.list hq
  have hlt : a < s.heap.objs.size := by obtain ⟨_, e, _⟩ := pl.isList; exact Heap.lt_size e
  refine call_all_walk (wpAny_pyIter_list pl.isList ?_)
  refine ⟨s.heap.objs.size, [s.heap.objs.size, a], [s.heap.objs.size], its.toArray.size, _, _, fun i => (bs[i]?).getD true, rfl, Walks.list (A := X.A.in1) (I.ok.hd hc) _ a (Nat.ne_of_lt hlt) its.toArray, ⟨⟨_, Heap.get?_push_size _ rfl, rfl, rfl⟩, pl.isList.push _⟩, fun i v s' Q' E' hP hQ => ?_, fun h' tk hk => ?_⟩
  · have hv : its[i]? = some v := by simpa using hP
    obtain ⟨hi, _⟩ := List.getElem?_eq_some_iff.mp hv
    have hlen : bs.length = its.length := by rw [← r'.length, List.length_map]
    have hb : (bs.map V.bl)[i]? = some (V.bl bs[i]) := by simp [hlen, hi]
    obtain ⟨u', hu, ru⟩ := r'.get hb
    rw [hv] at hu
    cases hu
    cases ru
    have e : (bs[i]?).getD true = bs[i] := by simp [hlen, hi]
    have hQ : Q' ((bs[i]?).getD true) s' := hQ
    rw [e] at hQ
    exact wpAny_truthy_bool hQ
  · have e : ((List.range its.toArray.size).all fun i => (bs[i]?).getD true) = bs.all id := by
      have hlen : bs.length = its.length := by rw [← r'.length, List.length_map]
      rw [List.size_toArray, ← hlen]
      rw [Bool.eq_iff_iff, List.all_eq_true, List.all_eq_true]
      constructor
      · intro h x hx
        obtain ⟨i, hi⟩ := List.mem_iff_getElem?.mp hx
        have hl := (List.getElem?_eq_some_iff.mp hi).1
        have := h i (by simpa using hl)
        rw [hi] at this
        exact this
      · intro h i hi
        have hl : i < bs.length := by simpa using hi
        have e1 : bs[i]? = some bs[i] := by simp [hl]
        rw [e1]
        exact h _ (List.getElem_mem hl)
    rw [e]
    refine ⟨.bl _, H, I.grown (s' := { s with heap := h', toks := tk }) rfl rfl fun b ob eb => hk b ob (fun z => ?_) (Heap.get?_push_of_some _ eb), rfl, q⟩
    simp only [List.mem_cons, List.not_mem_nil, or_false] at z
    exact Nat.lt_irrefl _ (z ▸ Heap.lt_size eb)
theorem call_sumI (hc : X.calm = true) : CallR X (.builtin "sum") (fun xs H Q => ∃ (a : Addr) (ns : List Int), xs = [.ref a] ∧ SqL X.K H a (ns.map V.int) ∧ Q (.int ns.sum) H) := by
  intro pins s σ H xs us Q I r h
  obtain ⟨a, ns, rfl, hq, q⟩ := h
  obtain ⟨u, rfl, rx⟩ := vals1 r
  cases rx
  obtain ⟨its, r', pl, hz⟩ := I.list hq
  have hi := intsAre_of r'
  obtain ⟨ys, hy⟩ := hi.allInts.items
  have hl : s.heap.IsList a (intItems ys) := hy ▸ pl.isList
  refine sum_intListG (I.ok.hd hc) hl fun h' tk t' hk => ?_
  have e1 : ns = ys.toList.map (·.1) := by
    rw [← nums_intItems, ← hy]
    exact (show numsOf its.toArray.toList = ns from hi.numsOf).symm
  have e2 : preSum (numAt ys) ys.size = ns.sum := by rw [preSum_eq, List.take_of_length_le (by simp), e1]
  rw [e2]
  exact ⟨.int ns.sum, H, I.grown (s' := { s with heap := h', toks := tk }) rfl rfl hk, ⟨t', rfl⟩, q⟩
end
end L2
end
section
set_option maxHeartbeats 8000000
namespace L3
open PySem PySem.Spec PyProof.Rows L2 LT
section
variable {X : Cx} {E : XE} {e : Expr} {es : List Expr} {pos p : Pos} {fs : Sd → M (List D)} {x : Str}
theorem se_callB {id : String} {F : List D → M D} (hc : CallR X (.builtin id) (toRA X.K E F)) (hg : Gl X x) (hm : X.mg x = none) (hv : bootBuiltins x = some (.builtin id)) (ha : SA X E (e :: es) fs) (hn : x ≠ "__name__" := by decide) (hdb : (x == ("__debug__" : Str)) = false := by decide)
    (he : starEach (e :: es) X.env = (false, eval e X.env) :: starEach es X.env := by rfl) (hpl : (backTo pos (starEach es X.env)).any (·.1) = false := by rfl) : SE X E (.Call (.Name x p) (e :: es) [] pos) (fun sd => do let ds ← fs sd; F ds) :=
  PE.imp (pe_callB hc hg hm hv ha hn hdb he hpl) fun σ H Q ⟨ι, h, sd, L, hh, q⟩ => ⟨ι, h, sd, L, hh, Fin.bind q fun ds h1 ι1 H1 e1 s1 hr1 q1 vs rv => ⟨ι1, h1, ds, rv, hr1, q1⟩⟩
theorem se_callTy {T : String} {F : List D → M D} (hc : CallR X (.type T) (toRA X.K E F)) (hg : Gl X x) (hm : X.mg x = none) (hv : bootBuiltins x = some (.type T)) (ha : SA X E (e :: es) fs) (hn : x ≠ "__name__" := by decide) (hdb : (x == ("__debug__" : Str)) = false := by decide)
    (he : starEach (e :: es) X.env = (false, eval e X.env) :: starEach es X.env := by rfl) (hpl : (backTo pos (starEach es X.env)).any (·.1) = false := by rfl) : SE X E (.Call (.Name x p) (e :: es) [] pos) (fun sd => do let ds ← fs sd; F ds) :=
  PE.imp (pe_callTy hc hg hm hv ha hn hdb he hpl) fun σ H Q ⟨ι, h, sd, L, hh, q⟩ => ⟨ι, h, sd, L, hh, Fin.bind q fun ds h1 ι1 H1 e1 s1 hr1 q1 vs rv => ⟨ι1, h1, ds, rv, hr1, q1⟩⟩
noncomputable def seqD : D → M (List D)
  | .tup ds => pure ds
  | .lst ds => pure ds
  | .scr ds => pure ds
  | .cel n => cellGet n
  | _ => M.bad
theorem seqD_inv {K : W.Frag} {ι : Io} {H : Hp} {h : Hh} {d : D} {v : V} {α : Type} {f : List D → M α} {P : α → Io → Hp → Prop} (hr : HRel K ι H h) (r : Rel K ι H d v) (q : Fin K E ι H ((do let ds ← seqD d; f ds) h) P) :
    ∃ a vs ds, v = .ref a ∧ ((SqL K H a vs ∧ ∀ ts, d ≠ .tup ts) ∨ (SqT K H a vs ∧ d = .tup ds)) ∧ RelL K ι H ds vs ∧ Fin K E ι H (f ds h) P := by
  cases d with
  | tup ds =>
    obtain ⟨a, vs, e, h1, h2⟩ := relSqT r
    exact ⟨a, vs, ds, e, .inr ⟨h1, rfl⟩, h2, q⟩
  | lst ds =>
    obtain ⟨a, vs, e, h1, h2⟩ := relSqL r
    exact ⟨a, vs, ds, e, .inl ⟨h1, fun _ z => by cases z⟩, h2, q⟩
  | scr ds =>
    obtain ⟨a, vs, e, h1, h2⟩ := relSqS r
    exact ⟨a, vs, ds, e, .inl ⟨h1, fun _ z => by cases z⟩, h2, q⟩
  | cel n =>
    have q' : Fin K E ι H (M.bind (cellGet n) f h) P := q
    unfold M.bind at q'
    cases z : cellGet n h with
    | bad => rw [z] at q'; exact False.elim q'
    | exc c h' => unfold cellGet at z; split at z <;> cases z
    | ok ds h' =>
      rw [z] at q'
      obtain ⟨rfl, z2⟩ := cellGet_ok z
      obtain ⟨a, vs, e, hn, hH, rl⟩ := hr.read r z2
      exact ⟨a, vs, ds, e, .inl ⟨SqL.of hH, fun _ z => by cases z⟩, rl, q'⟩
  | _ => exact False.elim q
theorem sq_or {K : W.Frag} {H : Hp} {a : Addr} {vs : List V} {d : D} {ds : List D} (h : (SqL K H a vs ∧ ∀ ts, d ≠ .tup ts) ∨ (SqT K H a vs ∧ d = .tup ds)) : SqL K H a vs ∨ SqT K H a vs := h.imp And.left And.left
theorem relL1 {K : W.Frag} {ι : Io} {H : Hp} {d : D} {xs : List V} (h : RelL K ι H [d] xs) : ∃ v, xs = [v] ∧ Rel K ι H d v := by
  simp only [RelL] at h
  obtain ⟨v, r, rfl, h1, rfl⟩ := h
  exact ⟨v, rfl, h1⟩
noncomputable def one1 {α : Type} (f : D → M α) : List D → M α
  | [d] => f d
  | _ => M.bad
theorem one1_inv {α : Type} {K : W.Frag} {ι : Io} {H : Hp} {h : Hh} {f : D → M α} {ds : List D} {xs : List V} {P : α → Io → Hp → Prop} (rl : RelL K ι H ds xs) (q : Fin K E ι H (one1 f ds h) P) : ∃ d v, xs = [v] ∧ Rel K ι H d v ∧ Fin K E ι H (f d h) P := by
  match ds, rl, q with
  | [d], rl, q =>
    obtain ⟨v, e, r⟩ := relL1 rl
    exact ⟨d, v, e, r, q⟩
  | [], _, q => exact False.elim q
  | _ :: _ :: _, _, q => exact False.elim q
noncomputable def dLen : List D → M D := one1 fun d => do let ds ← seqD d; pure (.int ds.length)
theorem call_lenD : CallR X (.builtin "len") (toRA X.K E dLen) := by
  refine CallR.imp call_len_seq fun xs H Q ⟨ι, h, ds, rl, hr, q⟩ => ?_
  obtain ⟨d, v, e, r, q⟩ := one1_inv rl q
  obtain ⟨a, vs, ds', e', hs, rl', q⟩ := seqD_inv hr r q
  exact ⟨a, vs, by rw [e, e'], sq_or hs, Fin.out hr q _ (by rw [rl'.length]; simp [Rel])⟩
noncomputable def dTuple : List D → M D := one1 fun d => do let ds ← seqD d; pure (.tup ds)
theorem call_tupleD : CallR X (.type "tuple") (toRA X.K E dTuple) := by
  refine CallR.imp call_tuple_of fun xs H Q ⟨ι, h, ds, rl, hr, q⟩ => ?_
  obtain ⟨d, v, e, r, q⟩ := one1_inv rl q
  obtain ⟨a, vs, ds', e', hs, rl', q⟩ := seqD_inv hr r q
  refine ⟨a, vs, by rw [e, e'], ?_⟩
  rcases hs with ⟨hs, _⟩ | ⟨hs, hd⟩
  · exact .inl ⟨hs, fun l hl => newT hr rl' q hl⟩
  · exact .inr ⟨hs, Fin.out hr q _ (by rw [← e', ← hd]; exact r)⟩
noncomputable def dList : List D → M D := one1 fun d => do let ds ← seqD d; pure (.lst ds)
noncomputable def two2 (g : Int → Int → Int) : List D → M D
  | [.int i, .int j] => pure (.int (g i j))
  | _ => M.bad
theorem two2_inv {K : W.Frag} {ι : Io} {H : Hp} {h : Hh} {g : Int → Int → Int} {ds : List D} {xs : List V} {P : D → Io → Hp → Prop} (hr : HRel K ι H h) (rl : RelL K ι H ds xs) (q : Fin K E ι H (two2 g ds h) P) : ∃ i j, xs = [.int i, .int j] ∧ P (.int (g i j)) ι H := by
  unfold two2 at q
  split at q
  · simp only [RelL, Rel] at rl
    obtain ⟨v, r, rfl, rfl, v', r', rfl, rfl, rfl⟩ := rl
    exact ⟨_, _, rfl, Fin.out hr q⟩
  · exact False.elim q
noncomputable def dMax2 := two2 fun i j => if j > i then j else i
noncomputable def dMin2 := two2 fun i j => if j < i then j else i
theorem call_max2D (hc : X.calm = true) : CallR X (.builtin "max") (toRA X.K E dMax2) := by
  refine CallR.imp (call_max2 hc) fun xs H Q ⟨ι, h, ds, rl, hr, q⟩ => ?_
  obtain ⟨i, j, e, q⟩ := two2_inv hr rl q
  exact ⟨i, j, e, q _ (by simp [Rel])⟩
theorem call_min2D (hc : X.calm = true) : CallR X (.builtin "min") (toRA X.K E dMin2) := by
  refine CallR.imp (call_min2 hc) fun xs H Q ⟨ι, h, ds, rl, hr, q⟩ => ?_
  obtain ⟨i, j, e, q⟩ := two2_inv hr rl q
  exact ⟨i, j, e, q _ (by simp [Rel])⟩
noncomputable def blsD : List D → Option (List Bool)
  | [] => some []
  | .bl b :: r => (blsD r).map (b :: ·)
  | _ => none
noncomputable def intsD : List D → Option (List Int)
  | [] => some []
  | .int i :: r => (intsD r).map (i :: ·)
  | _ => none
theorem blsD_inv {K : W.Frag} {ι : Io} {H : Hp} : ∀ {ds : List D} {vs : List V} {bs : List Bool}, RelL K ι H ds vs → blsD ds = some bs → vs = bs.map V.bl
  | [], _, _, h, e => by simp only [RelL] at h; subst h; cases e; rfl
  | d :: ds, _, bs, h, e => by
    simp only [RelL] at h
    obtain ⟨v, r, rfl, h1, h2⟩ := h
    cases d with
    | bl b =>
      unfold blsD at e
      cases z : blsD ds with
      | none => rw [z] at e; cases e
      | some cs =>
        rw [z] at e
        cases e
        simp only [Rel] at h1
        rw [h1, blsD_inv h2 z]
        rfl
    | _ => cases e
theorem intsD_inv {K : W.Frag} {ι : Io} {H : Hp} : ∀ {ds : List D} {vs : List V} {bs : List Int}, RelL K ι H ds vs → intsD ds = some bs → vs = bs.map V.int
  | [], _, _, h, e => by simp only [RelL] at h; subst h; cases e; rfl
  | d :: ds, _, bs, h, e => by
    simp only [RelL] at h
    obtain ⟨v, r, rfl, h1, h2⟩ := h
    cases d with
    | int b =>
      unfold intsD at e
      cases z : intsD ds with
      | none => rw [z] at e; cases e
      | some cs =>
        rw [z] at e
        cases e
        simp only [Rel] at h1
        rw [h1, intsD_inv h2 z]
        rfl
    | _ => cases e
theorem Fin.ofOb {α β : Type} {K : W.Frag} {ι : Io} {H : Hp} {h : Hh} {o : Option α} {f : α → M β} {P : β → Io → Hp → Prop} (q : Fin K E ι H ((do let a ← L3.ofO o; f a) h) P) : ∃ a, o = some a ∧ Fin K E ι H (f a h) P := by
  cases o with
  | none => exact False.elim q
  | some a => exact ⟨a, rfl, q⟩
noncomputable def dAll : List D → M D := one1 fun d => match d with
  | .lst ds => do let bs ← ofO (blsD ds); pure (.bl (bs.all id))
  | _ => M.bad
theorem call_allD (hc : X.calm = true) : CallR X (.builtin "all") (toRA X.K E dAll) := by
  refine CallR.imp (call_allB hc) fun xs H Q ⟨ι, h, ds, rl, hr, q⟩ => ?_
  obtain ⟨d, v, e, r, q⟩ := one1_inv rl q
  cases d with
  | lst ds =>
    obtain ⟨a, vs, e', h1, h2⟩ := relSqL r
    obtain ⟨bs, eb, q⟩ := Fin.ofOb q
    have := blsD_inv h2 eb
    subst this
    exact ⟨a, bs, by rw [e, e'], h1, Fin.out hr q _ (by simp [Rel])⟩
  | _ => exact False.elim q
noncomputable def dSum : List D → M D := one1 fun d => match d with
  | .lst ds => do let bs ← ofO (intsD ds); pure (.int bs.sum)
  | _ => M.bad
theorem call_sumD (hc : X.calm = true) : CallR X (.builtin "sum") (toRA X.K E dSum) := by
  refine CallR.imp (call_sumI hc) fun xs H Q ⟨ι, h, ds, rl, hr, q⟩ => ?_
  obtain ⟨d, v, e, r, q⟩ := one1_inv rl q
  cases d with
  | lst ds =>
    obtain ⟨a, vs, e', h1, h2⟩ := relSqL r
    obtain ⟨bs, eb, q⟩ := Fin.ofOb q
    have := intsD_inv h2 eb
    subst this
    exact ⟨a, bs, by rw [e, e'], h1, Fin.out hr q _ (by simp [Rel])⟩
  | _ => exact False.elim q
noncomputable def dSortSet (d : D) : M D := do
  let ds ← seqD d
  let ns ← ofO (intsD ds)
  if (ns.foldl step_dedup []).length < 64 ∧ ns.length < 4000 then pure (.lst ((setI ns).map D.int)) else M.bad
theorem se_sortset {p1 p2 pos2 : Pos} {f : Sd → M D} (hc : X.calm = true) (hg1 : Gl X "sorted") (hm1 : X.mg "sorted" = none) (hg2 : Gl X "set") (hm2 : X.mg "set" = none) (he : SE X E e f)
    (h1 : starEach [.Call (.Name "set" p2) [e] [] pos2] X.env = [(false, eval (.Call (.Name "set" p2) [e] [] pos2) X.env)] := by rfl) (h2 : starEach [e] X.env = [(false, eval e X.env)] := by rfl) :
    SE X E (.Call (.Name "sorted" p1) [.Call (.Name "set" p2) [e] [] pos2] [] pos) (fun sd => do let d ← f sd; dSortSet d) := by
  refine PE.imp (pe_callB (call_sortedI hc) hg1 hm1 boot_sorted (pa_cons (pe_callTy (call_setI hc) hg2 hm2 PyProof.Rows.boot_set (pa_cons he pa_nil h2) (he := h2)) pa_nil h1) (he := h1)) fun σ H Q ⟨ι, h, sd, L, hh, q⟩ => ⟨ι, h, sd, L, hh, Fin.bind q fun d h1 ι1 H1 e1 s1 hr1 q1 v rv => ?_⟩
  obtain ⟨a, vs, ds', e', hs, rl', q2⟩ := seqD_inv hr1 rv q1
  obtain ⟨ns, en, q3⟩ := Fin.ofOb q2
  have := intsD_inv rl' en
  subst this
  obtain ⟨hl, q4⟩ := Fin.guard q3
  refine ⟨a, ns, by rw [e'], sq_or hs, hl.2, fun p hp => ?_⟩
  have hr2 : HRel X.K ι1 (upd H1 p (setHO X.prog X.w p ns)) h1 := hr1.laid hp
  exact ⟨p, ns, rfl, .inl ⟨⟨hl.1, upd_same⟩, fun l hl' => newL hr2 (relL_ints.mpr rfl) (Fin.step (hr1.laidS hp) q4) hl'⟩⟩
end
end L3
end
section
set_option maxHeartbeats 4000000
namespace L3
open PySem PySem.Spec PyProof.Rows L2 LT
noncomputable def tyD : D → M String
  | .non => pure "NoneType"
  | .bl _ => pure "bool"
  | .int _ => pure "int"
  | .str _ => pure "str"
  | .tup _ => pure "tuple"
  | .lst _ => pure "list"
  | .dct => pure "dict"
  | .cel n => do let _ ← cellGet n; pure "list"
  | _ => M.bad
noncomputable def kinds7 : List String := ["NoneType", "bool", "int", "str", "tuple", "list", "dict"]
noncomputable def isB (T t : String) : Bool := t == T || (t == "bool" && T == "int")
noncomputable def dIsI (T : String) (d : D) : M D := do let t ← tyD d; pure (.bl (isB T t))
noncomputable def KitOk (T : String) : Prop := ∀ (K : W.Frag), ∀ t ∈ kinds7, W.kitOne K (.type t) (.type T) = some (isB T t)
noncomputable def kit0 (t T : String) : Option Bool := if ((Value.type t) == (Value.type T)) = true then some true else if W.kitMeta T = true then (fastBuiltinMro t).map (·.contains (Value.type T)) else none
theorem kitOk_of {T : String} (h : (kinds7.all fun t => kit0 t T == some (isB T t)) = true) : KitOk T := fun K t ht => by
  have := List.all_eq_true.mp h t ht
  have e : W.kitOne K (.type t) (.type T) = kit0 t T := rfl
  rw [e]
  exact beq_iff_eq.mp this
theorem kit_int : KitOk "int" := kitOk_of (by decide +kernel)
theorem kit_bool : KitOk "bool" := kitOk_of (by decide +kernel)
theorem kit_tuple : KitOk "tuple" := kitOk_of (by decide +kernel)
section
variable {X : Cx} {E : XE} {α : Type}
theorem tyD_inv {K : W.Frag} {ι : Io} {H : Hp} {h : Hh} {d : D} {v : V} {f : String → M α} {P : α → Io → Hp → Prop} (hr : HRel K ι H h) (r : Rel K ι H d v) (q : Fin K E ι H ((do let t ← tyD d; f t) h) P) :
    ∃ t, t ∈ kinds7 ∧ TyOf K H v (.type t) ∧ Fin K E ι H (f t h) P := by
  cases d with
  | non => simp only [Rel] at r; subst r; exact ⟨_, by decide, .non, q⟩
  | bl b => simp only [Rel] at r; subst r; exact ⟨_, by decide, .bl b, q⟩
  | int b => simp only [Rel] at r; subst r; exact ⟨_, by decide, .int b, q⟩
  | str b => simp only [Rel] at r; subst r; exact ⟨_, by decide, .str b, q⟩
  | tup ds =>
    simp only [Rel] at r
    obtain ⟨a, vs, e, h1, h2⟩ := r
    subst e
    exact ⟨_, by decide, .tup h1.1, q⟩
  | lst ds =>
    simp only [Rel] at r
    obtain ⟨a, vs, e, h1, h2⟩ := r
    subst e
    exact ⟨_, by decide, .lst h1.1, q⟩
  | dct =>
    simp only [Rel] at r
    obtain ⟨a, e, h1, h2⟩ := r
    subst e
    exact ⟨_, by decide, .dK h1, q⟩
  | cel n =>
    have q' : Fin K E ι H (M.bind (cellGet n) (fun _ => f "list") h) P := by
      have e : (do let t ← tyD (.cel n); f t : M α) = (cellGet n >>= fun _ => f "list") := by
        show ((cellGet n >>= fun _ => pure "list") >>= f) = _
        simp only [bind_assoc, pure_bind]
      rw [e] at q
      exact q
    unfold M.bind at q'
    cases z : cellGet n h with
    | bad => rw [z] at q'; exact False.elim q'
    | exc c h' => unfold cellGet at z; split at z <;> cases z
    | ok ds h' =>
      rw [z] at q'
      obtain ⟨rfl, z2⟩ := cellGet_ok z
      obtain ⟨a, vs, e, hn, hH, rl⟩ := hr.read r z2
      subst e
      exact ⟨_, by decide, .lst hH, q'⟩
  | _ => exact False.elim q
theorem call_isI : CallR X (.builtin "isinstance") (fun xs H Q => ∃ x t T b, xs = [x, .ty T] ∧ TyOf X.K H x t ∧ W.kitOne X.K t (.type T) = some b ∧ Q (.bl b) H) := by
  intro pins s σ H xs us Q I r h
  obtain ⟨x, t, T, b, rfl, ty, e, q⟩ := h
  cases r with
  | cons r1 r2 =>
    cases r2 with
    | cons r3 r4 =>
      cases r4
      cases r3
      exact isinst_ok I r1 ty e fun tk => ⟨.bl b, H, I.tok tk, rfl, q⟩
theorem se_isI {a : Expr} {x : Str} {T : String} {p1 p2 pos : Pos} {fa : Sd → M D} (hk : KitOk T) (hg : Gl X "isinstance") (hm : X.mg "isinstance" = none) (hgT : Gl X x) (hmT : X.mg x = none) (hvT : bootBuiltins x = some (.type T)) (ha : SE X E a fa)
    (hn : x ≠ "__name__" := by decide) (hd : (x == ("__debug__" : Str)) = false := by decide)
    (h1 : starEach [a, .Name x p2] X.env = (false, eval a X.env) :: starEach [.Name x p2] X.env := by rfl) (h2 : starEach [.Name x p2] X.env = [(false, eval (.Name x p2) X.env)] := by rfl)
    (hpl : (backTo pos (starEach [.Name x p2] X.env)).any (·.1) = false := by rfl) :
    SE X E (.Call (.Name "isinstance" p1) [a, .Name x p2] [] pos) (fun sd => do let d ← fa sd; dIsI T d) := by
  refine PE.imp (pe_callB call_isI hg hm PyProof.Rows.boot_isinstance (pa_cons ha (pa_cons (pe_bltn (v := .ty T) hgT hmT hvT rfl hn hd) pa_nil h2) h1) (he := h1) (hpl := hpl)) fun σ H Q ⟨ι, h, sd, L, hh, q⟩ => ⟨ι, h, sd, L, hh, Fin.bind q fun d h1 ι1 H1 e1 s1 hr1 q1 v rv => ?_⟩
  obtain ⟨t, ht, ty, q2⟩ := tyD_inv hr1 rv q1
  exact ⟨v, .type t, T, isB T t, rfl, ty, hk X.K t ht, Fin.out hr1 q2 _ (by simp [Rel])⟩
noncomputable def dIsNot : D → D → M D
  | .bl a, .bl b => pure (.bl (a != b))
  | _, _ => M.bad
noncomputable def cutD (xs : List D) (lo hi : Option Int) : List D := (xs.drop (HT.sIx xs.length 0 lo)).take (HT.sIx xs.length xs.length hi - HT.sIx xs.length 0 lo)
noncomputable def dSl (d : D) (lo hi : Option Int) : M D := match d with
  | .tup ds => pure (.tup (cutD ds lo hi))
  | .lst ds => pure (.lst (cutD ds lo hi))
  | _ => M.bad
noncomputable def toTO (K : W.Frag) (E : XE) (f : Sd → M (Option Int)) : TO := fun σ H Q => ∃ ι h sd, LRel K ι H sd σ ∧ HRel K ι H h ∧ Fin K E ι H (f sd h) fun o ι' H' => Q o H'
noncomputable abbrev SO (X : Cx) (E : XE) (e : Option Expr) (f : Sd → M (Option Int)) : Prop := PO X e (toTO X.K E f)
theorem PO.imp {e : Option Expr} {t t' : TO} (h : PO X e t) (m : ∀ σ H Q, t' σ H Q → t σ H Q) : PO X e t' := fun pins s σ H Q I q => h pins s σ H Q I (m _ _ _ q)
noncomputable def oNone : Sd → M (Option Int) := fun _ => pure none
noncomputable def dPart : D → M (Option Int)
  | .int i => pure (some i)
  | _ => M.bad
noncomputable def oSome (f : Sd → M D) : Sd → M (Option Int) := fun sd => do let d ← f sd; dPart d
theorem so_none : SO X E none oNone := PO.imp po_none fun σ H Q ⟨ι, h, sd, L, hh, q⟩ => Fin.out hh q
theorem so_some {e : Expr} {f : Sd → M D} (h : SE X E e f) : SO X E (some e) (oSome f) := by
  refine PO.imp (po_some h) fun σ H Q ⟨ι, h, sd, L, hh, q⟩ => ⟨ι, h, sd, L, hh, Fin.bind q fun d h1 ι1 H1 e1 s1 hr1 q1 v rv => ?_⟩
  cases d with
  | int i => simp only [Rel] at rv; exact ⟨i, rv, Fin.out hr1 q1⟩
  | _ => exact False.elim q1
noncomputable def cSl (f : Sd → M D) (lo hi : Sd → M (Option Int)) : Sd → M D := fun sd => do let d ← f sd; let l ← lo sd; let u ← hi sd; dSl d l u
theorem se_slice {e : Expr} {lo hi : Option Expr} {p2 pos : Pos} {f : Sd → M D} {fl fh : Sd → M (Option Int)} (he : SE X E e f) (hl : SO X E lo fl) (hu : SO X E hi fh) : SE X E (.Subscript e (.Slice lo hi none p2) pos) (cSl f fl fh) := by
  refine PE.imp (pe_slice (sl_tupW.or (sl_tup.or sl_list)) he hl hu) fun σ H Q ⟨ι, h, sd, L, hh, q⟩ => ⟨ι, h, sd, L, hh, Fin.bind q fun d h1 ι1 H1 e1 s1 hr1 q1 v rv => ?_⟩
  refine ⟨ι1, h1, sd, L.step s1, hr1, Fin.bind q1 fun l h2 ι2 H2 e2 s2 hr2 q2 => ?_⟩
  refine ⟨ι2, h2, sd, (L.step s1).step s2, hr2, Fin.bind q2 fun u h3 ι3 H3 e3 s3 hr3 q3 => ?_⟩
  have rv3 := (rv.step s2).step s3
  cases d with
  | tup ds =>
    obtain ⟨a, vs, e, k1, k2⟩ := relSqT rv3
    by_cases hw : HT.sIx vs.length 0 l = 0 ∧ HT.sIx vs.length vs.length u = vs.length
    · refine .inl ⟨a, vs, e, k1, hw, ?_⟩
      have ec : cutD ds l u = ds := by
        unfold cutD
        rw [k2.length, hw.1, hw.2, ← k2.length]
        simp
      refine Fin.out hr3 q3 _ ?_
      rw [ec, ← e]
      exact rv3
    · refine .inr (.inl ⟨a, vs, e, k1, hw, fun p hp => newT hr3 ?_ q3 hp⟩)
      unfold cutD cutV
      rw [k2.length]
      exact RelL.take _ (RelL.drop _ k2)
  | lst ds =>
    obtain ⟨a, vs, e, k1, k2⟩ := relSqL rv3
    refine .inr (.inr ⟨a, vs, e, k1, fun p hp => newL hr3 ?_ q3 hp⟩)
    unfold cutD cutV
    rw [k2.length]
    exact RelL.take _ (RelL.drop _ k2)
  | _ => exact False.elim q3
noncomputable def dRev : D → M D
  | .tup ds => pure (.tup ds.reverse)
  | _ => M.bad
noncomputable def dMul (x y : D) : M D := match x, y with
  | .int i, .int j => if (small64 i || small64 j) = true then pure (.int (i * j)) else M.bad
  | .tup xs, .int k => if xs ≠ [] ∧ 2 ≤ k ∧ k < 1000 ∧ xs.length * k.toNat ≤ sizeLine then pure (.tup (List.replicate k.toNat xs).flatten) else M.bad
  | _, _ => M.bad
theorem RelL.rep {K : W.Frag} {ι : Io} {H : Hp} {ds : List D} {vs : List V} (h : RelL K ι H ds vs) : ∀ n, RelL K ι H (List.replicate n ds).flatten (List.replicate n vs).flatten
  | 0 => RelL.nil
  | n + 1 => by
    rw [List.replicate_succ, List.replicate_succ, List.flatten_cons, List.flatten_cons]
    exact RelL.append h (RelL.rep h n)
theorem op_mulX : OpR X (binaryOp .Mult) (toR2 X.K E dMul) := by
  refine OpR.imp (op_mul.or op_repT) fun x y H Q ⟨ι, h, d1, d2, r1, r2, hr, q⟩ => ?_
  unfold dMul at q
  split at q
  · simp only [Rel] at r1 r2
    obtain ⟨c, q⟩ := Fin.guard q
    refine .inl ⟨_, _, r1, r2, ?_, Fin.out hr q _ (by simp [Rel])⟩
    rcases (Bool.or_eq_true _ _).mp c with z | z
    · exact .inl (small64_iff z)
    · exact .inr (small64_iff z)
  · simp only [Rel] at r2
    obtain ⟨a, vs, e, k1, k2⟩ := relSqT r1
    obtain ⟨⟨c1, c2, c3, c4⟩, q⟩ := Fin.guard q
    refine .inr ⟨a, _, vs, e, r2, k1, fun z => c1 ?_, c2, c3, by rw [← k2.length]; exact c4, fun p hp => newT hr (k2.rep _) q hp⟩
    subst z
    exact List.eq_nil_of_length_eq_zero k2.length
  · exact False.elim q
mutual
noncomputable def pdH (h : Hh) : D → Option PyData
  | .non => some .none
  | .bl b => some (.bool b)
  | .int i => some (.int i)
  | .str x => some (.str x)
  | .tup xs => (pdHL h xs).map .tuple
  | .lst xs => (pdHL h xs).map .list
  | .cel n => match h[n]? with
    | some (.lst ds) => (pdL ds).map .list
    | _ => none
  | _ => none
noncomputable def pdHL (h : Hh) : List D → Option (List PyData)
  | [] => some []
  | x :: xs => match pdH h x, pdHL h xs with
    | some a, some r => some (a :: r)
    | _, _ => none
end
mutual
theorem readsH {pins : List (Addr × Obj)} {σ : L2.St} {H : Hp} {s : Shared} {ι : Io} {h : Hh} (I : Inv X pins σ H s) (hr : HRel X.K ι H h) : ∀ {d : D} {v : V} {u : Value} {p : PyData}, Rel X.K ι H d v → RelV v u → pdH h d = some p → ∃ as, Reads s.heap u p as
  | .non, v, u, p, r, ru, e => by simp only [Rel] at r; subst r; cases ru; simp only [pdH] at e; cases e; exact ⟨_, .none⟩
  | .bl b, v, u, p, r, ru, e => by simp only [Rel] at r; subst r; cases ru; simp only [pdH] at e; cases e; exact ⟨_, .bool _⟩
  | .int i, v, u, p, r, ru, e => by simp only [Rel] at r; subst r; obtain ⟨t, rfl⟩ := ru; simp only [pdH] at e; cases e; exact ⟨_, .int _ _⟩
  | .str i, v, u, p, r, ru, e => by simp only [Rel] at r; subst r; obtain ⟨t, rfl⟩ := ru; simp only [pdH] at e; cases e; exact ⟨_, .str _ _⟩
  | .tup ds, v, u, p, r, ru, e => by
    obtain ⟨a, vs, rfl, h1, h2⟩ := relSqT r
    cases ru
    obtain ⟨its, rv, pl, _⟩ := I.tuple h1
    obtain ⟨o, ho, hc, n, hd⟩ := pl
    simp only [pdH] at e
    cases z : pdHL h ds with
    | none => rw [z] at e; cases e
    | some ps =>
      rw [z] at e; cases e
      obtain ⟨as, q⟩ := readsHL I hr h2 rv z
      exact ⟨_, .tuple ho hc hd (by simpa using q)⟩
  | .lst ds, v, u, p, r, ru, e => by
    obtain ⟨a, vs, rfl, h1, h2⟩ := relSqL r
    cases ru
    obtain ⟨its, rv, pl, _⟩ := I.list h1
    obtain ⟨o, ho, hc, n, hd⟩ := pl.isList
    simp only [pdH] at e
    cases z : pdHL h ds with
    | none => rw [z] at e; cases e
    | some ps =>
      rw [z] at e; cases e
      obtain ⟨as, q⟩ := readsHL I hr h2 rv z
      exact ⟨_, .list ho hc hd (by simpa using q)⟩
  | .cel m, v, u, p, r, ru, e => by
    simp only [pdH] at e
    cases z0 : h[m]? with
    | none => rw [z0] at e; cases e
    | some c =>
      rw [z0] at e
      cases c with
      | dead => cases e
      | lst ds =>
        obtain ⟨a, vs, rfl, hn, hH, rl⟩ := hr.read r z0
        cases ru
        obtain ⟨its, rv, pl, _⟩ := I.list (SqL.of hH)
        obtain ⟨o, ho, hc, n, hd⟩ := pl.isList
        cases z : pdL ds with
        | none => simp only [z] at e; cases e
        | some ps =>
          simp only [z] at e; cases e
          obtain ⟨as, q⟩ := readsL I rl rv z
          exact ⟨_, .list ho hc hd (by simpa using q)⟩
  | .scr ds, _, _, _, _, _, e => by simp only [pdH] at e; cases e
  | .set xs, _, _, _, _, _, e => by simp only [pdH] at e; cases e
  | .dct, _, _, _, _, _, e => by simp only [pdH] at e; cases e
  | .fn _, _, _, _, _, _, e => by simp only [pdH] at e; cases e
  | .exn _, _, _, _, _, _, e => by simp only [pdH] at e; cases e
theorem readsHL {pins : List (Addr × Obj)} {σ : L2.St} {H : Hp} {s : Shared} {ι : Io} {h : Hh} (I : Inv X pins σ H s) (hr : HRel X.K ι H h) : ∀ {ds : List D} {vs : List V} {us : List Value} {ps : List PyData}, RelL X.K ι H ds vs → Vals vs us → pdHL h ds = some ps → ∃ as, ReadsAll s.heap us ps as
  | [], vs, us, ps, r, ru, e => by simp only [RelL] at r; subst r; cases ru; simp only [pdHL] at e; cases e; exact ⟨_, .nil⟩
  | d :: ds, vs, us, ps, r, ru, e => by
    simp only [RelL] at r
    obtain ⟨v, vr, rfl, r1, r2⟩ := r
    cases ru with
    | cons ru1 ru2 =>
      simp only [pdHL] at e
      cases z : pdH h d with
      | none => rw [z] at e; cases e
      | some a =>
        cases z2 : pdHL h ds with
        | none => rw [z, z2] at e; cases e
        | some b =>
          rw [z, z2] at e
          cases e
          obtain ⟨as, q1⟩ := readsH I hr r1 ru1 z
          obtain ⟨bs, q2⟩ := readsHL I hr r2 ru2 z2
          exact ⟨_, .cons q1 q2⟩
end
end
end L3
end
section
set_option maxHeartbeats 4000000
namespace L3
open PySem PySem.Spec PyProof.Rows L2 LT
noncomputable abbrev FE := Sd → M D
noncomputable abbrev FT := Sd → M Bool
noncomputable abbrev FA := Sd → M (List D)
noncomputable abbrev FS := Sd → M Out
noncomputable def cOp (F : D → D → M D) (a b : FE) : FE := fun sd => do let x ← a sd; let y ← b sd; F x y
noncomputable def cUn (F : D → M D) (a : FE) : FE := fun sd => do let x ← a sd; F x
noncomputable def cApp (F : List D → M D) (a : FA) : FE := fun sd => do let ds ← a sd; F ds
noncomputable def tCmp (F : D → D → M D) (a b : FE) : FT := fun sd => do let z ← (do let x ← a sd; let y ← b sd; F x y); dBool z
noncomputable def tVal (a : FE) : FT := fun sd => do let x ← a sd; dBool x
noncomputable def tNot (t : FT) : FT := fun sd => do let c ← t sd; pure (!c)
noncomputable def tAnd (t u : FT) : FT := fun sd => do let c ← t sd; if c = true then u sd else pure false
noncomputable def tOr (t u : FT) : FT := fun sd => do let c ← t sd; if c = true then pure true else u sd
noncomputable def cAnd (a b : FE) : FE := fun sd => do let c ← (do let x ← a sd; dBool x); if c = true then b sd else pure (.bl false)
noncomputable def cOr (a b : FE) : FE := fun sd => do let c ← (do let x ← a sd; dBool x); if c = true then pure (.bl true) else b sd
noncomputable def cNot (a : FE) : FE := fun sd => do let c ← (do let x ← a sd; dBool x); pure (.bl (!c))
noncomputable def cIf (t : FT) (a b : FE) : FE := fun sd => do let c ← t sd; if c = true then a sd else b sd
noncomputable def cK (d : D) : FE := fun _ => pure d
noncomputable def aNil : FA := fun _ => pure []
noncomputable def aCons (a : FE) (r : FA) : FA := fun sd => do let x ← a sd; let r ← r sd; pure (x :: r)
noncomputable def cTup (fs : FA) : FE := fun sd => do let ds ← fs sd; fits ds.length; pure (.tup ds)
noncomputable def cLst (fs : FA) : FE := fun sd => do let ds ← fs sd; fits ds.length; pure (.lst ds)
noncomputable def cLstC (fs : FA) : FE := fun sd => do let ds ← fs sd; fits ds.length; newCell ds
noncomputable def sNil : FS := fun sd => pure (.nx sd)
noncomputable def sThen (g g' : FS) : FS := fun sd => do let o ← g sd; andThen o g'
noncomputable def sSet (i : Nat) (f : FE) : FS := fun sd => do let d ← f sd; pure (.nx (sd.set i (some d)))
noncomputable def sRet (f : FE) : FS := fun sd => do let d ← f sd; pure (.rt d)
noncomputable def sIf (t : FT) (g g' : FS) : FS := fun sd => do let c ← t sd; if c = true then g sd else g' sd
noncomputable def sFor (fi : FA) (g : D → Sd → M Sd) (gb : FS) : FS := fun sd => do let ds ← fi sd; fLoop (fun x sd => do let sd1 ← g x sd; gb sd1) ds sd
noncomputable def sAsg (f : FE) (g : D → Sd → M Sd) : FS := fun sd => do let d ← f sd; let sd' ← g d sd; pure (.nx sd')
noncomputable def sExpr (f : FE) : FS := fun sd => do let _ ← f sd; pure (.nx sd)
noncomputable def iSq (f : FE) : FA := fun sd => do let d ← f sd; dItems d
noncomputable def iRng (fs : FA) : FA := fun sd => do let ds ← fs sd; dRng1 ds
noncomputable def gSubD (fo fi : FE) : D → Sd → M Sd := fun d sd => do let x ← fo sd; let y ← fi sd; dSetI x y d; pure sd
section
variable {X : Cx} {E : XE} {a b e c : Expr} {es : List Expr} {pos p p1 p2 : Pos} {fa fb f : FE} {fs : FA} {x : Str}
theorem r_var (i : Nat) (hN : X.N[i]? = some x := by rfl) (hv : Vis X.env.scope x := by first | exact Or.inl rfl | exact Or.inr (Or.inl rfl) | exact Or.inr (Or.inr rfl)) (hd : (x == ("__debug__" : Str)) = false := by decide) (hcd : (x == ("__classdict__" : Str)) = false := by decide) : SE X E (.Name x pos) (dVar i) := se_var i hN hv hd hcd
theorem r_int {i : Int} {j : Nat} : SE X E (.Constant (.int i) j pos) (cK (.int i)) := se_int
theorem r_bl {i : Bool} {j : Nat} : SE X E (.Constant (.bool i) j pos) (cK (.bl i)) := se_bl
theorem r_non {j : Nat} : SE X E (.Constant .none j pos) (cK .non) := se_non
theorem r_op {op : Operator} {F : D → D → M D} (ho : OpR X (binaryOp op) (toR2 X.K E F)) (ha : SE X E a fa) (hb : SE X E b fb) : SE X E (.BinOp a op b pos) (cOp F fa fb) := se_op ho ha hb
theorem r_cmp {op : CmpOp} {F : D → D → M D} (ho : OpR X (compareOp op) (toR2 X.K E F)) (ha : SE X E a fa) (hb : SE X E b fb) (hm : behindInMarks op b = false := by rfl) : SE X E (.Compare a [op] [b] pos) (cOp F fa fb) := se_cmp ho ha hb hm
theorem r_tcmp {op : CmpOp} {F : D → D → M D} (ho : OpR X (compareOp op) (toR2 X.K E F)) (ha : SE X E a fa) (hb : SE X E b fb) (hm : behindInMarks op b = false := by rfl) : ST X E (.Compare a [op] [b] pos) (tCmp F fa fb) := st_cmp ho ha hb hm
theorem r_ix (ha : SE X E a fa) (hb : SE X E b fb) (hs : PlainIx b := by intro _ _; rfl) : SE X E (.Subscript a b pos) (cOp dIx fa fb) := se_ix ix_D ha hb hs
theorem r_neg (ha : SE X E a fa) : SE X E (.UnaryOp .USub a pos) (cUn dNeg fa) := se_neg ha
theorem r_not (ha : SE X E a fa) : SE X E (.UnaryOp .Not a pos) (cNot fa) := se_not ha
theorem r_one {op : BoolOp} (h : SE X E a fa) : SE X E (.BoolOp op [a] pos) fa := se_one h
theorem r_and {rest : List Expr} (ha : SE X E a fa) (hb : SE X E (.BoolOp .And (b :: rest) pos) fb) : SE X E (.BoolOp .And (a :: b :: rest) pos) (cAnd fa fb) := se_and ha hb
theorem r_or {rest : List Expr} (ha : SE X E a fa) (hb : SE X E (.BoolOp .Or (b :: rest) pos) fb) : SE X E (.BoolOp .Or (a :: b :: rest) pos) (cOr fa fb) := se_or ha hb
theorem r_tval (h : SE X E e f) (he : ∀ whole, isTrue e X.env whole = (do let v ← whole; standAt e.pos; holding [v] (truthy v)) := by intro _; rfl) : ST X E e (tVal f) := st_val h he
theorem r_tnot {t : FT} (ha : ST X E a t) : ST X E (.UnaryOp .Not a pos) (tNot t) := st_not ha
theorem r_wor1 {t : FT} (ha : ST X E a t) : PW X (.BoolOp .Or [a] pos) (toTT X.K E t) := st_or1 ha
theorem r_wor {rest : List Expr} {t u : FT} (ha : ST X E a t) (hb : PW X (.BoolOp .Or (b :: rest) pos) (toTT X.K E u)) : PW X (.BoolOp .Or (a :: b :: rest) pos) (toTT X.K E (tOr t u)) := st_or ha hb
theorem r_tbool {op : BoolOp} {vs : List Expr} {t : FT} (h : PW X (.BoolOp op vs pos) (toTT X.K E t)) : ST X E (.BoolOp op vs pos) t := st_bool h
theorem r_ife {t : FT} (hc : ST X E c t) (ha : SE X E a fa) (hb : SE X E b fb) : SE X E (.IfExp c a b pos) (cIf t fa fb) := se_ifExp hc ha hb
theorem star_cons {env : Env} (h : ∀ v p, e ≠ .Starred v p) : starEach (e :: es) env = (false, eval e env) :: starEach es env := by
  cases e <;> first | rfl | exact absurd rfl (h _ _)
theorem r_anil : SA X E [] aNil := sa_nil
theorem r_acons (ha : SE X E e fa) (hr : SA X E es fs) (hs : starEach (e :: es) X.env = (false, eval e X.env) :: starEach es X.env := by exact star_cons (fun _ _ z => nomatch z)) : SA X E (e :: es) (aCons fa fs) := sa_cons ha hr hs
theorem r_tup {k} (h : SA X E es fs) : SE X E (.Tuple es k pos) (cTup fs) := se_tup h
theorem r_lst (h : SA X E es fs) : SE X E (.List es pos) (cLst fs) := se_lst h
theorem r_lstC (h : SA X E es fs) : SE X E (.List es pos) (cLstC fs) := se_lstC h
theorem r_callB {id : String} {F : List D → M D} (hc : CallR X (.builtin id) (toRA X.K E F)) (hv : bootBuiltins x = some (.builtin id)) (hm : X.mg x = none) (ha : SA X E (e :: es) fs) (hg : Gl X x := by rfl) (hn : x ≠ "__name__" := by decide) (hdb : (x == ("__debug__" : Str)) = false := by decide)
    (he : starEach (e :: es) X.env = (false, eval e X.env) :: starEach es X.env := by rfl) (hpl : (backTo pos (starEach es X.env)).any (·.1) = false := by rfl) : SE X E (.Call (.Name x p) (e :: es) [] pos) (cApp F fs) := se_callB hc hg hm hv ha hn hdb he hpl
theorem r_callTy {T : String} {F : List D → M D} (hc : CallR X (.type T) (toRA X.K E F)) (hv : bootBuiltins x = some (.type T)) (hm : X.mg x = none) (ha : SA X E (e :: es) fs) (hg : Gl X x := by rfl) (hn : x ≠ "__name__" := by decide) (hdb : (x == ("__debug__" : Str)) = false := by decide)
    (he : starEach (e :: es) X.env = (false, eval e X.env) :: starEach es X.env := by rfl) (hpl : (backTo pos (starEach es X.env)).any (·.1) = false := by rfl) : SE X E (.Call (.Name x p) (e :: es) [] pos) (cApp F fs) := se_callTy hc hg hm hv ha hn hdb he hpl
theorem r_isI {T : String} (hk : KitOk T) (hvT : bootBuiltins x = some (.type T)) (hm : X.mg "isinstance" = none) (hmT : X.mg x = none) (ha : SE X E a fa) (hg : Gl X "isinstance" := by rfl) (hgT : Gl X x := by rfl)
    (hn : x ≠ "__name__" := by decide) (hd : (x == ("__debug__" : Str)) = false := by decide)
    (h1 : starEach [a, .Name x p2] X.env = (false, eval a X.env) :: starEach [.Name x p2] X.env := by rfl) (h2 : starEach [.Name x p2] X.env = [(false, eval (.Name x p2) X.env)] := by rfl)
    (hpl : (backTo pos (starEach [.Name x p2] X.env)).any (·.1) = false := by rfl) : SE X E (.Call (.Name "isinstance" p1) [a, .Name x p2] [] pos) (cUn (dIsI T) fa) := se_isI hk hg hm hgT hmT hvT ha hn hd h1 h2 hpl
theorem r_sortset {pos2 : Pos} (hc : X.calm = true) (hm1 : X.mg "sorted" = none) (hm2 : X.mg "set" = none) (he : SE X E e f) (hg1 : Gl X "sorted" := by rfl) (hg2 : Gl X "set" := by rfl)
    (h1 : starEach [.Call (.Name "set" p2) [e] [] pos2] X.env = [(false, eval (.Call (.Name "set" p2) [e] [] pos2) X.env)] := by rfl) (h2 : starEach [e] X.env = [(false, eval e X.env)] := by rfl) :
    SE X E (.Call (.Name "sorted" p1) [.Call (.Name "set" p2) [e] [] pos2] [] pos) (cUn dSortSet f) := se_sortset hc hg1 hm1 hg2 hm2 he h1 h2
theorem r_call {k : Nat} {g : Addr} {fd : FuncData} {ps : List Str} {n : Nat} {F : List D → M D} (G : FnOk X.prog X.w X.K X.mg X.base CX0 k g fd ps (spOf X.K n F)) (hr : Room k X.A) (hm : X.mg x = some (.ref g)) (hk : W.keepIn X.K (.ref g) = true) (hb : Binds X.K fd ps [])
    (ha : SA X E0x (e :: es) fs) (hg : Gl X x := by rfl) (hdb : (x == ("__debug__" : Str)) = false := by decide) (he : starEach (e :: es) X.env = (false, eval e X.env) :: starEach es X.env := by rfl) (hpl : (backTo pos (starEach es X.env)).any (·.1) = false := by rfl) :
    SE X E0x (.Call (.Name x p) (e :: es) [] pos) (cApp (callD n F) fs) := se_call G hr hg hm hk hb ha hdb he hpl
theorem r_snil : SSs X E [] sNil := ss_nil
theorem r_sone {st : Stmt} {g : FS} (h1 : SS X E st g) : SSs X E [st] g := ss_one h1
theorem r_scons {st : Stmt} {rest : List Stmt} {g g' : FS} (h1 : SS X E st g) (h2 : SSs X E rest g') : SSs X E (st :: rest) (sThen g g') := ss_cons h1 h2
theorem r_ret (he : SE X E e f) : SS X E (.Return (some e) pos) (sRet f) := s_ret he
theorem r_if {ys ns : List Stmt} {t : FT} {g g' : FS} (hc : ST X E c t) (ha : SSs X E ys g) (hb : SSs X E ns g') : SS X E (.If c ys ns pos) (sIf t g g') := s_if hc ha hb
theorem r_expr (he : SE X E e f) (hs : swapsWith e none pos.line X.env = pure false := by rfl) : SS X E (.Expr e pos) (sExpr f) := s_expr he hs
theorem r_set (i : Nat) (hN : X.N.Nodup) (he : SE X E e f) (hi : X.N[i]? = some x := by rfl) (hx : Loc X.env.scope x := by first | exact Or.inl rfl | exact Or.inr rfl) (hf : X.fn x = true ∨ X.env.scope.names.lookup x = some .local := by first | exact Or.inl rfl | exact Or.inr rfl)
    (hs : swapsWith e (some (.Name x p)) pos.line X.env = pure false := by rfl) : SS X E (.Assign [.Name x p] e pos) (sSet i f) := s_set i hN hi hx hf he hs
theorem r_asg {tg : Expr} {g : D → Sd → M Sd} (he : SE X E e f) (hg : SG X E tg g) (hs : swapsWithSole [tg] e pos.line X.env = pure false := by rfl) (hw : swappedStores [tg] e X.env = pure none := by rfl)
    (h1 : (assignEach [tg] X.env).map (·.2) = [assign tg X.env] := by rfl) : SS X E (.Assign [tg] e pos) (sAsg f g) := s_asg he hg hs hw h1
theorem r_gname (i : Nat) (hN : X.N.Nodup) (hi : X.N[i]? = some x := by rfl) (hx : Loc X.env.scope x := by first | exact Or.inl rfl | exact Or.inr rfl) (hf : X.fn x = true ∨ X.env.scope.names.lookup x = some .local := by first | exact Or.inl rfl | exact Or.inr rfl) : SG X E (.Name x pos) (gSet i) := sg_name i hN hi hx hf
theorem r_gsnil : SGs X E [] gsNil := sgs_nil
theorem r_gscons {g : D → Sd → M Sd} {gs : List D → Sd → M Sd} (h1 : SG X E e g) (h2 : SGs X E es gs) (hs : (assignEach (e :: es) X.env).map (·.2) = assign e X.env :: (assignEach es X.env).map (·.2) := by rfl) : SGs X E (e :: es) (gsCons g gs) := sgs_cons h1 h2 hs
theorem r_gtup {k n : Nat} {gs : List D → Sd → M Sd} (hc : X.calm = true) (h : SGs X E es gs) (hn : (assignEach es X.env).length = n := by rfl) (hst : (assignEach es X.env).findIdx? (·.1) = none := by rfl) : SG X E (.Tuple es k pos) (gTupD n gs) := sg_tup hc h hn hst
theorem r_gsub (ho : SE X E a fa) (hi : SE X E b fb) (ha : ∀ v, assign (.Subscript a b pos) X.env v = (do
      let ov ← holding [v] (eval a X.env)
      let iv ← holding [v, ov] (eval b X.env)
      standAt pos
      holding [v, ov, iv] (setItem ov iv v)
      release [v, ov, iv] []) := by intro _; rfl) : SG X E (.Subscript a b pos) (gSubD fa fb) := sg_sub fun hs => pg_sub ho hi hs ha
theorem r_seq {tg : Expr} (he : SE X E e f) : SI X E tg e (iSq f) := si_seq he
theorem r_rng {tg : Expr} (hm : X.mg "range" = none) (ha : SA X E [a] fs) (hg : Gl X "range" := by rfl) (hs : starEach [a] X.env = [(false, eval a X.env)] := by rfl) : SI X E tg (.Call (.Name "range" p) [a] [] pos) (iRng fs) := si_rng1 hg hm ha hs
theorem r_for {tg iter : Expr} {body : List Stmt} {fi : FA} {g : D → Sd → M Sd} {gb : FS} (hc : X.calm = true) (hp : PassesOwn (model X.prog X.w) X.A X.env X.xe) (hi : SI X E tg iter fi) (hg : SG X E tg g) (hb : SSs X E body gb)
    (hs : ∀ x, foldedSetIterable iter X.env x = pure x := by intro _; rfl) : SS X E (.For tg iter body [] pos) (sFor fi g gb) := s_for hc hp hi hg hb hs
theorem r_cnil : SCs X E [] (fun _ => pure true) := sc_nil
theorem r_cone {t : FT} (h : ST X E c t) : SCs X E [c] t := sc_one h
theorem r_comp {scope : Scope} {N : List Str} {src : List (Option Nat)} {tg iter elt : Expr} {ifs : List Expr} {fi : FA} {g : D → Sd → M Sd} {tc : FT} {te : FE} (hc : X.calm = true) (B : BOk X scope N src) (hk : GKeeps g src) (hi : SI X E tg iter fi)
    (hg : ∀ s H fp, SG (cxB X scope N s H fp) E tg g) (ht : ∀ s H fp, SCs (cxB X scope N s H fp) E ifs tc) (he : ∀ s H fp, SE (cxB X scope N s H fp) E elt te)
    (hs : ∀ x, foldedSetIterable iter X.env x = pure x := by intro _; rfl) : SE X E (.ListComp elt [⟨tg, iter, ifs, 0⟩] scope pos) (dComp fi g tc te src) := se_comp B hk hi hg ht he hs
theorem r_setcomp {scope : Scope} {N : List Str} {src : List (Option Nat)} {tg iter elt : Expr} {ifs : List Expr} {fi : FA} {g : D → Sd → M Sd} {tc : FT} {te : FE} (i : Nat) {y : Str} {py spos : Pos} (hc : X.calm = true) (hN : X.N.Nodup) (B : BOk X scope N src) (hk : GKeeps g src) (hi : SI X E tg iter fi)
    (hg : ∀ s H fp, SG (cxB X scope N s H fp) E tg g) (ht : ∀ s H fp, SCs (cxB X scope N s H fp) E ifs tc) (he : ∀ s H fp, SE (cxB X scope N s H fp) E elt te)
    (hy : X.N[i]? = some y := by rfl) (hx : Loc X.env.scope y := by first | exact Or.inl rfl | exact Or.inr rfl) (hf : X.fn y = true ∨ X.env.scope.names.lookup y = some .local := by first | exact Or.inl rfl | exact Or.inr rfl) (hsw : swapsWith (.ListComp elt [⟨tg, iter, ifs, 0⟩] scope pos) (some (.Name y py)) spos.line X.env = pure true := by rfl)
    (hs : ∀ x, foldedSetIterable iter X.env x = pure x := by intro _; rfl) : SS X E (.Assign [.Name y py] (.ListComp elt [⟨tg, iter, ifs, 0⟩] scope pos) spos) (sSet i (dComp fi g tc te src)) := s_setcomp i B hk hi hg ht he hN hy hx hf hsw hs
end
theorem HRel.empty {K : W.Frag} {H : Hp} : HRel K ⟨[], []⟩ H [] := ⟨rfl, fun m n a h => by simp at h, fun n a c h => by simp at h, fun n h => by simp at h, fun a h => by cases h⟩
theorem sp_of {K : W.Frag} {F : List D → M D} {H : Hp} {a : Addr} {ns : List Int} (hS : SqL K H a (ns.map V.int)) (hm : ∃ h', F [.scr (ns.map D.int)] [] = .ok (.bl true) h') : spOf K 1 F [.ref a] H (fun v _ => v = .bl true) fun _ _ _ => False := by
  obtain ⟨h', e⟩ := hm
  refine ⟨rfl, ⟨[], []⟩, [], [.scr (ns.map D.int)], RelL.cons ?_ RelL.nil, HRel.empty, ?_⟩
  · simp only [Rel]
    refine ⟨a, ns.map V.int, rfl, ?_, relL_ints.mpr rfl⟩
    rcases hS with h | h
    · exact .inl ⟨h, fun z => by rcases z with z | z <;> cases z⟩
    · exact .inr (.inr h)
  · rw [e]
    intro ι1 H1 s hr v rv
    simpa [Rel] using rv
end L3
end
section
set_option maxHeartbeats 4000000
namespace L3
open PySem PySem.Spec PyProof.Rows L2 LT
section
variable {sd : Sd} {a b : FE} {fs : FA} {t u : FT} {g g' : FS} {F : D → D → M D}
@[simp] theorem e_cOp : cOp F a b sd = (do let x ← a sd; let y ← b sd; F x y) := rfl
@[simp] theorem e_cUn {F : D → M D} : cUn F a sd = (do let x ← a sd; F x) := rfl
@[simp] theorem e_cApp {F : List D → M D} : cApp F fs sd = (do let ds ← fs sd; F ds) := rfl
@[simp] theorem e_tCmp : tCmp F a b sd = (do let z ← (do let x ← a sd; let y ← b sd; F x y); dBool z) := rfl
@[simp] theorem e_tVal : tVal a sd = (do let x ← a sd; dBool x) := rfl
@[simp] theorem e_tNot : tNot t sd = (do let c ← t sd; pure (!c)) := rfl
@[simp] theorem e_tAnd : tAnd t u sd = (do let c ← t sd; if c = true then u sd else pure false) := rfl
@[simp] theorem e_tOr : tOr t u sd = (do let c ← t sd; if c = true then pure true else u sd) := rfl
@[simp] theorem e_cAnd : cAnd a b sd = (do let c ← (do let x ← a sd; dBool x); if c = true then b sd else pure (.bl false)) := rfl
@[simp] theorem e_cOr : cOr a b sd = (do let c ← (do let x ← a sd; dBool x); if c = true then pure (.bl true) else b sd) := rfl
@[simp] theorem e_cNot : cNot a sd = (do let c ← (do let x ← a sd; dBool x); pure (.bl (!c))) := rfl
@[simp] theorem e_cIf : cIf t a b sd = (do let c ← t sd; if c = true then a sd else b sd) := rfl
@[simp] theorem e_cK {d : D} : cK d sd = pure d := rfl
@[simp] theorem e_aNil : aNil sd = pure [] := rfl
@[simp] theorem e_aCons : aCons a fs sd = (do let x ← a sd; let r ← fs sd; pure (x :: r)) := rfl
@[simp] theorem e_cTup : cTup fs sd = (do let ds ← fs sd; fits ds.length; pure (.tup ds)) := rfl
@[simp] theorem e_cLst : cLst fs sd = (do let ds ← fs sd; fits ds.length; pure (.lst ds)) := rfl
@[simp] theorem e_cLstC : cLstC fs sd = (do let ds ← fs sd; fits ds.length; newCell ds) := rfl
@[simp] theorem e_sNil : sNil sd = pure (.nx sd) := rfl
@[simp] theorem e_sThen : sThen g g' sd = (do let o ← g sd; andThen o g') := rfl
@[simp] theorem e_sSet {i : Nat} : sSet i a sd = (do let d ← a sd; pure (.nx (sd.set i (some d)))) := rfl
@[simp] theorem e_sRet : sRet a sd = (do let d ← a sd; pure (.rt d)) := rfl
@[simp] theorem e_sIf : sIf t g g' sd = (do let c ← t sd; if c = true then g sd else g' sd) := rfl
@[simp] theorem e_sFor {fi : FA} {gt : D → Sd → M Sd} : sFor fi gt g sd = (do let ds ← fi sd; fLoop (fun x sd => do let sd1 ← gt x sd; g sd1) ds sd) := rfl
@[simp] theorem e_sAsg {gt : D → Sd → M Sd} : sAsg a gt sd = (do let d ← a sd; let sd' ← gt d sd; pure (.nx sd')) := rfl
@[simp] theorem e_sExpr : sExpr a sd = (do let _ ← a sd; pure (.nx sd)) := rfl
@[simp] theorem e_iSq : iSq a sd = (do let d ← a sd; dItems d) := rfl
@[simp] theorem e_iRng : iRng fs sd = (do let ds ← fs sd; dRng1 ds) := rfl
@[simp] theorem e_gSubD {d : D} : gSubD a b d sd = (do let x ← a sd; let y ← b sd; dSetI x y d; pure sd) := rfl
@[simp] theorem e_gSet {i : Nat} {d : D} : gSet i d sd = pure (sd.set i (some d)) := rfl
@[simp] theorem e_nx : andThen (.nx sd) g = g sd := rfl
@[simp] theorem e_rt {d : D} : andThen (.rt d) g = pure (.rt d) := rfl
@[simp] theorem e_bk : andThen (.bk sd) g = pure (.bk sd) := rfl
@[simp] theorem e_ct : andThen (.ct sd) g = pure (.ct sd) := rfl
@[simp] theorem e_onx : outD (.nx sd) = pure .non := rfl
@[simp] theorem e_ort {d : D} : outD (.rt d) = pure d := rfl
@[simp] theorem e_bool {c : Bool} : dBool (.bl c) = pure c := rfl
@[simp] theorem e_cSl {lo hi : Sd → M (Option Int)} : cSl a lo hi sd = (do let d ← a sd; let l ← lo sd; let u ← hi sd; dSl d l u) := rfl
@[simp] theorem e_oNone : oNone sd = pure none := rfl
@[simp] theorem e_oSome : oSome a sd = (do let d ← a sd; dPart d) := rfl
@[simp] theorem e_part {i : Int} : dPart (.int i) = pure (some i) := rfl
@[simp] theorem e_slT {ds : List D} {lo hi : Option Int} : dSl (.tup ds) lo hi = pure (.tup (cutD ds lo hi)) := rfl
@[simp] theorem e_rev {ds : List D} : dRev (.tup ds) = pure (.tup ds.reverse) := rfl
@[simp] theorem e_neg {i : Int} : dNeg (.int i) = pure (.int (-i)) := rfl
@[simp] theorem e_addI {i j : Int} : dAdd (.int i) (.int j) = pure (.int (i + j)) := rfl
@[simp] theorem e_addT {xs ys : List D} : dAdd (.tup xs) (.tup ys) = (do fits (xs.length + ys.length); pure (.tup (xs ++ ys))) := rfl
@[simp] theorem e_addL {xs ys : List D} : dAdd (.lst xs) (.lst ys) = (do fits (xs.length + ys.length); pure (.lst (xs ++ ys))) := rfl
@[simp] theorem e_sub {i j : Int} : dSub (.int i) (.int j) = pure (.int (i - j)) := rfl
@[simp] theorem e_and {i j : Int} : dAnd (.int i) (.int j) = pure (.int (Builtin.bitAnd i j)) := rfl
@[simp] theorem e_lt {i j : Int} : dLt (.int i) (.int j) = pure (.bl (decide (i < j))) := rfl
@[simp] theorem e_le {i j : Int} : dLe (.int i) (.int j) = pure (.bl (decide (i ≤ j))) := rfl
@[simp] theorem e_gt {i j : Int} : dGt (.int i) (.int j) = pure (.bl (decide (j < i))) := rfl
@[simp] theorem e_ge {i j : Int} : dGe (.int i) (.int j) = pure (.bl (decide (j ≤ i))) := rfl
@[simp] theorem e_isnot {i j : Bool} : dIsNot (.bl i) (.bl j) = pure (.bl (i != j)) := rfl
@[simp] theorem e_lenT {ds : List D} : dLen [.tup ds] = pure (.int ds.length) := rfl
@[simp] theorem e_lenL {ds : List D} : dLen [.lst ds] = pure (.int ds.length) := rfl
@[simp] theorem e_lenS {ds : List D} : dLen [.scr ds] = pure (.int ds.length) := rfl
@[simp] theorem e_tupT {ds : List D} : dTuple [.tup ds] = pure (.tup ds) := rfl
@[simp] theorem e_tupL {ds : List D} : dTuple [.lst ds] = pure (.tup ds) := rfl
@[simp] theorem e_lstT {ds : List D} : dList [.tup ds] = pure (.lst ds) := rfl
@[simp] theorem e_itT {ds : List D} : dItems (.tup ds) = pure ds := rfl
@[simp] theorem e_itL {ds : List D} : dItems (.lst ds) = pure ds := rfl
@[simp] theorem e_call1 {F : List D → M D} {x : D} : callD 1 F [x] = F [x] := rfl
@[simp] theorem e_call2 {F : List D → M D} {x y : D} : callD 2 F [x, y] = F [x, y] := rfl
@[simp] theorem e_call3 {F : List D → M D} {x y z : D} : callD 3 F [x, y, z] = F [x, y, z] := rfl
@[simp] theorem e_floop0 {body : D → Sd → M Out} : fLoop body [] sd = pure (.nx sd) := rfl
theorem e_floop {body : D → Sd → M Out} {x : D} {r : List D} : fLoop body (x :: r) sd = (do let o ← body x sd; match o with | .nx sd' => fLoop body r sd' | .ct sd' => fLoop body r sd' | .bk sd' => pure (.nx sd') | .rt d => pure (.rt d)) := rfl
@[simp] theorem e_gtup2 {gs : List D → Sd → M Sd} {x y : D} : gTupD 2 gs (.tup [x, y]) sd = gs [x, y] sd := rfl
@[simp] theorem e_gsnil : gsNil [] sd = pure sd := rfl
@[simp] theorem e_gscons {gt : D → Sd → M Sd} {gs : List D → Sd → M Sd} {x : D} {r : List D} : gsCons gt gs (x :: r) sd = (do let sd1 ← gt x sd; gs r sd1) := rfl
@[simp] theorem e_setI {n : Nat} {k : Int} {d : D} : dSetI (.cel n) (.int k) d = (do let ds ← cellGet n; let j ← ofO (ixN ds.length k); cellPut n (ds.set j d)) := rfl
@[simp] theorem e_ixT {ds : List D} {i : Int} : dIx (.tup ds) (.int i) = ofO (atI ds i) := rfl
@[simp] theorem e_ixL {ds : List D} {i : Int} : dIx (.lst ds) (.int i) = ofO (atI ds i) := rfl
@[simp] theorem e_ixS {ds : List D} {i : Int} : dIx (.scr ds) (.int i) = ofO (atI ds i) := rfl
@[simp] theorem e_ixC {n : Nat} {i : Int} : dIx (.cel n) (.int i) = (do let ds ← cellGet n; ofO (atI ds i)) := rfl
@[simp] theorem e_ofO {α : Type} {x : α} : ofO (some x) = pure x := rfl
@[simp] theorem e_at0 {x : D} {r : List D} : atI (x :: r) 0 = some x := by unfold atI ixN; simp
@[simp] theorem e_at1 {x y : D} {r : List D} : atI (x :: y :: r) 1 = some y := by
  have := atI_nat (xs := x :: y :: r) (j := 1) (v := y) rfl
  simpa using this
end
theorem fits_ok {n : Nat} (h : n ≤ 1000) : fits n = pure () := by
  unfold fits
  rw [if_pos (Nat.le_trans h (by decide))]
theorem dMulI_ok {i j : Int} (h : (small64 i || small64 j) = true) : dMul (.int i) (.int j) = pure (.int (i * j)) := by
  show (if (small64 i || small64 j) = true then _ else _) = _
  rw [if_pos h]
theorem small_of {i : Int} (h : -1000000000000000 < i) (h' : i < 1000000000000000) : small64 i = true := by unfold small64; simp; omega
theorem dMul_l {i j : Int} (h : -1000000000000000 < i) (h' : i < 1000000000000000) : dMul (.int i) (.int j) = pure (.int (i * j)) := dMulI_ok (by rw [small_of h h']; rfl)
theorem dMul_r {i j : Int} (h : -1000000000000000 < j) (h' : j < 1000000000000000) : dMul (.int i) (.int j) = pure (.int (i * j)) := dMulI_ok (by rw [small_of h h']; simp)
theorem dMod_ok {i j : Int} (h : 0 < j) : dMod (.int i) (.int j) = pure (.int (i % j)) := by
  show (if (decide (0 < j)) = true then _ else _) = _
  rw [if_pos (by simpa using h)]
theorem dFdiv_ok {i j : Int} (h : 0 < j) (h' : j < 2 ^ 64) : dFdiv (.int i) (.int j) = pure (.int (i / j)) := by
  show (if (decide (0 < j) && decide (j < 2 ^ 64)) = true then _ else _) = _
  rw [if_pos (by rw [Bool.and_eq_true]; exact ⟨by simpa using h, by simpa using h'⟩)]
theorem dEqI {i j : Int} : dEq (.int i) (.int j) = pure (.bl (i == j)) := by
  unfold dEq dEqG
  simp only [pd]
  rw [if_pos (show eqOk (.int i) (.int j) = true from rfl)]
  rfl
theorem dNeI {i j : Int} : dNe (.int i) (.int j) = pure (.bl (!(i == j))) := by
  unfold dNe dEqG
  simp only [pd]
  rw [if_pos (show eqOk (.int i) (.int j) = true from rfl)]
  rfl
theorem dNeB {i j : Bool} : dNe (.bl i) (.bl j) = pure (.bl (!(i == j))) := by
  unfold dNe dEqG
  simp only [pd]
  rw [if_pos (show eqOk (.bool i) (.bool j) = true from rfl)]
  rfl
noncomputable def wp {α : Type} (m : M α) (h : Hh) (P : α → Hh → Prop) : Prop := ∃ a h', m h = .ok a h' ∧ P a h'
section
variable {α β : Type} {h : Hh} {P P' : α → Hh → Prop}
theorem wp_pure {a : α} : wp (pure a : M α) h P ↔ P a h := ⟨fun ⟨b, h', e, q⟩ => by cases (show R.ok a h = R.ok b h' from e); exact q, fun q => ⟨a, h, rfl, q⟩⟩
theorem wp_bind {m : M β} {f : β → M α} : wp (m >>= f) h P ↔ wp m h fun b h' => wp (f b) h' P := by
  constructor
  · rintro ⟨a, h', e, q⟩
    have e : M.bind m f h = .ok a h' := e
    unfold M.bind at e
    cases z : m h with
    | ok b h1 => rw [z] at e; exact ⟨b, h1, z, a, h', e, q⟩
    | exc c h1 => rw [z] at e; cases e
    | bad => rw [z] at e; cases e
  · rintro ⟨b, h1, e, a, h', e2, q⟩
    refine ⟨a, h', ?_, q⟩
    show M.bind m f h = _
    unfold M.bind
    rw [e]
    exact e2
theorem wp_mono {m : M α} (q : wp m h P) (k : ∀ a h', P a h' → P' a h') : wp m h P' := by
  obtain ⟨a, h', e, q⟩ := q
  exact ⟨a, h', e, k _ _ q⟩
theorem wp_get {n : Nat} {ds : List D} {P : List D → Hh → Prop} (e : h[n]? = some (.lst ds)) : wp (cellGet n) h P ↔ P ds h := by
  unfold wp cellGet
  rw [e]
  exact ⟨fun ⟨b, h', e, q⟩ => by cases e; exact q, fun q => ⟨_, _, rfl, q⟩⟩
theorem wp_put {n : Nat} {ds : List D} {P : Unit → Hh → Prop} : wp (cellPut n ds) h P ↔ P () (h.set n (.lst ds)) := ⟨fun ⟨b, h', e, q⟩ => by cases (show R.ok () (h.set n (.lst ds)) = R.ok b h' from e); exact q, fun q => ⟨_, _, rfl, q⟩⟩
theorem wp_new {ds : List D} {P : D → Hh → Prop} : wp (newCell ds) h P ↔ P (.cel h.length) (h ++ [.lst ds]) := ⟨fun ⟨b, h', e, q⟩ => by cases (show R.ok (D.cel h.length) (h ++ [C.lst ds]) = R.ok b h' from e); exact q, fun q => ⟨_, _, rfl, q⟩⟩
end
theorem cLoop_pure {f : D → M (Option D)} {k : D → Option D} : ∀ {ds : List D}, (∀ x ∈ ds, f x = pure (k x)) → cLoop f ds = pure (ds.filterMap k)
  | [], _ => rfl
  | x :: r, hf => by
    rw [cLoop, hf x List.mem_cons_self, cLoop_pure fun y hy => hf y (List.mem_cons_of_mem _ hy)]
    simp only [pure_bind]
    cases e : k x <;> simp [List.filterMap_cons, e]
theorem dComp_pure {fi : FA} {g : D → Sd → M Sd} {tc : FT} {te : FE} {src : List (Option Nat)} {sd : Sd} {ds : List D} {k : D → Option D} (hi : fi sd = pure ds) (hl : ds.length ≤ 1000) (hf : ∀ x ∈ ds, cTurn g tc te (bStartD src sd) x = pure (k x)) : dComp fi g tc te src sd = pure (.lst (ds.filterMap k)) := by
  unfold dComp
  rw [hi]
  simp only [pure_bind]
  rw [fits_ok hl]
  simp only [pure_bind]
  rw [cLoop_pure hf]
  simp only [pure_bind]
theorem dComp_map {fi : FA} {g : D → Sd → M Sd} {tc : FT} {te : FE} {src : List (Option Nat)} {sd : Sd} {ds : List D} {k : D → D} (hi : fi sd = pure ds) (hl : ds.length ≤ 1000) (hf : ∀ x ∈ ds, cTurn g tc te (bStartD src sd) x = pure (some (k x))) : dComp fi g tc te src sd = pure (.lst (ds.map k)) := by
  rw [dComp_pure (k := fun x => some (k x)) hi hl hf]
  simp
theorem blsD_map : ∀ bs : List Bool, blsD (bs.map D.bl) = some bs
  | [] => rfl
  | b :: r => by rw [List.map_cons, blsD, blsD_map r]; rfl
theorem intsD_map : ∀ bs : List Int, intsD (bs.map D.int) = some bs
  | [] => rfl
  | b :: r => by rw [List.map_cons, intsD, intsD_map r]; rfl
theorem dAll_ok (bs : List Bool) : dAll [.lst (bs.map D.bl)] = pure (.bl (bs.all id)) := by
  show (do let bs ← ofO (blsD (bs.map D.bl)); pure (.bl (bs.all id)) : M D) = _
  rw [blsD_map]
  rfl
noncomputable def kn : D → Bool
  | .non | .bl _ | .int _ | .str _ | .tup _ | .lst _ | .dct => true
  | _ => false
noncomputable def isT : D → Bool
  | .tup _ => true
  | _ => false
noncomputable def isI : D → Bool
  | .int _ => true
  | _ => false
theorem isT_ok {d : D} (k : kn d = true) : dIsI "tuple" d = pure (.bl (isT d)) := by
  cases d <;> simp [kn] at k <;> simp [dIsI, tyD, isB, isT]
theorem isIB_ok {d : D} (k : kn d = true) : dIsI "int" d = pure (.bl (isI d || (match d with | .bl _ => true | _ => false))) := by
  cases d <;> simp [kn] at k <;> simp [dIsI, tyD, isB, isI]
theorem isB_ok {d : D} (k : kn d = true) : dIsI "bool" d = pure (.bl (match d with | .bl _ => true | _ => false)) := by
  cases d <;> simp [kn] at k <;> simp [dIsI, tyD, isB, isI]
mutual
noncomputable def good : D → Bool
  | .non | .bl _ | .int _ => true
  | .str x => PyData.strOk x
  | .tup ds => decide (ds.length < 64) && goodL ds
  | .lst ds => decide (ds.length < 64) && goodL ds
  | _ => false
noncomputable def goodL : List D → Bool
  | [] => true
  | d :: r => good d && goodL r
end
mutual
theorem good_pd : ∀ {d : D}, good d = true → ∃ p, pd d = some p ∧ p.canLay0 = true
  | .non, _ => ⟨.none, rfl, rfl⟩
  | .bl b, _ => ⟨.bool b, rfl, rfl⟩
  | .int i, _ => ⟨.int i, rfl, rfl⟩
  | .str x, g => ⟨.str x, rfl, by simpa [good, PyData.canLay0] using g⟩
  | .tup ds, g => by
    have g2 : goodL ds = true := by simp [good] at g; exact g.2
    obtain ⟨ps, e, c⟩ := good_pdL g2
    exact ⟨.tuple ps, by unfold pd; rw [e]; rfl, c⟩
  | .lst ds, g => by
    have g2 : goodL ds = true := by simp [good] at g; exact g.2
    obtain ⟨ps, e, c⟩ := good_pdL g2
    exact ⟨.list ps, by unfold pd; rw [e]; rfl, c⟩
  | .cel _, g => by simp [good] at g
  | .set _, g => by simp [good] at g
  | .dct, g => by simp [good] at g
  | .fn _, g => by simp [good] at g
  | .scr _, g => by simp [good] at g
  | .exn _, g => by simp [good] at g
theorem good_pdL : ∀ {ds : List D}, goodL ds = true → ∃ ps, pdL ds = some ps ∧ PyData.canLayAll0 ps = true
  | [], _ => ⟨[], rfl, rfl⟩
  | d :: r, g => by
    simp [goodL] at g
    obtain ⟨p, e, c⟩ := good_pd g.1
    obtain ⟨ps, e2, c2⟩ := good_pdL g.2
    exact ⟨p :: ps, by unfold pdL; rw [e, e2], by simp [PyData.canLayAll0, c, c2]⟩
end
theorem pdL_ints : ∀ xs : List Int, pdL (xs.map D.int) = some (xs.map PyData.int)
  | [] => rfl
  | x :: r => by rw [List.map_cons, pdL, pdL_ints r]; rfl
theorem canLay_ints : ∀ xs : List Int, PyData.canLayAll0 (xs.map PyData.int) = true
  | [] => rfl
  | x :: r => by simp [PyData.canLayAll0, PyData.canLay0, canLay_ints r]
theorem depth_ints : ∀ xs : List Int, PyData.depthAll (xs.map PyData.int) = 0
  | [] => rfl
  | x :: r => by simp [PyData.depthAll, PyData.depth, depth_ints r]
theorem eqv_ints : ∀ xs ys : List Int, PyData.eqvAll (xs.map PyData.int) (ys.map PyData.int) = (xs == ys)
  | [], [] => rfl
  | [], _ :: _ => rfl
  | _ :: _, [] => rfl
  | x :: xs, y :: ys => by
    simp only [List.map_cons, PyData.eqvAll, PyData.eqv, eqv_ints xs ys]
    rfl
theorem any_ints (k : Int) : ∀ xs : List Int, ((xs.map PyData.int).any fun y => PyData.eqv y (.int k)) = xs.any (· == k)
  | [] => rfl
  | x :: r => by simp only [List.map_cons, List.any_cons, any_ints k r]; rfl
theorem dIn_ints (k : Int) (xs : List Int) : dIn (.int k) (.tup (xs.map D.int)) = pure (.bl (xs.any (· == k))) := by
  show dInG false (.int k) (.tup (xs.map D.int)) = _
  unfold dInG
  simp only [pd]
  rw [pdL_ints]
  have c : inOk (.int k) (xs.map PyData.int) = true := by
    unfold inOk
    simp [PyData.canLay0, canLay_ints, PyData.depth, depth_ints]
  simp only [c, if_true, any_ints]
  rfl
end L3
end
section
set_option maxHeartbeats 8000000
namespace L2
open PySem PySem.Spec PyProof.Rows LT
section
variable {X : Cx}
theorem call_divmodI : CallR X (.builtin "divmod") (fun xs H Q => ∃ i j : Int, xs = [.int i, .int j] ∧ 0 < j ∧ j < 2 ^ 100 ∧ ∀ p, H p = none → Q (.ref p) (upd H p (.tup [.int (i / j), .int (i % j)]))) := by
  intro pins s σ H xs us Q I r h
  obtain ⟨i, j, rfl, h0, h1, q⟩ := h
  cases r with
  | cons r1 r2 =>
    cases r2 with
    | cons r3 r4 =>
      cases r4
      obtain ⟨t, rfl⟩ := r1
      obtain ⟨u, rfl⟩ := r3
      refine divmod_int (by omega) ?_ (.inl (PyProof.noPylong_of_log2 ?_))
      · refine ⟨.ref s.heap.objs.size, _, I.laid (t' := s.toks + 1 + 1) (o := .tup [.int (i / j), .int (i % j)]) (fun b ob q => Heap.get?_push_of_some _ q) (Nat.le_refl _) ?_, rfl, q _ (I.hok.fresh (Nat.le_refl _))⟩
        refine ⟨by show 2 ≤ sizeLine; decide, [.int (i.fdiv j) s.toks, .int (i.fmod j) (s.toks + 1)], .cons ⟨s.toks, by rw [Int.fdiv_eq_ediv_of_nonneg _ (by omega)]⟩ (.cons ⟨s.toks + 1, by rw [Int.fmod_eq_emod_of_nonneg _ (by omega)]⟩ .nil), IsTup.new _ _⟩
      · have h1 : j.natAbs < 2 ^ 100 := by omega
        have h0 : j.natAbs ≠ 0 := by omega
        exact Nat.lt_trans ((Nat.log2_lt h0).mpr h1) (by decide)
theorem call_anyB (hc : X.calm = true) : CallR X (.builtin "any") (fun xs H Q => ∃ (a : Addr) (bs : List Bool), xs = [.ref a] ∧ SqL X.K H a (bs.map V.bl) ∧ Q (.bl (bs.any id)) H) := by
  intro pins s σ H xs us Q I r h
  obtain ⟨a, bs, rfl, hq, q⟩ := h
  obtain ⟨u, rfl, rx⟩ := vals1 r
  cases rx
  obtain ⟨its, r', pl, hz⟩ := I.list hq
  have hlt : a < s.heap.objs.size := by obtain ⟨_, e, _⟩ := pl.isList; exact Heap.lt_size e
  refine call_any_walk (wpAny_pyIter_list pl.isList ?_)
  refine ⟨s.heap.objs.size, [s.heap.objs.size, a], [s.heap.objs.size], its.toArray.size, _, _, fun i => (bs[i]?).getD true, rfl, Walks.list (A := X.A.in1) (I.ok.hd hc) _ a (Nat.ne_of_lt hlt) its.toArray, ⟨⟨_, Heap.get?_push_size _ rfl, rfl, rfl⟩, pl.isList.push _⟩, fun i v s' Q' E' hP hQ => ?_, fun h' tk hk => ?_⟩
  · have hv : its[i]? = some v := by simpa using hP
    obtain ⟨hi, _⟩ := List.getElem?_eq_some_iff.mp hv
    have hlen : bs.length = its.length := by rw [← r'.length, List.length_map]
    have hb : (bs.map V.bl)[i]? = some (V.bl bs[i]) := by simp [hlen, hi]
    obtain ⟨u', hu, ru⟩ := r'.get hb
    rw [hv] at hu
    cases hu
    cases ru
    have e : (bs[i]?).getD true = bs[i] := by simp [hlen, hi]
    have hQ : Q' ((bs[i]?).getD true) s' := hQ
    rw [e] at hQ
    exact wpAny_truthy_bool hQ
  · have e : ((List.range its.toArray.size).any fun i => (bs[i]?).getD true) = bs.any id := by
      have hlen : bs.length = its.length := by rw [← r'.length, List.length_map]
      rw [List.size_toArray, ← hlen]
      rw [Bool.eq_iff_iff, List.any_eq_true, List.any_eq_true]
      constructor
      · rintro ⟨i, hi, h⟩
        have hl : i < bs.length := by simpa using hi
        have e1 : bs[i]? = some bs[i] := by simp [hl]
        rw [e1] at h
        exact ⟨bs[i], List.getElem_mem hl, h⟩
      · rintro ⟨x, hx, h⟩
        obtain ⟨i, hi⟩ := List.mem_iff_getElem?.mp hx
        have hl := (List.getElem?_eq_some_iff.mp hi).1
        refine ⟨i, by simpa using hl, ?_⟩
        rw [hi]
        exact h
    rw [e]
    refine ⟨.bl _, H, I.grown (s' := { s with heap := h', toks := tk }) rfl rfl fun b ob eb => hk b ob (fun z => ?_) (Heap.get?_push_of_some _ eb), rfl, q⟩
    simp only [List.mem_cons, List.not_mem_nil, or_false] at z
    exact Nat.lt_irrefl _ (z ▸ Heap.lt_size eb)
end
end L2
namespace L3
open PySem PySem.Spec PyProof.Rows L2 LT
section
variable {X : Cx} {E : XE} {a b c o e : Expr} {pos apos cpos : Pos} {fa fb fc fo fe : FE}
noncomputable def dDivmod : List D → M D
  | [.int i, .int j] => if 0 < j ∧ j < 2 ^ 100 then pure (.tup [.int (i / j), .int (i % j)]) else M.bad
  | _ => M.bad
theorem call_divmodD : CallR X (.builtin "divmod") (toRA X.K E dDivmod) := by
  refine CallR.imp call_divmodI fun xs H Q ⟨ι, h, ds, rl, hr, q⟩ => ?_
  unfold dDivmod at q
  split at q
  · simp only [RelL, Rel] at rl
    obtain ⟨v, r, rfl, rfl, v', r', rfl, rfl, rfl⟩ := rl
    obtain ⟨⟨c1, c2⟩, q⟩ := Fin.guard q
    refine ⟨_, _, rfl, c1, c2, fun p hp => newT hr ?_ q hp⟩
    exact RelL.cons (by simp [Rel]) (RelL.cons (by simp [Rel]) RelL.nil)
  · exact False.elim q
noncomputable def dAny : List D → M D := one1 fun d => match d with
  | .lst ds => do let bs ← ofO (blsD ds); pure (.bl (bs.any id))
  | _ => M.bad
theorem call_anyD (hc : X.calm = true) : CallR X (.builtin "any") (toRA X.K E dAny) := by
  refine CallR.imp (call_anyB hc) fun xs H Q ⟨ι, h, ds, rl, hr, q⟩ => ?_
  obtain ⟨d, v, e, r, q⟩ := one1_inv rl q
  cases d with
  | lst ds =>
    obtain ⟨a, vs, e', h1, h2⟩ := relSqL r
    obtain ⟨bs, eb, q⟩ := Fin.ofOb q
    have := blsD_inv h2 eb
    subst this
    exact ⟨a, bs, by rw [e, e'], h1, Fin.out hr q _ (by simp [Rel])⟩
  | _ => exact False.elim q
noncomputable def dAlive : D → M Unit
  | .cel n => do let _ ← cellGet n; pure ()
  | _ => M.bad
noncomputable def dAppend (x y : D) : M D := match x with
  | .cel n => do
    let ds ← cellGet n
    fits (ds.length + 1)
    cellPut n (ds ++ [y])
    pure .non
  | _ => M.bad
noncomputable def cAppend (fo fe : FE) : FE := fun sd => do
  let x ← fo sd
  dAlive x
  let y ← fe sd
  dAppend x y
theorem get_inv {α : Type} {K : W.Frag} {ι : Io} {H : Hp} {h : Hh} {n : Nat} {f : List D → M α} {P : α → Io → Hp → Prop} (q : Fin K E ι H ((cellGet n >>= f) h) P) : ∃ ds, h[n]? = some (.lst ds) ∧ Fin K E ι H (f ds h) P := by
  have q' : Fin K E ι H (M.bind (cellGet n) f h) P := q
  unfold M.bind at q'
  cases z : cellGet n h with
  | bad => rw [z] at q'; exact False.elim q'
  | exc c h' => unfold cellGet at z; split at z <;> cases z
  | ok ds h' =>
    rw [z] at q'
    obtain ⟨rfl, z2⟩ := cellGet_ok z
    exact ⟨ds, z2, q'⟩
theorem r_append (ho : SE X E o fo) (he : SE X E e fe)
    (hbase : attributeBase o "append" X.env (eval o X.env) = eval o X.env := by rfl)
    (hfew : ((backTo cpos (starEach [e] X.env)).all (fun x => !x.1) && (backToKw cpos (keywordEach [] X.env)).all (fun x => x.1.isSome)
      && decide (([e] : List Expr).length + ([] : List Keyword).length + (if ([] : List Keyword).isEmpty then 0 else 1) < 30)) = true := by rfl)
    (hline : (apos.endLine == cpos.line) = true := by rfl) (hs : starEach [e] X.env = (false, eval e X.env) :: starEach [] X.env := by rfl) (hplain : (backTo cpos (starEach [] X.env)).any (·.1) = false := by rfl) :
    SE X E (.Call (.Attribute o "append" apos) [e] [] cpos) (cAppend fo fe) := by
  refine PE.imp (pe_bm PySem.F.plainAttrs_list PySem.F.slot_list_append PySem.F.type_list_append mt_append ho (pa_cons he pa_nil hs) hbase hfew hline hs hplain) fun σ H Q ⟨ι, h, sd, L, hh, q⟩ => ⟨ι, h, sd, L, hh, Fin.bind q fun d h1 ι1 H1 e1 s1 hr1 q1 v rv => ?_⟩
  cases d with
  | cel n =>
    have q2 : Fin X.K E ι1 H1 ((cellGet n >>= fun _ => fe sd >>= fun y => dAppend (.cel n) y) h1) (fun d ι' H' => ∀ v, Rel X.K ι' H' d v → Q v H') := by
      have ee : (dAlive (.cel n) >>= fun _ => fe sd >>= fun y => dAppend (.cel n) y : M D) = (cellGet n >>= fun _ => fe sd >>= fun y => dAppend (.cel n) y) := by
        show ((cellGet n >>= fun _ => pure ()) >>= fun _ => fe sd >>= fun y => dAppend (.cel n) y) = _
        simp only [bind_assoc, pure_bind]
      rw [← ee]
      exact q1
    obtain ⟨ds, e2, q3⟩ := get_inv q2
    obtain ⟨a, vs, rfl, hn, hH, rl⟩ := hr1.read rv e2
    refine ⟨.inl ⟨rfl, vs, SqL.of hH⟩, ι1, h1, sd, L.step s1, hr1, Fin.bind q3 fun y h3 ι3 H3 e3 s3 hr3 q4 w rw' => ?_⟩
    have rv3 := rv.step s3
    have q5 : Fin X.K E ι3 H3 ((cellGet n >>= fun ds => fits (ds.length + 1) >>= fun _ => cellPut n (ds ++ [y]) >>= fun _ => pure D.non) h3) (fun d ι' H' => ∀ v, Rel X.K ι' H' d v → Q v H') := q4
    obtain ⟨ds3, e4, q6⟩ := get_inv q5
    obtain ⟨a3, vs3, ea, hn3, hH3, rl3⟩ := hr3.read rv3 e4
    cases ea
    obtain ⟨z, q7⟩ := Fin.fits q6
    refine ⟨a, vs3, w, rfl, rfl, hH3, by rw [← rl3.length]; omega, ?_⟩
    have q8 : Fin X.K E ι3 H3 (R.ok D.non (h3.set n (.lst (ds3 ++ [y])))) (fun d ι' H' => ∀ v, Rel X.K ι' H' d v → Q v H') := q7
    exact q8 ι3 _ (hr3.cellS hn3) (hr3.cell hn3 (rl3.append (RelL.cons rw' RelL.nil))) _ (by simp [Rel])
  | _ => exact False.elim q1
end
end L3
end
section
set_option maxHeartbeats 8000000
namespace Att
open PySem PySem.W PySem.Calls PyProof.Rows
theorem weight_all : ∀ {ns : List Int} {i : Int}, i ∈ ns → Builtin.Int.intBits i ≤ WData.weightAll (ns.map WData.int)
  | n :: r, i, h => by
    rw [List.map_cons, WData.weightAll]
    rcases List.mem_cons.mp h with e | e
    · subst e
      have : WData.weight (.int i) = Builtin.Int.intBits i := by simp only [WData.weight, Builtin.Int.intBits]
      omega
    · have := weight_all e
      omega
theorem bits_of {ns : List Int} (h : WData.layableAll [WData.list (ns.map WData.int)] = true) : ∀ i ∈ ns, Builtin.Int.intBits i ≤ 2 ^ 20 := by
  intro i hi
  have h2 : WData.weight (WData.list (ns.map WData.int)) ≤ 2 ^ 20 := by
    simp only [WData.layableAll, List.all_cons, List.all_nil, Bool.and_true, WData.layable, Bool.and_eq_true, decide_eq_true_eq] at h
    exact h.2
  have h3 : WData.weight (WData.list (ns.map WData.int)) = WData.weightAll (ns.map WData.int) := by simp only [WData.weight]
  have := weight_all hi
  omega
theorem attach_callB {l : OpenLaw} {n : Nat} {q : Program} {loose : List Str} {XP : (Str → Option Value) → Heap → Prop} {YP : World → Heap → Prop} {d : DefRec}
    (hn : l.most = some n) (hdf : d.params.defaults = [])
    (call : ∀ (w : World) (s₀ s₁ : Shared) (mg mb : Str → Option Value) (fa : Addr) (o : Obj) (pm cd doc : Value) (a : Addr) (vs : List Value) (ns : List Int),
      Ground q loose [] XP w s₀ mg mb s₁.heap → YP w s₁.heap →
      s₁.heap.get? fa = some o → o.data = .func (docDef d.name d.params d.body d.scope pm cd doc) → s₁.heap.CodeRec cd d.name → mg d.name = some (.ref fa) →
      s₁.heap.get? a = some { cls := .type "list", data := .seq vs.toArray } → IntsAre vs ns → ns.length ≤ n → (∀ i ∈ ns, Builtin.Int.intBits i ≤ 2 ^ 20) → s₁.gens = #[] →
      codeAny (model l.prog w) callerA (.call (.ref fa) ⟨[.ref a], []⟩) (fun r s' => r = .ok (.ret (.bool true)) ∧ OldK s₁.heap s'.heap ∧ s'.os = s₁.os ∧ AllBare s'.gens) s₁) :
    WalkO q loose XP YP l.row.toRowW d [] (fun f vs => PySem.call f vs) := by
  intro w s₀ s₁ mg mb G Y fa o pm cd doc dV kV ho hd hcd hD hmg hg args vals as hpre hlay hrd hwl hlo
  obtain rfl : dV = .none := Dflts.none hD hdf
  obtain rfl : kV = .none := Dflts.noKw hD
  obtain ⟨a, vs, ns, rfl, rfl, hobj, hints, hlen⟩ := script_of hn hpre hwl
  refine enter_call (codeAny_mono (call w s₀ s₁ mg mb fa o pm cd doc a vs ns G Y ho (fd_plain hd) hcd hmg hobj hints hlen (bits_of hlay) hg) fun r s' hq => ?_)
  obtain ⟨rfl, h2, h3, h4⟩ := hq
  exact ⟨.inl ⟨.bool true, .bool true, [], rfl, fun _ => rfl, .bool true, post_true l _, fun _ => ⟨List.Pairwise.nil, fun _ hm => (nomatch hm)⟩⟩, h2, h3, h4⟩
end Att
namespace L2
open PySem PySem.Spec PyProof.Rows
theorem walk_ofB {l : W.OpenLaw} {n k : Nat} {q : Program} {loose : List Str} {XP : (Str → Option Value) → Heap → Prop} {YP : World → Heap → Prop} {d : DefRec} {K : Params → W.Frag} {CX : World → CXT} {sp : World → Sp} {x : Str}
    (hn : l.most = some n) (hn2 : n ≤ sizeLine) (hdf : d.params.defaults = []) (hr : Room k callerA)
    (hY : ∀ (w : World) (h : Heap), YP w h → (K w.params).In h)
    (F : ∀ (w : World) (mg : Str → Option Value) (fa : Addr) (h : Heap), (K w.params).In h → h.Ns mainGlobals mg → mg d.name = some (.ref fa) →
      ∃ fd : FuncData, (∀ (s : Shared) (u : Value), BindsTo s fd ⟨[u], []⟩ [(x, u)]) ∧
        ∀ base : Heap, (K w.params).In base → base.Ns mainGlobals mg → FnOk l.prog w (K w.params) mg base (CX w) k fa fd [x] (sp w))
    (hsp : ∀ (w : World) (H : Hp) (a : Addr) (ns : List Int), ns.length ≤ n → (∀ i ∈ ns, Builtin.Int.intBits i ≤ 2 ^ 20) → SqL (K w.params) H a (ns.map V.int) → sp w [.ref a] H (fun v _ => v = .bl true) fun _ _ _ => False)
    (hCX : ∀ (w : World) (H : Hp) (s : Shared) (e : Value) (s' : Shared), CX w [] H s (fun _ _ _ => False) e s' → False) :
    W.WalkO q loose XP YP l.row.toRowW d [] (fun f vs => PySem.call f vs) := by
  refine Att.attach_callB hn hdf fun w s₀ s₁ mg mb fa o pm cd doc a vs ns G Y ho hd hcd hmg hobj hints hlen hbits hg => ?_
  have KX := hY w _ Y
  obtain ⟨fd, hb, hF⟩ := F w mg fa _ KX G.T.g hmg
  exact law_call KX G.T.g G.T.b G.T.builtins G.T.nolimit hg hobj hints (Nat.le_trans hlen hn2) hr hF hb (fun H hO hS => hsp w H a ns hlen hbits hS) fun H e s' => hCX w H s₁ e s'
end L2
namespace L3
open PySem PySem.Spec PyProof.Rows L2 LT
section
variable {X : Cx} {E : XE}
noncomputable def mulOk (i j : Int) : Bool := decide (Builtin.Int.intBits i + Builtin.Int.intBits j ≤ 2 ^ 26)
theorem mulOk_iff {i j : Int} (h : mulOk i j = true) : IntMulOk i j := by
  unfold mulOk at h
  rw [decide_eq_true_eq] at h
  unfold IntMulOk
  intro z
  rw [Bool.and_eq_true] at z
  have z2 := z.2
  unfold Builtin.Int.intTooBig at z2
  have hb : bitsLine = 2 ^ 27 := rfl
  rw [decide_eq_true_eq, hb] at z2
  omega
theorem op_mulB : OpR X (binaryOp .Mult) (rI (fun i j => IntMulOk i j) fun i j => .int (i * j)) := opI fun _ _ _ _ _ _ _ hc q => mul_int q hc
noncomputable def dMulW := dII (fun i j => small64 i || small64 j || mulOk i j) fun i j => .int (i * j)
theorem op_mulW : OpR X (binaryOp .Mult) (toR2 X.K E dMulW) := op_II (op_mulB) (fun i j h => by
  rw [Bool.or_eq_true] at h
  rcases h with h | h
  · rcases (Bool.or_eq_true _ _).mp h with z | z
    · have := small64_iff z
      exact IntMulOk.of_left (intBits_le_64 this.1 this.2)
    · have := small64_iff z
      exact IntMulOk.of_right (intBits_le_64 this.1 this.2)
  · exact mulOk_iff h) fun _ _ _ _ => by simp [Rel]
end
end L3
end
section
set_option maxHeartbeats 8000000
namespace PySem
open Sem (wp)
open AutoSeq1 (wpAny_loadPart')
section
variable {prog : Program} {w : World} {A : Around} {E : Value → Shared → Prop} {s : Shared}
end
end PySem
end
section
set_option maxHeartbeats 8000000
namespace L2
open PySem PySem.Spec PyProof.Rows LT
theorem vals_of_get : ∀ (ns : List Int) (us : List Value), ns.length = us.length → (∀ (j : Nat) u, us[j]? = some u → ∃ t, u = Value.int (ns.getD j 0) t) → Vals (ns.map V.int) us
  | [], [], _, _ => .nil
  | [], _ :: _, h, _ => by cases h
  | _ :: _, [], h, _ => by cases h
  | n :: ns, u :: us, h, hg => by
    refine .cons ?_ (vals_of_get ns us (by simpa using h) fun j w e => ?_)
    · obtain ⟨t, e⟩ := hg 0 u rfl
      exact ⟨t, by simpa using e⟩
    · obtain ⟨t, e⟩ := hg (j + 1) w (by simpa using e)
      exact ⟨t, by simpa using e⟩
section
variable {X : Cx}
theorem call_rangeV : CallR X (.type "range") (fun xs H Q => ∃ j : Int, xs = [.int j] ∧ ∀ p, H p = none → Q (.ref p) (upd H p (.rng 0 j))) := by
  intro pins s σ H xs us Q I r h
  obtain ⟨j, rfl, q⟩ := h
  obtain ⟨u, rfl, rx⟩ := vals1 r
  obtain ⟨t, rfl⟩ := rx
  refine call_range_1 ?_
  exact ⟨.ref s.heap.objs.size, _, I.laid (t' := s.toks + 1 + 1) (o := .rng 0 j) (fun b ob q => Heap.get?_push_of_some _ q) (Nat.le_refl _) ⟨_, _, _, Heap.get?_push_size _ rfl⟩, rfl, q _ (I.hok.fresh (Nat.le_refl _))⟩
theorem size_rng {j : Int} (h0 : 0 ≤ j) : Builtin.Range.rangeSize 0 j 1 = (j.toNat : Int) := by
  unfold Builtin.Range.rangeSize
  rw [if_pos (by decide)]
  split
  · rw [Int.ediv_one]; omega
  · omega
end
end L2
namespace L3
open PySem PySem.Spec PyProof.Rows L2 LT
section
variable {X : Cx} {E : XE} {e : Expr} {f : FE}
theorem relL_rng {K : W.Frag} {ι : Io} {H : Hp} {n : Nat} : RelL K ι H (rngD 0 n) (((List.range n).map fun (k : Nat) => (k : Int)).map V.int) := by
  have : rngD 0 n = ((List.range n).map fun (k : Nat) => (k : Int)).map D.int := by unfold rngD; simp
  rw [this]
  exact relL_ints.mpr rfl
end
end L3
end
section
set_option maxHeartbeats 4000000
namespace L3
open PySem PySem.Spec PyProof.Rows L2 LT
@[simp] theorem e_var0 {d : D} {r : Sd} : dVar 0 (some d :: r) = pure d := rfl
@[simp] theorem e_varS {n : Nat} {x : Option D} {r : Sd} : dVar (n + 1) (x :: r) = dVar n r := rfl
noncomputable def pRise (m : Int) : Int → List D → Bool
  | _, [] => true
  | l, .int i :: r => decide (l ≤ i) && decide (i < m) && pRise m (i + 1) r
  | _, _ :: _ => false
theorem rise_ints {m : Int} : ∀ {xs : List Int} {l : Int}, pRise m l (xs.map D.int) = true ↔ xs.Pairwise (· < ·) ∧ ∀ x ∈ xs, l ≤ x ∧ x < m
  | [], l => by simp [pRise]
  | x :: r, l => by
    rw [List.map_cons, pRise, Bool.and_eq_true, Bool.and_eq_true, rise_ints (xs := r) (l := x + 1), List.pairwise_cons]
    simp only [decide_eq_true_eq, List.mem_cons, forall_eq_or_imp]
    constructor
    · rintro ⟨⟨h1, h2⟩, h3, h4⟩
      refine ⟨⟨fun y hy => ?_, h3⟩, ⟨h1, h2⟩, fun y hy => ?_⟩
      · have := (h4 y hy).1; omega
      · have := h4 y hy; omega
    · rintro ⟨⟨h1, h2⟩, ⟨h3, h4⟩, h5⟩
      refine ⟨⟨h3, h4⟩, h2, fun y hy => ?_⟩
      have a1 := h1 y hy
      have a2 := h5 y hy
      omega
theorem rise_len {m : Int} : ∀ {ts : List D} {l : Int}, pRise m l ts = true → l ≤ m → (ts.length : Int) ≤ m - l
  | [], l, _, h => by simp; omega
  | d :: r, l, h, hl => by
    cases d <;> first
      | (simp [pRise] at h; done)
      | (rename_i i
         rw [pRise, Bool.and_eq_true, Bool.and_eq_true, decide_eq_true_eq, decide_eq_true_eq] at h
         have := rise_len h.2 (by omega)
         simp
         omega)
end L3
namespace L3
open PySem PySem.Spec PyProof.Rows L2 LT
noncomputable def Bx (b : Nat) (h : Hh) : Prop := ∃ z : Int, h[b]? = some (.lst [.int z])
noncomputable def Ext (b : Nat) (h h' : Hh) : Prop := Bx b h' ∧ ∀ (n : Nat) (c : C), n ≠ b → h[n]? = some c → h'[n]? = some c
theorem Ext.refl {b : Nat} {h : Hh} (q : Bx b h) : Ext b h h := ⟨q, fun _ _ _ e => e⟩
theorem Ext.trans {b : Nat} {h h1 h2 : Hh} (p : Ext b h h1) (q : Ext b h1 h2) : Ext b h h2 := ⟨q.1, fun n c hn e => q.2 n c hn (p.2 n c hn e)⟩
theorem Bx.set {b : Nat} {h : Hh} {z : Int} (q : Bx b h) : Ext b h (h.set b (.lst [.int z])) := by
  obtain ⟨y, e⟩ := q
  have hl := (List.getElem?_eq_some_iff.mp e).1
  exact ⟨⟨z, List.getElem?_set_self hl⟩, fun n c hn e => by rw [List.getElem?_set_ne (Ne.symm hn)]; exact e⟩
theorem Bx.push {b : Nat} {h : Hh} {c : C} (q : Bx b h) : Ext b h (h ++ [c]) := by
  obtain ⟨y, e⟩ := q
  have hl := (List.getElem?_eq_some_iff.mp e).1
  refine ⟨⟨y, by rw [List.getElem?_append_left hl]; exact e⟩, fun n c' hn e => ?_⟩
  rw [List.getElem?_append_left (List.getElem?_eq_some_iff.mp e).1]
  exact e
theorem dRng_ok {j : Int} (h0 : 0 ≤ j) (h : j < 1000) : dRng1 [.int j] = pure (rngD 0 j.toNat) := by
  show (if small62 j = true then _ else _) = _
  rw [if_pos (by unfold small62; simp; omega)]
theorem rng_mem {n : Nat} {d : D} (h : d ∈ rngD 0 n) : ∃ i : Int, d = .int i ∧ 0 ≤ i ∧ i < n := by
  unfold rngD at h
  obtain ⟨k, hk, e⟩ := List.mem_map.mp h
  have := List.mem_range.mp hk
  exact ⟨0 + (k : Int), e.symm, by omega, by omega⟩
theorem rng_len {n : Nat} : (rngD 0 n).length = n := by unfold rngD; simp
theorem rng_ints (n : Nat) : rngD 0 n = ((List.range n).map fun (k : Nat) => (k : Int)).map D.int := by unfold rngD; simp
theorem wp_ite {α : Type} {c : Prop} [Decidable c] {a b : M α} {h : Hh} {P : α → Hh → Prop} : wp (if c then a else b) h P ↔ if c then wp a h P else wp b h P := by split <;> exact Iff.rfl
end L3
namespace L3
open PySem PySem.Spec PyProof.Rows L2 LT
end L3
namespace L3
open PySem PySem.Spec PyProof.Rows L2 LT
end L3
end
section
set_option maxHeartbeats 4000000
namespace L2
open PySem PySem.Spec PyProof.Rows L3
theorem ObjOk.there {P : Program} {w : World} {H : Hp} {h : Heap} {a : Addr} {o : HO} (x : ObjOk P w H h a o) : ∃ ob, h.get? a = some ob := by
  cases o with
  | lst xs => obtain ⟨_, _, _, _, e⟩ := x; exact ⟨_, e⟩
  | tup xs => obtain ⟨_, _, _, ob, e, _⟩ := x; exact ⟨ob, e⟩
  | dK kvs => obtain ⟨_, _, _, _, ob, _, _, e, _⟩ := x; exact ⟨ob, e⟩
  | dT kvs => obtain ⟨_, _, _, _, ob, _, _, e, _⟩ := x; exact ⟨ob, e⟩
  | set S n => obtain ⟨ob, _, _, _, e, _⟩ := x; exact ⟨ob, e⟩
  | ins C dx fs => obtain ⟨_, _, _, e, _⟩ := x; exact ⟨_, e⟩
  | own y => exact x
  | xd fs => obtain ⟨_, ⟨ob, _, _, e, _⟩, _⟩ := x; exact ⟨ob, e⟩
  | rng lo hi => obtain ⟨_, _, _, e⟩ := x; exact ⟨_, e⟩
  | frz ob u => exact ⟨ob, x.1⟩
  | tbl ps => exact ⟨_, x⟩
  | met f y => exact ⟨_, x⟩
  | ext φ => exact x.2.1
structure HS (H H' : Hp) (h : Heap) : Prop where
  free : ∀ b o, h.get? b = some o → H b = none → H' b = none
  tups : ∀ b xs, H b = some (.tup xs) → H' b = some (.tup xs)
  frzs : ∀ b o u, H b = some (.frz o u) → H' b = some (.frz o u)
  tbls : ∀ b ps, H b = some (.tbl ps) → ∃ more, H' b = some (.tbl (ps ++ more))
structure FlB (P : Program) (w : World) (l : List Env) (H : Hp) (h : Heap) (H' : Hp) (B : Heap) : Prop where
  old : ∀ b o, h.get? b = some o → b ∉ frs l → ∃ o', B.get? b = some o' ∧ (H b = none → o' = o)
  trk : ∀ b u, H' b = some u → ∃ o, B.get? b = some o
  ok : HOk P w H' B
structure Fl (P : Program) (w : World) (l : List Env) (H : Hp) (s : Shared) (a C : Addr) (fl : Value) (H' : Hp) (s' : Shared) : Prop where
  os : s'.os = s.os
  bare : AllBare s'.gens
  base : ∃ B : Heap, Fly B l a (.ref C) fl s'.heap ∧ FlB P w l H s.heap H' B
  slot : ∀ b o, s.heap.get? b = some o → H b = none → b ∈ frs l → ∃ sl, s'.heap.get? b = some { o with slots := sl }
  hs : HS H H' s.heap
section
variable {P : Program} {w : World} {l : List Env} {H H' : Hp} {s s' : Shared} {a C : Addr} {fl : Value}
theorem Fl.un (y : Fl P w l H s a C fl H' s') : Un (frs l) [] H H' s.heap s'.heap := by
  obtain ⟨B, y1, y2⟩ := y.base
  refine ⟨fun b o e n hb _ => ?_, fun b o e n hb _ => y.slot b o e n hb, fun b o e n _ => y.hs.free b o e n, fun b o e _ => ?_, y.hs.tups, y.hs.frzs, y.hs.tbls⟩
  · obtain ⟨o', e', q⟩ := y2.old b o e hb
    rw [← q n]
    exact y1.stays b o' e'
  · by_cases hb : b ∈ frs l
    · obtain ⟨_, o', e', _⟩ := y1.frames.mem hb
      exact ⟨o', e'⟩
    · obtain ⟨o', e', _⟩ := y2.old b o e hb
      exact ⟨o', y1.stays b o' e'⟩
theorem Fl.hok (y : Fl P w l H s a C fl H' s') : HOk P w H' s'.heap := by
  obtain ⟨B, y1, y2⟩ := y.base
  exact y2.ok.kept y1.stays
theorem Fl.exc (y : Fl P w l H s a C fl H' s') : ∃ head, ExcO s'.heap a (.ref C) head := by
  obtain ⟨B, y1, y2⟩ := y.base
  obtain ⟨hd, z, _⟩ := y1.exc
  exact ⟨hd, z⟩
theorem Fl.fresh (y : Fl P w l H s a C fl H' s') : s.heap.get? a = none ∧ H' a = none ∧ a ∉ frs l := by
  obtain ⟨B, y1, y2⟩ := y.base
  have nf : a ∉ frs l := fun z => by
    obtain ⟨_, o, e, n⟩ := y1.frames.mem z
    obtain ⟨_, ⟨ob, vs, e2, _, _, d, _⟩, _⟩ := y1.exc
    rw [e] at e2
    cases e2
    exact n vs d
  refine ⟨?_, ?_, nf⟩
  · cases q : s.heap.get? a with
    | none => rfl
    | some o =>
      obtain ⟨o', e, _⟩ := y2.old a o q nf
      rw [y1.new] at e
      cases e
  · cases q : H' a with
    | none => rfl
    | some u =>
      obtain ⟨o', e⟩ := y2.trk a u q
      rw [y1.new] at e
      cases e
theorem Fl.mv {B h' : Heap} {fl' : Value} (os : s'.os = s.os) (bare : AllBare s'.gens) (slot : ∀ b o, s.heap.get? b = some o → H b = none → b ∈ frs l → ∃ sl, s'.heap.get? b = some { o with slots := sl }) (hs : HS H H' s.heap)
    (fr : s'.heap.FunFrames B l) (z : Fly B l a (.ref C) fl' h') (y : FlB P w l H s.heap H' B) (u : s'.heap.UpToSlots h') : Fl P w l H s a C fl' H' { s' with heap := h' } := by
  refine ⟨os, bare, ⟨B, z, y⟩, fun b o e n hb => ?_, hs⟩
  obtain ⟨sl, e2⟩ := slot b o e n hb
  obtain ⟨_, o2, e3, n3⟩ := fr.mem hb
  rw [e2] at e3
  cases e3
  obtain ⟨sl', e4⟩ := u b _ e2 n3
  exact ⟨sl', e4⟩
section
variable {M : Model} {A : Around} {E : Value → Shared → Prop} {env : Env} {outer : List Env} {L : Addr} {Q : Unit → Shared → Prop}
theorem Fl.off (y : Fl P w l H s a C fl H' s') (k : ∀ h', Fl P w l H s a C .none H' { s' with heap := h' } → Q () { s' with heap := h' }) : wpAny M A (setFlight (.ref a) none) Q E s' := by
  obtain ⟨B, y1, y2⟩ := y.base
  exact flight_off y1 fun h' z u => k h' (Fl.mv y.os y.bare y.slot y.hs y1.frames z y2 fun b o e n => ⟨o.slots, u b o e n⟩)
end
end
structure OwnFr (X : Cx) : Prop where
  stk : X.stack = X.env :: X.outer
  frm : X.env.frame = some X.env.locals
  ex : X.ex = []
theorem OwnFr.frs {X : Cx} (z : OwnFr X) : frs X.stack = X.env.locals :: frs X.outer := by
  rw [z.stk]
  unfold L2.frs
  rw [List.filterMap_cons, z.frm]
section
variable {X : Cx} {pins : List (Addr × Obj)} {σ : St} {H H' : Hp} {s s' : Shared} {a C : Addr} {M : Model} {E : Value → Shared → Prop} {Q : Unit → Shared → Prop}
theorem Inv.below (I : Inv X pins σ H s) {b : Addr} {o : Obj} (e : X.s₀.heap.get? b = some o) : b ≠ X.env.locals := Nat.ne_of_lt (Nat.lt_of_lt_of_le (Heap.lt_size e) I.ok.above)
theorem Fl.made {h' : Heap} {vs : List Value} (z : OwnFr X) (I : Inv X pins σ H s) (m : Heap.MadeExcOf s.heap h' a (.ref C) vs) (k : ∀ s2, Fl X.prog X.w X.outer X.H₀ X.s₀ a C .none H s2 → Q () s2) : wpAny M X.A (leaving X.env (.ref a)) Q E { s with heap := h' } := by
  have nex : ∀ b, b ∉ X.ex := fun b h => by rw [z.ex] at h; cases h
  have hfr := I.ok.frames
  have hl := I.stack
  have hin : ∀ env ∈ X.stack, ∀ b, env.frame = some b → b ∈ frs X.stack := fun env he b hb => List.mem_filterMap.mpr ⟨env, he, hb⟩
  have hl2 := W.funFrames_hide hl hin
  have hl3 : h'.FunFrames (W.hideAll s.heap (frs X.stack)) X.stack := hl2.of_keeps fun b o e _ => ⟨o, m.keeps b o e, rfl⟩
  have inB : ∀ {b : Addr} {o : Obj}, s.heap.get? b = some o → b ∉ frs X.stack → (W.hideAll s.heap (frs X.stack)).get? b = some o := fun e n => W.hideAll_get _ e n
  have ofB : ∀ {b : Addr} {o : Obj}, (W.hideAll s.heap (frs X.stack)).get? b = some o → s.heap.get? b = some o := fun e => W.of_hideAll _ e
  have trk : ∀ b u, H b = some u → b ∉ frs X.stack := fun b u e hm => by rw [I.stkFree b hm] at e; cases e
  have newB : (W.hideAll s.heap (frs X.stack)).get? a = none := by
    cases q : (W.hideAll s.heap (frs X.stack)).get? a with
    | none => rfl
    | some o => have := ofB q; rw [m.new] at this; cases this
  have hst := z.stk
  refine leave_first (B := W.hideAll s.heap (frs X.stack)) (by rw [← hst]; exact hfr) (by rw [← hst]; exact hl3) z.frm (exc_made m) (fun b o e => m.keeps b o (ofB e)) newB fun h2 q u => k _ ?_
  have nin : ∀ b o, X.s₀.heap.get? b = some o → b ∉ frs X.outer → b ∉ frs X.stack := fun b o e hb hm => by
    rw [z.frs] at hm
    rcases List.mem_cons.mp hm with r | r
    · exact I.below e r
    · exact hb r
  refine ⟨I.os, I.bare, ⟨_, q, fun b o e hb => ?_, fun b v e => ?_, fun b v e => ?_⟩, fun b o e n hb => ?_, fun b o e n => I.base.free b o e n (nex b), I.base.tups, I.base.frzs, I.base.tbls⟩
  · obtain ⟨o1, e1⟩ := I.base.there b o e (nex b)
    refine ⟨o1, inB e1 (nin b o e hb), fun n => ?_⟩
    have e3 := I.base.keep b o e n hb (nex b)
    rw [e1] at e3
    cases e3
    rfl
  · obtain ⟨o, e1⟩ := (I.hok b v e).there
    exact ⟨o, inB e1 (trk b v e)⟩
  · refine (I.hok b v e).stay (fun c o hc e1 => inB e1 ?_) (fun _ r => r) fun _ _ r => r
    rcases hc with rfl | hc
    · exact trk _ v e
    · exact trk _ _ hc
  · obtain ⟨sl, e1⟩ := I.base.slot b o e n hb (nex b)
    have hb2 : b ∈ frs X.stack := by rw [z.frs]; exact List.mem_cons_of_mem _ hb
    obtain ⟨_, o3, e3, n3⟩ := hl.mem hb2
    rw [e1] at e3
    cases e3
    obtain ⟨sl4, e4⟩ := u b _ (m.keeps b _ e1) n3
    exact ⟨sl4, e4⟩
end
noncomputable def CXE (P : Program) (w : World) : CXT := fun outer H s E e s' => ∃ a C H', e = .ref a ∧ Fl P w outer H s a C .none H' s' ∧ E e (some C) H'
end L2
namespace L3
open PySem PySem.Spec PyProof.Rows L2
noncomputable def clsAt (K : W.Frag) (c : String) (C : Addr) : Prop := W.nsIn K mainGlobals (c : Str) = some (some (.ref C))
noncomputable def xeOf (K : W.Frag) (E : XK) : XE := fun c H' => ∀ C v, clsAt K c C → E v (some C) H'
section
variable {P : Program} {w : World} {K : W.Frag} {mg : Str → Option Value} {base : Heap} {N : List Str} {qual : Str} {scope : Scope} {f : Addr} {cd : Value} {A : Around} {outer : List Env} {s : Shared} {H : Hp} {E : XK}
end
noncomputable def noX {α : Type} (m : M α) : M α := fun h => match m h with
  | .exc _ _ => .bad
  | r => r
theorem Fin.noX {α : Type} {K : W.Frag} {E E' : XE} {ι : Io} {H : Hp} {m : M α} {h : Hh} {P : α → Io → Hp → Prop} (q : Fin K E ι H (L3.noX m h) P) : Fin K E' ι H (m h) P := by
  unfold L3.noX at q
  cases e : m h with
  | ok a h' => rw [e] at q; exact q
  | exc c h' => rw [e] at q; exact False.elim q
  | bad => rw [e] at q; exact q
noncomputable def spE (K : W.Frag) (n : Nat) (F : List D → M D) : Sp := fun vs H Q E => vs.length = n ∧ ∃ ι h ds, RelL K ι H ds vs ∧ HRel K ι H h ∧ Fin K (xeOf K E) ι H (F ds h) fun d ι' H' => ∀ v, Rel K ι' H' d v → Q v H'
section
variable {P : Program} {w : World} {K : W.Frag} {mg : Str → Option Value} {base : Heap}
end
section
variable {X : Cx} {E : XE} {e : Expr} {es : List Expr} {pos p : Pos}
end
end L3
end
section
set_option maxHeartbeats 4000000
namespace L2
open PySem PySem.Spec PyProof.Rows L3
structure RoomH (k : Nat) (A : Around) : Prop where
  dp : A.depth + 3 * k + 5 < recursionLimit
  un : A.units + 16 * k + 200 < cLine
theorem RoomH.of {k : Nat} {A : Around} (r : Room k A) : RoomH k A := ⟨r.dp, r.un⟩
theorem RoomH.deeper {k : Nat} {A : Around} (r : RoomH (k + 1) A) (env : Env) : RoomH k (A.deeper env) :=
  ⟨by have := r.dp; show A.depth + 1 + 3 * k + 5 < _; omega, by have := r.un; show A.units + 3 + 16 * k + 200 < _; omega⟩
theorem RoomH.mono {j k : Nat} {A : Around} (r : RoomH k A) (h : j ≤ k) : RoomH j A := ⟨by have := r.dp; omega, by have := r.un; omega⟩
structure FnH (P : Program) (w : World) (K : W.Frag) (mg : Str → Option Value) (base : Heap) (k : Nat) (f : Addr) (fd : FuncData) (ps : List Str) (sp : Sp) : Prop where
  len : ∀ vs H Q E, sp vs H Q E → vs.length = ps.length
  run : ∀ (A : Around) (outer : List Env) (s : Shared) (H : Hp) (args : Args) (us : List Value) (vs : List V) (Q : VK), RoomH k A → Env0 P w K mg base A outer s H → BindsTo s fd args (ps.zip us) → Vals vs us → sp vs H Q E0 →
    codeAny (model P w) A (.call (.ref f) args) (CR CX0 outer P w H s Q E0) s
section
variable {X : Cx} {pins : List (Addr × Obj)} {σ : St} {H H' : Hp} {s s' : Shared} {a : Addr} {o : Obj}
end
section
variable {X : Cx} {pins : List (Addr × Obj)} {σ : St} {H H' : Hp} {s s' : Shared} {a C CE : Addr} {ce en : Str} {pce pos : Pos} {b₀ : Stmt} {suite : List Stmt} {j : Nat} {Q : Flow → Shared → Prop} {E : Value → Shared → Prop}
end
end L2
end
section
set_option maxHeartbeats 4000000
namespace L2
open PySem PySem.Spec PyProof.Rows L3
noncomputable abbrev veTail : List Value := [.type "ValueError", .type "Exception", .type "BaseException", .type "object"]
section
variable {X : Cx} {pins pins' : List (Addr × Obj)} {σ : St} {H H' : Hp} {s s' : Shared} {xe : Value → Shared → Prop}
end
end L2
namespace L3
open PySem PySem.Spec PyProof.Rows L2
section
variable {X : Cx} {pins : List (Addr × Obj)} {σ : L2.St} {H : Hp} {s : Shared} {a C : Addr} {o : Obj} {vs : Array Value} {head : Value} {c : String} {gk en pe : Str} {p1 p2 p3 : Pos} {j k : Nat} {fk : Addr} {fdk : FuncData} {Fk : List D → M D} {Qv : VK} {ι : Io} {h : Hh}
end
section
variable {X : Cx} {E : XE} {body : List Stmt} {ce en gk pe x : Str} {pce p1 p2 p3 p4 p5 hp pos : Pos} {CE fk : Addr} {fdk : FuncData} {Fk : List D → M D} {gb : FS} {j k i : Nat} {known : List String}
noncomputable def sRaise (c : String) : FS := fun _ h => .exc c h
end
end L3
end
section
set_option maxHeartbeats 4000000
namespace L3
open PySem PySem.W
section
variable {prog : Program} {w : World} {A : Around} {E : Value → Shared → Prop} {s : Shared} {K : Frag} {x D : Addr} {ox : Obj}
end
end L3
end
section
set_option maxHeartbeats 4000000
namespace L3
open PySem PySem.Spec PyProof.Rows L2
noncomputable def kxb (K : W.Frag) (C : Addr) : Bool := (W.clsIn K C).isSome && W.findIn K (.ref C) "__getattribute__" == some (some (.builtin "BaseException.__getattribute__")) && W.findIn K (.ref C) "__getattr__" == some none && W.findIn K (.ref C) "__class__" == some (some (.builtin "object.__class__"))
  && W.specialIn K (.builtin "object.__class__") "__get__" == some (some (.builtin "getset_descriptor.__get__")) && W.takesIn K (.builtin "object.__class__") == some true && W.mroIn K C (.type "object") == some true && W.mroIn K C (.type "BaseException") == some true
structure ClsOk (K : W.Frag) (CE : Addr) (names : List String) (c : String) (C : Addr) : Prop where
  exc : W.excIn K C veTail "ValueError.__new__" = true
  cov : W.exmOne K (.ref C) (.ref CE) = some true
  kx : kxb K C = true
  ve : W.kitOne K (.ref C) (.type "ValueError") = some true
  one : ∀ c' ∈ names, ∀ C', clsAt K c' C' → W.kitOne K (.ref C) (.ref C') = some (c == c')
noncomputable def ExcT (K : W.Frag) (CE : Addr) (names : List String) : Prop := ∀ c ∈ names, ∀ C, clsAt K c C → ClsOk K CE names c C
noncomputable def excTab (K : W.Frag) (CE : Addr) (tab : List (String × Addr)) : Bool := tab.all fun p => W.nsIn K mainGlobals (p.1 : Str) == some (some (.ref p.2)) && W.excIn K p.2 veTail "ValueError.__new__" && W.exmOne K (.ref p.2) (.ref CE) == some true && kxb K p.2 && W.kitOne K (.ref p.2) (.type "ValueError") == some true
  && tab.all fun r => W.kitOne K (.ref p.2) (.ref r.2) == some (p.1 == r.1)
theorem ExcT.of {K : W.Frag} {CE : Addr} {tab : List (String × Addr)} (h : excTab K CE tab = true) : ExcT K CE (tab.map (·.1)) := by
  unfold excTab at h
  rw [List.all_eq_true] at h
  have key : ∀ c ∈ tab.map (·.1), ∀ C, clsAt K c C → (c, C) ∈ tab := fun c hc C hC => by
    obtain ⟨p, hp, rfl⟩ := List.mem_map.mp hc
    have h1 := h p hp
    simp only [Bool.and_eq_true, beq_iff_eq] at h1
    have e := h1.1.1.1.1.1
    unfold clsAt at hC
    rw [hC] at e
    cases e
    exact hp
  intro c hc C hC
  have h1 := h _ (key c hc C hC)
  simp only [Bool.and_eq_true, beq_iff_eq, List.all_eq_true] at h1
  obtain ⟨⟨⟨⟨⟨a1, a2⟩, a3⟩, a4⟩, a5⟩, a6⟩ := h1
  exact ⟨a2, a3, a4, a5, fun c' hc' C' hC' => a6 _ (key c' hc' C' hC')⟩
theorem ExcT.known {K : W.Frag} {CE : Addr} {names : List String} (h : ExcT K CE names) : ∀ c ∈ names, ∀ C, clsAt K c C → W.exmOne K (.ref C) (.ref CE) = some true := fun c hc C hC => (h c hc C hC).cov
section
variable {X : Cx} {E : XE}
variable {a : Expr} {p1 p2 pos : Pos} {fa : FE} {CE CC : Addr} {names : List String}
end
end L3
end
section
set_option maxHeartbeats 4000000
namespace L3
open PySem
section
variable {prog : Program} {w : World} {A : Around} {E : Value → Shared → Prop} {s : Shared}
end
end L3
namespace L2
open PySem PySem.Spec PyProof.Rows L3
section
variable {X : Cx}
theorem mt_extendT : MtM X "list.extend" (fun x vs H Q => ∃ l b xs zs, x = .ref l ∧ vs = [.ref b] ∧ H l = some (.lst xs) ∧ SqT X.K H b zs ∧ xs.length + zs.length ≤ sizeLine ∧ Q .non (upd H l (.lst (xs ++ zs)))) := by
  intro pins s σ H x vs v us Q I rx rv h
  obtain ⟨l, b, xs, zs, rfl, rfl, hH, hB, hz, q⟩ := h
  cases rx
  obtain ⟨u, rfl, ru⟩ := vals1 rv
  cases ru
  obtain ⟨z, its, n, r, hl, e⟩ := I.lstM hH
  obtain ⟨its2, r2, ⟨ob, e2, c2, n2, d2⟩, z2⟩ := I.tuple hB
  have l2 := r2.length
  have hsz : its.toArray.size + its2.toArray.size ≤ sizeLine := by rw [List.size_toArray, List.size_toArray]; omega
  refine wpAny_call (codeAny_call_builtin F.slot_list_extend.plain F.entry_list_extend (F.slot_list_extend.check _ _ _ _ _ _ _ _ ⟨_, e, rfl⟩ (F.args_list_extend_2 _ _) ?_))
  unfold Builtin.«list.extend»
  refine wpAny_bind (wpAny_pure ?_)
  unfold Builtin.List.listExtendWith
  refine wpAny_bind (wpAny_typeOf ⟨ob, e2, c2⟩ ?_)
  have h1 : (Builtin.List.listSameRef (.ref l) (.ref b) || Value.type "tuple" == Value.type "list" || Value.type "tuple" == Value.type "tuple") = true := by simp
  simp only [h1, if_true]
  unfold Builtin.List.listItems
  refine wpAny_bind (wpAny_bind (wpAny_seqItems e2 d2 (wpAny_pure ?_)))
  refine wpAny_bind (wpAny_bind (wpAny_seqItems e rfl (wpAny_pure ?_)))
  rw [if_neg (by rw [notLongL hsz, Bool.and_false]; exact Bool.false_ne_true)]
  refine wpAny_bind (wpAny_updateSeq e rfl ?_ (by rw [List.size_toArray]; omega))
  refine wpAny_pure ?_
  refine ⟨.non, _, I.lset (its' := its ++ its2) hH e (by simp) (r.append r2) ?_, rfl, q⟩
  rw [List.length_append]
  omega
end
end L2
end
section
set_option maxHeartbeats 4000000
namespace L3
open PySem PySem.Spec PyProof.Rows L2
noncomputable def cNoX (f : FE) : FE := fun sd => noX (f sd)
noncomputable def sNoX (f : FS) : FS := fun sd => noX (f sd)
section
variable {X : Cx} {E : XE} {a e o : Expr} {es : List Expr} {pos p cpos apos : Pos} {f fo fe fa : FE} {fs : FA} {x : Str}
noncomputable def dExtend (x y : D) : M D := match x, y with
  | .cel n, .tup zs => do
    let ds ← cellGet n
    fits (ds.length + zs.length)
    cellPut n (ds ++ zs)
    pure .non
  | _, _ => M.bad
noncomputable def cExtend (fo fe : FE) : FE := fun sd => do
  let x ← fo sd
  dAlive x
  let y ← fe sd
  dExtend x y
theorem r_extend (ho : SE X E o fo) (he : SE X E e fe)
    (hbase : attributeBase o "extend" X.env (eval o X.env) = eval o X.env := by rfl)
    (hfew : ((backTo cpos (starEach [e] X.env)).all (fun x => !x.1) && (backToKw cpos (keywordEach [] X.env)).all (fun x => x.1.isSome)
      && decide (([e] : List Expr).length + ([] : List Keyword).length + (if ([] : List Keyword).isEmpty then 0 else 1) < 30)) = true := by rfl)
    (hline : (apos.endLine == cpos.line) = true := by rfl) (hs : starEach [e] X.env = (false, eval e X.env) :: starEach [] X.env := by rfl) (hplain : (backTo cpos (starEach [] X.env)).any (·.1) = false := by rfl) :
    SE X E (.Call (.Attribute o "extend" apos) [e] [] cpos) (cExtend fo fe) := by
  refine PE.imp (pe_bm PySem.F.plainAttrs_list PySem.F.slot_list_extend PySem.F.type_list_extend mt_extendT ho (pa_cons he pa_nil hs) hbase hfew hline hs hplain) fun σ H Q ⟨ι, h, sd, L, hh, q⟩ => ⟨ι, h, sd, L, hh, Fin.bind q fun d h1 ι1 H1 e1 s1 hr1 q1 v rv => ?_⟩
  cases d with
  | cel n =>
    have q2 : Fin X.K E ι1 H1 ((cellGet n >>= fun _ => fe sd >>= fun y => dExtend (.cel n) y) h1) (fun d ι' H' => ∀ v, Rel X.K ι' H' d v → Q v H') := by
      have ee : (dAlive (.cel n) >>= fun _ => fe sd >>= fun y => dExtend (.cel n) y : M D) = (cellGet n >>= fun _ => fe sd >>= fun y => dExtend (.cel n) y) := by
        show ((cellGet n >>= fun _ => pure ()) >>= fun _ => fe sd >>= fun y => dExtend (.cel n) y) = _
        simp only [bind_assoc, pure_bind]
      rw [← ee]
      exact q1
    obtain ⟨ds, e2, q3⟩ := get_inv q2
    obtain ⟨a, vs, rfl, hn, hH, rl⟩ := hr1.read rv e2
    refine ⟨.inl ⟨rfl, vs, SqL.of hH⟩, ι1, h1, sd, L.step s1, hr1, Fin.bind q3 fun y h3 ι3 H3 e3 s3 hr3 q4 w rw' => ?_⟩
    have rv3 := rv.step s3
    cases y with
    | tup zs =>
      have q5 : Fin X.K E ι3 H3 ((cellGet n >>= fun ds => fits (ds.length + zs.length) >>= fun _ => cellPut n (ds ++ zs) >>= fun _ => pure D.non) h3) (fun d ι' H' => ∀ v, Rel X.K ι' H' d v → Q v H') := q4
      obtain ⟨ds3, e4, q6⟩ := get_inv q5
      obtain ⟨a3, vs3, ea, hn3, hH3, rl3⟩ := hr3.read rv3 e4
      cases ea
      obtain ⟨b, ws, eb, hb, rlb⟩ := relSqT rw'
      obtain ⟨z, q7⟩ := Fin.fits q6
      refine ⟨a, b, vs3, ws, rfl, by rw [eb], hH3, hb, by rw [← rl3.length, ← rlb.length]; exact z, ?_⟩
      have q8 : Fin X.K E ι3 H3 (R.ok D.non (h3.set n (.lst (ds3 ++ zs)))) (fun d ι' H' => ∀ v, Rel X.K ι' H' d v → Q v H') := q7
      exact q8 ι3 _ (hr3.cellS hn3) (hr3.cell hn3 (rl3.append rlb)) _ (by simp [Rel])
    | _ => exact False.elim q4
  | _ => exact False.elim q1
end
end L3
end
section
set_option maxHeartbeats 4000000
namespace L3
open PySem PySem.Spec PyProof.Rows L2
section
variable {P : Program} {w : World} {K : W.Frag} {mg : Str → Option Value} {base : Heap}
end
section
variable {X : Cx} {E : XE} {body : List Stmt} {ce en gk pe x : Str} {pce p1 p2 p3 p4 p5 hp pos : Pos} {CE fk : Addr} {fdk : FuncData} {Fk : List D → M D} {gb : FS} {k : Nat} {known : List String}
end
noncomputable def dPick (Fs : List (List D → M D)) (i : D) : M (List D → M D) := match i with
  | .int j => (match ixN Fs.length j with
    | some m => ofO Fs[m]?
    | none => M.bad)
  | _ => M.bad
noncomputable def cPick (n : Nat) (Fs : List (List D → M D)) (fi : FE) (fs : FA) : FE := fun sd => do
  let i ← fi sd
  let F ← dPick Fs i
  let ds ← fs sd
  callD n F ds
structure Fns (X : Cx) (n : Nat) (addrs : List Addr) (Fs : List (List D → M D)) : Prop where
  len : Fs.length = addrs.length
  ok : ∀ (m : Nat) (F : List D → M D) (a : Addr), Fs[m]? = some F → addrs[m]? = some a → ∃ k fd ps, FnOk X.prog X.w X.K X.mg X.base (CXE X.prog X.w) k a fd ps (spE X.K n F) ∧ Room k X.A ∧ W.keepIn X.K (.ref a) = true ∧ Binds X.K fd ps []
theorem Fns.nil {X : Cx} {n : Nat} : Fns X n [] [] := ⟨rfl, fun m F a h => by simp at h⟩
theorem Fns.cons {X : Cx} {n k : Nat} {a : Addr} {F : List D → M D} {addrs : List Addr} {Fs : List (List D → M D)} {fd : FuncData} {ps : List Str} (G : FnOk X.prog X.w X.K X.mg X.base (CXE X.prog X.w) k a fd ps (spE X.K n F)) (hr : Room k X.A) (hk : W.keepIn X.K (.ref a) = true) (hb : Binds X.K fd ps []) (h : Fns X n addrs Fs) : Fns X n (a :: addrs) (F :: Fs) := by
  refine ⟨by simp [h.len], fun m F' a' h1 h2 => ?_⟩
  cases m with
  | zero => simp at h1 h2; subst h1 h2; exact ⟨k, fd, ps, G, hr, hk, hb⟩
  | succ m => simp at h1 h2; exact h.ok m F' a' h1 h2
section
variable {X : Cx} {E : XE} {e ix : Expr} {es fes : List Expr} {pos p q3 q4 : Pos} {fi : FE} {fs : FA} {x : Str}
end
end L3
end
section
set_option maxHeartbeats 4000000
namespace L2
open PySem PySem.Spec PyProof.Rows
noncomputable def Itd (lo : Int) (n : Nat) : It := ⟨fun i _ => i < n, fun i H x H' => H' = H ∧ x = .int (lo - i), fun i _ => n ≤ i⟩
theorem turn_down {P : Program} {w : World} {K : W.Frag} {tg : Expr} (it : Addr) (lo : Int) (n : Nat) : Turn P w K tg (Itd lo n) [it] it (fun i h => IsRangeIter h it (lo - (i : Nat)) ((n : Int) - (i : Nat)) (-1)) where
  mem := by simp
  obj := fun i h st b hb => by
    have e : b = it := by simpa using hb
    subst e
    exact ⟨_, st, fun v z => by
      have z' : Data.fields _ = Data.cell v := z
      cases z'⟩
  keep := fun i h h' st k => k it (by simp) _ st
  item := by
    intro X hP hw hK i pins s σ H E I hf st hg
    subst hP hw hK
    obtain ⟨f0, f1, f2, f3, f4, f5⟩ := hf it (by simp)
    refine wpAny_pyNext_range_item st (by have : i < n := hg; omega) fun h' st' kk => ?_
    have e1 : lo - (i : Nat) + -1 = lo - ((i + 1 : Nat) : Int) := by omega
    have e2 : (n : Int) - (i : Nat) - 1 = (n : Int) - ((i + 1 : Nat) : Int) := by omega
    rw [e1, e2] at st'
    have I1 : Inv X pins σ H { s with heap := h', toks := s.toks + 1 } := I.turned (fun b o hb e => (kk.2 b hb).trans e) f0 f1 f3 f4 f5
    exact ⟨_, rfl, go_of (s := { s with heap := h', toks := s.toks + 1 }) (n := "range_iterator") st' rfl rfl (by decide) ⟨.int (lo - i), H, I1, ⟨s.toks, rfl⟩, ⟨rfl, rfl⟩, st', fun b hb => (hf b hb).1⟩⟩
  done := by
    intro X hP hw hK i pins s σ H E I hf st hg
    subst hP hw hK
    obtain ⟨f0, f1, f2, f3, f4, f5⟩ := hf it (by simp)
    exact L3.range_end I.hand st (by have : n ≤ i := hg; omega) fun h' eb => ⟨rfl, I.turned (t' := s.toks) (fun b o hb e => eb b o hb e) f0 f1 f3 f4 f5⟩
  self := fun _ _ _ _ _ st h => wpAny_pyIter_rangeiter st h
theorem size_down {a b : Int} : Builtin.Range.rangeSize a b (-1) = ((a - b).toNat : Int) := by
  unfold Builtin.Range.rangeSize
  rw [if_neg (by decide)]
  split
  · rw [show (-(-1) : Int) = 1 by decide, Int.ediv_one]; omega
  · omega
theorem small_down {a b : Int} (ha : -1000 ≤ a) (ha' : a < 1000) (hb : -1000 ≤ b) (hb' : b < 1000) : Builtin.Range.small a b (-1) = true := by
  unfold Builtin.Range.small
  rw [size_down]
  simp only [Builtin.Range.rangeFitsLong, Bool.and_eq_true, Bool.or_eq_true, decide_eq_true_eq, beq_iff_eq, show ¬ (-1 : Int) > 0 by decide, if_false]
  omega
section
variable {X : Cx} {tg : Expr}
noncomputable def iRngD (ta : TA) : TI := fun σ H R => ta σ H fun vs H1 => ∃ i j : Int, vs = [.int i, .int j, .int (-1)] ∧ (-1000 ≤ i ∧ i < 1000 ∧ -1000 ≤ j ∧ j < 1000) ∧ R (Itd i (i - j).toNat) H1
theorem pi_range3 {a b c : Expr} {ta : TA} {p pos : Pos} (hg : Gl X "range") (hm : X.mg "range" = none) (ha : PA X [a, b, c] ta) (hs : starEach [a, b, c] X.env = [(false, eval a X.env), (false, eval b X.env), (false, eval c X.env)] := by rfl) (hs2 : starEach [b, c] X.env = [(false, eval b X.env), (false, eval c X.env)] := by rfl) :
    PI X tg (.Call (.Name "range" p) [a, b, c] [] pos) (iRngD ta) := by
  intro pins s σ H R I h
  refine Call_ (ld_blt I hg hm boot_range (PyProof.Rows.callWith_type1 (thn (ha pos pins s σ H _ I h) fun us s1 ⟨vs, H1, I1, r1, q1⟩ => ?_) (by rw [hs, hs2]) (by rw [hs2]; rfl)))
  obtain ⟨i, j, e, ⟨q1, q2, q3, q4⟩, q⟩ := q1
  subst e
  cases r1 with
  | cons r rr =>
    cases rr with
    | cons r' rr =>
      cases rr with
      | cons r'' rr =>
        cases rr
        obtain ⟨t, rfl⟩ := r
        obtain ⟨t', rfl⟩ := r'
        obtain ⟨t'', rfl⟩ := r''
        refine call_range_3 (by decide) ?_ (Or.inl (PyProof.noPylong_small (by decide)))
        refine wpAny_pyIter_range (IsRange.new ..) (small_down q1 q2 q3 q4) ?_
        have I2 : Inv X pins σ H1 { s1 with heap := s1.heap.push { cls := .type "range", data := .fields #[.int i t, .int j t', .int (-1) t''] }, toks := s1.toks } := I1.kept fun b o e => Heap.get?_push_of_some _ e
        refine ⟨(s1.heap.push { cls := .type "range", data := .fields #[.int i t, .int j t', .int (-1) t''] }).objs.size, [(s1.heap.push { cls := .type "range", data := .fields #[.int i t, .int j t', .int (-1) t''] }).objs.size], _, _, H1, rfl,
          I2.kept (t' := s1.toks) fun b o e => Heap.get?_push_of_some _ e, turn_down _ i (i - j).toNat, ?_, fun b hb => ?_, q⟩
        · have e1 : i - ((0 : Nat) : Int) = i := by simp
          have e2 : (((i - j).toNat : Nat) : Int) - ((0 : Nat) : Int) = Builtin.Range.rangeSize i j (-1) := by rw [size_down]; simp
          show IsRangeIter _ _ (i - ((0 : Nat) : Int)) ((((i - j).toNat : Nat) : Int) - ((0 : Nat) : Int)) (-1)
          rw [e1, e2]
          exact Heap.get?_push_size _ rfl
        · have e : b = (s1.heap.push { cls := .type "range", data := .fields #[.int i t, .int j t', .int (-1) t''] }).objs.size := by simpa using hb
          subst e
          exact I2.fpOk (Nat.le_refl _) (I2.hok.fresh (Nat.le_refl _))
theorem call_listRng (hc : X.calm = true) : CallR X (.type "list") (fun xs H Q => ∃ (p : Addr) (j : Int), xs = [.ref p] ∧ H p = some (.rng 0 j) ∧ 0 ≤ j ∧ j < 1000 ∧ ∀ l, H l = none → Q (.ref l) (upd H l (.lst (((List.range j.toNat).map fun (k : Nat) => (k : Int)).map V.int)))) := by
  intro pins s σ H xs us Q I r h
  obtain ⟨p, j, rfl, hp, h0, h1, q⟩ := h
  obtain ⟨u, rfl, rx⟩ := vals1 r
  cases rx
  obtain ⟨t, u', v, hr⟩ := (show ObjOk X.prog X.w H s.heap p (.rng 0 j) from I.hok p _ hp)
  refine call_list_range (I.ok.hd hc) hr (small_one (by omega) (by omega) (by omega) (by omega)) (size_rng h0) (by omega) fun h' tk acc c' hk hS hacc => ?_
  have hl : acc.toList.length = j.toNat := by rw [Array.length_toList]; exact hacc.1
  have I2 := I.laid (t' := tk) (h' := h') (a := s.heap.objs.size) (o := .lst (((List.range j.toNat).map fun (k : Nat) => (k : Int)).map V.int)) hk (Nat.le_refl _)
    (show ObjOk X.prog X.w _ h' _ (.lst _) from ⟨by rw [List.length_map, List.length_map, List.length_range]; exact Nat.le_trans (show j.toNat ≤ 1000 by omega) (by decide), acc.toList, c', vals_of_get _ _ (by rw [List.length_map, List.length_range, hl]) (fun k w e => ?_), by simpa using hS⟩)
  · exact ⟨.ref s.heap.objs.size, _, I2, rfl, q _ (I.hok.fresh (Nat.le_refl _))⟩
  · have hk' : k < j.toNat := by rw [← hl]; exact (List.getElem?_eq_some_iff.mp e).1
    obtain ⟨t, et⟩ := hacc.2 k w (by simpa using e)
    refine ⟨t, ?_⟩
    rw [et]
    simp [hk']
end
end L2
namespace L3
open PySem PySem.Spec PyProof.Rows L2
section
variable {X : Cx} {E : XE} {e o : Expr} {f fo fe : FE} {pos apos cpos : Pos}
noncomputable def dwnD (lo : Int) (n : Nat) : List D := (List.range n).map fun (k : Nat) => D.int (lo - (k : Int))
theorem itOk_dwn {K : W.Frag} {ι : Io} {H : Hp} {lo : Int} {n : Nat} : ItOk K ι H (Itd lo n) (dwnD lo n) where
  go := fun ι' H' i s hi => by show i < n; simpa [dwnD] using hi
  yld := fun ι' H' _ i x H2 s _ hi ⟨e, y⟩ => by
    subst e y
    have hi : i < n := by simpa [dwnD] using hi
    refine ⟨.inl rfl, .int (lo - i), ?_, by simp [Rel]⟩
    simp [dwnD, hi]
  stop := fun ι' H' s => by
    show n ≤ (dwnD lo n).length
    simp [dwnD]
noncomputable def dRng3 : List D → M (List D)
  | [.int i, .int j, .int c] => if (-1000 ≤ i ∧ i < 1000 ∧ -1000 ≤ j ∧ j < 1000) ∧ c = -1 then pure (dwnD i (i - j).toNat) else M.bad
  | _ => M.bad
noncomputable def iRng3 (fs : FA) : FA := fun sd => do let ds ← fs sd; dRng3 ds
theorem r_rng3 {tg a b c : Expr} {p : Pos} {fs : FA} (hm : X.mg "range" = none) (ha : SA X E [a, b, c] fs) (hg : Gl X "range" := by rfl) (hs : starEach [a, b, c] X.env = [(false, eval a X.env), (false, eval b X.env), (false, eval c X.env)] := by rfl) (hs2 : starEach [b, c] X.env = [(false, eval b X.env), (false, eval c X.env)] := by rfl) :
    SI X E tg (.Call (.Name "range" p) [a, b, c] [] pos) (iRng3 fs) := by
  refine PI.imp (pi_range3 hg hm ha hs hs2) fun σ H Q ⟨ι, h, sd, L, hh, q⟩ => ⟨ι, h, sd, L, hh, Fin.bind q fun ds h1 ι1 H1 e1 s1 hr1 q1 vs rv => ?_⟩
  unfold dRng3 at q1
  split at q1
  · rename_i i j c'
    simp only [RelL, Rel] at rv
    obtain ⟨v, r, rfl, rfl, v', r', rfl, rfl, v'', r'', rfl, rfl, rfl⟩ := rv
    by_cases hj : (-1000 ≤ i ∧ i < 1000 ∧ -1000 ≤ j ∧ j < 1000) ∧ c' = -1
    · rw [if_pos hj] at q1
      obtain ⟨hj, rfl⟩ := hj
      exact ⟨i, j, rfl, hj, Fin.out hr1 q1 _ itOk_dwn⟩
    · rw [if_neg hj] at q1
      exact False.elim q1
  · exact False.elim q1
noncomputable def dLstRngV : D → M D
  | .int j => if 0 ≤ j ∧ j < 1000 then pure (.lst (rngD 0 j.toNat)) else M.bad
  | _ => M.bad
theorem r_lstrngV {p1 p2 pos pos2 : Pos} (hc : X.calm = true) (hm1 : X.mg "list" = none) (hm2 : X.mg "range" = none) (he : SE X E e f) (hg1 : Gl X "list" := by rfl) (hg2 : Gl X "range" := by rfl)
    (h1 : starEach [.Call (.Name "range" p2) [e] [] pos2] X.env = [(false, eval (.Call (.Name "range" p2) [e] [] pos2) X.env)] := by rfl) (h2 : starEach [e] X.env = [(false, eval e X.env)] := by rfl) :
    SE X E (.Call (.Name "list" p1) [.Call (.Name "range" p2) [e] [] pos2] [] pos) (cUn dLstRngV f) := by
  refine PE.imp (pe_callTy (call_listRng hc) hg1 hm1 PyProof.Rows.boot_list (pa_cons (pe_callTy call_rangeV hg2 hm2 boot_range (pa_cons he pa_nil h2) (he := h2)) pa_nil h1) (he := h1)) fun σ H Q ⟨ι, h, sd, L, hh, q⟩ => ⟨ι, h, sd, L, hh, Fin.bind q fun d h1 ι1 H1 e1 s1 hr1 q1 v rv => ?_⟩
  cases d with
  | int j =>
    simp only [Rel] at rv
    obtain ⟨⟨c1, c2⟩, q2⟩ := Fin.guard q1
    refine ⟨j, by rw [rv], fun p hp => ?_⟩
    have hr2 : HRel X.K ι1 (upd H1 p (.rng 0 j)) h1 := hr1.laid hp
    exact ⟨p, j, rfl, upd_same, c1, c2, fun l hl => newL hr2 relL_rng (Fin.step (hr1.laidS hp) q2) hl⟩
  | _ => exact False.elim q1
theorem RelL.eraseIdx {K : W.Frag} {ι : Io} {H : Hp} : ∀ {ds : List D} {vs : List V} (i : Nat), RelL K ι H ds vs → RelL K ι H (ds.eraseIdx i) (vs.eraseIdx i)
  | [], vs, i, h => by
    simp only [RelL] at h
    subst h
    simpa using RelL.nil
  | x :: r, vs, i, h => by
    simp only [RelL] at h
    obtain ⟨v, vs', rfl, rv, rl⟩ := h
    cases i with
    | zero => simpa using rl
    | succ i => exact RelL.cons rv (RelL.eraseIdx i rl)
end
end L3
end
section
set_option maxHeartbeats 4000000
namespace L3
open PySem
open Sem (wp)
open AutoSeq1 (wpAny_loadPart')
section
variable {prog : Program} {w : World} {A : Around} {E : Value → Shared → Prop} {s : Shared}
end
noncomputable def handFp (A : Around) : List Addr := match A.handled with
  | some (.ref a) => [a]
  | _ => []
theorem Hand.keep {A : Around} {h h' : Heap} (x : Hand A h) (k : ∀ b ∈ handFp A, ∀ o, h.get? b = some o → h'.get? b = some o) : Hand A h' := by
  rcases x with x | ⟨a, cls, head, x1, ob, vs, x2, x3⟩
  · exact .inl x
  · exact .inr ⟨a, cls, head, x1, ob, vs, k a (by unfold handFp; rw [x1]; simp) _ x2, x3⟩
end L3
namespace L3
open PySem
section
variable {prog : Program} {w : World} {A : Around} {E : Value → Shared → Prop} {s : Shared}
end
end L3
namespace L2
open PySem PySem.Spec PyProof.Rows
section
variable {X : Cx} {pins : List (Addr × Obj)} {σ : St} {H : Hp} {s : Shared} {h' : Heap}
end
end L2
namespace L2
open PySem PySem.Spec PyProof.Rows
section
variable {X : Cx} {elts : List Expr} {k : Nat} {tpos : Pos}
end
end L2
namespace L3
open PySem PySem.Spec PyProof.Rows L2
section
variable {X : Cx} {E : XE} {elts : List Expr} {k : Nat} {tpos pos : Pos}
end
end L3
end
section
set_option maxHeartbeats 4000000
namespace L3
open PySem PyProof.Rows
noncomputable def pLt (p q : Int × List Int) : Bool := if p.1 = q.1 then HT.lexLt p.2 q.2 else decide (p.1 < q.1)
theorem lex_self : ∀ xs : List Int, HT.lexLt xs xs = false
  | [] => rfl
  | x :: r => by rw [HT.lexLt_cons, if_pos rfl, lex_self r]
section
open PySem.SeqAt
open PySem.AutoSeq1 (wpAny_loadPart')
open PySem.MeetsSeq PySem.MeetsSeq2 PySem.MeetsSeq3
noncomputable def Cmp2 (A : Around) (s : Shared) (a b : Value) (e l : Bool) : Prop := EqAt A s a b e ∧ (e = false → ∀ (prog : Program) (w : World) (E Q : Value → Shared → Prop), Q (.bool l) s → wpAny (model prog w) A (richCompare .Lt a b) Q E s)
theorem tuple_lt_two (l b : Addr) (a0 a1 b0 b1 : Value) (n n2 : Nat) (dd dd2 : Option Addr) (sl sl2 : Array (Option Value)) (e0 l0 e1 l1 : Bool) :
    Meets (Builtin.«tuple.__lt__» ⟨[.ref l, .ref b], []⟩)
      (fun A R s => s.heap.get? l = some { cls := .type "tuple", dict := dd, data := .seq #[a0, a1] n, slots := sl } ∧ s.heap.get? b = some { cls := .type "tuple", dict := dd2, data := .seq #[b0, b1] n2, slots := sl2 } ∧
        Cmp2 A.in1 s a0 b0 e0 l0 ∧ Cmp2 A.in1 s a1 b1 e1 l1 ∧ R (.ok (.ret (.bool (if e0 = true then (if e1 = true then false else l1) else l0)))) s) :=
  .of_wp fun prog w A R s h => by
    obtain ⟨hp, g, d, tk, os⟩ := s; obtain ⟨hl, hb, c0, c1, h⟩ := h
    have f2 := AutoSeq1.sub_tuple_tuple
    wp_walk using wpAny_loadPart' hl, wpAny_loadPart' hb, wpAny_forIn_list _ (fun rest b s' => b.1 = none ∧ s' = ⟨hp, g, d, tk, os⟩ ∧
      (rest = [(a0, b0), (a1, b1)] ∨ (rest = [(a1, b1)] ∧ e0 = true) ∨ (rest = [] ∧ e0 = true ∧ e1 = true))) _
    case turn =>
      rintro ⟨y, x⟩ rest b s' ⟨hb', rfl, hz⟩
      rcases hz with hz | ⟨hz, z0⟩ | ⟨hz, _⟩
      · cases hz
        refine wpAny_bind (c0.1 prog w _ _ ?_)
        cases e0 with
        | true =>
          wp_walk
          exact ⟨rfl, rfl, .inr (.inl ⟨rfl, rfl⟩)⟩
        | false =>
          have hri := c0.2 rfl prog w
          wp_walk using hri
          exact ⟨_, rfl, by simpa using h⟩
      · cases hz
        subst z0
        refine wpAny_bind (c1.1 prog w _ _ ?_)
        cases e1 with
        | true =>
          wp_walk
          exact ⟨rfl, rfl, .inr (.inr ⟨rfl, rfl, rfl⟩)⟩
        | false =>
          have hri := c1.2 rfl prog w
          wp_walk using hri
          exact ⟨_, rfl, by simpa using h⟩
      · cases hz
    case fin =>
      rintro ⟨b1', b2'⟩ s' ⟨hb', rfl, hz⟩
      simp only at hb'
      subst hb'
      rcases hz with hz | ⟨hz, _⟩ | ⟨_, z0, z1⟩
      · cases hz
      · cases hz
      · subst z0 z1
        wp_walk
        exact ⟨_, rfl, by simpa [Builtin.Tuple.tupleCompareSizes] using h⟩
    case h =>
      exact ⟨rfl, rfl, .inl rfl⟩
section
variable {prog : Program} {w : World} {A : Around} {E : Value → Shared → Prop} {s : Shared}
theorem lt_two {l b : Addr} {a0 a1 b0 b1 : Value} {e0 l0 e1 l1 : Bool} {Q : Value → Shared → Prop} (hl : IsTup s.heap l #[a0, a1]) (hb : IsTup s.heap b #[b0, b1]) (c0 : Cmp2 A.in1 s a0 b0 e0 l0) (c1 : Cmp2 A.in1 s a1 b1 e1 l1)
    (hu : A.units < cLine) (h : Q (.bool (if e0 = true then (if e1 = true then false else l1) else l0)) s) : wpAny (model prog w) A (richCompare .Lt (.ref l) (.ref b)) Q E s := by
  obtain ⟨⟨cls, dd, data, sl⟩, ho, hc, n, hd⟩ := id hl
  obtain ⟨⟨cls2, dd2, data2, sl2⟩, ho2, hc2, n2, hd2⟩ := id hb
  simp only at hc hd hc2 hd2
  subst hc hd hc2 hd2
  exact richCompare_meets_room (op := .Lt) ⟨_, ho, rfl⟩ ⟨_, ho2, rfl⟩ PySem.F.slot_tuple_lt PySem.F.entry_tuple_lt (PySem.F.args_tuple_lt_2 _ _) (tuple_lt_two l b a0 a1 b0 b1 n n2 dd dd2 sl sl2 e0 l0 e1 l1)
    ⟨ho, ho2, c0, c1, show Value.bool _ ≠ Value.notImplemented ∧ Q (.bool _) s from ⟨(fun x => nomatch x), h⟩⟩ hu
theorem ints_get : ∀ {xs : List Value} {ns : List Int}, IntsAre xs ns → ∀ (j : Nat) (h : j < xs.length), ∃ (t : Tok) (i : Int), ns[j]? = some i ∧ xs[j] = .int i t
  | _, _, .nil, j, h => by cases h
  | _, _, .cons a t r, 0, _ => ⟨t, a, rfl, rfl⟩
  | _, _, .cons a t r, j + 1, h => by
    obtain ⟨t', i, e1, e2⟩ := ints_get r j (Nat.lt_of_succ_lt_succ h)
    exact ⟨t', i, e1, e2⟩
theorem ints_inj : ∀ {xs : List Value} {ns ms : List Int}, IntsAre xs ns → IntsAre xs ms → ns = ms
  | _, _, _, .nil, h => by cases h; rfl
  | _, _, _, .cons a t r, h => by
    cases h with
    | cons _ _ r' => rw [ints_inj r r']
theorem eqAt_tupI {q r : Addr} {xs ys : List Value} {ns ms : List Int} (hq : IsTup s.heap q xs.toArray) (hr : IsTup s.heap r ys.toArray) (hi : IntsAre xs ns) (hj : IntsAre ys ms) (hu : A.units < cLine) : EqAt A s (.ref q) (.ref r) (ns == ms) := by
  by_cases hqr : q = r
  · subst hqr
    obtain ⟨o, e, _, n, d⟩ := hq
    obtain ⟨o', e', _, n', d'⟩ := hr
    rw [e] at e'
    cases e'
    rw [d] at d'
    injection d' with d' _
    have : xs = ys := by simpa using d'
    subst this
    rw [ints_inj hi hj]
    simpa using EqAt.same (A := A) (s := s) (.ref q)
  · have l1 := hi.length
    have l2 := hj.length
    have hc := RcAt.tuples (A := A) (s := s) (e := fun j => ns[j]? == ms[j]?) hq hr hu fun j h1 h2 => by
      have h1' : j < xs.length := by simpa using h1
      have h2' : j < ys.length := by simpa using h2
      obtain ⟨t, i, e1, e2⟩ := ints_get hi j h1'
      obtain ⟨u, k, e3, e4⟩ := ints_get hj j h2'
      have g1 : xs.toArray[j] = .int i t := by simpa using e2
      have g2 : ys.toArray[j] = .int k u := by simpa using e4
      rw [g1, g2, e1, e3]
      have : (some i == some k) = (i == k) := rfl
      rw [this]
      exact EqAt.int_int i t k u
    have he : ((List.range (min xs.toArray.size ys.toArray.size)).all (fun j => ns[j]? == ms[j]?) && xs.toArray.size == ys.toArray.size) = (ns == ms) := by
      rw [Bool.eq_iff_iff, Bool.and_eq_true, List.all_eq_true, beq_iff_eq, beq_iff_eq]
      simp only [List.size_toArray, beq_iff_eq, List.mem_range]
      constructor
      · rintro ⟨h1, h2⟩
        refine List.ext_getElem? fun j => ?_
        by_cases hjl : j < ns.length
        · exact h1 j (by omega)
        · rw [List.getElem?_eq_none (by omega), List.getElem?_eq_none (by omega)]
      · intro e
        subst e
        exact ⟨fun _ _ => rfl, by omega⟩
    rw [← he]
    exact EqAt.of_refs hqr hc
end
noncomputable def PairAt (h : Heap) (v : Value) (p : Int × List Int) : Prop := ∃ (a q : Addr) (t : Tok) (its : List Value), v = .ref a ∧ IsTup h a #[.int p.1 t, .ref q] ∧ IsTup h q its.toArray ∧ IntsAre its p.2
theorem PairAt.keep {h h' : Heap} {v : Value} {p : Int × List Int} (k : ∀ b o, h.get? b = some o → h'.get? b = some o) : PairAt h v p → PairAt h' v p := fun ⟨a, q, t, its, e, ⟨o, x1, x2⟩, ⟨o', y1, y2⟩, z⟩ => ⟨a, q, t, its, e, ⟨o, k _ _ x1, x2⟩, ⟨o', k _ _ y1, y2⟩, z⟩
theorem cmp_pair {prog : Program} {w : World} {A : Around} {E : Value → Shared → Prop} {s : Shared} {u v : Value} {p q : Int × List Int} {Q : Value → Shared → Prop} (hv : PairAt s.heap v p) (hu : PairAt s.heap u q) (hr : A.units + 2 < cLine) (h : Q (.bool (pLt p q)) s) : wpAny (model prog w) A (richCompare .Lt v u) Q E s := by
  obtain ⟨a, x, t, its, rfl, ha, hx, hi⟩ := hv
  obtain ⟨b, y, t', its', rfl, hb, hy, hj⟩ := hu
  have r1 : A.in1.units < cLine := by rw [Around.in1_units]; omega
  refine lt_two (e0 := (p.1 == q.1)) (l0 := decide (p.1 < q.1)) (e1 := (p.2 == q.2)) (l1 := HT.lexLt p.2 q.2) ha hb ⟨EqAt.int_int _ _ _ _, fun _ prog w E Q hq => HT.rcLt_int _ _ _ _ _ _ prog w E Q hq⟩
    ⟨eqAt_tupI hx hy hi hj r1, fun _ prog w E Q hq => HT.lt_tupInts hx hy (by simpa using hi) (by simpa using hj) r1 hq⟩ (by omega) ?_
  have e : (if (p.1 == q.1) = true then (if (p.2 == q.2) = true then false else HT.lexLt p.2 q.2) else decide (p.1 < q.1)) = pLt p q := by
    unfold pLt
    by_cases h1 : p.1 = q.1
    · rw [if_pos (by simpa using h1), if_pos h1]
      by_cases h2 : p.2 = q.2
      · rw [if_pos (by simpa using h2), h2, lex_self]
      · rw [if_neg (by simpa using h2)]
    · rw [if_neg (by simpa using h1), if_neg h1]
  rw [e]
  exact h
end
end L3
namespace L3
open PySem
section
variable {prog : Program} {w : World} {A : Around} {R : Result → Shared → Prop} {I : Addr} {fp wr : List Addr} {n : Nat} {P : Nat → Value → Prop} {St : Nat → Heap → Prop} {h0 : Heap}
noncomputable def CmpOn (prog : Program) (w : World) (A : Around) (h0 : Heap) (P : Nat → Value → Prop) (bt : Nat → Nat → Bool) : Prop :=
  ∀ i j vi vj (s : Shared) (Q : Value → Shared → Prop) (E : Value → Shared → Prop), (∀ b o, h0.get? b = some o → s.heap.get? b = some o) → P i vi → P j vj → Q (.bool (bt i j)) s → wpAny (model prog w) A (richCompare .Lt vi vj) Q E s
theorem min_turns (W : Walks prog w A.in1 I fp wr n P St) (bt : Nat → Nat → Bool) (hcmp : CmpOn prog w A.in1 h0 P bt) (S : Addr) (hSf : S ∉ fp) (h0w : ∀ b o, h0.get? b = some o → b ∉ wr ∧ b ≠ S) :
    ∀ (k j : Nat) (s : Shared) (vb : Value) (c : Nat), n - (j + 1) = k → j + 1 ≤ n → St (j + 1) s.heap → P (argBest bt j) vb → (∀ b o, h0.get? b = some o → s.heap.get? b = some o) →
    s.heap.get? S = some { cls := .type "list", dict := none, data := .seq #[vb, vb] c, slots := #[] } →
    (∀ v h' tk, P (argBest bt (n - 1)) v → (∀ b o, b ∉ wr → b ≠ S → s.heap.get? b = some o → h'.get? b = some o) → R (.ok (.ret v)) { s with heap := h', toks := tk }) →
    codeAny (model prog w) A (.builtin "min.loop" ⟨[.ref I, .none, .ref S], []⟩) R s := by
  have hSw : S ∉ wr := fun h => hSf (W.sub _ h)
  have hname : (toString "min" ++ toString ".loop" : String) = "min.loop" := by decide
  intro k
  induction k with
  | zero =>
    intro j s vb c hk hj hst hPb hx hS hR
    have hin : j + 1 = n := by omega
    refine codeAny_builtin F.entry_min_loop ?_
    rw [Around.under_plainId F.plain_min_loop _]
    show wpAny _ A.in1 (seqItems? (.ref S) >>= _) _ _ s
    refine wpAny_bind (wpAny_seqItems hS rfl ?_)
    show wpAny _ A.in1 (tryCatch (pyNext (.ref I)) _ >>= _) _ _ s
    refine wpAny_bind (wpAny_tryCatch (W.done s _ _ (hin ▸ hst) fun h' tk hk' => ?_))
    show wpAny _ A.in1 (updateSeq S (fun _ => #[]) >>= _) _ _ _
    refine wpAny_bind (wpAny_updateSeq (hk' S _ hSw hS) rfl (wpAny_bind (wpAny_letGo (wpAny_pure ?_))))
    exact hR vb _ tk (by rw [← hin]; exact hPb) fun b o hbw hbS e => (Heap.get?_update_other _ _ (Ne.symm hbS)).trans (hk' b o hbw e)
  | succ k ih =>
    intro j s vb c hk hj hst hPb hx hS hR
    have hlt : j + 1 < n := by omega
    refine codeAny_builtin F.entry_min_loop ?_
    rw [Around.under_plainId F.plain_min_loop _]
    show wpAny _ A.in1 (seqItems? (.ref S) >>= _) _ _ s
    refine wpAny_bind (wpAny_seqItems hS rfl ?_)
    show wpAny _ A.in1 (tryCatch (pyNext (.ref I)) _ >>= _) _ _ s
    refine wpAny_bind (wpAny_tryCatch (W.item (j + 1) s _ _ hlt hst fun v h' tk hP hst' hk' => ?_))
    have hS' := hk' S _ hSw hS
    have hx' : ∀ b o, h0.get? b = some o → h'.get? b = some o := fun b o e => hk' b o (h0w b o e).1 (hx b o e)
    show wpAny _ A.in1 (tryCatch (holding [v, v] (richCompare .Lt v vb >>= _)) _ >>= _) _ _ _
    refine wpAny_bind (wpAny_tryCatch (wpAny_holding (wpAny_bind (hcmp (j + 1) (argBest bt j) v vb _ _ _ hx' hP hPb ?_))))
    refine wpAny_bind (wpAny_holding (wpAny_truthy_bool ?_))
    refine wpAny_bind (wpAny_letGo (wpAny_pure ?_))
    cases hb : bt (j + 1) (argBest bt j) with
    | true =>
      simp only [if_true]
      refine wpAny_bind (wpAny_updateSeq hS' rfl (wpAny_bind (wpAny_letGo ?_)))
      rw [hname]
      refine wpAny_pure ⟨plainId_quiet F.plain_min_loop _, ih (j + 1) _ v _ (by omega) hlt (W.frame _ _ _ hst' fun b hbf o e => ?_) (by simp only [argBest, hb, if_true]; exact hP) (fun b o e => ?_) (Heap.get?_update_self _ hS' rfl)
        fun v' h'' tk'' hP' hk'' => ?_⟩
      · exact (Heap.get?_update_other _ _ (fun h : S = b => hSf (by rw [h]; exact hbf))).trans e
      · exact (Heap.get?_update_other _ _ (Ne.symm (h0w b o e).2)).trans (hx' b o e)
      · exact hR v' h'' tk'' hP' fun b o hbw hbS e => hk'' b o hbw hbS ((Heap.get?_update_other _ _ (Ne.symm hbS)).trans (hk' b o hbw e))
    | false =>
      simp only [Bool.false_eq_true, if_false]
      refine wpAny_bind (wpAny_letGo ?_)
      rw [hname]
      exact wpAny_pure ⟨plainId_quiet F.plain_min_loop _, ih (j + 1) _ vb c (by omega) hlt hst' (by simp only [argBest, hb, Bool.false_eq_true, if_false]; exact hPb) hx' hS' fun v' h'' tk'' hP' hk'' =>
        hR v' h'' tk'' hP' fun b o hbw hbS e => hk'' b o hbw hbS (hk' b o hbw e)⟩
end
section
variable {prog : Program} {w : World} {A : Around} {E : Value → Shared → Prop} {s : Shared}
theorem min_on {x : Value} {Q : Value → Shared → Prop}
    (h : wpAny (model prog w) A.in1 (pyIter x) (fun it s₂ => ∃ I fp wr n P St bt h0, it = .ref I ∧ Walks prog w A.in1 I fp wr n P St ∧ St 0 s₂.heap ∧ (∀ b ∈ fp, b < s₂.heap.objs.size) ∧ 0 < n ∧ CmpOn prog w A.in1 h0 P bt ∧ (∀ b o, h0.get? b = some o → b ∉ wr ∧ s₂.heap.get? b = some o) ∧
      ∀ v h' tk, P (argBest bt (n - 1)) v → (∀ b o, b ∉ wr → s₂.heap.get? b = some o → h'.get? b = some o) → Q v { s₂ with heap := h', toks := tk }) E s) :
    wpAny (model prog w) A (call (.builtin "min") [x]) Q E s := by
  have hname : (toString "min" ++ toString ".loop" : String) = "min.loop" := by decide
  refine call_function_tree F.kind_min F.plain_min F.entry_min (F.args_min1 _) ?_
  show wpAny _ A.in1 (Builtin.Builtins.bindParams "min" ["key", "default"] 0 ⟨[], []⟩ >>= _) _ _ s
  refine wpAny_bind (wpAny_of_eq (show Builtin.Builtins.bindParams "min" ["key", "default"] 0 ⟨[], []⟩ = pure [none, none] from rfl) ?_)
  refine wpAny_bind (wpAny_pure ?_)
  refine wpAny_bind (wpAny_mono h (fun it s₂ h₂ => ?_) fun _ _ e => e)
  obtain ⟨I, fp, wr, n, P, St, bt, h0, rfl, W, hst, hfp, hn, hcmp, hx, hQ⟩ := h₂
  refine wpAny_bind (wpAny_newObj_type ?_)
  have hSf : s₂.heap.objs.size ∉ fp := fun hm => Nat.lt_irrefl _ (hfp _ hm)
  have hSw : s₂.heap.objs.size ∉ wr := fun h => hSf (W.sub _ h)
  have h0w : ∀ b o, h0.get? b = some o → b ∉ wr ∧ b ≠ s₂.heap.objs.size := fun b o e => ⟨(hx b o e).1, Nat.ne_of_lt (Heap.lt_size (hx b o e).2)⟩
  rw [hname]
  refine wpAny_pure ⟨plainId_quiet F.plain_min_loop _, ?_⟩
  refine codeAny_builtin F.entry_min_loop ?_
  rw [Around.under_plainId F.plain_min_loop _]
  show wpAny _ A.in1 (seqItems? (.ref s₂.heap.objs.size) >>= _) _ _ _
  refine wpAny_bind (wpAny_seqItems (Heap.get?_push_size _ rfl) rfl ?_)
  show wpAny _ A.in1 (tryCatch (pyNext (.ref I)) _ >>= _) _ _ _
  refine wpAny_bind (wpAny_tryCatch (W.item 0 _ _ _ hn (W.frame _ _ _ hst fun b _ o e => Heap.get?_push_of_some _ e) fun v h' tk hP hst' hk' => ?_))
  have hS' := hk' s₂.heap.objs.size _ hSw (Heap.get?_push_size _ rfl)
  show wpAny _ A.in1 (updateSeq s₂.heap.objs.size (fun _ => #[v, v]) >>= _) _ _ _
  refine wpAny_bind (wpAny_updateSeq hS' rfl ?_)
  rw [hname]
  refine wpAny_pure ⟨plainId_quiet F.plain_min_loop _, min_turns W bt hcmp s₂.heap.objs.size hSf h0w _ 0 _ v _ rfl hn (W.frame _ _ _ hst' fun b hbf o e => ?_) hP (fun b o e => ?_) (Heap.get?_update_self _ hS' rfl) fun v' h'' tk'' hP' hk'' => ?_⟩
  · exact (Heap.get?_update_other _ _ (fun h : s₂.heap.objs.size = b => hSf (by rw [h]; exact hbf))).trans e
  · exact (Heap.get?_update_other _ _ (Ne.symm (h0w b o e).2)).trans (hk' b o (h0w b o e).1 (Heap.get?_push_of_some _ (hx b o e).2))
  · exact hQ v' h'' tk'' hP' fun b o hbw e => hk'' b o hbw (Nat.ne_of_lt (Heap.lt_size e)) ((Heap.get?_update_other _ _ (Ne.symm (Nat.ne_of_lt (Heap.lt_size e)))).trans (hk' b o hbw (Heap.get?_push_of_some _ e)))
theorem min_hand {l : Addr} {items : Array Value} {bt : Nat → Nat → Bool} {Q : Value → Shared → Prop} (hh : Hand A s.heap) (hl : s.heap.IsList l items) (hn : 0 < items.size) (hc : CmpOn prog w A.in1 s.heap (fun i v => items[i]? = some v) bt)
    (k : ∀ v h' tk, items[argBest bt (items.size - 1)]? = some v → (∀ b o, s.heap.get? b = some o → h'.get? b = some o) → Q v { s with heap := h', toks := tk }) : wpAny (model prog w) A (call (.builtin "min") [.ref l]) Q E s := by
  have hlt : l < s.heap.objs.size := by obtain ⟨_, e, _⟩ := hl; exact Heap.lt_size e
  have hlI : l ≠ s.heap.objs.size := Nat.ne_of_lt hlt
  refine min_on (wpAny_pyIter_list hl ?_)
  have hfp : ∀ b ∈ [s.heap.objs.size, l], b < (s.heap.push { cls := .type "list_iterator", data := .fields #[.ref l, .int 0 0] }).objs.size := fun b hb => by
    rw [Heap.size_push]
    simp only [List.mem_cons, List.not_mem_nil, or_false] at hb
    rcases hb with rfl | rfl
    · exact Nat.lt_succ_self _
    · exact Nat.lt_succ_of_lt hlt
  have st1 : (s.heap.push { cls := .type "list_iterator", data := .fields #[.ref l, .int 0 0] }).IsListIter s.heap.objs.size l 0 := ⟨_, Heap.get?_push_size _ rfl, rfl, rfl⟩
  have hx : ∀ b o, s.heap.get? b = some o → b ∉ [s.heap.objs.size] ∧ (s.heap.push { cls := .type "list_iterator", data := .fields #[.ref l, .int 0 0] }).get? b = some o := fun b o e =>
    ⟨fun hm => Nat.lt_irrefl _ (by simp only [List.mem_cons, List.not_mem_nil, or_false] at hm; exact hm ▸ Heap.lt_size e), Heap.get?_push_of_some _ e⟩
  rcases hh with hh | ⟨ha, cls, head, hh, hX⟩
  · exact ⟨_, _, _, _, _, _, bt, s.heap, rfl, Walks.list (A := A.in1) hh _ l hlI items, ⟨st1, hl.push _⟩, hfp, hn, hc, hx, fun v h' tk hv hk => k v h' tk hv fun b o e => hk b o (hx b o e).1 (hx b o e).2⟩
  · obtain ⟨ob, vs, x1, x2⟩ := id hX
    have hX2 := hX.keep (h' := s.heap.push { cls := .type "list_iterator", data := .fields #[.ref l, .int 0 0] }) fun o e => Heap.get?_push_of_some _ e
    refine ⟨_, _, _, _, _, _, bt, s.heap, rfl, walks_hand (A := A.in1) (ha := ha) (cls := cls) (head := head) hh _ l hlI (Nat.ne_of_lt (Heap.lt_size x1)) items, ⟨st1, hl.push _, hX2⟩, fun b hb => ?_, hn, hc, hx, fun v h' tk hv hk => k v h' tk hv fun b o e => hk b o (hx b o e).1 (hx b o e).2⟩
    simp only [List.mem_cons, List.not_mem_nil, or_false] at hb
    rcases hb with z | z | z
    · exact hfp b (by simp [z])
    · exact hfp b (by simp [z])
    · rw [z]
      show ha < (s.heap.push _).objs.size
      rw [Heap.size_push]
      exact Nat.lt_succ_of_lt (Heap.lt_size x1)
end
end L3
namespace L2
open PySem PySem.Spec PyProof.Rows L3
section
variable {X : Cx}
noncomputable def PairV (K : W.Frag) (H : Hp) (v : V) (p : Int × List Int) : Prop := ∃ a q, v = .ref a ∧ SqT K H a [.int p.1, .ref q] ∧ SqT K H q (p.2.map V.int)
theorem pairAt_of {pins : List (Addr × Obj)} {σ : St} {H : Hp} {s : Shared} (I : Inv X pins σ H s) {v : V} {u : Value} {p : Int × List Int} (h : PairV X.K H v p) (r : RelV v u) : PairAt s.heap u p := by
  obtain ⟨a, q, rfl, h1, h2⟩ := h
  cases r
  obtain ⟨its, r1, p1, _⟩ := I.tuple h1
  obtain ⟨its2, r2, p2, _⟩ := I.tuple h2
  obtain ⟨u1, u2, rfl, e1, e2⟩ := vals2 r1
  obtain ⟨t, rfl⟩ := e1
  cases e2
  exact ⟨a, q, t, its2, rfl, p1, p2, intsAre_of r2⟩
theorem call_minP (hu : X.A.units + 60 < cLine) : CallR X (.builtin "min") (fun xs H Q => ∃ (a : Addr) (vs : List V) (ps : List (Int × List Int)), xs = [.ref a] ∧ SqL X.K H a vs ∧ ps.length = vs.length ∧ 0 < vs.length ∧ (∀ (i : Nat) v p, vs[i]? = some v → ps[i]? = some p → PairV X.K H v p) ∧
    ∀ v, vs[argBest (fun i j => pLt (ps.getD i (0, [])) (ps.getD j (0, []))) (ps.length - 1)]? = some v → Q v H) := by
  intro pins s σ H xs us Q I r h
  obtain ⟨a, vs, ps, rfl, hq, hlen, hpos, hp, q⟩ := h
  obtain ⟨u, rfl, rx⟩ := vals1 r
  cases rx
  obtain ⟨its, r', pl, hz⟩ := I.list hq
  have hlen' := r'.length
  have back : ∀ (i : Nat) u, its.toArray[i]? = some u → ∃ v, vs[i]? = some v ∧ RelV v u := fun i u e => by
    have e' : its[i]? = some u := by simpa using e
    have hi : i < vs.length := by have := (List.getElem?_eq_some_iff.mp e').1; omega
    obtain ⟨u', hu', ru⟩ := r'.get (x := vs[i]) (i := i) (by simp [hi])
    rw [e'] at hu'
    cases hu'
    exact ⟨vs[i], by simp [hi], ru⟩
  have key : ∀ (i : Nat) u, its.toArray[i]? = some u → PairAt s.heap u (ps.getD i (0, [])) := fun i u e => by
    obtain ⟨v, ev, ru⟩ := back i u e
    have hi : i < ps.length := by have := (List.getElem?_eq_some_iff.mp ev).1; omega
    refine pairAt_of I (hp i v _ ev ?_) ru
    simp [List.getD, hi]
  refine L3.min_hand I.hand pl.isList (by simp; omega) (bt := fun i j => pLt (ps.getD i (0, [])) (ps.getD j (0, []))) (fun i j vi vj s' Q E hk hi hj hQ => cmp_pair ((key i vi hi).keep hk) ((key j vj hj).keep hk) (by rw [Around.in1_units]; omega) hQ) fun v h' tk hv hk => ?_
  have hs : its.toArray.size - 1 = ps.length - 1 := by simp; omega
  rw [hs] at hv
  obtain ⟨v0, ev, ru⟩ := back _ _ hv
  exact ⟨v0, H, I.grown (s' := { s with heap := h', toks := tk }) rfl rfl hk, ru, q v0 ev⟩
end
end L2
namespace L3
open PySem PySem.Spec PyProof.Rows L2
section
variable {X : Cx} {E : XE}
noncomputable def pairD1 : D → Option (Int × List Int)
  | .tup [.int i, .tup ds] => (intsD ds).map fun ns => (i, ns)
  | _ => none
noncomputable def pairsD : List D → Option (List (Int × List Int))
  | [] => some []
  | d :: r => (pairD1 d).bind fun p => (pairsD r).map fun ps => p :: ps
noncomputable def bestI (ps : List (Int × List Int)) : Nat := argBest (fun i j => pLt (ps.getD i (0, [])) (ps.getD j (0, []))) (ps.length - 1)
noncomputable def dMin1 : List D → M D := one1 fun d => do
  let ds ← seqD d
  let ps ← ofO (match d with | .tup _ => none | _ => pairsD ds)
  ofO (ds[bestI ps]?)
theorem pairD1_inv {K : W.Frag} {ι : Io} {H : Hp} {d : D} {v : V} {p : Int × List Int} (r : Rel K ι H d v) (e : pairD1 d = some p) : PairV K H v p := by
  unfold pairD1 at e
  split at e
  · rename_i i ds
    cases z : intsD ds with
    | none => rw [z] at e; cases e
    | some ns =>
      rw [z] at e
      cases e
      obtain ⟨a, vs, rfl, h1, h2⟩ := relSqT r
      simp only [RelL] at h2
      obtain ⟨v1, r1, rfl, g1, v2, r2, rfl, g2, rfl⟩ := h2
      simp only [Rel] at g1
      subst g1
      obtain ⟨q, ws, rfl, k1, k2⟩ := relSqT g2
      have := intsD_inv k2 z
      subst this
      exact ⟨a, q, rfl, h1, k1⟩
  · cases e
theorem pairsD_inv {K : W.Frag} {ι : Io} {H : Hp} : ∀ {ds : List D} {vs : List V} {ps : List (Int × List Int)}, RelL K ι H ds vs → pairsD ds = some ps → ps.length = vs.length ∧ ∀ (i : Nat) v p, vs[i]? = some v → ps[i]? = some p → PairV K H v p
  | [], vs, ps, h, e => by
    simp only [RelL] at h
    subst h
    cases e
    exact ⟨rfl, fun i v p e1 => by simp at e1⟩
  | d :: r, vs, ps, h, e => by
    simp only [RelL] at h
    obtain ⟨v, r', rfl, h1, h2⟩ := h
    unfold pairsD at e
    cases z : pairD1 d with
    | none => rw [z] at e; cases e
    | some p =>
      rw [z] at e
      cases z2 : pairsD r with
      | none => rw [z2] at e; cases e
      | some qs =>
        rw [z2] at e
        cases e
        obtain ⟨g1, g2⟩ := pairsD_inv h2 z2
        refine ⟨by simp [g1], fun i v' p' e1 e2 => ?_⟩
        cases i with
        | zero =>
          simp at e1 e2
          subst e1 e2
          exact pairD1_inv h1 z
        | succ i =>
          simp at e1 e2
          exact g2 i v' p' e1 e2
theorem call_min1D (hu : X.A.units + 60 < cLine) : CallR X (.builtin "min") (toRA X.K E dMin1) := by
  refine CallR.imp (call_minP hu) fun xs H Q ⟨ι, h, ds, rl, hr, q⟩ => ?_
  obtain ⟨d, v, e, r, q⟩ := one1_inv rl q
  obtain ⟨a, vs, ds', e', hs, rl', q⟩ := seqD_inv hr r q
  obtain ⟨ps, ep, q⟩ := Fin.ofOb q
  obtain ⟨x, ex⟩ : ∃ x, ds'[bestI ps]? = some x := by
    cases ex : ds'[bestI ps]? with
    | none => rw [ex] at q; exact False.elim q
    | some x => exact ⟨x, rfl⟩
  rw [ex] at q
  rcases hs with ⟨hs, hd⟩ | ⟨hs, hd⟩
  · have ep' : pairsD ds' = some ps := by
      cases d with
      | tup ts => exact absurd rfl (hd ts)
      | _ => exact ep
    obtain ⟨g1, g2⟩ := pairsD_inv rl' ep'
    have hlt := (List.getElem?_eq_some_iff.mp ex).1
    have hl := rl'.length
    refine ⟨a, vs, ps, by rw [e, e'], hs, g1, by omega, g2, fun v0 ev => ?_⟩
    obtain ⟨w, ew, rw'⟩ := RelL.get rl' ex
    have ev' : vs[bestI ps]? = some v0 := ev
    rw [ew] at ev'
    cases ev'
    exact Fin.out hr q _ rw'
  · subst hd
    cases ep
noncomputable def sBad : FS := fun _ => M.bad
theorem r_bad {st : Stmt} : SS X E st sBad := fun pins s σ H D I h => by
  obtain ⟨ι, h, sd, L, hh, q⟩ := h
  exact False.elim q
end
end L3
end
section
set_option maxHeartbeats 4000000
namespace L3
open PySem PySem.Spec PyProof.Rows L2
section
variable {X : Cx} {E : XE}
noncomputable def dTru (d : D) : M Bool := do let ds ← seqD d; pure (!ds.isEmpty)
noncomputable def tLst (f : FE) : FT := fun sd => do let d ← f sd; dTru d
theorem r_tlst {e : Expr} {f : FE} (h : SE X E e f) (he : ∀ whole, isTrue e X.env whole = (do let v ← whole; standAt e.pos; holding [v] (truthy v)) := by intro _; rfl) : ST X E e (tLst f) := by
  refine PT.imp (pt_truth h he) fun σ H Q ⟨ι, h, sd, L, hh, q⟩ => ⟨ι, h, sd, L, hh, Fin.bind q fun d h1 ι1 H1 e1 s1 hr1 q1 v rv => ?_⟩
  obtain ⟨a, vs, ds', e', hs, rl', q2⟩ := seqD_inv hr1 rv q1
  have hl := rl'.length
  have ee : (!ds'.isEmpty) = !vs.isEmpty := by
    cases ds' with
    | nil =>
      cases vs with
      | nil => rfl
      | cons _ _ => simp at hl
    | cons _ _ =>
      cases vs with
      | nil => simp at hl
      | cons _ _ => rfl
  rw [ee] at q2
  refine ⟨!vs.isEmpty, ?_, Fin.out hr1 q2⟩
  rw [e']
  rcases sq_or hs with z | z
  · exact .inl ⟨vs, z, rfl⟩
  · exact .inr (.inl ⟨vs, z, rfl⟩)
end
end L3
end
section
set_option maxHeartbeats 4000000
namespace L3
open PySem PySem.Spec PyProof.Rows L2
section
variable {X : Cx} {E : XE}
noncomputable def nonB : D → Option Bool
  | .non => some true
  | .int _ => some false
  | .tup _ => some false
  | .lst _ => some false
  | _ => none
noncomputable def dIsN (x y : D) : M D := match y with
  | .non => do let b ← ofO (nonB x); pure (.bl b)
  | _ => M.bad
noncomputable def dIsNN (x y : D) : M D := match y with
  | .non => do let b ← ofO (nonB x); pure (.bl (!b))
  | _ => M.bad
theorem nonB_inv {K : W.Frag} {ι : Io} {H : Hp} {x : D} {v : V} {u : Value} {b : Bool} (r : Rel K ι H x v) (rv : RelV v u) (e : nonB x = some b) : (u = Value.none ∧ b = true) ∨ (u ≠ Value.none ∧ b = false) := by
  cases x with
  | non =>
    simp only [Rel] at r
    subst r
    cases rv
    cases e
    exact .inl ⟨rfl, rfl⟩
  | int i =>
    simp only [Rel] at r
    subst r
    obtain ⟨t, rfl⟩ := rv
    cases e
    exact .inr ⟨(fun z => by cases z), rfl⟩
  | tup ds =>
    obtain ⟨a, vs, rfl, _, _⟩ := relSqT r
    cases rv
    cases e
    exact .inr ⟨(fun z => by cases z), rfl⟩
  | lst ds =>
    obtain ⟨a, vs, rfl, _, _⟩ := relSqL r
    cases rv
    cases e
    exact .inr ⟨(fun z => by cases z), rfl⟩
  | _ => cases e
theorem op_isN : OpR X (compareOp .Is) (toR2 X.K E dIsN) := by
  intro pins s σ H x y v u Q I rx ry ⟨ι, h, d1, d2, r1, r2, hr, q⟩
  cases d2 with
  | non =>
    obtain ⟨b, eb, q⟩ := Fin.ofOb (show Fin X.K E ι H ((do let b ← ofO (nonB d1); pure (.bl b) : M D) h) _ from q)
    simp only [Rel] at r2
    subst r2
    cases ry
    rcases nonB_inv r1 rx eb with ⟨rfl, rfl⟩ | ⟨hv, rfl⟩
    · exact is_none_none (fin_bl I (Fin.out hr q _ (by simp [Rel])) rfl)
    · exact is_none_ne hv (fin_bl I (Fin.out hr q _ (by simp [Rel])) rfl)
  | _ => exact False.elim q
theorem op_isNN : OpR X (compareOp .IsNot) (toR2 X.K E dIsNN) := by
  intro pins s σ H x y v u Q I rx ry ⟨ι, h, d1, d2, r1, r2, hr, q⟩
  cases d2 with
  | non =>
    obtain ⟨b, eb, q⟩ := Fin.ofOb (show Fin X.K E ι H ((do let b ← ofO (nonB d1); pure (.bl (!b)) : M D) h) _ from q)
    simp only [Rel] at r2
    subst r2
    cases ry
    rcases nonB_inv r1 rx eb with ⟨rfl, rfl⟩ | ⟨hv, rfl⟩
    · exact isnot_none_none (fin_bl I (Fin.out hr q _ (by simp [Rel])) rfl)
    · exact isnot_none_ne hv (fin_bl I (Fin.out hr q _ (by simp [Rel])) rfl)
  | _ => exact False.elim q
end
end L3
end
section
set_option maxHeartbeats 4000000
namespace L3
open PySem PySem.Spec PyProof.Rows L2 LT
noncomputable def Gro (h h' : Hh) : Prop := ∃ t, h' = h ++ t
theorem Gro.refl {h : Hh} : Gro h h := ⟨[], by simp⟩
theorem Gro.trans {h h1 h2 : Hh} (a : Gro h h1) (b : Gro h1 h2) : Gro h h2 := by
  obtain ⟨t, rfl⟩ := a
  obtain ⟨u, rfl⟩ := b
  exact ⟨t ++ u, by simp⟩
theorem Gro.get {h h' : Hh} {n : Nat} {c : C} (g : Gro h h') (e : h[n]? = some c) : h'[n]? = some c := by
  obtain ⟨t, rfl⟩ := g
  rw [List.getElem?_append_left (List.getElem?_eq_some_iff.mp e).1]
  exact e
theorem Gro.ext {b : Nat} {h h' : Hh} (q : Bx b h) (g : Gro h h') : Ext b h h' := by
  obtain ⟨z, e⟩ := q
  exact ⟨⟨z, g.get e⟩, fun n c _ e => g.get e⟩
noncomputable def Ev {α : Type} (m : M α) (a : α) : Prop := ∀ h, ∃ h', m h = .ok a h' ∧ Gro h h'
section
variable {α β : Type} {m : M α} {a : α} {f : α → M β} {b : β} {h : Hh} {P : α → Hh → Prop}
theorem Ev.pure : Ev (Pure.pure a : M α) a := fun h => ⟨h, rfl, .refl⟩
theorem Ev.of (e : m = Pure.pure a) : Ev m a := e ▸ .pure
theorem Ev.bind (x : Ev m a) (y : Ev (f a) b) : Ev (m >>= f) b := fun h => by
  obtain ⟨h1, e1, g1⟩ := x h
  obtain ⟨h2, e2, g2⟩ := y h1
  refine ⟨h2, ?_, g1.trans g2⟩
  show M.bind m f h = _
  unfold M.bind
  rw [e1]
  exact e2
theorem Ev.wp (x : Ev m a) (k : ∀ h', Gro h h' → P a h') : wp m h P := by
  obtain ⟨h1, e1, g1⟩ := x h
  exact ⟨a, h1, e1, k h1 g1⟩
theorem Ev.of_wp (x : ∀ h, L3.wp m h fun r h' => r = a ∧ Gro h h') : Ev m a := fun h => by
  obtain ⟨r, h1, e1, rfl, g⟩ := x h
  exact ⟨h1, e1, g⟩
theorem Ev.noX (x : Ev m a) : Ev (L3.noX m) a := fun h => by
  obtain ⟨h1, e1, g1⟩ := x h
  refine ⟨h1, ?_, g1⟩
  unfold L3.noX
  rw [e1]
end
@[simp] theorem noX_pure {α : Type} {a : α} : noX (pure a : M α) = pure a := rfl
noncomputable def raiseM {α : Type} (c : String) : M α := fun h => .exc c h
@[simp] theorem raise_bind {α β : Type} {c : String} {f : α → M β} : ((raiseM c : M α) >>= f) = raiseM c := rfl
@[simp] theorem e_sRaise {c : String} {sd : Sd} : sRaise c sd = raiseM c := rfl
theorem e_pick {n : Nat} {Fs : List (List D → M D)} {fi : FE} {fs : FA} {sd : Sd} : cPick n Fs fi fs sd = (do let i ← fi sd; let F ← dPick Fs i; let ds ← fs sd; callD n F ds) := rfl
noncomputable def tI (xs : List Int) : D := .tup (xs.map D.int)
noncomputable def offD (o : List Int × Int) : D := .tup [tI o.1, .int o.2]
noncomputable def stkD (m : Int) (os : List (List Int × Int)) : D := .tup [.int m, .tup (os.map offD)]
structure Stk (m : Int) (os : List (List Int × Int)) : Prop where
  m0 : 1 ≤ m
  m1 : m ≤ 10
  len : os.length ≤ 12
  up : ∀ o ∈ os, o.1.Pairwise (· < ·)
  bd : ∀ o ∈ os, ∀ x ∈ o.1, 0 ≤ x ∧ x < m
  ne : ∀ o ∈ os, o.1 ≠ []
  pos : ∀ o ∈ os, 0 < o.2
theorem Stk.olen {m : Int} {os : List (List Int × Int)} (s : Stk m os) : ∀ o ∈ os, o.1.length ≤ 10 := fun o ho => by
  have h := rise_len (m := m) (ts := o.1.map D.int) (l := 0) (rise_ints.mpr ⟨s.up o ho, fun x hx => s.bd o ho x hx⟩) (by have := s.m0; omega)
  rw [List.length_map] at h
  have := s.m1
  omega
end L3
end
section
set_option maxHeartbeats 8000000
namespace L3
open PySem PySem.Spec PyProof.Rows L2 LT
theorem e_cExtend {fo fe : FE} {sd : Sd} : cExtend fo fe sd = (do let x ← fo sd; dAlive x; let y ← fe sd; dExtend x y) := rfl
theorem e_alive {n : Nat} : dAlive (.cel n) = (do let _ ← cellGet n; pure ()) := rfl
theorem e_extend {n : Nat} {zs : List D} : dExtend (.cel n) (.tup zs) = (do let ds ← cellGet n; fits (ds.length + zs.length); cellPut n (ds ++ zs); pure .non) := rfl
theorem up_len {xs : List Int} {m : Int} (m0 : 0 ≤ m) (h : xs.Pairwise (· < ·)) (b : ∀ x ∈ xs, 0 ≤ x ∧ x < m) : (xs.length : Int) ≤ m := by
  have := rise_len (m := m) (ts := xs.map D.int) (l := 0) (rise_ints.mpr ⟨h, b⟩) m0
  rw [List.length_map] at this
  omega
theorem setI_len {xs : List Int} {m : Int} (m0 : 0 ≤ m) (b : ∀ x ∈ xs, 0 ≤ x ∧ x < m) : ((setI xs).length : Int) ≤ m := up_len m0 (setI_up xs) fun x hx => b x (setI_mem.mp hx)
theorem dedup_short {xs : List Int} {m : Int} (m0 : 0 ≤ m) (m1 : m ≤ 60) (b : ∀ x ∈ xs, 0 ≤ x ∧ x < m) : (xs.foldl step_dedup []).length < 64 := by
  have h := setI_len m0 b
  unfold setI at h
  rw [(sortI_perm _).length_eq] at h
  omega
theorem sortset_cell {n : Nat} {h : Hh} {xs : List Int} {P : D → Hh → Prop} (e : h[n]? = some (.lst (xs.map D.int))) (h1 : (xs.foldl step_dedup []).length < 64) (h2 : xs.length < 4000) (k : P (.lst ((setI xs).map D.int)) h) : wp (dSortSet (.cel n)) h P := by
  unfold dSortSet
  show wp (cellGet n >>= _) h P
  rw [wp_bind, wp_get e]
  show wp (do let ns ← ofO (intsD (xs.map D.int)); if (ns.foldl step_dedup []).length < 64 ∧ ns.length < 4000 then pure (.lst ((setI ns).map D.int)) else M.bad : M D) h P
  rw [intsD_map]
  show wp (if (xs.foldl step_dedup []).length < 64 ∧ xs.length < 4000 then (pure (.lst ((setI xs).map D.int)) : M D) else M.bad) h P
  rw [if_pos ⟨h1, h2⟩, wp_pure]
  exact k
theorem up_eq : ∀ {xs ys : List Int}, xs.Pairwise (· < ·) → ys.Pairwise (· < ·) → (∀ k, k ∈ xs ↔ k ∈ ys) → xs = ys := by
  intro xs ys hx hy hm
  have nx : xs.Nodup := hx.imp fun z => by omega
  have ny : ys.Nodup := hy.imp fun z => by omega
  have p : List.Perm xs ys := (List.perm_ext_iff_of_nodup nx ny).mpr hm
  exact (sortI_eq p (hx.imp fun z => by omega)).trans (sortI_eq (List.Perm.refl ys) (hy.imp fun z => by omega)).symm
theorem dEq_pd {x y : D} {a b : PyData} (e1 : pd x = some a) (e2 : pd y = some b) (h : eqOk a b = true) : dEq x y = pure (.bl (PyData.eqv a b)) := by
  show dEqG false x y = _
  unfold dEqG
  rw [e1, e2]
  simp only [h, if_true]
  rfl
theorem pd_tI (xs : List Int) : pd (tI xs) = some (.tuple (xs.map PyData.int)) := by unfold tI pd; rw [pdL_ints]; rfl
theorem dEq_lst (xs ys : List Int) : dEq (.lst (xs.map D.int)) (.lst (ys.map D.int)) = pure (.bl (xs == ys)) := by
  have e1 : pd (.lst (xs.map D.int)) = some (.list (xs.map PyData.int)) := by unfold pd; rw [pdL_ints]; rfl
  have e2 : pd (.lst (ys.map D.int)) = some (.list (ys.map PyData.int)) := by unfold pd; rw [pdL_ints]; rfl
  rw [dEq_pd e1 e2 (by unfold eqOk; simp [PyData.canLay0, canLay_ints, PyData.depth, depth_ints])]
  simp only [PyData.eqv, eqv_ints]
theorem dSum_ok (xs : List Int) : dSum [.lst (xs.map D.int)] = pure (.int xs.sum) := by
  show (do let bs ← ofO (intsD (xs.map D.int)); pure (.int bs.sum) : M D) = _
  rw [intsD_map]
  rfl
noncomputable def gk (d : D) : Prop := kn d = true ∧ ∀ ds, d = .tup ds → ds.length < 64 ∧ ∀ x ∈ ds, kn x = true
theorem gk_tI {xs : List Int} (h : xs.length < 64) : gk (tI xs) := ⟨rfl, fun ds e => by
  cases e
  exact ⟨by rw [List.length_map]; exact h, fun x hx => by obtain ⟨i, _, rfl⟩ := List.mem_map.mp hx; rfl⟩⟩
noncomputable def pLot (n : Nat) : D → Bool
  | .tup ds => pRise n 0 ds
  | _ => false
theorem atI_off {os : List (List Int × Int)} {i : Int} (h0 : 0 ≤ i) (h1 : i < os.length) : atI (os.map offD) i = some (offD (os.getD i.toNat ([], 0))) := by
  have hl : i.toNat < os.length := by omega
  have := atI_nat (xs := os.map offD) (j := i.toNat) (v := offD (os.getD i.toNat ([], 0))) (by simp [hl, List.getD])
  rw [← this]
  congr 1
  omega
noncomputable def offsL (os : List (List Int × Int)) (ls : List Int) : List (List Int × Int) := ls.map fun i => os.getD i.toNat ([], 0)
theorem sort_nodup {xs : List Int} (h : xs.Nodup) : (sortI xs).Pairwise (· < ·) := by
  have h1 := sortI_up xs
  have h2 : (sortI xs).Nodup := (sortI_perm xs).nodup_iff.mpr h
  exact (List.pairwise_and_iff.mpr ⟨h1, h2⟩).imp fun z => by have := z.1; have := z.2; omega
theorem nodup_len {xs : List Int} {m : Int} (m0 : 0 ≤ m) (h : xs.Nodup) (b : ∀ x ∈ xs, 0 ≤ x ∧ x < m) : (xs.length : Int) ≤ m := by
  rw [← (sortI_perm xs).length_eq]
  exact up_len m0 (sort_nodup h) fun x hx => b x ((sortI_perm xs).mem_iff.mp hx)
theorem e_min {i j : Int} : dMin2 [.int i, .int j] = pure (.int (if j < i then j else i)) := rfl
theorem e_max {i j : Int} : dMax2 [.int i, .int j] = pure (.int (if j > i then j else i)) := rfl
theorem dNe_nilI (xs : List Int) : dNe (tI xs) (.tup []) = pure (.bl (!xs.isEmpty)) := by
  show dEqG true _ _ = _
  unfold dEqG
  rw [pd_tI xs, show pd (.tup []) = some (.tuple []) from rfl]
  have c : eqOk (.tuple (xs.map PyData.int)) (.tuple []) = true := by
    unfold eqOk
    simp [PyData.canLay0, PyData.canLayAll0, canLay_ints, PyData.depth, PyData.depthAll, depth_ints]
  simp only [c, if_true, PyData.eqv]
  cases xs <;> rfl
theorem subs_wp {b : Nat} {turn : D → M (Option D)} (ht : ∀ (i : Int) {h : Hh} {Q : Option D → Hh → Prop}, Bx b h → (∀ o h', Ext b h h' → (o = none ∨ o = some (.int i)) → Q o h') → wp (turn (.int i)) h Q) :
    ∀ (is : List Int) {h : Hh} {P : List D → Hh → Prop}, Bx b h → (∀ (ys : List Int) h', Ext b h h' → ys.Sublist is → P (ys.map D.int) h') → wp (cLoop turn (is.map D.int)) h P
  | [], h, P, q, k => by
    rw [List.map_nil, cLoop, wp_pure]
    exact k [] h (Ext.refl q) .slnil
  | i :: r, h, P, q, k => by
    rw [List.map_cons, cLoop, wp_bind]
    refine ht i q fun o h2 x2 ho => ?_
    rw [wp_bind]
    refine subs_wp ht r x2.1 fun ys h3 x3 hl => ?_
    rw [wp_pure]
    rcases ho with rfl | rfl
    · exact k ys h3 (x2.trans x3) (.cons _ hl)
    · exact k (i :: ys) h3 (x2.trans x3) (.cons₂ _ hl)
theorem rangeI_up (n : Nat) : ((List.range n).map fun (k : Nat) => (k : Int)).Pairwise (· < ·) := by
  rw [List.pairwise_map]
  exact List.pairwise_lt_range.imp fun z => by omega
theorem rangeI_bd {n : Nat} : ∀ x ∈ (List.range n).map fun (k : Nat) => (k : Int), 0 ≤ x ∧ x < n := fun x hx => by
  obtain ⟨k, hk, rfl⟩ := List.mem_map.mp hx
  have := List.mem_range.mp hk
  omega
end L3
end
section
set_option maxHeartbeats 4000000
namespace L3
open PySem PySem.Spec PyProof.Rows L2 LT
noncomputable def EvX {α : Type} (m : M α) (c : String) : Prop := ∀ h, ∃ h', m h = .exc c h' ∧ Gro h h'
section
variable {α β : Type} {m : M α} {a : α} {f : α → M β} {c : String}
theorem EvX.raise : EvX (raiseM c : M α) c := fun h => ⟨h, rfl, .refl⟩
theorem EvX.of (e : m = raiseM c) : EvX m c := e ▸ .raise
theorem EvX.left (x : EvX m c) : EvX (m >>= f) c := fun h => by
  obtain ⟨h1, e1, g1⟩ := x h
  refine ⟨h1, ?_, g1⟩
  show M.bind m f h = _
  unfold M.bind
  rw [e1]
end
theorem e_snox {g : FS} {sd : Sd} : sNoX g sd = noX (g sd) := rfl
theorem e_cnox {g : FE} {sd : Sd} : cNoX g sd = noX (g sd) := rfl
theorem cut_take (xs : List D) {k : Int} (h : 0 ≤ k) : L3.cutD xs none (some k) = xs.take k.toNat := by
  have e := HT.sIx_nat xs.length xs.length k.toNat
  rw [Int.toNat_of_nonneg h] at e
  unfold L3.cutD
  have e0 : HT.sIx xs.length 0 none = 0 := rfl
  rw [e0, e]
  simp
theorem cut_drop (xs : List D) {k : Int} (h : 0 ≤ k) : L3.cutD xs (some k) none = xs.drop k.toNat := by
  have e := HT.sIx_nat xs.length 0 k.toNat
  rw [Int.toNat_of_nonneg h] at e
  unfold L3.cutD
  have e0 : HT.sIx xs.length xs.length none = xs.length := rfl
  rw [e0, e]
  by_cases hk : k.toNat ≤ xs.length
  · rw [Nat.min_eq_left hk, List.take_of_length_le (by rw [List.length_drop]; omega)]
  · rw [Nat.min_eq_right (by omega), List.drop_eq_nil_of_le (show xs.length ≤ k.toNat by omega)]
    simp
theorem full_up {xs : List Int} {m : Int} (m0 : 0 ≤ m) (h : xs.Pairwise (· < ·)) (b : ∀ x ∈ xs, 0 ≤ x ∧ x < m) : (xs == (List.range m.toNat).map fun (k : Nat) => (k : Int)) = ((xs.length : Int) == m) := by
  rw [Bool.eq_iff_iff, beq_iff_eq, beq_iff_eq]
  constructor
  · intro e
    rw [e]
    simp
    omega
  · intro e
    refine up_eq h (rangeI_up _) fun k => ⟨fun hk => ?_, fun hk => ?_⟩
    · obtain ⟨h1, h2⟩ := b k hk
      exact List.mem_map.mpr ⟨k.toNat, List.mem_range.mpr (by omega), by omega⟩
    · have hb := rangeI_bd k hk
      by_cases c : k ∈ xs
      · exact c
      · exfalso
        have := nodup_len (xs := k :: xs) m0 (List.nodup_cons.mpr ⟨c, h.imp fun z => by omega⟩) fun x hx => by
          rcases List.mem_cons.mp hx with rfl | hx
          · omega
          · exact b x hx
        rw [List.length_cons] at this
        omega
theorem dAny_ok (bs : List Bool) : dAny [.lst (bs.map D.bl)] = pure (.bl (bs.any id)) := by
  show (do let bs ← ofO (blsD (bs.map D.bl)); pure (.bl (bs.any id)) : M D) = _
  rw [blsD_map]
  rfl
end L3
end
section
set_option maxHeartbeats 8000000
namespace K84
open PySem PySem.Spec PyProof.Rows L2 L3
noncomputable def G__law_cell : FS := sThen (sIf (tCmp dLt (dVar 1) (cApp dLen (aCons (dVar 0) aNil))) (sRet (cOp dIx (dVar 0) (dVar 1))) sNil) (sRet (cOp dAdd (cOp dMul (cK (.int 6151)) (dVar 1)) (cK (.int 29))))
noncomputable def F__law_cell : List D → M D := runB 2 G__law_cell
theorem d__law_cell (x0 x1 : D) : F__law_cell [x0, x1] = (do let o ← G__law_cell [some x0, some x1]; outD o) := rfl
noncomputable def G__law_mix : FS := sThen (sSet 2 (cOp dAdd (cOp dMulW (cOp dAdd (dVar 0) (cK (.int 1))) (cK (.int 40692))) (cOp dMulW (cK (.int 104729)) (dVar 1)))) (sThen (sSet 2 (cOp dAdd (cOp dMod (cOp dMulW (dVar 2) (dVar 2)) (cK (.int 2147483399))) (dVar 1))) (sRet (cOp dMod (cOp dMulW (dVar 2) (cOp dAdd (dVar 2) (cK (.int 31)))) (cK (.int 2147483563)))))
noncomputable def F__law_mix : List D → M D := runB 3 G__law_mix
theorem d__law_mix (x0 x1 : D) : F__law_mix [x0, x1] = (do let o ← G__law_mix [some x0, some x1, none]; outD o) := rfl
noncomputable def B__law_box_1 : FS := sSet 3 (cOp dAdd (cOp dMulW (dVar 3) (cK (.int 2147483647))) (cApp (callD 2 F__law_mix) (aCons (dVar 2) (aCons (dVar 4) aNil))))
noncomputable def G__law_box : FS := sThen (sSet 2 (cApp (callD 2 F__law_cell) (aCons (dVar 0) (aCons (dVar 1) aNil)))) (sThen (sIf (tCmp dEq (cOp dMod (dVar 2) (cK (.int 2))) (cK (.int 0))) (sRet (cLstC (aCons (cOp dFdiv (dVar 2) (cK (.int 2))) aNil))) sNil) (sThen (sSet 3 (cK (.int 0))) (sThen (sFor (iRng (aCons (cK (.int 24)) aNil)) (gSet 4) B__law_box_1) (sRet (cLstC (aCons (dVar 3) aNil))))))
noncomputable def F__law_box : List D → M D := runB 5 G__law_box
theorem d__law_box (x0 x1 : D) : F__law_box [x0, x1] = (do let o ← G__law_box [some x0, some x1, none, none, none]; outD o) := rfl
noncomputable def G__law_take : FS := sThen (sAsg (cApp dDivmod (aCons (cOp dIx (dVar 0) (cK (.int 0))) (aCons (dVar 1) aNil))) (gTupD 2 (gsCons (gSet 2) (gsCons (gSet 3) gsNil)))) (sThen (sAsg (dVar 2) (gSubD (dVar 0) (cK (.int 0)))) (sRet (dVar 3)))
noncomputable def F__law_take : List D → M D := runB 4 G__law_take
theorem d__law_take (x0 x1 : D) : F__law_take [x0, x1] = (do let o ← G__law_take [some x0, some x1, none, none]; outD o) := rfl
noncomputable def E__law_stock_1 : FE := dVar 0
noncomputable def C__law_stock_1 : FT := tCmp dLe (cApp (callD 2 F__law_take) (aCons (dVar 1) (aCons (cK (.int 4)) aNil))) (dVar 2)
noncomputable def B__law_stock_1 : FS := sThen (sSet 8 (dComp (iRng (aCons (dVar 3) aNil)) (gSet 0) C__law_stock_1 E__law_stock_1 [none, some 0, some 5])) (sThen (sIf (tCmp dEq (dVar 8) (cLst aNil)) (sSet 8 (cLst (aCons (cApp (callD 2 F__law_take) (aCons (dVar 0) (aCons (dVar 3) aNil))) aNil))) sNil) (sExpr (cAppend (dVar 6) (cTup (aCons (cApp dTuple (aCons (dVar 8) aNil)) (aCons (cOp dAdd (cK (.int 1)) (cApp (callD 2 F__law_take) (aCons (dVar 0) (aCons (dVar 4) aNil)))) aNil))))))
noncomputable def G__law_stock : FS := sThen (sSet 3 (cOp dAdd (cK (.int 1)) (cApp (callD 2 F__law_take) (aCons (dVar 0) (aCons (dVar 1) aNil))))) (sThen (sSet 4 (cOp dIx (cLst (aCons (cK (.int 1)) (aCons (cK (.int 3)) (aCons (cK (.int 20)) (aCons (cOp dPow (cK (.int 10)) (cK (.int 20))) aNil))))) (cApp (callD 2 F__law_take) (aCons (dVar 0) (aCons (cK (.int 4)) aNil))))) (sThen (sSet 5 (cApp (callD 2 F__law_take) (aCons (dVar 0) (aCons (cK (.int 3)) aNil)))) (sThen (sSet 6 (cLstC aNil)) (sThen (sFor (iRng (aCons (cApp (callD 2 F__law_take) (aCons (dVar 0) (aCons (cOp dAdd (dVar 2) (cK (.int 1))) aNil))) aNil)) (gSet 7) B__law_stock_1) (sRet (cTup (aCons (dVar 3) (aCons (cApp dTuple (aCons (dVar 6) aNil)) aNil))))))))
noncomputable def F__law_stock : List D → M D := runB 9 G__law_stock
theorem d__law_stock (x0 x1 x2 : D) : F__law_stock [x0, x1, x2] = (do let o ← G__law_stock [some x0, some x1, some x2, none, none, none, none, none, none]; outD o) := rfl
noncomputable def E__law_full_1 : FE := dVar 0
noncomputable def C__law_full_1 : FT := tCmp dIn (dVar 1) (cOp dIx (dVar 0) (cK (.int 0)))
noncomputable def E__law_full_2 : FE := dVar 0
noncomputable def C__law_full_2 : FT := tCmp dEq (dComp (iSq (dVar 1)) (gSet 0) C__law_full_1 E__law_full_1 [none, some 0]) (cLst aNil)
noncomputable def G__law_full : FS := sThen (sAsg (cApp (callD 3 F__law_stock) (aCons (dVar 0) (aCons (dVar 1) (aCons (cOp dSub (dVar 2) (cK (.int 1))) aNil)))) (gTupD 2 (gsCons (gSet 3) (gsCons (gSet 4) gsNil)))) (sThen (sSet 5 (cApp dTuple (aCons (dComp (iRng (aCons (dVar 3) aNil)) (gSet 0) C__law_full_2 E__law_full_2 [none, some 4]) aNil))) (sThen (sSet 6 (cApp (callD 2 F__law_take) (aCons (dVar 0) (aCons (cOp dAdd (cApp dLen (aCons (dVar 4) aNil)) (cK (.int 1))) aNil)))) (sThen (sIf (tCmp dNe (dVar 5) (cTup aNil)) (sSet 4 (cOp dAdd (cOp dAdd (cSl (dVar 4) oNone (oSome (dVar 6))) (cTup (aCons (cTup (aCons (dVar 5) (aCons (cOp dAdd (cK (.int 1)) (cApp (callD 2 F__law_take) (aCons (dVar 0) (aCons (cK (.int 9)) aNil)))) aNil))) aNil))) (cSl (dVar 4) (oSome (dVar 6)) oNone))) sNil) (sRet (cTup (aCons (dVar 3) (aCons (dVar 4) aNil)))))))
noncomputable def F__law_full : List D → M D := runB 7 G__law_full
theorem d__law_full (x0 x1 x2 : D) : F__law_full [x0, x1, x2] = (do let o ← G__law_full [some x0, some x1, some x2, none, none, none, none]; outD o) := rfl
noncomputable def G_is_whole : FS := sRet (cAnd (cUn (dIsI "int") (dVar 0)) (cNot (cUn (dIsI "bool") (dVar 0))))
noncomputable def F_is_whole : List D → M D := runB 1 G_is_whole
theorem d_is_whole (x0 : D) : F_is_whole [x0] = (do let o ← G_is_whole [some x0]; outD o) := rfl
noncomputable def G_need_offer : FS := sIf (tOr (tNot (tVal (cApp (callD 1 F_is_whole) (aCons (dVar 1) aNil)))) (tOr (tCmp dLt (dVar 1) (cK (.int 0))) (tCmp dGe (dVar 1) (cApp dLen (aCons (cOp dIx (dVar 0) (cK (.int 1))) aNil))))) sBad sNil
noncomputable def F_need_offer : List D → M D := runB 2 G_need_offer
theorem d_need_offer (x0 x1 : D) : F_need_offer [x0, x1] = (do let o ← G_need_offer [some x0, some x1]; outD o) := rfl
noncomputable def B_things_together_1 : FS := sExpr (cExtend (dVar 1) (cOp dIx (dVar 2) (cK (.int 0))))
noncomputable def G_things_together : FS := sThen (sSet 1 (cLstC aNil)) (sThen (sFor (iSq (dVar 0)) (gSet 2) B_things_together_1) (sRet (cApp dTuple (aCons (cUn dSortSet (dVar 1)) aNil))))
noncomputable def F_things_together : List D → M D := runB 3 G_things_together
theorem d_things_together (x0 : D) : F_things_together [x0] = (do let o ← G_things_together [some x0, none, none]; outD o) := rfl
noncomputable def G_have_all : FS := sRet (cOp dEq (cApp dLen (aCons (cApp (callD 1 F_things_together) (aCons (dVar 1) aNil)) aNil)) (cOp dIx (dVar 0) (cK (.int 0))))
noncomputable def F_have_all : List D → M D := runB 2 G_have_all
theorem d_have_all (x0 x1 : D) : F_have_all [x0, x1] = (do let o ← G_have_all [some x0, some x1]; outD o) := rfl
noncomputable def G_is_full : FS := sRet (cApp (callD 2 F_have_all) (aCons (dVar 0) (aCons (cOp dIx (dVar 0) (cK (.int 1))) aNil)))
noncomputable def F_is_full : List D → M D := runB 1 G_is_full
theorem d_is_full (x0 : D) : F_is_full [x0] = (do let o ← G_is_full [some x0]; outD o) := rfl
noncomputable def G_need_full : FS := sIf (tNot (tVal (cApp (callD 1 F_is_full) (aCons (dVar 0) aNil)))) sBad sNil
noncomputable def F_need_full : List D → M D := runB 1 G_need_full
theorem d_need_full (x0 : D) : F_need_full [x0] = (do let o ← G_need_full [some x0]; outD o) := rfl
noncomputable def B_bits_of_1 : FS := sThen (sSet 2 (cOp dMul (dVar 2) (cK (.int 2)))) (sIf (tCmp dIn (dVar 3) (dVar 1)) (sSet 2 (cOp dAdd (dVar 2) (cK (.int 1)))) sNil)
noncomputable def G_bits_of : FS := sThen (sSet 2 (cK (.int 0))) (sThen (sFor (iRng (aCons (dVar 0) aNil)) (gSet 3) B_bits_of_1) (sRet (dVar 2)))
noncomputable def F_bits_of : List D → M D := runB 4 G_bits_of
theorem d_bits_of (x0 x1 : D) : F_bits_of [x0, x1] = (do let o ← G_bits_of [some x0, some x1, none, none]; outD o) := rfl
noncomputable def E_known_lots_1 : FE := cTup (aCons (cOp dAdd (cOp dIx (dVar 1) (cK (.int 1))) (cOp dIx (dVar 0) (cK (.int 0)))) (aCons (cOp dAdd (cTup (aCons (dVar 2) aNil)) (cOp dIx (dVar 0) (cK (.int 1)))) (aCons (cOp dOr (dVar 3) (cOp dIx (dVar 0) (cK (.int 2)))) aNil)))
noncomputable def B_known_lots_1 : FS := sThen (sSet 3 (cOp dIx (cOp dIx (dVar 0) (cK (.int 1))) (dVar 2))) (sThen (sSet 4 (cApp (callD 2 F_bits_of) (aCons (cOp dIx (dVar 0) (cK (.int 0))) (aCons (cOp dIx (dVar 3) (cK (.int 0))) aNil)))) (sThen (sSet 5 (dComp (iSq (dVar 1)) (gSet 0) (fun _ => pure true) E_known_lots_1 [none, some 3, some 2, some 4])) (sSet 1 (cOp dAdd (cOp dAdd (cSl (dVar 1) oNone (oSome (cK (.int 1)))) (dVar 5)) (cSl (dVar 1) (oSome (cK (.int 1))) oNone)))))
noncomputable def G_known_lots : FS := sThen (sSet 1 (cLst (aCons (cTup (aCons (cK (.int 0)) (aCons (cTup aNil) (aCons (cK (.int 0)) aNil)))) aNil))) (sThen (sFor (iRng3 (aCons (cOp dSub (cApp dLen (aCons (cOp dIx (dVar 0) (cK (.int 1))) aNil)) (cK (.int 1))) (aCons (cUn dNeg (cK (.int 1))) (aCons (cUn dNeg (cK (.int 1))) aNil)))) (gSet 2) B_known_lots_1) (sRet (dVar 1)))
noncomputable def F_known_lots : List D → M D := runB 6 G_known_lots
theorem d_known_lots (x0 : D) : F_known_lots [x0] = (do let o ← G_known_lots [some x0, none, none, none, none, none]; outD o) := rfl
noncomputable def E_priced_covers_1 : FE := cTup (aCons (cOp dIx (dVar 0) (cK (.int 0))) (aCons (cOp dIx (dVar 0) (cK (.int 1))) aNil))
noncomputable def C_priced_covers_1 : FT := tCmp dEq (cOp dIx (dVar 0) (cK (.int 2))) (dVar 1)
noncomputable def G_priced_covers : FS := sThen (sSet 1 (cApp (callD 2 F_bits_of) (aCons (cOp dIx (dVar 0) (cK (.int 0))) (aCons (cUn dLstRngV (cOp dIx (dVar 0) (cK (.int 0)))) aNil)))) (sRet (dComp (iSq (cApp (callD 1 F_known_lots) (aCons (dVar 0) aNil))) (gSet 0) C_priced_covers_1 E_priced_covers_1 [none, some 1]))
noncomputable def F_priced_covers : List D → M D := runB 2 G_priced_covers
theorem d_priced_covers (x0 : D) : F_priced_covers [x0] = (do let o ← G_priced_covers [some x0, none]; outD o) := rfl
noncomputable def E_cheapest_without_1 : FE := dVar 0
noncomputable def C_cheapest_without_1 : FT := tCmp dNotIn (dVar 1) (cOp dIx (dVar 0) (cK (.int 1)))
noncomputable def G_cheapest_without : FS := sThen (sExpr (cApp (callD 2 F_need_offer) (aCons (dVar 0) (aCons (dVar 1) aNil)))) (sThen (sExpr (cApp (callD 1 F_need_full) (aCons (dVar 0) aNil))) (sThen (sSet 2 (dComp (iSq (cApp (callD 1 F_priced_covers) (aCons (dVar 0) aNil))) (gSet 0) C_cheapest_without_1 E_cheapest_without_1 [none, some 1])) (sRet (cIf (tLst (dVar 2)) (cOp dIx (cApp dMin1 (aCons (dVar 2) aNil)) (cK (.int 1))) (cK .non)))))
noncomputable def F_cheapest_without : List D → M D := runB 3 G_cheapest_without
theorem d_cheapest_without (x0 x1 : D) : F_cheapest_without [x0, x1] = (do let o ← G_cheapest_without [some x0, some x1, none]; outD o) := rfl
noncomputable def B_is_rising_1 : FS := sThen (sIf (tOr (tNot (tVal (cApp (callD 1 F_is_whole) (aCons (dVar 3) aNil)))) (tOr (tCmp dLt (dVar 3) (dVar 2)) (tCmp dGe (dVar 3) (dVar 1)))) (sRet (cK (.bl false))) sNil) (sSet 2 (cOp dAdd (dVar 3) (cK (.int 1))))
noncomputable def G_is_rising : FS := sThen (sIf (tNot (tVal (cUn (dIsI "tuple") (dVar 0)))) (sRet (cK (.bl false))) sNil) (sThen (sSet 2 (cK (.int 0))) (sThen (sFor (iSq (dVar 0)) (gSet 3) B_is_rising_1) (sRet (cK (.bl true)))))
noncomputable def F_is_rising : List D → M D := runB 4 G_is_rising
theorem d_is_rising (x0 x1 : D) : F_is_rising [x0, x1] = (do let o ← G_is_rising [some x0, some x1, none, none]; outD o) := rfl
noncomputable def G_is_lot : FS := sRet (cApp (callD 2 F_is_rising) (aCons (dVar 1) (aCons (cApp dLen (aCons (cOp dIx (dVar 0) (cK (.int 1))) aNil)) aNil)))
noncomputable def F_is_lot : List D → M D := runB 2 G_is_lot
theorem d_is_lot (x0 x1 : D) : F_is_lot [x0, x1] = (do let o ← G_is_lot [some x0, some x1]; outD o) := rfl
noncomputable def G_need_lot : FS := sIf (tNot (tVal (cApp (callD 2 F_is_lot) (aCons (dVar 0) (aCons (dVar 1) aNil))))) sBad sNil
noncomputable def F_need_lot : List D → M D := runB 2 G_need_lot
theorem d_need_lot (x0 x1 : D) : F_need_lot [x0, x1] = (do let o ← G_need_lot [some x0, some x1]; outD o) := rfl
noncomputable def E_offers_of_1 : FE := cOp dIx (cOp dIx (dVar 1) (cK (.int 1))) (dVar 0)
noncomputable def G_offers_of : FS := sThen (sExpr (cApp (callD 2 F_need_lot) (aCons (dVar 0) (aCons (dVar 1) aNil)))) (sRet (dComp (iSq (dVar 1)) (gSet 0) (fun _ => pure true) E_offers_of_1 [none, some 0]))
noncomputable def F_offers_of : List D → M D := runB 2 G_offers_of
theorem d_offers_of (x0 x1 : D) : F_offers_of [x0, x1] = (do let o ← G_offers_of [some x0, some x1]; outD o) := rfl
noncomputable def E_price_of_1 : FE := cOp dIx (dVar 0) (cK (.int 1))
noncomputable def G_price_of : FS := sRet (cApp dSum (aCons (dComp (iSq (cApp (callD 2 F_offers_of) (aCons (dVar 0) (aCons (dVar 1) aNil)))) (gSet 0) (fun _ => pure true) E_price_of_1 [none]) aNil))
noncomputable def F_price_of : List D → M D := runB 2 G_price_of
theorem d_price_of (x0 x1 : D) : F_price_of [x0, x1] = (do let o ← G_price_of [some x0, some x1]; outD o) := rfl
noncomputable def E_cheapest_with_1 : FE := dVar 0
noncomputable def C_cheapest_with_1 : FT := tCmp dIn (dVar 1) (cOp dIx (dVar 0) (cK (.int 1)))
noncomputable def G_cheapest_with : FS := sThen (sExpr (cApp (callD 2 F_need_offer) (aCons (dVar 0) (aCons (dVar 1) aNil)))) (sThen (sExpr (cApp (callD 1 F_need_full) (aCons (dVar 0) aNil))) (sRet (cOp dIx (cApp dMin1 (aCons (dComp (iSq (cApp (callD 1 F_priced_covers) (aCons (dVar 0) aNil))) (gSet 0) C_cheapest_with_1 E_cheapest_with_1 [none, some 1]) aNil)) (cK (.int 1)))))
noncomputable def F_cheapest_with : List D → M D := runB 2 G_cheapest_with
theorem d_cheapest_with (x0 x1 : D) : F_cheapest_with [x0, x1] = (do let o ← G_cheapest_with [some x0, some x1]; outD o) := rfl
noncomputable def G_reach_of : FS := sThen (sSet 2 (cApp (callD 2 F_cheapest_without) (aCons (dVar 0) (aCons (dVar 1) aNil)))) (sThen (sIf (tCmp dIsN (dVar 2) (cK .non)) (sRet (cK .non)) sNil) (sThen (sSet 3 (cOp dSub (cApp (callD 2 F_price_of) (aCons (dVar 0) (aCons (cApp (callD 2 F_cheapest_with) (aCons (dVar 0) (aCons (dVar 1) aNil))) aNil))) (cOp dIx (cOp dIx (cOp dIx (dVar 0) (cK (.int 1))) (dVar 1)) (cK (.int 1))))) (sRet (cOp dSub (cApp (callD 2 F_price_of) (aCons (dVar 0) (aCons (dVar 2) aNil))) (dVar 3)))))
noncomputable def F_reach_of : List D → M D := runB 4 G_reach_of
theorem d_reach_of (x0 x1 : D) : F_reach_of [x0, x1] = (do let o ← G_reach_of [some x0, some x1, none, none]; outD o) := rfl
noncomputable def G_exchanged : FS := sRet (cTup (aCons (cOp dIx (dVar 0) (cK (.int 0))) (aCons (cOp dAdd (cOp dAdd (cSl (cOp dIx (dVar 0) (cK (.int 1))) oNone (oSome (dVar 1))) (dVar 2)) (cSl (cOp dIx (dVar 0) (cK (.int 1))) (oSome (cOp dAdd (dVar 1) (cK (.int 1)))) oNone)) aNil)))
noncomputable def F_exchanged : List D → M D := runB 3 G_exchanged
theorem d_exchanged (x0 x1 x2 : D) : F_exchanged [x0, x1, x2] = (do let o ← G_exchanged [some x0, some x1, some x2]; outD o) := rfl
noncomputable def G_is_needed : FS := sRet (cNot (cApp (callD 1 F_is_full) (aCons (cApp (callD 3 F_exchanged) (aCons (dVar 0) (aCons (dVar 1) (aCons (cTup aNil) aNil)))) aNil)))
noncomputable def F_is_needed : List D → M D := runB 2 G_is_needed
theorem d_is_needed (x0 x1 : D) : F_is_needed [x0, x1] = (do let o ← G_is_needed [some x0, some x1]; outD o) := rfl
noncomputable def E_needed_1 : FE := dVar 0
noncomputable def C_needed_1 : FT := tVal (cApp (callD 2 F_is_needed) (aCons (dVar 1) (aCons (dVar 0) aNil)))
noncomputable def G_needed : FS := sThen (sExpr (cApp (callD 1 F_need_full) (aCons (dVar 0) aNil))) (sRet (dComp (iRng (aCons (cApp dLen (aCons (cOp dIx (dVar 0) (cK (.int 1))) aNil)) aNil)) (gSet 0) C_needed_1 E_needed_1 [none, some 0]))
noncomputable def F_needed : List D → M D := runB 1 G_needed
theorem d_needed (x0 : D) : F_needed [x0] = (do let o ← G_needed [some x0]; outD o) := rfl
noncomputable def G_priced : FS := sThen (sExpr (cApp (callD 2 F_need_offer) (aCons (dVar 0) (aCons (dVar 1) aNil)))) (sThen (sIf (tOr (tNot (tVal (cApp (callD 1 F_is_whole) (aCons (dVar 2) aNil)))) (tCmp dLt (dVar 2) (cK (.int 1)))) sBad sNil) (sRet (cApp (callD 3 F_exchanged) (aCons (dVar 0) (aCons (dVar 1) (aCons (cTup (aCons (cTup (aCons (cOp dIx (cOp dIx (cOp dIx (dVar 0) (cK (.int 1))) (dVar 1)) (cK (.int 0))) (aCons (dVar 2) aNil))) aNil)) aNil))))))
noncomputable def F_priced : List D → M D := runB 3 G_priced
theorem d_priced (x0 x1 x2 : D) : F_priced [x0, x1, x2] = (do let o ← G_priced [some x0, some x1, some x2]; outD o) := rfl
noncomputable def E_cheapest_covers_1 : FE := cOp dIx (dVar 0) (cK (.int 1))
noncomputable def C_cheapest_covers_1 : FT := tCmp dEq (cOp dIx (dVar 0) (cK (.int 0))) (dVar 1)
noncomputable def G_cheapest_covers : FS := sThen (sExpr (cApp (callD 1 F_need_full) (aCons (dVar 0) aNil))) (sThen (sSet 1 (cApp (callD 1 F_priced_covers) (aCons (dVar 0) aNil))) (sThen (sSet 2 (cOp dIx (cApp dMin1 (aCons (dVar 1) aNil)) (cK (.int 0)))) (sRet (dComp (iSq (dVar 1)) (gSet 0) C_cheapest_covers_1 E_cheapest_covers_1 [none, some 2]))))
noncomputable def F_cheapest_covers : List D → M D := runB 3 G_cheapest_covers
theorem d_cheapest_covers (x0 : D) : F_cheapest_covers [x0] = (do let o ← G_cheapest_covers [some x0, none, none]; outD o) := rfl
noncomputable def E_in_some_1 : FE := cOp dIn (dVar 1) (dVar 0)
noncomputable def E_in_some_2 : FE := dVar 0
noncomputable def C_in_some_1 : FT := tVal (cApp dAny (aCons (dComp (iSq (dVar 1)) (gSet 0) (fun _ => pure true) E_in_some_1 [none, some 0]) aNil))
noncomputable def G_in_some : FS := sThen (sSet 1 (cApp (callD 1 F_cheapest_covers) (aCons (dVar 0) aNil))) (sRet (dComp (iRng (aCons (cApp dLen (aCons (cOp dIx (dVar 0) (cK (.int 1))) aNil)) aNil)) (gSet 0) C_in_some_1 E_in_some_2 [none, some 1]))
noncomputable def F_in_some : List D → M D := runB 2 G_in_some
theorem d_in_some (x0 : D) : F_in_some [x0] = (do let o ← G_in_some [some x0, none]; outD o) := rfl
noncomputable def E_in_all_1 : FE := cOp dIn (dVar 1) (dVar 0)
noncomputable def E_in_all_2 : FE := dVar 0
noncomputable def C_in_all_1 : FT := tVal (cApp dAll (aCons (dComp (iSq (dVar 1)) (gSet 0) (fun _ => pure true) E_in_all_1 [none, some 0]) aNil))
noncomputable def G_in_all : FS := sThen (sSet 1 (cApp (callD 1 F_cheapest_covers) (aCons (dVar 0) aNil))) (sRet (dComp (iRng (aCons (cApp dLen (aCons (cOp dIx (dVar 0) (cK (.int 1))) aNil)) aNil)) (gSet 0) C_in_all_1 E_in_all_2 [none, some 1]))
noncomputable def F_in_all : List D → M D := runB 2 G_in_all
theorem d_in_all (x0 : D) : F_in_all [x0] = (do let o ← G_in_all [some x0, none]; outD o) := rfl
noncomputable def G_cheapest_cover : FS := sThen (sExpr (cApp (callD 1 F_need_full) (aCons (dVar 0) aNil))) (sRet (cOp dIx (cApp dMin1 (aCons (cApp (callD 1 F_priced_covers) (aCons (dVar 0) aNil)) aNil)) (cK (.int 1))))
noncomputable def F_cheapest_cover : List D → M D := runB 1 G_cheapest_cover
theorem d_cheapest_cover (x0 : D) : F_cheapest_cover [x0] = (do let o ← G_cheapest_cover [some x0]; outD o) := rfl
noncomputable def G__law_right : FS := sThen (sSet 4 (cApp (callD 3 F_priced) (aCons (dVar 0) (aCons (dVar 1) (aCons (dVar 2) aNil))))) (sThen (sSet 5 (cOp dIn (dVar 1) (cApp (callD 1 F_in_some) (aCons (dVar 4) aNil)))) (sThen (sIf (tOr (tCmp dNe (cApp (callD 2 F_reach_of) (aCons (dVar 4) (aCons (dVar 1) aNil))) (dVar 3)) (tCmp dNe (cOp dIn (dVar 1) (cApp (callD 1 F_in_all) (aCons (dVar 4) aNil))) (cOr (cOp dIsN (dVar 3) (cK .non)) (cOp dLt (dVar 2) (dVar 3))))) (sRet (cK (.bl false))) sNil) (sThen (sIf (tCmp dNe (dVar 5) (cOr (cOp dIsN (dVar 3) (cK .non)) (cOp dLe (dVar 2) (dVar 3)))) (sRet (cK (.bl false))) sNil) (sThen (sSet 6 (cApp (callD 2 F_price_of) (aCons (dVar 4) (aCons (cApp (callD 2 F_cheapest_with) (aCons (dVar 4) (aCons (dVar 1) aNil))) aNil)))) (sThen (sIf (tCmp dIsNN (dVar 3) (cK .non)) (sSet 6 (cApp dMin2 (aCons (dVar 6) (aCons (cApp (callD 2 F_price_of) (aCons (dVar 4) (aCons (cApp (callD 2 F_cheapest_without) (aCons (dVar 4) (aCons (dVar 1) aNil))) aNil))) aNil)))) sNil) (sRet (cOp dEq (cApp (callD 2 F_price_of) (aCons (dVar 4) (aCons (cApp (callD 1 F_cheapest_cover) (aCons (dVar 4) aNil)) aNil))) (dVar 6))))))))
noncomputable def F__law_right : List D → M D := runB 7 G__law_right
theorem d__law_right (x0 x1 x2 x3 : D) : F__law_right [x0, x1, x2, x3] = (do let o ← G__law_right [some x0, some x1, some x2, some x3, none, none, none]; outD o) := rfl
noncomputable def E_law_1 : FE := dVar 0
noncomputable def C_law_1 : FT := tCmp dGt (dVar 0) (cK (.int 0))
noncomputable def B_law_1 : FS := sIf (tNot (tVal (cApp (callD 4 F__law_right) (aCons (dVar 3) (aCons (dVar 4) (aCons (dVar 7) (aCons (dVar 5) aNil))))))) (sRet (cK (.bl false))) sNil
noncomputable def B_law_2 : FS := sThen (sSet 2 (cApp (callD 2 F__law_box) (aCons (dVar 0) (aCons (dVar 1) aNil)))) (sThen (sSet 3 (cApp (callD 3 F__law_full) (aCons (dVar 2) (aCons (cK (.int 6)) (aCons (cK (.int 8)) aNil))))) (sThen (sSet 4 (cApp (callD 2 F__law_take) (aCons (dVar 2) (aCons (cApp dLen (aCons (cOp dIx (dVar 3) (cK (.int 1))) aNil)) aNil)))) (sThen (sSet 5 (cApp (callD 2 F_reach_of) (aCons (dVar 3) (aCons (dVar 4) aNil)))) (sThen (sIf (tCmp dNe (cOp dIsN (dVar 5) (cK .non)) (cOp dIn (dVar 4) (cApp (callD 1 F_needed) (aCons (dVar 3) aNil)))) (sRet (cK (.bl false))) sNil) (sThen (sSet 6 (cLst (aCons (cK (.int 1)) (aCons (cOp dAdd (cK (.int 1)) (cApp (callD 2 F__law_take) (aCons (dVar 2) (aCons (cK (.int 9)) aNil)))) (aCons (cOp dIx (cOp dIx (cOp dIx (dVar 3) (cK (.int 1))) (dVar 4)) (cK (.int 1))) (aCons (cOp dAdd (cOp dIx (cOp dIx (cOp dIx (dVar 3) (cK (.int 1))) (dVar 4)) (cK (.int 1))) (cK (.int 5))) aNil)))))) (sThen (sIf (tCmp dIsNN (dVar 5) (cK .non)) (sSet 6 (cOp dAdd (dVar 6) (dComp (iSq (cLst (aCons (cOp dSub (dVar 5) (cK (.int 1))) (aCons (dVar 5) (aCons (cOp dAdd (dVar 5) (cK (.int 1))) aNil))))) (gSet 0) C_law_1 E_law_1 [none]))) sNil) (sFor (iSq (dVar 6)) (gSet 7) B_law_1)))))))
noncomputable def G_law : FS := sThen (sFor (iRng (aCons (cApp dMax2 (aCons (cK (.int 1)) (aCons (cApp dMin2 (aCons (cApp dLen (aCons (dVar 0) aNil)) (aCons (cK (.int 3)) aNil))) aNil))) aNil)) (gSet 1) B_law_2) (sRet (cK (.bl true)))
noncomputable def F_law : List D → M D := runB 8 G_law
theorem d_law (x0 : D) : F_law [x0] = (do let o ← G_law [some x0, none, none, none, none, none, none, none]; outD o) := rfl
end K84
end
section
set_option maxHeartbeats 8000000
set_option genInjectivity false
set_option genSizeOf false
set_option genSizeOfSpec false
namespace K84
open PySem PySem.Spec PyProof.Rows L2 L3
noncomputable def top (i : Nat) : Stmt := PySem.Challenge.pw_cheapcovers_k84_whole_prices_that_may_ri.main.body.getD i (.Pass ⟨0, 0, 0, 0⟩)
theorem hu60 {A : Around} {k : Nat} (hr : Room k A) : A.units + 60 < cLine := by have := hr.units; omega
theorem bt_all : bootBuiltins "all" = some (.builtin "all") := by decide +kernel
theorem bt_any : bootBuiltins "any" = some (.builtin "any") := by decide +kernel
theorem bt_bool : bootBuiltins "bool" = some (.type "bool") := by decide +kernel
theorem bt_divmod : bootBuiltins "divmod" = some (.builtin "divmod") := by decide +kernel
theorem bt_int : bootBuiltins "int" = some (.type "int") := by decide +kernel
theorem bt_len : bootBuiltins "len" = some (.builtin "len") := by decide +kernel
theorem bt_max : bootBuiltins "max" = some (.builtin "max") := by decide +kernel
theorem bt_min : bootBuiltins "min" = some (.builtin "min") := by decide +kernel
theorem bt_sum : bootBuiltins "sum" = some (.builtin "sum") := by decide +kernel
theorem bt_tuple : bootBuiltins "tuple" = some (.type "tuple") := by decide +kernel
noncomputable abbrev s__law_cell : Stmt := top 37
noncomputable abbrev s__law_mix : Stmt := top 38
noncomputable abbrev s__law_box : Stmt := top 39
noncomputable abbrev s__law_take : Stmt := top 40
noncomputable abbrev s__law_stock : Stmt := top 41
noncomputable abbrev s__law_full : Stmt := top 42
noncomputable abbrev s_is_whole : Stmt := top 7
noncomputable abbrev s_need_offer : Stmt := top 16
noncomputable abbrev s_things_together : Stmt := top 19
noncomputable abbrev s_have_all : Stmt := top 20
noncomputable abbrev s_is_full : Stmt := top 11
noncomputable abbrev s_need_full : Stmt := top 15
noncomputable abbrev s_bits_of : Stmt := top 25
noncomputable abbrev s_known_lots : Stmt := top 24
noncomputable abbrev s_priced_covers : Stmt := top 23
noncomputable abbrev s_cheapest_without : Stmt := top 28
noncomputable abbrev s_is_rising : Stmt := top 8
noncomputable abbrev s_is_lot : Stmt := top 10
noncomputable abbrev s_need_lot : Stmt := top 17
noncomputable abbrev s_offers_of : Stmt := top 18
noncomputable abbrev s_price_of : Stmt := top 12
noncomputable abbrev s_cheapest_with : Stmt := top 27
noncomputable abbrev s_reach_of : Stmt := top 30
noncomputable abbrev s_exchanged : Stmt := top 21
noncomputable abbrev s_is_needed : Stmt := top 14
noncomputable abbrev s_needed : Stmt := top 13
noncomputable abbrev s_priced : Stmt := top 29
noncomputable abbrev s_cheapest_covers : Stmt := top 33
noncomputable abbrev s_in_some : Stmt := top 31
noncomputable abbrev s_in_all : Stmt := top 32
noncomputable abbrev s_cheapest_cover : Stmt := top 35
noncomputable abbrev s__law_right : Stmt := top 43
noncomputable abbrev s_law : Stmt := top 44
structure Ad where
  a__law_cell : Addr
  d__law_cell : FuncData
  a__law_mix : Addr
  d__law_mix : FuncData
  a__law_box : Addr
  d__law_box : FuncData
  a__law_take : Addr
  d__law_take : FuncData
  a__law_stock : Addr
  d__law_stock : FuncData
  a__law_full : Addr
  d__law_full : FuncData
  a_is_whole : Addr
  d_is_whole : FuncData
  a_need_offer : Addr
  d_need_offer : FuncData
  a_things_together : Addr
  d_things_together : FuncData
  a_have_all : Addr
  d_have_all : FuncData
  a_is_full : Addr
  d_is_full : FuncData
  a_need_full : Addr
  d_need_full : FuncData
  a_bits_of : Addr
  d_bits_of : FuncData
  a_known_lots : Addr
  d_known_lots : FuncData
  a_priced_covers : Addr
  d_priced_covers : FuncData
  a_cheapest_without : Addr
  d_cheapest_without : FuncData
  a_is_rising : Addr
  d_is_rising : FuncData
  a_is_lot : Addr
  d_is_lot : FuncData
  a_need_lot : Addr
  d_need_lot : FuncData
  a_offers_of : Addr
  d_offers_of : FuncData
  a_price_of : Addr
  d_price_of : FuncData
  a_cheapest_with : Addr
  d_cheapest_with : FuncData
  a_reach_of : Addr
  d_reach_of : FuncData
  a_exchanged : Addr
  d_exchanged : FuncData
  a_is_needed : Addr
  d_is_needed : FuncData
  a_needed : Addr
  d_needed : FuncData
  a_priced : Addr
  d_priced : FuncData
  a_cheapest_covers : Addr
  d_cheapest_covers : FuncData
  a_in_some : Addr
  d_in_some : FuncData
  a_in_all : Addr
  d_in_all : FuncData
  a_cheapest_cover : Addr
  d_cheapest_cover : FuncData
  a__law_right : Addr
  d__law_right : FuncData
  a_law : Addr
  d_law : FuncData
structure Tx (K : W.Frag) (mg : Str → Option Value) (t : Ad) : Prop where
  n_all : mg "all" = none
  n_any : mg "any" = none
  n_bool : mg "bool" = none
  n_divmod : mg "divmod" = none
  n_int : mg "int" = none
  n_isinstance : mg "isinstance" = none
  n_len : mg "len" = none
  n_list : mg "list" = none
  n_max : mg "max" = none
  n_min : mg "min" = none
  n_range : mg "range" = none
  n_set : mg "set" = none
  n_sorted : mg "sorted" = none
  n_sum : mg "sum" = none
  n_tuple : mg "tuple" = none
  m__law_cell : mg "_law_cell" = some (.ref t.a__law_cell)
  F__law_cell : Fun K "_law_cell" "_law_cell" s__law_cell t.a__law_cell t.d__law_cell
  b__law_cell : Binds K t.d__law_cell ["script", "k"] []
  m__law_mix : mg "_law_mix" = some (.ref t.a__law_mix)
  F__law_mix : Fun K "_law_mix" "_law_mix" s__law_mix t.a__law_mix t.d__law_mix
  b__law_mix : Binds K t.d__law_mix ["cell", "k"] []
  m__law_box : mg "_law_box" = some (.ref t.a__law_box)
  F__law_box : Fun K "_law_box" "_law_box" s__law_box t.a__law_box t.d__law_box
  b__law_box : Binds K t.d__law_box ["script", "k"] []
  m__law_take : mg "_law_take" = some (.ref t.a__law_take)
  F__law_take : Fun K "_law_take" "_law_take" s__law_take t.a__law_take t.d__law_take
  b__law_take : Binds K t.d__law_take ["box", "many"] []
  m__law_stock : mg "_law_stock" = some (.ref t.a__law_stock)
  F__law_stock : Fun K "_law_stock" "_law_stock" s__law_stock t.a__law_stock t.d__law_stock
  b__law_stock : Binds K t.d__law_stock ["box", "most_things", "most_offers"] []
  m__law_full : mg "_law_full" = some (.ref t.a__law_full)
  F__law_full : Fun K "_law_full" "_law_full" s__law_full t.a__law_full t.d__law_full
  b__law_full : Binds K t.d__law_full ["box", "most_things", "most_offers"] []
  m_is_whole : mg "is_whole" = some (.ref t.a_is_whole)
  F_is_whole : Fun K "is_whole" "is_whole" s_is_whole t.a_is_whole t.d_is_whole
  b_is_whole : Binds K t.d_is_whole ["thing"] []
  m_need_offer : mg "need_offer" = some (.ref t.a_need_offer)
  F_need_offer : Fun K "need_offer" "need_offer" s_need_offer t.a_need_offer t.d_need_offer
  b_need_offer : Binds K t.d_need_offer ["stock", "offer"] []
  m_things_together : mg "things_together" = some (.ref t.a_things_together)
  F_things_together : Fun K "things_together" "things_together" s_things_together t.a_things_together t.d_things_together
  b_things_together : Binds K t.d_things_together ["offers"] []
  m_have_all : mg "have_all" = some (.ref t.a_have_all)
  F_have_all : Fun K "have_all" "have_all" s_have_all t.a_have_all t.d_have_all
  b_have_all : Binds K t.d_have_all ["stock", "offers"] []
  m_is_full : mg "is_full" = some (.ref t.a_is_full)
  F_is_full : Fun K "is_full" "is_full" s_is_full t.a_is_full t.d_is_full
  b_is_full : Binds K t.d_is_full ["stock"] []
  m_need_full : mg "need_full" = some (.ref t.a_need_full)
  F_need_full : Fun K "need_full" "need_full" s_need_full t.a_need_full t.d_need_full
  b_need_full : Binds K t.d_need_full ["stock"] []
  m_bits_of : mg "bits_of" = some (.ref t.a_bits_of)
  F_bits_of : Fun K "bits_of" "bits_of" s_bits_of t.a_bits_of t.d_bits_of
  b_bits_of : Binds K t.d_bits_of ["many", "things"] []
  m_known_lots : mg "known_lots" = some (.ref t.a_known_lots)
  F_known_lots : Fun K "known_lots" "known_lots" s_known_lots t.a_known_lots t.d_known_lots
  b_known_lots : Binds K t.d_known_lots ["stock"] []
  m_priced_covers : mg "priced_covers" = some (.ref t.a_priced_covers)
  F_priced_covers : Fun K "priced_covers" "priced_covers" s_priced_covers t.a_priced_covers t.d_priced_covers
  b_priced_covers : Binds K t.d_priced_covers ["stock"] []
  m_cheapest_without : mg "cheapest_without" = some (.ref t.a_cheapest_without)
  F_cheapest_without : Fun K "cheapest_without" "cheapest_without" s_cheapest_without t.a_cheapest_without t.d_cheapest_without
  b_cheapest_without : Binds K t.d_cheapest_without ["stock", "offer"] []
  m_is_rising : mg "is_rising" = some (.ref t.a_is_rising)
  F_is_rising : Fun K "is_rising" "is_rising" s_is_rising t.a_is_rising t.d_is_rising
  b_is_rising : Binds K t.d_is_rising ["thing", "bound"] []
  m_is_lot : mg "is_lot" = some (.ref t.a_is_lot)
  F_is_lot : Fun K "is_lot" "is_lot" s_is_lot t.a_is_lot t.d_is_lot
  b_is_lot : Binds K t.d_is_lot ["stock", "thing"] []
  m_need_lot : mg "need_lot" = some (.ref t.a_need_lot)
  F_need_lot : Fun K "need_lot" "need_lot" s_need_lot t.a_need_lot t.d_need_lot
  b_need_lot : Binds K t.d_need_lot ["stock", "lot"] []
  m_offers_of : mg "offers_of" = some (.ref t.a_offers_of)
  F_offers_of : Fun K "offers_of" "offers_of" s_offers_of t.a_offers_of t.d_offers_of
  b_offers_of : Binds K t.d_offers_of ["stock", "lot"] []
  m_price_of : mg "price_of" = some (.ref t.a_price_of)
  F_price_of : Fun K "price_of" "price_of" s_price_of t.a_price_of t.d_price_of
  b_price_of : Binds K t.d_price_of ["stock", "lot"] []
  m_cheapest_with : mg "cheapest_with" = some (.ref t.a_cheapest_with)
  F_cheapest_with : Fun K "cheapest_with" "cheapest_with" s_cheapest_with t.a_cheapest_with t.d_cheapest_with
  b_cheapest_with : Binds K t.d_cheapest_with ["stock", "offer"] []
  m_reach_of : mg "reach_of" = some (.ref t.a_reach_of)
  F_reach_of : Fun K "reach_of" "reach_of" s_reach_of t.a_reach_of t.d_reach_of
  b_reach_of : Binds K t.d_reach_of ["stock", "offer"] []
  m_exchanged : mg "exchanged" = some (.ref t.a_exchanged)
  F_exchanged : Fun K "exchanged" "exchanged" s_exchanged t.a_exchanged t.d_exchanged
  b_exchanged : Binds K t.d_exchanged ["stock", "number", "offers"] []
  m_is_needed : mg "is_needed" = some (.ref t.a_is_needed)
  F_is_needed : Fun K "is_needed" "is_needed" s_is_needed t.a_is_needed t.d_is_needed
  b_is_needed : Binds K t.d_is_needed ["stock", "number"] []
  m_needed : mg "needed" = some (.ref t.a_needed)
  F_needed : Fun K "needed" "needed" s_needed t.a_needed t.d_needed
  b_needed : Binds K t.d_needed ["stock"] []
  m_priced : mg "priced" = some (.ref t.a_priced)
  F_priced : Fun K "priced" "priced" s_priced t.a_priced t.d_priced
  b_priced : Binds K t.d_priced ["stock", "offer", "price"] []
  m_cheapest_covers : mg "cheapest_covers" = some (.ref t.a_cheapest_covers)
  F_cheapest_covers : Fun K "cheapest_covers" "cheapest_covers" s_cheapest_covers t.a_cheapest_covers t.d_cheapest_covers
  b_cheapest_covers : Binds K t.d_cheapest_covers ["stock"] []
  m_in_some : mg "in_some" = some (.ref t.a_in_some)
  F_in_some : Fun K "in_some" "in_some" s_in_some t.a_in_some t.d_in_some
  b_in_some : Binds K t.d_in_some ["stock"] []
  m_in_all : mg "in_all" = some (.ref t.a_in_all)
  F_in_all : Fun K "in_all" "in_all" s_in_all t.a_in_all t.d_in_all
  b_in_all : Binds K t.d_in_all ["stock"] []
  m_cheapest_cover : mg "cheapest_cover" = some (.ref t.a_cheapest_cover)
  F_cheapest_cover : Fun K "cheapest_cover" "cheapest_cover" s_cheapest_cover t.a_cheapest_cover t.d_cheapest_cover
  b_cheapest_cover : Binds K t.d_cheapest_cover ["stock"] []
  m__law_right : mg "_law_right" = some (.ref t.a__law_right)
  F__law_right : Fun K "_law_right" "_law_right" s__law_right t.a__law_right t.d__law_right
  b__law_right : Binds K t.d__law_right ["stock", "offer", "price", "reach"] []
  m_law : mg "law" = some (.ref t.a_law)
  F_law : Fun K "law" "law" s_law t.a_law t.d_law
  b_law : Binds K t.d_law ["script"] []
section
variable {P : Program} {w : World} {K : W.Frag} {mg : Str → Option Value} {base : Heap} {t : Ad}
theorem sc__law_cell : FnScope ["script", "k"] ["script", "k"] (defScope s__law_cell) := ⟨rfl, rfl, rfl, by decide +kernel, rfl, by decide +kernel, by decide +kernel⟩
theorem ok__law_cell (T : Tx K mg t) : FnOk P w K mg base CX0 1 t.a__law_cell t.d__law_cell ["script", "k"] (spOf K 2 F__law_cell) := by
  refine fn_ok (k := 0) (G := G__law_cell) (N := ["script", "k"]) (ps := ["script", "k"]) (st := s__law_cell) T.F__law_cell sc__law_cell fun cdv A outer s H E hr => ?_
  refine r_scons ?_ ?_
  refine r_if ?_ ?_ ?_
  refine r_tcmp ?_ ?_ ?_
  exact op_ltD
  exact r_var 1
  refine r_callB (id := "len") ?_ ?_ ?_ ?_
  exact call_lenD
  exact bt_len
  exact T.n_len
  refine r_acons ?_ ?_
  exact r_var 0
  exact r_anil
  refine r_sone ?_
  refine r_ret ?_
  refine r_ix ?_ ?_
  exact r_var 0
  exact r_var 1
  exact r_snil
  refine r_sone ?_
  refine r_ret ?_
  refine r_op ?_ ?_ ?_
  exact op_addD
  refine r_op ?_ ?_ ?_
  exact op_mulX
  exact r_int
  exact r_var 1
  exact r_int
theorem nd__law_mix : (["cell", "k", "number"] : List Str).Nodup := by decide +kernel
theorem sc__law_mix : FnScope ["cell", "k", "number"] ["cell", "k"] (defScope s__law_mix) := ⟨rfl, rfl, rfl, by decide +kernel, rfl, by decide +kernel, by decide +kernel⟩
theorem ok__law_mix (T : Tx K mg t) : FnOk P w K mg base CX0 1 t.a__law_mix t.d__law_mix ["cell", "k"] (spOf K 2 F__law_mix) := by
  refine fn_ok (k := 0) (G := G__law_mix) (N := ["cell", "k", "number"]) (ps := ["cell", "k"]) (st := s__law_mix) T.F__law_mix sc__law_mix fun cdv A outer s H E hr => ?_
  refine r_scons ?_ ?_
  refine r_set 2 ?_ ?_
  exact nd__law_mix
  refine r_op ?_ ?_ ?_
  exact op_addD
  refine r_op ?_ ?_ ?_
  exact op_mulW
  refine r_op ?_ ?_ ?_
  exact op_addD
  exact r_var 0
  exact r_int
  exact r_int
  refine r_op ?_ ?_ ?_
  exact op_mulW
  exact r_int
  exact r_var 1
  refine r_scons ?_ ?_
  refine r_set 2 ?_ ?_
  exact nd__law_mix
  refine r_op ?_ ?_ ?_
  exact op_addD
  refine r_op ?_ ?_ ?_
  exact op_modD
  refine r_op ?_ ?_ ?_
  exact op_mulW
  exact r_var 2
  exact r_var 2
  exact r_int
  exact r_var 1
  refine r_sone ?_
  refine r_ret ?_
  refine r_op ?_ ?_ ?_
  exact op_modD
  refine r_op ?_ ?_ ?_
  exact op_mulW
  exact r_var 2
  refine r_op ?_ ?_ ?_
  exact op_addD
  exact r_var 2
  exact r_int
  exact r_int
theorem nd__law_box : (["script", "k", "here", "number", "j"] : List Str).Nodup := by decide +kernel
theorem sc__law_box : FnScope ["script", "k", "here", "number", "j"] ["script", "k"] (defScope s__law_box) := ⟨rfl, rfl, rfl, by decide +kernel, rfl, by decide +kernel, by decide +kernel⟩
theorem ok__law_box (T : Tx K mg t) : FnOk P w K mg base CX0 2 t.a__law_box t.d__law_box ["script", "k"] (spOf K 2 F__law_box) := by
  have G__law_cell := ok__law_cell (P := P) (w := w) (base := base) T
  have G__law_mix := ok__law_mix (P := P) (w := w) (base := base) T
  refine fn_ok (k := 1) (G := G__law_box) (N := ["script", "k", "here", "number", "j"]) (ps := ["script", "k"]) (st := s__law_box) T.F__law_box sc__law_box fun cdv A outer s H E hr => ?_
  refine r_scons ?_ ?_
  refine r_set 2 ?_ ?_
  exact nd__law_box
  refine r_call (k := 1) (g := t.a__law_cell) (fd := t.d__law_cell) (ps := ["script", "k"]) ?_ ?_ ?_ ?_ ?_ ?_
  exact G__law_cell
  exact (hr.mono (by decide))
  exact T.m__law_cell
  exact T.F__law_cell.kp
  exact T.b__law_cell
  refine r_acons ?_ ?_
  exact r_var 0
  refine r_acons ?_ ?_
  exact r_var 1
  exact r_anil
  refine r_scons ?_ ?_
  refine r_if ?_ ?_ ?_
  refine r_tcmp ?_ ?_ ?_
  exact (op_eqD (hu60 hr))
  refine r_op ?_ ?_ ?_
  exact op_modD
  exact r_var 2
  exact r_int
  exact r_int
  refine r_sone ?_
  refine r_ret ?_
  refine r_lstC ?_
  refine r_acons ?_ ?_
  refine r_op ?_ ?_ ?_
  exact op_fdivD
  exact r_var 2
  exact r_int
  exact r_anil
  exact r_snil
  refine r_scons ?_ ?_
  refine r_set 3 ?_ ?_
  exact nd__law_box
  exact r_int
  refine r_scons ?_ ?_
  refine r_for ?_ ?_ ?_ ?_ ?_
  exact rfl
  exact PassesOwn.never
  refine r_rng ?_ ?_
  exact T.n_range
  refine r_acons ?_ ?_
  exact r_int
  exact r_anil
  exact r_gname 4 nd__law_box
  refine r_sone ?_
  refine r_set 3 ?_ ?_
  exact nd__law_box
  refine r_op ?_ ?_ ?_
  exact op_addD
  refine r_op ?_ ?_ ?_
  exact op_mulW
  exact r_var 3
  exact r_int
  refine r_call (k := 1) (g := t.a__law_mix) (fd := t.d__law_mix) (ps := ["cell", "k"]) ?_ ?_ ?_ ?_ ?_ ?_
  exact G__law_mix
  exact (hr.mono (by decide))
  exact T.m__law_mix
  exact T.F__law_mix.kp
  exact T.b__law_mix
  refine r_acons ?_ ?_
  exact r_var 2
  refine r_acons ?_ ?_
  exact r_var 4
  exact r_anil
  refine r_sone ?_
  refine r_ret ?_
  refine r_lstC ?_
  refine r_acons ?_ ?_
  exact r_var 3
  exact r_anil
theorem nd__law_take : (["box", "many", "left", "digit"] : List Str).Nodup := by decide +kernel
theorem sc__law_take : FnScope ["box", "many", "left", "digit"] ["box", "many"] (defScope s__law_take) := ⟨rfl, rfl, rfl, by decide +kernel, rfl, by decide +kernel, by decide +kernel⟩
theorem ok__law_take (T : Tx K mg t) : FnOk P w K mg base CX0 1 t.a__law_take t.d__law_take ["box", "many"] (spOf K 2 F__law_take) := by
  refine fn_ok (k := 0) (G := G__law_take) (N := ["box", "many", "left", "digit"]) (ps := ["box", "many"]) (st := s__law_take) T.F__law_take sc__law_take fun cdv A outer s H E hr => ?_
  refine r_scons ?_ ?_
  refine r_asg ?_ ?_
  refine r_callB (id := "divmod") ?_ ?_ ?_ ?_
  exact call_divmodD
  exact bt_divmod
  exact T.n_divmod
  refine r_acons ?_ ?_
  refine r_ix ?_ ?_
  exact r_var 0
  exact r_int
  refine r_acons ?_ ?_
  exact r_var 1
  exact r_anil
  refine r_gtup ?_ ?_
  exact rfl
  refine r_gscons ?_ ?_
  exact r_gname 2 nd__law_take
  refine r_gscons ?_ ?_
  exact r_gname 3 nd__law_take
  exact r_gsnil
  refine r_scons ?_ ?_
  refine r_asg ?_ ?_
  exact r_var 2
  refine r_gsub ?_ ?_
  exact r_var 0
  exact r_int
  refine r_sone ?_
  refine r_ret ?_
  exact r_var 3
theorem nd__law_stock : (["box", "most_things", "most_offers", "many", "kind", "full", "offers", "turn", "things"] : List Str).Nodup := by decide +kernel
theorem nd_b13 : (["thing", "box", "full"] : List Str).Nodup := by decide +kernel
theorem sc__law_stock : FnScope ["box", "most_things", "most_offers", "many", "kind", "full", "offers", "turn", "things"] ["box", "most_things", "most_offers"] (defScope s__law_stock) := ⟨rfl, rfl, rfl, by decide +kernel, rfl, by decide +kernel, by decide +kernel⟩
theorem ok__law_stock (T : Tx K mg t) : FnOk P w K mg base CX0 2 t.a__law_stock t.d__law_stock ["box", "most_things", "most_offers"] (spOf K 3 F__law_stock) := by
  have G__law_take := ok__law_take (P := P) (w := w) (base := base) T
  refine fn_ok (k := 1) (G := G__law_stock) (N := ["box", "most_things", "most_offers", "many", "kind", "full", "offers", "turn", "things"]) (ps := ["box", "most_things", "most_offers"]) (st := s__law_stock) T.F__law_stock sc__law_stock fun cdv A outer s H E hr => ?_
  refine r_scons ?_ ?_
  refine r_set 3 ?_ ?_
  exact nd__law_stock
  refine r_op ?_ ?_ ?_
  exact op_addD
  exact r_int
  refine r_call (k := 1) (g := t.a__law_take) (fd := t.d__law_take) (ps := ["box", "many"]) ?_ ?_ ?_ ?_ ?_ ?_
  exact G__law_take
  exact (hr.mono (by decide))
  exact T.m__law_take
  exact T.F__law_take.kp
  exact T.b__law_take
  refine r_acons ?_ ?_
  exact r_var 0
  refine r_acons ?_ ?_
  exact r_var 1
  exact r_anil
  refine r_scons ?_ ?_
  refine r_set 4 ?_ ?_
  exact nd__law_stock
  refine r_ix ?_ ?_
  refine r_lst ?_
  refine r_acons ?_ ?_
  exact r_int
  refine r_acons ?_ ?_
  exact r_int
  refine r_acons ?_ ?_
  exact r_int
  refine r_acons ?_ ?_
  refine r_op ?_ ?_ ?_
  exact op_powD
  exact r_int
  exact r_int
  exact r_anil
  refine r_call (k := 1) (g := t.a__law_take) (fd := t.d__law_take) (ps := ["box", "many"]) ?_ ?_ ?_ ?_ ?_ ?_
  exact G__law_take
  exact (hr.mono (by decide))
  exact T.m__law_take
  exact T.F__law_take.kp
  exact T.b__law_take
  refine r_acons ?_ ?_
  exact r_var 0
  refine r_acons ?_ ?_
  exact r_int
  exact r_anil
  refine r_scons ?_ ?_
  refine r_set 5 ?_ ?_
  exact nd__law_stock
  refine r_call (k := 1) (g := t.a__law_take) (fd := t.d__law_take) (ps := ["box", "many"]) ?_ ?_ ?_ ?_ ?_ ?_
  exact G__law_take
  exact (hr.mono (by decide))
  exact T.m__law_take
  exact T.F__law_take.kp
  exact T.b__law_take
  refine r_acons ?_ ?_
  exact r_var 0
  refine r_acons ?_ ?_
  exact r_int
  exact r_anil
  refine r_scons ?_ ?_
  refine r_set 6 ?_ ?_
  exact nd__law_stock
  refine r_lstC ?_
  exact r_anil
  refine r_scons ?_ ?_
  refine r_for ?_ ?_ ?_ ?_ ?_
  exact rfl
  exact PassesOwn.never
  refine r_rng ?_ ?_
  exact T.n_range
  refine r_acons ?_ ?_
  refine r_call (k := 1) (g := t.a__law_take) (fd := t.d__law_take) (ps := ["box", "many"]) ?_ ?_ ?_ ?_ ?_ ?_
  exact G__law_take
  exact (hr.mono (by decide))
  exact T.m__law_take
  exact T.F__law_take.kp
  exact T.b__law_take
  refine r_acons ?_ ?_
  exact r_var 0
  refine r_acons ?_ ?_
  refine r_op ?_ ?_ ?_
  exact op_addD
  exact r_var 2
  exact r_int
  exact r_anil
  exact r_anil
  exact r_gname 7 nd__law_stock
  refine r_scons ?_ ?_
  refine r_setcomp 8 (N := ["thing", "box", "full"]) ?_ ?_ ?_ ?_ ?_ ?_ ?_ ?_
  exact rfl
  exact nd__law_stock
  exact (BOk.of (Xn := (defScope s__law_stock).names) (XN := ["box", "most_things", "most_offers", "many", "kind", "full", "offers", "turn", "things"]) rfl rfl rfl (by decide +kernel))
  exact (GKeeps.name (i := 0) rfl)
  refine r_rng ?_ ?_
  exact T.n_range
  refine r_acons ?_ ?_
  exact r_var 3
  exact r_anil
  intro _ _ _
  exact r_gname 0 nd_b13
  intro _ _ _
  refine r_cone ?_
  refine r_tcmp ?_ ?_ ?_
  exact op_leD
  refine r_call (k := 1) (g := t.a__law_take) (fd := t.d__law_take) (ps := ["box", "many"]) ?_ ?_ ?_ ?_ ?_ ?_
  exact G__law_take
  exact (hr.mono (by decide))
  exact T.m__law_take
  exact T.F__law_take.kp
  exact T.b__law_take
  refine r_acons ?_ ?_
  exact r_var 1
  refine r_acons ?_ ?_
  exact r_int
  exact r_anil
  exact r_var 2
  intro _ _ _
  exact r_var 0
  refine r_scons ?_ ?_
  refine r_if ?_ ?_ ?_
  refine r_tcmp ?_ ?_ ?_
  exact (op_eqD (hu60 hr))
  exact r_var 8
  refine r_lst ?_
  exact r_anil
  refine r_sone ?_
  refine r_set 8 ?_ ?_
  exact nd__law_stock
  refine r_lst ?_
  refine r_acons ?_ ?_
  refine r_call (k := 1) (g := t.a__law_take) (fd := t.d__law_take) (ps := ["box", "many"]) ?_ ?_ ?_ ?_ ?_ ?_
  exact G__law_take
  exact (hr.mono (by decide))
  exact T.m__law_take
  exact T.F__law_take.kp
  exact T.b__law_take
  refine r_acons ?_ ?_
  exact r_var 0
  refine r_acons ?_ ?_
  exact r_var 3
  exact r_anil
  exact r_anil
  exact r_snil
  refine r_sone ?_
  refine r_expr ?_
  refine r_append ?_ ?_
  exact r_var 6
  refine r_tup ?_
  refine r_acons ?_ ?_
  refine r_callTy (T := "tuple") ?_ ?_ ?_ ?_
  exact call_tupleD
  exact bt_tuple
  exact T.n_tuple
  refine r_acons ?_ ?_
  exact r_var 8
  exact r_anil
  refine r_acons ?_ ?_
  refine r_op ?_ ?_ ?_
  exact op_addD
  exact r_int
  refine r_call (k := 1) (g := t.a__law_take) (fd := t.d__law_take) (ps := ["box", "many"]) ?_ ?_ ?_ ?_ ?_ ?_
  exact G__law_take
  exact (hr.mono (by decide))
  exact T.m__law_take
  exact T.F__law_take.kp
  exact T.b__law_take
  refine r_acons ?_ ?_
  exact r_var 0
  refine r_acons ?_ ?_
  exact r_var 4
  exact r_anil
  exact r_anil
  refine r_sone ?_
  refine r_ret ?_
  refine r_tup ?_
  refine r_acons ?_ ?_
  exact r_var 3
  refine r_acons ?_ ?_
  refine r_callTy (T := "tuple") ?_ ?_ ?_ ?_
  exact call_tupleD
  exact bt_tuple
  exact T.n_tuple
  refine r_acons ?_ ?_
  exact r_var 6
  exact r_anil
  exact r_anil
theorem nd__law_full : (["box", "most_things", "most_offers", "many", "offers", "left", "at"] : List Str).Nodup := by decide +kernel
theorem nd_b14 : (["thing", "offers"] : List Str).Nodup := by decide +kernel
theorem nd_b15 : (["one", "thing"] : List Str).Nodup := by decide +kernel
theorem sc__law_full : FnScope ["box", "most_things", "most_offers", "many", "offers", "left", "at"] ["box", "most_things", "most_offers"] (defScope s__law_full) := ⟨rfl, rfl, rfl, by decide +kernel, rfl, by decide +kernel, by decide +kernel⟩
theorem ok__law_full (T : Tx K mg t) : FnOk P w K mg base CX0 3 t.a__law_full t.d__law_full ["box", "most_things", "most_offers"] (spOf K 3 F__law_full) := by
  have G__law_stock := ok__law_stock (P := P) (w := w) (base := base) T
  have G__law_take := ok__law_take (P := P) (w := w) (base := base) T
  refine fn_ok (k := 2) (G := G__law_full) (N := ["box", "most_things", "most_offers", "many", "offers", "left", "at"]) (ps := ["box", "most_things", "most_offers"]) (st := s__law_full) T.F__law_full sc__law_full fun cdv A outer s H E hr => ?_
  refine r_scons ?_ ?_
  refine r_asg ?_ ?_
  refine r_call (k := 2) (g := t.a__law_stock) (fd := t.d__law_stock) (ps := ["box", "most_things", "most_offers"]) ?_ ?_ ?_ ?_ ?_ ?_
  exact G__law_stock
  exact (hr.mono (by decide))
  exact T.m__law_stock
  exact T.F__law_stock.kp
  exact T.b__law_stock
  refine r_acons ?_ ?_
  exact r_var 0
  refine r_acons ?_ ?_
  exact r_var 1
  refine r_acons ?_ ?_
  refine r_op ?_ ?_ ?_
  exact op_subD
  exact r_var 2
  exact r_int
  exact r_anil
  refine r_gtup ?_ ?_
  exact rfl
  refine r_gscons ?_ ?_
  exact r_gname 3 nd__law_full
  refine r_gscons ?_ ?_
  exact r_gname 4 nd__law_full
  exact r_gsnil
  refine r_scons ?_ ?_
  refine r_set 5 ?_ ?_
  exact nd__law_full
  refine r_callTy (T := "tuple") ?_ ?_ ?_ ?_
  exact call_tupleD
  exact bt_tuple
  exact T.n_tuple
  refine r_acons ?_ ?_
  refine r_comp (N := ["thing", "offers"]) ?_ ?_ ?_ ?_ ?_ ?_ ?_
  exact rfl
  exact (BOk.of (Xn := (defScope s__law_full).names) (XN := ["box", "most_things", "most_offers", "many", "offers", "left", "at"]) rfl rfl rfl (by decide +kernel))
  exact (GKeeps.name (i := 0) rfl)
  refine r_rng ?_ ?_
  exact T.n_range
  refine r_acons ?_ ?_
  exact r_var 3
  exact r_anil
  intro _ _ _
  exact r_gname 0 nd_b14
  intro _ _ _
  refine r_cone ?_
  refine r_tcmp ?_ ?_ ?_
  exact (op_eqD (hu60 hr))
  refine r_comp (N := ["one", "thing"]) ?_ ?_ ?_ ?_ ?_ ?_ ?_
  exact rfl
  exact (BOk.of (N := ["one", "thing"]) (src := [none, some 0]) rfl rfl rfl (by rfl))
  exact (GKeeps.name (i := 0) rfl)
  refine r_seq ?_
  exact r_var 1
  intro _ _ _
  exact r_gname 0 nd_b15
  intro _ _ _
  refine r_cone ?_
  refine r_tcmp ?_ ?_ ?_
  exact (op_inD (hu60 hr))
  exact r_var 1
  refine r_ix ?_ ?_
  exact r_var 0
  exact r_int
  intro _ _ _
  exact r_var 0
  refine r_lst ?_
  exact r_anil
  intro _ _ _
  exact r_var 0
  exact r_anil
  refine r_scons ?_ ?_
  refine r_set 6 ?_ ?_
  exact nd__law_full
  refine r_call (k := 1) (g := t.a__law_take) (fd := t.d__law_take) (ps := ["box", "many"]) ?_ ?_ ?_ ?_ ?_ ?_
  exact G__law_take
  exact (hr.mono (by decide))
  exact T.m__law_take
  exact T.F__law_take.kp
  exact T.b__law_take
  refine r_acons ?_ ?_
  exact r_var 0
  refine r_acons ?_ ?_
  refine r_op ?_ ?_ ?_
  exact op_addD
  refine r_callB (id := "len") ?_ ?_ ?_ ?_
  exact call_lenD
  exact bt_len
  exact T.n_len
  refine r_acons ?_ ?_
  exact r_var 4
  exact r_anil
  exact r_int
  exact r_anil
  refine r_scons ?_ ?_
  refine r_if ?_ ?_ ?_
  refine r_tcmp ?_ ?_ ?_
  exact (op_neD (hu60 hr))
  exact r_var 5
  refine r_tup ?_
  exact r_anil
  refine r_sone ?_
  refine r_set 4 ?_ ?_
  exact nd__law_full
  refine r_op ?_ ?_ ?_
  exact op_addD
  refine r_op ?_ ?_ ?_
  exact op_addD
  refine se_slice ?_ ?_ ?_
  exact r_var 4
  exact so_none
  refine so_some ?_
  exact r_var 6
  refine r_tup ?_
  refine r_acons ?_ ?_
  refine r_tup ?_
  refine r_acons ?_ ?_
  exact r_var 5
  refine r_acons ?_ ?_
  refine r_op ?_ ?_ ?_
  exact op_addD
  exact r_int
  refine r_call (k := 1) (g := t.a__law_take) (fd := t.d__law_take) (ps := ["box", "many"]) ?_ ?_ ?_ ?_ ?_ ?_
  exact G__law_take
  exact (hr.mono (by decide))
  exact T.m__law_take
  exact T.F__law_take.kp
  exact T.b__law_take
  refine r_acons ?_ ?_
  exact r_var 0
  refine r_acons ?_ ?_
  exact r_int
  exact r_anil
  exact r_anil
  exact r_anil
  refine se_slice ?_ ?_ ?_
  exact r_var 4
  refine so_some ?_
  exact r_var 6
  exact so_none
  exact r_snil
  refine r_sone ?_
  refine r_ret ?_
  refine r_tup ?_
  refine r_acons ?_ ?_
  exact r_var 3
  refine r_acons ?_ ?_
  exact r_var 4
  exact r_anil
theorem sc_is_whole : FnScope ["thing"] ["thing"] (defScope s_is_whole) := ⟨rfl, rfl, rfl, by decide +kernel, rfl, by decide +kernel, by decide +kernel⟩
theorem ok_is_whole (T : Tx K mg t) : FnOk P w K mg base CX0 1 t.a_is_whole t.d_is_whole ["thing"] (spOf K 1 F_is_whole) := by
  refine fn_ok (k := 0) (G := G_is_whole) (N := ["thing"]) (ps := ["thing"]) (st := s_is_whole) T.F_is_whole sc_is_whole fun cdv A outer s H E hr => ?_
  refine r_sone ?_
  refine r_ret ?_
  refine r_and ?_ ?_
  refine r_isI ?_ ?_ ?_ ?_ ?_
  exact kit_int
  exact bt_int
  exact T.n_isinstance
  exact T.n_int
  exact r_var 0
  refine r_one ?_
  refine r_not ?_
  refine r_isI ?_ ?_ ?_ ?_ ?_
  exact kit_bool
  exact bt_bool
  exact T.n_isinstance
  exact T.n_bool
  exact r_var 0
theorem sc_need_offer : FnScope ["stock", "offer"] ["stock", "offer"] (defScope s_need_offer) := ⟨rfl, rfl, rfl, by decide +kernel, rfl, by decide +kernel, by decide +kernel⟩
theorem ok_need_offer (T : Tx K mg t) : FnOk P w K mg base CX0 2 t.a_need_offer t.d_need_offer ["stock", "offer"] (spOf K 2 F_need_offer) := by
  have G_is_whole := ok_is_whole (P := P) (w := w) (base := base) T
  refine fn_ok (k := 1) (G := G_need_offer) (N := ["stock", "offer"]) (ps := ["stock", "offer"]) (st := s_need_offer) T.F_need_offer sc_need_offer fun cdv A outer s H E hr => ?_
  refine r_sone ?_
  refine r_if ?_ ?_ ?_
  refine r_tbool ?_
  refine r_wor ?_ ?_
  refine r_tnot ?_
  refine r_tval ?_
  refine r_call (k := 1) (g := t.a_is_whole) (fd := t.d_is_whole) (ps := ["thing"]) ?_ ?_ ?_ ?_ ?_ ?_
  exact G_is_whole
  exact (hr.mono (by decide))
  exact T.m_is_whole
  exact T.F_is_whole.kp
  exact T.b_is_whole
  refine r_acons ?_ ?_
  exact r_var 1
  exact r_anil
  refine r_wor ?_ ?_
  refine r_tcmp ?_ ?_ ?_
  exact op_ltD
  exact r_var 1
  exact r_int
  refine r_wor1 ?_
  refine r_tcmp ?_ ?_ ?_
  exact op_geD
  exact r_var 1
  refine r_callB (id := "len") ?_ ?_ ?_ ?_
  exact call_lenD
  exact bt_len
  exact T.n_len
  refine r_acons ?_ ?_
  refine r_ix ?_ ?_
  exact r_var 0
  exact r_int
  exact r_anil
  refine r_sone ?_
  exact r_bad
  exact r_snil
theorem nd_things_together : (["offers", "things", "offer"] : List Str).Nodup := by decide +kernel
theorem sc_things_together : FnScope ["offers", "things", "offer"] ["offers"] (defScope s_things_together) := ⟨rfl, rfl, rfl, by decide +kernel, rfl, by decide +kernel, by decide +kernel⟩
theorem ok_things_together (T : Tx K mg t) : FnOk P w K mg base CX0 1 t.a_things_together t.d_things_together ["offers"] (spOf K 1 F_things_together) := by
  refine fn_ok (k := 0) (G := G_things_together) (N := ["offers", "things", "offer"]) (ps := ["offers"]) (st := s_things_together) T.F_things_together sc_things_together fun cdv A outer s H E hr => ?_
  refine r_scons ?_ ?_
  refine r_set 1 ?_ ?_
  exact nd_things_together
  refine r_lstC ?_
  exact r_anil
  refine r_scons ?_ ?_
  refine r_for ?_ ?_ ?_ ?_ ?_
  exact rfl
  exact PassesOwn.never
  refine r_seq ?_
  exact r_var 0
  exact r_gname 2 nd_things_together
  refine r_sone ?_
  refine r_expr ?_
  refine r_extend ?_ ?_
  exact r_var 1
  refine r_ix ?_ ?_
  exact r_var 2
  exact r_int
  refine r_sone ?_
  refine r_ret ?_
  refine r_callTy (T := "tuple") ?_ ?_ ?_ ?_
  exact call_tupleD
  exact bt_tuple
  exact T.n_tuple
  refine r_acons ?_ ?_
  refine r_sortset ?_ ?_ ?_ ?_
  exact rfl
  exact T.n_sorted
  exact T.n_set
  exact r_var 1
  exact r_anil
theorem sc_have_all : FnScope ["stock", "offers"] ["stock", "offers"] (defScope s_have_all) := ⟨rfl, rfl, rfl, by decide +kernel, rfl, by decide +kernel, by decide +kernel⟩
theorem ok_have_all (T : Tx K mg t) : FnOk P w K mg base CX0 2 t.a_have_all t.d_have_all ["stock", "offers"] (spOf K 2 F_have_all) := by
  have G_things_together := ok_things_together (P := P) (w := w) (base := base) T
  refine fn_ok (k := 1) (G := G_have_all) (N := ["stock", "offers"]) (ps := ["stock", "offers"]) (st := s_have_all) T.F_have_all sc_have_all fun cdv A outer s H E hr => ?_
  refine r_sone ?_
  refine r_ret ?_
  refine r_cmp ?_ ?_ ?_
  exact (op_eqD (hu60 hr))
  refine r_callB (id := "len") ?_ ?_ ?_ ?_
  exact call_lenD
  exact bt_len
  exact T.n_len
  refine r_acons ?_ ?_
  refine r_call (k := 1) (g := t.a_things_together) (fd := t.d_things_together) (ps := ["offers"]) ?_ ?_ ?_ ?_ ?_ ?_
  exact G_things_together
  exact (hr.mono (by decide))
  exact T.m_things_together
  exact T.F_things_together.kp
  exact T.b_things_together
  refine r_acons ?_ ?_
  exact r_var 1
  exact r_anil
  exact r_anil
  refine r_ix ?_ ?_
  exact r_var 0
  exact r_int
theorem sc_is_full : FnScope ["stock"] ["stock"] (defScope s_is_full) := ⟨rfl, rfl, rfl, by decide +kernel, rfl, by decide +kernel, by decide +kernel⟩
theorem ok_is_full (T : Tx K mg t) : FnOk P w K mg base CX0 3 t.a_is_full t.d_is_full ["stock"] (spOf K 1 F_is_full) := by
  have G_have_all := ok_have_all (P := P) (w := w) (base := base) T
  refine fn_ok (k := 2) (G := G_is_full) (N := ["stock"]) (ps := ["stock"]) (st := s_is_full) T.F_is_full sc_is_full fun cdv A outer s H E hr => ?_
  refine r_sone ?_
  refine r_ret ?_
  refine r_call (k := 2) (g := t.a_have_all) (fd := t.d_have_all) (ps := ["stock", "offers"]) ?_ ?_ ?_ ?_ ?_ ?_
  exact G_have_all
  exact (hr.mono (by decide))
  exact T.m_have_all
  exact T.F_have_all.kp
  exact T.b_have_all
  refine r_acons ?_ ?_
  exact r_var 0
  refine r_acons ?_ ?_
  refine r_ix ?_ ?_
  exact r_var 0
  exact r_int
  exact r_anil
theorem sc_need_full : FnScope ["stock"] ["stock"] (defScope s_need_full) := ⟨rfl, rfl, rfl, by decide +kernel, rfl, by decide +kernel, by decide +kernel⟩
theorem ok_need_full (T : Tx K mg t) : FnOk P w K mg base CX0 4 t.a_need_full t.d_need_full ["stock"] (spOf K 1 F_need_full) := by
  have G_is_full := ok_is_full (P := P) (w := w) (base := base) T
  refine fn_ok (k := 3) (G := G_need_full) (N := ["stock"]) (ps := ["stock"]) (st := s_need_full) T.F_need_full sc_need_full fun cdv A outer s H E hr => ?_
  refine r_sone ?_
  refine r_if ?_ ?_ ?_
  refine r_tnot ?_
  refine r_tval ?_
  refine r_call (k := 3) (g := t.a_is_full) (fd := t.d_is_full) (ps := ["stock"]) ?_ ?_ ?_ ?_ ?_ ?_
  exact G_is_full
  exact (hr.mono (by decide))
  exact T.m_is_full
  exact T.F_is_full.kp
  exact T.b_is_full
  refine r_acons ?_ ?_
  exact r_var 0
  exact r_anil
  refine r_sone ?_
  exact r_bad
  exact r_snil
theorem nd_bits_of : (["many", "things", "bits", "thing"] : List Str).Nodup := by decide +kernel
theorem sc_bits_of : FnScope ["many", "things", "bits", "thing"] ["many", "things"] (defScope s_bits_of) := ⟨rfl, rfl, rfl, by decide +kernel, rfl, by decide +kernel, by decide +kernel⟩
theorem ok_bits_of (T : Tx K mg t) : FnOk P w K mg base CX0 1 t.a_bits_of t.d_bits_of ["many", "things"] (spOf K 2 F_bits_of) := by
  refine fn_ok (k := 0) (G := G_bits_of) (N := ["many", "things", "bits", "thing"]) (ps := ["many", "things"]) (st := s_bits_of) T.F_bits_of sc_bits_of fun cdv A outer s H E hr => ?_
  refine r_scons ?_ ?_
  refine r_set 2 ?_ ?_
  exact nd_bits_of
  exact r_int
  refine r_scons ?_ ?_
  refine r_for ?_ ?_ ?_ ?_ ?_
  exact rfl
  exact PassesOwn.never
  refine r_rng ?_ ?_
  exact T.n_range
  refine r_acons ?_ ?_
  exact r_var 0
  exact r_anil
  exact r_gname 3 nd_bits_of
  refine r_scons ?_ ?_
  refine r_set 2 ?_ ?_
  exact nd_bits_of
  refine r_op ?_ ?_ ?_
  exact op_mulX
  exact r_var 2
  exact r_int
  refine r_sone ?_
  refine r_if ?_ ?_ ?_
  refine r_tcmp ?_ ?_ ?_
  exact (op_inD (hu60 hr))
  exact r_var 3
  exact r_var 1
  refine r_sone ?_
  refine r_set 2 ?_ ?_
  exact nd_bits_of
  refine r_op ?_ ?_ ?_
  exact op_addD
  exact r_var 2
  exact r_int
  exact r_snil
  refine r_sone ?_
  refine r_ret ?_
  exact r_var 2
theorem nd_known_lots : (["stock", "lots", "number", "offer", "bits", "longer"] : List Str).Nodup := by decide +kernel
theorem nd_b5 : (["known", "offer", "number", "bits"] : List Str).Nodup := by decide +kernel
theorem sc_known_lots : FnScope ["stock", "lots", "number", "offer", "bits", "longer"] ["stock"] (defScope s_known_lots) := ⟨rfl, rfl, rfl, by decide +kernel, rfl, by decide +kernel, by decide +kernel⟩
theorem ok_known_lots (T : Tx K mg t) : FnOk P w K mg base CX0 2 t.a_known_lots t.d_known_lots ["stock"] (spOf K 1 F_known_lots) := by
  have G_bits_of := ok_bits_of (P := P) (w := w) (base := base) T
  refine fn_ok (k := 1) (G := G_known_lots) (N := ["stock", "lots", "number", "offer", "bits", "longer"]) (ps := ["stock"]) (st := s_known_lots) T.F_known_lots sc_known_lots fun cdv A outer s H E hr => ?_
  refine r_scons ?_ ?_
  refine r_set 1 ?_ ?_
  exact nd_known_lots
  refine r_lst ?_
  refine r_acons ?_ ?_
  refine r_tup ?_
  refine r_acons ?_ ?_
  exact r_int
  refine r_acons ?_ ?_
  refine r_tup ?_
  exact r_anil
  refine r_acons ?_ ?_
  exact r_int
  exact r_anil
  exact r_anil
  refine r_scons ?_ ?_
  refine r_for ?_ ?_ ?_ ?_ ?_
  exact rfl
  exact PassesOwn.never
  refine r_rng3 ?_ ?_
  exact T.n_range
  refine r_acons ?_ ?_
  refine r_op ?_ ?_ ?_
  exact op_subD
  refine r_callB (id := "len") ?_ ?_ ?_ ?_
  exact call_lenD
  exact bt_len
  exact T.n_len
  refine r_acons ?_ ?_
  refine r_ix ?_ ?_
  exact r_var 0
  exact r_int
  exact r_anil
  exact r_int
  refine r_acons ?_ ?_
  refine r_neg ?_
  exact r_int
  refine r_acons ?_ ?_
  refine r_neg ?_
  exact r_int
  exact r_anil
  exact r_gname 2 nd_known_lots
  refine r_scons ?_ ?_
  refine r_set 3 ?_ ?_
  exact nd_known_lots
  refine r_ix ?_ ?_
  refine r_ix ?_ ?_
  exact r_var 0
  exact r_int
  exact r_var 2
  refine r_scons ?_ ?_
  refine r_set 4 ?_ ?_
  exact nd_known_lots
  refine r_call (k := 1) (g := t.a_bits_of) (fd := t.d_bits_of) (ps := ["many", "things"]) ?_ ?_ ?_ ?_ ?_ ?_
  exact G_bits_of
  exact (hr.mono (by decide))
  exact T.m_bits_of
  exact T.F_bits_of.kp
  exact T.b_bits_of
  refine r_acons ?_ ?_
  refine r_ix ?_ ?_
  exact r_var 0
  exact r_int
  refine r_acons ?_ ?_
  refine r_ix ?_ ?_
  exact r_var 3
  exact r_int
  exact r_anil
  refine r_scons ?_ ?_
  refine r_setcomp 5 (N := ["known", "offer", "number", "bits"]) ?_ ?_ ?_ ?_ ?_ ?_ ?_ ?_
  exact rfl
  exact nd_known_lots
  exact (BOk.of (Xn := (defScope s_known_lots).names) (XN := ["stock", "lots", "number", "offer", "bits", "longer"]) rfl rfl rfl (by decide +kernel))
  exact (GKeeps.name (i := 0) rfl)
  refine r_seq ?_
  exact r_var 1
  intro _ _ _
  exact r_gname 0 nd_b5
  intro _ _ _
  exact r_cnil
  intro _ _ _
  refine r_tup ?_
  refine r_acons ?_ ?_
  refine r_op ?_ ?_ ?_
  exact op_addD
  refine r_ix ?_ ?_
  exact r_var 1
  exact r_int
  refine r_ix ?_ ?_
  exact r_var 0
  exact r_int
  refine r_acons ?_ ?_
  refine r_op ?_ ?_ ?_
  exact op_addD
  refine r_tup ?_
  refine r_acons ?_ ?_
  exact r_var 2
  exact r_anil
  refine r_ix ?_ ?_
  exact r_var 0
  exact r_int
  refine r_acons ?_ ?_
  refine r_op ?_ ?_ ?_
  exact op_orD
  exact r_var 3
  refine r_ix ?_ ?_
  exact r_var 0
  exact r_int
  exact r_anil
  refine r_sone ?_
  refine r_set 1 ?_ ?_
  exact nd_known_lots
  refine r_op ?_ ?_ ?_
  exact op_addD
  refine r_op ?_ ?_ ?_
  exact op_addD
  refine se_slice ?_ ?_ ?_
  exact r_var 1
  exact so_none
  refine so_some ?_
  exact r_int
  exact r_var 5
  refine se_slice ?_ ?_ ?_
  exact r_var 1
  refine so_some ?_
  exact r_int
  exact so_none
  refine r_sone ?_
  refine r_ret ?_
  exact r_var 1
theorem nd_priced_covers : (["stock", "every"] : List Str).Nodup := by decide +kernel
theorem nd_b4 : (["known", "every"] : List Str).Nodup := by decide +kernel
theorem sc_priced_covers : FnScope ["stock", "every"] ["stock"] (defScope s_priced_covers) := ⟨rfl, rfl, rfl, by decide +kernel, rfl, by decide +kernel, by decide +kernel⟩
theorem ok_priced_covers (T : Tx K mg t) : FnOk P w K mg base CX0 3 t.a_priced_covers t.d_priced_covers ["stock"] (spOf K 1 F_priced_covers) := by
  have G_bits_of := ok_bits_of (P := P) (w := w) (base := base) T
  have G_known_lots := ok_known_lots (P := P) (w := w) (base := base) T
  refine fn_ok (k := 2) (G := G_priced_covers) (N := ["stock", "every"]) (ps := ["stock"]) (st := s_priced_covers) T.F_priced_covers sc_priced_covers fun cdv A outer s H E hr => ?_
  refine r_scons ?_ ?_
  refine r_set 1 ?_ ?_
  exact nd_priced_covers
  refine r_call (k := 1) (g := t.a_bits_of) (fd := t.d_bits_of) (ps := ["many", "things"]) ?_ ?_ ?_ ?_ ?_ ?_
  exact G_bits_of
  exact (hr.mono (by decide))
  exact T.m_bits_of
  exact T.F_bits_of.kp
  exact T.b_bits_of
  refine r_acons ?_ ?_
  refine r_ix ?_ ?_
  exact r_var 0
  exact r_int
  refine r_acons ?_ ?_
  refine r_lstrngV ?_ ?_ ?_ ?_
  exact rfl
  exact T.n_list
  exact T.n_range
  refine r_ix ?_ ?_
  exact r_var 0
  exact r_int
  exact r_anil
  refine r_sone ?_
  refine r_ret ?_
  refine r_comp (N := ["known", "every"]) ?_ ?_ ?_ ?_ ?_ ?_ ?_
  exact rfl
  exact (BOk.of (Xn := (defScope s_priced_covers).names) (XN := ["stock", "every"]) rfl rfl rfl (by decide +kernel))
  exact (GKeeps.name (i := 0) rfl)
  refine r_seq ?_
  refine r_call (k := 2) (g := t.a_known_lots) (fd := t.d_known_lots) (ps := ["stock"]) ?_ ?_ ?_ ?_ ?_ ?_
  exact G_known_lots
  exact (hr.mono (by decide))
  exact T.m_known_lots
  exact T.F_known_lots.kp
  exact T.b_known_lots
  refine r_acons ?_ ?_
  exact r_var 0
  exact r_anil
  intro _ _ _
  exact r_gname 0 nd_b4
  intro _ _ _
  refine r_cone ?_
  refine r_tcmp ?_ ?_ ?_
  exact (op_eqD (hu60 hr))
  refine r_ix ?_ ?_
  exact r_var 0
  exact r_int
  exact r_var 1
  intro _ _ _
  refine r_tup ?_
  refine r_acons ?_ ?_
  refine r_ix ?_ ?_
  exact r_var 0
  exact r_int
  refine r_acons ?_ ?_
  refine r_ix ?_ ?_
  exact r_var 0
  exact r_int
  exact r_anil
theorem nd_cheapest_without : (["stock", "offer", "covers"] : List Str).Nodup := by decide +kernel
theorem nd_b7 : (["cover", "offer"] : List Str).Nodup := by decide +kernel
theorem sc_cheapest_without : FnScope ["stock", "offer", "covers"] ["stock", "offer"] (defScope s_cheapest_without) := ⟨rfl, rfl, rfl, by decide +kernel, rfl, by decide +kernel, by decide +kernel⟩
theorem ok_cheapest_without (T : Tx K mg t) : FnOk P w K mg base CX0 5 t.a_cheapest_without t.d_cheapest_without ["stock", "offer"] (spOf K 2 F_cheapest_without) := by
  have G_need_offer := ok_need_offer (P := P) (w := w) (base := base) T
  have G_need_full := ok_need_full (P := P) (w := w) (base := base) T
  have G_priced_covers := ok_priced_covers (P := P) (w := w) (base := base) T
  refine fn_ok (k := 4) (G := G_cheapest_without) (N := ["stock", "offer", "covers"]) (ps := ["stock", "offer"]) (st := s_cheapest_without) T.F_cheapest_without sc_cheapest_without fun cdv A outer s H E hr => ?_
  refine r_scons ?_ ?_
  refine r_expr ?_
  refine r_call (k := 2) (g := t.a_need_offer) (fd := t.d_need_offer) (ps := ["stock", "offer"]) ?_ ?_ ?_ ?_ ?_ ?_
  exact G_need_offer
  exact (hr.mono (by decide))
  exact T.m_need_offer
  exact T.F_need_offer.kp
  exact T.b_need_offer
  refine r_acons ?_ ?_
  exact r_var 0
  refine r_acons ?_ ?_
  exact r_var 1
  exact r_anil
  refine r_scons ?_ ?_
  refine r_expr ?_
  refine r_call (k := 4) (g := t.a_need_full) (fd := t.d_need_full) (ps := ["stock"]) ?_ ?_ ?_ ?_ ?_ ?_
  exact G_need_full
  exact (hr.mono (by decide))
  exact T.m_need_full
  exact T.F_need_full.kp
  exact T.b_need_full
  refine r_acons ?_ ?_
  exact r_var 0
  exact r_anil
  refine r_scons ?_ ?_
  refine r_setcomp 2 (N := ["cover", "offer"]) ?_ ?_ ?_ ?_ ?_ ?_ ?_ ?_
  exact rfl
  exact nd_cheapest_without
  exact (BOk.of (Xn := (defScope s_cheapest_without).names) (XN := ["stock", "offer", "covers"]) rfl rfl rfl (by decide +kernel))
  exact (GKeeps.name (i := 0) rfl)
  refine r_seq ?_
  refine r_call (k := 3) (g := t.a_priced_covers) (fd := t.d_priced_covers) (ps := ["stock"]) ?_ ?_ ?_ ?_ ?_ ?_
  exact G_priced_covers
  exact (hr.mono (by decide))
  exact T.m_priced_covers
  exact T.F_priced_covers.kp
  exact T.b_priced_covers
  refine r_acons ?_ ?_
  exact r_var 0
  exact r_anil
  intro _ _ _
  exact r_gname 0 nd_b7
  intro _ _ _
  refine r_cone ?_
  refine r_tcmp ?_ ?_ ?_
  exact (op_notInD (hu60 hr))
  exact r_var 1
  refine r_ix ?_ ?_
  exact r_var 0
  exact r_int
  intro _ _ _
  exact r_var 0
  refine r_sone ?_
  refine r_ret ?_
  refine r_ife ?_ ?_ ?_
  refine r_tlst ?_
  exact r_var 2
  refine r_ix ?_ ?_
  refine r_callB (id := "min") ?_ ?_ ?_ ?_
  exact (call_min1D (hu60 hr))
  exact bt_min
  exact T.n_min
  refine r_acons ?_ ?_
  exact r_var 2
  exact r_anil
  exact r_int
  exact r_non
theorem nd_is_rising : (["thing", "bound", "least", "number"] : List Str).Nodup := by decide +kernel
theorem sc_is_rising : FnScope ["thing", "bound", "least", "number"] ["thing", "bound"] (defScope s_is_rising) := ⟨rfl, rfl, rfl, by decide +kernel, rfl, by decide +kernel, by decide +kernel⟩
theorem ok_is_rising (T : Tx K mg t) : FnOk P w K mg base CX0 2 t.a_is_rising t.d_is_rising ["thing", "bound"] (spOf K 2 F_is_rising) := by
  have G_is_whole := ok_is_whole (P := P) (w := w) (base := base) T
  refine fn_ok (k := 1) (G := G_is_rising) (N := ["thing", "bound", "least", "number"]) (ps := ["thing", "bound"]) (st := s_is_rising) T.F_is_rising sc_is_rising fun cdv A outer s H E hr => ?_
  refine r_scons ?_ ?_
  refine r_if ?_ ?_ ?_
  refine r_tnot ?_
  refine r_tval ?_
  refine r_isI ?_ ?_ ?_ ?_ ?_
  exact kit_tuple
  exact bt_tuple
  exact T.n_isinstance
  exact T.n_tuple
  exact r_var 0
  refine r_sone ?_
  refine r_ret ?_
  exact r_bl
  exact r_snil
  refine r_scons ?_ ?_
  refine r_set 2 ?_ ?_
  exact nd_is_rising
  exact r_int
  refine r_scons ?_ ?_
  refine r_for ?_ ?_ ?_ ?_ ?_
  exact rfl
  exact PassesOwn.never
  refine r_seq ?_
  exact r_var 0
  exact r_gname 3 nd_is_rising
  refine r_scons ?_ ?_
  refine r_if ?_ ?_ ?_
  refine r_tbool ?_
  refine r_wor ?_ ?_
  refine r_tnot ?_
  refine r_tval ?_
  refine r_call (k := 1) (g := t.a_is_whole) (fd := t.d_is_whole) (ps := ["thing"]) ?_ ?_ ?_ ?_ ?_ ?_
  exact G_is_whole
  exact (hr.mono (by decide))
  exact T.m_is_whole
  exact T.F_is_whole.kp
  exact T.b_is_whole
  refine r_acons ?_ ?_
  exact r_var 3
  exact r_anil
  refine r_wor ?_ ?_
  refine r_tcmp ?_ ?_ ?_
  exact op_ltD
  exact r_var 3
  exact r_var 2
  refine r_wor1 ?_
  refine r_tcmp ?_ ?_ ?_
  exact op_geD
  exact r_var 3
  exact r_var 1
  refine r_sone ?_
  refine r_ret ?_
  exact r_bl
  exact r_snil
  refine r_sone ?_
  refine r_set 2 ?_ ?_
  exact nd_is_rising
  refine r_op ?_ ?_ ?_
  exact op_addD
  exact r_var 3
  exact r_int
  refine r_sone ?_
  refine r_ret ?_
  exact r_bl
theorem sc_is_lot : FnScope ["stock", "thing"] ["stock", "thing"] (defScope s_is_lot) := ⟨rfl, rfl, rfl, by decide +kernel, rfl, by decide +kernel, by decide +kernel⟩
theorem ok_is_lot (T : Tx K mg t) : FnOk P w K mg base CX0 3 t.a_is_lot t.d_is_lot ["stock", "thing"] (spOf K 2 F_is_lot) := by
  have G_is_rising := ok_is_rising (P := P) (w := w) (base := base) T
  refine fn_ok (k := 2) (G := G_is_lot) (N := ["stock", "thing"]) (ps := ["stock", "thing"]) (st := s_is_lot) T.F_is_lot sc_is_lot fun cdv A outer s H E hr => ?_
  refine r_sone ?_
  refine r_ret ?_
  refine r_call (k := 2) (g := t.a_is_rising) (fd := t.d_is_rising) (ps := ["thing", "bound"]) ?_ ?_ ?_ ?_ ?_ ?_
  exact G_is_rising
  exact (hr.mono (by decide))
  exact T.m_is_rising
  exact T.F_is_rising.kp
  exact T.b_is_rising
  refine r_acons ?_ ?_
  exact r_var 1
  refine r_acons ?_ ?_
  refine r_callB (id := "len") ?_ ?_ ?_ ?_
  exact call_lenD
  exact bt_len
  exact T.n_len
  refine r_acons ?_ ?_
  refine r_ix ?_ ?_
  exact r_var 0
  exact r_int
  exact r_anil
  exact r_anil
theorem sc_need_lot : FnScope ["stock", "lot"] ["stock", "lot"] (defScope s_need_lot) := ⟨rfl, rfl, rfl, by decide +kernel, rfl, by decide +kernel, by decide +kernel⟩
theorem ok_need_lot (T : Tx K mg t) : FnOk P w K mg base CX0 4 t.a_need_lot t.d_need_lot ["stock", "lot"] (spOf K 2 F_need_lot) := by
  have G_is_lot := ok_is_lot (P := P) (w := w) (base := base) T
  refine fn_ok (k := 3) (G := G_need_lot) (N := ["stock", "lot"]) (ps := ["stock", "lot"]) (st := s_need_lot) T.F_need_lot sc_need_lot fun cdv A outer s H E hr => ?_
  refine r_sone ?_
  refine r_if ?_ ?_ ?_
  refine r_tnot ?_
  refine r_tval ?_
  refine r_call (k := 3) (g := t.a_is_lot) (fd := t.d_is_lot) (ps := ["stock", "thing"]) ?_ ?_ ?_ ?_ ?_ ?_
  exact G_is_lot
  exact (hr.mono (by decide))
  exact T.m_is_lot
  exact T.F_is_lot.kp
  exact T.b_is_lot
  refine r_acons ?_ ?_
  exact r_var 0
  refine r_acons ?_ ?_
  exact r_var 1
  exact r_anil
  refine r_sone ?_
  exact r_bad
  exact r_snil
theorem nd_b3 : (["number", "stock"] : List Str).Nodup := by decide +kernel
theorem sc_offers_of : FnScope ["stock", "lot"] ["stock", "lot"] (defScope s_offers_of) := ⟨rfl, rfl, rfl, by decide +kernel, rfl, by decide +kernel, by decide +kernel⟩
theorem ok_offers_of (T : Tx K mg t) : FnOk P w K mg base CX0 5 t.a_offers_of t.d_offers_of ["stock", "lot"] (spOf K 2 F_offers_of) := by
  have G_need_lot := ok_need_lot (P := P) (w := w) (base := base) T
  refine fn_ok (k := 4) (G := G_offers_of) (N := ["stock", "lot"]) (ps := ["stock", "lot"]) (st := s_offers_of) T.F_offers_of sc_offers_of fun cdv A outer s H E hr => ?_
  refine r_scons ?_ ?_
  refine r_expr ?_
  refine r_call (k := 4) (g := t.a_need_lot) (fd := t.d_need_lot) (ps := ["stock", "lot"]) ?_ ?_ ?_ ?_ ?_ ?_
  exact G_need_lot
  exact (hr.mono (by decide))
  exact T.m_need_lot
  exact T.F_need_lot.kp
  exact T.b_need_lot
  refine r_acons ?_ ?_
  exact r_var 0
  refine r_acons ?_ ?_
  exact r_var 1
  exact r_anil
  refine r_sone ?_
  refine r_ret ?_
  refine r_comp (N := ["number", "stock"]) ?_ ?_ ?_ ?_ ?_ ?_ ?_
  exact rfl
  exact (BOk.of (Xn := (defScope s_offers_of).names) (XN := ["stock", "lot"]) rfl rfl rfl (by decide +kernel))
  exact (GKeeps.name (i := 0) rfl)
  refine r_seq ?_
  exact r_var 1
  intro _ _ _
  exact r_gname 0 nd_b3
  intro _ _ _
  exact r_cnil
  intro _ _ _
  refine r_ix ?_ ?_
  refine r_ix ?_ ?_
  exact r_var 1
  exact r_int
  exact r_var 0
theorem nd_b1 : (["offer"] : List Str).Nodup := by decide +kernel
theorem sc_price_of : FnScope ["stock", "lot"] ["stock", "lot"] (defScope s_price_of) := ⟨rfl, rfl, rfl, by decide +kernel, rfl, by decide +kernel, by decide +kernel⟩
theorem ok_price_of (T : Tx K mg t) : FnOk P w K mg base CX0 6 t.a_price_of t.d_price_of ["stock", "lot"] (spOf K 2 F_price_of) := by
  have G_offers_of := ok_offers_of (P := P) (w := w) (base := base) T
  refine fn_ok (k := 5) (G := G_price_of) (N := ["stock", "lot"]) (ps := ["stock", "lot"]) (st := s_price_of) T.F_price_of sc_price_of fun cdv A outer s H E hr => ?_
  refine r_sone ?_
  refine r_ret ?_
  refine r_callB (id := "sum") ?_ ?_ ?_ ?_
  exact (call_sumD rfl)
  exact bt_sum
  exact T.n_sum
  refine r_acons ?_ ?_
  refine r_comp (N := ["offer"]) ?_ ?_ ?_ ?_ ?_ ?_ ?_
  exact rfl
  exact (BOk.of (Xn := (defScope s_price_of).names) (XN := ["stock", "lot"]) rfl rfl rfl (by decide +kernel))
  exact (GKeeps.name (i := 0) rfl)
  refine r_seq ?_
  refine r_call (k := 5) (g := t.a_offers_of) (fd := t.d_offers_of) (ps := ["stock", "lot"]) ?_ ?_ ?_ ?_ ?_ ?_
  exact G_offers_of
  exact (hr.mono (by decide))
  exact T.m_offers_of
  exact T.F_offers_of.kp
  exact T.b_offers_of
  refine r_acons ?_ ?_
  exact r_var 0
  refine r_acons ?_ ?_
  exact r_var 1
  exact r_anil
  intro _ _ _
  exact r_gname 0 nd_b1
  intro _ _ _
  exact r_cnil
  intro _ _ _
  refine r_ix ?_ ?_
  exact r_var 0
  exact r_int
  exact r_anil
theorem nd_b6 : (["cover", "offer"] : List Str).Nodup := by decide +kernel
theorem sc_cheapest_with : FnScope ["stock", "offer"] ["stock", "offer"] (defScope s_cheapest_with) := ⟨rfl, rfl, rfl, by decide +kernel, rfl, by decide +kernel, by decide +kernel⟩
theorem ok_cheapest_with (T : Tx K mg t) : FnOk P w K mg base CX0 5 t.a_cheapest_with t.d_cheapest_with ["stock", "offer"] (spOf K 2 F_cheapest_with) := by
  have G_need_offer := ok_need_offer (P := P) (w := w) (base := base) T
  have G_need_full := ok_need_full (P := P) (w := w) (base := base) T
  have G_priced_covers := ok_priced_covers (P := P) (w := w) (base := base) T
  refine fn_ok (k := 4) (G := G_cheapest_with) (N := ["stock", "offer"]) (ps := ["stock", "offer"]) (st := s_cheapest_with) T.F_cheapest_with sc_cheapest_with fun cdv A outer s H E hr => ?_
  refine r_scons ?_ ?_
  refine r_expr ?_
  refine r_call (k := 2) (g := t.a_need_offer) (fd := t.d_need_offer) (ps := ["stock", "offer"]) ?_ ?_ ?_ ?_ ?_ ?_
  exact G_need_offer
  exact (hr.mono (by decide))
  exact T.m_need_offer
  exact T.F_need_offer.kp
  exact T.b_need_offer
  refine r_acons ?_ ?_
  exact r_var 0
  refine r_acons ?_ ?_
  exact r_var 1
  exact r_anil
  refine r_scons ?_ ?_
  refine r_expr ?_
  refine r_call (k := 4) (g := t.a_need_full) (fd := t.d_need_full) (ps := ["stock"]) ?_ ?_ ?_ ?_ ?_ ?_
  exact G_need_full
  exact (hr.mono (by decide))
  exact T.m_need_full
  exact T.F_need_full.kp
  exact T.b_need_full
  refine r_acons ?_ ?_
  exact r_var 0
  exact r_anil
  refine r_sone ?_
  refine r_ret ?_
  refine r_ix ?_ ?_
  refine r_callB (id := "min") ?_ ?_ ?_ ?_
  exact (call_min1D (hu60 hr))
  exact bt_min
  exact T.n_min
  refine r_acons ?_ ?_
  refine r_comp (N := ["cover", "offer"]) ?_ ?_ ?_ ?_ ?_ ?_ ?_
  exact rfl
  exact (BOk.of (Xn := (defScope s_cheapest_with).names) (XN := ["stock", "offer"]) rfl rfl rfl (by decide +kernel))
  exact (GKeeps.name (i := 0) rfl)
  refine r_seq ?_
  refine r_call (k := 3) (g := t.a_priced_covers) (fd := t.d_priced_covers) (ps := ["stock"]) ?_ ?_ ?_ ?_ ?_ ?_
  exact G_priced_covers
  exact (hr.mono (by decide))
  exact T.m_priced_covers
  exact T.F_priced_covers.kp
  exact T.b_priced_covers
  refine r_acons ?_ ?_
  exact r_var 0
  exact r_anil
  intro _ _ _
  exact r_gname 0 nd_b6
  intro _ _ _
  refine r_cone ?_
  refine r_tcmp ?_ ?_ ?_
  exact (op_inD (hu60 hr))
  exact r_var 1
  refine r_ix ?_ ?_
  exact r_var 0
  exact r_int
  intro _ _ _
  exact r_var 0
  exact r_anil
  exact r_int
theorem nd_reach_of : (["stock", "offer", "without", "beside"] : List Str).Nodup := by decide +kernel
theorem sc_reach_of : FnScope ["stock", "offer", "without", "beside"] ["stock", "offer"] (defScope s_reach_of) := ⟨rfl, rfl, rfl, by decide +kernel, rfl, by decide +kernel, by decide +kernel⟩
theorem ok_reach_of (T : Tx K mg t) : FnOk P w K mg base CX0 7 t.a_reach_of t.d_reach_of ["stock", "offer"] (spOf K 2 F_reach_of) := by
  have G_cheapest_without := ok_cheapest_without (P := P) (w := w) (base := base) T
  have G_price_of := ok_price_of (P := P) (w := w) (base := base) T
  have G_cheapest_with := ok_cheapest_with (P := P) (w := w) (base := base) T
  refine fn_ok (k := 6) (G := G_reach_of) (N := ["stock", "offer", "without", "beside"]) (ps := ["stock", "offer"]) (st := s_reach_of) T.F_reach_of sc_reach_of fun cdv A outer s H E hr => ?_
  refine r_scons ?_ ?_
  refine r_set 2 ?_ ?_
  exact nd_reach_of
  refine r_call (k := 5) (g := t.a_cheapest_without) (fd := t.d_cheapest_without) (ps := ["stock", "offer"]) ?_ ?_ ?_ ?_ ?_ ?_
  exact G_cheapest_without
  exact (hr.mono (by decide))
  exact T.m_cheapest_without
  exact T.F_cheapest_without.kp
  exact T.b_cheapest_without
  refine r_acons ?_ ?_
  exact r_var 0
  refine r_acons ?_ ?_
  exact r_var 1
  exact r_anil
  refine r_scons ?_ ?_
  refine r_if ?_ ?_ ?_
  refine r_tcmp ?_ ?_ ?_
  exact op_isN
  exact r_var 2
  exact r_non
  refine r_sone ?_
  refine r_ret ?_
  exact r_non
  exact r_snil
  refine r_scons ?_ ?_
  refine r_set 3 ?_ ?_
  exact nd_reach_of
  refine r_op ?_ ?_ ?_
  exact op_subD
  refine r_call (k := 6) (g := t.a_price_of) (fd := t.d_price_of) (ps := ["stock", "lot"]) ?_ ?_ ?_ ?_ ?_ ?_
  exact G_price_of
  exact (hr.mono (by decide))
  exact T.m_price_of
  exact T.F_price_of.kp
  exact T.b_price_of
  refine r_acons ?_ ?_
  exact r_var 0
  refine r_acons ?_ ?_
  refine r_call (k := 5) (g := t.a_cheapest_with) (fd := t.d_cheapest_with) (ps := ["stock", "offer"]) ?_ ?_ ?_ ?_ ?_ ?_
  exact G_cheapest_with
  exact (hr.mono (by decide))
  exact T.m_cheapest_with
  exact T.F_cheapest_with.kp
  exact T.b_cheapest_with
  refine r_acons ?_ ?_
  exact r_var 0
  refine r_acons ?_ ?_
  exact r_var 1
  exact r_anil
  exact r_anil
  refine r_ix ?_ ?_
  refine r_ix ?_ ?_
  refine r_ix ?_ ?_
  exact r_var 0
  exact r_int
  exact r_var 1
  exact r_int
  refine r_sone ?_
  refine r_ret ?_
  refine r_op ?_ ?_ ?_
  exact op_subD
  refine r_call (k := 6) (g := t.a_price_of) (fd := t.d_price_of) (ps := ["stock", "lot"]) ?_ ?_ ?_ ?_ ?_ ?_
  exact G_price_of
  exact (hr.mono (by decide))
  exact T.m_price_of
  exact T.F_price_of.kp
  exact T.b_price_of
  refine r_acons ?_ ?_
  exact r_var 0
  refine r_acons ?_ ?_
  exact r_var 2
  exact r_anil
  exact r_var 3
theorem sc_exchanged : FnScope ["stock", "number", "offers"] ["stock", "number", "offers"] (defScope s_exchanged) := ⟨rfl, rfl, rfl, by decide +kernel, rfl, by decide +kernel, by decide +kernel⟩
theorem ok_exchanged (T : Tx K mg t) : FnOk P w K mg base CX0 1 t.a_exchanged t.d_exchanged ["stock", "number", "offers"] (spOf K 3 F_exchanged) := by
  refine fn_ok (k := 0) (G := G_exchanged) (N := ["stock", "number", "offers"]) (ps := ["stock", "number", "offers"]) (st := s_exchanged) T.F_exchanged sc_exchanged fun cdv A outer s H E hr => ?_
  refine r_sone ?_
  refine r_ret ?_
  refine r_tup ?_
  refine r_acons ?_ ?_
  refine r_ix ?_ ?_
  exact r_var 0
  exact r_int
  refine r_acons ?_ ?_
  refine r_op ?_ ?_ ?_
  exact op_addD
  refine r_op ?_ ?_ ?_
  exact op_addD
  refine se_slice ?_ ?_ ?_
  refine r_ix ?_ ?_
  exact r_var 0
  exact r_int
  exact so_none
  refine so_some ?_
  exact r_var 1
  exact r_var 2
  refine se_slice ?_ ?_ ?_
  refine r_ix ?_ ?_
  exact r_var 0
  exact r_int
  refine so_some ?_
  refine r_op ?_ ?_ ?_
  exact op_addD
  exact r_var 1
  exact r_int
  exact so_none
  exact r_anil
theorem sc_is_needed : FnScope ["stock", "number"] ["stock", "number"] (defScope s_is_needed) := ⟨rfl, rfl, rfl, by decide +kernel, rfl, by decide +kernel, by decide +kernel⟩
theorem ok_is_needed (T : Tx K mg t) : FnOk P w K mg base CX0 4 t.a_is_needed t.d_is_needed ["stock", "number"] (spOf K 2 F_is_needed) := by
  have G_is_full := ok_is_full (P := P) (w := w) (base := base) T
  have G_exchanged := ok_exchanged (P := P) (w := w) (base := base) T
  refine fn_ok (k := 3) (G := G_is_needed) (N := ["stock", "number"]) (ps := ["stock", "number"]) (st := s_is_needed) T.F_is_needed sc_is_needed fun cdv A outer s H E hr => ?_
  refine r_sone ?_
  refine r_ret ?_
  refine r_not ?_
  refine r_call (k := 3) (g := t.a_is_full) (fd := t.d_is_full) (ps := ["stock"]) ?_ ?_ ?_ ?_ ?_ ?_
  exact G_is_full
  exact (hr.mono (by decide))
  exact T.m_is_full
  exact T.F_is_full.kp
  exact T.b_is_full
  refine r_acons ?_ ?_
  refine r_call (k := 1) (g := t.a_exchanged) (fd := t.d_exchanged) (ps := ["stock", "number", "offers"]) ?_ ?_ ?_ ?_ ?_ ?_
  exact G_exchanged
  exact (hr.mono (by decide))
  exact T.m_exchanged
  exact T.F_exchanged.kp
  exact T.b_exchanged
  refine r_acons ?_ ?_
  exact r_var 0
  refine r_acons ?_ ?_
  exact r_var 1
  refine r_acons ?_ ?_
  refine r_tup ?_
  exact r_anil
  exact r_anil
  exact r_anil
theorem nd_b2 : (["number", "stock"] : List Str).Nodup := by decide +kernel
theorem sc_needed : FnScope ["stock"] ["stock"] (defScope s_needed) := ⟨rfl, rfl, rfl, by decide +kernel, rfl, by decide +kernel, by decide +kernel⟩
theorem ok_needed (T : Tx K mg t) : FnOk P w K mg base CX0 5 t.a_needed t.d_needed ["stock"] (spOf K 1 F_needed) := by
  have G_need_full := ok_need_full (P := P) (w := w) (base := base) T
  have G_is_needed := ok_is_needed (P := P) (w := w) (base := base) T
  refine fn_ok (k := 4) (G := G_needed) (N := ["stock"]) (ps := ["stock"]) (st := s_needed) T.F_needed sc_needed fun cdv A outer s H E hr => ?_
  refine r_scons ?_ ?_
  refine r_expr ?_
  refine r_call (k := 4) (g := t.a_need_full) (fd := t.d_need_full) (ps := ["stock"]) ?_ ?_ ?_ ?_ ?_ ?_
  exact G_need_full
  exact (hr.mono (by decide))
  exact T.m_need_full
  exact T.F_need_full.kp
  exact T.b_need_full
  refine r_acons ?_ ?_
  exact r_var 0
  exact r_anil
  refine r_sone ?_
  refine r_ret ?_
  refine r_comp (N := ["number", "stock"]) ?_ ?_ ?_ ?_ ?_ ?_ ?_
  exact rfl
  exact (BOk.of (Xn := (defScope s_needed).names) (XN := ["stock"]) rfl rfl rfl (by decide +kernel))
  exact (GKeeps.name (i := 0) rfl)
  refine r_rng ?_ ?_
  exact T.n_range
  refine r_acons ?_ ?_
  refine r_callB (id := "len") ?_ ?_ ?_ ?_
  exact call_lenD
  exact bt_len
  exact T.n_len
  refine r_acons ?_ ?_
  refine r_ix ?_ ?_
  exact r_var 0
  exact r_int
  exact r_anil
  exact r_anil
  intro _ _ _
  exact r_gname 0 nd_b2
  intro _ _ _
  refine r_cone ?_
  refine r_tval ?_
  refine r_call (k := 4) (g := t.a_is_needed) (fd := t.d_is_needed) (ps := ["stock", "number"]) ?_ ?_ ?_ ?_ ?_ ?_
  exact G_is_needed
  exact (hr.mono (by decide))
  exact T.m_is_needed
  exact T.F_is_needed.kp
  exact T.b_is_needed
  refine r_acons ?_ ?_
  exact r_var 1
  refine r_acons ?_ ?_
  exact r_var 0
  exact r_anil
  intro _ _ _
  exact r_var 0
theorem sc_priced : FnScope ["stock", "offer", "price"] ["stock", "offer", "price"] (defScope s_priced) := ⟨rfl, rfl, rfl, by decide +kernel, rfl, by decide +kernel, by decide +kernel⟩
theorem ok_priced (T : Tx K mg t) : FnOk P w K mg base CX0 3 t.a_priced t.d_priced ["stock", "offer", "price"] (spOf K 3 F_priced) := by
  have G_need_offer := ok_need_offer (P := P) (w := w) (base := base) T
  have G_is_whole := ok_is_whole (P := P) (w := w) (base := base) T
  have G_exchanged := ok_exchanged (P := P) (w := w) (base := base) T
  refine fn_ok (k := 2) (G := G_priced) (N := ["stock", "offer", "price"]) (ps := ["stock", "offer", "price"]) (st := s_priced) T.F_priced sc_priced fun cdv A outer s H E hr => ?_
  refine r_scons ?_ ?_
  refine r_expr ?_
  refine r_call (k := 2) (g := t.a_need_offer) (fd := t.d_need_offer) (ps := ["stock", "offer"]) ?_ ?_ ?_ ?_ ?_ ?_
  exact G_need_offer
  exact (hr.mono (by decide))
  exact T.m_need_offer
  exact T.F_need_offer.kp
  exact T.b_need_offer
  refine r_acons ?_ ?_
  exact r_var 0
  refine r_acons ?_ ?_
  exact r_var 1
  exact r_anil
  refine r_scons ?_ ?_
  refine r_if ?_ ?_ ?_
  refine r_tbool ?_
  refine r_wor ?_ ?_
  refine r_tnot ?_
  refine r_tval ?_
  refine r_call (k := 1) (g := t.a_is_whole) (fd := t.d_is_whole) (ps := ["thing"]) ?_ ?_ ?_ ?_ ?_ ?_
  exact G_is_whole
  exact (hr.mono (by decide))
  exact T.m_is_whole
  exact T.F_is_whole.kp
  exact T.b_is_whole
  refine r_acons ?_ ?_
  exact r_var 2
  exact r_anil
  refine r_wor1 ?_
  refine r_tcmp ?_ ?_ ?_
  exact op_ltD
  exact r_var 2
  exact r_int
  refine r_sone ?_
  exact r_bad
  exact r_snil
  refine r_sone ?_
  refine r_ret ?_
  refine r_call (k := 1) (g := t.a_exchanged) (fd := t.d_exchanged) (ps := ["stock", "number", "offers"]) ?_ ?_ ?_ ?_ ?_ ?_
  exact G_exchanged
  exact (hr.mono (by decide))
  exact T.m_exchanged
  exact T.F_exchanged.kp
  exact T.b_exchanged
  refine r_acons ?_ ?_
  exact r_var 0
  refine r_acons ?_ ?_
  exact r_var 1
  refine r_acons ?_ ?_
  refine r_tup ?_
  refine r_acons ?_ ?_
  refine r_tup ?_
  refine r_acons ?_ ?_
  refine r_ix ?_ ?_
  refine r_ix ?_ ?_
  refine r_ix ?_ ?_
  exact r_var 0
  exact r_int
  exact r_var 1
  exact r_int
  refine r_acons ?_ ?_
  exact r_var 2
  exact r_anil
  exact r_anil
  exact r_anil
theorem nd_cheapest_covers : (["stock", "covers", "least"] : List Str).Nodup := by decide +kernel
theorem nd_b12 : (["cover", "least"] : List Str).Nodup := by decide +kernel
theorem sc_cheapest_covers : FnScope ["stock", "covers", "least"] ["stock"] (defScope s_cheapest_covers) := ⟨rfl, rfl, rfl, by decide +kernel, rfl, by decide +kernel, by decide +kernel⟩
theorem ok_cheapest_covers (T : Tx K mg t) : FnOk P w K mg base CX0 5 t.a_cheapest_covers t.d_cheapest_covers ["stock"] (spOf K 1 F_cheapest_covers) := by
  have G_need_full := ok_need_full (P := P) (w := w) (base := base) T
  have G_priced_covers := ok_priced_covers (P := P) (w := w) (base := base) T
  refine fn_ok (k := 4) (G := G_cheapest_covers) (N := ["stock", "covers", "least"]) (ps := ["stock"]) (st := s_cheapest_covers) T.F_cheapest_covers sc_cheapest_covers fun cdv A outer s H E hr => ?_
  refine r_scons ?_ ?_
  refine r_expr ?_
  refine r_call (k := 4) (g := t.a_need_full) (fd := t.d_need_full) (ps := ["stock"]) ?_ ?_ ?_ ?_ ?_ ?_
  exact G_need_full
  exact (hr.mono (by decide))
  exact T.m_need_full
  exact T.F_need_full.kp
  exact T.b_need_full
  refine r_acons ?_ ?_
  exact r_var 0
  exact r_anil
  refine r_scons ?_ ?_
  refine r_set 1 ?_ ?_
  exact nd_cheapest_covers
  refine r_call (k := 3) (g := t.a_priced_covers) (fd := t.d_priced_covers) (ps := ["stock"]) ?_ ?_ ?_ ?_ ?_ ?_
  exact G_priced_covers
  exact (hr.mono (by decide))
  exact T.m_priced_covers
  exact T.F_priced_covers.kp
  exact T.b_priced_covers
  refine r_acons ?_ ?_
  exact r_var 0
  exact r_anil
  refine r_scons ?_ ?_
  refine r_set 2 ?_ ?_
  exact nd_cheapest_covers
  refine r_ix ?_ ?_
  refine r_callB (id := "min") ?_ ?_ ?_ ?_
  exact (call_min1D (hu60 hr))
  exact bt_min
  exact T.n_min
  refine r_acons ?_ ?_
  exact r_var 1
  exact r_anil
  exact r_int
  refine r_sone ?_
  refine r_ret ?_
  refine r_comp (N := ["cover", "least"]) ?_ ?_ ?_ ?_ ?_ ?_ ?_
  exact rfl
  exact (BOk.of (Xn := (defScope s_cheapest_covers).names) (XN := ["stock", "covers", "least"]) rfl rfl rfl (by decide +kernel))
  exact (GKeeps.name (i := 0) rfl)
  refine r_seq ?_
  exact r_var 1
  intro _ _ _
  exact r_gname 0 nd_b12
  intro _ _ _
  refine r_cone ?_
  refine r_tcmp ?_ ?_ ?_
  exact (op_eqD (hu60 hr))
  refine r_ix ?_ ?_
  exact r_var 0
  exact r_int
  exact r_var 1
  intro _ _ _
  refine r_ix ?_ ?_
  exact r_var 0
  exact r_int
theorem nd_in_some : (["stock", "covers"] : List Str).Nodup := by decide +kernel
theorem nd_b8 : (["number", "covers"] : List Str).Nodup := by decide +kernel
theorem nd_b9 : (["cover", "number"] : List Str).Nodup := by decide +kernel
theorem sc_in_some : FnScope ["stock", "covers"] ["stock"] (defScope s_in_some) := ⟨rfl, rfl, rfl, by decide +kernel, rfl, by decide +kernel, by decide +kernel⟩
theorem ok_in_some (T : Tx K mg t) : FnOk P w K mg base CX0 6 t.a_in_some t.d_in_some ["stock"] (spOf K 1 F_in_some) := by
  have G_cheapest_covers := ok_cheapest_covers (P := P) (w := w) (base := base) T
  refine fn_ok (k := 5) (G := G_in_some) (N := ["stock", "covers"]) (ps := ["stock"]) (st := s_in_some) T.F_in_some sc_in_some fun cdv A outer s H E hr => ?_
  refine r_scons ?_ ?_
  refine r_set 1 ?_ ?_
  exact nd_in_some
  refine r_call (k := 5) (g := t.a_cheapest_covers) (fd := t.d_cheapest_covers) (ps := ["stock"]) ?_ ?_ ?_ ?_ ?_ ?_
  exact G_cheapest_covers
  exact (hr.mono (by decide))
  exact T.m_cheapest_covers
  exact T.F_cheapest_covers.kp
  exact T.b_cheapest_covers
  refine r_acons ?_ ?_
  exact r_var 0
  exact r_anil
  refine r_sone ?_
  refine r_ret ?_
  refine r_comp (N := ["number", "covers"]) ?_ ?_ ?_ ?_ ?_ ?_ ?_
  exact rfl
  exact (BOk.of (Xn := (defScope s_in_some).names) (XN := ["stock", "covers"]) rfl rfl rfl (by decide +kernel))
  exact (GKeeps.name (i := 0) rfl)
  refine r_rng ?_ ?_
  exact T.n_range
  refine r_acons ?_ ?_
  refine r_callB (id := "len") ?_ ?_ ?_ ?_
  exact call_lenD
  exact bt_len
  exact T.n_len
  refine r_acons ?_ ?_
  refine r_ix ?_ ?_
  exact r_var 0
  exact r_int
  exact r_anil
  exact r_anil
  intro _ _ _
  exact r_gname 0 nd_b8
  intro _ _ _
  refine r_cone ?_
  refine r_tval ?_
  refine r_callB (id := "any") ?_ ?_ ?_ ?_
  exact (call_anyD rfl)
  exact bt_any
  exact T.n_any
  refine r_acons ?_ ?_
  refine r_comp (N := ["cover", "number"]) ?_ ?_ ?_ ?_ ?_ ?_ ?_
  exact rfl
  exact (BOk.of (N := ["cover", "number"]) (src := [none, some 0]) rfl rfl rfl (by rfl))
  exact (GKeeps.name (i := 0) rfl)
  refine r_seq ?_
  exact r_var 1
  intro _ _ _
  exact r_gname 0 nd_b9
  intro _ _ _
  exact r_cnil
  intro _ _ _
  refine r_cmp ?_ ?_ ?_
  exact (op_inD (hu60 hr))
  exact r_var 1
  exact r_var 0
  exact r_anil
  intro _ _ _
  exact r_var 0
theorem nd_in_all : (["stock", "covers"] : List Str).Nodup := by decide +kernel
theorem nd_b10 : (["number", "covers"] : List Str).Nodup := by decide +kernel
theorem nd_b11 : (["cover", "number"] : List Str).Nodup := by decide +kernel
theorem sc_in_all : FnScope ["stock", "covers"] ["stock"] (defScope s_in_all) := ⟨rfl, rfl, rfl, by decide +kernel, rfl, by decide +kernel, by decide +kernel⟩
theorem ok_in_all (T : Tx K mg t) : FnOk P w K mg base CX0 6 t.a_in_all t.d_in_all ["stock"] (spOf K 1 F_in_all) := by
  have G_cheapest_covers := ok_cheapest_covers (P := P) (w := w) (base := base) T
  refine fn_ok (k := 5) (G := G_in_all) (N := ["stock", "covers"]) (ps := ["stock"]) (st := s_in_all) T.F_in_all sc_in_all fun cdv A outer s H E hr => ?_
  refine r_scons ?_ ?_
  refine r_set 1 ?_ ?_
  exact nd_in_all
  refine r_call (k := 5) (g := t.a_cheapest_covers) (fd := t.d_cheapest_covers) (ps := ["stock"]) ?_ ?_ ?_ ?_ ?_ ?_
  exact G_cheapest_covers
  exact (hr.mono (by decide))
  exact T.m_cheapest_covers
  exact T.F_cheapest_covers.kp
  exact T.b_cheapest_covers
  refine r_acons ?_ ?_
  exact r_var 0
  exact r_anil
  refine r_sone ?_
  refine r_ret ?_
  refine r_comp (N := ["number", "covers"]) ?_ ?_ ?_ ?_ ?_ ?_ ?_
  exact rfl
  exact (BOk.of (Xn := (defScope s_in_all).names) (XN := ["stock", "covers"]) rfl rfl rfl (by decide +kernel))
  exact (GKeeps.name (i := 0) rfl)
  refine r_rng ?_ ?_
  exact T.n_range
  refine r_acons ?_ ?_
  refine r_callB (id := "len") ?_ ?_ ?_ ?_
  exact call_lenD
  exact bt_len
  exact T.n_len
  refine r_acons ?_ ?_
  refine r_ix ?_ ?_
  exact r_var 0
  exact r_int
  exact r_anil
  exact r_anil
  intro _ _ _
  exact r_gname 0 nd_b10
  intro _ _ _
  refine r_cone ?_
  refine r_tval ?_
  refine r_callB (id := "all") ?_ ?_ ?_ ?_
  exact (call_allD rfl)
  exact bt_all
  exact T.n_all
  refine r_acons ?_ ?_
  refine r_comp (N := ["cover", "number"]) ?_ ?_ ?_ ?_ ?_ ?_ ?_
  exact rfl
  exact (BOk.of (N := ["cover", "number"]) (src := [none, some 0]) rfl rfl rfl (by rfl))
  exact (GKeeps.name (i := 0) rfl)
  refine r_seq ?_
  exact r_var 1
  intro _ _ _
  exact r_gname 0 nd_b11
  intro _ _ _
  exact r_cnil
  intro _ _ _
  refine r_cmp ?_ ?_ ?_
  exact (op_inD (hu60 hr))
  exact r_var 1
  exact r_var 0
  exact r_anil
  intro _ _ _
  exact r_var 0
theorem sc_cheapest_cover : FnScope ["stock"] ["stock"] (defScope s_cheapest_cover) := ⟨rfl, rfl, rfl, by decide +kernel, rfl, by decide +kernel, by decide +kernel⟩
theorem ok_cheapest_cover (T : Tx K mg t) : FnOk P w K mg base CX0 5 t.a_cheapest_cover t.d_cheapest_cover ["stock"] (spOf K 1 F_cheapest_cover) := by
  have G_need_full := ok_need_full (P := P) (w := w) (base := base) T
  have G_priced_covers := ok_priced_covers (P := P) (w := w) (base := base) T
  refine fn_ok (k := 4) (G := G_cheapest_cover) (N := ["stock"]) (ps := ["stock"]) (st := s_cheapest_cover) T.F_cheapest_cover sc_cheapest_cover fun cdv A outer s H E hr => ?_
  refine r_scons ?_ ?_
  refine r_expr ?_
  refine r_call (k := 4) (g := t.a_need_full) (fd := t.d_need_full) (ps := ["stock"]) ?_ ?_ ?_ ?_ ?_ ?_
  exact G_need_full
  exact (hr.mono (by decide))
  exact T.m_need_full
  exact T.F_need_full.kp
  exact T.b_need_full
  refine r_acons ?_ ?_
  exact r_var 0
  exact r_anil
  refine r_sone ?_
  refine r_ret ?_
  refine r_ix ?_ ?_
  refine r_callB (id := "min") ?_ ?_ ?_ ?_
  exact (call_min1D (hu60 hr))
  exact bt_min
  exact T.n_min
  refine r_acons ?_ ?_
  refine r_call (k := 3) (g := t.a_priced_covers) (fd := t.d_priced_covers) (ps := ["stock"]) ?_ ?_ ?_ ?_ ?_ ?_
  exact G_priced_covers
  exact (hr.mono (by decide))
  exact T.m_priced_covers
  exact T.F_priced_covers.kp
  exact T.b_priced_covers
  refine r_acons ?_ ?_
  exact r_var 0
  exact r_anil
  exact r_anil
  exact r_int
theorem nd__law_right : (["stock", "offer", "price", "reach", "other", "some", "least"] : List Str).Nodup := by decide +kernel
theorem sc__law_right : FnScope ["stock", "offer", "price", "reach", "other", "some", "least"] ["stock", "offer", "price", "reach"] (defScope s__law_right) := ⟨rfl, rfl, rfl, by decide +kernel, rfl, by decide +kernel, by decide +kernel⟩
theorem ok__law_right (T : Tx K mg t) : FnOk P w K mg base CX0 8 t.a__law_right t.d__law_right ["stock", "offer", "price", "reach"] (spOf K 4 F__law_right) := by
  have G_priced := ok_priced (P := P) (w := w) (base := base) T
  have G_in_some := ok_in_some (P := P) (w := w) (base := base) T
  have G_in_all := ok_in_all (P := P) (w := w) (base := base) T
  have G_reach_of := ok_reach_of (P := P) (w := w) (base := base) T
  have G_price_of := ok_price_of (P := P) (w := w) (base := base) T
  have G_cheapest_with := ok_cheapest_with (P := P) (w := w) (base := base) T
  have G_cheapest_without := ok_cheapest_without (P := P) (w := w) (base := base) T
  have G_cheapest_cover := ok_cheapest_cover (P := P) (w := w) (base := base) T
  refine fn_ok (k := 7) (G := G__law_right) (N := ["stock", "offer", "price", "reach", "other", "some", "least"]) (ps := ["stock", "offer", "price", "reach"]) (st := s__law_right) T.F__law_right sc__law_right fun cdv A outer s H E hr => ?_
  refine r_scons ?_ ?_
  refine r_set 4 ?_ ?_
  exact nd__law_right
  refine r_call (k := 3) (g := t.a_priced) (fd := t.d_priced) (ps := ["stock", "offer", "price"]) ?_ ?_ ?_ ?_ ?_ ?_
  exact G_priced
  exact (hr.mono (by decide))
  exact T.m_priced
  exact T.F_priced.kp
  exact T.b_priced
  refine r_acons ?_ ?_
  exact r_var 0
  refine r_acons ?_ ?_
  exact r_var 1
  refine r_acons ?_ ?_
  exact r_var 2
  exact r_anil
  refine r_scons ?_ ?_
  refine r_set 5 ?_ ?_
  exact nd__law_right
  refine r_cmp ?_ ?_ ?_
  exact (op_inD (hu60 hr))
  exact r_var 1
  refine r_call (k := 6) (g := t.a_in_some) (fd := t.d_in_some) (ps := ["stock"]) ?_ ?_ ?_ ?_ ?_ ?_
  exact G_in_some
  exact (hr.mono (by decide))
  exact T.m_in_some
  exact T.F_in_some.kp
  exact T.b_in_some
  refine r_acons ?_ ?_
  exact r_var 4
  exact r_anil
  refine r_scons ?_ ?_
  refine r_if ?_ ?_ ?_
  refine r_tbool ?_
  refine r_wor ?_ ?_
  refine r_tcmp ?_ ?_ ?_
  exact (op_neD (hu60 hr))
  refine r_call (k := 7) (g := t.a_reach_of) (fd := t.d_reach_of) (ps := ["stock", "offer"]) ?_ ?_ ?_ ?_ ?_ ?_
  exact G_reach_of
  exact (hr.mono (by decide))
  exact T.m_reach_of
  exact T.F_reach_of.kp
  exact T.b_reach_of
  refine r_acons ?_ ?_
  exact r_var 4
  refine r_acons ?_ ?_
  exact r_var 1
  exact r_anil
  exact r_var 3
  refine r_wor1 ?_
  refine r_tcmp ?_ ?_ ?_
  exact (op_neD (hu60 hr))
  refine r_cmp ?_ ?_ ?_
  exact (op_inD (hu60 hr))
  exact r_var 1
  refine r_call (k := 6) (g := t.a_in_all) (fd := t.d_in_all) (ps := ["stock"]) ?_ ?_ ?_ ?_ ?_ ?_
  exact G_in_all
  exact (hr.mono (by decide))
  exact T.m_in_all
  exact T.F_in_all.kp
  exact T.b_in_all
  refine r_acons ?_ ?_
  exact r_var 4
  exact r_anil
  refine r_or ?_ ?_
  refine r_cmp ?_ ?_ ?_
  exact op_isN
  exact r_var 3
  exact r_non
  refine r_one ?_
  refine r_cmp ?_ ?_ ?_
  exact op_ltD
  exact r_var 2
  exact r_var 3
  refine r_sone ?_
  refine r_ret ?_
  exact r_bl
  exact r_snil
  refine r_scons ?_ ?_
  refine r_if ?_ ?_ ?_
  refine r_tcmp ?_ ?_ ?_
  exact (op_neD (hu60 hr))
  exact r_var 5
  refine r_or ?_ ?_
  refine r_cmp ?_ ?_ ?_
  exact op_isN
  exact r_var 3
  exact r_non
  refine r_one ?_
  refine r_cmp ?_ ?_ ?_
  exact op_leD
  exact r_var 2
  exact r_var 3
  refine r_sone ?_
  refine r_ret ?_
  exact r_bl
  exact r_snil
  refine r_scons ?_ ?_
  refine r_set 6 ?_ ?_
  exact nd__law_right
  refine r_call (k := 6) (g := t.a_price_of) (fd := t.d_price_of) (ps := ["stock", "lot"]) ?_ ?_ ?_ ?_ ?_ ?_
  exact G_price_of
  exact (hr.mono (by decide))
  exact T.m_price_of
  exact T.F_price_of.kp
  exact T.b_price_of
  refine r_acons ?_ ?_
  exact r_var 4
  refine r_acons ?_ ?_
  refine r_call (k := 5) (g := t.a_cheapest_with) (fd := t.d_cheapest_with) (ps := ["stock", "offer"]) ?_ ?_ ?_ ?_ ?_ ?_
  exact G_cheapest_with
  exact (hr.mono (by decide))
  exact T.m_cheapest_with
  exact T.F_cheapest_with.kp
  exact T.b_cheapest_with
  refine r_acons ?_ ?_
  exact r_var 4
  refine r_acons ?_ ?_
  exact r_var 1
  exact r_anil
  exact r_anil
  refine r_scons ?_ ?_
  refine r_if ?_ ?_ ?_
  refine r_tcmp ?_ ?_ ?_
  exact op_isNN
  exact r_var 3
  exact r_non
  refine r_sone ?_
  refine r_set 6 ?_ ?_
  exact nd__law_right
  refine r_callB (id := "min") ?_ ?_ ?_ ?_
  exact (call_min2D rfl)
  exact bt_min
  exact T.n_min
  refine r_acons ?_ ?_
  exact r_var 6
  refine r_acons ?_ ?_
  refine r_call (k := 6) (g := t.a_price_of) (fd := t.d_price_of) (ps := ["stock", "lot"]) ?_ ?_ ?_ ?_ ?_ ?_
  exact G_price_of
  exact (hr.mono (by decide))
  exact T.m_price_of
  exact T.F_price_of.kp
  exact T.b_price_of
  refine r_acons ?_ ?_
  exact r_var 4
  refine r_acons ?_ ?_
  refine r_call (k := 5) (g := t.a_cheapest_without) (fd := t.d_cheapest_without) (ps := ["stock", "offer"]) ?_ ?_ ?_ ?_ ?_ ?_
  exact G_cheapest_without
  exact (hr.mono (by decide))
  exact T.m_cheapest_without
  exact T.F_cheapest_without.kp
  exact T.b_cheapest_without
  refine r_acons ?_ ?_
  exact r_var 4
  refine r_acons ?_ ?_
  exact r_var 1
  exact r_anil
  exact r_anil
  exact r_anil
  exact r_snil
  refine r_sone ?_
  refine r_ret ?_
  refine r_cmp ?_ ?_ ?_
  exact (op_eqD (hu60 hr))
  refine r_call (k := 6) (g := t.a_price_of) (fd := t.d_price_of) (ps := ["stock", "lot"]) ?_ ?_ ?_ ?_ ?_ ?_
  exact G_price_of
  exact (hr.mono (by decide))
  exact T.m_price_of
  exact T.F_price_of.kp
  exact T.b_price_of
  refine r_acons ?_ ?_
  exact r_var 4
  refine r_acons ?_ ?_
  refine r_call (k := 5) (g := t.a_cheapest_cover) (fd := t.d_cheapest_cover) (ps := ["stock"]) ?_ ?_ ?_ ?_ ?_ ?_
  exact G_cheapest_cover
  exact (hr.mono (by decide))
  exact T.m_cheapest_cover
  exact T.F_cheapest_cover.kp
  exact T.b_cheapest_cover
  refine r_acons ?_ ?_
  exact r_var 4
  exact r_anil
  exact r_anil
  exact r_var 6
theorem nd_law : (["script", "k", "box", "stock", "offer", "reach", "prices", "price"] : List Str).Nodup := by decide +kernel
theorem nd_b16 : (["one"] : List Str).Nodup := by decide +kernel
theorem sc_law : FnScope ["script", "k", "box", "stock", "offer", "reach", "prices", "price"] ["script"] (defScope s_law) := ⟨rfl, rfl, rfl, by decide +kernel, rfl, by decide +kernel, by decide +kernel⟩
theorem ok_law (T : Tx K mg t) : FnOk P w K mg base CX0 9 t.a_law t.d_law ["script"] (spOf K 1 F_law) := by
  have G__law_box := ok__law_box (P := P) (w := w) (base := base) T
  have G__law_full := ok__law_full (P := P) (w := w) (base := base) T
  have G__law_take := ok__law_take (P := P) (w := w) (base := base) T
  have G_reach_of := ok_reach_of (P := P) (w := w) (base := base) T
  have G_needed := ok_needed (P := P) (w := w) (base := base) T
  have G__law_right := ok__law_right (P := P) (w := w) (base := base) T
  refine fn_ok (k := 8) (G := G_law) (N := ["script", "k", "box", "stock", "offer", "reach", "prices", "price"]) (ps := ["script"]) (st := s_law) T.F_law sc_law fun cdv A outer s H E hr => ?_
  refine r_scons ?_ ?_
  refine r_for ?_ ?_ ?_ ?_ ?_
  exact rfl
  exact PassesOwn.never
  refine r_rng ?_ ?_
  exact T.n_range
  refine r_acons ?_ ?_
  refine r_callB (id := "max") ?_ ?_ ?_ ?_
  exact (call_max2D rfl)
  exact bt_max
  exact T.n_max
  refine r_acons ?_ ?_
  exact r_int
  refine r_acons ?_ ?_
  refine r_callB (id := "min") ?_ ?_ ?_ ?_
  exact (call_min2D rfl)
  exact bt_min
  exact T.n_min
  refine r_acons ?_ ?_
  refine r_callB (id := "len") ?_ ?_ ?_ ?_
  exact call_lenD
  exact bt_len
  exact T.n_len
  refine r_acons ?_ ?_
  exact r_var 0
  exact r_anil
  refine r_acons ?_ ?_
  exact r_int
  exact r_anil
  exact r_anil
  exact r_anil
  exact r_gname 1 nd_law
  refine r_scons ?_ ?_
  refine r_set 2 ?_ ?_
  exact nd_law
  refine r_call (k := 2) (g := t.a__law_box) (fd := t.d__law_box) (ps := ["script", "k"]) ?_ ?_ ?_ ?_ ?_ ?_
  exact G__law_box
  exact (hr.mono (by decide))
  exact T.m__law_box
  exact T.F__law_box.kp
  exact T.b__law_box
  refine r_acons ?_ ?_
  exact r_var 0
  refine r_acons ?_ ?_
  exact r_var 1
  exact r_anil
  refine r_scons ?_ ?_
  refine r_set 3 ?_ ?_
  exact nd_law
  refine r_call (k := 3) (g := t.a__law_full) (fd := t.d__law_full) (ps := ["box", "most_things", "most_offers"]) ?_ ?_ ?_ ?_ ?_ ?_
  exact G__law_full
  exact (hr.mono (by decide))
  exact T.m__law_full
  exact T.F__law_full.kp
  exact T.b__law_full
  refine r_acons ?_ ?_
  exact r_var 2
  refine r_acons ?_ ?_
  exact r_int
  refine r_acons ?_ ?_
  exact r_int
  exact r_anil
  refine r_scons ?_ ?_
  refine r_set 4 ?_ ?_
  exact nd_law
  refine r_call (k := 1) (g := t.a__law_take) (fd := t.d__law_take) (ps := ["box", "many"]) ?_ ?_ ?_ ?_ ?_ ?_
  exact G__law_take
  exact (hr.mono (by decide))
  exact T.m__law_take
  exact T.F__law_take.kp
  exact T.b__law_take
  refine r_acons ?_ ?_
  exact r_var 2
  refine r_acons ?_ ?_
  refine r_callB (id := "len") ?_ ?_ ?_ ?_
  exact call_lenD
  exact bt_len
  exact T.n_len
  refine r_acons ?_ ?_
  refine r_ix ?_ ?_
  exact r_var 3
  exact r_int
  exact r_anil
  exact r_anil
  refine r_scons ?_ ?_
  refine r_set 5 ?_ ?_
  exact nd_law
  refine r_call (k := 7) (g := t.a_reach_of) (fd := t.d_reach_of) (ps := ["stock", "offer"]) ?_ ?_ ?_ ?_ ?_ ?_
  exact G_reach_of
  exact (hr.mono (by decide))
  exact T.m_reach_of
  exact T.F_reach_of.kp
  exact T.b_reach_of
  refine r_acons ?_ ?_
  exact r_var 3
  refine r_acons ?_ ?_
  exact r_var 4
  exact r_anil
  refine r_scons ?_ ?_
  refine r_if ?_ ?_ ?_
  refine r_tcmp ?_ ?_ ?_
  exact (op_neD (hu60 hr))
  refine r_cmp ?_ ?_ ?_
  exact op_isN
  exact r_var 5
  exact r_non
  refine r_cmp ?_ ?_ ?_
  exact (op_inD (hu60 hr))
  exact r_var 4
  refine r_call (k := 5) (g := t.a_needed) (fd := t.d_needed) (ps := ["stock"]) ?_ ?_ ?_ ?_ ?_ ?_
  exact G_needed
  exact (hr.mono (by decide))
  exact T.m_needed
  exact T.F_needed.kp
  exact T.b_needed
  refine r_acons ?_ ?_
  exact r_var 3
  exact r_anil
  refine r_sone ?_
  refine r_ret ?_
  exact r_bl
  exact r_snil
  refine r_scons ?_ ?_
  refine r_set 6 ?_ ?_
  exact nd_law
  refine r_lst ?_
  refine r_acons ?_ ?_
  exact r_int
  refine r_acons ?_ ?_
  refine r_op ?_ ?_ ?_
  exact op_addD
  exact r_int
  refine r_call (k := 1) (g := t.a__law_take) (fd := t.d__law_take) (ps := ["box", "many"]) ?_ ?_ ?_ ?_ ?_ ?_
  exact G__law_take
  exact (hr.mono (by decide))
  exact T.m__law_take
  exact T.F__law_take.kp
  exact T.b__law_take
  refine r_acons ?_ ?_
  exact r_var 2
  refine r_acons ?_ ?_
  exact r_int
  exact r_anil
  refine r_acons ?_ ?_
  refine r_ix ?_ ?_
  refine r_ix ?_ ?_
  refine r_ix ?_ ?_
  exact r_var 3
  exact r_int
  exact r_var 4
  exact r_int
  refine r_acons ?_ ?_
  refine r_op ?_ ?_ ?_
  exact op_addD
  refine r_ix ?_ ?_
  refine r_ix ?_ ?_
  refine r_ix ?_ ?_
  exact r_var 3
  exact r_int
  exact r_var 4
  exact r_int
  exact r_int
  exact r_anil
  refine r_scons ?_ ?_
  refine r_if ?_ ?_ ?_
  refine r_tcmp ?_ ?_ ?_
  exact op_isNN
  exact r_var 5
  exact r_non
  refine r_sone ?_
  refine r_set 6 ?_ ?_
  exact nd_law
  refine r_op ?_ ?_ ?_
  exact op_addD
  exact r_var 6
  refine r_comp (N := ["one"]) ?_ ?_ ?_ ?_ ?_ ?_ ?_
  exact rfl
  exact (BOk.of (Xn := (defScope s_law).names) (XN := ["script", "k", "box", "stock", "offer", "reach", "prices", "price"]) rfl rfl rfl (by decide +kernel))
  exact (GKeeps.name (i := 0) rfl)
  refine r_seq ?_
  refine r_lst ?_
  refine r_acons ?_ ?_
  refine r_op ?_ ?_ ?_
  exact op_subD
  exact r_var 5
  exact r_int
  refine r_acons ?_ ?_
  exact r_var 5
  refine r_acons ?_ ?_
  refine r_op ?_ ?_ ?_
  exact op_addD
  exact r_var 5
  exact r_int
  exact r_anil
  intro _ _ _
  exact r_gname 0 nd_b16
  intro _ _ _
  refine r_cone ?_
  refine r_tcmp ?_ ?_ ?_
  exact op_gtD
  exact r_var 0
  exact r_int
  intro _ _ _
  exact r_var 0
  exact r_snil
  refine r_sone ?_
  refine r_for ?_ ?_ ?_ ?_ ?_
  exact rfl
  exact PassesOwn.never
  refine r_seq ?_
  exact r_var 6
  exact r_gname 7 nd_law
  refine r_sone ?_
  refine r_if ?_ ?_ ?_
  refine r_tnot ?_
  refine r_tval ?_
  refine r_call (k := 8) (g := t.a__law_right) (fd := t.d__law_right) (ps := ["stock", "offer", "price", "reach"]) ?_ ?_ ?_ ?_ ?_ ?_
  exact G__law_right
  exact (hr.mono (by decide))
  exact T.m__law_right
  exact T.F__law_right.kp
  exact T.b__law_right
  refine r_acons ?_ ?_
  exact r_var 3
  refine r_acons ?_ ?_
  exact r_var 4
  refine r_acons ?_ ?_
  exact r_var 7
  refine r_acons ?_ ?_
  exact r_var 5
  exact r_anil
  refine r_sone ?_
  refine r_ret ?_
  exact r_bl
  exact r_snil
  refine r_sone ?_
  refine r_ret ?_
  exact r_bl
end
end K84
end
section
set_option maxHeartbeats 8000000
namespace L3
open PySem PySem.Spec PyProof.Rows L2 LT
theorem dDivmod_ok {i j : Int} (h0 : 0 < j) (h1 : j < 2 ^ 100) : dDivmod [.int i, .int j] = pure (.tup [.int (i / j), .int (i % j)]) := by
  unfold dDivmod
  simp only
  rw [if_pos ⟨h0, h1⟩]
theorem dMulW_ok {i j : Int} (h : (small64 i || small64 j || mulOk i j) = true) : dMulW (.int i) (.int j) = pure (.int (i * j)) := by
  show (if (small64 i || small64 j || mulOk i j) = true then _ else _) = _
  rw [if_pos h]
theorem dMulW_l {i j : Int} (h : -1000000000000000 < i) (h' : i < 1000000000000000) : dMulW (.int i) (.int j) = pure (.int (i * j)) := dMulW_ok (by rw [small_of h h']; rfl)
theorem dMulW_r {i j : Int} (h : -1000000000000000 < j) (h' : j < 1000000000000000) : dMulW (.int i) (.int j) = pure (.int (i * j)) := dMulW_ok (by rw [small_of h h']; simp)
theorem bits_lt {x : Int} {n : Nat} (h : x.natAbs < 2 ^ n) : Builtin.Int.intBits x ≤ n := by
  unfold Builtin.Int.intBits
  split
  · exact Nat.zero_le _
  · rename_i c
    have h0 : x.natAbs ≠ 0 := fun z => c (by simp; omega)
    exact (Nat.log2_lt h0).mpr h
theorem abs_of_bits {x : Int} {n : Nat} (h : Builtin.Int.intBits x ≤ n) : x.natAbs < 2 ^ n := by
  unfold Builtin.Int.intBits at h
  split at h
  · rename_i c
    have : x = 0 := by simpa using c
    subst this
    exact Nat.pow_pos (by decide)
  · rename_i c
    have h0 : x.natAbs ≠ 0 := fun z => c (by simp; omega)
    exact (Nat.log2_lt h0).mp h
theorem mix_bits {c k : Int} {n : Nat} (h : Builtin.Int.intBits c ≤ n) (k0 : 0 ≤ k) (k1 : k < 24) : Builtin.Int.intBits ((c + 1) * 40692 + 104729 * k) ≤ n + 22 := by
  refine bits_lt ?_
  have h1 := abs_of_bits h
  rw [Nat.pow_add]
  generalize 2 ^ n = B at h1
  have : (2 : Nat) ^ 22 = 4194304 := rfl
  rw [this]
  omega
theorem dPow20 : dPow (.int 10) (.int 20) = pure (.int 100000000000000000000) := by
  unfold dPow dII
  simp only
  rw [if_pos (by decide)]
  rfl
theorem e_tupC {n : Nat} : dTuple [.cel n] = (do let ds ← cellGet n; pure (.tup ds)) := rfl
end L3
namespace K84
open PySem PySem.Spec PyProof.Rows L2 L3 LT
theorem take_wp {h : Hh} {b : Nat} {m : Int} {P : D → Hh → Prop} (q : Bx b h) (h0 : 0 < m) (h1 : m < 2 ^ 100) (k : ∀ t h', 0 ≤ t → t < m → Ext b h h' → P (.int t) h') : wp (F__law_take [.cel b, .int m]) h P := by
  obtain ⟨z, e⟩ := id q
  rw [d__law_take]
  have e2 : ixN ([D.int z] : List D).length 0 = some 0 := rfl
  simp only [G__law_take, e_sThen, e_sAsg, e_cApp, e_aCons, e_aNil, e_cOp, e_var0, e_varS, pure_bind, bind_assoc, e_cK, e_ixC, wp_bind, wp_get e, e_at0, e_ofO, wp_pure, dDivmod_ok h0 h1, e_gtup2, e_gscons, e_gSet, e_gsnil, e_nx, List.set, e_gSubD, e_setI, e2, wp_put, e_sRet, e_ort]
  exact k _ _ (Int.emod_nonneg _ (by omega)) (Int.emod_lt_of_pos _ h0) q.set
theorem cell_ok {ns : List Int} {k : Int} (h0 : 0 ≤ k) (h1 : k < 6) (hb : ∀ i ∈ ns, Builtin.Int.intBits i ≤ 2 ^ 20) : ∃ c : Int, F__law_cell [.scr (ns.map D.int), .int k] = pure (.int c) ∧ Builtin.Int.intBits c ≤ 2 ^ 20 := by
  rw [d__law_cell]
  simp only [G__law_cell, e_sThen, e_sIf, e_tCmp, e_varS, e_var0, pure_bind, bind_assoc, e_cApp, e_aCons, e_aNil, e_lenS, e_lt, e_bool]
  by_cases hk : k < ((ns.map D.int).length : Int)
  · have hk' : k.toNat < ns.length := by simp at hk; omega
    have ea : atI (ns.map D.int) k = some (.int ns[k.toNat]) := by
      have := atI_nat (xs := ns.map D.int) (j := k.toNat) (v := .int ns[k.toNat]) (by simp [hk'])
      rw [← this]
      congr 1
      omega
    simp only [hk, decide_true, if_true, e_sRet, e_cOp, e_var0, e_varS, pure_bind, e_ixS, ea, e_ofO, e_rt, e_ort]
    exact ⟨_, rfl, hb _ (List.getElem_mem hk')⟩
  · simp only [hk, decide_false, Bool.false_eq_true, if_false, e_sNil, pure_bind, e_nx, e_sRet, e_cOp, e_cK, e_varS, e_var0, dMul_l (show (-1000000000000000 : Int) < 6151 by decide) (show (6151 : Int) < 1000000000000000 by decide), e_addI, e_ort]
    exact ⟨_, rfl, Nat.le_trans (intBits_le_64 (by omega) (by omega)) (by decide)⟩
theorem mix_ok {c k : Int} (hc : Builtin.Int.intBits c ≤ 2 ^ 20) (k0 : 0 ≤ k) (k1 : k < 24) : ∃ r : Int, F__law_mix [.int c, .int k] = pure (.int r) := by
  rw [d__law_mix]
  have hm : mulOk ((c + 1) * 40692 + 104729 * k) ((c + 1) * 40692 + 104729 * k) = true := by
    have := mix_bits hc k0 k1
    unfold mulOk
    rw [decide_eq_true_eq]
    have e1 : (2 : Nat) ^ 20 = 1048576 := rfl
    have e2 : (2 : Nat) ^ 26 = 67108864 := rfl
    rw [e1] at this
    rw [e2]
    omega
  have n0 := Int.emod_nonneg (((c + 1) * 40692 + 104729 * k) * ((c + 1) * 40692 + 104729 * k)) (show (2147483399 : Int) ≠ 0 by decide)
  have n1 := Int.emod_lt_of_pos (((c + 1) * 40692 + 104729 * k) * ((c + 1) * 40692 + 104729 * k)) (show (0 : Int) < 2147483399 by decide)
  simp only [G__law_mix, e_sThen, e_sSet, e_cOp, e_var0, e_varS, e_cK, e_addI, pure_bind, bind_assoc, dMulW_r (show (-1000000000000000 : Int) < 40692 by decide) (show (40692 : Int) < 1000000000000000 by decide), dMulW_l (show (-1000000000000000 : Int) < 104729 by decide) (show (104729 : Int) < 1000000000000000 by decide),
    e_nx, List.set, dMulW_ok (show (small64 ((c + 1) * 40692 + 104729 * k) || small64 ((c + 1) * 40692 + 104729 * k) || mulOk ((c + 1) * 40692 + 104729 * k) ((c + 1) * 40692 + 104729 * k)) = true by rw [hm]; simp), dMod_ok (show (0 : Int) < 2147483399 by decide), e_sRet]
  generalize hN : ((c + 1) * 40692 + 104729 * k) * ((c + 1) * 40692 + 104729 * k) % 2147483399 = N at n0 n1
  simp only [dMulW_l (i := N + k) (show -1000000000000000 < N + k by omega) (show N + k < 1000000000000000 by omega), pure_bind, dMod_ok (show (0 : Int) < 2147483563 by decide), e_ort]
  exact ⟨_, rfl⟩
theorem box_loop {s0 s1 : Option D} {c : Int} (hc : Builtin.Int.intBits c ≤ 2 ^ 20) : ∀ (ds : List D) (n : Int) (x4 : Option D), (∀ d ∈ ds, ∃ j : Int, d = .int j ∧ 0 ≤ j ∧ j < 24) →
    ∃ (n' : Int) (x4' : Option D), fLoop (fun x sd => do let sd1 ← gSet 4 x sd; B__law_box_1 sd1) ds [s0, s1, some (.int c), some (.int n), x4] = pure (.nx [s0, s1, some (.int c), some (.int n'), x4'])
  | [], n, x4, _ => ⟨n, x4, rfl⟩
  | d :: r, n, x4, hd => by
    obtain ⟨j, rfl, j0, j1⟩ := hd _ List.mem_cons_self
    obtain ⟨mx, em⟩ := mix_ok hc j0 j1
    obtain ⟨n', x4', ih⟩ := box_loop hc r (n * 2147483647 + mx) (some (.int j)) (fun y hy => hd y (List.mem_cons_of_mem _ hy))
    refine ⟨n', x4', ?_⟩
    rw [e_floop, ← ih]
    simp only [B__law_box_1, e_gSet, List.set, pure_bind, bind_assoc, e_sSet, e_cOp, e_varS, e_var0, e_cK, dMulW_r (i := n) (show (-1000000000000000 : Int) < 2147483647 by decide) (show (2147483647 : Int) < 1000000000000000 by decide), e_cApp, e_aCons, e_aNil, e_call2, em, e_addI]
theorem box_wp {h : Hh} {ns : List Int} {k : Int} {P : D → Hh → Prop} (hb : ∀ i ∈ ns, Builtin.Int.intBits i ≤ 2 ^ 20) (k0 : 0 ≤ k) (k6 : k < 6) (q : ∀ z : Int, P (.cel h.length) (h ++ [.lst [.int z]])) : wp (F__law_box [.scr (ns.map D.int), .int k]) h P := by
  obtain ⟨c, ec, hc⟩ := cell_ok k0 k6 hb
  rw [d__law_box]
  simp only [G__law_box, e_sThen, e_sSet, e_cApp, e_aCons, e_aNil, e_var0, e_varS, pure_bind, bind_assoc, e_call2, ec, e_nx, List.set, e_sIf, e_tCmp, e_cOp, e_cK, dMod_ok (show (0 : Int) < 2 by decide), dEqI, e_bool]
  by_cases hc2 : (c % 2 == 0) = true
  · simp only [hc2, if_true, e_sRet, e_cLstC, e_aCons, e_aNil, e_cOp, e_varS, e_var0, e_cK, pure_bind, bind_assoc, dFdiv_ok (show (0 : Int) < 2 by decide) (show (2 : Int) < 2 ^ 64 by decide), List.length_cons, List.length_nil, fits_ok (show 0 + 1 ≤ 1000 by decide), wp_bind, wp_new, wp_pure, e_rt, e_ort]
    exact q _
  · obtain ⟨n', x4', el⟩ := box_loop (s0 := some (.scr (ns.map D.int))) (s1 := some (.int k)) hc (rngD 0 24) 0 none (fun d hd => by
      obtain ⟨i, e, i0, i1⟩ := rng_mem hd
      exact ⟨i, e, i0, by omega⟩)
    have er : dRng1 [.int 24] = pure (rngD 0 24) := dRng_ok (by decide) (by decide)
    simp only [hc2, if_false, e_sNil, pure_bind, e_nx, e_sThen, e_sSet, e_cK, List.set, e_varS, e_var0, e_sFor, e_iRng, e_aCons, e_aNil, er, bind_assoc, el, e_sRet, e_cLstC, List.length_cons, List.length_nil, fits_ok (show 0 + 1 ≤ 1000 by decide), wp_bind, wp_new, wp_pure, e_ort, Bool.false_eq_true]
    exact q _
end K84
end
section
set_option maxHeartbeats 8000000
namespace K84
open PySem PySem.Spec PyProof.Rows L2 L3 LT
theorem dEq_intsNil (xs : List Int) : dEq (.lst (xs.map D.int)) (.lst []) = pure (.bl xs.isEmpty) := by
  have := dEq_lst xs []
  rw [List.map_nil] at this
  rw [this]
  cases xs <;> rfl
noncomputable def Go (m : Int) (o : List Int × Int) : Prop := o.1.Pairwise (· < ·) ∧ (∀ x ∈ o.1, 0 ≤ x ∧ x < m) ∧ o.1 ≠ [] ∧ 0 < o.2
theorem stock_turn {b : Nat} {full : Int} (i : Int) {h : Hh} {Q : Option D → Hh → Prop} (q : Bx b h) (k : ∀ o h', Ext b h h' → (o = none ∨ o = some (.int i)) → Q o h') :
    wp (cTurn (gSet 0) C__law_stock_1 E__law_stock_1 [none, some (.cel b), some (.int full)] (.int i)) h Q := by
  simp only [cTurn, e_gSet, List.set, pure_bind, C__law_stock_1, e_tCmp, e_cApp, e_aCons, e_aNil, e_varS, e_var0, e_cK, bind_assoc, e_call2, wp_bind]
  refine take_wp q (by decide) (by decide) fun t h2 t0 t1 x2 => ?_
  simp only [e_le, wp_pure, e_bool]
  rw [wp_ite]
  split
  · simp only [E__law_stock_1, e_var0, pure_bind, wp_pure]
    exact k _ _ x2 (.inr rfl)
  · rw [wp_pure]
    exact k _ _ x2 (.inl rfl)
theorem stock_loop {b n : Nat} {m kind full : Int} {s1 s2 : Option D} {N : Nat} (hN : N ≤ 12) (hnb : n ≠ b) (m0 : 1 ≤ m) (m1 : m ≤ 10) (k0 : 0 < kind) (k1 : kind < 2 ^ 100) : ∀ (ds : List D) {h : Hh} {x7 x8 : Option D} {os : List (List Int × Int)} {P : Out → Hh → Prop}, Bx b h → h[n]? = some (.lst (os.map offD)) → (∀ o ∈ os, Go m o) → os.length + ds.length ≤ N →
    (∀ (x7' x8' : Option D) (os' : List (List Int × Int)) (h' : Hh), Bx b h' → h'[n]? = some (.lst (os'.map offD)) → (∀ o ∈ os', Go m o) → os'.length ≤ N → P (.nx [some (.cel b), s1, s2, some (.int m), some (.int kind), some (.int full), some (.cel n), x7', x8']) h') →
    wp (fLoop (fun x sd => do let sd1 ← gSet 7 x sd; B__law_stock_1 sd1) ds [some (.cel b), s1, s2, some (.int m), some (.int kind), some (.int full), some (.cel n), x7, x8]) h P
  | [], h, x7, x8, os, P, q, e, ho, hl, k => by
    rw [e_floop0, wp_pure]
    exact k _ _ os h q e ho (by simpa using hl)
  | d :: r, h, x7, x8, os, P, q, e, ho, hl, k => by
    have ih : ∀ {h : Hh} {x7 x8 : Option D} {os : List (List Int × Int)}, Bx b h → h[n]? = some (.lst (os.map offD)) → (∀ o ∈ os, Go m o) → os.length + r.length ≤ N →
      wp (fLoop (fun x sd => do let sd1 ← gSet 7 x sd; B__law_stock_1 sd1) r [some (.cel b), s1, s2, some (.int m), some (.int kind), some (.int full), some (.cel n), x7, x8]) h P := fun q e ho hl => stock_loop hN hnb m0 m1 k0 k1 r q e ho hl k
    rw [e_floop]
    generalize fLoop (fun x sd => do let sd1 ← gSet 7 x sd; B__law_stock_1 sd1) r = rest at ih ⊢
    have eb : bStartD [none, some 0, some 5] [some (.cel b), s1, s2, some (.int m), some (.int kind), some (.int full), some (.cel n), some d, x8] = [none, some (D.cel b), some (.int full)] := rfl
    simp only [e_gSet, List.set, pure_bind, B__law_stock_1, e_sThen, e_sSet, wp_bind]
    unfold dComp
    simp only [e_iRng, e_aCons, e_aNil, e_varS, e_var0, pure_bind, dRng_ok (show 0 ≤ m by omega) (show m < 1000 by omega), wp_bind, rng_len, fits_ok (show m.toNat ≤ 1000 by omega), wp_pure, eb]
    rw [rng_ints]
    refine subs_wp (fun i {h Q} q k => stock_turn i q k) _ q fun ys h2 x2 hys => ?_
    have hyu := (rangeI_up m.toNat).sublist hys
    have hyb : ∀ x ∈ ys, 0 ≤ x ∧ x < m := fun x hx => by have := rangeI_bd x (hys.subset hx); omega
    have fin : ∀ (zs : List Int) (h3 : Hh), (zs.Pairwise (· < ·) ∧ (∀ x ∈ zs, 0 ≤ x ∧ x < m) ∧ zs ≠ []) → Ext b h h3 → wp ((cAppend (dVar 6) (cTup (aCons (cApp dTuple (aCons (dVar 8) aNil)) (aCons (cOp dAdd (cK (.int 1)) (cApp (callD 2 F__law_take) (aCons (dVar 0) (aCons (dVar 4) aNil)))) aNil)))) [some (.cel b), s1, s2, some (.int m), some (.int kind), some (.int full), some (.cel n), some d, some (.lst (zs.map D.int))]) h3
        fun _ h4 => wp (rest [some (.cel b), s1, s2, some (.int m), some (.int kind), some (.int full), some (.cel n), some d, some (.lst (zs.map D.int))]) h4 P := fun zs h3 hz x3 => by
      have e3 := x3.2 n _ hnb e
      simp only [cAppend, dAlive, e_varS, e_var0, pure_bind, bind_assoc, wp_bind, wp_get e3, e_cTup, e_aCons, e_aNil, e_cApp, e_tupL, e_cOp, e_cK, e_call2, wp_pure]
      refine take_wp x3.1 k0 k1 fun t h4 t0 t1 x4 => ?_
      have e4 := x4.2 n _ hnb e3
      simp only [e_addI, pure_bind, wp_pure, wp_bind, List.length_cons, List.length_nil, fits_ok (show 0 + 1 + 1 ≤ 1000 by decide), dAppend, wp_get e4, List.length_map, fits_ok (show os.length + 1 ≤ 1000 by simp at hl; omega), wp_put]
      have hlt : n < h4.length := (List.getElem?_eq_some_iff.mp e4).1
      refine ih (os := os ++ [(zs, 1 + t)]) ?_ (by rw [List.getElem?_set_self hlt]; simp [offD, tI]) ?_ ?_
      · obtain ⟨y, ey⟩ := x4.1
        exact ⟨y, by rw [List.getElem?_set_ne hnb]; exact ey⟩
      · intro o hmem
        rcases List.mem_append.mp hmem with w | w
        · exact ho o w
        · simp at w
          subst w
          exact ⟨hz.1, hz.2.1, hz.2.2, by show (0 : Int) < 1 + t; omega⟩
      · simp at hl ⊢
        omega
    simp only [wp_pure, e_nx, List.set, e_sThen, e_sIf, e_tCmp, e_varS, e_var0, pure_bind, e_cLst, e_aNil, List.length_nil, fits_ok (show 0 ≤ 1000 by decide), dEq_intsNil, e_bool, bind_assoc, wp_bind]
    rw [wp_ite]
    split
    · simp only [e_sSet, e_cLst, e_aCons, e_aNil, e_cApp, e_varS, e_var0, pure_bind, bind_assoc, e_call2, wp_bind]
      refine take_wp x2.1 (by omega) (by omega) fun t h3 t0 t1 x3 => ?_
      simp only [wp_pure, pure_bind, wp_bind, List.length_cons, List.length_nil, fits_ok (show 0 + 1 ≤ 1000 by decide), List.set, e_nx, e_sExpr]
      exact wp_mono (fin [t] h3 ⟨by simp, by simp; omega, by simp⟩ (x2.trans x3)) fun _ _ z => z
    · rename_i hne
      simp only [e_sNil, wp_pure, e_nx, e_sExpr, wp_bind]
      exact wp_mono (fin ys h2 ⟨hyu, hyb, fun z => hne (by rw [z]; rfl)⟩ x2) fun _ _ z => z
theorem stock_wp {h : Hh} {b : Nat} {mt mo : Int} {P : D → Hh → Prop} (q : Bx b h) (t0 : 1 ≤ mt) (t1 : mt ≤ 10) (o0 : 0 ≤ mo) (o1 : mo ≤ 12) (k : ∀ (m : Int) (os : List (List Int × Int)) h', Bx b h' → 1 ≤ m → m ≤ mt → (os.length : Int) ≤ mo → (∀ o ∈ os, Go m o) → P (stkD m os) h') : wp (F__law_stock [.cel b, .int mt, .int mo]) h P := by
  rw [d__law_stock]
  simp only [G__law_stock, e_sThen, e_sSet, e_cOp, e_cK, e_cApp, e_aCons, e_aNil, e_var0, e_varS, pure_bind, bind_assoc, e_call2, wp_bind]
  refine take_wp q (by omega) (by omega) fun t h2 t0' t1' x2 => ?_
  simp only [e_addI, pure_bind, wp_pure, e_nx, List.set, e_sThen, e_sSet, e_cOp, e_cLst, e_aCons, e_aNil, e_cK, dPow20, bind_assoc, wp_bind, List.length_cons, List.length_nil, fits_ok (show 0 + 1 + 1 + 1 + 1 ≤ 1000 by decide), e_cApp, e_var0, e_varS, e_call2]
  refine take_wp x2.1 (by decide) (by decide) fun f h3 f0 f1 x3 => ?_
  obtain ⟨kind, ef, g0, g1⟩ : ∃ kind : Int, atI [D.int 1, .int 3, .int 20, .int 100000000000000000000] f = some (.int kind) ∧ 0 < kind ∧ kind < 2 ^ 100 := by
    have : f = 0 ∨ f = 1 ∨ f = 2 ∨ f = 3 := by omega
    rcases this with rfl | rfl | rfl | rfl
    · exact ⟨1, rfl, by decide, by decide⟩
    · exact ⟨3, rfl, by decide, by decide⟩
    · exact ⟨20, rfl, by decide, by decide⟩
    · exact ⟨100000000000000000000, rfl, by decide, by decide⟩
  simp only [e_ixL, ef, e_ofO, wp_pure, e_nx, List.set, e_sThen, e_sSet, e_cApp, e_aCons, e_aNil, e_var0, e_cK, pure_bind, bind_assoc, e_call2, wp_bind]
  refine take_wp x3.1 (by decide) (by decide) fun full h4 u0 u1 x4 => ?_
  simp only [wp_pure, e_nx, List.set, e_sThen, e_sSet, e_cLstC, e_aNil, pure_bind, List.length_nil, fits_ok (show 0 ≤ 1000 by decide), wp_bind, wp_new, e_sFor, e_iRng, e_aCons, e_cApp, e_cOp, e_varS, e_var0, e_cK, e_addI, bind_assoc, e_call2]
  have x5 := x4.1.push (c := .lst [])
  have hnb : h4.length ≠ b := fun z => by
    obtain ⟨y, ey⟩ := x4.1
    have := (List.getElem?_eq_some_iff.mp ey).1
    omega
  refine take_wp x5.1 (by omega) (by omega) fun turns h6 v0 v1 x6 => ?_
  have e6 : h6[h4.length]? = some (.lst []) := x6.2 _ _ hnb (by simp)
  simp only [wp_pure, pure_bind, dRng_ok v0 (show turns < 1000 by omega), wp_bind]
  refine stock_loop (N := mo.toNat) (by omega) hnb (by omega) (by omega) g0 g1 _ x6.1 (os := []) e6 (fun o ho => by cases ho) (by rw [rng_len]; simp; omega) fun x7 x8 os h7 q7 e7 ho hl => ?_
  simp only [e_nx, e_sRet, e_cTup, e_aCons, e_aNil, e_varS, e_var0, pure_bind, bind_assoc, e_cApp, e_tupC, wp_bind, wp_get e7, wp_pure, List.length_cons, List.length_nil, fits_ok (show 0 + 1 + 1 ≤ 1000 by decide), e_ort]
  exact k (1 + t) os h7 q7 (by omega) (by omega) (by omega) ho
end K84
end
section
set_option maxHeartbeats 8000000
namespace L3
open PySem PySem.Spec PyProof.Rows L2 LT
noncomputable def pdO (o : List Int × Int) : PyData := .tuple [.tuple (o.1.map PyData.int), .int o.2]
theorem pd_offs : ∀ os : List (List Int × Int), pdL (os.map offD) = some (os.map pdO)
  | [] => rfl
  | o :: r => by
    rw [List.map_cons, pdL, pd_offs r]
    simp only [offD, tI, pd, pdL, pdL_ints, Option.map, pdO, List.map_cons]
theorem lay_offs : ∀ os : List (List Int × Int), PyData.canLayAll0 (os.map pdO) = true
  | [] => rfl
  | o :: r => by simp [PyData.canLayAll0, PyData.canLay0, canLay_ints, lay_offs r, pdO]
theorem dEq_offs (os : List (List Int × Int)) : dEq (.lst (os.map offD)) (.lst []) = pure (.bl os.isEmpty) := by
  have e1 : pd (.lst (os.map offD)) = some (.list (os.map pdO)) := by unfold pd; rw [pd_offs]; rfl
  have e2 : pd (.lst []) = some (.list []) := rfl
  rw [dEq_pd e1 e2 (by unfold eqOk; simp [PyData.canLay0, PyData.canLayAll0, lay_offs, PyData.depth, PyData.depthAll])]
  cases os <;> rfl
theorem filterMap_if {α β : Type} {p : α → Bool} {g : α → β} : ∀ xs : List α, xs.filterMap (fun x => if p x = true then some (g x) else none) = (xs.filter p).map g
  | [] => rfl
  | x :: r => by
    rw [List.filterMap_cons, List.filter_cons, filterMap_if r]
    cases p x <;> simp
theorem dComp_src {α : Type} {g' : α → D} {fi : FA} {g : D → Sd → M Sd} {tc : FT} {te : FE} {src : List (Option Nat)} {sd : Sd} {xs : List α} {k : α → Option D} (hi : fi sd = pure (xs.map g')) (hl : xs.length ≤ 1000) (hf : ∀ x ∈ xs, cTurn g tc te (bStartD src sd) (g' x) = pure (k x)) : dComp fi g tc te src sd = pure (.lst (xs.filterMap k)) := by
  unfold dComp
  rw [hi]
  simp only [pure_bind]
  rw [fits_ok (by rw [List.length_map]; exact hl)]
  simp only [pure_bind]
  have : ∀ {ys : List α}, (∀ x ∈ ys, cTurn g tc te (bStartD src sd) (g' x) = pure (k x)) → cLoop (cTurn g tc te (bStartD src sd)) (ys.map g') = pure (ys.filterMap k) := by
    intro ys
    induction ys with
    | nil => intro _; rfl
    | cons x r ih =>
      intro hf
      rw [List.map_cons, cLoop, hf x List.mem_cons_self, ih fun y hy => hf y (List.mem_cons_of_mem _ hy)]
      simp only [pure_bind]
      cases e : k x <;> simp [List.filterMap_cons, e]
  rw [this hf]
  simp only [pure_bind]
theorem lex_trans : ∀ {xs ys zs : List Int}, HT.lexLt xs ys = true → HT.lexLt ys zs = true → HT.lexLt xs zs = true
  | [], [], _, h, _ => by cases h
  | [], _ :: _, [], _, h => by cases h
  | [], _ :: _, _ :: _, _, _ => rfl
  | _ :: _, [], _, h, _ => by cases h
  | _ :: _, _ :: _, [], _, h => by cases h
  | x :: xs, y :: ys, z :: zs, h1, h2 => by
    rw [HT.lexLt_cons] at h1 h2 ⊢
    split at h1
    · split at h2
      · rw [if_pos (by omega)]
        exact lex_trans h1 h2
      · simp at h2
        rw [if_neg (by omega)]
        simp
        omega
    · simp at h1
      split at h2
      · rw [if_neg (by omega)]
        simp
        omega
      · simp at h2
        rw [if_neg (by omega)]
        simp
        omega
theorem pLt_trans {p q r : Int × List Int} (h1 : pLt p q = true) (h2 : pLt q r = true) : pLt p r = true := by
  unfold pLt at *
  split at h1
  · split at h2
    · rw [if_pos (by omega)]
      exact lex_trans h1 h2
    · simp at h2
      rw [if_neg (by omega)]
      simp
      omega
  · simp at h1
    split at h2
    · rw [if_neg (by omega)]
      simp
      omega
    · simp at h2
      rw [if_neg (by omega)]
      simp
      omega
theorem best_le (f : Nat → Int × List Int) : ∀ k, argBest (fun i j => pLt (f i) (f j)) k ≤ k ∧ ∀ i, i ≤ k → pLt (f i) (f (argBest (fun i j => pLt (f i) (f j)) k)) = false
  | 0 => ⟨Nat.le_refl _, fun i hi => by
    have : i = 0 := by omega
    subst this
    show pLt (f 0) (f 0) = false
    unfold pLt
    rw [if_pos rfl, lex_self]⟩
  | k + 1 => by
    obtain ⟨h1, h2⟩ := best_le f k
    unfold argBest
    by_cases c : pLt (f (k + 1)) (f (argBest (fun i j => pLt (f i) (f j)) k)) = true
    · rw [if_pos c]
      refine ⟨Nat.le_refl _, fun i hi => ?_⟩
      by_cases e : i = k + 1
      · subst e
        unfold pLt
        rw [if_pos rfl, lex_self]
      · have h3 := h2 i (by omega)
        cases h4 : pLt (f i) (f (k + 1)) with
        | false => rfl
        | true => rw [pLt_trans h4 c] at h3; cases h3
    · rw [if_neg c]
      refine ⟨by omega, fun i hi => ?_⟩
      by_cases e : i = k + 1
      · subst e
        simpa using c
      · exact h2 i (by omega)
theorem best_spec {ps : List (Int × List Int)} (h : ps ≠ []) : bestI ps < ps.length ∧ ∀ q ∈ ps, pLt q (ps.getD (bestI ps) (0, [])) = false := by
  have hl := List.length_pos_iff.mpr h
  obtain ⟨h1, h2⟩ := best_le (fun i => ps.getD i (0, [])) (ps.length - 1)
  refine ⟨Nat.lt_of_le_of_lt h1 (by omega), fun q hq => ?_⟩
  obtain ⟨i, hi, rfl⟩ := List.getElem_of_mem hq
  have h3 := h2 i (by omega)
  have e : ps.getD i (0, []) = ps[i] := by simp [List.getD, hi]
  rw [← e]
  exact h3
theorem cLoop_evS {α : Type} {g' : α → D} {f : D → M (Option D)} {k : α → Option D} : ∀ {xs : List α}, (∀ x ∈ xs, Ev (f (g' x)) (k x)) → Ev (cLoop f (xs.map g')) (xs.filterMap k)
  | [], _ => .of rfl
  | x :: r, hf => by
    rw [List.map_cons, cLoop]
    refine Ev.bind (hf x List.mem_cons_self) (Ev.bind (cLoop_evS fun y hy => hf y (List.mem_cons_of_mem _ hy)) (.of ?_))
    cases e : k x <;> simp [List.filterMap_cons, e]
theorem dComp_evS {α : Type} {g' : α → D} {fi : FA} {g : D → Sd → M Sd} {tc : FT} {te : FE} {src : List (Option Nat)} {sd : Sd} {xs : List α} {k : α → Option D} (hi : fi sd = pure (xs.map g')) (hl : xs.length ≤ 1000) (hf : ∀ x ∈ xs, Ev (cTurn g tc te (bStartD src sd) (g' x)) (k x)) : Ev (dComp fi g tc te src sd) (.lst (xs.filterMap k)) := by
  unfold dComp
  rw [hi]
  simp only [pure_bind]
  rw [fits_ok (by rw [List.length_map]; exact hl)]
  simp only [pure_bind]
  exact Ev.bind (cLoop_evS hf) (.of rfl)
theorem rng_cons (j : Int) (r : Nat) : rngD j (r + 1) = .int j :: rngD (j + 1) r := by
  unfold rngD
  rw [List.range_succ_eq_map, List.map_cons, List.map_map]
  congr 1
  · simp
  · refine List.map_congr_left fun k _ => ?_
    simp
    omega
noncomputable def pD (p : Int × List Int) : D := .tup [.int p.1, tI p.2]
theorem pairs_map : ∀ ps : List (Int × List Int), pairsD (ps.map pD) = some ps
  | [] => rfl
  | p :: r => by
    rw [List.map_cons, pairsD, pairs_map r]
    simp only [pD, tI, pairD1, intsD_map, Option.map, Option.bind]
theorem dMin1_lst {ps : List (Int × List Int)} (h : ps ≠ []) : dMin1 [.lst (ps.map pD)] = pure (pD (ps.getD (bestI ps) (0, []))) := by
  have hb := (best_spec h).1
  have e : (ps.map pD)[bestI ps]? = some (pD (ps.getD (bestI ps) (0, []))) := by simp [List.getD, hb]
  show (do let ps' ← ofO (pairsD (ps.map pD)); ofO ((ps.map pD)[bestI ps']?) : M D) = _
  rw [pairs_map]
  show (ofO ((ps.map pD)[bestI ps]?) : M D) = _
  rw [e]
  rfl
theorem or_nat (a b : Nat) : Builtin.bitOr (a : Int) (b : Int) = ((a ||| b : Nat) : Int) := by
  unfold Builtin.bitOr Builtin.bitAnd Builtin.bitNot
  have h1 : decide (0 ≤ -(a : Int) - 1) = false := by simp; omega
  have h2 : decide (0 ≤ -(b : Int) - 1) = false := by simp; omega
  rw [h1, h2]
  simp only
  have e1 : (-(-(a : Int) - 1) - 1).toNat = a := by omega
  have e2 : (-(-(b : Int) - 1) - 1).toNat = b := by omega
  rw [e1, e2]
  omega
noncomputable def bv (p : Nat → Bool) : Nat → Nat
  | 0 => 0
  | n + 1 => bv p n * 2 + (if p n = true then 1 else 0)
theorem bv_or (p q : Nat → Bool) : ∀ n, bv p n ||| bv q n = bv (fun i => p i || q i) n
  | 0 => by
    unfold bv
    rfl
  | n + 1 => by
    have ih := bv_or p q n
    unfold bv
    rw [← ih]
    refine Nat.eq_of_testBit_eq fun i => ?_
    cases i with
    | zero =>
      rw [Nat.testBit_or]
      simp only [Nat.testBit_zero]
      cases p n <;> cases q n <;> simp <;> omega
    | succ i =>
      rw [Nat.testBit_or]
      simp only [Nat.testBit_add_one]
      have e : ∀ (a : Nat) (c : Bool), (a * 2 + (if c = true then 1 else 0)) / 2 = a := fun a c => by cases c <;> simp <;> omega
      rw [e, e, e, Nat.testBit_or]
theorem bv_full (p : Nat → Bool) : ∀ n, bv p n = bv (fun _ => true) n ↔ ∀ i, i < n → p i = true
  | 0 => ⟨fun _ i h => by omega, fun _ => rfl⟩
  | n + 1 => by
    have ih := bv_full p n
    unfold bv
    constructor
    · intro h i hi
      cases hp : p n with
      | false => rw [hp] at h; simp at h; omega
      | true =>
        rw [hp] at h
        simp at h
        by_cases e : i = n
        · rw [e]; exact hp
        · exact ih.mp (by omega) i (by omega)
    · intro h
      rw [h n (by omega), ih.mpr fun i hi => h i (by omega)]
theorem bv_congr {p q : Nat → Bool} : ∀ {n}, (∀ i, i < n → p i = q i) → bv p n = bv q n
  | 0, _ => rfl
  | n + 1, h => by
    unfold bv
    rw [h n (by omega), bv_congr fun i hi => h i (by omega)]
theorem dInL_ints (k : Int) (xs : List Int) : dIn (.int k) (.lst (xs.map D.int)) = pure (.bl (xs.any (· == k))) := by
  show dInG false (.int k) (.lst (xs.map D.int)) = _
  unfold dInG
  simp only [pd]
  rw [pdL_ints]
  have c : inOk (.int k) (xs.map PyData.int) = true := by
    unfold inOk
    simp [PyData.canLay0, canLay_ints, PyData.depth, depth_ints]
  simp only [c, if_true, any_ints]
  rfl
theorem dwn_cons (lo : Int) (k : Nat) : dwnD lo (k + 1) = .int lo :: dwnD (lo - 1) k := by
  unfold dwnD
  rw [List.range_succ_eq_map, List.map_cons, List.map_map]
  congr 1
  · simp
  · refine List.map_congr_left fun j _ => ?_
    simp
    omega
noncomputable def kl (n : Nat) : Nat → List (List Int)
  | 0 => [[]]
  | r + 1 => (kl n r).take 1 ++ (kl n r).map (fun ls => ((n - (r + 1) : Nat) : Int) :: ls) ++ (kl n r).drop 1
theorem kl_mem (n : Nat) : ∀ (r : Nat) (x : List Int), r ≤ n → (x ∈ kl n r ↔ x.Pairwise (· < ·) ∧ ∀ y ∈ x, ((n - r : Nat) : Int) ≤ y ∧ y < (n : Int))
  | 0, x, _ => by
    unfold kl
    rw [List.mem_singleton]
    constructor
    · rintro rfl
      exact ⟨.nil, fun y hy => by cases hy⟩
    · rintro ⟨_, h⟩
      cases x with
      | nil => rfl
      | cons y r => have := h y List.mem_cons_self; omega
  | r + 1, x, hr => by
    have ih := fun y => kl_mem n r y (by omega)
    have e : x ∈ kl n (r + 1) ↔ x ∈ kl n r ∨ ∃ y ∈ kl n r, ((n - (r + 1) : Nat) : Int) :: y = x := by
      have h0 : x ∈ kl n r ↔ x ∈ (kl n r).take 1 ++ (kl n r).drop 1 := by rw [List.take_append_drop]
      have h1 : x ∈ kl n (r + 1) ↔ x ∈ (kl n r).take 1 ++ (kl n r).map (fun ls => ((n - (r + 1) : Nat) : Int) :: ls) ++ (kl n r).drop 1 := Iff.rfl
      rw [h0, h1]
      simp only [List.mem_append, List.mem_map]
      constructor
      · rintro ((h | h) | h)
        · exact .inl (.inl h)
        · exact .inr h
        · exact .inl (.inr h)
      · rintro ((h | h) | h)
        · exact .inl (.inl h)
        · exact .inr h
        · exact .inl (.inr h)
    rw [e, ih x]
    constructor
    · rintro (⟨h1, h2⟩ | ⟨y, hy, rfl⟩)
      · exact ⟨h1, fun y hy => by have := h2 y hy; omega⟩
      · obtain ⟨g1, g2⟩ := (ih y).mp hy
        refine ⟨List.pairwise_cons.mpr ⟨fun a ha => ?_, g1⟩, fun z hz => ?_⟩
        · have := g2 a ha
          omega
        · rcases List.mem_cons.mp hz with rfl | hz
          · omega
          · have := g2 z hz
            omega
    · rintro ⟨h1, h2⟩
      cases x with
      | nil => exact .inl ⟨.nil, fun y hy => by cases hy⟩
      | cons y ys =>
        rw [List.pairwise_cons] at h1
        have hy := h2 y List.mem_cons_self
        by_cases c : y = ((n - (r + 1) : Nat) : Int)
        · refine .inr ⟨ys, (ih ys).mpr ⟨h1.2, fun z hz => ?_⟩, by rw [c]⟩
          have h3 := h1.1 z hz
          have h4 := h2 z (List.mem_cons_of_mem _ hz)
          omega
        · refine .inl ⟨List.pairwise_cons.mpr h1, fun z hz => ?_⟩
          have h4 := h2 z hz
          rcases List.mem_cons.mp hz with rfl | hz
          · omega
          · have h3 := h1.1 z hz
            omega
theorem kl_len (n : Nat) : ∀ r, (kl n r).length = 2 ^ r
  | 0 => rfl
  | r + 1 => by
    unfold kl
    rw [List.length_append, List.length_append, List.length_map, List.length_take, List.length_drop, kl_len n r, Nat.pow_succ]
    have := Nat.two_pow_pos r
    omega
noncomputable def pr (os : List (List Int × Int)) (ls : List Int) : Int := (ls.map fun i => (os.getD i.toNat ([], 0)).2).sum
noncomputable def hasL (os : List (List Int × Int)) (ls : List Int) (t : Nat) : Bool := ls.any fun i => (os.getD i.toNat ([], 0)).1.any (· == (t : Int))
noncomputable def cvB (m : Int) (os : List (List Int × Int)) (ls : List Int) : Bool := bv (hasL os ls) m.toNat == bv (fun _ => true) m.toNat
theorem cov_iff {m : Int} {os : List (List Int × Int)} {ls : List Int} : cvB m os ls = true ↔ ∀ t : Int, 0 ≤ t → t < m → ∃ i ∈ ls, t ∈ (os.getD i.toNat ([], 0)).1 := by
  unfold cvB
  rw [beq_iff_eq, bv_full]
  have key : ∀ t : Nat, hasL os ls t = true ↔ ∃ i ∈ ls, (t : Int) ∈ (os.getD i.toNat ([], 0)).1 := fun t => by
    unfold hasL
    simp [List.any_eq_true]
  constructor
  · intro h t t0 t1
    have := (key t.toNat).mp (h t.toNat (by omega))
    rw [Int.toNat_of_nonneg t0] at this
    exact this
  · intro h i hi
    exact (key i).mpr (h i (by omega) (by omega))
noncomputable def trD (m : Int) (os : List (List Int × Int)) (ls : List Int) : D := .tup [.int (pr os ls), tI ls, .int (bv (hasL os ls) m.toNat)]
theorem bv_none {p : Nat → Bool} (h : ∀ i, p i = false) : ∀ n, bv p n = 0
  | 0 => rfl
  | n + 1 => by
    unfold bv
    rw [bv_none h n, h n]
    rfl
theorem beq_cast (a b : Nat) : ((a : Int) == (b : Int)) = (a == b) := by
  rw [Bool.eq_iff_iff, beq_iff_eq, beq_iff_eq]
  omega
section
variable {g g1 g' : FS} {t : FT} {a : FE} {fs fi : FA} {gt : D → Sd → M Sd} {sd : Sd} {i : Nat} {h : Hh} {P : Out → Hh → Prop} {ds : List D} {d : D}
theorem wp_thenS (q : wp (a sd) h fun d h' => wp (g' (sd.set i (some d))) h' P) : wp (sThen (sSet i a) g' sd) h P := by
  rw [e_sThen, e_sSet, bind_assoc, wp_bind]
  exact q
theorem wp_forP (e : fi sd = pure ds) (q : wp (fLoop (fun x sd => do let sd1 ← gt x sd; g sd1) ds sd) h fun o h' => wp (andThen o g') h' P) : wp (sThen (sFor fi gt g) g' sd) h P := by
  rw [e_sThen, e_sFor, e, pure_bind, wp_bind]
  exact q
theorem wp_ifF (q : wp (t sd) h fun c h' => c = false ∧ wp (g' sd) h' P) : wp (sThen (sIf t g1 sNil) g' sd) h P := by
  rw [e_sThen, e_sIf, bind_assoc, wp_bind]
  refine wp_mono q ?_
  rintro c h' ⟨rfl, q⟩
  exact q
end
end L3
namespace K84
open PySem PySem.Spec PyProof.Rows L2 L3 LT
set_option hygiene false in
local macro_rules | `(tactic| ac_nf0) => `(tactic| simp only [e_sThen, e_sSet, e_sAsg, e_sRet, e_sIf, e_sFor, e_sExpr, e_sNil, e_cApp, e_aCons, e_aNil, e_cOp, e_cUn, e_cK, e_var0, e_varS, pure_bind, bind_assoc, e_nx, e_rt, e_ort, e_onx, List.set, e_tCmp, e_tVal, e_tNot, e_tAnd, e_tOr, e_cAnd, e_cOr, e_cNot, e_cIf, e_cTup, e_cLst, e_cLstC, e_bool, e_call1, e_call2, e_call3, e_addI, e_ixT, e_ixL, e_at0, e_at1, e_ofO, e_lenT, e_lenL, e_itT, e_itL, e_iSq, e_iRng, e_gSet, e_gtup2, e_gscons, e_gsnil, e_tupL, e_tupT, wp_bind, wp_pure, wp_new, List.length_cons, List.length_nil, List.length_map, Nat.zero_add, Nat.reduceAdd, Nat.reduceLeDiff, fits_ok, offD, tI, e_cExtend, e_alive, e_extend, e_pick, e_sRaise, raise_bind, noX_pure, e_cSl, e_oNone, e_oSome, e_part, e_slT, e_rev, e_neg, e_addT, e_addL, e_lstT, e_max, e_sub, e_gt, if_true, Bool.not_true, Bool.not_false, Bool.false_eq_true, if_false, List.length_append, List.cons_append, List.nil_append, e_snox, e_cnox])
variable {m : Int} {os : List (List Int × Int)}
theorem tog_loop {n : Nat} {s0 : Option D} : ∀ (os : List (List Int × Int)) {h : Hh} {xs : List Int} {x2 : Option D} {P : Out → Hh → Prop}, h[n]? = some (.lst (xs.map D.int)) → xs.length + (os.flatMap (·.1)).length ≤ 1000 →
    (∀ x2' h', (∀ k, k ≠ n → h'[k]? = h[k]?) → h'.length = h.length → h'[n]? = some (.lst ((xs ++ os.flatMap (·.1)).map D.int)) → P (.nx [s0, some (.cel n), x2']) h') →
    wp (fLoop (fun x sd => do let sd1 ← gSet 2 x sd; B_things_together_1 sd1) (os.map offD) [s0, some (.cel n), x2]) h P
  | [], h, xs, x2, P, e, _, k => by
    rw [List.map_nil, e_floop0, wp_pure]
    exact k x2 h (fun _ _ => rfl) rfl (by simpa using e)
  | o :: os, h, xs, x2, P, e, hl, k => by
    have hln := (List.getElem?_eq_some_iff.mp e).1
    rw [List.flatMap_cons, List.length_append] at hl
    have ih := fun (x2' : Option D) => tog_loop (s0 := s0) (n := n) os (h := h.set n (.lst ((xs ++ o.1).map D.int))) (xs := xs ++ o.1) (x2 := x2') (P := P) (List.getElem?_set_self hln) (by rw [List.length_append]; omega) fun x2'' h' h1 h2 h3 => k x2'' h' (fun j hj => (h1 j hj).trans (List.getElem?_set_ne (Ne.symm hj))) (h2.trans (List.length_set ..)) (by rw [h3, List.flatMap_cons, List.append_assoc])
    rw [List.map_cons, e_floop]
    generalize fLoop (fun x sd => do let sd1 ← gSet 2 x sd; B_things_together_1 sd1) (os.map offD) = rest at ih ⊢
    have f := fits_ok (show (xs.map D.int).length + (o.1.map D.int).length ≤ 1000 by rw [List.length_map, List.length_map]; omega)
    simp only [List.length_map] at f
    simp only [B_things_together_1]
    ac_nf0
    simp only [wp_bind, wp_get e, wp_pure, List.length_map, f, wp_put, ← List.map_append]
    exact ih _
theorem tog_ev {d : D} {os : List (List Int × Int)} {m : Int} (hd : dItems d = pure (os.map offD)) (m0 : 0 ≤ m) (m1 : m ≤ 60) (hl : (os.flatMap (·.1)).length ≤ 1000) (b : ∀ o ∈ os, ∀ x ∈ o.1, 0 ≤ x ∧ x < m) : Ev (F_things_together [d]) (tI (setI (os.flatMap (·.1)))) := by
  refine .of_wp fun h => ?_
  rw [d_things_together]
  simp only [G_things_together]
  ac_nf0
  simp only [hd, wp_pure]
  refine tog_loop os (xs := []) (by simp) (by simpa using hl) fun x2 h' h1 h2 h3 => ?_
  ac_nf0
  have bb : ∀ x ∈ os.flatMap (·.1), 0 ≤ x ∧ x < m := fun x hx => by
    obtain ⟨o, ho, hx⟩ := List.mem_flatMap.mp hx
    exact b o ho x hx
  refine sortset_cell (by simpa using h3) (dedup_short m0 m1 bb) (by omega) ?_
  ac_nf0
  refine ⟨trivial, ⟨[.lst ((os.flatMap (·.1)).map D.int)], List.ext_getElem? fun j => ?_⟩⟩
  by_cases hj : j = h.length
  · subst hj
    rw [h3]
    simp
  · rw [h1 j hj]
    by_cases hlt : j < h.length
    · rw [List.getElem?_append_left hlt, List.getElem?_append_left hlt]
    · rw [List.getElem?_eq_none (by simp; omega), List.getElem?_eq_none (by simp; omega)]
theorem flat_len {os : List (List Int × Int)} {n : Nat} (h : ∀ o ∈ os, o.1.length ≤ n) : (os.flatMap (·.1)).length ≤ os.length * n := by
  induction os with
  | nil => simp
  | cons o r ih =>
    rw [List.flatMap_cons, List.length_append, List.length_cons, Nat.succ_mul]
    have a1 := h o List.mem_cons_self
    have a2 := ih fun x hx => h x (List.mem_cons_of_mem _ hx)
    omega
theorem all_ev (s : Stk m os) {d : D} {os' : List (List Int × Int)} (hd : dItems d = pure (os'.map offD)) (hl : os'.length ≤ 12) (hs : ∀ o ∈ os', o ∈ os) : Ev (F_have_all [stkD m os, d]) (.bl (((setI (os'.flatMap (·.1))).length : Int) == m)) := by
  have tg := tog_ev hd (m := m) (by have := s.m0; omega) (by have := s.m1; omega) (by have := flat_len (os := os') (n := 10) fun o ho => s.olen o (hs o ho); omega) fun o ho => s.bd o (hs o ho)
  refine .of_wp fun h => ?_
  rw [d_have_all]
  simp only [G_have_all, stkD]
  ac_nf0
  refine tg.wp fun h' g => ?_
  ac_nf0
  rw [dEqI]
  ac_nf0
  exact ⟨trivial, g⟩
noncomputable def hasT (t : Int) (o : List Int × Int) : Bool := o.1.any (· == t)
noncomputable def leftI (m : Int) (os : List (List Int × Int)) : List Int := ((List.range m.toNat).map fun (k : Nat) => (k : Int)).filter fun t => (os.filter (hasT t)).isEmpty
theorem stk_go {m : Int} {os : List (List Int × Int)} (m0 : 1 ≤ m) (m1 : m ≤ 10) (hl : os.length ≤ 12) (h : ∀ o ∈ os, Go m o) : Stk m os :=
  ⟨m0, m1, hl, fun o ho => (h o ho).1, fun o ho => (h o ho).2.1, fun o ho => (h o ho).2.2.1, fun o ho => (h o ho).2.2.2⟩
theorem ones_ok {fi : FA} {src : List (Option Nat)} {sd : Sd} {t : Int} (hi : fi sd = pure (os.map offD)) (hl : os.length ≤ 1000) (eb : bStartD src sd = [none, some (.int t)]) : dComp fi (gSet 0) C__law_full_1 E__law_full_1 src sd = pure (.lst ((os.filter (hasT t)).map offD)) := by
  rw [← filterMap_if]
  refine dComp_src hi hl fun o ho => ?_
  rw [eb]
  simp only [cTurn, C__law_full_1, E__law_full_1]
  ac_nf0
  rw [dIn_ints]
  ac_nf0
  unfold hasT
  split <;> rfl
theorem left_comp {fi : FA} {tc : FT} {src : List (Option Nat)} {sd : Sd} {x : Option D} (hi : fi sd = pure (rngD 0 m.toNat)) (m1 : m ≤ 1000) (eb : bStartD src sd = [none, x]) (hc : ∀ t : Int, tc [some (.int t), x] = pure ((os.filter (hasT t)).isEmpty)) : dComp fi (gSet 0) tc (dVar 0) src sd = pure (.lst ((leftI m os).map D.int)) := by
  unfold leftI
  rw [← filterMap_if]
  refine dComp_src (by rw [hi, rng_ints]) (by simp; omega) fun t ht => ?_
  rw [eb]
  simp only [cTurn]
  ac_nf0
  rw [hc]
  ac_nf0
  split <;> rfl
theorem left_full (s : Stk m os) : (leftI m os).isEmpty = (((setI (os.flatMap (·.1))).length : Int) == m) := by
  have m0 := s.m0
  rw [← full_up (by omega) (setI_up _) fun x hx => by
    obtain ⟨o, ho, hx⟩ := List.mem_flatMap.mp (setI_mem.mp hx)
    exact s.bd o ho x hx]
  rw [Bool.eq_iff_iff, beq_iff_eq, List.isEmpty_iff]
  unfold leftI
  rw [List.filter_eq_nil_iff]
  constructor
  · intro h
    refine up_eq (setI_up _) (rangeI_up _) fun k => ?_
    rw [setI_mem]
    constructor
    · intro hk
      obtain ⟨o, ho, hx⟩ := List.mem_flatMap.mp hk
      have := s.bd o ho k hx
      exact List.mem_map.mpr ⟨k.toNat, List.mem_range.mpr (by omega), by omega⟩
    · intro hk
      have := h k hk
      rw [List.isEmpty_iff] at this
      obtain ⟨o, ho⟩ := List.exists_mem_of_ne_nil _ this
      obtain ⟨h1, h2⟩ := List.mem_filter.mp ho
      exact List.mem_flatMap.mpr ⟨o, h1, by simpa [hasT] using h2⟩
  · intro e t ht
    rw [← e, setI_mem] at ht
    obtain ⟨o, ho, hx⟩ := List.mem_flatMap.mp ht
    rw [List.isEmpty_iff]
    intro z
    have : o ∈ os.filter (hasT t) := List.mem_filter.mpr ⟨ho, by simpa [hasT] using hx⟩
    rw [z] at this
    cases this
theorem est1 : dIx (stkD m os) (.int 1) = pure (.tup (os.map offD)) := rfl
theorem est0 : dIx (stkD m os) (.int 0) = pure (.int m) := rfl
theorem full_ev (s : Stk m os) : Ev (F_is_full [stkD m os]) (.bl (leftI m os).isEmpty) := by
  rw [left_full s]
  refine .of_wp fun h => ?_
  rw [d_is_full]
  simp only [G_is_full]
  ac_nf0
  rw [est1]
  ac_nf0
  refine (all_ev s (d := .tup (os.map offD)) rfl s.len fun o ho => ho).wp fun h' g => ?_
  ac_nf0
  exact ⟨trivial, g⟩
theorem need_ev (s : Stk m os) (hf : (leftI m os).isEmpty = true) : Ev (F_need_full [stkD m os]) .non := by
  refine .of_wp fun h => ?_
  rw [d_need_full]
  simp only [G_need_full]
  ac_nf0
  refine (full_ev s).wp fun h' g => ?_
  rw [hf]
  ac_nf0
  exact ⟨trivial, g⟩
theorem left_ins (s : Stk m os) {a : Nat} {p : Int} : (leftI m (os.take a ++ [(leftI m os, p)] ++ os.drop a)).isEmpty = true := by
  rw [List.isEmpty_iff]
  unfold leftI
  rw [List.filter_eq_nil_iff]
  intro t ht
  rw [List.isEmpty_iff]
  intro z
  by_cases c : (os.filter (hasT t)).isEmpty = true
  · have h1 : t ∈ leftI m os := List.mem_filter.mpr ⟨ht, c⟩
    have h2 : (leftI m os, p) ∈ (os.take a ++ [(leftI m os, p)] ++ os.drop a).filter (hasT t) := List.mem_filter.mpr ⟨by simp, by simpa [hasT] using h1⟩
    unfold leftI at h2
    rw [z] at h2
    cases h2
  · rw [List.isEmpty_iff] at c
    obtain ⟨o, ho⟩ := List.exists_mem_of_ne_nil _ c
    obtain ⟨h1, h2⟩ := List.mem_filter.mp ho
    have h3 : o ∈ os.take a ++ os.drop a := by rw [List.take_append_drop]; exact h1
    have h4 : o ∈ (os.take a ++ [(leftI m os, p)] ++ os.drop a).filter (hasT t) := List.mem_filter.mpr ⟨by
      rcases List.mem_append.mp h3 with w | w
      · simp [w]
      · simp [w], h2⟩
    unfold leftI at h4
    rw [z] at h4
    cases h4
theorem full_wp {h : Hh} {b : Nat} {mt mo : Int} {P : D → Hh → Prop} (q : Bx b h) (t0 : 1 ≤ mt) (t1 : mt ≤ 10) (o0 : 1 ≤ mo) (o1 : mo ≤ 12) (k : ∀ (m : Int) (os : List (List Int × Int)) h', Bx b h' → Stk m os → (leftI m os).isEmpty = true → (os.length : Int) ≤ mo → m ≤ mt → P (stkD m os) h') : wp (F__law_full [.cel b, .int mt, .int mo]) h P := by
  rw [d__law_full]
  simp only [G__law_full]
  ac_nf0
  refine stock_wp q t0 t1 (by omega) (by omega) fun m os h2 q2 m0 m1 ol ho => ?_
  have s := stk_go m0 (by omega) (by omega) ho
  have ec : dComp (iRng (aCons (dVar 3) aNil)) (gSet 0) C__law_full_2 E__law_full_2 [none, some 4] [some (.cel b), some (.int mt), some (.int mo), some (.int m), some (.tup (os.map offD)), none, none] = pure (.lst ((leftI m os).map D.int)) := by
    refine left_comp (x := some (.tup (os.map offD))) ?_ (by omega) rfl fun t => ?_
    · ac_nf0
      exact dRng_ok (by omega) (by omega)
    · have eo : dComp (iSq (dVar 1)) (gSet 0) C__law_full_1 E__law_full_1 [none, some 0] [some (.int t), some (.tup (os.map offD))] = pure (.lst ((os.filter (hasT t)).map offD)) := ones_ok rfl (by omega) rfl
      simp only [C__law_full_2]
      ac_nf0
      rw [eo]
      ac_nf0
      rw [dEq_offs]
      ac_nf0
  simp only [stkD]
  ac_nf0
  rw [ec]
  ac_nf0
  refine take_wp q2 (by omega) (by omega) fun a h3 a0 a1 x3 => ?_
  have en := dNe_nilI (leftI m os)
  unfold tI at en
  ac_nf0
  rw [en]
  ac_nf0
  cases hf : (leftI m os).isEmpty with
  | true =>
    ac_nf0
    exact k m os h3 x3.1 s hf (by omega) m1
  | false =>
    ac_nf0
    refine take_wp x3.1 (by decide) (by decide) fun t h4 u0 u1 x4 => ?_
    have f1 := fits_ok (show (List.take a.toNat (os.map offD)).length + 1 ≤ 1000 by simp; omega)
    have f2 := fits_ok (show (List.take a.toNat (os.map offD)).length + 1 + (List.drop a.toNat (os.map offD)).length ≤ 1000 by simp; omega)
    ac_nf0
    simp only [cut_take _ a0, cut_drop _ a0, f1, f2]
    ac_nf0
    have hs : Stk m (os.take a.toNat ++ [(leftI m os, 1 + t)] ++ os.drop a.toNat) := by
      refine stk_go m0 (by omega) (by simp; omega) fun o hmem => ?_
      have hm : o ∈ os ∨ o = (leftI m os, 1 + t) := by
        simp only [List.mem_append, List.mem_singleton] at hmem
        rcases hmem with (w | w) | w
        · exact .inl (List.mem_of_mem_take w)
        · exact .inr w
        · exact .inl (List.mem_of_mem_drop w)
      rcases hm with w | rfl
      · exact ho o w
      · refine ⟨(rangeI_up _).filter _, fun x hx => ?_, fun z => ?_, by show (0 : Int) < 1 + t; omega⟩
        · have := rangeI_bd x (List.mem_filter.mp hx).1
          omega
        · have z : leftI m os = [] := z
          rw [z] at hf
          cases hf
    have hk := k _ _ h4 x4.1 hs (left_ins s) (by simp; omega) m1
    simp only [stkD, List.map_append, List.map_cons, List.map_nil, List.map_take, List.map_drop, offD, tI] at hk
    simpa using hk
theorem whole_ok {d : D} (k : kn d = true) : F_is_whole [d] = pure (.bl (isI d)) := by
  rw [d_is_whole]
  simp only [G_is_whole, e_sRet, e_cAnd, e_cUn, e_var0, pure_bind, bind_assoc, isIB_ok k, isB_ok k, e_bool, e_cNot]
  cases d <;> simp [isI]
theorem rise_loop {m : Int} {x0 : Option D} : ∀ {ds : List D} {l : Int} {x3 : Option D}, (∀ d ∈ ds, kn d = true) →
    (pRise m l ds = true → ∃ sd', fLoop (fun x sd => do let sd1 ← gSet 3 x sd; B_is_rising_1 sd1) ds [x0, some (.int m), some (.int l), x3] = pure (.nx sd')) ∧
    (pRise m l ds = false → fLoop (fun x sd => do let sd1 ← gSet 3 x sd; B_is_rising_1 sd1) ds [x0, some (.int m), some (.int l), x3] = pure (.rt (.bl false)))
  | [], l, x3, _ => ⟨fun _ => ⟨_, rfl⟩, fun h => by simp [pRise] at h⟩
  | d :: r, l, x3, hk => by
    have kd := hk d List.mem_cons_self
    have step : ∀ {i : Int}, d = .int i → (do let sd1 ← gSet 3 d [x0, some (.int m), some (.int l), x3]; B_is_rising_1 sd1) = if (decide (l ≤ i) && decide (i < m)) = true then pure (.nx [x0, some (.int m), some (.int (i + 1)), some (.int i)]) else pure (.rt (.bl false)) := by
      intro i e
      subst e
      simp only [B_is_rising_1, e_gSet, List.set, pure_bind, bind_assoc, e_sThen, e_sIf, e_tOr, e_tNot, e_tVal, e_cApp, e_aCons, e_aNil, e_varS, e_var0, e_call1, whole_ok (show kn (.int i) = true from rfl), e_bool, isI, e_tCmp, e_lt, e_ge, e_sRet, e_cK, e_sNil]
      by_cases h1 : l ≤ i
      · by_cases h2 : i < m
        · have h1' : ¬ i < l := by omega
          have h2' : ¬ m ≤ i := by omega
          simp [h1, h2, h1', h2']
        · have h1' : ¬ i < l := by omega
          have h2' : m ≤ i := by omega
          simp [h1, h2, h1', h2']
      · have h1' : i < l := by omega
        simp [h1, h1']
    by_cases hi : isI d = true
    · obtain ⟨i, e⟩ : ∃ i, d = .int i := by cases d <;> simp [isI] at hi; exact ⟨_, rfl⟩
      have s1 := step e
      subst e
      have ih := rise_loop (m := m) (x0 := x0) (ds := r) (l := i + 1) (x3 := some (.int i)) fun y hy => hk y (List.mem_cons_of_mem _ hy)
      rw [e_floop, s1]
      by_cases c : (decide (l ≤ i) && decide (i < m)) = true
      · have er : pRise m l (.int i :: r) = pRise m (i + 1) r := by rw [pRise, c]; simp
        rw [er]
        simp only [c, if_true, pure_bind]
        exact ih
      · have er : pRise m l (.int i :: r) = false := by rw [pRise, Bool.eq_false_iff.mpr c]; simp
        rw [er]
        simp only [Bool.eq_false_iff.mpr c, if_false, pure_bind, Bool.false_eq_true]
        simp
    · have hi' : isI d = false := Bool.eq_false_iff.mpr hi
      have er : pRise m l (d :: r) = false := by cases d <;> simp [isI] at hi' <;> rfl
      rw [er, e_floop]
      refine ⟨fun h => (by cases h), fun _ => ?_⟩
      simp only [B_is_rising_1, e_gSet, List.set, pure_bind, bind_assoc, e_sThen, e_sIf, e_tOr, e_tNot, e_tVal, e_cApp, e_aCons, e_aNil, e_varS, e_var0, e_call1, whole_ok kd, e_bool, hi', e_sRet, e_cK, e_sNil]
      simp
theorem rising_ok {d : D} {m : Int} (k : kn d = true) (hk : ∀ ds, d = .tup ds → ∀ x ∈ ds, kn x = true) : F_is_rising [d, .int m] = pure (.bl (match d with | .tup ds => pRise m 0 ds | _ => false)) := by
  rw [d_is_rising]
  simp only [G_is_rising, e_sThen, e_sIf, e_tNot, e_tVal, e_cUn, e_var0, pure_bind, bind_assoc, isT_ok k, e_bool]
  cases d with
  | tup ds =>
    simp only [isT, Bool.not_true, Bool.false_eq_true, if_false, e_sNil, pure_bind, e_nx, e_sThen, e_sSet, e_cK, List.set, e_sFor, e_iSq, e_var0, e_itT, bind_assoc]
    have := rise_loop (m := m) (x0 := some (.tup ds)) (ds := ds) (l := 0) (x3 := none) (hk ds rfl)
    cases c : pRise m 0 ds with
    | true =>
      obtain ⟨sd', e⟩ := this.1 c
      rw [e]
      simp
    | false =>
      rw [this.2 c]
      simp
  | _ => simp [isT]
theorem lot_ok (s : Stk m os) {d : D} (g : gk d) : F_is_lot [stkD m os, d] = pure (.bl (pLot os.length d)) := by
  rw [d_is_lot]
  simp only [G_is_lot, stkD]
  ac_nf0
  rw [rising_ok g.1 fun ds e => (g.2 ds e).2]
  ac_nf0
  cases d <;> rfl
theorem need_ok (s : Stk m os) {d : D} (g : gk d) (hp : pLot os.length d = true) : F_need_lot [stkD m os, d] = pure .non := by
  rw [d_need_lot]
  simp only [G_need_lot]
  ac_nf0
  rw [lot_ok s g, hp]
  ac_nf0
theorem offers_ok (s : Stk m os) {ls : List Int} (hu : ls.Pairwise (· < ·)) (b : ∀ x ∈ ls, 0 ≤ x ∧ x < os.length) : F_offers_of [stkD m os, tI ls] = pure (.lst ((offsL os ls).map offD)) := by
  have hl := up_len (m := os.length) (by omega) hu b
  have hls : ls.length ≤ 12 := by have := s.len; omega
  have hp : pLot os.length (tI ls) = true := rise_ints.mpr ⟨hu, b⟩
  rw [d_offers_of]
  simp only [G_offers_of]
  ac_nf0
  have e := need_ok s (d := tI ls) (gk_tI (by omega)) hp
  unfold tI at e
  rw [e]
  ac_nf0
  rw [dComp_map (ds := ls.map D.int) (k := fun d => match d with | .int i => offD (os.getD i.toNat ([], 0)) | d => d) rfl (by rw [List.length_map]; omega) ?_]
  · ac_nf0
    unfold offsL
    rw [List.map_map, List.map_map]
    rfl
  · intro x hx
    obtain ⟨i, hi, rfl⟩ := List.mem_map.mp hx
    have eb : bStartD [none, some 0] [some (stkD m os), some (D.tup (ls.map D.int))] = [none, some (stkD m os)] := rfl
    rw [eb]
    simp only [cTurn, E_offers_of_1, stkD]
    ac_nf0
    rw [atI_off (b i hi).1 (b i hi).2]
    ac_nf0
noncomputable def Lt (os : List (List Int × Int)) (ls : List Int) : Prop := ls.Pairwise (· < ·) ∧ ∀ x ∈ ls, 0 ≤ x ∧ x < os.length
theorem Lt.sub {ls ks : List Int} (h : Lt os ls) (s : ks.Sublist ls) : Lt os ks := ⟨h.1.sublist s, fun x hx => h.2 x (s.subset hx)⟩
theorem Lt.lot {ls : List Int} (h : Lt os ls) : pLot os.length (tI ls) = true := rise_ints.mpr h
theorem Lt.len {ls : List Int} (h : Lt os ls) (s : Stk m os) : ls.length ≤ 12 := by
  have := up_len (m := os.length) (by omega) h.1 h.2
  have := s.len
  omega
theorem bits_loop {s0 : Option D} {d : D} {p : Nat → Bool} : ∀ (r j : Nat) (x3 : Option D), (∀ t : Nat, t < j + r → dIn (.int (t : Int)) d = pure (.bl (p t))) →
    ∃ y3, fLoop (fun x sd => do let sd1 ← gSet 3 x sd; B_bits_of_1 sd1) (rngD j r) [s0, some d, some (.int (bv p j)), x3] = pure (.nx [s0, some d, some (.int (bv p (j + r))), y3])
  | 0, j, x3, _ => ⟨x3, rfl⟩
  | r + 1, j, x3, hd => by
    obtain ⟨y3, ih⟩ := bits_loop (s0 := s0) (d := d) (p := p) r (j + 1) (some (.int j)) fun t ht => hd t (by omega)
    refine ⟨y3, ?_⟩
    have e1 : ((j + 1 : Nat) : Int) = (j : Int) + 1 := by omega
    have e2 : j + 1 + r = j + (r + 1) := by omega
    rw [e1, e2] at ih
    rw [rng_cons, e_floop, ← ih]
    generalize fLoop (fun x sd => do let sd1 ← gSet 3 x sd; B_bits_of_1 sd1) (rngD ((j : Int) + 1) r) = rest
    simp only [B_bits_of_1]
    ac_nf0
    rw [dMul_r (by decide) (by decide)]
    ac_nf0
    rw [hd j (by omega)]
    ac_nf0
    have eb : bv p (j + 1) = bv p j * 2 + (if p j = true then 1 else 0) := rfl
    rw [eb]
    cases p j
    · ac_nf0
      simp
    · ac_nf0
      simp
theorem bits_ok {d : D} {p : Nat → Bool} (m0 : 0 ≤ m) (m1 : m < 1000) (hd : ∀ t : Nat, t < m.toNat → dIn (.int (t : Int)) d = pure (.bl (p t))) : F_bits_of [.int m, d] = pure (.int (bv p m.toNat)) := by
  obtain ⟨y3, el⟩ := bits_loop (s0 := some (.int m)) (d := d) (p := p) m.toNat 0 none fun t ht => hd t (by omega)
  rw [Nat.zero_add] at el
  have e0 : ((bv p 0 : Nat) : Int) = 0 := rfl
  rw [e0] at el
  rw [d_bits_of]
  simp only [G_bits_of]
  ac_nf0
  rw [dRng_ok m0 m1]
  simp only [e_gSet, pure_bind, Int.natCast_zero] at el
  ac_nf0
  rw [el]
  ac_nf0
theorem every_ok (m0 : 0 ≤ m) (m1 : m < 1000) : F_bits_of [.int m, .lst (rngD 0 m.toNat)] = pure (.int (bv (fun _ => true) m.toNat)) := by
  refine bits_ok m0 m1 fun t ht => ?_
  rw [rng_ints, dInL_ints]
  congr 2
  rw [List.any_eq_true]
  exact ⟨(t : Int), List.mem_map.mpr ⟨t, List.mem_range.mpr ht, rfl⟩, by simp⟩
theorem known_body (s : Stk m os) (n9 : os.length ≤ 9) {r : Nat} (hr : r < os.length) {x3 x4 x5 : Option D} : ∃ y3 y4 y5, B_known_lots_1 [some (stkD m os), some (.lst ((kl os.length r).map (trD m os))), some (.int (((os.length - (r + 1) : Nat)) : Int)), x3, x4, x5] = pure (.nx [some (stkD m os), some (.lst ((kl os.length (r + 1)).map (trD m os))), some (.int (((os.length - (r + 1) : Nat)) : Int)), y3, y4, y5]) := by
  have m0 := s.m0
  have m1 := s.m1
  have hk := kl_len os.length r
  have hk9 : 2 ^ r ≤ 2 ^ 8 := Nat.pow_le_pow_right (by decide) (by omega)
  have hj : os.length - (r + 1) < os.length := by omega
  generalize hje : os.length - (r + 1) = j at hj
  have ea := atI_off (os := os) (i := (j : Int)) (by omega) (by omega)
  rw [Int.toNat_natCast] at ea
  have mo : os.getD j ([], 0) ∈ os := by simp [List.getD, hj]
  generalize ho : os.getD j ([], 0) = o at ea mo
  have lo := s.olen o mo
  have eb := bits_ok (m := m) (d := .tup (o.1.map D.int)) (p := fun t => o.1.any (· == (t : Int))) (by omega) (by omega) fun t _ => dIn_ints _ _
  have ec : dComp (iSq (dVar 1)) (gSet 0) (fun _ => pure true) E_known_lots_1 [none, some 3, some 2, some 4] [some (stkD m os), some (.lst ((kl os.length r).map (trD m os))), some (.int (j : Int)), some (.tup [.tup (o.1.map D.int), .int o.2]), some (.int (bv (fun t => o.1.any (· == (t : Int))) m.toNat)), x5] = pure (.lst (((kl os.length r).map fun ls => (j : Int) :: ls).map (trD m os))) := by
    rw [show ((kl os.length r).map fun ls => (j : Int) :: ls).map (trD m os) = (kl os.length r).filterMap fun ls => some (trD m os ((j : Int) :: ls)) by simp]
    refine dComp_src (g' := trD m os) rfl (by omega) fun ls hls => ?_
    obtain ⟨h1, h2⟩ := (kl_mem os.length r ls (by omega)).mp hls
    have ll := up_len (m := os.length) (by omega) h1 fun x hx => by have := h2 x hx; omega
    have f := fits_ok (show 1 + ls.length ≤ 1000 by omega)
    have ebs : bStartD [none, some 3, some 2, some 4] [some (stkD m os), some (.lst ((kl os.length r).map (trD m os))), some (.int (j : Int)), some (.tup [.tup (o.1.map D.int), .int o.2]), some (.int (bv (fun t => o.1.any (· == (t : Int))) m.toNat)), x5] = [none, some (.tup [.tup (o.1.map D.int), .int o.2]), some (.int (j : Int)), some (.int (bv (fun t => o.1.any (· == (t : Int))) m.toNat))] := rfl
    have e2 : ∀ a b c : D, atI [a, b, c] 2 = some c := fun a b c => rfl
    have eo : dOr (.int (bv (fun t => o.1.any (· == (t : Int))) m.toNat)) (.int (bv (hasL os ls) m.toNat)) = pure (.int (bv (hasL os ((j : Int) :: ls)) m.toNat)) := by
      show (pure (D.int (Builtin.bitOr _ _)) : M D) = _
      rw [or_nat, bv_or]
      congr 3
      refine bv_congr fun i _ => ?_
      unfold hasL
      rw [List.any_cons, Int.toNat_natCast, ho]
    have ep : pr os ((j : Int) :: ls) = o.2 + pr os ls := by
      unfold pr
      rw [List.map_cons, List.sum_cons, Int.toNat_natCast, ho]
    rw [ebs]
    simp only [cTurn, E_known_lots_1, trD]
    ac_nf0
    simp only [e2, f]
    ac_nf0
    rw [eo, ep]
    ac_nf0
    rfl
  refine ⟨some (.tup [.tup (o.1.map D.int), .int o.2]), some (.int (bv (fun t => o.1.any (· == (t : Int))) m.toNat)), some (.lst (((kl os.length r).map fun ls => (j : Int) :: ls).map (trD m os))), ?_⟩
  have fk : (kl os.length (r + 1)).length ≤ 1000 := by
    rw [kl_len]
    have : 2 ^ (r + 1) ≤ 2 ^ 9 := Nat.pow_le_pow_right (by decide) (by omega)
    omega
  have ek : kl os.length (r + 1) = (kl os.length r).take 1 ++ (kl os.length r).map (fun ls => (j : Int) :: ls) ++ (kl os.length r).drop 1 := by
    rw [← hje]
    rfl
  have f1 := fits_ok (show (((kl os.length r).map (trD m os)).take 1).length + ((kl os.length r).map fun ls => (j : Int) :: ls).length ≤ 1000 by simp only [List.length_take, List.length_map, hk]; omega)
  have f2 := fits_ok (show (((kl os.length r).map (trD m os)).take 1 ++ ((kl os.length r).map fun ls => (j : Int) :: ls).map (trD m os)).length + (((kl os.length r).map (trD m os)).drop 1).length ≤ 1000 by simp only [List.length_append, List.length_take, List.length_drop, List.length_map, hk]; omega)
  have es : ∀ (ds : List D) (lo hi : Option Int), dSl (.lst ds) lo hi = pure (.lst (cutD ds lo hi)) := fun _ _ _ => rfl
  simp only [B_known_lots_1]
  ac_nf0
  rw [est1]
  ac_nf0
  rw [ea]
  ac_nf0
  rw [est0]
  ac_nf0
  rw [eb]
  ac_nf0
  rw [ec]
  ac_nf0
  simp only [es, cut_take _ (show (0 : Int) ≤ 1 by decide), cut_drop _ (show (0 : Int) ≤ 1 by decide)]
  ac_nf0
  rw [show (1 : Int).toNat = 1 from rfl]
  simp only [e_addL, List.length_map, List.length_append] at f1 f2 ⊢
  rw [f1]
  ac_nf0
  rw [f2]
  ac_nf0
  rw [ek, List.map_append, List.map_append, List.map_take, List.map_drop]
theorem known_loop (s : Stk m os) (n9 : os.length ≤ 9) : ∀ (k r : Nat) (x2 x3 x4 x5 : Option D), k + r = os.length →
    ∃ y2 y3 y4 y5, fLoop (fun x sd => do let sd1 ← gSet 2 x sd; B_known_lots_1 sd1) (dwnD ((k : Int) - 1) k) [some (stkD m os), some (.lst ((kl os.length r).map (trD m os))), x2, x3, x4, x5] = pure (.nx [some (stkD m os), some (.lst ((kl os.length os.length).map (trD m os))), y2, y3, y4, y5])
  | 0, r, x2, x3, x4, x5, h => ⟨x2, x3, x4, x5, by
    have : r = os.length := by omega
    subst this
    rfl⟩
  | k + 1, r, x2, x3, x4, x5, h => by
    obtain ⟨z3, z4, z5, eb⟩ := known_body s n9 (r := r) (by omega) (x3 := x3) (x4 := x4) (x5 := x5)
    obtain ⟨y2, y3, y4, y5, ih⟩ := known_loop s n9 k (r + 1) (some (.int (k : Int))) z3 z4 z5 (by omega)
    refine ⟨y2, y3, y4, y5, ?_⟩
    have e1 : ((k + 1 : Nat) : Int) - 1 = (k : Int) := by omega
    have e2 : os.length - (r + 1) = k := by omega
    rw [e2] at eb
    rw [e1, dwn_cons, e_floop, ← ih]
    show (do let o ← B_known_lots_1 [some (stkD m os), some (.lst ((kl os.length r).map (trD m os))), some (.int (k : Int)), x3, x4, x5]; _ : M Out) = _
    rw [eb]
    rfl
theorem known_ok (s : Stk m os) (n9 : os.length ≤ 9) : F_known_lots [stkD m os] = pure (.lst ((kl os.length os.length).map (trD m os))) := by
  obtain ⟨y2, y3, y4, y5, el⟩ := known_loop s n9 os.length 0 none none none none (by omega)
  have e0 : (kl os.length 0).map (trD m os) = [.tup [.int 0, .tup [], .int 0]] := by
    show [trD m os []] = _
    unfold trD
    rw [bv_none (p := hasL os []) (fun _ => rfl)]
    rfl
  rw [e0] at el
  have er : dRng3 [.int ((os.length : Int) - 1), .int (-1), .int (-1)] = pure (dwnD ((os.length : Int) - 1) os.length) := by
    show (if (-1000 ≤ (os.length : Int) - 1 ∧ (os.length : Int) - 1 < 1000 ∧ (-1000 : Int) ≤ -1 ∧ (-1 : Int) < 1000) ∧ (-1 : Int) = -1 then (pure (dwnD ((os.length : Int) - 1) ((os.length : Int) - 1 - -1).toNat) : M (List D)) else M.bad) = _
    rw [if_pos ⟨⟨by omega, by omega, by omega, by omega⟩, rfl⟩]
    congr 2
    omega
  have ei : ∀ (fs : FA) (sd : Sd), iRng3 fs sd = (do let ds ← fs sd; dRng3 ds) := fun _ _ => rfl
  simp only [e_gSet, pure_bind] at el
  rw [d_known_lots]
  simp only [G_known_lots]
  ac_nf0
  simp only [ei]
  ac_nf0
  rw [est1]
  ac_nf0
  rw [er]
  ac_nf0
  rw [el]
  ac_nf0
noncomputable def covL (m : Int) (os : List (List Int × Int)) : List (Int × List Int) := ((kl os.length os.length).filter (cvB m os)).map fun ls => (pr os ls, ls)
noncomputable def covP (m : Int) (os : List (List Int × Int)) : Int × List Int := (covL m os).getD (bestI (covL m os)) (0, [])
theorem priced_ok (s : Stk m os) (n9 : os.length ≤ 9) : F_priced_covers [stkD m os] = pure (.lst ((covL m os).map pD)) := by
  have m0 := s.m0
  have m1 := s.m1
  have hk := kl_len os.length os.length
  have hk9 : 2 ^ os.length ≤ 2 ^ 9 := Nat.pow_le_pow_right (by decide) n9
  have ec : dComp (iSq (cApp (callD 1 F_known_lots) (aCons (dVar 0) aNil))) (gSet 0) C_priced_covers_1 E_priced_covers_1 [none, some 1] [some (stkD m os), some (.int (bv (fun _ => true) m.toNat))] = pure (.lst ((covL m os).map pD)) := by
    unfold covL
    rw [List.map_map, ← filterMap_if]
    refine dComp_src (g' := trD m os) ?_ (by omega) fun ls hls => ?_
    · ac_nf0
      rw [known_ok s n9]
      ac_nf0
    · have eb : bStartD [none, some 1] [some (stkD m os), some (.int (bv (fun _ => true) m.toNat))] = [none, some (.int (bv (fun _ => true) m.toNat))] := rfl
      have e2 : ∀ a b c : D, atI [a, b, c] 2 = some c := fun a b c => rfl
      rw [eb]
      simp only [cTurn, C_priced_covers_1, E_priced_covers_1, trD]
      ac_nf0
      simp only [e2]
      ac_nf0
      rw [dEqI, beq_cast]
      ac_nf0
      unfold cvB
      split <;> rfl
  have el : dLstRngV (.int m) = pure (.lst (rngD 0 m.toNat)) := by
    show (if 0 ≤ m ∧ m < 1000 then _ else _) = _
    rw [if_pos ⟨by omega, by omega⟩]
  rw [d_priced_covers]
  simp only [G_priced_covers]
  ac_nf0
  rw [est0]
  ac_nf0
  rw [el]
  ac_nf0
  rw [every_ok (by omega) (by omega)]
  ac_nf0
  rw [ec]
  ac_nf0
theorem full_has (hf : (leftI m os).isEmpty = true) {t : Int} (t0 : 0 ≤ t) (t1 : t < m) : ∃ o ∈ os, t ∈ o.1 := by
  rw [List.isEmpty_iff] at hf
  unfold leftI at hf
  rw [List.filter_eq_nil_iff] at hf
  have h1 := hf t (List.mem_map.mpr ⟨t.toNat, List.mem_range.mpr (by omega), by omega⟩)
  rw [List.isEmpty_iff] at h1
  obtain ⟨o, ho⟩ := List.exists_mem_of_ne_nil _ h1
  obtain ⟨h2, h3⟩ := List.mem_filter.mp ho
  exact ⟨o, h2, by simpa [hasT] using h3⟩
theorem full_of (h : ∀ t : Int, 0 ≤ t → t < m → ∃ o ∈ os, t ∈ o.1) : (leftI m os).isEmpty = true := by
  rw [List.isEmpty_iff]
  unfold leftI
  rw [List.filter_eq_nil_iff]
  intro t ht z
  obtain ⟨k, hk, rfl⟩ := List.mem_map.mp ht
  have hk := List.mem_range.mp hk
  obtain ⟨o, ho, hx⟩ := h k (by omega) (by omega)
  rw [List.isEmpty_iff, List.filter_eq_nil_iff] at z
  exact z o ho (by simpa [hasT] using hx)
theorem covL_ne (s : Stk m os) (hf : (leftI m os).isEmpty = true) : covL m os ≠ [] := fun z => by
  have h1 : (List.range os.length).map (fun (k : Nat) => (k : Int)) ∈ (kl os.length os.length).filter (cvB m os) := by
    refine List.mem_filter.mpr ⟨(kl_mem _ _ _ (Nat.le_refl _)).mpr ⟨rangeI_up _, fun y hy => by have := rangeI_bd y hy; omega⟩, cov_iff.mpr fun t t0 t1 => ?_⟩
    obtain ⟨o, ho, hx⟩ := full_has hf t0 t1
    obtain ⟨j, hj, rfl⟩ := List.getElem_of_mem ho
    refine ⟨(j : Int), List.mem_map.mpr ⟨j, List.mem_range.mpr hj, rfl⟩, ?_⟩
    rw [Int.toNat_natCast]
    simpa [List.getD, hj] using hx
  have h2 : (pr os ((List.range os.length).map fun (k : Nat) => (k : Int)), (List.range os.length).map fun (k : Nat) => (k : Int)) ∈ covL m os := List.mem_map.mpr ⟨_, h1, rfl⟩
  rw [z] at h2
  cases h2
theorem cheapest_ev (s : Stk m os) (hf : (leftI m os).isEmpty = true) (n9 : os.length ≤ 9) : Ev (F_cheapest_cover [stkD m os]) (tI (covP m os).2) := by
  refine .of_wp fun h => ?_
  rw [d_cheapest_cover]
  simp only [G_cheapest_cover]
  ac_nf0
  refine (need_ev s hf).wp fun h' g => ?_
  have ep : dIx (pD (covP m os)) (.int 1) = pure (tI (covP m os).2) := rfl
  ac_nf0
  rw [priced_ok s n9]
  ac_nf0
  rw [dMin1_lst (covL_ne s hf), show (covL m os).getD (bestI (covL m os)) (0, []) = covP m os from rfl]
  ac_nf0
  rw [ep]
  ac_nf0
  exact ⟨g, trivial⟩
theorem price_ok (s : Stk m os) {ls : List Int} (L : Lt os ls) : F_price_of [stkD m os, tI ls] = pure (.int (pr os ls)) := by
  have ll := L.len s
  have e2 := offers_ok s L.1 L.2
  have h3 : (offsL os ls).length = ls.length := by unfold offsL; simp
  have ec : dComp (iSq (cApp (callD 2 F_offers_of) (aCons (dVar 0) (aCons (dVar 1) aNil)))) (gSet 0) (fun _ => pure true) E_price_of_1 [none] [some (stkD m os), some (tI ls)] = pure (.lst (((offsL os ls).map (·.2)).map D.int)) := by
    rw [show ((offsL os ls).map (·.2)).map D.int = (offsL os ls).filterMap fun o => some (.int o.2) by simp]
    refine dComp_src (g' := offD) ?_ (by omega) fun o _ => ?_
    · simp only [tI] at e2
      ac_nf0
      rw [e2]
      ac_nf0
    · have eb : bStartD [none] [some (stkD m os), some (tI ls)] = [none] := rfl
      rw [eb]
      simp only [cTurn, E_price_of_1]
      ac_nf0
  rw [d_price_of]
  simp only [G_price_of, e_sRet, e_cApp, e_aCons, e_aNil]
  rw [ec]
  simp only [pure_bind]
  rw [dSum_ok]
  unfold pr offsL
  rw [List.map_map]
  rfl
end K84
end
section
set_option maxHeartbeats 8000000
namespace L3
open PySem PySem.Spec PyProof.Rows L2 LT
noncomputable def MinV (ps : List (Int × List Int)) (v : Int) : Prop := (∃ q ∈ ps, q.1 = v) ∧ ∀ q ∈ ps, v ≤ q.1
theorem MinV.uniq {ps : List (Int × List Int)} {v w : Int} (a : MinV ps v) (b : MinV ps w) : v = w := by
  obtain ⟨⟨q, hq, rfl⟩, h1⟩ := a
  obtain ⟨⟨r, hr, rfl⟩, h2⟩ := b
  have := h1 r hr
  have := h2 q hq
  omega
theorem best_min {ps : List (Int × List Int)} (h : ps ≠ []) : MinV ps (ps.getD (bestI ps) (0, [])).1 ∧ ps.getD (bestI ps) (0, []) ∈ ps := by
  obtain ⟨h1, h2⟩ := best_spec h
  have hm : ps.getD (bestI ps) (0, []) ∈ ps := by simp [List.getD, h1]
  refine ⟨⟨⟨_, hm, rfl⟩, fun q hq => ?_⟩, hm⟩
  have := h2 q hq
  unfold pLt at this
  split at this
  · omega
  · rw [decide_eq_false_iff_not] at this
    omega
noncomputable def cvs (m : Int) (os : List (List Int × Int)) : List (List Int) := (kl os.length os.length).filter (cvB m os)
theorem cvs_mem {m : Int} {os : List (List Int × Int)} {ls : List Int} : ls ∈ cvs m os ↔ (ls.Pairwise (· < ·) ∧ ∀ y ∈ ls, 0 ≤ y ∧ y < (os.length : Int)) ∧ cvB m os ls = true := by
  unfold cvs
  rw [List.mem_filter, kl_mem _ _ _ (Nat.le_refl _)]
  simp
noncomputable def setP (os : List (List Int × Int)) (i : Nat) (p : Int) : List (List Int × Int) := os.set i ((os.getD i ([], 0)).1, p)
theorem setP_len {os : List (List Int × Int)} {i : Nat} {p : Int} : (setP os i p).length = os.length := by unfold setP; simp
theorem setP_get {os : List (List Int × Int)} {i j : Nat} {p : Int} (hi : i < os.length) : (setP os i p).getD j ([], 0) = if j = i then ((os.getD i ([], 0)).1, p) else os.getD j ([], 0) := by
  unfold setP
  by_cases e : j = i
  · subst e
    rw [if_pos rfl]
    simp [List.getD, hi]
  · rw [if_neg e]
    simp [List.getD, List.getElem?_set_ne (Ne.symm e)]
theorem setP_fst {os : List (List Int × Int)} {i j : Nat} {p : Int} (hi : i < os.length) : ((setP os i p).getD j ([], 0)).1 = (os.getD j ([], 0)).1 := by
  rw [setP_get hi]
  split
  · rename_i e
    rw [e]
  · rfl
theorem cvs_set {m : Int} {os : List (List Int × Int)} {i : Nat} {p : Int} (hi : i < os.length) : cvs m (setP os i p) = cvs m os := by
  unfold cvs
  rw [setP_len]
  refine List.filter_congr fun ls _ => ?_
  rw [Bool.eq_iff_iff, cov_iff, cov_iff]
  simp only [setP_fst hi]
theorem pr_set {os : List (List Int × Int)} {i : Nat} {p : Int} (hi : i < os.length) : ∀ {ls : List Int}, ls.Nodup → (∀ y ∈ ls, 0 ≤ y) → pr (setP os i p) ls = pr os ls + (if (i : Int) ∈ ls then p - (os.getD i ([], 0)).2 else 0)
  | [], _, _ => rfl
  | x :: r, hn, hb => by
    rw [List.nodup_cons] at hn
    have ih := pr_set (p := p) hi hn.2 fun y hy => hb y (List.mem_cons_of_mem _ hy)
    have hx := hb x List.mem_cons_self
    unfold pr at ih ⊢
    rw [List.map_cons, List.sum_cons, List.map_cons, List.sum_cons, ih, setP_get hi]
    by_cases e : x = (i : Int)
    · subst e
      rw [Int.toNat_natCast, if_pos rfl, if_neg hn.1, if_pos List.mem_cons_self]
      show p + _ = _
      omega
    · have e1 : ¬ x.toNat = i := by omega
      rw [if_neg e1]
      by_cases c : (i : Int) ∈ r
      · rw [if_pos c, if_pos (List.mem_cons_of_mem _ c)]
        omega
      · rw [if_neg c, if_neg (fun z => by
          rcases List.mem_cons.mp z with w | w
          · exact e w.symm
          · exact c w)]
        omega
noncomputable def covQ (m : Int) (os : List (List Int × Int)) : List (Int × List Int) := (cvs m os).map fun ls => (pr os ls, ls)
noncomputable def wiL (m : Int) (os : List (List Int × Int)) (i : Int) : List (Int × List Int) := (covQ m os).filter fun q => q.2.any (· == i)
noncomputable def woL (m : Int) (os : List (List Int × Int)) (i : Int) : List (Int × List Int) := (covQ m os).filter fun q => !q.2.any (· == i)
theorem covQ_mem {m : Int} {os : List (List Int × Int)} {q : Int × List Int} : q ∈ covQ m os ↔ q.2 ∈ cvs m os ∧ q.1 = pr os q.2 := by
  unfold covQ
  rw [List.mem_map]
  constructor
  · rintro ⟨ls, h, rfl⟩
    exact ⟨h, rfl⟩
  · rintro ⟨h, e⟩
    exact ⟨q.2, h, by rw [← e]⟩
theorem wi_mem {m : Int} {os : List (List Int × Int)} {i : Int} {q : Int × List Int} : q ∈ wiL m os i ↔ (q.2 ∈ cvs m os ∧ q.1 = pr os q.2) ∧ i ∈ q.2 := by
  unfold wiL
  rw [List.mem_filter, covQ_mem]
  simp
theorem wo_mem {m : Int} {os : List (List Int × Int)} {i : Int} {q : Int × List Int} : q ∈ woL m os i ↔ (q.2 ∈ cvs m os ∧ q.1 = pr os q.2) ∧ i ∉ q.2 := by
  unfold woL
  rw [List.mem_filter, covQ_mem, Bool.not_eq_true', ← Bool.not_eq_true, List.any_eq_true]
  refine and_congr_right fun _ => not_congr ⟨?_, ?_⟩
  · rintro ⟨x, hx, e⟩
    rw [beq_iff_eq] at e
    rw [← e]
    exact hx
  · intro h
    exact ⟨i, h, by simp⟩
theorem pr_in {m : Int} {os : List (List Int × Int)} {i : Nat} {p : Int} (hi : i < os.length) {ls : List Int} (h : ls ∈ cvs m os) : pr (setP os i p) ls = pr os ls + (if (i : Int) ∈ ls then p - (os.getD i ([], 0)).2 else 0) := by
  obtain ⟨⟨h1, h2⟩, _⟩ := cvs_mem.mp h
  exact pr_set hi (h1.imp fun z => by omega) fun y hy => (h2 y hy).1
theorem wi_set {m : Int} {os : List (List Int × Int)} {i : Nat} {p W : Int} (hi : i < os.length) (h : MinV (wiL m os i) W) : MinV (wiL m (setP os i p) i) (W + (p - (os.getD i ([], 0)).2)) := by
  obtain ⟨⟨q, hq, rfl⟩, h2⟩ := h
  obtain ⟨⟨c1, c2⟩, c3⟩ := wi_mem.mp hq
  refine ⟨⟨(pr (setP os i p) q.2, q.2), wi_mem.mpr ⟨⟨by rw [cvs_set hi]; exact c1, rfl⟩, c3⟩, ?_⟩, fun r hr => ?_⟩
  · show pr (setP os i p) q.2 = _
    rw [pr_in hi c1, if_pos c3, c2]
  · obtain ⟨⟨d1, d2⟩, d3⟩ := wi_mem.mp hr
    rw [cvs_set hi] at d1
    rw [pr_in hi d1, if_pos d3] at d2
    have := h2 (pr os r.2, r.2) (wi_mem.mpr ⟨⟨d1, rfl⟩, d3⟩)
    have : q.1 ≤ pr os r.2 := this
    omega
theorem wo_set {m : Int} {os : List (List Int × Int)} {i : Nat} {p : Int} (hi : i < os.length) : woL m (setP os i p) i = woL m os i := by
  unfold woL covQ
  rw [cvs_set hi]
  have e : ∀ {xs : List (List Int)}, (∀ ls ∈ xs, ls ∈ cvs m os) → ((xs.map fun ls => (pr (setP os i p) ls, ls)).filter fun q => !q.2.any (· == (i : Int))) = (xs.map fun ls => (pr os ls, ls)).filter fun q => !q.2.any (· == (i : Int)) := by
    intro xs
    induction xs with
    | nil => intro _; rfl
    | cons ls r ih =>
      intro h
      rw [List.map_cons, List.map_cons, List.filter_cons, List.filter_cons, ih fun x hx => h x (List.mem_cons_of_mem _ hx)]
      by_cases c : (i : Int) ∈ ls
      · have : ls.any (· == (i : Int)) = true := by simpa using c
        simp [this]
      · have : ls.any (· == (i : Int)) = false := by
          rw [← Bool.not_eq_true, List.any_eq_true]
          rintro ⟨x, hx, e⟩
          rw [beq_iff_eq] at e
          exact c (e ▸ hx)
        rw [pr_in hi (h ls List.mem_cons_self), if_neg c]
        simp [this]
  exact e fun _ h => h
theorem all_min {m : Int} {os : List (List Int × Int)} {i : Int} {W : Int} (hw : MinV (wiL m os i) W) : (woL m os i = [] → MinV (covQ m os) W) ∧ (∀ V, MinV (woL m os i) V → MinV (covQ m os) (if V < W then V else W)) := by
  have sp : ∀ q ∈ covQ m os, q ∈ wiL m os i ∨ q ∈ woL m os i := fun q hq => by
    by_cases c : i ∈ q.2
    · exact .inl (wi_mem.mpr ⟨covQ_mem.mp hq, c⟩)
    · exact .inr (wo_mem.mpr ⟨covQ_mem.mp hq, c⟩)
  have s1 : ∀ q ∈ wiL m os i, q ∈ covQ m os := fun q hq => (List.mem_filter.mp hq).1
  have s2 : ∀ q ∈ woL m os i, q ∈ covQ m os := fun q hq => (List.mem_filter.mp hq).1
  obtain ⟨⟨q, hq, eq⟩, h2⟩ := hw
  constructor
  · intro hn
    refine ⟨⟨q, s1 q hq, eq⟩, fun r hr => ?_⟩
    rcases sp r hr with w | w
    · exact h2 r w
    · rw [hn] at w; cases w
  · rintro V ⟨⟨r, hr, er⟩, h3⟩
    split
    · rename_i hlt
      refine ⟨⟨r, s2 r hr, er⟩, fun x hx => ?_⟩
      rcases sp x hx with w | w
      · have := h2 x w
        omega
      · exact h3 x w
    · rename_i hlt
      refine ⟨⟨q, s1 q hq, eq⟩, fun x hx => ?_⟩
      rcases sp x hx with w | w
      · exact h2 x w
      · have := h3 x w
        omega
theorem some_iff {m : Int} {os : List (List Int × Int)} {i : Int} {W least : Int} (hw : MinV (wiL m os i) W) (hl : MinV (covQ m os) least) : (∃ q ∈ covQ m os, q.1 = least ∧ i ∈ q.2) ↔ (woL m os i = [] ∨ ∀ V, MinV (woL m os i) V → W ≤ V) := by
  obtain ⟨a1, a2⟩ := all_min hw
  have hw' := hw
  obtain ⟨⟨q, hq, eq⟩, h2⟩ := hw
  constructor
  · rintro ⟨r, hr, er, hi⟩
    right
    intro V hV
    have e := hl.uniq (a2 V hV)
    have := h2 r (wi_mem.mpr ⟨covQ_mem.mp hr, hi⟩)
    split at e <;> omega
  · intro h
    refine ⟨q, (List.mem_filter.mp hq).1, ?_, (wi_mem.mp hq).2⟩
    rw [eq]
    by_cases hn : woL m os i = []
    · exact (hl.uniq (a1 hn)).symm
    · have hV := (best_min hn).1
      have e := hl.uniq (a2 _ hV)
      rcases h with h | h
      · exact absurd h hn
      · have := h _ hV
        split at e <;> omega
theorem all_iff {m : Int} {os : List (List Int × Int)} {i : Int} {W least : Int} (hw : MinV (wiL m os i) W) (hl : MinV (covQ m os) least) : (∀ q ∈ covQ m os, q.1 = least → i ∈ q.2) ↔ (woL m os i = [] ∨ ∀ V, MinV (woL m os i) V → W < V) := by
  obtain ⟨a1, a2⟩ := all_min hw
  obtain ⟨⟨q, hq, eq⟩, h2⟩ := hw
  constructor
  · intro h
    right
    rintro V hV
    have e := hl.uniq (a2 V hV)
    obtain ⟨⟨r, hr, er⟩, h3⟩ := hV
    by_cases c : W < V
    · exact c
    · exfalso
      have : r.1 = least := by split at e <;> omega
      exact (wo_mem.mp hr).2 (h r (List.mem_filter.mp hr).1 this)
  · intro h r hr er
    by_cases c : i ∈ r.2
    · exact c
    · exfalso
      have hr' : r ∈ woL m os i := wo_mem.mpr ⟨covQ_mem.mp hr, c⟩
      have hn : woL m os i ≠ [] := List.ne_nil_of_mem hr'
      have hV := (best_min hn).1
      have e := hl.uniq (a2 _ hV)
      have h4 := hV.2 r hr'
      rcases h with h | h
      · exact hn h
      · have := h _ hV
        split at e <;> omega
end L3
end
section
set_option maxHeartbeats 8000000
namespace L3
open PySem PySem.Spec PyProof.Rows L2 LT
theorem dNotInT_ints (k : Int) (xs : List Int) : dNotIn (.int k) (.tup (xs.map D.int)) = pure (.bl (!xs.any (· == k))) := by
  show dInG true (.int k) (.tup (xs.map D.int)) = _
  unfold dInG
  simp only [pd]
  rw [pdL_ints]
  have c : inOk (.int k) (xs.map PyData.int) = true := by
    unfold inOk
    simp [PyData.canLay0, canLay_ints, PyData.depth, depth_ints]
  simp only [c, if_true, any_ints]
theorem any_true {k : Int} {xs : List Int} : xs.any (· == k) = true ↔ k ∈ xs := by
  rw [List.any_eq_true]
  constructor
  · rintro ⟨x, hx, e⟩
    rw [beq_iff_eq] at e
    exact e ▸ hx
  · intro h
    exact ⟨k, h, by simp⟩
end L3
namespace K84
open PySem PySem.Spec PyProof.Rows L2 L3 LT
set_option hygiene false in
local macro_rules | `(tactic| ac_nf0) => `(tactic| simp only [e_sThen, e_sSet, e_sAsg, e_sRet, e_sIf, e_sFor, e_sExpr, e_sNil, e_cApp, e_aCons, e_aNil, e_cOp, e_cUn, e_cK, e_var0, e_varS, pure_bind, bind_assoc, e_nx, e_rt, e_ort, e_onx, List.set, e_tCmp, e_tVal, e_tNot, e_tAnd, e_tOr, e_cAnd, e_cOr, e_cNot, e_cIf, e_cTup, e_cLst, e_cLstC, e_bool, e_call1, e_call2, e_call3, e_addI, e_ixT, e_ixL, e_at0, e_at1, e_ofO, e_lenT, e_lenL, e_itT, e_itL, e_iSq, e_iRng, e_gSet, e_gtup2, e_gscons, e_gsnil, e_tupL, e_tupT, wp_bind, wp_pure, wp_new, List.length_cons, List.length_nil, List.length_map, Nat.zero_add, Nat.reduceAdd, Nat.reduceLeDiff, fits_ok, offD, tI, e_cExtend, e_alive, e_extend, e_pick, e_sRaise, raise_bind, noX_pure, e_cSl, e_oNone, e_oSome, e_part, e_slT, e_rev, e_neg, e_addT, e_addL, e_lstT, e_max, e_sub, e_gt, if_true, Bool.not_true, Bool.not_false, Bool.false_eq_true, if_false, List.length_append, List.cons_append, List.nil_append, e_snox, e_cnox])
variable {m : Int} {os : List (List Int × Int)} {i : Nat}
theorem noff_ok (s : Stk m os) (hi : i < os.length) : F_need_offer [stkD m os, .int (i : Int)] = pure .non := by
  have ew := whole_ok (d := .int (i : Int)) rfl
  simp only [isI] at ew
  have a1 : ¬ (i : Int) < 0 := by omega
  have a2 : ¬ (os.length : Int) ≤ (i : Int) := by omega
  rw [d_need_offer]
  simp only [G_need_offer]
  ac_nf0
  rw [ew]
  ac_nf0
  simp only [e_lt, a1, decide_false]
  ac_nf0
  rw [est1]
  ac_nf0
  simp only [e_ge, a2, decide_false]
  ac_nf0
noncomputable def wiP (m : Int) (os : List (List Int × Int)) (i : Int) : Int × List Int := (wiL m os i).getD (bestI (wiL m os i)) (0, [])
noncomputable def woP (m : Int) (os : List (List Int × Int)) (i : Int) : Int × List Int := (woL m os i).getD (bestI (woL m os i)) (0, [])
theorem covQ_len (s : Stk m os) (n9 : os.length ≤ 9) : (covQ m os).length ≤ 512 := by
  unfold covQ cvs
  rw [List.length_map]
  refine Nat.le_trans (List.length_filter_le _ _) ?_
  rw [kl_len]
  exact Nat.pow_le_pow_right (n := 2) (by decide) n9
theorem all_cov (s : Stk m os) (hf : (leftI m os).isEmpty = true) : (List.range os.length).map (fun (k : Nat) => (k : Int)) ∈ cvs m os := by
  refine cvs_mem.mpr ⟨⟨rangeI_up _, fun y hy => rangeI_bd y hy⟩, cov_iff.mpr fun t t0 t1 => ?_⟩
  obtain ⟨o, ho, hx⟩ := full_has hf t0 t1
  obtain ⟨j, hj, rfl⟩ := List.getElem_of_mem ho
  refine ⟨(j : Int), List.mem_map.mpr ⟨j, List.mem_range.mpr hj, rfl⟩, ?_⟩
  rw [Int.toNat_natCast]
  simpa [List.getD, hj] using hx
theorem wi_ne (s : Stk m os) (hf : (leftI m os).isEmpty = true) (hi : i < os.length) : wiL m os i ≠ [] :=
  List.ne_nil_of_mem ((wi_mem (q := (pr os ((List.range os.length).map (fun (k : Nat) => (k : Int))), (List.range os.length).map (fun (k : Nat) => (k : Int))))).mpr ⟨⟨all_cov s hf, rfl⟩, List.mem_map.mpr ⟨i, List.mem_range.mpr hi, rfl⟩⟩)
theorem cvs_lt {ls : List Int} (h : ls ∈ cvs m os) : Lt os ls := (cvs_mem.mp h).1
theorem with_ev (s : Stk m os) (hf : (leftI m os).isEmpty = true) (n9 : os.length ≤ 9) (hi : i < os.length) : Ev (F_cheapest_with [stkD m os, .int (i : Int)]) (tI (wiP m os i).2) := by
  have hl := covQ_len s n9
  have ec : dComp (iSq (cApp (callD 1 F_priced_covers) (aCons (dVar 0) aNil))) (gSet 0) C_cheapest_with_1 E_cheapest_with_1 [none, some 1] [some (stkD m os), some (.int (i : Int))] = pure (.lst ((wiL m os i).map pD)) := by
    unfold wiL
    rw [← filterMap_if]
    refine dComp_src (g' := pD) ?_ (by omega) fun q _ => ?_
    · ac_nf0
      rw [priced_ok s n9]
      ac_nf0
      rfl
    · have eb : bStartD [none, some 1] [some (stkD m os), some (.int (i : Int))] = [none, some (.int (i : Int))] := rfl
      rw [eb]
      simp only [cTurn, C_cheapest_with_1, E_cheapest_with_1, pD]
      ac_nf0
      rw [dIn_ints]
      ac_nf0
      split <;> rfl
  refine .of_wp fun h => ?_
  rw [d_cheapest_with]
  simp only [G_cheapest_with]
  ac_nf0
  rw [noff_ok s hi]
  ac_nf0
  refine (need_ev s hf).wp fun h' g => ?_
  have ep : dIx (pD (wiP m os i)) (.int 1) = pure (tI (wiP m os i).2) := rfl
  ac_nf0
  rw [ec]
  ac_nf0
  rw [dMin1_lst (wi_ne s hf hi), show (wiL m os i).getD (bestI (wiL m os i)) (0, []) = wiP m os i from rfl]
  ac_nf0
  rw [ep]
  ac_nf0
  first | exact ⟨trivial, g⟩ | exact ⟨g, trivial⟩ | exact g
noncomputable def woD (m : Int) (os : List (List Int × Int)) (i : Int) : D := if (woL m os i).isEmpty = true then .non else tI (woP m os i).2
theorem without_ev (s : Stk m os) (hf : (leftI m os).isEmpty = true) (n9 : os.length ≤ 9) (hi : i < os.length) : Ev (F_cheapest_without [stkD m os, .int (i : Int)]) (woD m os i) := by
  have hl := covQ_len s n9
  have ec : dComp (iSq (cApp (callD 1 F_priced_covers) (aCons (dVar 0) aNil))) (gSet 0) C_cheapest_without_1 E_cheapest_without_1 [none, some 1] [some (stkD m os), some (.int (i : Int)), none] = pure (.lst ((woL m os i).map pD)) := by
    unfold woL
    rw [← filterMap_if]
    refine dComp_src (g' := pD) ?_ (by omega) fun q _ => ?_
    · ac_nf0
      rw [priced_ok s n9]
      ac_nf0
      rfl
    · have eb : bStartD [none, some 1] [some (stkD m os), some (.int (i : Int)), none] = [none, some (.int (i : Int))] := rfl
      rw [eb]
      simp only [cTurn, C_cheapest_without_1, E_cheapest_without_1, pD]
      ac_nf0
      rw [dNotInT_ints]
      ac_nf0
      split <;> rfl
  refine .of_wp fun h => ?_
  rw [d_cheapest_without]
  simp only [G_cheapest_without]
  ac_nf0
  rw [noff_ok s hi]
  ac_nf0
  refine (need_ev s hf).wp fun h' g => ?_
  ac_nf0
  rw [ec]
  ac_nf0
  unfold woD
  cases hw : woL m os i with
  | nil =>
    simp only [L3.tLst, dTru, seqD, List.map_nil]
    ac_nf0
    simp only [List.isEmpty_nil]
    ac_nf0
    first | exact ⟨trivial, g⟩ | exact ⟨g, trivial⟩ | exact g
  | cons q r =>
    have hne : woL m os i ≠ [] := by rw [hw]; exact List.cons_ne_nil _ _
    have ep : dIx (pD (woP m os i)) (.int 1) = pure (tI (woP m os i).2) := rfl
    have em := dMin1_lst hne
    rw [hw] at em
    simp only [L3.tLst, dTru, seqD, List.map_cons] at em ⊢
    ac_nf0
    simp only [List.isEmpty_cons]
    ac_nf0
    rw [em, ← hw, show (woL m os i).getD (bestI (woL m os i)) (0, []) = woP m os i from rfl]
    ac_nf0
    rw [ep]
    ac_nf0
    first | exact ⟨trivial, g⟩ | exact ⟨g, trivial⟩ | exact g
theorem wiP_ok (s : Stk m os) (hf : (leftI m os).isEmpty = true) (hi : i < os.length) : MinV (wiL m os i) (wiP m os i).1 ∧ (wiP m os i).2 ∈ cvs m os ∧ (wiP m os i).1 = pr os (wiP m os i).2 := by
  obtain ⟨h1, h2⟩ := best_min (wi_ne s hf hi)
  have h3 := (wi_mem.mp h2).1
  exact ⟨h1, h3.1, h3.2⟩
theorem woP_ok (hn : woL m os (i : Int) ≠ []) : MinV (woL m os i) (woP m os i).1 ∧ (woP m os i).2 ∈ cvs m os ∧ (woP m os i).1 = pr os (woP m os i).2 := by
  obtain ⟨h1, h2⟩ := best_min hn
  have h3 := (wo_mem.mp h2).1
  exact ⟨h1, h3.1, h3.2⟩
noncomputable def reachD (m : Int) (os : List (List Int × Int)) (i : Nat) : D := if (woL m os i).isEmpty = true then .non else .int ((woP m os i).1 - ((wiP m os i).1 - (os.getD i ([], 0)).2))
theorem reach_ev (s : Stk m os) (hf : (leftI m os).isEmpty = true) (n9 : os.length ≤ 9) (hi : i < os.length) : Ev (F_reach_of [stkD m os, .int (i : Int)]) (reachD m os i) := by
  obtain ⟨w1, w2, w3⟩ := wiP_ok s hf hi
  have ep := price_ok s (cvs_lt w2)
  rw [← w3] at ep
  have ea := atI_off (os := os) (i := (i : Int)) (by omega) (by omega)
  rw [Int.toNat_natCast] at ea
  have ew := with_ev s hf n9 hi
  have eo := without_ev s hf n9 hi
  refine .of_wp fun h => ?_
  rw [d_reach_of]
  simp only [G_reach_of]
  simp only [tI] at ep ew
  ac_nf0
  refine eo.wp fun h1 g1 => ?_
  ac_nf0
  unfold woD reachD
  cases hw : (woL m os i).isEmpty with
  | true =>
    have e1 : dIsN .non .non = pure (.bl true) := rfl
    ac_nf0
    rw [e1]
    ac_nf0
    first | exact ⟨trivial, g1⟩ | exact ⟨g1, trivial⟩ | exact g1
  | false =>
    have hn : woL m os (i : Int) ≠ [] := fun z => by rw [z] at hw; cases hw
    obtain ⟨v1, v2, v3⟩ := woP_ok hn
    have ev := price_ok s (cvs_lt v2)
    rw [← v3] at ev
    have e1 : ∀ ds : List D, dIsN (.tup ds) .non = pure (.bl false) := fun _ => rfl
    simp only [tI] at ev
    ac_nf0
    rw [e1]
    ac_nf0
    refine ew.wp fun h2 g2 => ?_
    ac_nf0
    rw [ep]
    ac_nf0
    rw [est1]
    ac_nf0
    rw [ea]
    ac_nf0
    rw [ev]
    ac_nf0
    first | exact ⟨trivial, g1.trans g2⟩ | exact ⟨g1.trans g2, trivial⟩ | exact g1.trans g2
theorem exch_ok (s : Stk m os) (hi : i < os.length) {ts : List D} (ht : ts.length ≤ 100) : F_exchanged [stkD m os, .int (i : Int), .tup ts] = pure (.tup [.int m, .tup ((os.take i).map offD ++ ts ++ (os.drop (i + 1)).map offD)]) := by
  have ol := s.len
  have c1 : cutD (os.map offD) none (some (i : Int)) = (os.take i).map offD := by rw [cut_take _ (by omega), Int.toNat_natCast, List.map_take]
  have c2 : cutD (os.map offD) (some ((i : Int) + 1)) none = (os.drop (i + 1)).map offD := by
    rw [cut_drop _ (by omega), show ((i : Int) + 1).toNat = i + 1 by omega, List.map_drop]
  have f1 := fits_ok (show ((os.take i).map offD).length + ts.length ≤ 1000 by simp; omega)
  have f2 := fits_ok (show ((os.take i).map offD ++ ts).length + ((os.drop (i + 1)).map offD).length ≤ 1000 by simp; omega)
  rw [d_exchanged]
  simp only [G_exchanged]
  ac_nf0
  rw [est0]
  ac_nf0
  rw [est1]
  ac_nf0
  simp only [c1, c2]
  simp only [List.length_map, List.length_append] at f1 f2
  ac_nf0
  rw [f1]
  ac_nf0
  rw [f2]
  ac_nf0
theorem erase_stk (s : Stk m os) : Stk m (os.eraseIdx i) := by
  have sub := List.eraseIdx_sublist os i
  have hl := sub.length_le
  have ol := s.len
  exact ⟨s.m0, s.m1, by omega, fun o ho => s.up o (sub.subset ho), fun o ho => s.bd o (sub.subset ho), fun o ho => s.ne o (sub.subset ho), fun o ho => s.pos o (sub.subset ho)⟩
theorem isneed_ev (s : Stk m os) (hi : i < os.length) : Ev (F_is_needed [stkD m os, .int (i : Int)]) (.bl (!(leftI m (os.eraseIdx i)).isEmpty)) := by
  have ex := exch_ok s hi (ts := []) (by simp)
  rw [List.append_nil, ← List.map_append, ← List.eraseIdx_eq_take_drop_succ] at ex
  have ef := full_ev (erase_stk (i := i) s)
  refine .of_wp fun h => ?_
  rw [d_is_needed]
  simp only [G_is_needed]
  ac_nf0
  rw [ex]
  ac_nf0
  refine Ev.wp (show Ev (F_is_full [.tup [.int m, .tup ((os.eraseIdx i).map offD)]]) _ from ef) fun h' g => ?_
  ac_nf0
  first | exact ⟨trivial, g⟩ | exact ⟨g, trivial⟩ | exact g
theorem needed_ev (s : Stk m os) (hf : (leftI m os).isEmpty = true) : Ev (F_needed [stkD m os]) (.lst (((List.range os.length).filter fun j => !(leftI m (os.eraseIdx j)).isEmpty).map fun (j : Nat) => .int (j : Int))) := by
  have ol := s.len
  have ec : Ev (dComp (iRng (aCons (cApp dLen (aCons (cOp dIx (dVar 0) (cK (.int 1))) aNil)) aNil)) (gSet 0) C_needed_1 E_needed_1 [none, some 0] [some (stkD m os)]) (.lst (((List.range os.length).filter fun j => !(leftI m (os.eraseIdx j)).isEmpty).map fun (j : Nat) => .int (j : Int))) := by
    rw [← filterMap_if]
    refine dComp_evS (g' := fun (j : Nat) => .int (j : Int)) ?_ (by simp; omega) fun j hj => ?_
    · ac_nf0
      rw [est1]
      ac_nf0
      rw [dRng_ok (by omega) (by omega), Int.toNat_natCast, rng_ints, List.map_map]
      rfl
    · have eb : bStartD [none, some 0] [some (stkD m os)] = [none, some (stkD m os)] := rfl
      rw [eb]
      refine .of_wp fun h => ?_
      simp only [cTurn, C_needed_1, E_needed_1]
      ac_nf0
      refine (isneed_ev s (List.mem_range.mp hj)).wp fun h' g => ?_
      ac_nf0
      cases (leftI m (os.eraseIdx j)).isEmpty <;> ac_nf0 <;> first | exact ⟨trivial, g⟩ | exact ⟨g, trivial⟩ | exact g
  refine .of_wp fun h => ?_
  rw [d_needed]
  simp only [G_needed]
  ac_nf0
  refine (need_ev s hf).wp fun h1 g1 => ?_
  ac_nf0
  refine ec.wp fun h2 g2 => ?_
  ac_nf0
  first | exact ⟨trivial, g1.trans g2⟩ | exact ⟨g1.trans g2, trivial⟩ | exact g1.trans g2
theorem need_wo (s : Stk m os) (hi : i < os.length) : (!(leftI m (os.eraseIdx i)).isEmpty) = (woL m os i).isEmpty := by
  have key : (leftI m (os.eraseIdx i)).isEmpty = true ↔ woL m os i ≠ [] := by
    constructor
    · intro hf
      refine List.ne_nil_of_mem ((wo_mem (q := (pr os (((List.range os.length).map (fun (k : Nat) => (k : Int))).filter fun x => !(x == (i : Int))), ((List.range os.length).map (fun (k : Nat) => (k : Int))).filter fun x => !(x == (i : Int))))).mpr ⟨⟨?_, rfl⟩, ?_⟩)
      · refine cvs_mem.mpr ⟨⟨(rangeI_up _).filter _, fun y hy => rangeI_bd y (List.mem_filter.mp hy).1⟩, cov_iff.mpr fun t t0 t1 => ?_⟩
        obtain ⟨o, ho, hx⟩ := full_has hf t0 t1
        obtain ⟨j, hj, hne, rfl⟩ := List.mem_eraseIdx_iff_getElem.mp ho
        refine ⟨(j : Int), List.mem_filter.mpr ⟨List.mem_map.mpr ⟨j, List.mem_range.mpr hj, rfl⟩, ?_⟩, ?_⟩
        · rw [Bool.not_eq_true', beq_eq_false_iff_ne]
          omega
        · rw [Int.toNat_natCast]
          simpa [List.getD, hj] using hx
      · intro z
        have := (List.mem_filter.mp z).2
        simp at this
    · intro hn
      obtain ⟨q, hq⟩ := List.exists_mem_of_ne_nil _ hn
      obtain ⟨⟨h1, _⟩, h2⟩ := wo_mem.mp hq
      obtain ⟨⟨_, hb⟩, hc⟩ := cvs_mem.mp h1
      refine full_of fun t t0 t1 => ?_
      obtain ⟨j, hj, hx⟩ := cov_iff.mp hc t t0 t1
      have hbj := hb j hj
      have hl : j.toNat < os.length := by omega
      refine ⟨os.getD j.toNat ([], 0), List.mem_eraseIdx_iff_getElem.mpr ⟨j.toNat, hl, fun e => h2 ?_, by simp [List.getD, hl]⟩, hx⟩
      have : j = (i : Int) := by omega
      rw [← this]
      exact hj
  rw [Bool.eq_iff_iff, List.isEmpty_iff, Bool.not_eq_true', ← Bool.not_eq_true, key]
  exact Classical.not_not
theorem setP_stk (s : Stk m os) (hi : i < os.length) {p : Int} (hp : 0 < p) : Stk m (setP os i p) := by
  have mo : os.getD i ([], 0) ∈ os := by simp [List.getD, hi]
  have hm : ∀ o ∈ setP os i p, o ∈ os ∨ o = ((os.getD i ([], 0)).1, p) := fun o ho => List.mem_or_eq_of_mem_set ho
  refine stk_go s.m0 s.m1 (by rw [setP_len]; exact s.len) fun o ho => ?_
  rcases hm o ho with w | rfl
  · exact ⟨s.up o w, s.bd o w, s.ne o w, s.pos o w⟩
  · exact ⟨s.up (os.getD i ([], 0)) mo, s.bd (os.getD i ([], 0)) mo, s.ne (os.getD i ([], 0)) mo, hp⟩
theorem setP_full (hi : i < os.length) {p : Int} (hf : (leftI m os).isEmpty = true) : (leftI m (setP os i p)).isEmpty = true := by
  refine full_of fun t t0 t1 => ?_
  obtain ⟨o, ho, hx⟩ := full_has hf t0 t1
  obtain ⟨j, hj, rfl⟩ := List.getElem_of_mem ho
  have hj' : j < (setP os i p).length := by rw [setP_len]; exact hj
  refine ⟨(setP os i p).getD j ([], 0), by simp [List.getD, hj'], ?_⟩
  rw [setP_fst hi]
  simpa [List.getD, hj] using hx
theorem priced_set (s : Stk m os) (hi : i < os.length) {p : Int} (hp : 0 < p) : F_priced [stkD m os, .int (i : Int), .int p] = pure (stkD m (setP os i p)) := by
  have ea := atI_off (os := os) (i := (i : Int)) (by omega) (by omega)
  rw [Int.toNat_natCast] at ea
  have ew := whole_ok (d := .int p) rfl
  simp only [isI] at ew
  have a1 : ¬ p < 1 := by omega
  have ex := exch_ok s hi (ts := [offD ((os.getD i ([], 0)).1, p)]) (by simp)
  have es : (os.take i).map offD ++ [offD ((os.getD i ([], 0)).1, p)] ++ (os.drop (i + 1)).map offD = (setP os i p).map offD := by
    unfold setP
    rw [List.set_eq_take_append_cons_drop, if_pos hi]
    simp
  rw [es] at ex
  simp only [offD, tI] at ex
  rw [d_priced]
  simp only [G_priced]
  ac_nf0
  rw [noff_ok s hi]
  ac_nf0
  rw [ew]
  ac_nf0
  simp only [e_lt, a1, decide_false]
  ac_nf0
  rw [est1]
  ac_nf0
  rw [ea]
  ac_nf0
  rw [ex]
  ac_nf0
  rfl
end K84
end
section
set_option maxHeartbeats 8000000
namespace K84
open PySem PySem.Spec PyProof.Rows L2 L3 LT
set_option hygiene false in
local macro_rules | `(tactic| ac_nf0) => `(tactic| simp only [e_sThen, e_sSet, e_sAsg, e_sRet, e_sIf, e_sFor, e_sExpr, e_sNil, e_cApp, e_aCons, e_aNil, e_cOp, e_cUn, e_cK, e_var0, e_varS, pure_bind, bind_assoc, e_nx, e_rt, e_ort, e_onx, List.set, e_tCmp, e_tVal, e_tNot, e_tAnd, e_tOr, e_cAnd, e_cOr, e_cNot, e_cIf, e_cTup, e_cLst, e_cLstC, e_bool, e_call1, e_call2, e_call3, e_addI, e_ixT, e_ixL, e_at0, e_at1, e_ofO, e_lenT, e_lenL, e_itT, e_itL, e_iSq, e_iRng, e_gSet, e_gtup2, e_gscons, e_gsnil, e_tupL, e_tupT, wp_bind, wp_pure, wp_new, List.length_cons, List.length_nil, List.length_map, Nat.zero_add, Nat.reduceAdd, Nat.reduceLeDiff, fits_ok, offD, tI, e_cExtend, e_alive, e_extend, e_pick, e_sRaise, raise_bind, noX_pure, e_cSl, e_oNone, e_oSome, e_part, e_slT, e_rev, e_neg, e_addT, e_addL, e_lstT, e_max, e_sub, e_gt, if_true, Bool.not_true, Bool.not_false, Bool.false_eq_true, if_false, List.length_append, List.cons_append, List.nil_append, e_snox, e_cnox])
variable {m : Int} {os : List (List Int × Int)} {i : Nat}
noncomputable def chL (m : Int) (os : List (List Int × Int)) : List (List Int) := ((covQ m os).filter fun q => q.1 == (covP m os).1).map (·.2)
theorem chL_mem {ls : List Int} : ls ∈ chL m os ↔ ∃ q ∈ covQ m os, q.1 = (covP m os).1 ∧ q.2 = ls := by
  unfold chL
  rw [List.mem_map]
  constructor
  · rintro ⟨q, hq, rfl⟩
    obtain ⟨h1, h2⟩ := List.mem_filter.mp hq
    exact ⟨q, h1, by simpa using h2, rfl⟩
  · rintro ⟨q, hq, e, rfl⟩
    exact ⟨q, List.mem_filter.mpr ⟨hq, by simpa using e⟩, rfl⟩
theorem chL_len (s : Stk m os) (n9 : os.length ≤ 9) : (chL m os).length ≤ 512 := by
  unfold chL
  rw [List.length_map]
  exact Nat.le_trans (List.length_filter_le _ _) (covQ_len s n9)
theorem chs_ev (s : Stk m os) (hf : (leftI m os).isEmpty = true) (n9 : os.length ≤ 9) : Ev (F_cheapest_covers [stkD m os]) (.lst ((chL m os).map tI)) := by
  have hl := covQ_len s n9
  have ec : dComp (iSq (dVar 1)) (gSet 0) C_cheapest_covers_1 E_cheapest_covers_1 [none, some 2] [some (stkD m os), some (.lst ((covL m os).map pD)), some (.int (covP m os).1)] = pure (.lst ((chL m os).map tI)) := by
    unfold chL
    rw [List.map_map, ← filterMap_if]
    refine dComp_src (g' := pD) (xs := covQ m os) rfl (by omega) fun q _ => ?_
    have eb : bStartD [none, some 2] [some (stkD m os), some (.lst ((covL m os).map pD)), some (.int (covP m os).1)] = [none, some (.int (covP m os).1)] := rfl
    rw [eb]
    simp only [cTurn, C_cheapest_covers_1, E_cheapest_covers_1, pD]
    ac_nf0
    rw [dEqI]
    ac_nf0
    split <;> rfl
  have ep : dIx (pD (covP m os)) (.int 0) = pure (.int (covP m os).1) := rfl
  refine .of_wp fun h => ?_
  rw [d_cheapest_covers]
  simp only [G_cheapest_covers]
  ac_nf0
  refine (need_ev s hf).wp fun h' g => ?_
  ac_nf0
  rw [priced_ok s n9]
  ac_nf0
  rw [dMin1_lst (covL_ne s hf), show (covL m os).getD (bestI (covL m os)) (0, []) = covP m os from rfl]
  ac_nf0
  rw [ep]
  ac_nf0
  rw [ec]
  ac_nf0
  first | exact ⟨trivial, g⟩ | exact ⟨g, trivial⟩ | exact g
theorem some_ev (s : Stk m os) (hf : (leftI m os).isEmpty = true) (n9 : os.length ≤ 9) : Ev (F_in_some [stkD m os]) (.lst ((((List.range os.length).filter fun (j : Nat) => (chL m os).any fun ls => ls.any (· == (j : Int))).map fun (j : Nat) => (j : Int)).map D.int)) := by
  have hl := chL_len s n9
  have ec : dComp (iRng (aCons (cApp dLen (aCons (cOp dIx (dVar 0) (cK (.int 1))) aNil)) aNil)) (gSet 0) C_in_some_1 E_in_some_2 [none, some 1] [some (stkD m os), some (.lst ((chL m os).map tI))] = pure (.lst ((((List.range os.length).filter fun (j : Nat) => (chL m os).any fun ls => ls.any (· == (j : Int))).map fun (j : Nat) => (j : Int)).map D.int)) := by
    rw [List.map_map, ← filterMap_if]
    refine dComp_src (g' := fun (j : Nat) => .int (j : Int)) ?_ (by simp; omega) fun j _ => ?_
    · ac_nf0
      rw [est1]
      ac_nf0
      rw [dRng_ok (by omega) (by omega), Int.toNat_natCast, rng_ints, List.map_map]
      rfl
    · have eb : bStartD [none, some 1] [some (stkD m os), some (.lst ((chL m os).map tI))] = [none, some (.lst ((chL m os).map tI))] := rfl
      have ei : dComp (iSq (dVar 1)) (gSet 0) (fun _ => pure true) E_in_some_1 [none, some 0] [some (.int (j : Int)), some (.lst ((chL m os).map tI))] = pure (.lst (((chL m os).map fun ls => ls.any (· == (j : Int))).map D.bl)) := by
        rw [show ((chL m os).map fun ls => ls.any (· == (j : Int))).map D.bl = (chL m os).filterMap fun ls => some (.bl (ls.any (· == (j : Int)))) by simp]
        refine dComp_src (g' := tI) rfl (by omega) fun ls _ => ?_
        have eb : bStartD [none, some 0] [some (.int (j : Int)), some (.lst ((chL m os).map tI))] = [none, some (.int (j : Int))] := rfl
        rw [eb]
        simp only [cTurn, E_in_some_1]
        ac_nf0
        rw [dIn_ints]
        ac_nf0
      rw [eb]
      simp only [cTurn, C_in_some_1, E_in_some_2]
      ac_nf0
      rw [ei]
      ac_nf0
      rw [dAny_ok, List.any_map]
      ac_nf0
      show (if ((chL m os).any fun ls => ls.any (· == (j : Int))) = true then _ else _) = _
      split <;> rfl
  refine .of_wp fun h => ?_
  rw [d_in_some]
  simp only [G_in_some]
  ac_nf0
  refine (chs_ev s hf n9).wp fun h' g => ?_
  ac_nf0
  rw [ec]
  ac_nf0
  first | exact ⟨trivial, g⟩ | exact ⟨g, trivial⟩ | exact g
theorem inall_ev (s : Stk m os) (hf : (leftI m os).isEmpty = true) (n9 : os.length ≤ 9) : Ev (F_in_all [stkD m os]) (.lst ((((List.range os.length).filter fun (j : Nat) => (chL m os).all fun ls => ls.any (· == (j : Int))).map fun (j : Nat) => (j : Int)).map D.int)) := by
  have hl := chL_len s n9
  have ec : dComp (iRng (aCons (cApp dLen (aCons (cOp dIx (dVar 0) (cK (.int 1))) aNil)) aNil)) (gSet 0) C_in_all_1 E_in_all_2 [none, some 1] [some (stkD m os), some (.lst ((chL m os).map tI))] = pure (.lst ((((List.range os.length).filter fun (j : Nat) => (chL m os).all fun ls => ls.any (· == (j : Int))).map fun (j : Nat) => (j : Int)).map D.int)) := by
    rw [List.map_map, ← filterMap_if]
    refine dComp_src (g' := fun (j : Nat) => .int (j : Int)) ?_ (by simp; omega) fun j _ => ?_
    · ac_nf0
      rw [est1]
      ac_nf0
      rw [dRng_ok (by omega) (by omega), Int.toNat_natCast, rng_ints, List.map_map]
      rfl
    · have eb : bStartD [none, some 1] [some (stkD m os), some (.lst ((chL m os).map tI))] = [none, some (.lst ((chL m os).map tI))] := rfl
      have ei : dComp (iSq (dVar 1)) (gSet 0) (fun _ => pure true) E_in_all_1 [none, some 0] [some (.int (j : Int)), some (.lst ((chL m os).map tI))] = pure (.lst (((chL m os).map fun ls => ls.any (· == (j : Int))).map D.bl)) := by
        rw [show ((chL m os).map fun ls => ls.any (· == (j : Int))).map D.bl = (chL m os).filterMap fun ls => some (.bl (ls.any (· == (j : Int)))) by simp]
        refine dComp_src (g' := tI) rfl (by omega) fun ls _ => ?_
        have eb : bStartD [none, some 0] [some (.int (j : Int)), some (.lst ((chL m os).map tI))] = [none, some (.int (j : Int))] := rfl
        rw [eb]
        simp only [cTurn, E_in_all_1]
        ac_nf0
        rw [dIn_ints]
        ac_nf0
      rw [eb]
      simp only [cTurn, C_in_all_1, E_in_all_2]
      ac_nf0
      rw [ei]
      ac_nf0
      rw [dAll_ok, List.all_map]
      ac_nf0
      show (if ((chL m os).all fun ls => ls.any (· == (j : Int))) = true then _ else _) = _
      split <;> rfl
  refine .of_wp fun h => ?_
  rw [d_in_all]
  simp only [G_in_all]
  ac_nf0
  refine (chs_ev s hf n9).wp fun h' g => ?_
  ac_nf0
  rw [ec]
  ac_nf0
  first | exact ⟨trivial, g⟩ | exact ⟨g, trivial⟩ | exact g
theorem in_rng {n : Nat} {p : Nat → Bool} (hi : i < n) : (((List.range n).filter p).map fun (j : Nat) => (j : Int)).any (· == (i : Int)) = p i := by
  rw [Bool.eq_iff_iff, any_true, List.mem_map]
  constructor
  · rintro ⟨j, hj, e⟩
    have : j = i := by omega
    subst this
    exact (List.mem_filter.mp hj).2
  · intro h
    exact ⟨i, List.mem_filter.mpr ⟨List.mem_range.mpr hi, h⟩, rfl⟩
theorem someB_iff (s : Stk m os) (hf : (leftI m os).isEmpty = true) {W : Int} (hw : MinV (wiL m os i) W) : ((chL m os).any fun ls => ls.any (· == (i : Int))) = true ↔ (woL m os i = [] ∨ ∀ V, MinV (woL m os i) V → W ≤ V) := by
  have hl : MinV (covQ m os) (covP m os).1 := (best_min (covL_ne s hf)).1
  rw [← some_iff hw hl, List.any_eq_true]
  constructor
  · rintro ⟨ls, h1, h2⟩
    obtain ⟨q, hq, e, rfl⟩ := chL_mem.mp h1
    exact ⟨q, hq, e, any_true.mp h2⟩
  · rintro ⟨q, hq, e, h⟩
    exact ⟨q.2, chL_mem.mpr ⟨q, hq, e, rfl⟩, any_true.mpr h⟩
theorem allB_iff (s : Stk m os) (hf : (leftI m os).isEmpty = true) {W : Int} (hw : MinV (wiL m os i) W) : ((chL m os).all fun ls => ls.any (· == (i : Int))) = true ↔ (woL m os i = [] ∨ ∀ V, MinV (woL m os i) V → W < V) := by
  have hl : MinV (covQ m os) (covP m os).1 := (best_min (covL_ne s hf)).1
  rw [← all_iff hw hl, List.all_eq_true]
  constructor
  · intro h q hq e
    exact any_true.mp (h q.2 (chL_mem.mpr ⟨q, hq, e, rfl⟩))
  · intro h ls h1
    obtain ⟨q, hq, e, rfl⟩ := chL_mem.mp h1
    exact any_true.mpr (h q hq e)
theorem right_ev (s : Stk m os) (hf : (leftI m os).isEmpty = true) (n9 : os.length ≤ 9) (hi : i < os.length) {p : Int} (hp : 0 < p) : Ev (F__law_right [stkD m os, .int (i : Int), .int p, reachD m os i]) (.bl true) := by
  have s' := setP_stk s hi hp
  have hf' := setP_full (p := p) hi hf
  have el : (setP os i p).length = os.length := setP_len
  have n9' : (setP os i p).length ≤ 9 := by omega
  have hi' : i < (setP os i p).length := by omega
  obtain ⟨w1, w2, w3⟩ := wiP_ok s hf hi
  obtain ⟨u1, u2, u3⟩ := wiP_ok s' hf' hi'
  have eW := u1.uniq (wi_set (p := p) hi w1)
  have eo : woL m (setP os i p) i = woL m os i := wo_set hi
  have eoP : woP m (setP os i p) i = woP m os i := by unfold woP; rw [eo]
  have eg : ((setP os i p).getD i ([], 0)).2 = p := by rw [setP_get hi, if_pos rfl]
  have hl : MinV (covQ m (setP os i p)) (covP m (setP os i p)).1 := (best_min (covL_ne s' hf')).1
  obtain ⟨a1, a2⟩ := all_min u1
  have hcm : covP m (setP os i p) ∈ covQ m (setP os i p) := (best_min (covL_ne s' hf')).2
  obtain ⟨c1, c2⟩ := covQ_mem.mp hcm
  have epc := price_ok s' (cvs_lt c1)
  rw [← c2] at epc
  have epw := price_ok s' (cvs_lt u2)
  rw [← u3] at epw
  have er := reach_ev s' hf' n9' hi'
  have es := some_ev s' hf' n9'
  have ea := inall_ev s' hf' n9'
  have ew := with_ev s' hf' n9' hi'
  have ewo := without_ev s' hf' n9' hi'
  have ech := cheapest_ev s' hf' n9'
  have si := someB_iff s' hf' u1
  have ai := allB_iff s' hf' u1
  have ero : reachD m (setP os i p) i = reachD m os i := by
    unfold reachD
    rw [eo, eoP, eg, eW]
    split
    · rfl
    · congr 1
      omega
  rw [ero] at er
  have di : ∀ {q : Nat → Bool}, dIn (.int (i : Int)) (.lst ((((List.range (setP os i p).length).filter q).map fun (j : Nat) => (j : Int)).map D.int)) = pure (.bl (q i)) := fun {q} => by rw [dInL_ints, in_rng hi']
  rw [eo] at si ai
  simp only [tI] at epc epw ew ech
  refine .of_wp fun h => ?_
  rw [d__law_right]
  simp only [G__law_right]
  ac_nf0
  rw [priced_set s hi hp]
  ac_nf0
  refine es.wp fun h1 g1 => ?_
  rw [di]
  ac_nf0
  refine er.wp fun h2 g2 => ?_
  unfold woD at ewo
  rw [eo, eoP] at ewo
  unfold reachD
  cases hw : (woL m os i).isEmpty with
  | true =>
    have hn : woL m os (i : Int) = [] := List.isEmpty_iff.mp hw
    have e1 : dIsN .non .non = pure (.bl true) := rfl
    have e2 : dIsNN .non .non = pure (.bl false) := rfl
    have e3 : dNe .non .non = pure (.bl false) := rfl
    have b1 := si.mpr (.inl hn)
    have b2 := ai.mpr (.inl hn)
    have eleast := hl.uniq (a1 (by rw [eo]; exact hn))
    rw [b1]
    ac_nf0
    rw [e3]
    ac_nf0
    refine ea.wp fun h3 g3 => ?_
    rw [di, b2]
    ac_nf0
    rw [e1]
    ac_nf0
    rw [dNeB]
    ac_nf0
    simp only [beq_self_eq_true]
    ac_nf0
    rw [e1]
    ac_nf0
    rw [dNeB]
    ac_nf0
    simp only [beq_self_eq_true]
    ac_nf0
    refine ew.wp fun h4 g4 => ?_
    ac_nf0
    rw [epw]
    ac_nf0
    rw [e2]
    ac_nf0
    refine ech.wp fun h5 g5 => ?_
    ac_nf0
    rw [epc, eleast]
    ac_nf0
    rw [dEqI]
    simp only [beq_self_eq_true]
    ac_nf0
    have gg := (((g1.trans g2).trans g3).trans g4).trans g5
    first | exact ⟨trivial, gg⟩ | exact ⟨gg, trivial⟩ | exact gg
  | false =>
    have hn : woL m os (i : Int) ≠ [] := fun z => by rw [z] at hw; cases hw
    obtain ⟨v1, v2, v3⟩ := woP_ok hn
    have v2' : (woP m os i).2 ∈ cvs m (setP os i p) := by rw [cvs_set hi]; exact v2
    have v3' : pr (setP os i p) (woP m os i).2 = (woP m os i).1 := by
      have hm : woP m os i ∈ woL m os i := (best_min hn).2
      have := (wo_mem.mp hm).2
      rw [pr_in hi v2, if_neg this, v3]
      omega
    have epo := price_ok s' (cvs_lt v2')
    rw [v3'] at epo
    have eleast := hl.uniq (a2 _ (by rw [eo]; exact v1))
    have b1 : ((chL m (setP os i p)).any fun ls => ls.any (· == (i : Int))) = decide (p ≤ (woP m os i).1 - ((wiP m os i).1 - (os.getD i ([], 0)).2)) := by
      rw [Bool.eq_iff_iff, si, decide_eq_true_eq]
      constructor
      · rintro (h | h)
        · exact absurd h hn
        · have := h _ v1
          omega
      · intro h
        right
        intro V hV
        have := hV.uniq v1
        omega
    have b2 : ((chL m (setP os i p)).all fun ls => ls.any (· == (i : Int))) = decide (p < (woP m os i).1 - ((wiP m os i).1 - (os.getD i ([], 0)).2)) := by
      rw [Bool.eq_iff_iff, ai, decide_eq_true_eq]
      constructor
      · rintro (h | h)
        · exact absurd h hn
        · have := h _ v1
          omega
      · intro h
        right
        intro V hV
        have := hV.uniq v1
        omega
    have e1 : ∀ r : Int, dIsN (.int r) .non = pure (.bl false) := fun _ => rfl
    have e2 : ∀ r : Int, dIsNN (.int r) .non = pure (.bl true) := fun _ => rfl
    simp only [hw, Bool.false_eq_true, if_false] at ewo
    simp only [tI] at epo ewo
    rw [b1]
    generalize (woP m os i).1 - ((wiP m os i).1 - (os.getD i ([], 0)).2) = r at b2
    ac_nf0
    rw [dNeI]
    ac_nf0
    simp only [beq_self_eq_true]
    ac_nf0
    refine ea.wp fun h3 g3 => ?_
    rw [di, b2]
    ac_nf0
    rw [e1]
    ac_nf0
    simp only [e_lt]
    ac_nf0
    rw [dNeB]
    ac_nf0
    simp only [beq_self_eq_true]
    ac_nf0
    rw [e1]
    ac_nf0
    simp only [e_le]
    ac_nf0
    rw [dNeB]
    ac_nf0
    simp only [beq_self_eq_true]
    ac_nf0
    refine ew.wp fun h4 g4 => ?_
    ac_nf0
    rw [epw]
    ac_nf0
    rw [e2]
    ac_nf0
    refine ewo.wp fun h5 g5 => ?_
    ac_nf0
    rw [epo]
    ac_nf0
    simp only [e_min]
    ac_nf0
    refine ech.wp fun h6 g6 => ?_
    ac_nf0
    rw [epc, eleast]
    ac_nf0
    rw [dEqI]
    simp only [beq_self_eq_true]
    ac_nf0
    have gg := ((((g1.trans g2).trans g3).trans g4).trans g5).trans g6
    first | exact ⟨trivial, gg⟩ | exact ⟨gg, trivial⟩ | exact gg
end K84
end
section
set_option maxHeartbeats 8000000
namespace K84
open PySem PySem.Spec PyProof.Rows L2 L3 LT
set_option hygiene false in
local macro_rules | `(tactic| ac_nf0) => `(tactic| simp only [e_sThen, e_sSet, e_sAsg, e_sRet, e_sIf, e_sFor, e_sExpr, e_sNil, e_cApp, e_aCons, e_aNil, e_cOp, e_cUn, e_cK, e_var0, e_varS, pure_bind, bind_assoc, e_nx, e_rt, e_ort, e_onx, List.set, e_tCmp, e_tVal, e_tNot, e_tAnd, e_tOr, e_cAnd, e_cOr, e_cNot, e_cIf, e_cTup, e_cLst, e_cLstC, e_bool, e_call1, e_call2, e_call3, e_addI, e_ixT, e_ixL, e_at0, e_at1, e_ofO, e_lenT, e_lenL, e_itT, e_itL, e_iSq, e_iRng, e_gSet, e_gtup2, e_gscons, e_gsnil, e_tupL, e_tupT, wp_bind, wp_pure, wp_new, List.length_cons, List.length_nil, List.length_map, Nat.zero_add, Nat.reduceAdd, Nat.reduceLeDiff, fits_ok, offD, tI, e_cExtend, e_alive, e_extend, e_pick, e_sRaise, raise_bind, noX_pure, e_cSl, e_oNone, e_oSome, e_part, e_slT, e_rev, e_neg, e_addT, e_addL, e_lstT, e_max, e_sub, e_gt, if_true, Bool.not_true, Bool.not_false, Bool.false_eq_true, if_false, List.length_append, List.cons_append, List.nil_append, e_snox, e_cnox])
variable {m : Int} {os : List (List Int × Int)} {i : Nat}
theorem prices_wp (s : Stk m os) (hf : (leftI m os).isEmpty = true) (n9 : os.length ≤ 9) (hi : i < os.length) {s0 s1 s2 s6 : Option D} : ∀ (ps : List Int) {h : Hh} {x7 : Option D} {P : Out → Hh → Prop}, (∀ p ∈ ps, 0 < p) → (∀ y7 h', P (.nx [s0, s1, s2, some (stkD m os), some (.int (i : Int)), some (reachD m os i), s6, y7]) h') →
    wp (fLoop (fun x sd => do let sd1 ← gSet 7 x sd; B_law_1 sd1) (ps.map D.int) [s0, s1, s2, some (stkD m os), some (.int (i : Int)), some (reachD m os i), s6, x7]) h P
  | [], h, x7, P, _, k => by
    rw [List.map_nil, e_floop0, wp_pure]
    exact k _ _
  | p :: r, h, x7, P, hp, k => by
    have ih := fun (h : Hh) (x7 : Option D) => prices_wp s hf n9 hi (s0 := s0) (s1 := s1) (s2 := s2) (s6 := s6) r (h := h) (x7 := x7) (P := P) (fun y hy => hp y (List.mem_cons_of_mem _ hy)) k
    rw [List.map_cons, e_floop]
    generalize fLoop (fun x sd => do let sd1 ← gSet 7 x sd; B_law_1 sd1) (r.map D.int) = rest at ih ⊢
    have e4 : ∀ (F : List D → M D) (x y z w : D), callD 4 F [x, y, z, w] = F [x, y, z, w] := fun _ _ _ _ _ => rfl
    simp only [B_law_1]
    ac_nf0
    simp only [e4]
    refine (right_ev s hf n9 hi (hp p List.mem_cons_self)).wp fun h1 g1 => ?_
    ac_nf0
    exact ih _ _
theorem law_turn {ns : List Int} (hb : ∀ i ∈ ns, Builtin.Int.intBits i ≤ 2 ^ 20) {j : Int} (i0 : 0 ≤ j) (i1 : j < 6) {h : Hh} {x2 x3 x4 x5 x6 x7 : Option D} {P : Out → Hh → Prop}
    (k : ∀ y2 y3 y4 y5 y6 y7 h', P (.nx [some (.scr (ns.map D.int)), some (.int j), y2, y3, y4, y5, y6, y7]) h') : wp (B_law_2 [some (.scr (ns.map D.int)), some (.int j), x2, x3, x4, x5, x6, x7]) h P := by
  unfold B_law_2
  refine wp_thenS (show wp (F__law_box [.scr (ns.map D.int), .int j]) h _ from box_wp hb i0 i1 fun z => ?_)
  have qb : Bx h.length (h ++ [.lst [.int z]]) := ⟨z, by simp⟩
  generalize h.length = b at qb
  generalize h ++ [.lst [.int z]] = h1 at qb
  refine wp_thenS (show wp (F__law_full [.cel b, .int 6, .int 8]) h1 _ from full_wp qb (by decide) (by decide) (by decide) (by decide) fun m os h2 q2 s hf hl hm => ?_)
  have m0 := s.m0
  have n9 : os.length ≤ 9 := by omega
  have npos : 0 < os.length := by
    obtain ⟨o, ho, _⟩ := full_has hf (t := 0) (by decide) (by omega)
    exact List.length_pos_iff.mpr (List.ne_nil_of_mem ho)
  have hlm : (os.map offD).length = os.length := List.length_map _
  refine wp_thenS (show wp (F__law_take [.cel b, .int ((os.map offD).length : Int)]) h2 _ from take_wp q2 (by omega) (by omega) fun t h3 t0 t1 x3 => ?_)
  obtain ⟨i, rfl⟩ : ∃ i : Nat, t = (i : Int) := ⟨t.toNat, by omega⟩
  have hi : i < os.length := by omega
  have mo : os.getD i ([], 0) ∈ os := by simp [List.getD, hi]
  have pp := s.pos _ mo
  have ea := atI_off (os := os) (i := (i : Int)) (by omega) (by omega)
  rw [Int.toNat_natCast] at ea
  generalize hpi : (os.getD i ([], 0)) = o at pp ea
  have e2 : ∀ (F : List D → M D) (a b : FE) (sd : Sd) (x y : D), a sd = pure x → b sd = pure y → cApp (callD 2 F) (aCons a (aCons b aNil)) sd = F [x, y] := fun F a b sd x y e1 e2 => by
    rw [e_cApp, e_aCons, e1, e_aCons, e2]
    rfl
  refine wp_thenS ?_
  rw [e2 _ _ _ _ (stkD m os) (.int (i : Int)) rfl rfl]
  refine (reach_ev s hf n9 hi).wp fun h4 g4 => ?_
  have q4 := (Gro.ext x3.1 g4).1
  refine wp_ifF ?_
  refine wp_mono (P := fun c h' => c = false ∧ Gro h4 h') ?_ ?_
  · have en := needed_ev s hf
    have di : dIn (.int (i : Int)) (.lst (((List.range os.length).filter fun j => !(leftI m (os.eraseIdx j)).isEmpty).map fun (j : Nat) => .int (j : Int))) = pure (.bl (woL m os i).isEmpty) := by
      have := dInL_ints (i : Int) (((List.range os.length).filter fun j => !(leftI m (os.eraseIdx j)).isEmpty).map fun (j : Nat) => (j : Int))
      rw [List.map_map, in_rng hi, need_wo s hi] at this
      exact this
    have eN : dIsN (reachD m os i) .non = pure (.bl (woL m os i).isEmpty) := by
      unfold reachD
      cases (woL m os i).isEmpty <;> rfl
    ac_nf0
    rw [eN]
    ac_nf0
    refine en.wp fun h5 g5 => ?_
    rw [di]
    ac_nf0
    rw [dNeB]
    ac_nf0
    simp only [beq_self_eq_true]
    ac_nf0
    first | exact ⟨trivial, g5⟩ | exact ⟨g5, trivial⟩ | exact g5
  rintro c h5 ⟨rfl, g5⟩
  refine ⟨rfl, ?_⟩
  have q5 := (Gro.ext q4 g5).1
  refine wp_thenS ?_
  refine wp_mono (P := fun d h' => ∃ ps : List Int, d = .lst (ps.map D.int) ∧ ps.length ≤ 4 ∧ ∀ p ∈ ps, 0 < p) ?_ ?_
  · ac_nf0
    refine take_wp q5 (by decide) (by decide) fun v h6 v0 v1 x6 => ?_
    ac_nf0
    rw [est1]
    ac_nf0
    rw [ea]
    ac_nf0
    refine ⟨[1, 1 + v, o.2, o.2 + 5], rfl, show 4 ≤ 4 by decide, ?_⟩
    intro p hp
    simp only [List.mem_cons, List.not_mem_nil, or_false] at hp
    rcases hp with rfl | rfl | rfl | rfl <;> omega
  rintro d h6 ⟨ps, rfl, pl, pp'⟩
  rw [e_sThen, wp_bind]
  refine wp_mono (P := fun o h' => ∃ qs : List Int, (∀ p ∈ qs, 0 < p) ∧ o = .nx [some (.scr (ns.map D.int)), some (.int j), some (.cel b), some (stkD m os), some (.int (i : Int)), some (reachD m os i), some (.lst (qs.map D.int)), x7]) ?_ ?_
  · unfold reachD
    cases hw : (woL m os i).isEmpty with
    | true =>
      have e1 : dIsNN .non .non = pure (.bl false) := rfl
      ac_nf0
      rw [e1]
      ac_nf0
      exact ⟨ps, pp', rfl⟩
    | false =>
      have e1 : ∀ r : Int, dIsNN (.int r) .non = pure (.bl true) := fun _ => rfl
      generalize (woP m os i).1 - ((wiP m os i).1 - (os.getD i ([], 0)).2) = r
      have ec : dComp (iSq (cLst (aCons (cOp dSub (dVar 5) (cK (.int 1))) (aCons (dVar 5) (aCons (cOp dAdd (dVar 5) (cK (.int 1))) aNil))))) (gSet 0) C_law_1 E_law_1 [none] [some (.scr (ns.map D.int)), some (.int j), some (.cel b), some (stkD m os), some (.int (i : Int)), some (.int r), some (.lst (ps.map D.int)), x7] = pure (.lst (([r - 1, r, r + 1].filter fun x => decide (0 < x)).map D.int)) := by
        rw [← filterMap_if]
        refine dComp_src (g' := D.int) ?_ (show 3 ≤ 1000 by decide) fun x _ => ?_
        · ac_nf0
          rfl
        · have eb : bStartD [none] [some (.scr (ns.map D.int)), some (.int j), some (.cel b), some (stkD m os), some (.int (i : Int)), some (.int r), some (.lst (ps.map D.int)), x7] = [none] := rfl
          rw [eb]
          simp only [cTurn, C_law_1, E_law_1]
          ac_nf0
          split <;> rfl
      have hfl : ([r - 1, r, r + 1].filter fun x => decide (0 < x)).length ≤ 3 := List.length_filter_le _ _
      have f := fits_ok (show ps.length + ([r - 1, r, r + 1].filter fun x => decide (0 < x)).length ≤ 1000 by omega)
      ac_nf0
      rw [e1]
      ac_nf0
      rw [ec]
      ac_nf0
      rw [f]
      ac_nf0
      refine ⟨ps ++ [r - 1, r, r + 1].filter fun x => decide (0 < x), ?_, by rw [List.map_append]⟩
      intro p hp
      rcases List.mem_append.mp hp with w | w
      · exact pp' p w
      · simpa using (List.mem_filter.mp w).2
  rintro o' h7 ⟨qs, hq, rfl⟩
  rw [e_nx, e_sFor, wp_bind]
  refine ⟨qs.map D.int, h7, rfl, ?_⟩
  exact prices_wp s hf n9 hi qs hq fun y7 h' => k _ _ _ _ _ _ _
theorem law_loop {ns : List Int} (hb : ∀ i ∈ ns, Builtin.Int.intBits i ≤ 2 ^ 20) : ∀ (ds : List D) {h : Hh} {x1 x2 x3 x4 x5 x6 x7 : Option D} {P : Out → Hh → Prop}, (∀ d ∈ ds, ∃ i : Int, d = .int i ∧ 0 ≤ i ∧ i < 6) → (∀ y1 y2 y3 y4 y5 y6 y7 h', P (.nx [some (.scr (ns.map D.int)), y1, y2, y3, y4, y5, y6, y7]) h') →
    wp (fLoop (fun x sd => do let sd1 ← gSet 1 x sd; B_law_2 sd1) ds [some (.scr (ns.map D.int)), x1, x2, x3, x4, x5, x6, x7]) h P
  | [], h, x1, x2, x3, x4, x5, x6, x7, P, _, k => by
    rw [e_floop0, wp_pure]
    exact k _ _ _ _ _ _ _ _
  | d :: r, h, x1, x2, x3, x4, x5, x6, x7, P, hd, k => by
    obtain ⟨i, rfl, i0, i1⟩ := hd _ List.mem_cons_self
    have ih := fun (h : Hh) (x1 x2 x3 x4 x5 x6 x7 : Option D) => law_loop hb r (h := h) (x1 := x1) (x2 := x2) (x3 := x3) (x4 := x4) (x5 := x5) (x6 := x6) (x7 := x7) (P := P) (fun y hy => hd y (List.mem_cons_of_mem _ hy)) k
    rw [e_floop]
    generalize fLoop (fun x sd => do let sd1 ← gSet 1 x sd; B_law_2 sd1) r = rest at ih ⊢
    rw [wp_bind, e_gSet, pure_bind]
    exact law_turn hb i0 i1 fun y2 y3 y4 y5 y6 y7 h' => ih _ _ _ _ _ _ _ _
theorem law_true : ∀ ns : List Int, ns.length ≤ 63 → (∀ i ∈ ns, Builtin.Int.intBits i ≤ 2 ^ 20) → ∃ h', F_law [.scr (ns.map D.int)] [] = .ok (.bl true) h' := by
  intro ns _ hb
  have key : wp (F_law [.scr (ns.map D.int)]) [] fun d _ => d = .bl true := by
    rw [d_law, wp_bind]
    unfold G_law
    generalize hn : (if (if (3 : Int) < (ns.length : Int) then (3 : Int) else (ns.length : Int)) > 1 then (if (3 : Int) < (ns.length : Int) then (3 : Int) else (ns.length : Int)) else (1 : Int)) = n
    have n0 : 0 ≤ n ∧ n ≤ 6 := by
      rw [← hn]
      split <;> split <;> omega
    refine wp_forP (ds := rngD 0 n.toNat) ?_ ?_
    · ac_nf0
      simp only [e_lenS, List.length_map]
      ac_nf0
      simp only [e_min]
      ac_nf0
      rw [hn]
      exact dRng_ok n0.1 (by omega)
    refine law_loop hb _ (fun d hd => ?_) fun y1 y2 y3 y4 y5 y6 y7 h' => ?_
    · obtain ⟨i, e, i0, i1⟩ := rng_mem hd
      exact ⟨i, e, i0, by omega⟩
    ac_nf0
  obtain ⟨d, h', e, rfl⟩ := key
  exact ⟨h', e⟩
end K84
end
section
set_option maxHeartbeats 8000000
namespace K84
open PySem PySem.Spec PyProof.Rows L2 L3
theorem all_mk {l : W.OpenLaw} {w : World} {K : W.Frag} {h : Heap} {mg : Str → Option Value} {fa a__law_cell a__law_mix a__law_box a__law_take a__law_stock a__law_full a_is_whole a_need_offer a_things_together a_have_all a_is_full a_need_full a_bits_of a_known_lots a_priced_covers a_cheapest_without a_is_rising a_is_lot a_need_lot a_offers_of a_price_of a_cheapest_with a_reach_of a_exchanged a_is_needed a_needed a_priced a_cheapest_covers a_in_some a_in_all a_cheapest_cover a__law_right a_law : Addr} (X : K.In h) (G : h.Ns mainGlobals mg) (hfa : mg "law" = some (.ref fa))
    {od__law_cell an__law_cell od__law_mix an__law_mix od__law_box an__law_box od__law_take an__law_take od__law_stock an__law_stock od__law_full an__law_full od_is_whole an_is_whole od_need_offer an_need_offer od_things_together an_things_together od_have_all an_have_all od_is_full an_is_full od_need_full an_need_full od_bits_of an_bits_of od_known_lots an_known_lots od_priced_covers an_priced_covers od_cheapest_without an_cheapest_without od_is_rising an_is_rising od_is_lot an_is_lot od_need_lot an_need_lot od_offers_of an_offers_of od_price_of an_price_of od_cheapest_with an_cheapest_with od_reach_of an_reach_of od_exchanged an_exchanged od_is_needed an_is_needed od_needed an_needed od_priced an_priced od_cheapest_covers an_cheapest_covers od_in_some an_in_some od_in_all an_in_all od_cheapest_cover an_cheapest_cover od__law_right an__law_right od_law an_law : Option Addr} {sl__law_cell sl__law_mix sl__law_box sl__law_take sl__law_stock sl__law_full sl_is_whole sl_need_offer sl_things_together sl_have_all sl_is_full sl_need_full sl_bits_of sl_known_lots sl_priced_covers sl_cheapest_without sl_is_rising sl_is_lot sl_need_lot sl_offers_of sl_price_of sl_cheapest_with sl_reach_of sl_exchanged sl_is_needed sl_needed sl_priced sl_cheapest_covers sl_in_some sl_in_all sl_cheapest_cover sl__law_right sl_law : Array (Option Value)} {oc__law_cell kV__law_cell dc__law_cell pm__law_cell cd__law_cell ct__law_cell oc__law_mix kV__law_mix dc__law_mix pm__law_mix cd__law_mix ct__law_mix oc__law_box kV__law_box dc__law_box pm__law_box cd__law_box ct__law_box oc__law_take kV__law_take dc__law_take pm__law_take cd__law_take ct__law_take oc__law_stock kV__law_stock dc__law_stock pm__law_stock cd__law_stock ct__law_stock oc__law_full kV__law_full dc__law_full pm__law_full cd__law_full ct__law_full oc_is_whole kV_is_whole dc_is_whole pm_is_whole cd_is_whole ct_is_whole oc_need_offer kV_need_offer dc_need_offer pm_need_offer cd_need_offer ct_need_offer oc_things_together kV_things_together dc_things_together pm_things_together cd_things_together ct_things_together oc_have_all kV_have_all dc_have_all pm_have_all cd_have_all ct_have_all oc_is_full kV_is_full dc_is_full pm_is_full cd_is_full ct_is_full oc_need_full kV_need_full dc_need_full pm_need_full cd_need_full ct_need_full oc_bits_of kV_bits_of dc_bits_of pm_bits_of cd_bits_of ct_bits_of oc_known_lots kV_known_lots dc_known_lots pm_known_lots cd_known_lots ct_known_lots oc_priced_covers kV_priced_covers dc_priced_covers pm_priced_covers cd_priced_covers ct_priced_covers oc_cheapest_without kV_cheapest_without dc_cheapest_without pm_cheapest_without cd_cheapest_without ct_cheapest_without oc_is_rising kV_is_rising dc_is_rising pm_is_rising cd_is_rising ct_is_rising oc_is_lot kV_is_lot dc_is_lot pm_is_lot cd_is_lot ct_is_lot oc_need_lot kV_need_lot dc_need_lot pm_need_lot cd_need_lot ct_need_lot oc_offers_of kV_offers_of dc_offers_of pm_offers_of cd_offers_of ct_offers_of oc_price_of kV_price_of dc_price_of pm_price_of cd_price_of ct_price_of oc_cheapest_with kV_cheapest_with dc_cheapest_with pm_cheapest_with cd_cheapest_with ct_cheapest_with oc_reach_of kV_reach_of dc_reach_of pm_reach_of cd_reach_of ct_reach_of oc_exchanged kV_exchanged dc_exchanged pm_exchanged cd_exchanged ct_exchanged oc_is_needed kV_is_needed dc_is_needed pm_is_needed cd_is_needed ct_is_needed oc_needed kV_needed dc_needed pm_needed cd_needed ct_needed oc_priced kV_priced dc_priced pm_priced cd_priced ct_priced oc_cheapest_covers kV_cheapest_covers dc_cheapest_covers pm_cheapest_covers cd_cheapest_covers ct_cheapest_covers oc_in_some kV_in_some dc_in_some pm_in_some cd_in_some ct_in_some oc_in_all kV_in_all dc_in_all pm_in_all cd_in_all ct_in_all oc_cheapest_cover kV_cheapest_cover dc_cheapest_cover pm_cheapest_cover cd_cheapest_cover ct_cheapest_cover oc__law_right kV__law_right dc__law_right pm__law_right cd__law_right ct__law_right oc_law kV_law dc_law pm_law cd_law ct_law : Value}
    (e__law_cell : W.nsIn K mainGlobals "_law_cell" = some (some (.ref a__law_cell))) (l__law_cell : K.lookup a__law_cell = some ⟨oc__law_cell, od__law_cell, .func (W.fnOf "_law_cell" "_law_cell" (defArgs s__law_cell) (defBody s__law_cell) (defScope s__law_cell) .none kV__law_cell dc__law_cell pm__law_cell an__law_cell cd__law_cell ct__law_cell), sl__law_cell⟩) (c__law_cell : W.codeIn K cd__law_cell "_law_cell" = true) (k__law_cell : W.keepIn K (.ref a__law_cell) = true)
    (e__law_mix : W.nsIn K mainGlobals "_law_mix" = some (some (.ref a__law_mix))) (l__law_mix : K.lookup a__law_mix = some ⟨oc__law_mix, od__law_mix, .func (W.fnOf "_law_mix" "_law_mix" (defArgs s__law_mix) (defBody s__law_mix) (defScope s__law_mix) .none kV__law_mix dc__law_mix pm__law_mix an__law_mix cd__law_mix ct__law_mix), sl__law_mix⟩) (c__law_mix : W.codeIn K cd__law_mix "_law_mix" = true) (k__law_mix : W.keepIn K (.ref a__law_mix) = true)
    (e__law_box : W.nsIn K mainGlobals "_law_box" = some (some (.ref a__law_box))) (l__law_box : K.lookup a__law_box = some ⟨oc__law_box, od__law_box, .func (W.fnOf "_law_box" "_law_box" (defArgs s__law_box) (defBody s__law_box) (defScope s__law_box) .none kV__law_box dc__law_box pm__law_box an__law_box cd__law_box ct__law_box), sl__law_box⟩) (c__law_box : W.codeIn K cd__law_box "_law_box" = true) (k__law_box : W.keepIn K (.ref a__law_box) = true)
    (e__law_take : W.nsIn K mainGlobals "_law_take" = some (some (.ref a__law_take))) (l__law_take : K.lookup a__law_take = some ⟨oc__law_take, od__law_take, .func (W.fnOf "_law_take" "_law_take" (defArgs s__law_take) (defBody s__law_take) (defScope s__law_take) .none kV__law_take dc__law_take pm__law_take an__law_take cd__law_take ct__law_take), sl__law_take⟩) (c__law_take : W.codeIn K cd__law_take "_law_take" = true) (k__law_take : W.keepIn K (.ref a__law_take) = true)
    (e__law_stock : W.nsIn K mainGlobals "_law_stock" = some (some (.ref a__law_stock))) (l__law_stock : K.lookup a__law_stock = some ⟨oc__law_stock, od__law_stock, .func (W.fnOf "_law_stock" "_law_stock" (defArgs s__law_stock) (defBody s__law_stock) (defScope s__law_stock) .none kV__law_stock dc__law_stock pm__law_stock an__law_stock cd__law_stock ct__law_stock), sl__law_stock⟩) (c__law_stock : W.codeIn K cd__law_stock "_law_stock" = true) (k__law_stock : W.keepIn K (.ref a__law_stock) = true)
    (e__law_full : W.nsIn K mainGlobals "_law_full" = some (some (.ref a__law_full))) (l__law_full : K.lookup a__law_full = some ⟨oc__law_full, od__law_full, .func (W.fnOf "_law_full" "_law_full" (defArgs s__law_full) (defBody s__law_full) (defScope s__law_full) .none kV__law_full dc__law_full pm__law_full an__law_full cd__law_full ct__law_full), sl__law_full⟩) (c__law_full : W.codeIn K cd__law_full "_law_full" = true) (k__law_full : W.keepIn K (.ref a__law_full) = true)
    (e_is_whole : W.nsIn K mainGlobals "is_whole" = some (some (.ref a_is_whole))) (l_is_whole : K.lookup a_is_whole = some ⟨oc_is_whole, od_is_whole, .func (W.fnOf "is_whole" "is_whole" (defArgs s_is_whole) (defBody s_is_whole) (defScope s_is_whole) .none kV_is_whole dc_is_whole pm_is_whole an_is_whole cd_is_whole ct_is_whole), sl_is_whole⟩) (c_is_whole : W.codeIn K cd_is_whole "is_whole" = true) (k_is_whole : W.keepIn K (.ref a_is_whole) = true)
    (e_need_offer : W.nsIn K mainGlobals "need_offer" = some (some (.ref a_need_offer))) (l_need_offer : K.lookup a_need_offer = some ⟨oc_need_offer, od_need_offer, .func (W.fnOf "need_offer" "need_offer" (defArgs s_need_offer) (defBody s_need_offer) (defScope s_need_offer) .none kV_need_offer dc_need_offer pm_need_offer an_need_offer cd_need_offer ct_need_offer), sl_need_offer⟩) (c_need_offer : W.codeIn K cd_need_offer "need_offer" = true) (k_need_offer : W.keepIn K (.ref a_need_offer) = true)
    (e_things_together : W.nsIn K mainGlobals "things_together" = some (some (.ref a_things_together))) (l_things_together : K.lookup a_things_together = some ⟨oc_things_together, od_things_together, .func (W.fnOf "things_together" "things_together" (defArgs s_things_together) (defBody s_things_together) (defScope s_things_together) .none kV_things_together dc_things_together pm_things_together an_things_together cd_things_together ct_things_together), sl_things_together⟩) (c_things_together : W.codeIn K cd_things_together "things_together" = true) (k_things_together : W.keepIn K (.ref a_things_together) = true)
    (e_have_all : W.nsIn K mainGlobals "have_all" = some (some (.ref a_have_all))) (l_have_all : K.lookup a_have_all = some ⟨oc_have_all, od_have_all, .func (W.fnOf "have_all" "have_all" (defArgs s_have_all) (defBody s_have_all) (defScope s_have_all) .none kV_have_all dc_have_all pm_have_all an_have_all cd_have_all ct_have_all), sl_have_all⟩) (c_have_all : W.codeIn K cd_have_all "have_all" = true) (k_have_all : W.keepIn K (.ref a_have_all) = true)
    (e_is_full : W.nsIn K mainGlobals "is_full" = some (some (.ref a_is_full))) (l_is_full : K.lookup a_is_full = some ⟨oc_is_full, od_is_full, .func (W.fnOf "is_full" "is_full" (defArgs s_is_full) (defBody s_is_full) (defScope s_is_full) .none kV_is_full dc_is_full pm_is_full an_is_full cd_is_full ct_is_full), sl_is_full⟩) (c_is_full : W.codeIn K cd_is_full "is_full" = true) (k_is_full : W.keepIn K (.ref a_is_full) = true)
    (e_need_full : W.nsIn K mainGlobals "need_full" = some (some (.ref a_need_full))) (l_need_full : K.lookup a_need_full = some ⟨oc_need_full, od_need_full, .func (W.fnOf "need_full" "need_full" (defArgs s_need_full) (defBody s_need_full) (defScope s_need_full) .none kV_need_full dc_need_full pm_need_full an_need_full cd_need_full ct_need_full), sl_need_full⟩) (c_need_full : W.codeIn K cd_need_full "need_full" = true) (k_need_full : W.keepIn K (.ref a_need_full) = true)
    (e_bits_of : W.nsIn K mainGlobals "bits_of" = some (some (.ref a_bits_of))) (l_bits_of : K.lookup a_bits_of = some ⟨oc_bits_of, od_bits_of, .func (W.fnOf "bits_of" "bits_of" (defArgs s_bits_of) (defBody s_bits_of) (defScope s_bits_of) .none kV_bits_of dc_bits_of pm_bits_of an_bits_of cd_bits_of ct_bits_of), sl_bits_of⟩) (c_bits_of : W.codeIn K cd_bits_of "bits_of" = true) (k_bits_of : W.keepIn K (.ref a_bits_of) = true)
    (e_known_lots : W.nsIn K mainGlobals "known_lots" = some (some (.ref a_known_lots))) (l_known_lots : K.lookup a_known_lots = some ⟨oc_known_lots, od_known_lots, .func (W.fnOf "known_lots" "known_lots" (defArgs s_known_lots) (defBody s_known_lots) (defScope s_known_lots) .none kV_known_lots dc_known_lots pm_known_lots an_known_lots cd_known_lots ct_known_lots), sl_known_lots⟩) (c_known_lots : W.codeIn K cd_known_lots "known_lots" = true) (k_known_lots : W.keepIn K (.ref a_known_lots) = true)
    (e_priced_covers : W.nsIn K mainGlobals "priced_covers" = some (some (.ref a_priced_covers))) (l_priced_covers : K.lookup a_priced_covers = some ⟨oc_priced_covers, od_priced_covers, .func (W.fnOf "priced_covers" "priced_covers" (defArgs s_priced_covers) (defBody s_priced_covers) (defScope s_priced_covers) .none kV_priced_covers dc_priced_covers pm_priced_covers an_priced_covers cd_priced_covers ct_priced_covers), sl_priced_covers⟩) (c_priced_covers : W.codeIn K cd_priced_covers "priced_covers" = true) (k_priced_covers : W.keepIn K (.ref a_priced_covers) = true)
    (e_cheapest_without : W.nsIn K mainGlobals "cheapest_without" = some (some (.ref a_cheapest_without))) (l_cheapest_without : K.lookup a_cheapest_without = some ⟨oc_cheapest_without, od_cheapest_without, .func (W.fnOf "cheapest_without" "cheapest_without" (defArgs s_cheapest_without) (defBody s_cheapest_without) (defScope s_cheapest_without) .none kV_cheapest_without dc_cheapest_without pm_cheapest_without an_cheapest_without cd_cheapest_without ct_cheapest_without), sl_cheapest_without⟩) (c_cheapest_without : W.codeIn K cd_cheapest_without "cheapest_without" = true) (k_cheapest_without : W.keepIn K (.ref a_cheapest_without) = true)
    (e_is_rising : W.nsIn K mainGlobals "is_rising" = some (some (.ref a_is_rising))) (l_is_rising : K.lookup a_is_rising = some ⟨oc_is_rising, od_is_rising, .func (W.fnOf "is_rising" "is_rising" (defArgs s_is_rising) (defBody s_is_rising) (defScope s_is_rising) .none kV_is_rising dc_is_rising pm_is_rising an_is_rising cd_is_rising ct_is_rising), sl_is_rising⟩) (c_is_rising : W.codeIn K cd_is_rising "is_rising" = true) (k_is_rising : W.keepIn K (.ref a_is_rising) = true)
    (e_is_lot : W.nsIn K mainGlobals "is_lot" = some (some (.ref a_is_lot))) (l_is_lot : K.lookup a_is_lot = some ⟨oc_is_lot, od_is_lot, .func (W.fnOf "is_lot" "is_lot" (defArgs s_is_lot) (defBody s_is_lot) (defScope s_is_lot) .none kV_is_lot dc_is_lot pm_is_lot an_is_lot cd_is_lot ct_is_lot), sl_is_lot⟩) (c_is_lot : W.codeIn K cd_is_lot "is_lot" = true) (k_is_lot : W.keepIn K (.ref a_is_lot) = true)
    (e_need_lot : W.nsIn K mainGlobals "need_lot" = some (some (.ref a_need_lot))) (l_need_lot : K.lookup a_need_lot = some ⟨oc_need_lot, od_need_lot, .func (W.fnOf "need_lot" "need_lot" (defArgs s_need_lot) (defBody s_need_lot) (defScope s_need_lot) .none kV_need_lot dc_need_lot pm_need_lot an_need_lot cd_need_lot ct_need_lot), sl_need_lot⟩) (c_need_lot : W.codeIn K cd_need_lot "need_lot" = true) (k_need_lot : W.keepIn K (.ref a_need_lot) = true)
    (e_offers_of : W.nsIn K mainGlobals "offers_of" = some (some (.ref a_offers_of))) (l_offers_of : K.lookup a_offers_of = some ⟨oc_offers_of, od_offers_of, .func (W.fnOf "offers_of" "offers_of" (defArgs s_offers_of) (defBody s_offers_of) (defScope s_offers_of) .none kV_offers_of dc_offers_of pm_offers_of an_offers_of cd_offers_of ct_offers_of), sl_offers_of⟩) (c_offers_of : W.codeIn K cd_offers_of "offers_of" = true) (k_offers_of : W.keepIn K (.ref a_offers_of) = true)
    (e_price_of : W.nsIn K mainGlobals "price_of" = some (some (.ref a_price_of))) (l_price_of : K.lookup a_price_of = some ⟨oc_price_of, od_price_of, .func (W.fnOf "price_of" "price_of" (defArgs s_price_of) (defBody s_price_of) (defScope s_price_of) .none kV_price_of dc_price_of pm_price_of an_price_of cd_price_of ct_price_of), sl_price_of⟩) (c_price_of : W.codeIn K cd_price_of "price_of" = true) (k_price_of : W.keepIn K (.ref a_price_of) = true)
    (e_cheapest_with : W.nsIn K mainGlobals "cheapest_with" = some (some (.ref a_cheapest_with))) (l_cheapest_with : K.lookup a_cheapest_with = some ⟨oc_cheapest_with, od_cheapest_with, .func (W.fnOf "cheapest_with" "cheapest_with" (defArgs s_cheapest_with) (defBody s_cheapest_with) (defScope s_cheapest_with) .none kV_cheapest_with dc_cheapest_with pm_cheapest_with an_cheapest_with cd_cheapest_with ct_cheapest_with), sl_cheapest_with⟩) (c_cheapest_with : W.codeIn K cd_cheapest_with "cheapest_with" = true) (k_cheapest_with : W.keepIn K (.ref a_cheapest_with) = true)
    (e_reach_of : W.nsIn K mainGlobals "reach_of" = some (some (.ref a_reach_of))) (l_reach_of : K.lookup a_reach_of = some ⟨oc_reach_of, od_reach_of, .func (W.fnOf "reach_of" "reach_of" (defArgs s_reach_of) (defBody s_reach_of) (defScope s_reach_of) .none kV_reach_of dc_reach_of pm_reach_of an_reach_of cd_reach_of ct_reach_of), sl_reach_of⟩) (c_reach_of : W.codeIn K cd_reach_of "reach_of" = true) (k_reach_of : W.keepIn K (.ref a_reach_of) = true)
    (e_exchanged : W.nsIn K mainGlobals "exchanged" = some (some (.ref a_exchanged))) (l_exchanged : K.lookup a_exchanged = some ⟨oc_exchanged, od_exchanged, .func (W.fnOf "exchanged" "exchanged" (defArgs s_exchanged) (defBody s_exchanged) (defScope s_exchanged) .none kV_exchanged dc_exchanged pm_exchanged an_exchanged cd_exchanged ct_exchanged), sl_exchanged⟩) (c_exchanged : W.codeIn K cd_exchanged "exchanged" = true) (k_exchanged : W.keepIn K (.ref a_exchanged) = true)
    (e_is_needed : W.nsIn K mainGlobals "is_needed" = some (some (.ref a_is_needed))) (l_is_needed : K.lookup a_is_needed = some ⟨oc_is_needed, od_is_needed, .func (W.fnOf "is_needed" "is_needed" (defArgs s_is_needed) (defBody s_is_needed) (defScope s_is_needed) .none kV_is_needed dc_is_needed pm_is_needed an_is_needed cd_is_needed ct_is_needed), sl_is_needed⟩) (c_is_needed : W.codeIn K cd_is_needed "is_needed" = true) (k_is_needed : W.keepIn K (.ref a_is_needed) = true)
    (e_needed : W.nsIn K mainGlobals "needed" = some (some (.ref a_needed))) (l_needed : K.lookup a_needed = some ⟨oc_needed, od_needed, .func (W.fnOf "needed" "needed" (defArgs s_needed) (defBody s_needed) (defScope s_needed) .none kV_needed dc_needed pm_needed an_needed cd_needed ct_needed), sl_needed⟩) (c_needed : W.codeIn K cd_needed "needed" = true) (k_needed : W.keepIn K (.ref a_needed) = true)
    (e_priced : W.nsIn K mainGlobals "priced" = some (some (.ref a_priced))) (l_priced : K.lookup a_priced = some ⟨oc_priced, od_priced, .func (W.fnOf "priced" "priced" (defArgs s_priced) (defBody s_priced) (defScope s_priced) .none kV_priced dc_priced pm_priced an_priced cd_priced ct_priced), sl_priced⟩) (c_priced : W.codeIn K cd_priced "priced" = true) (k_priced : W.keepIn K (.ref a_priced) = true)
    (e_cheapest_covers : W.nsIn K mainGlobals "cheapest_covers" = some (some (.ref a_cheapest_covers))) (l_cheapest_covers : K.lookup a_cheapest_covers = some ⟨oc_cheapest_covers, od_cheapest_covers, .func (W.fnOf "cheapest_covers" "cheapest_covers" (defArgs s_cheapest_covers) (defBody s_cheapest_covers) (defScope s_cheapest_covers) .none kV_cheapest_covers dc_cheapest_covers pm_cheapest_covers an_cheapest_covers cd_cheapest_covers ct_cheapest_covers), sl_cheapest_covers⟩) (c_cheapest_covers : W.codeIn K cd_cheapest_covers "cheapest_covers" = true) (k_cheapest_covers : W.keepIn K (.ref a_cheapest_covers) = true)
    (e_in_some : W.nsIn K mainGlobals "in_some" = some (some (.ref a_in_some))) (l_in_some : K.lookup a_in_some = some ⟨oc_in_some, od_in_some, .func (W.fnOf "in_some" "in_some" (defArgs s_in_some) (defBody s_in_some) (defScope s_in_some) .none kV_in_some dc_in_some pm_in_some an_in_some cd_in_some ct_in_some), sl_in_some⟩) (c_in_some : W.codeIn K cd_in_some "in_some" = true) (k_in_some : W.keepIn K (.ref a_in_some) = true)
    (e_in_all : W.nsIn K mainGlobals "in_all" = some (some (.ref a_in_all))) (l_in_all : K.lookup a_in_all = some ⟨oc_in_all, od_in_all, .func (W.fnOf "in_all" "in_all" (defArgs s_in_all) (defBody s_in_all) (defScope s_in_all) .none kV_in_all dc_in_all pm_in_all an_in_all cd_in_all ct_in_all), sl_in_all⟩) (c_in_all : W.codeIn K cd_in_all "in_all" = true) (k_in_all : W.keepIn K (.ref a_in_all) = true)
    (e_cheapest_cover : W.nsIn K mainGlobals "cheapest_cover" = some (some (.ref a_cheapest_cover))) (l_cheapest_cover : K.lookup a_cheapest_cover = some ⟨oc_cheapest_cover, od_cheapest_cover, .func (W.fnOf "cheapest_cover" "cheapest_cover" (defArgs s_cheapest_cover) (defBody s_cheapest_cover) (defScope s_cheapest_cover) .none kV_cheapest_cover dc_cheapest_cover pm_cheapest_cover an_cheapest_cover cd_cheapest_cover ct_cheapest_cover), sl_cheapest_cover⟩) (c_cheapest_cover : W.codeIn K cd_cheapest_cover "cheapest_cover" = true) (k_cheapest_cover : W.keepIn K (.ref a_cheapest_cover) = true)
    (e__law_right : W.nsIn K mainGlobals "_law_right" = some (some (.ref a__law_right))) (l__law_right : K.lookup a__law_right = some ⟨oc__law_right, od__law_right, .func (W.fnOf "_law_right" "_law_right" (defArgs s__law_right) (defBody s__law_right) (defScope s__law_right) .none kV__law_right dc__law_right pm__law_right an__law_right cd__law_right ct__law_right), sl__law_right⟩) (c__law_right : W.codeIn K cd__law_right "_law_right" = true) (k__law_right : W.keepIn K (.ref a__law_right) = true)
    (e_law : W.nsIn K mainGlobals "law" = some (some (.ref a_law))) (l_law : K.lookup a_law = some ⟨oc_law, od_law, .func (W.fnOf "law" "law" (defArgs s_law) (defBody s_law) (defScope s_law) .none kV_law dc_law pm_law an_law cd_law ct_law), sl_law⟩) (c_law : W.codeIn K cd_law "law" = true) (k_law : W.keepIn K (.ref a_law) = true)
    (z_all : W.nsIn K mainGlobals "all" = some none)
    (z_any : W.nsIn K mainGlobals "any" = some none)
    (z_bool : W.nsIn K mainGlobals "bool" = some none)
    (z_divmod : W.nsIn K mainGlobals "divmod" = some none)
    (z_int : W.nsIn K mainGlobals "int" = some none)
    (z_isinstance : W.nsIn K mainGlobals "isinstance" = some none)
    (z_len : W.nsIn K mainGlobals "len" = some none)
    (z_list : W.nsIn K mainGlobals "list" = some none)
    (z_max : W.nsIn K mainGlobals "max" = some none)
    (z_min : W.nsIn K mainGlobals "min" = some none)
    (z_range : W.nsIn K mainGlobals "range" = some none)
    (z_set : W.nsIn K mainGlobals "set" = some none)
    (z_sorted : W.nsIn K mainGlobals "sorted" = some none)
    (z_sum : W.nsIn K mainGlobals "sum" = some none)
    (z_tuple : W.nsIn K mainGlobals "tuple" = some none)
    : ∃ fd : FuncData, (∀ (s : Shared) (v : Value), BindsTo s fd ⟨[v], []⟩ [("script", v)]) ∧ ∀ base : Heap, K.In base → base.Ns mainGlobals mg → FnOk l.prog w K mg base CX0 9 fa fd ["script"] (spOf K 1 F_law) := by
  have e := hfa.symm.trans (W.mg_of X G e_law)
  cases e
  have F__law_cell := fun_mk (st := s__law_cell) l__law_cell c__law_cell k__law_cell
  have b__law_cell := F__law_cell.binds (ps := ["script", "k"]) fun _ _ _ _ _ _ us hl => match us, hl with | [_, _], _ => rfl
  have F__law_mix := fun_mk (st := s__law_mix) l__law_mix c__law_mix k__law_mix
  have b__law_mix := F__law_mix.binds (ps := ["cell", "k"]) fun _ _ _ _ _ _ us hl => match us, hl with | [_, _], _ => rfl
  have F__law_box := fun_mk (st := s__law_box) l__law_box c__law_box k__law_box
  have b__law_box := F__law_box.binds (ps := ["script", "k"]) fun _ _ _ _ _ _ us hl => match us, hl with | [_, _], _ => rfl
  have F__law_take := fun_mk (st := s__law_take) l__law_take c__law_take k__law_take
  have b__law_take := F__law_take.binds (ps := ["box", "many"]) fun _ _ _ _ _ _ us hl => match us, hl with | [_, _], _ => rfl
  have F__law_stock := fun_mk (st := s__law_stock) l__law_stock c__law_stock k__law_stock
  have b__law_stock := F__law_stock.binds (ps := ["box", "most_things", "most_offers"]) fun _ _ _ _ _ _ us hl => match us, hl with | [_, _, _], _ => rfl
  have F__law_full := fun_mk (st := s__law_full) l__law_full c__law_full k__law_full
  have b__law_full := F__law_full.binds (ps := ["box", "most_things", "most_offers"]) fun _ _ _ _ _ _ us hl => match us, hl with | [_, _, _], _ => rfl
  have F_is_whole := fun_mk (st := s_is_whole) l_is_whole c_is_whole k_is_whole
  have b_is_whole := F_is_whole.binds (ps := ["thing"]) fun _ _ _ _ _ _ us hl => match us, hl with | [_], _ => rfl
  have F_need_offer := fun_mk (st := s_need_offer) l_need_offer c_need_offer k_need_offer
  have b_need_offer := F_need_offer.binds (ps := ["stock", "offer"]) fun _ _ _ _ _ _ us hl => match us, hl with | [_, _], _ => rfl
  have F_things_together := fun_mk (st := s_things_together) l_things_together c_things_together k_things_together
  have b_things_together := F_things_together.binds (ps := ["offers"]) fun _ _ _ _ _ _ us hl => match us, hl with | [_], _ => rfl
  have F_have_all := fun_mk (st := s_have_all) l_have_all c_have_all k_have_all
  have b_have_all := F_have_all.binds (ps := ["stock", "offers"]) fun _ _ _ _ _ _ us hl => match us, hl with | [_, _], _ => rfl
  have F_is_full := fun_mk (st := s_is_full) l_is_full c_is_full k_is_full
  have b_is_full := F_is_full.binds (ps := ["stock"]) fun _ _ _ _ _ _ us hl => match us, hl with | [_], _ => rfl
  have F_need_full := fun_mk (st := s_need_full) l_need_full c_need_full k_need_full
  have b_need_full := F_need_full.binds (ps := ["stock"]) fun _ _ _ _ _ _ us hl => match us, hl with | [_], _ => rfl
  have F_bits_of := fun_mk (st := s_bits_of) l_bits_of c_bits_of k_bits_of
  have b_bits_of := F_bits_of.binds (ps := ["many", "things"]) fun _ _ _ _ _ _ us hl => match us, hl with | [_, _], _ => rfl
  have F_known_lots := fun_mk (st := s_known_lots) l_known_lots c_known_lots k_known_lots
  have b_known_lots := F_known_lots.binds (ps := ["stock"]) fun _ _ _ _ _ _ us hl => match us, hl with | [_], _ => rfl
  have F_priced_covers := fun_mk (st := s_priced_covers) l_priced_covers c_priced_covers k_priced_covers
  have b_priced_covers := F_priced_covers.binds (ps := ["stock"]) fun _ _ _ _ _ _ us hl => match us, hl with | [_], _ => rfl
  have F_cheapest_without := fun_mk (st := s_cheapest_without) l_cheapest_without c_cheapest_without k_cheapest_without
  have b_cheapest_without := F_cheapest_without.binds (ps := ["stock", "offer"]) fun _ _ _ _ _ _ us hl => match us, hl with | [_, _], _ => rfl
  have F_is_rising := fun_mk (st := s_is_rising) l_is_rising c_is_rising k_is_rising
  have b_is_rising := F_is_rising.binds (ps := ["thing", "bound"]) fun _ _ _ _ _ _ us hl => match us, hl with | [_, _], _ => rfl
  have F_is_lot := fun_mk (st := s_is_lot) l_is_lot c_is_lot k_is_lot
  have b_is_lot := F_is_lot.binds (ps := ["stock", "thing"]) fun _ _ _ _ _ _ us hl => match us, hl with | [_, _], _ => rfl
  have F_need_lot := fun_mk (st := s_need_lot) l_need_lot c_need_lot k_need_lot
  have b_need_lot := F_need_lot.binds (ps := ["stock", "lot"]) fun _ _ _ _ _ _ us hl => match us, hl with | [_, _], _ => rfl
  have F_offers_of := fun_mk (st := s_offers_of) l_offers_of c_offers_of k_offers_of
  have b_offers_of := F_offers_of.binds (ps := ["stock", "lot"]) fun _ _ _ _ _ _ us hl => match us, hl with | [_, _], _ => rfl
  have F_price_of := fun_mk (st := s_price_of) l_price_of c_price_of k_price_of
  have b_price_of := F_price_of.binds (ps := ["stock", "lot"]) fun _ _ _ _ _ _ us hl => match us, hl with | [_, _], _ => rfl
  have F_cheapest_with := fun_mk (st := s_cheapest_with) l_cheapest_with c_cheapest_with k_cheapest_with
  have b_cheapest_with := F_cheapest_with.binds (ps := ["stock", "offer"]) fun _ _ _ _ _ _ us hl => match us, hl with | [_, _], _ => rfl
  have F_reach_of := fun_mk (st := s_reach_of) l_reach_of c_reach_of k_reach_of
  have b_reach_of := F_reach_of.binds (ps := ["stock", "offer"]) fun _ _ _ _ _ _ us hl => match us, hl with | [_, _], _ => rfl
  have F_exchanged := fun_mk (st := s_exchanged) l_exchanged c_exchanged k_exchanged
  have b_exchanged := F_exchanged.binds (ps := ["stock", "number", "offers"]) fun _ _ _ _ _ _ us hl => match us, hl with | [_, _, _], _ => rfl
  have F_is_needed := fun_mk (st := s_is_needed) l_is_needed c_is_needed k_is_needed
  have b_is_needed := F_is_needed.binds (ps := ["stock", "number"]) fun _ _ _ _ _ _ us hl => match us, hl with | [_, _], _ => rfl
  have F_needed := fun_mk (st := s_needed) l_needed c_needed k_needed
  have b_needed := F_needed.binds (ps := ["stock"]) fun _ _ _ _ _ _ us hl => match us, hl with | [_], _ => rfl
  have F_priced := fun_mk (st := s_priced) l_priced c_priced k_priced
  have b_priced := F_priced.binds (ps := ["stock", "offer", "price"]) fun _ _ _ _ _ _ us hl => match us, hl with | [_, _, _], _ => rfl
  have F_cheapest_covers := fun_mk (st := s_cheapest_covers) l_cheapest_covers c_cheapest_covers k_cheapest_covers
  have b_cheapest_covers := F_cheapest_covers.binds (ps := ["stock"]) fun _ _ _ _ _ _ us hl => match us, hl with | [_], _ => rfl
  have F_in_some := fun_mk (st := s_in_some) l_in_some c_in_some k_in_some
  have b_in_some := F_in_some.binds (ps := ["stock"]) fun _ _ _ _ _ _ us hl => match us, hl with | [_], _ => rfl
  have F_in_all := fun_mk (st := s_in_all) l_in_all c_in_all k_in_all
  have b_in_all := F_in_all.binds (ps := ["stock"]) fun _ _ _ _ _ _ us hl => match us, hl with | [_], _ => rfl
  have F_cheapest_cover := fun_mk (st := s_cheapest_cover) l_cheapest_cover c_cheapest_cover k_cheapest_cover
  have b_cheapest_cover := F_cheapest_cover.binds (ps := ["stock"]) fun _ _ _ _ _ _ us hl => match us, hl with | [_], _ => rfl
  have F__law_right := fun_mk (st := s__law_right) l__law_right c__law_right k__law_right
  have b__law_right := F__law_right.binds (ps := ["stock", "offer", "price", "reach"]) fun _ _ _ _ _ _ us hl => match us, hl with | [_, _, _, _], _ => rfl
  have F_law := fun_mk (st := s_law) l_law c_law k_law
  have b_law := F_law.binds (ps := ["script"]) fun _ _ _ _ _ _ us hl => match us, hl with | [_], _ => rfl
  have T : Tx K mg ⟨a__law_cell, _, a__law_mix, _, a__law_box, _, a__law_take, _, a__law_stock, _, a__law_full, _, a_is_whole, _, a_need_offer, _, a_things_together, _, a_have_all, _, a_is_full, _, a_need_full, _, a_bits_of, _, a_known_lots, _, a_priced_covers, _, a_cheapest_without, _, a_is_rising, _, a_is_lot, _, a_need_lot, _, a_offers_of, _, a_price_of, _, a_cheapest_with, _, a_reach_of, _, a_exchanged, _, a_is_needed, _, a_needed, _, a_priced, _, a_cheapest_covers, _, a_in_some, _, a_in_all, _, a_cheapest_cover, _, a__law_right, _, fa, _⟩ :=
    { n_all := W.mg_none_of X G z_all,
      n_any := W.mg_none_of X G z_any,
      n_bool := W.mg_none_of X G z_bool,
      n_divmod := W.mg_none_of X G z_divmod,
      n_int := W.mg_none_of X G z_int,
      n_isinstance := W.mg_none_of X G z_isinstance,
      n_len := W.mg_none_of X G z_len,
      n_list := W.mg_none_of X G z_list,
      n_max := W.mg_none_of X G z_max,
      n_min := W.mg_none_of X G z_min,
      n_range := W.mg_none_of X G z_range,
      n_set := W.mg_none_of X G z_set,
      n_sorted := W.mg_none_of X G z_sorted,
      n_sum := W.mg_none_of X G z_sum,
      n_tuple := W.mg_none_of X G z_tuple,
      m__law_cell := W.mg_of X G e__law_cell,
      F__law_cell := F__law_cell,
      b__law_cell := b__law_cell,
      m__law_mix := W.mg_of X G e__law_mix,
      F__law_mix := F__law_mix,
      b__law_mix := b__law_mix,
      m__law_box := W.mg_of X G e__law_box,
      F__law_box := F__law_box,
      b__law_box := b__law_box,
      m__law_take := W.mg_of X G e__law_take,
      F__law_take := F__law_take,
      b__law_take := b__law_take,
      m__law_stock := W.mg_of X G e__law_stock,
      F__law_stock := F__law_stock,
      b__law_stock := b__law_stock,
      m__law_full := W.mg_of X G e__law_full,
      F__law_full := F__law_full,
      b__law_full := b__law_full,
      m_is_whole := W.mg_of X G e_is_whole,
      F_is_whole := F_is_whole,
      b_is_whole := b_is_whole,
      m_need_offer := W.mg_of X G e_need_offer,
      F_need_offer := F_need_offer,
      b_need_offer := b_need_offer,
      m_things_together := W.mg_of X G e_things_together,
      F_things_together := F_things_together,
      b_things_together := b_things_together,
      m_have_all := W.mg_of X G e_have_all,
      F_have_all := F_have_all,
      b_have_all := b_have_all,
      m_is_full := W.mg_of X G e_is_full,
      F_is_full := F_is_full,
      b_is_full := b_is_full,
      m_need_full := W.mg_of X G e_need_full,
      F_need_full := F_need_full,
      b_need_full := b_need_full,
      m_bits_of := W.mg_of X G e_bits_of,
      F_bits_of := F_bits_of,
      b_bits_of := b_bits_of,
      m_known_lots := W.mg_of X G e_known_lots,
      F_known_lots := F_known_lots,
      b_known_lots := b_known_lots,
      m_priced_covers := W.mg_of X G e_priced_covers,
      F_priced_covers := F_priced_covers,
      b_priced_covers := b_priced_covers,
      m_cheapest_without := W.mg_of X G e_cheapest_without,
      F_cheapest_without := F_cheapest_without,
      b_cheapest_without := b_cheapest_without,
      m_is_rising := W.mg_of X G e_is_rising,
      F_is_rising := F_is_rising,
      b_is_rising := b_is_rising,
      m_is_lot := W.mg_of X G e_is_lot,
      F_is_lot := F_is_lot,
      b_is_lot := b_is_lot,
      m_need_lot := W.mg_of X G e_need_lot,
      F_need_lot := F_need_lot,
      b_need_lot := b_need_lot,
      m_offers_of := W.mg_of X G e_offers_of,
      F_offers_of := F_offers_of,
      b_offers_of := b_offers_of,
      m_price_of := W.mg_of X G e_price_of,
      F_price_of := F_price_of,
      b_price_of := b_price_of,
      m_cheapest_with := W.mg_of X G e_cheapest_with,
      F_cheapest_with := F_cheapest_with,
      b_cheapest_with := b_cheapest_with,
      m_reach_of := W.mg_of X G e_reach_of,
      F_reach_of := F_reach_of,
      b_reach_of := b_reach_of,
      m_exchanged := W.mg_of X G e_exchanged,
      F_exchanged := F_exchanged,
      b_exchanged := b_exchanged,
      m_is_needed := W.mg_of X G e_is_needed,
      F_is_needed := F_is_needed,
      b_is_needed := b_is_needed,
      m_needed := W.mg_of X G e_needed,
      F_needed := F_needed,
      b_needed := b_needed,
      m_priced := W.mg_of X G e_priced,
      F_priced := F_priced,
      b_priced := b_priced,
      m_cheapest_covers := W.mg_of X G e_cheapest_covers,
      F_cheapest_covers := F_cheapest_covers,
      b_cheapest_covers := b_cheapest_covers,
      m_in_some := W.mg_of X G e_in_some,
      F_in_some := F_in_some,
      b_in_some := b_in_some,
      m_in_all := W.mg_of X G e_in_all,
      F_in_all := F_in_all,
      b_in_all := b_in_all,
      m_cheapest_cover := W.mg_of X G e_cheapest_cover,
      F_cheapest_cover := F_cheapest_cover,
      b_cheapest_cover := b_cheapest_cover,
      m__law_right := W.mg_of X G e__law_right,
      F__law_right := F__law_right,
      b__law_right := b__law_right,
      m_law := W.mg_of X G e_law,
      F_law := F_law,
      b_law := b_law }
  exact ⟨W.fnOf "law" "law" (defArgs s_law) (defBody s_law) (defScope s_law) .none kV_law dc_law pm_law an_law cd_law ct_law, fun s v => .of_eq rfl, fun base _ _ => ok_law T⟩
theorem walk {l : W.OpenLaw} {q : Program} {loose : List Str} {XP : (Str → Option Value) → Heap → Prop} {YP : World → Heap → Prop} {d : DefRec} {K : Params → W.Frag} (hn : l.most = some 63) (hdf : d.params.defaults = [])
    (hY : ∀ (w : World) (h : Heap), YP w h → (K w.params).In h)
    (F : ∀ (w : World) (mg : Str → Option Value) (fa : Addr) (h : Heap), (K w.params).In h → h.Ns mainGlobals mg → mg d.name = some (.ref fa) →
      ∃ fd : FuncData, (∀ (s : Shared) (u : Value), BindsTo s fd ⟨[u], []⟩ [("script", u)]) ∧ ∀ base : Heap, (K w.params).In base → base.Ns mainGlobals mg → FnOk l.prog w (K w.params) mg base CX0 9 fa fd ["script"] (spOf (K w.params) 1 F_law))
    (hm : ∀ ns : List Int, ns.length ≤ 63 → (∀ i ∈ ns, Builtin.Int.intBits i ≤ 2 ^ 20) → ∃ h', F_law [.scr (ns.map D.int)] [] = .ok (.bl true) h') :
    W.WalkO q loose XP YP l.row.toRowW d [] (fun f vs => PySem.call f vs) :=
  L2.walk_ofB (n := 63) (k := 9) (x := "script") (CX := fun _ => CX0) (sp := fun w => spOf (K w.params) 1 F_law) hn (by decide) hdf ⟨rfl, by decide, by decide⟩ hY F (fun w H a ns hl hw hS => sp_of hS (hm ns hl hw)) fun _ _ _ _ _ z => z
end K84
end
open PySem PySem.W PyProof.Rows
set_option maxRecDepth 100000 in
set_option maxHeartbeats 0 in
theorem PySem.Challenge.cw_cheapcovers_k84_whole_prices_that_may_ri_holds : PySem.Challenge.rw_cheapcovers_k84_whole_prices_that_may_ri.Holds := by
  w_on; o_law; k_head; (case hw => w_witness2)
  k_fill
  refine K84.walk (l := PySem.Challenge.rw_cheapcovers_k84_whole_prices_that_may_ri) rfl rfl (fun w h Y => W.kIn_of Y) ?F K84.law_true
  case F =>
    intro w mg fa h KX G hmg
    refine' K84.all_mk KX G hmg ?e__law_cell ?l__law_cell ?c__law_cell ?k__law_cell ?e__law_mix ?l__law_mix ?c__law_mix ?k__law_mix ?e__law_box ?l__law_box ?c__law_box ?k__law_box ?e__law_take ?l__law_take ?c__law_take ?k__law_take ?e__law_stock ?l__law_stock ?c__law_stock ?k__law_stock ?e__law_full ?l__law_full ?c__law_full ?k__law_full ?e_is_whole ?l_is_whole ?c_is_whole ?k_is_whole ?e_need_offer ?l_need_offer ?c_need_offer ?k_need_offer ?e_things_together ?l_things_together ?c_things_together ?k_things_together ?e_have_all ?l_have_all ?c_have_all ?k_have_all ?e_is_full ?l_is_full ?c_is_full ?k_is_full ?e_need_full ?l_need_full ?c_need_full ?k_need_full ?e_bits_of ?l_bits_of ?c_bits_of ?k_bits_of ?e_known_lots ?l_known_lots ?c_known_lots ?k_known_lots ?e_priced_covers ?l_priced_covers ?c_priced_covers ?k_priced_covers ?e_cheapest_without ?l_cheapest_without ?c_cheapest_without ?k_cheapest_without ?e_is_rising ?l_is_rising ?c_is_rising ?k_is_rising ?e_is_lot ?l_is_lot ?c_is_lot ?k_is_lot ?e_need_lot ?l_need_lot ?c_need_lot ?k_need_lot ?e_offers_of ?l_offers_of ?c_offers_of ?k_offers_of ?e_price_of ?l_price_of ?c_price_of ?k_price_of ?e_cheapest_with ?l_cheapest_with ?c_cheapest_with ?k_cheapest_with ?e_reach_of ?l_reach_of ?c_reach_of ?k_reach_of ?e_exchanged ?l_exchanged ?c_exchanged ?k_exchanged ?e_is_needed ?l_is_needed ?c_is_needed ?k_is_needed ?e_needed ?l_needed ?c_needed ?k_needed ?e_priced ?l_priced ?c_priced ?k_priced ?e_cheapest_covers ?l_cheapest_covers ?c_cheapest_covers ?k_cheapest_covers ?e_in_some ?l_in_some ?c_in_some ?k_in_some ?e_in_all ?l_in_all ?c_in_all ?k_in_all ?e_cheapest_cover ?l_cheapest_cover ?c_cheapest_cover ?k_cheapest_cover ?e__law_right ?l__law_right ?c__law_right ?k__law_right ?e_law ?l_law ?c_law ?k_law ?z_all ?z_any ?z_bool ?z_divmod ?z_int ?z_isinstance ?z_len ?z_list ?z_max ?z_min ?z_range ?z_set ?z_sorted ?z_sum ?z_tuple
    (case e__law_cell => k_is)
    (case l__law_cell => k_is)
    (case c__law_cell => k_is)
    (case k__law_cell => k_is)
    (case e__law_mix => k_is)
    (case l__law_mix => k_is)
    (case c__law_mix => k_is)
    (case k__law_mix => k_is)
    (case e__law_box => k_is)
    (case l__law_box => k_is)
    (case c__law_box => k_is)
    (case k__law_box => k_is)
    (case e__law_take => k_is)
    (case l__law_take => k_is)
    (case c__law_take => k_is)
    (case k__law_take => k_is)
    (case e__law_stock => k_is)
    (case l__law_stock => k_is)
    (case c__law_stock => k_is)
    (case k__law_stock => k_is)
    (case e__law_full => k_is)
    (case l__law_full => k_is)
    (case c__law_full => k_is)
    (case k__law_full => k_is)
    (case e_is_whole => k_is)
    (case l_is_whole => k_is)
    (case c_is_whole => k_is)
    (case k_is_whole => k_is)
    (case e_need_offer => k_is)
    (case l_need_offer => k_is)
    (case c_need_offer => k_is)
    (case k_need_offer => k_is)
    (case e_things_together => k_is)
    (case l_things_together => k_is)
    (case c_things_together => k_is)
    (case k_things_together => k_is)
    (case e_have_all => k_is)
    (case l_have_all => k_is)
    (case c_have_all => k_is)
    (case k_have_all => k_is)
    (case e_is_full => k_is)
    (case l_is_full => k_is)
    (case c_is_full => k_is)
    (case k_is_full => k_is)
    (case e_need_full => k_is)
    (case l_need_full => k_is)
    (case c_need_full => k_is)
    (case k_need_full => k_is)
    (case e_bits_of => k_is)
    (case l_bits_of => k_is)
    (case c_bits_of => k_is)
    (case k_bits_of => k_is)
    (case e_known_lots => k_is)
    (case l_known_lots => k_is)
    (case c_known_lots => k_is)
    (case k_known_lots => k_is)
    (case e_priced_covers => k_is)
    (case l_priced_covers => k_is)
    (case c_priced_covers => k_is)
    (case k_priced_covers => k_is)
    (case e_cheapest_without => k_is)
    (case l_cheapest_without => k_is)
    (case c_cheapest_without => k_is)
    (case k_cheapest_without => k_is)
    (case e_is_rising => k_is)
    (case l_is_rising => k_is)
    (case c_is_rising => k_is)
    (case k_is_rising => k_is)
    (case e_is_lot => k_is)
    (case l_is_lot => k_is)
    (case c_is_lot => k_is)
    (case k_is_lot => k_is)
    (case e_need_lot => k_is)
    (case l_need_lot => k_is)
    (case c_need_lot => k_is)
    (case k_need_lot => k_is)
    (case e_offers_of => k_is)
    (case l_offers_of => k_is)
    (case c_offers_of => k_is)
    (case k_offers_of => k_is)
    (case e_price_of => k_is)
    (case l_price_of => k_is)
    (case c_price_of => k_is)
    (case k_price_of => k_is)
    (case e_cheapest_with => k_is)
    (case l_cheapest_with => k_is)
    (case c_cheapest_with => k_is)
    (case k_cheapest_with => k_is)
    (case e_reach_of => k_is)
    (case l_reach_of => k_is)
    (case c_reach_of => k_is)
    (case k_reach_of => k_is)
    (case e_exchanged => k_is)
    (case l_exchanged => k_is)
    (case c_exchanged => k_is)
    (case k_exchanged => k_is)
    (case e_is_needed => k_is)
    (case l_is_needed => k_is)
    (case c_is_needed => k_is)
    (case k_is_needed => k_is)
    (case e_needed => k_is)
    (case l_needed => k_is)
    (case c_needed => k_is)
    (case k_needed => k_is)
    (case e_priced => k_is)
    (case l_priced => k_is)
    (case c_priced => k_is)
    (case k_priced => k_is)
    (case e_cheapest_covers => k_is)
    (case l_cheapest_covers => k_is)
    (case c_cheapest_covers => k_is)
    (case k_cheapest_covers => k_is)
    (case e_in_some => k_is)
    (case l_in_some => k_is)
    (case c_in_some => k_is)
    (case k_in_some => k_is)
    (case e_in_all => k_is)
    (case l_in_all => k_is)
    (case c_in_all => k_is)
    (case k_in_all => k_is)
    (case e_cheapest_cover => k_is)
    (case l_cheapest_cover => k_is)
    (case c_cheapest_cover => k_is)
    (case k_cheapest_cover => k_is)
    (case e__law_right => k_is)
    (case l__law_right => k_is)
    (case c__law_right => k_is)
    (case k__law_right => k_is)
    (case e_law => k_is)
    (case l_law => k_is)
    (case c_law => k_is)
    (case k_law => k_is)
    (case z_all => k_is)
    (case z_any => k_is)
    (case z_bool => k_is)
    (case z_divmod => k_is)
    (case z_int => k_is)
    (case z_isinstance => k_is)
    (case z_len => k_is)
    (case z_list => k_is)
    (case z_max => k_is)
    (case z_min => k_is)
    (case z_range => k_is)
    (case z_set => k_is)
    (case z_sorted => k_is)
    (case z_sum => k_is)
    (case z_tuple => k_is)
