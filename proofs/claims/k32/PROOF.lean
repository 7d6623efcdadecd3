import PyProof.Rows.All
import Wide.All
import OpenK.AllK
import Wide.FinOn
import PyProof.EqAt
import PyProof.EqKinds
import PyProof.TupleCall
import PyProof.StationsW
import PyProof.ExcArgs
import PyProof.Seq
import PyProof.TupleIter
import PyProof.RangeIter
import PyProof.WalkInts
import PyProof.SumWalkG
import PyProof.ListRange
import PyProof.Rows.Range3
import OpenK.KDescr
import PyProof.ExcAttrAll.ValueError
import PyProof.Draws
import PyProof.EnumFor
import PyProof.EnumMake
import PyProof.LayNew
import PyProof.Rows.EnumRows
import PyProof.MinMaxWalk
import Lean
import PySem.Challenge.RW_cheapcovers_k32_sharings_looked_at
set_option Elab.async false
set_option linter.all false
set_option maxRecDepth 100000
set_option maxHeartbeats 8000000
set_option compiler.extract_closed false
set_option bootstrap.genMatcherCode false
set_option genSizeOfSpec false
section
open PySem PySem.Spec PyProof PyProof.Rows
abbrev qaa := @List.getElem?_append_right
abbrev qab := @Array.getElem?_eq_some_iff
abbrev qac := @List.getElem?_eq_some_iff
abbrev qad := @List.getElem?_append_left
abbrev qaf := @List.getElem?_eq_getElem
abbrev qag := @Heap.get?_push_of_some
abbrev qah := @Heap.get?_update_other
abbrev qai := @List.getElem?_set_self
abbrev qak := @List.mem_append_right
abbrev qal := @Heap.get?_update_self
abbrev qan := @List.mem_cons_of_mem
abbrev qao := @List.getElem?_set_ne
abbrev qap := @Around.under_plainId
abbrev qaq := @List.pairwise_append
abbrev qar := @Heap.get?_push_size
abbrev qas := @Array.length_toList
abbrev qat := @List.filterMap_cons
abbrev qau := @List.mem_cons_self
abbrev qav := @List.length_append
abbrev qaw := @Nat.lt_of_lt_of_le
abbrev qax := @Bool.false_eq_true
abbrev qay := @List.pairwise_cons
abbrev qaA := @List.size_toArray
abbrev qaB := @Int.toNat_natCast
abbrev qaC := @wpAny_newObj_type
abbrev qaD := @decide_eq_true_eq
abbrev qaE := @List.length_cons
abbrev qaF := @List.not_mem_nil
abbrev qaG := @Bool.and_eq_true
abbrev qaH := @List.length_map
abbrev qaI := @List.length_set
abbrev qaJ := @List.length_nil
abbrev qaK := @List.mem_append
abbrev qaL := @Heap.size_push
abbrev qaM := @List.map_cons
abbrev qaN := @Nat.lt_irrefl
abbrev qaO := @wpAny_holding
abbrev qaP := @List.mem_cons
abbrev qaQ := @Heap.lt_size
abbrev qaR := @Nat.ne_of_lt
abbrev qaS := @Nat.le_trans
abbrev qaT := @List.map_map
abbrev qaU := @List.mem_map
abbrev qaV := @Nat.le_refl
abbrev qaW := @wpAny_bind
abbrev qaX := @wpAny_pure
abbrev qaZ := @wpAny_mono
abbrev qa0 := @False.elim
abbrev qa4 := @if_pos
abbrev qa5 := @if_neg
end
noncomputable def PySem.W.Fast.tw17508204505506598021:Nat:=0
noncomputable def PySem.W.Fast.tw4336221415175589699:Nat:=0
noncomputable def PySem.W.Fast.tw9243992780435172823:Nat:=0
noncomputable def PySem.W.Fast.tw12890426565354836281:Nat:=0
noncomputable def PySem.W.Fast.tw11052087471908185790:Nat:=0
noncomputable def PySem.W.Fast.tw12038676053351557174:Nat:=0
noncomputable def PySem.W.Fast.tw665980912090854969:Nat:=0
noncomputable def PySem.W.Fast.tw11425001193192370336:Nat:=0
noncomputable def PySem.W.Fast.tw17516812099989122099:Nat:=0
noncomputable def PySem.W.Fast.tw13233343478872851409:Nat:=0
noncomputable def PySem.W.Fast.tw6628380410410979273:Nat:=0
noncomputable def PySem.W.Fast.tw17957239868521147320:Nat:=0
noncomputable def PySem.W.Fast.tw17209249397532307353:Nat:=0
noncomputable def PySem.W.Fast.tw11724841683896694757:Nat:=0
noncomputable def PySem.W.Fast.tw10720468165821944213:Nat:=0
noncomputable def PySem.W.Fast.tw3313199585893045658:Nat:=0
namespace L3
open PySem
def zgQ (h:Heap) (e:Addr) (cls head:Value):Prop:= ∃ ob vs,h.get? e=some ob/\ob.cls=cls/\ob.dict=none/\ob.data= .fields vs/\vs[2]? = some .none/\vs[1]? = some head
def ztb (h B:Heap) (e:Addr) (head fl:Value):Prop:= ∃ T ot ts,head= .ref T/\B.get? T=none/\T≠e/\h.get? T=some ot/\ot.data= .fields ts/\ts[3]? = some fl
structure Fly (B:Heap) (l:List Env) (e:Addr) (cls fl:Value) (h:Heap):Prop where
 stays:B.StaysIn h
 new:B.get? e=none
 frames:h.FunFrames B l
 exc: ∃ head,zgQ h e cls head/\ztb h B e head fl
theorem zlS (o:Obj) (f):(o.mapFields f).dict=o.dict:=by
 obtain ⟨c,d,t,z⟩:=o
 cases t<;>rfl
section
variable {M:Model} {A:Around} {E:Value->Shared->Prop} {s:Shared} {B:Heap} {env:Env} {outer l:List Env} {L e:Addr} {cls head fl:Value}
theorem zhJ {hd0:Value} {hadNext:Bool} {Q:Unit->Shared->Prop} (hfr:A.frames=some (env::outer)) (hl:s.heap.FunFrames B (env::outer)) (hf:env.frame=some L) (hx:zgQ s.heap e cls head)
  (hkb:B.StaysIn s.heap) (hen:B.get? e=none) (q: ∀ h',Fly B (env::outer) e cls (rawInt L) h'->s.heap.UpToSlots h'->Q () {s with heap:=h'}):
  wpAny M A (do let a<-frameOf env;let pl<-entryPlaceOf L hadNext;let b<-EntryCells.newEntry hd0 a .none (rawInt L) .none pl;setField (.ref e) 1 b) Q E s:=by
 obtain ⟨ob,vs,h1,h2,h3,h4,h5,h6⟩:=hx
 have hsz:1<vs.size:=(qab.mp h6).1
 have nfr:e∉(env::outer).filterMap (·.frame):=fun z=>by
  obtain ⟨_,o,ho,hn⟩:=hl.mem z
  rw [h1] at ho
  cases ho
  exact hn vs h4
 refine qaW (wpAny_frameOf_fun hfr hl hf fun g sg=> ?_)
 refine qaW (wpAny_entryPlaceOf fun pl hpl=> ?_)
 unfold EntryCells.newEntry newFields
 refine qaW (qaC ?_ (hpl.sizeOk5 _ _ _ _ _))
 have e1:g.get? e=some ob:=(sg.2.1 e nfr).trans h1
 have kb:B.StaysIn g:=fun b o z=>(sg.2.1 b fun w=>by rw [(hl.mem w).1] at z;cases z).trans (hkb b o z)
 generalize hob:({cls:= .type "traceback",dict:=none,data:= .fields ([hd0,.ref L,.none,rawInt L,.none]++(if pl.isEmpty then List.replicate 6 Value.none else pl)).toArray}:Obj)=tb
 have e2:(g.push tb).get? e=some ob:=qag _ e1
 have ne:g.objs.size≠e:=Nat.ne_of_gt (qaQ e1)
 have d3:=Obj.data_mapFields h4 (·.setIfInBounds 1 (Value.ref g.objs.size))
 have e3:=qal (Obj.mapFields (·.setIfInBounds 1 (Value.ref g.objs.size))) e2 (Obj.isFreed_of_fields d3)
 have ft:tb.isFreed=false:=by rw [<- hob];rfl
 have t3:((g.push tb).update e (Obj.mapFields (·.setIfInBounds 1 (Value.ref g.objs.size)))).get? g.objs.size=some tb:=(qah _ _ (Ne.symm ne)).trans (qar g ft)
 have stay: ∀ b o,b≠e->g.get? b=some o->((g.push tb).update e (Obj.mapFields (·.setIfInBounds 1 (Value.ref g.objs.size)))).get? b=some o:=fun b o hb z=>by
  rw [qah _ _ (Ne.symm hb)]
  exact qag _ z
 have nrec: ∀ b o,s.heap.get? b=some o->(∀ ws,o.data≠ .fields ws)->b≠e:=fun b o z hn w=>by
  rw [w,h1] at z
  cases z
  exact hn vs h4
 have ht: ∃ ts,tb.data= .fields ts/\ts[3]? = some (rawInt L):=⟨_,by rw [<- hob],by rcases hpl with rfl | ⟨_,_,_,_,_,_,_,rfl⟩<;>simp⟩
 obtain ⟨ts,ht1,ht2⟩:=ht
 refine wpAny_setField e2 h4 hsz (q _ ⟨fun b o z=>stay b o (fun w=>by rw [w,hen] at z;cases z) (kb b o z),hen,hl.of_keeps fun b o z hn=> ?_,.ref g.objs.size,⟨_,_,e3,(Obj.cls_mapFields _ _).trans h2,(zlS _ _).trans h3,d3,?_,?_⟩,g.objs.size,tb,ts,rfl,kb.fresh,ne,t3,ht1,ht2⟩ fun b o z hn=> ?_)
 ·obtain ⟨sl,hs⟩:=sg.2.2 b o z
  exact ⟨_,stay b _ (nrec b o z hn) hs,rfl⟩
 ·rw [Array.getElem?_setIfInBounds_ne (by decide)]
  exact h5
 ·simp [hsz]
 ·obtain ⟨sl,hs⟩:=sg.2.2 b o z
  exact ⟨sl,stay b _ (nrec b o z hn) hs⟩
theorem ziy {Q:Unit->Shared->Prop} (hfr:A.frames=some (env::outer)) (hl:s.heap.FunFrames B (env::outer)) (hf:env.frame=some L) (hx:zgQ s.heap e cls .none)
  (hkb:B.StaysIn s.heap) (hen:B.get? e=none) (q: ∀ h',Fly B (env::outer) e cls (rawInt L) h'->s.heap.UpToSlots h'->Q () {s with heap:=h'}):wpAny M A (noteFrame (.ref e) env) Q E s:=by
 obtain ⟨ob,vs,h1,h2,h3,h4,h5,h6⟩:=id hx
 unfold noteFrame
 simp only [hf]
 refine qaW (wpAny_field h1 h4 h6 ?_)
 rw [qa5 (by decide)]
 exact zhJ hfr hl hf hx hkb hen q
theorem zoi {Q:Unit->Shared->Prop} (hfr:A.frames=some (env::outer)) (hf:env.frame=some L) (y:Fly B (env::outer) e cls .none s.heap)
  (q: ∀ h',Fly B (env::outer) e cls (rawInt L) h'->s.heap.UpToSlots h'->Q () {s with heap:=h'}):wpAny M A (noteFrame (.ref e) env) Q E s:=by
 obtain ⟨hkb,hen,hl,hd,⟨ob,vs,h1,h2,h3,h4,h5,h6⟩,T,ot,ts,rfl,t1,t2,t3,t4,t5⟩:=y
 unfold noteFrame
 simp only [hf]
 refine qaW (wpAny_field h1 h4 h6 ?_)
 rw [qa4 (show (Value.ref T != Value.none)=true by simp)]
 refine qaW (wpAny_field t3 t4 t5 ?_)
 rw [qa5 (show ¬(Value.none==rawInt L)=true by simp [rawInt])]
 refine qaW (wpAny_setField t3 t4 (qab.mp t5).1 ?_)
 have oth: ∀ b,b≠T->(s.heap.update T (Obj.mapFields (·.setIfInBounds 3 Value.none))).get? b=s.heap.get? b:=fun b hb=>qah _ _ (Ne.symm hb)
 have nrec: ∀ b o,s.heap.get? b=some o->(∀ ws,o.data≠ .fields ws)->b≠T:=fun b o z hn w=>by
  rw [w,t3] at z
  cases z
  exact hn ts t4
 refine zhJ hfr (hl.of_keeps fun b o z hn=>⟨o,(oth b (nrec b o z hn)).trans z,rfl⟩) hf ⟨ob,vs,(oth e (Ne.symm t2)).trans h1,h2,h3,h4,h5,h6⟩ (fun b o z=>(oth b fun w=>by rw [w,t1] at z;cases z).trans (hkb b o z)) hen fun h' y u=> ?_
 exact q h' y fun b o z hn=>u b o ((oth b (nrec b o z hn)).trans z) hn
theorem ze8 {Q:Unit->Shared->Prop} (y:Fly B l e cls fl s.heap) (q: ∀ h',Fly B l e cls .none h'->(∀ b o,s.heap.get? b=some o->(∀ ws,o.data≠ .fields ws)->h'.get? b=some o)->Q () {s with heap:=h'}):
  wpAny M A (setFlight (.ref e) none) Q E s:=by
 obtain ⟨hkb,hen,hl,hd,⟨ob,vs,h1,h2,h3,h4,h5,h6⟩,T,ot,ts,rfl,t1,t2,t3,t4,t5⟩:=y
 have hsz:=(qab.mp t5).1
 have oth: ∀ b,b≠T->(s.heap.update T (Obj.mapFields (·.setIfInBounds 3 ((none:Option Addr).elim Value.none fun f=>rawInt f)))).get? b=s.heap.get? b:=fun b hb=>qah _ _ (Ne.symm hb)
 have nrec: ∀ b o,s.heap.get? b=some o->(∀ ws,o.data≠ .fields ws)->b≠T:=fun b o z hn w=>by
  rw [w,t3] at z
  cases z
  exact hn ts t4
 unfold setFlight
 refine qaW (wpAny_field h1 h4 h6 ?_)
 rw [qa4 (show (Value.ref T != Value.none)=true by simp)]
 refine wpAny_setField t3 t4 hsz (q _ ⟨fun b o z=>(oth b fun w=>by rw [w,t1] at z;cases z).trans (hkb b o z),hen,hl.of_keeps fun b o z hn=>⟨o,(oth b (nrec b o z hn)).trans z,rfl⟩,
   .ref T,⟨ob,vs,(oth e (Ne.symm t2)).trans h1,h2,h3,h4,h5,h6⟩,T,_,_,rfl,t1,t2,qal _ t3 (Obj.isFreed_of_fields (Obj.data_mapFields t4 _)),Obj.data_mapFields t4 _,by simp [hsz]⟩ fun b o z hn=>(oth b (nrec b o z hn)).trans z)
theorem Fly.tail {h:Heap} (y:Fly B (env::outer) e cls fl h):Fly B outer e cls fl h:=⟨y.stays,y.new,y.frames.2.2,y.exc⟩
theorem zhi {Q:Unit->Shared->Prop} (hfr:A.frames=some (env::outer)) (hl:s.heap.FunFrames B (env::outer)) (hf:env.frame=some L) (hx:zgQ s.heap e cls .none)
  (hkb:B.StaysIn s.heap) (hen:B.get? e=none) (q: ∀ h',Fly B outer e cls .none h'->s.heap.UpToSlots h'->Q () {s with heap:=h'}):wpAny M A (leaving env (.ref e)) Q E s:=by
 unfold leaving
 refine qaW (ziy hfr hl hf hx hkb hen fun h1 y1 u1=> ?_)
 refine ze8 (s:={s with heap:=h1}) y1 fun h2 y2 k2=>q h2 y2.tail (u1.trans fun b o z hn=>⟨o.slots,k2 b o z hn⟩)
theorem zlB {h h':Heap} {args:List Value} (x:Heap.MadeExcOf h h' e cls args):zgQ h' e cls .none:=by
 obtain ⟨t,h1,_,_⟩:=x.there
 exact ⟨_,_,h1,rfl,rfl,rfl,rfl,rfl⟩
end
theorem zfP:entryFor table "proto.unchain"=some Builtin.«proto.unchain» := entryFor_of_tree (by kernel_rfl)
section
variable {prog:Program} {w:World} {A:Around} {E:Value->Shared->Prop} {s:Shared}
theorem zc3 {α:Type} {a h:Addr} {o:Obj} {us:Array Value} {cls head:Value} {Q:α->Shared->Prop} (hh:A.handled=some (.ref h)) (hx:zgQ s.heap h cls head) (ho:s.heap.get? a=some o) (hd:o.data= .fields us) (hz:2<us.size) (hne:h≠a)
  (q:E (.ref a) {s with heap:=s.heap.update a (Obj.mapFields (·.setIfInBounds 2 (.ref h)))}):wpAny (model prog w) A (raiseNew (.ref a):Sem α) Q E s:=by
 obtain ⟨ob,vs,h1,h2,h3,h4,h5,h6⟩:=hx
 unfold raiseNew
 refine qaW (wpAny_handled ?_)
 rw [hh]
 dsimp only
 rw [qa4 (show (Value.ref h != Value.ref a)=true by simp [hne])]
 refine qaW (qaO (wpAny_runValue (codeAny_builtin zfP ?_)))
 unfold Builtin.«proto.unchain»
 refine qaW (wpAny_field h1 h4 h5 ?_)
 rw [qa4 (show (Value.none==Value.none)=true from rfl)]
 refine qaW (qaX (qaX ?_))
 refine qaW ?_
 obtain ⟨c,d,dt,sl⟩:=o
 dsimp only at hd
 subst hd
 unfold updateField
 refine qaW (wpAny_load ho ?_)
 dsimp only
 rw [qa4 hz]
 exact wpAny_update ho (wpAny_throw q)
def ziC (A:Around) (h:Heap):Prop:=A.handled=none\/ ∃ a cls head,A.handled=some (.ref a)/\zgQ h a cls head
theorem zh3 {it l:Addr} {i:Nat} {items:Array Value} {Q:Option Value->Shared->Prop} (hh:ziC A s.heap) (hit:s.heap.IsListIter it l i) (hl:s.heap.IsList l items) (hx:items[i]? = none)
  (k: ∀ h',Heap.ExtBut it s.heap h'->Q none {s with heap:=h'}):wpAny (model prog w) A (pyNext (.ref it)) Q E s:=by
 rcases hh with hh | ⟨ha,cls,head,hh,hX⟩
 ·exact wpAny_pyNext_list_end hh hit hl hx k
 obtain ⟨o,h1,h2,h3⟩:=id hit
 obtain ⟨ol,l1,_,nl,l2⟩:=hl
 unfold pyNext
 refine qaW (wpAny_attempt (wpAny_callSpecial?_slot (name:=Str.ofString "__next__") hit.typeIs slot_listiter_next (wpAny_call_entry slot_listiter_next hit.typeIs entry_listiter_next ?_ (args_listiter_next _))))
 show wpAny _ _ (field (.ref it) 0>>=_) _ _ s
 refine qaW (wpAny_field h1 h3 (x:= .ref l) rfl ?_)
 show wpAny _ _ (if (Value.ref l==Value.none)=true then _ else _) _ _ s
 rw [qa5 (show ¬(Value.ref l==Value.none)=true from nofun)]
 show wpAny _ _ (field (.ref it) 1>>=_) _ _ s
 refine qaW (wpAny_field h1 h3 (x:= .int i 0) rfl ?_)
 show wpAny _ _ (seqItems? (.ref l)>>=_) _ _ s
 refine qaW (wpAny_seqItems l1 l2 ?_)
 simp only [qaB,hx]
 refine qaW (wpAny_rule (qaW (wpAny_setField h1 h3 (by simp) ?_)))
 have nit:ha≠it:=fun z=>by
  subst z
  obtain ⟨ob,vs,x1,_,_,x4,x5,x6⟩:=hX
  rw [h1] at x1
  cases x1
  rw [h3] at x4
  cases x4
  simp at x5
 have hX1:zgQ (s.heap.update it (Obj.mapFields (·.setIfInBounds 0 Value.none))) ha cls head:=by
  obtain ⟨ob,vs,x1,x2⟩:=hX
  exact ⟨ob,vs,(qah _ _ (Ne.symm nit)).trans x1,x2⟩
 show wpAny _ _ (newExc (.type "StopIteration") []>>=_) _ _ _
 refine qaW ?_
 simp only [newExc,newTuple]
 refine qaW (qaC ?_ (by size_fits))
 refine qaW (m:=firstArgMember _ _) (wpAny_of_eq (a:=Value.none) (by first | rfl | (simp only [firstArgMember];rfl)) ?_)
 refine qaC ?_ (by size_fits)
 obtain ⟨ob,vs,x1,x2⟩:=hX1
 have y1:=qag {cls:= .type "tuple",dict:=none,data:= .seq [].toArray} x1
 refine zc3 (h:=ha) (cls:=cls) (head:=head) hh ⟨ob,vs,qag _ y1,x2⟩ (qar _ rfl) rfl (by simp;omega) (qaR (qaQ y1)) ?_
 refine qaW (wpAny_isInstance (T:="StopIteration") (b:=true) ⟨_,qal _ (qar _ rfl) rfl,rfl⟩ isSubtype_stop ?_)
 refine qaX (k _ fun b o hb z=> ?_)
 have z1:(s.heap.update it (Obj.mapFields (·.setIfInBounds 0 Value.none))).get? b=some o:=(qah _ _ (Ne.symm hb)).trans z
 have z2:=qag {cls:= .type "tuple",dict:=none,data:= .seq [].toArray} z1
 rw [qah _ _ (Nat.ne_of_gt (qaQ z2))]
 exact qag _ z2
theorem zkG {it l:Addr} {i:Nat} {items:Array Value} {Q:Option Value->Shared->Prop} (hh:ziC A s.heap) (hit:s.heap.IsTupleIter it l i) (hl:s.heap.IsTuple l items) (hx:items[i]? = none)
  (k: ∀ h',Heap.ExtBut it s.heap h'->Q none {s with heap:=h'}):wpAny (model prog w) A (pyNext (.ref it)) Q E s:=by
 rcases hh with hh | ⟨ha,cls,head,hh,hX⟩
 ·exact wpAny_pyNext_tuple_end hh hit hl hx k
 obtain ⟨o,h1,h2,h3⟩:=id hit
 obtain ⟨ol,l1,_,nl,l2⟩:=hl
 unfold pyNext
 refine qaW (wpAny_attempt (wpAny_callSpecial?_slot (name:=Str.ofString "__next__") hit.typeIs F.slot_tuple_iterator_next (wpAny_call_entry F.slot_tuple_iterator_next hit.typeIs F.entry_tuple_iterator_next ?_ (F.args_tuple_iterator_next_1 _))))
 show wpAny _ _ (field (.ref it) 0>>=_) _ _ s
 refine qaW (wpAny_field h1 h3 (x:= .ref l) rfl ?_)
 show wpAny _ _ (if (Value.ref l==Value.none)=true then _ else _) _ _ s
 rw [qa5 (show ¬(Value.ref l==Value.none)=true from nofun)]
 show wpAny _ _ (field (.ref it) 1>>=_) _ _ s
 refine qaW (wpAny_field h1 h3 (x:= .int i 0) rfl ?_)
 show wpAny _ _ (seqItems? (.ref l)>>=_) _ _ s
 refine qaW (wpAny_seqItems l1 l2 ?_)
 simp only [qaB,hx]
 refine qaW (wpAny_rule (qaW (wpAny_setField h1 h3 (by simp) ?_)))
 have nit:ha≠it:=fun z=>by
  subst z
  obtain ⟨ob,vs,x1,_,_,x4,x5,x6⟩:=hX
  rw [h1] at x1
  cases x1
  rw [h3] at x4
  cases x4
  simp at x5
 have hX1:zgQ (s.heap.update it (Obj.mapFields (·.setIfInBounds 0 Value.none))) ha cls head:=by
  obtain ⟨ob,vs,x1,x2⟩:=hX
  exact ⟨ob,vs,(qah _ _ (Ne.symm nit)).trans x1,x2⟩
 show wpAny _ _ (newExc (.type "StopIteration") []>>=_) _ _ _
 refine qaW ?_
 simp only [newExc,newTuple]
 refine qaW (qaC ?_ (by size_fits))
 refine qaW (m:=firstArgMember _ _) (wpAny_of_eq (a:=Value.none) (by first | rfl | (simp only [firstArgMember];rfl)) ?_)
 refine qaC ?_ (by size_fits)
 obtain ⟨ob,vs,x1,x2⟩:=hX1
 have y1:=qag {cls:= .type "tuple",dict:=none,data:= .seq [].toArray} x1
 refine zc3 (h:=ha) (cls:=cls) (head:=head) hh ⟨ob,vs,qag _ y1,x2⟩ (qar _ rfl) rfl (by simp;omega) (qaR (qaQ y1)) ?_
 refine qaW (wpAny_isInstance (T:="StopIteration") (b:=true) ⟨_,qal _ (qar _ rfl) rfl,rfl⟩ isSubtype_stop ?_)
 refine qaX (k _ fun b o hb z=> ?_)
 have z1:(s.heap.update it (Obj.mapFields (·.setIfInBounds 0 Value.none))).get? b=some o:=(qah _ _ (Ne.symm hb)).trans z
 have z2:=qag {cls:= .type "tuple",dict:=none,data:= .seq [].toArray} z1
 rw [qah _ _ (Nat.ne_of_gt (qaQ z2))]
 exact qag _ z2
theorem zjw {it:Addr} {x left step:Int} {Q:Option Value->Shared->Prop} (hh:ziC A s.heap) (hit:IsRangeIter s.heap it x left step) (hleft:left<=0)
  (k: ∀ h',Heap.ExtBut it s.heap h'->Q none {s with heap:=h'}):wpAny (model prog w) A (pyNext (.ref it)) Q E s:=by
 rcases hh with hh | ⟨ha,cls,head,hh,hX⟩
 ·exact wpAny_pyNext_range_end hh hit hleft k
 have hT:s.TypeIs (.ref it) "range_iterator":=⟨_,hit,rfl⟩
 unfold pyNext
 refine qaW (wpAny_attempt (wpAny_callSpecial?_slot (name:=Str.ofString "__next__") hT F.slot_range_iterator_next (wpAny_call_entry F.slot_range_iterator_next hT F.entry_range_iterator_next ?_ (F.args_range_iterator_next_1 _))))
 show wpAny _ _ (field (.ref it) 0>>=_) _ _ s
 refine qaW (wpAny_field hit rfl (x:=rawInt x) rfl ?_)
 show wpAny _ _ (field (.ref it) 1>>=_) _ _ s
 refine qaW (wpAny_field hit rfl (x:=rawInt left) rfl ?_)
 show wpAny _ _ (field (.ref it) 2>>=_) _ _ s
 refine qaW (wpAny_field hit rfl (x:=rawInt step) rfl ?_)
 show wpAny _ _ (if left<=0 then _ else _) _ _ s
 rw [qa4 hleft]
 refine qaW (wpAny_rule (qaW ?_))
 show wpAny _ _ (newExc (.type "StopIteration") []>>=_) _ _ _
 refine qaW ?_
 simp only [newExc,newTuple]
 refine qaW (qaC ?_ (by size_fits))
 refine qaW (m:=firstArgMember _ _) (wpAny_of_eq (a:=Value.none) (by first | rfl | (simp only [firstArgMember];rfl)) ?_)
 refine qaC ?_ (by size_fits)
 obtain ⟨ob,vs,x1,x2⟩:=hX
 have y1:=qag {cls:= .type "tuple",dict:=none,data:= .seq [].toArray} x1
 refine zc3 (h:=ha) (cls:=cls) (head:=head) hh ⟨ob,vs,qag _ y1,x2⟩ (qar _ rfl) rfl (by simp;omega) (qaR (qaQ y1)) ?_
 refine qaW (wpAny_isInstance (T:="StopIteration") (b:=true) ⟨_,qal _ (qar _ rfl) rfl,rfl⟩ isSubtype_stop ?_)
 refine qaX (k _ fun b o hb z=> ?_)
 have z2:=qag {cls:= .type "tuple",dict:=none,data:= .seq [].toArray} z
 rw [qah _ _ (Nat.ne_of_gt (qaQ z2))]
 exact qag _ z2
theorem zgQ.keep {h h':Heap} {a:Addr} {cls head:Value} (x:zgQ h a cls head) (k: ∀ o,h.get? a=some o->h'.get? a=some o):zgQ h' a cls head:=by
 obtain ⟨ob,vs,x1,x2⟩:=x
 exact ⟨ob,vs,k _ x1,x2⟩
theorem ziM {ha:Addr} {cls head:Value} (hh:A.handled=some (.ref ha)) (I ax:Addr) (hne:ax≠I) (hn2:ha≠I) (items:Array Value):
  Walks prog w A I [I,ax,ha] [I] items.size (fun i v=>items[i]? = some v) (fun i h=>h.IsListIter I ax i/\h.IsList ax items/\zgQ h ha cls head) where
 sub:=fun b hb=>by simp at hb;simp [hb]
 frame:=fun _ _ _ st hk=>⟨st.1.at fun o e=>hk I (by simp) o e,st.2.1.at fun o e=>hk ax (by simp) o e,st.2.2.keep fun o e=>hk ha (by simp) o e⟩
 item:=fun i s Q E hi st hQ=>by
  refine wpAny_pyNext_list_item st.1 st.2.1 (x:=items[i]) (by simp [hi]) fun h' hit' hs'=> ?_
  exact hQ _ h' s.toks (by simp [hi]) ⟨hit',st.2.1.extBut hs'.extBut hne,st.2.2.keep fun o e=>hs'.extBut ha o hn2 e⟩ fun b o hb e=>hs'.extBut b o (fun h=>hb (by simp [h])) e
 done:=fun s Q E st hQ=>zh3 (.inr ⟨ha,cls,head,hh,st.2.2⟩) st.1 st.2.1 (by simp) fun h' he'=>hQ h' s.toks fun b o hb e=>he' b o (fun h=>hb (by simp [h])) e
 self:=fun _ _ _ _ st hQ=>wpAny_pyIter_listiter st.1 hQ
end
end L3
namespace L2
open PySem PySem.Spec PyProof.Rows
noncomputable abbrev Key:=Sum Int Str
noncomputable def zpa:Key->Value->Bool
 | .inl k,v=>Value.isInt k v
 | .inr x,v=>Value.isStrOf x v
noncomputable def ztm (w:World):Key->Int
 | .inl k=>hashInt k
 | .inr x=>hashStr w x
theorem za0: ∀ {k:Key} {v:Value},zpa k v=true->(∃ i t,k=Sum.inl i/\v=Value.int i t)\/(∃ x t,k=Sum.inr x/\v=Value.str x t)
 | .inl i,v,h=>by
  obtain ⟨t,e⟩:=Value.isInt_shape (k:=i) (v:=v) h
  exact .inl ⟨i,t,rfl,e⟩
 | .inr x,v,h=>by
  obtain ⟨t,e⟩:=Value.isStrOf_shape (x:=x) (v:=v) h
  exact .inr ⟨x,t,rfl,e⟩
theorem zph (a b:Int):decide ((Sum.inl a:Key)=Sum.inl b)=(a==b):=by
 by_cases e:a=b
 ·subst e;simp
 ·have h: ¬(Sum.inl a:Key)=Sum.inl b:=fun q=>e (Sum.inl.inj q)
  rw [decide_eq_false h]
  exact (beq_eq_false_iff_ne.mpr e).symm
theorem zqh (a b:Str):decide ((Sum.inr a:Key)=Sum.inr b)=decide (a=b):=by
 by_cases e:a=b
 ·subst e;simp
 ·have h: ¬(Sum.inr a:Key)=Sum.inr b:=fun q=>e (Sum.inr.inj q)
  rw [decide_eq_false h,decide_eq_false e]
theorem zqn (a:Int) (b:Str):decide ((Sum.inl a:Key)=Sum.inr b)=false:=decide_eq_false (fun q=>nomatch q)
theorem zpD (a:Str) (b:Int):decide ((Sum.inr a:Key)=Sum.inl b)=false:=decide_eq_false (fun q=>nomatch q)
noncomputable def zjM (prog:Program) (w:World):PySem.KeyKind prog w Key where
 is:=zpa
 hash:=ztm w
 inj:=fun v a b ha hb=>by
  rcases za0 ha with ⟨i,t,rfl,rfl⟩ | ⟨x,t,rfl,rfl⟩
  ·rcases za0 hb with ⟨j,u,rfl,e⟩ | ⟨y,u,rfl,e⟩
   ·injection e with e1 _;rw [e1]
   ·exact nomatch e
  ·rcases za0 hb with ⟨j,u,rfl,e⟩ | ⟨y,u,rfl,e⟩
   ·exact nomatch e
   ·injection e with e1 _;rw [e1]
 byValue:=fun k v h=>by
  rcases za0 h with ⟨i,t,rfl,rfl⟩ | ⟨x,t,rfl,rfl⟩<;>rfl
 pyHash:=fun hv h=>by
  rcases za0 hv with ⟨i,t,rfl,rfl⟩ | ⟨x,t,rfl,rfl⟩
  ·exact wpAny_pyHash_int h
  ·exact wpAny_pyHash_str h
 eqBool:=fun hu hv h=>by
  rcases za0 hu with ⟨i,t,rfl,rfl⟩ | ⟨x,t,rfl,rfl⟩
  ·rcases za0 hv with ⟨j,u,rfl,rfl⟩ | ⟨y,u,rfl,rfl⟩
   ·rw [zph] at h;exact wpAny_eqBool_int h
   ·rw [zqn] at h;exact SeqAt.EqAt.int_str i t y u _ _ _ _ h
  ·rcases za0 hv with ⟨j,u,rfl,rfl⟩ | ⟨y,u,rfl,rfl⟩
   ·rw [zpD] at h;exact SeqAt.EqAt.str_int x t j u _ _ _ _ h
   ·rw [zqh] at h;exact wpAny_eqBool_str h
 «strs» := fun k x t v h=>by
  rcases za0 h with ⟨i,u,rfl,e⟩ | ⟨y,u,rfl,e⟩
  ·exact nomatch e
  ·injection e with e1 _
   subst e1
   cases v<;>rfl
inductive V where
 | non | bl (b:Bool) | int (i:Int) | str (x:Str) | byt (b:Array UInt8) | flt (b:UInt64) | ref (a:Addr) | ty (n:String)
 deriving DecidableEq
noncomputable def zbE:V->Value->Prop
 | .non,u=>u=Value.none
 | .bl b,u=>u=Value.bool b
 | .int i,u=> ∃ t,u=Value.int i t
 | .str x,u=> ∃ t,u=Value.str x t
 | .byt b,u=> ∃ t,u=Value.bytes b t
 | .flt b,u=> ∃ t,u=Value.float b t
 | .ref a,u=>u=Value.ref a
 | .ty n,u=>u=Value.type n
noncomputable abbrev zaZ:List V->List Value->Prop:=Paired zbE
theorem zaZ.length {xs:List V} {us:List Value} (r:zaZ xs us):xs.length=us.length:=Paired.length r
theorem zaZ.get: ∀ {xs:List V} {us:List Value} {i:Nat} {x:V},zaZ xs us->xs[i]? = some x-> ∃ u,us[i]? = some u/\zbE x u
 | _,_,_,_,.nil,e=>by simp at e
 | _,_,0,_,.cons r _,e=>by simp at e;subst e;exact ⟨_,rfl,r⟩
 | _,_,i+1,x,.cons _ t,e=>by
  obtain ⟨u,h1,h2⟩:=zaZ.get (i:=i) (x:=x) t (by simpa using e)
  exact ⟨u,by simpa using h1,h2⟩
theorem zaZ.set {x:V} {u:Value} (r:zbE x u): ∀ {xs:List V} {us:List Value} (i:Nat),zaZ xs us->zaZ (xs.set i x) (us.set i u)
 | _,_,_,.nil=> .nil
 | _,_,0,.cons _ t=> .cons r t
 | _,_,i+1,.cons q t=> .cons q (zaZ.set r i t)
theorem zaZ.append: ∀ {xs ys:List V} {us ws:List Value},zaZ xs us->zaZ ys ws->zaZ (xs++ys) (us++ws)
 | _,_,_,_,.nil,s=>s
 | _,_,_,_,.cons r t,s=> .cons r (zaZ.append t s)
theorem zaZ.take: ∀ {xs:List V} {us:List Value} (n:Nat),zaZ xs us->zaZ (xs.take n) (us.take n)
 | _,_,0,_=> .nil
 | _,_,_+1,.nil=> .nil
 | _,_,n+1,.cons r t=> .cons r (zaZ.take n t)
theorem zaZ.drop: ∀ {xs:List V} {us:List Value} (n:Nat),zaZ xs us->zaZ (xs.drop n) (us.drop n)
 | _,_,0,r=>r
 | _,_,_+1,.nil=> .nil
 | _,_,n+1,.cons _ t=>zaZ.drop n t
noncomputable def zsD:Option V->Option Value->Prop
 | some v,some u=>zbE v u
 | none,none=>True
 | _,_=>False
noncomputable def KV {κ:Type}:List (κ×V)->List (κ×Value)->Prop:=Paired fun (p:κ×V) (q:κ×Value)=>p.1=q.1/\zbE p.2 q.2
noncomputable def kV:Key->V
 | .inl i=> .int i
 | .inr x=> .str x
inductive HO where
 | lst (xs:List V)
 | tup (xs:List V)
 | dK (kvs:List (Key×V)) | dT (kvs:List (List Key×V))
 | set (S:Int->Bool) (n:Nat)
 | ins (C dx:Addr) (fs:List (Str×V))
 | own (x:Addr)
 | xd (fs:List (Str×V))
 | met (f x:Addr)
 | rng (lo hi:Int)
 | frz (o:Obj) (u:HO)
 | tbl (ps:Array Value)
 | ext (φ:Heap->Prop)
noncomputable abbrev Hp:=Addr->Option HO
noncomputable def upd (H:Hp) (a:Addr) (o:HO):Hp:=fun b=>if b=a then some o else H b
theorem zaU {H:Hp} {a:Addr} {o:HO}:upd H a o a=some o:=by unfold upd;rw [qa4 rfl]
theorem zaw {H:Hp} {a b:Addr} {o:HO} (h:b≠a):upd H a o b=H b:=by unfold upd;rw [qa5 h]
theorem zaQ {H:Hp} {a b:Addr} {o:HO} (h:H a=some o) (h':H b=none):a≠b:=by
 intro e;subst e;rw [h] at h';cases h'
section
variable (P:Program) (w:World)
noncomputable def zbp (H:Hp) (h:Heap) (a:Addr):HO->Prop
 | .lst xs=>xs.length<=sizeLine/\ ∃ (its:List Value) (n:Nat),zaZ xs its/\h.get? a=some {cls:= .type "list",data:= .seq its.toArray n}
 | .tup xs=>xs.length<=sizeLine/\ ∃ its:List Value,zaZ xs its/\IsTup h a its.toArray
 | .dK kvs=>kvs.length<=sizeLine/\(a==sysModules)=false/\ ∃ vs,KV kvs vs/\h.DictOf (zjM P w) a vs
 | .dT kvs=>kvs.length<=sizeLine/\(a==sysModules)=false/\ ∃ xs:List (List Key×Addr×Value),
   Paired (fun (p:List Key×V) (q:List Key×Addr×Value)=>p.1=q.1/\H q.2.1=some (.tup (p.1.map kV))/\zbE p.2 q.2.2) kvs xs/\
   ∃ o es ep,h.get? a=some o/\o.ExactDict/\o.data= .dict es ep/\es.toList=xs.map (entryOfKey (tupleKind (zjM P w)))/\(xs.map (·.1)).Nodup
 | .set S n=>h.SetOf (intKind P w) a S n
 | .ins C dx fs=>H dx=some (.own a)/\fs.length<=1000/\dx≠a/\h.get? a=some (W.instObj C dx)/\
   ∃ mA,h.Ns1 dx mA/\(∀ f,zsD (fs.lookup f) (mA f))/\PySem.Within mA (fs.map (·.1))
 | .own _=> ∃ o,h.get? a=some o
 | .xd fs=> ∃ mA,h.Ns1 a mA/\ ∀ f,zsD (fs.lookup f) (mA f)
 | .rng lo hi=> ∃ t u v,h.get? a=some {cls:= .type "range",data:= .fields #[.int lo t,.int hi u,.int 1 v]}
 | .frz o u=>h.get? a=some o/\zbp H h a u
 | .tbl ps=>h.get? a=some {cls:= .none,data:= .fields ps}
 | .met f x=>h.get? a=some (W.methodObj (.ref f) (.ref x))
 | .ext φ=>φ h/\(∃ o,h.get? a=some o)/\ ∀ h1 h2:Heap,φ h1->(∀ o,h1.get? a=some o->h2.get? a=some o)->φ h2
def HOk (H:Hp) (h:Heap):Prop:= ∀ a o,H a=some o->zbp P w H h a o
end
section
variable {P:Program} {w:World} {H H':Hp} {h h':Heap} {a:Addr} {o:HO}
theorem zbp.lt (x:zbp P w H h a o):a<h.objs.size:=by
 cases o with
 | lst xs=>obtain ⟨_,_,_,_,e⟩:=x;exact qaQ e
 | tup xs=>obtain ⟨_,_,_,p⟩:=x;exact p.lt
 | dK kvs=>obtain ⟨_,_,_,_,o,_,_,e,_⟩:=x;exact qaQ e
 | dT kvs=>obtain ⟨_,_,_,_,o,_,_,e,_⟩:=x;exact qaQ e
 | set S n=>obtain ⟨o,_,_,_,e,_⟩:=x;exact qaQ e
 | ins C dx fs=>obtain ⟨_,_,_,e,_⟩:=x;exact qaQ e
 | own y=>obtain ⟨_,e⟩:=x;exact qaQ e
 | xd fs=>obtain ⟨_,⟨_,_,_,e,_⟩,_⟩:=x;exact qaQ e
 | rng lo hi=>obtain ⟨_,_,_,e⟩:=x;exact qaQ e
 | frz ob u=>obtain ⟨e,_⟩:=x;exact qaQ e
 | tbl ps=>exact qaQ (show h.get? a=some _ from x)
 | met f y=>exact qaQ (show h.get? a=some _ from x)
 | ext φ=>obtain ⟨_,⟨_,e⟩,_⟩:=x;exact qaQ e
theorem Paired.mapP {α β:Type} {F G:α->β->Prop}: ∀ {l₁:List α} {l₂:List β},Paired F l₁ l₂->(∀ a b,F a b->G a b)->Paired G l₁ l₂
 | _,_,.nil,_=> .nil
 | _,_,.cons r t,f=> .cons (f _ _ r) (Paired.mapP t f)
theorem zbp.stay (x:zbp P w H h a o) (k: ∀ b u,(b=a\/H b=some (.own a))->h.get? b=some u->h'.get? b=some u)
  (ho: ∀ b,H b=some (.own a)->H' b=some (.own a)) (ht: ∀ b xs,H b=some (.tup xs)->H' b=some (.tup xs)):zbp P w H' h' a o:=by
 induction o with
 | lst xs=>obtain ⟨z,its,n,r,e⟩:=x;exact ⟨z,its,n,r,k _ _ (.inl rfl) e⟩
 | tup xs=>obtain ⟨z,its,r,ob,e,c⟩:=x;exact ⟨z,its,r,ob,k _ _ (.inl rfl) e,c⟩
 | dK kvs=>obtain ⟨z,y,vs,r,ob,es,ep,e,c⟩:=x;exact ⟨z,y,vs,r,ob,es,ep,k _ _ (.inl rfl) e,c⟩
 | dT kvs=>
  obtain ⟨z,y,xs,r,ob,es,ep,e,c⟩:=x
  exact ⟨z,y,xs,Paired.mapP r fun p q z=>⟨z.1,ht _ _ z.2.1,z.2.2⟩,ob,es,ep,k _ _ (.inl rfl) e,c⟩
 | set S n=>obtain ⟨ob,es,ep,t,e,c⟩:=x;exact ⟨ob,es,ep,t,k _ _ (.inl rfl) e,c⟩
 | ins C dx fs=>
  obtain ⟨d,z,ne,e,mA,⟨od,es,ep,e2,c⟩,r⟩:=x
  exact ⟨ho _ d,z,ne,k _ _ (.inl rfl) e,mA,⟨od,es,ep,k _ _ (.inr d) e2,c⟩,r⟩
 | own y=>obtain ⟨ob,e⟩:=x;exact ⟨ob,k _ _ (.inl rfl) e⟩
 | xd fs=>obtain ⟨mA,⟨od,es,ep,e,c⟩,r⟩:=x;exact ⟨mA,⟨od,es,ep,k _ _ (.inl rfl) e,c⟩,r⟩
 | rng lo hi=>obtain ⟨t,u,v,e⟩:=x;exact ⟨t,u,v,k _ _ (.inl rfl) e⟩
 | frz ob u ih=>obtain ⟨e,q⟩:=x;exact ⟨k _ _ (.inl rfl) e,ih q⟩
 | tbl ps=>
  have e:h.get? a=some {cls:= .none,data:= .fields ps}:=x
  show h'.get? a=some {cls:= .none,data:= .fields ps}
  exact k a _ (.inl rfl) e
 | met f y=>
  have e:h.get? a=some (W.methodObj (.ref f) (.ref y)):=x
  show h'.get? a=some (W.methodObj (.ref f) (.ref y))
  exact k a _ (.inl rfl) e
 | ext φ=>obtain ⟨p,⟨o,e⟩,st⟩:=x;exact ⟨st _ _ p fun o q=>k _ _ (.inl rfl) q,⟨o,k _ _ (.inl rfl) e⟩,st⟩
theorem HOk.lt (x:HOk P w H h) (e:H a=some o):a<h.objs.size:=(x a o e).lt
theorem HOk.fresh (x:HOk P w H h) (e:h.objs.size<=a):H a=none:=by
 cases q:H a with
 | none=>rfl
 | some u=>exact absurd (qaw (x.lt q) e) (qaN _)
theorem HOk.kept (x:HOk P w H h) (k: ∀ b u,h.get? b=some u->h'.get? b=some u):HOk P w H h':=fun a o e=>
 (x a o e).stay (fun b u _ q=>k b u q) (fun _ q=>q) fun _ _ q=>q
theorem HOk.laid (x:HOk P w H h) (k: ∀ b u,h.get? b=some u->h'.get? b=some u) (hp:h.objs.size<=a) (new:zbp P w (upd H a o) h' a o):HOk P w (upd H a o) h':=fun b u e=>by
 have hn:=x.fresh hp
 by_cases hb:b=a
 ·subst hb;rw [zaU] at e;cases e;exact new
 ·rw [zaw hb] at e
  exact (x b u e).stay (fun c v _ q=>k c v q) (fun c q=>by rw [zaw (zaQ q hn)];exact q) fun c xs q=>by rw [zaw (zaQ q hn)];exact q
end
def Rd (H:Hp) (a:Addr) (u:HO):Prop:=H a=some u\/ ∃ o,H a=some (.frz o u)
theorem Rd.of {H:Hp} {a:Addr} {u:HO} (h:H a=some u):Rd H a u:= .inl h
theorem Rd.ok {P:Program} {w:World} {H:Hp} {h:Heap} {a:Addr} {u:HO} (r:Rd H a u) (x:HOk P w H h):zbp P w H h a u:=by
 rcases r with r | ⟨o,r⟩
 ·exact x a u r
 ·obtain ⟨_,q⟩:=x a _ r
  exact q
noncomputable def Mut:Option HO->Prop
 | some (.lst _)=>True
 | some (.dK _)=>True
 | some (.dT _)=>True
 | some (.set _ _)=>True
 | some (.ins _ _ _)=>True
 | some (.ext _)=>True
 | _=>False
section
variable {P:Program} {w:World} {H:Hp} {h h':Heap} {x e:Addr} {o':HO}
theorem HOk.write (ok:HOk P w H h) (mu:Mut (H x)) (he:e=x\/H e=some (.own x)) (k: ∀ b u,b≠e->h.get? b=some u->h'.get? b=some u) (heo: ∃ u,h'.get? e=some u)
  (new:zbp P w (upd H x o') h' x o'):HOk P w (upd H x o') h':=fun b u q=>by
 have nown: ∀ c y,H c=some (.own y)->c≠x:=fun c y r z=>by subst z;rw [r] at mu;exact mu
 have ntup: ∀ c xs,H c=some (.tup xs)->c≠x:=fun c xs r z=>by subst z;rw [r] at mu;exact mu
 by_cases hb:b=x
 ·subst hb;rw [zaU] at q;cases q;exact new
 ·rw [zaw hb] at q
  by_cases hbe:b=e
  ·have q':H b=some (.own x):=by
    rcases he with z | z
    ·exact absurd (hbe.trans z) hb
    ·rw [hbe];exact z
   rw [q] at q';cases q'
   obtain ⟨v,hv⟩:=heo
   exact ⟨v,by rw [hbe];exact hv⟩
  ·refine (ok b u q).stay (fun c v hc r=>k c v ?_ r) (fun c r=>by rw [zaw (nown c b r)];exact r) fun c xs r=>by rw [zaw (ntup c xs r)];exact r
   rcases hc with rfl | hc
   ·exact hbe
   ·rintro rfl
    rcases he with z | z
    ·exact nown c b hc z
    ·rw [hc] at z;cases z;exact hb rfl
end
structure Un (fs ex:List Addr) (H H':Hp) (h h':Heap):Prop where
 keep: ∀ b o,h.get? b=some o->H b=none->b∉fs->b∉ex->h'.get? b=some o
 slot: ∀ b o,h.get? b=some o->H b=none->b∈fs->b∉ex-> ∃ sl,h'.get? b=some {o with slots:=sl}
 free: ∀ b o,h.get? b=some o->H b=none->b∉ex->H' b=none
 there: ∀ b o,h.get? b=some o->b∉ex-> ∃ o',h'.get? b=some o'
 tups: ∀ b xs,H b=some (.tup xs)->H' b=some (.tup xs)
 frzs: ∀ b o u,H b=some (.frz o u)->H' b=some (.frz o u)
 tbls: ∀ b ps,H b=some (.tbl ps)-> ∃ more,H' b=some (.tbl (ps++more))
section
variable {fs fs' ex ex':List Addr} {H H1 H2:Hp} {h h1 h2 h':Heap} {a x e:Addr} {o:HO}
theorem Un.any (u:Un fs ex H H1 h h1) {b:Addr} {ob:Obj} (q:h.get? b=some ob) (n:H b=none) (hx:b∉ex): ∃ sl,h1.get? b=some {ob with slots:=sl}:=by
 by_cases hb:b∈fs
 ·exact u.slot b ob q n hb hx
 ·exact ⟨ob.slots,u.keep b ob q n hb hx⟩
theorem Un.trans (a:Un fs ex H H1 h h1) (b:Un fs ex H1 H2 h1 h2):Un fs ex H H2 h h2 where
 keep:=fun c ob q n hc hx=>b.keep c ob (a.keep c ob q n hc hx) (a.free c ob q n hx) hc hx
 slot:=fun c ob q n hc hx=>by
  obtain ⟨sl,e1⟩:=a.slot c ob q n hc hx
  obtain ⟨sl',e2⟩:=b.slot c _ e1 (a.free c ob q n hx) hc hx
  exact ⟨sl',e2⟩
 free:=fun c ob q n hx=>by
  obtain ⟨o',e1⟩:=a.there c ob q hx
  exact b.free c o' e1 (a.free c ob q n hx) hx
 there:=fun c ob q hx=>by
  obtain ⟨o',e1⟩:=a.there c ob q hx
  exact b.there c o' e1 hx
 tups:=fun c xs q=>b.tups c xs (a.tups c xs q)
 frzs:=fun c ob xs q=>b.frzs c ob xs (a.frzs c ob xs q)
 tbls:=fun c ps q=>by
  obtain ⟨m1,e1⟩:=a.tbls c ps q
  obtain ⟨m2,e2⟩:=b.tbls c _ e1
  exact ⟨m1++m2,by rw [e2,Array.append_assoc]⟩
theorem Un.kept (k: ∀ b u,h.get? b=some u->h'.get? b=some u):Un fs ex H H h h':=
 ⟨fun b ob q _ _ _=>k b ob q,fun b ob q _ _ _=>⟨ob.slots,k b ob q⟩,fun _ _ _ n _=>n,fun b ob q _=>⟨ob,k b ob q⟩,fun _ _ q=>q,fun _ _ _ q=>q,fun _ ps q=>⟨#[],by rw [q];simp⟩⟩
theorem Un.refl:Un fs ex H H h h:=Un.kept fun _ _ q=>q
theorem Un.laid (k: ∀ b u,h.get? b=some u->h'.get? b=some u) (hp:h.objs.size<=a) (hn:H a=none):Un fs ex H (upd H a o) h h' where
 keep:=fun b u q _ _ _=>k b u q
 slot:=fun b u q _ _ _=>⟨u.slots,k b u q⟩
 free:=fun b u q n _=>by rw [zaw (qaR (qaw (qaQ q) hp))];exact n
 there:=fun b u q _=>⟨u,k b u q⟩
 tups:=fun b xs q=>by rw [zaw (zaQ q hn)];exact q
 frzs:=fun b u xs q=>by rw [zaw (zaQ q hn)];exact q
 tbls:=fun b ps q=>⟨#[],by rw [zaw (zaQ q hn),q];simp⟩
theorem Un.write (mu:Mut (H x)) (he:e=x\/H e=some (.own x)) (k: ∀ b u,b≠e->h.get? b=some u->h'.get? b=some u) (heo: ∃ u,h'.get? e=some u):Un fs ex H (upd H x o) h h':=by
 have hx: ∀ b,H b=none->b≠x:=fun b n z=>by subst z;rw [n] at mu;exact mu
 have hb: ∀ b,H b=none->b≠e:=fun b n z=>by
  subst z
  rcases he with r | r
  ·exact hx b n r
  ·rw [n] at r;cases r
 have hm: ∀ b u,H b=some u-> ¬Mut (some u)->b≠x:=fun b u q nm z=>by subst z;rw [q] at mu;exact nm mu
 refine ⟨fun b u q n _ _=>k b u (hb b n) q,fun b u q n _ _=>⟨u.slots,k b u (hb b n) q⟩,fun b u q n _=>by rw [zaw (hx b n)];exact n,fun b u q _=> ?_,
   fun b xs q=>by rw [zaw (hm b _ q fun z=>z)];exact q,fun b u xs q=>by rw [zaw (hm b _ q fun z=>z)];exact q,fun b ps q=>⟨#[],by rw [zaw (hm b _ q fun z=>z),q];simp⟩⟩
 by_cases hbe:b=e
 ·subst hbe;exact heo
 ·exact ⟨u,k b u hbe q⟩
theorem Un.mono (u:Un fs ex H H1 h h1) (hs: ∀ b∈fs,b∈fs') (hx: ∀ b∈ex,b∈ex'):Un fs' ex' H H1 h h1:=
 ⟨fun b ob q n hb he=>u.keep b ob q n (fun z=>hb (hs b z)) fun z=>he (hx b z),fun _ _ q n _ he=>u.any q n fun z=>he (hx _ z),fun b ob q n he=>u.free b ob q n fun z=>he (hx b z),fun b ob q he=>u.there b ob q fun z=>he (hx b z),u.tups,u.frzs,u.tbls⟩
end
noncomputable def trk (h:Heap) (H:Hp):List Addr:=(List.range h.objs.size).filter fun a=>(H a).isSome
noncomputable def zk2 (h:Heap) (H:Hp):Heap:=W.hideAll h (trk h H)
theorem zjI (h:Heap) (H:Hp):(zk2 h H).objs.size=h.objs.size:=W.hideAll_size _ _
theorem zlU {h:Heap} {H:Hp} {b:Addr} {o:Obj} (e:h.get? b=some o) (n:H b=none):(zk2 h H).get? b=some o:=
 W.hideAll_get _ e fun hm=>by
  have q:(H b).isSome=true:=(List.mem_filter.mp hm).2
  rw [n] at q;simp at q
theorem zng {h:Heap} {H:Hp} {b:Addr} {o:Obj} (e:(zk2 h H).get? b=some o):h.get? b=some o/\H b=none:=by
 have e':h.get? b=some o:=W.of_hideAll (trk h H) e
 refine ⟨e',?_⟩
 cases q:H b with
 | none=>rfl
 | some x=>
  have hm:b∈trk h H:=List.mem_filter.mpr ⟨List.mem_range.mpr (qaQ e'),by simp [q]⟩
  have z:(zk2 h H).get? b=none:=W.hideAll_none (trk h H) hm
  rw [z] at e;cases e
noncomputable def znV (g h:Heap) (L:Addr):List (Addr×Obj):=(List.range h.objs.size).filterMap fun a=>if a=L\/(g.get? a).isSome=true then none else (h.get? a).map fun o=>(a,o)
noncomputable def rest (g h:Heap) (L d:Addr):List (Addr×Obj):=(znV g h L).filter fun p=>decide (p.1≠d)
structure Mod (K:W.Frag) (mg:Str->Option Value) (base:Heap):Prop where
 kin:K.In base
 glob:base.Ns mainGlobals mg
 blt: ∃ mb,base.Ns builtinsNs mb/\ ∀ x:Str,x≠"__name__"->mb x=bootBuiltins x
 nolimit:base.NoLimit
structure Cx where
 prog:Program
 w:World
 K:W.Frag
 mg:Str->Option Value
 base:Heap
 A:Around
 N:List Str
 s₀:Shared
 H₀:Hp
 env:Env
 outer:List Env
 stack:List Env
 ex:List Addr
 fn:Str->Bool
 calm:Bool
 pn:List (Addr×Obj)
 xe:Value->Shared->Prop
noncomputable def frs (l:List Env):List Addr:=l.filterMap (·.frame)
noncomputable abbrev Cx.fs (X:Cx):List Addr:=frs X.outer
def Vis (sc:Scope) (x:Str):Prop:=sc.names.lookup x=some .local\/sc.names.lookup x=some .cell\/sc.names.lookup x=some .free
def Loc (sc:Scope) (x:Str):Prop:=sc.names.lookup x=some .local\/sc.names.lookup x=some .cell
def zs9 (env:Env) (h:Heap) (m:Str->Option Value) (x:Str) (u:Value):Prop:=
 (env.kindOf x=some .local/\m x=some u)\/((env.kindOf x=some .cell\/env.kindOf x=some .free)/\ ∃ c,env.cells.lookup x=some c/\h.IsCell c (some u))
def zgv (A:Around) (H:Hp):Prop:=A.handled=none\/ ∃ a o cls head vs,A.handled=some (.ref a)/\H a=some (.frz o (.own 0))/\o.cls=cls/\o.dict=none/\o.data= .fields vs/\vs[2]? = some .none/\vs[1]? = some head
structure Cx.Ok (X:Cx):Prop where
 mod:Mod X.K X.mg X.base
 kind:X.env.scope.kind= .function
 glob:X.env.globals=mainGlobals
 blt:X.env.builtins=builtinsNs
 above:X.s₀.heap.objs.size<=X.env.locals
 inj: ∀ x y c,X.env.cells.lookup x=some c->X.env.cells.lookup y=some c->x=y
 has: ∀ x,(X.env.kindOf x=some .cell\/X.env.kindOf x=some .free)-> ∃ c,X.env.cells.lookup x=some c
 cab: ∀ x c,X.fn x=true->X.env.cells.lookup x=some c->X.s₀.heap.objs.size<=c
 hd:X.calm=true->X.A.handled=none
 hx:zgv X.A X.H₀
 frames:X.A.frames=some X.stack
 stk:X.stack=X.outer\/(X.stack=X.env::X.outer/\X.env.frame=some X.env.locals)
 exf: ∀ b∈X.ex,b≠X.env.locals/\ ∀ x c,X.env.cells.lookup x=some c->c≠b
 bs: ∀ b o,X.base.get? b=some o->X.s₀.heap.get? b=some o/\X.H₀ b=none
 bsz:X.base.objs.size<=X.s₀.heap.objs.size
 noex: ∀ b o,X.base.get? b=some o->b∉X.ex
 exfs: ∀ b∈X.ex,b∉X.fs
 funs:X.s₀.heap.FunFrames X.base X.outer
 frf: ∀ b∈X.fs,X.H₀ b=none
structure Inv (X:Cx) (pins:List (Addr×Obj)) (σ:List (Option V)) (H:Hp) (s:Shared):Prop where
 ok:X.Ok
 os:s.os=X.s₀.os
 bare:AllBare s.gens
 base:Un X.fs X.ex X.H₀ H X.s₀.heap s.heap
 loc: ∃ m,s.heap.Ns X.env.locals m/\ ∀ (i:Nat) (x:Str) (v:V),X.N[i]? = some x->σ[i]? = some (some v)->Vis X.env.scope x-> ∃ u,zbE v u/\zs9 X.env s.heap m x u
 cell: ∀ x c,X.env.cells.lookup x=some c-> ∃ v,s.heap.IsCell c v
 free:H X.env.locals=none
 freeC: ∀ x c,X.env.cells.lookup x=some c->H c=none
 pin: ∀ p∈X.pn++pins,s.heap.get? p.1=some p.2/\H p.1=none/\p.1≠X.env.locals/\p.1∉X.fs/\ ∀ v,p.2.data≠ .cell v
 hok:HOk X.prog X.w H s.heap
 len:σ.length=X.N.length
section
variable {X:Cx} {pins:List (Addr×Obj)} {σ:List (Option V)} {H H':Hp} {s:Shared} {h':Heap}
theorem Cx.Ok.nofr (ok:X.Ok) {b:Addr} {o:Obj} (e:X.base.get? b=some o):b∉X.fs:=fun hb=>by
 have:=(ok.funs.mem hb).1
 rw [e] at this;cases this
theorem Inv.bs (I:Inv X pins σ H s): ∀ b o,X.base.get? b=some o->s.heap.get? b=some o/\H b=none:=fun b o e=>
 ⟨I.base.keep b o (I.ok.bs b o e).1 (I.ok.bs b o e).2 (I.ok.nofr e) (I.ok.noex b o e),I.base.free b o (I.ok.bs b o e).1 (I.ok.bs b o e).2 (I.ok.noex b o e)⟩
theorem Inv.bk (I:Inv X pins σ H s): ∀ b o,X.base.get? b=some o->s.heap.get? b=some o:=fun b o e=>(I.bs b o e).1
theorem Inv.mod (I:Inv X pins σ H s):Mod X.K X.mg X.base:=I.ok.mod
theorem Inv.kIn (I:Inv X pins σ H s):X.K.In s.heap:=I.ok.mod.kin.keeps I.bk
theorem Inv.nolimit (I:Inv X pins σ H s):s.heap.NoLimit:=I.ok.mod.nolimit.keeps I.bk
theorem Inv.fr (I:Inv X pins σ H s): ∃ m,Fr X.base X.env.locals s.heap m:=
 let ⟨m,hn,_⟩:=I.loc
 ⟨m,hn,I.bk,qaS I.ok.bsz I.ok.above⟩
theorem Inv.lt (I:Inv X pins σ H s):X.env.locals<s.heap.objs.size:=let ⟨_,hn,_⟩:=I.loc;hn.lt
theorem Inv.sz (I:Inv X pins σ H s):X.s₀.heap.objs.size<=s.heap.objs.size:=qaS I.ok.above (Nat.le_of_lt I.lt)
theorem Inv.nofs (I:Inv X pins σ H s) {a:Addr} (h:s.heap.objs.size<=a):a∉X.fs:=fun hb=>by
 obtain ⟨_,o,ho,_⟩:=I.ok.funs.mem hb
 exact absurd (qaw (qaQ ho) (qaS I.sz h)) (qaN _)
theorem Inv.cne (I:Inv X pins σ H s): ∀ x c,X.env.cells.lookup x=some c->c≠X.env.locals:=fun x c e z=>by
 obtain ⟨v,o,ho,hd⟩:=I.cell x c e
 obtain ⟨m,⟨o',es,ep,ho',hd',_⟩,_⟩:=I.loc
 rw [z,ho'] at ho;cases ho;rw [hd'] at hd;cases hd
theorem Inv.funs (I:Inv X pins σ H s):s.heap.FunFrames X.base X.outer:=by
 have all: ∀ (l:List Env),(∀ b∈frs l,b∈X.fs)->X.s₀.heap.FunFrames X.base l->s.heap.FunFrames X.base l:=by
  intro l
  induction l with
  | nil=>intro _ _;trivial
  | cons env r ih=>
   intro hs hl
   obtain ⟨hk,⟨L,o,hf,hn,ho,hd⟩,hr⟩:=hl
   have hL:L∈X.fs:=hs L (by unfold frs;rw [qat,hf];exact qau)
   obtain ⟨sl,e⟩:=I.base.slot L o ho (I.ok.frf L hL) hL fun z=>I.ok.exfs L z hL
   exact ⟨hk,⟨L,_,hf,hn,e,hd⟩,ih (fun b hb=>hs b (by unfold frs;rw [qat,hf];exact qan _ hb)) hr⟩
 exact all X.outer (fun _ hb=>hb) I.ok.funs
theorem Inv.stack (I:Inv X pins σ H s):s.heap.FunFrames X.base X.stack:=by
 rcases I.ok.stk with e | ⟨e,hf⟩
 ·rw [e];exact I.funs
 ·rw [e]
  obtain ⟨m,hn,_⟩:=I.loc
  refine .cons (by rw [I.ok.kind];decide) hf hn ?_ I.funs
  exact Heap.get?_none_of_le (qaS I.ok.bsz I.ok.above)
theorem Inv.stkSub (I:Inv X pins σ H s): ∀ b∈frs X.stack,b∈X.env.locals::X.fs:=fun b hb=>by
 rcases I.ok.stk with e | ⟨e,hf⟩
 ·rw [e] at hb;exact qan _ hb
 ·rw [e] at hb
  unfold frs at hb
  rw [qat,hf] at hb
  exact hb
theorem Inv.stkFree (I:Inv X pins σ H s): ∀ b∈frs X.stack,H b=none:=fun b hb=>by
 rcases qaP.mp (I.stkSub b hb) with e | hb
 ·rw [e];exact I.free
 ·obtain ⟨_,o,ho,_⟩:=I.ok.funs.mem hb
  exact I.base.free b o ho (I.ok.frf b hb) fun z=>I.ok.exfs b z hb
theorem Inv.step {g':Array GenState} {t':Nat} {d':Drawn} {ch:List Addr} (I:Inv X pins σ H s)
  (hch: ∀ b∈ch,(b∈X.ex\/X.s₀.heap.objs.size<=b)/\b≠X.env.locals/\(∀ x c,X.env.cells.lookup x=some c->c≠b)/\ ∀ p∈X.pn++pins,p.1≠b)
  (keep: ∀ b o,b≠X.env.locals->b∉X.fs->b∉ch->s.heap.get? b=some o->H b=none->h'.get? b=some o)
  (slot: ∀ b o,b≠X.env.locals->b∈X.fs->b∉ch->s.heap.get? b=some o->H b=none-> ∃ sl,h'.get? b=some {o with slots:=sl}) (free: ∀ b o,b∉ch->s.heap.get? b=some o->H b=none->H' b=none)
  (there: ∀ b o,b∉ch->s.heap.get? b=some o-> ∃ o',h'.get? b=some o')
  (tups: ∀ b xs,H b=some (.tup xs)->H' b=some (.tup xs)) (frzs: ∀ b o u,H b=some (.frz o u)->H' b=some (.frz o u)) (tbls: ∀ b ps,H b=some (.tbl ps)-> ∃ more,H' b=some (.tbl (ps++more)))
  (ns: ∀ m,s.heap.Ns X.env.locals m->h'.Ns X.env.locals m) (hok:HOk X.prog X.w H' h') (hg:AllBare g'):
  Inv X pins σ H' {s with heap:=h',gens:=g',drawn:=d',toks:=t'}:=by
 have neL: ∀ b o,X.s₀.heap.get? b=some o->b≠X.env.locals:=fun b o e=>qaR (qaw (qaQ e) I.ok.above)
 have neC: ∀ b o,X.s₀.heap.get? b=some o->b∉X.ex->b∉ch:=fun b o e hx hb=>by
  rcases (hch b hb).1 with z | z
  ·exact hx z
  ·exact absurd (qaw (qaQ e) z) (qaN _)
 have cellK: ∀ x c,X.env.cells.lookup x=some c-> ∀ v,s.heap.IsCell c v->h'.IsCell c v:=fun x c e v ⟨o,ho,hd⟩=>by
  have nch:c∉ch:=fun z=>(hch c z).2.2.1 x c e rfl
  by_cases hc:c∈X.fs
  ·obtain ⟨sl,q⟩:=slot c o (I.cne x c e) hc nch ho (I.freeC x c e)
   exact ⟨_,q,hd⟩
  ·exact ⟨o,keep c o (I.cne x c e) hc nch ho (I.freeC x c e),hd⟩
 refine ⟨I.ok,I.os,hg,⟨fun b o e n hb hx=> ?_,fun b o e n hb hx=> ?_,fun b o e n hx=> ?_,fun b o e hx=> ?_,fun b xs e=>tups b xs (I.base.tups b xs e),fun b o xs e=>frzs b o xs (I.base.frzs b o xs e),fun b ps e=> ?_⟩,?_,fun x c e=> ?_,?_,fun x c e=> ?_,fun p hp=> ?_,hok,I.len⟩
 ·exact keep b o (neL b o e) hb (neC b o e hx) (I.base.keep b o e n hb hx) (I.base.free b o e n hx)
 ·obtain ⟨sl,e1⟩:=I.base.slot b o e n hb hx
  obtain ⟨sl',e2⟩:=slot b _ (neL b o e) hb (neC b o e hx) e1 (I.base.free b o e n hx)
  exact ⟨sl',e2⟩
 ·obtain ⟨o',e1⟩:=I.base.there b o e hx
  exact free b o' (neC b o e hx) e1 (I.base.free b o e n hx)
 ·obtain ⟨o',e1⟩:=I.base.there b o e hx
  exact there b o' (neC b o e hx) e1
 ·obtain ⟨m1,e1⟩:=I.base.tbls b ps e
  obtain ⟨m2,e2⟩:=tbls b _ e1
  exact ⟨m1++m2,by rw [e2,Array.append_assoc]⟩
 ·obtain ⟨m,hn,hl⟩:=I.loc
  refine ⟨m,ns m hn,fun i x v e1 e2 e3=> ?_⟩
  obtain ⟨u,r,l⟩:=hl i x v e1 e2 e3
  refine ⟨u,r,?_⟩
  rcases l with l | ⟨k,c,e,z⟩
  ·exact .inl l
  ·exact .inr ⟨k,c,e,cellK x c e _ z⟩
 ·obtain ⟨v,z⟩:=I.cell x c e
  exact ⟨v,cellK x c e v z⟩
 ·obtain ⟨m,⟨o,_,_,ho,_⟩,_⟩:=I.loc
  exact free _ o (fun z=>(hch _ z).2.1 rfl) ho I.free
 ·obtain ⟨v,o,ho,hd⟩:=I.cell x c e
  exact free c o (fun z=>(hch c z).2.2.1 x c e rfl) ho (I.freeC x c e)
 ·obtain ⟨e,n,ne,nf,d⟩:=I.pin p hp
  have nch:p.1∉ch:=fun z=>(hch p.1 z).2.2.2 p hp rfl
  exact ⟨keep p.1 p.2 ne nf nch e n,free p.1 p.2 nch e n,ne,nf,d⟩
theorem Inv.un {t':Nat} (I:Inv X pins σ H s) (u:Un X.fs [] H H' s.heap h') (hok:HOk X.prog X.w H' h'):Inv X pins σ H' {s with heap:=h',toks:=t'}:=by
 obtain ⟨m,⟨o,es,ep,ho,r⟩,_⟩:=id I.loc
 obtain ⟨sl,hL⟩:=u.any ho I.free (by simp)
 exact I.step (g':=s.gens) (d':=s.drawn) (ch:=[]) (fun _ z=>nomatch z) (fun b o _ hb _ e n=>u.keep b o e n hb (by simp)) (fun b o _ hb _ e n=>u.slot b o e n hb (by simp)) (fun b o _ e n=>u.free b o e n (by simp)) (fun b o _ e=>u.there b o e (by simp)) u.tups u.frzs u.tbls (fun m' hm=>by
   obtain ⟨o',es',ep',ho',r'⟩:=hm
   rw [ho] at ho';cases ho'
   exact ⟨_,es',ep',hL,r'⟩) hok I.bare
theorem Inv.call {g':Array GenState} {t':Nat} {d':Drawn} {ch:List Addr} (I:Inv X pins σ H s) (u:Un (frs X.stack) ch H H' s.heap h') (hok:HOk X.prog X.w H' h') (hg:AllBare g')
  (hch: ∀ b∈ch,(b∈X.ex\/X.s₀.heap.objs.size<=b)/\b≠X.env.locals/\(∀ x c,X.env.cells.lookup x=some c->c≠b)/\ ∀ p∈X.pn++pins,p.1≠b):
  Inv X pins σ H' {s with heap:=h',gens:=g',drawn:=d',toks:=t'}:=by
 obtain ⟨m,⟨o,es,ep,ho,r⟩,_⟩:=id I.loc
 obtain ⟨sl,hL⟩:=u.any ho I.free fun z=>(hch _ z).2.1 rfl
 exact I.step (ch:=ch) hch (fun b o hL hb hc e n=>u.keep b o e n (fun z=>(qaP.mp (I.stkSub b z)).elim hL hb) hc) (fun b o _ _ hc e n=>u.any e n hc) (fun b o hc e n=>u.free b o e n hc) (fun b o hc e=>u.there b o e hc) u.tups u.frzs u.tbls (fun m' hm=>by
   obtain ⟨o',es',ep',ho',r'⟩:=hm
   rw [ho] at ho';cases ho'
   exact ⟨_,es',ep',hL,r'⟩) hok hg
theorem Inv.turned {t':Nat} {it:Addr} (I:Inv X pins σ H s) (k: ∀ b o,b≠it->s.heap.get? b=some o->h'.get? b=some o) (hn:H it=none) (hL:it≠X.env.locals)
  (h1:it∈X.ex\/X.s₀.heap.objs.size<=it) (h2: ∀ x c,X.env.cells.lookup x=some c->c≠it) (h3: ∀ p∈X.pn++pins,p.1≠it):Inv X pins σ H {s with heap:=h',toks:=t'}:=by
 have nit: ∀ b u,H b=some u->b≠it:=fun b u e z=>by rw [z,hn] at e;cases e
 refine I.step (g':=s.gens) (d':=s.drawn) (ch:=[it]) (fun b hb=> ?_) (fun b o _ _ hc e _=>k b o (fun z=>hc (by simp [z])) e) (fun b o _ _ hc e _=>⟨o.slots,k b o (fun z=>hc (by simp [z])) e⟩) (fun _ _ _ _ n=>n)
  (fun b o hc e=>⟨o,k b o (fun z=>hc (by simp [z])) e⟩) (fun _ _ e=>e) (fun _ _ _ e=>e) (fun b ps e=>⟨#[],by rw [e];simp⟩) (fun m hm=> ?_) (fun b u e=> ?_) I.bare
 ·have e:b=it:=by simpa using hb
  subst e
  exact ⟨h1,hL,h2,h3⟩
 ·obtain ⟨o,es,ep,ho,r⟩:=hm
  exact ⟨o,es,ep,k _ o (Ne.symm hL) ho,r⟩
 ·refine (I.hok b u e).stay (fun c v hc q=>k c v ?_ q) (fun _ q=>q) fun _ _ q=>q
  rcases hc with z | z
  ·rw [z];exact nit b u e
  ·exact nit c _ z
theorem Inv.tok (I:Inv X pins σ H s) (t:Nat):Inv X pins σ H {s with toks:=t}:=I.un (h':=s.heap) (t':=t) Un.refl I.hok
theorem Inv.kept {t':Nat} (I:Inv X pins σ H s) (k: ∀ b u,s.heap.get? b=some u->h'.get? b=some u):Inv X pins σ H {s with heap:=h',toks:=t'}:=I.un (Un.kept k) (I.hok.kept k)
theorem Inv.laid {a:Addr} {o:HO} {t':Nat} (I:Inv X pins σ H s) (k: ∀ b u,s.heap.get? b=some u->h'.get? b=some u) (hp:s.heap.objs.size<=a) (new:zbp X.prog X.w (upd H a o) h' a o):
  Inv X pins σ (upd H a o) {s with heap:=h',toks:=t'}:=I.un (Un.laid k hp (I.hok.fresh hp)) (I.hok.laid k hp new)
theorem Inv.write {x e:Addr} {o:HO} {t':Nat} (I:Inv X pins σ H s) (mu:Mut (H x)) (he:e=x\/H e=some (.own x)) (k: ∀ b u,b≠e->s.heap.get? b=some u->h'.get? b=some u) (heo: ∃ u,h'.get? e=some u)
  (new:zbp X.prog X.w (upd H x o) h' x o):Inv X pins σ (upd H x o) {s with heap:=h',toks:=t'}:=I.un (Un.write mu he k heo) (I.hok.write mu he k heo new)
theorem Inv.pins_of {pins':List (Addr×Obj)} (I:Inv X pins σ H s) (h: ∀ p∈pins',s.heap.get? p.1=some p.2/\H p.1=none/\p.1≠X.env.locals/\p.1∉X.fs/\ ∀ v,p.2.data≠ .cell v):Inv X pins' σ H s:=
 ⟨I.ok,I.os,I.bare,I.base,I.loc,I.cell,I.free,I.freeC,fun p hp=>(qaK.mp hp).elim (fun z=>I.pin p (List.mem_append_left _ z)) (h p),I.hok,I.len⟩
theorem zfz {N:List Str} (hN:N.Nodup) {i j:Nat} {x:Str} (a:N[i]? = some x) (b:N[j]? = some x):i=j:=by
 obtain ⟨h1,e1⟩:=qac.mp a
 obtain ⟨h2,e2⟩:=qac.mp b
 exact (List.getElem_inj hN).mp (e1.trans e2.symm)
theorem zfW {M:Model} {A:Around} {E:Value->Shared->Prop} {i:Nat} {x:Str} {v:V} {u:Value} {Q:Unit->Shared->Prop} (I:Inv X pins σ H s) (hN:X.N.Nodup) (hi:X.N[i]? = some x) (hx:Loc X.env.scope x) (r:zbE v u)
  (h: ∀ s',Inv X pins (σ.set i (some v)) H s'->(∃ a,Heap.SameBut a s.heap s'.heap/\(a=X.env.locals\/X.env.cells.lookup x=some a))->Q () s') (hf:X.fn x=true\/X.env.scope.names.lookup x=some .local:=by first | exact .inl rfl | exact .inr rfl | assumption):wpAny M A (storeName X.env x u) Q E s:=by
 obtain ⟨m,hn,hl⟩:=id I.loc
 have hcls:(X.env.scope.kind== .class || (X.env.scope.kind== .module && X.env.locals != X.env.globals))=false:=by rw [I.ok.kind];rfl
 have hiσ:i<σ.length:=by rw [I.len];exact (qac.mp hi).1
 have cne:=I.cne
 have tracked: ∀ {a:Addr} {h':Heap},(∃ o,s.heap.get? a=some o/\H a=none)->Heap.SameBut a s.heap h'->HOk X.prog X.w H h':=fun {a h'} ha hs b ob e=>by
  obtain ⟨_,_,hfree⟩:=ha
  refine (I.hok b ob e).stay (fun c w' hc q=>(hs.2 c ?_).trans q) (fun _ q=>q) fun _ _ q=>q
  rintro rfl
  rcases hc with rfl | hc
  ·rw [hfree] at e;cases e
  ·rw [hfree] at hc;cases hc
 rcases hx with hk | hk
 ·refine wpAny_storeName_local hk hn (fun h' hn' hs=> ?_) hcls
  obtain ⟨oL,_,_,hoL,_⟩:=id hn
  refine h _ ⟨I.ok,I.os,I.bare,⟨fun b o e n hb hx=> ?_,fun b o e n hb hx=> ?_,I.base.free,fun b o e hx=> ?_,I.base.tups,I.base.frzs,I.base.tbls⟩,⟨_,hn',fun j y v' e1 e2 e3=> ?_⟩,fun y c e=> ?_,I.free,I.freeC,fun p hp=> ?_,tracked ⟨oL,hoL,I.free⟩ hs,by simpa using I.len⟩ ⟨_,hs,.inl rfl⟩
  ·exact (hs.2 b (qaR (qaw (qaQ e) I.ok.above))).trans (I.base.keep b o e n hb hx)
  ·obtain ⟨sl,e1⟩:=I.base.slot b o e n hb hx
   exact ⟨sl,(hs.2 b (qaR (qaw (qaQ e) I.ok.above))).trans e1⟩
  ·obtain ⟨o',e1⟩:=I.base.there b o e hx
   exact ⟨o',(hs.2 b (qaR (qaw (qaQ e) I.ok.above))).trans e1⟩
  ·by_cases hj:j=i
   ·subst hj
    rw [hi] at e1;cases e1
    rw [qai hiσ] at e2
    cases e2
    exact ⟨u,r,.inl ⟨hk,by simp⟩⟩
   ·rw [qao (Ne.symm hj)] at e2
    obtain ⟨u',r',q⟩:=hl j y v' e1 e2 e3
    refine ⟨u',r',?_⟩
    rcases q with ⟨k,e⟩ | ⟨k,c,e,z⟩
    ·refine .inl ⟨k,?_⟩
     have:y≠x:=fun e=>hj (zfz hN e1 (e▸hi))
     simp [this,e]
    ·exact .inr ⟨k,c,e,z.sameBut hs (cne y c e)⟩
  ·obtain ⟨w',z⟩:=I.cell y c e
   exact ⟨w',z.sameBut hs (cne y c e)⟩
  ·obtain ⟨e,n,ne,nf,d⟩:=I.pin p hp
   exact ⟨(hs.2 p.1 ne).trans e,n,ne,nf,d⟩
 ·have hfn:X.fn x=true:=by
   rcases hf with z | z
   ·exact z
   ·rw [z] at hk;cases hk
  obtain ⟨c,hc⟩:=I.ok.has x (.inl hk)
  obtain ⟨w',z⟩:=I.cell x c hc
  refine wpAny_storeName_cell I.ok.kind hk hc z (fun h' hc' hs=> ?_)
  obtain ⟨oc,hoc,hocd⟩:=id z
  refine h {s with heap:=h'} ⟨I.ok,I.os,I.bare,⟨fun b o e n hb hx=> ?_,fun b o e n hb hx=> ?_,I.base.free,fun b o e hx=> ?_,I.base.tups,I.base.frzs,I.base.tbls⟩,⟨m,hn.sameBut hs (Ne.symm (cne x c hc)),fun j y v' e1 e2 e3=> ?_⟩,fun y c' e=> ?_,I.free,I.freeC,fun p hp=> ?_,tracked ⟨oc,hoc,I.freeC x c hc⟩ hs,by simpa using I.len⟩ ⟨c,hs,.inr hc⟩
  ·exact (hs.2 b (qaR (qaw (qaQ e) (I.ok.cab x c hfn hc)))).trans (I.base.keep b o e n hb hx)
  ·obtain ⟨sl,e1⟩:=I.base.slot b o e n hb hx
   exact ⟨sl,(hs.2 b (qaR (qaw (qaQ e) (I.ok.cab x c hfn hc)))).trans e1⟩
  ·obtain ⟨o',e1⟩:=I.base.there b o e hx
   exact ⟨o',(hs.2 b (qaR (qaw (qaQ e) (I.ok.cab x c hfn hc)))).trans e1⟩
  ·by_cases hj:j=i
   ·subst hj
    rw [hi] at e1;cases e1
    rw [qai hiσ] at e2
    cases e2
    exact ⟨u,r,.inr ⟨.inl hk,c,hc,hc'⟩⟩
   ·rw [qao (Ne.symm hj)] at e2
    obtain ⟨u',r',q⟩:=hl j y v' e1 e2 e3
    refine ⟨u',r',?_⟩
    rcases q with q | ⟨k,c',e,z'⟩
    ·exact .inl q
    ·refine .inr ⟨k,c',e,z'.sameBut hs ?_⟩
     rintro rfl
     exact hj (zfz hN e1 (I.ok.inj _ _ _ e hc▸hi))
  ·by_cases hcc:c'=c
   ·subst hcc;exact ⟨_,hc'⟩
   ·obtain ⟨w2,z2⟩:=I.cell y c' e
    exact ⟨w2,z2.sameBut hs hcc⟩
  ·obtain ⟨e,n,ne,nf,d⟩:=I.pin p hp
   refine ⟨(hs.2 p.1 ?_).trans e,n,ne,nf,d⟩
   intro q
   rw [q,hoc] at e
   have q':oc=p.2:=Option.some.inj e
   exact d w' (by rw [<- q'];exact hocd)
theorem zdv {M:Model} {A:Around} {E:Value->Shared->Prop} {i:Nat} {x:Str} {v:V} {u:Value} {Q:Unit->Shared->Prop} (I:Inv X pins σ H s) (hN:X.N.Nodup) (hi:X.N[i]? = some x) (hx:Loc X.env.scope x) (r:zbE v u)
  (h: ∀ s',Inv X pins (σ.set i (some v)) H s'->Q () s') (hf:X.fn x=true\/X.env.scope.names.lookup x=some .local:=by first | exact .inl rfl | exact .inr rfl | assumption):wpAny M A (storeName X.env x u) Q E s:=
 zfW I hN hi hx r (fun s' I' _=>h s' I') hf
theorem Inv.call' {s':Shared} {ch:List Addr} (I:Inv X pins σ H s) (ho:s'.os=s.os) (u:Un (frs X.stack) ch H H' s.heap s'.heap) (hok:HOk X.prog X.w H' s'.heap) (hg:AllBare s'.gens)
  (hch: ∀ b∈ch,(b∈X.ex\/X.s₀.heap.objs.size<=b)/\b≠X.env.locals/\(∀ x c,X.env.cells.lookup x=some c->c≠b)/\ ∀ p∈X.pn++pins,p.1≠b):Inv X pins σ H' s':=by
 obtain ⟨h',g',d',t',o'⟩:=s'
 have e:o'=s.os:=ho
 subst e
 exact I.call (g':=g') (t':=t') (d':=d') u hok hg hch
end
noncomputable abbrev XK:=Value->Option Addr->Hp->Prop
noncomputable abbrev St:=List (Option V)
noncomputable abbrev VK:=V->Hp->Prop
noncomputable abbrev TE:=St->Hp->VK->Prop
noncomputable abbrev TT:=St->Hp->(Bool->Hp->Prop)->Prop
noncomputable abbrev TA:=St->Hp->(List V->Hp->Prop)->Prop
structure zmA where
 nx:St->Hp->Prop
 rt:VK
 bk:St->Hp->Prop:=fun _ _=>False
 ct:St->Hp->Prop:=fun _ _=>False
noncomputable abbrev TS:=zmA->St->Hp->Prop
def EP (X:Cx) (pins:List (Addr×Obj)) (σ:St) (Q:VK) (u:Value) (s':Shared):Prop:= ∃ v H',Inv X pins σ H' s'/\zbE v u/\Q v H'
def TP (X:Cx) (pins:List (Addr×Obj)) (σ:St) (Q:Bool->Hp->Prop) (b:Bool) (s':Shared):Prop:= ∃ H',Inv X pins σ H' s'/\Q b H'
def AP (X:Cx) (pins:List (Addr×Obj)) (σ:St) (Q:List V->Hp->Prop) (us:List Value) (s':Shared):Prop:= ∃ vs H',Inv X pins σ H' s'/\zaZ vs us/\Q vs H'
def SP (X:Cx) (pins:List (Addr×Obj)) (D:zmA) (f:Flow) (s':Shared):Prop:=
 match f with
 | .next=> ∃ σ' H',Inv X pins σ' H' s'/\D.nx σ' H'
 | .brk=> ∃ σ' H',Inv X pins σ' H' s'/\D.bk σ' H'
 | .cont=> ∃ σ' H',Inv X pins σ' H' s'/\D.ct σ' H'
 | .ret u=> ∃ v σ' H',Inv X pins σ' H' s'/\zbE v u/\D.rt v H'
def PE (X:Cx) (e:Expr) (t:TE):Prop:=
 ∀ (pins:List (Addr×Obj)) (s:Shared) (σ:St) (H:Hp) (Q:VK),Inv X pins σ H s->t σ H Q->wpAny (model X.prog X.w) X.A (eval e X.env) (EP X pins σ Q) X.xe s
def PT (X:Cx) (e:Expr) (t:TT):Prop:=
 ∀ (pins:List (Addr×Obj)) (s:Shared) (σ:St) (H:Hp) (Q:Bool->Hp->Prop),Inv X pins σ H s->t σ H Q->wpAny (model X.prog X.w) X.A (isTrue e X.env (eval e X.env)) (TP X pins σ Q) X.xe s
def PW (X:Cx) (e:Expr) (t:TT):Prop:=
 ∀ (whole:Sem Value) (pins:List (Addr×Obj)) (s:Shared) (σ:St) (H:Hp) (Q:Bool->Hp->Prop),Inv X pins σ H s->t σ H Q->wpAny (model X.prog X.w) X.A (isTrue e X.env whole) (TP X pins σ Q) X.xe s
theorem PW.pt {X:Cx} {e:Expr} {t:TT} (h:PW X e t):PT X e t:=h _
def PA (X:Cx) (es:List Expr) (t:TA):Prop:=
 ∀ (pos:Pos) (pins:List (Addr×Obj)) (s:Shared) (σ:St) (H:Hp) (Q:List V->Hp->Prop),Inv X pins σ H s->t σ H Q->wpAny (model X.prog X.w) X.A (spliced (backTo pos (starEach es X.env))) (AP X pins σ Q) X.xe s
def PS (X:Cx) (st:Stmt) (t:TS):Prop:=
 ∀ (pins:List (Addr×Obj)) (s:Shared) (σ:St) (H:Hp) (D:zmA),Inv X pins σ H s->t D σ H->wpAny (model X.prog X.w) X.A (exec st X.env) (SP X pins D) X.xe s
def PSs (X:Cx) (st:List Stmt) (t:TS):Prop:=
 ∀ (pins:List (Addr×Obj)) (s:Shared) (σ:St) (H:Hp) (D:zmA),Inv X pins σ H s->t D σ H->wpAny (model X.prog X.w) X.A (execs st X.env) (SP X pins D) X.xe s
theorem thn {α:Type} {t:Sem α} {Q Q':α->Shared->Prop} {M:Model} {A:Around} {E:Value->Shared->Prop} {s:Shared} (h:wpAny M A t Q E s) (hQ: ∀ a s,Q a s->Q' a s):wpAny M A t Q' E s:=qaZ h hQ fun _ _ x=>x
section
variable {X:Cx}
noncomputable def zs7 (i:Nat):TE:=fun σ H Q=> ∃ v,σ[i]? = some (some v)/\Q v H
noncomputable def tC (v:V):TE:=fun _ H Q=>Q v H
theorem zme {i:Nat} {x:Str} {pos:Pos} (hN:X.N[i]? = some x) (hv:Vis X.env.scope x) (hd:(x==("__debug__":Str))=false:=by decide) (hcd:(x==("__classdict__":Str))=false:=by decide):PE X (.Name x pos) (zs7 i):=by
 intro pins s σ H Q I h
 obtain ⟨v,e,h⟩:=h
 obtain ⟨m,hn,hl⟩:=I.loc
 obtain ⟨u,r,l⟩:=hl i x v hN e hv
 have fin:EP X pins σ Q u s:=⟨v,H,I,r,h⟩
 rcases l with ⟨hk,hm⟩ | ⟨hk,c,hc,hcell⟩
 ·exact wpAny_Name (wpAny_loadName_local I.ok.kind hk hn hm fin) hd
 ·rcases hk with hk | hk
  ·exact wpAny_Name (wpAny_loadName_cell I.ok.kind hk hc hcell fin) hd
  ·exact wpAny_Name (wpAny_loadName_free I.ok.kind hk hc hcell fin hcd) hd
theorem zmg {i j pos}:PE X (.Constant (.int i) j pos) (tC (.int i)):=fun _ _ _ H _ I h=>wpAny_Constant_int ⟨.int i,H,I.tok _,⟨_,rfl⟩,h⟩
theorem zrf {b j pos}:PE X (.Constant (.bool b) j pos) (tC (.bl b)):=fun _ _ _ H _ I h=>Constant_bool ⟨.bl b,H,I,rfl,h⟩
theorem zqb {j pos}:PE X (.Constant .none j pos) (tC .non):=fun _ _ _ H _ I h=>Constant_none ⟨.non,H,I,rfl,h⟩
theorem zmu {x j pos}:PE X (.Constant (.str x) j pos) (tC (.str x)):=fun _ _ _ H _ I h=>Calls.Constant_str ⟨.str x,H,I.tok _,⟨_,rfl⟩,h⟩
def Gl (X:Cx) (x:Str):Prop:=X.env.kindOf x=some .globalImplicit
theorem zho {E:Value->Shared->Prop} {pins:List (Addr×Obj)} {s:Shared} {σ:St} {H:Hp} {x:Str} {u:Value} {pos:Pos} {Q:Value->Shared->Prop} (I:Inv X pins σ H s) (hg:Gl X x) (hm:X.mg x=some u) (h:Q u s)
  (hd:(x==("__debug__":Str))=false:=by decide):wpAny (model X.prog X.w) X.A (eval (.Name x pos) X.env) Q E s:=
 Calls.Name_function_global I.ok.kind hg (Calls.loadGlobal_global (by rw [I.ok.glob];exact I.mod.glob.keeps I.bk) hm h) hd
theorem zgG {E:Value->Shared->Prop} {pins:List (Addr×Obj)} {s:Shared} {σ:St} {H:Hp} {x:Str} {u:Value} {pos:Pos} {Q:Value->Shared->Prop} (I:Inv X pins σ H s) (hg:Gl X x) (hm:X.mg x=none) (hv:bootBuiltins x=some u) (h:Q u s)
  (hn:x≠"__name__":=by decide) (hd:(x==("__debug__":Str))=false:=by decide):wpAny (model X.prog X.w) X.A (eval (.Name x pos) X.env) Q E s:=by
 obtain ⟨mb,h1,h2⟩:=I.mod.blt
 exact Calls.Name_function_global I.ok.kind hg (Calls.loadGlobal_builtin (by rw [I.ok.glob];exact I.mod.glob.keeps I.bk) hm (by rw [I.ok.blt];exact h1.keeps I.bk) ((h2 x hn).trans hv) h) hd
theorem zou {x:Str} {v:V} {u:Value} {pos:Pos} (hg:Gl X x) (hm:X.mg x=some u) (r:zbE v u) (hd:(x==("__debug__":Str))=false:=by decide):PE X (.Name x pos) (tC v):=
 fun _ _ _ H _ I h=>zho I hg hm ⟨v,H,I,r,h⟩ hd
theorem zjB {x:Str} {v:V} {u:Value} {pos:Pos} (hg:Gl X x) (hm:X.mg x=none) (hv:bootBuiltins x=some u) (r:zbE v u) (hn:x≠"__name__":=by decide) (hd:(x==("__debug__":Str))=false:=by decide):PE X (.Name x pos) (tC v):=
 fun _ _ _ H _ I h=>zgG I hg hm hv ⟨v,H,I,r,h⟩ hn hd
noncomputable def t2I (ta tb:TE) (k:Int->Int->Hp->Prop):St->Hp->Prop:=fun σ H=>ta σ H fun x H1=>tb σ H1 fun y H2=> ∃ i j,x= .int i/\y= .int j/\k i j H2
variable {a b:Expr} {ta tb:TE} {pos:Pos}
noncomputable def zeg (p:Int->Int->Bool) (ta tb:TE):TE:=fun σ H Q=>t2I ta tb (fun i j H2=>Q (.bl (p i j)) H2) σ H
noncomputable def tB (t:TE):TT:=fun σ H Q=>t σ H fun x H1=> ∃ c,x= .bl c/\Q c H1
theorem zqE {e:Expr} {t:TE} (h:PE X e t) (he: ∀ whole,isTrue e X.env whole=(do let v<-whole;standAt e.pos;holding [v] (truthy v)):=by intro _;rfl):PT X e (tB t):=by
 intro pins s σ H Q I hw
 refine isTrue_plain (thn (h pins s σ H _ I hw) fun v s1 ⟨x,H1,I1,r1,q1⟩=> ?_) (he _)
 obtain ⟨d,rfl,q⟩:=q1
 cases r1
 exact wpAny_truthy_bool ⟨H1,I1,q⟩
variable {tA tB':TT} {rest:List Expr}
noncomputable def zsQ (t u:TT):TT:=fun σ H Q=>t σ H fun c H1=>if c=true then u σ H1 Q else Q false H1
noncomputable def tOr (t u:TT):TT:=fun σ H Q=>t σ H fun c H1=>if c=true then Q true H1 else u σ H1 Q
noncomputable def ze5 (t:TT):TT:=fun σ H Q=>t σ H fun c H1=>Q (!c) H1
theorem pw_or1 (ha:PT X a tA):PW X (.BoolOp .Or [a] pos) tA:=by
 intro wh pins s σ H Q I h
 refine isTrue_or (thn (ha pins s σ H Q I h) fun c s1 e=> ?_)
 cases c with
 | false=>exact isTrue_or_nil e
 | true=>exact e
theorem pw_or (ha:PT X a tA) (hb:PW X (.BoolOp .Or (b::rest) pos) tB'):PW X (.BoolOp .Or (a::b::rest) pos) (tOr tA tB'):=by
 intro wh pins s σ H Q I h
 refine isTrue_or (thn (ha pins s σ H _ I h) fun c s1 ⟨H1,I1,q1⟩=> ?_)
 cases c with
 | true=>exact ⟨H1,I1,q1⟩
 | false=>exact hb wh pins s1 σ H1 Q I1 q1
theorem zpK (ha:PT X a tA):PT X (.UnaryOp .Not a pos) (ze5 tA):=by
 intro pins s σ H Q I h
 exact isTrue_not (ha pins s σ H (fun c H1=>Q (!c) H1) I h)
noncomputable def zrK (ta tb:TE):TE:=fun σ H Q=>ta σ H fun x H1=> ∃ c,x= .bl c/\if c=true then tb σ H1 Q else Q (.bl false) H1
noncomputable def zrU (ta:TE):TE:=fun σ H Q=>ta σ H fun x H1=> ∃ c,x= .bl c/\Q (.bl (!c)) H1
theorem zpm {op} {t:TE} (h:PE X a t):PE X (.BoolOp op [a] pos) t:=fun pins s σ H Q I hw=>BoolOp_one (h pins s σ H Q I hw)
theorem zp6 (ha:PE X a ta) (hb:PE X (.BoolOp .And (b::rest) pos) tb):PE X (.BoolOp .And (a::b::rest) pos) (zrK ta tb):=by
 intro pins s σ H Q I h
 refine BoolOp_and (thn (ha pins s σ H _ I h) fun v s1 ⟨x,H1,I1,r1,q1⟩=> ?_)
 obtain ⟨c,rfl,q1⟩:=q1
 cases r1
 refine wpAny_truthy_bool ?_
 cases c with
 | true=>exact hb pins s1 σ H1 Q I1 q1
 | false=>exact ⟨.bl false,H1,I1,rfl,q1⟩
theorem zpg (ha:PE X a ta):PE X (.UnaryOp .Not a pos) (zrU ta):=by
 intro pins s σ H Q I h
 refine UnaryOp_ (thn (ha pins s σ H _ I h) fun v s1 ⟨x,H1,I1,r1,q1⟩=> ?_)
 obtain ⟨c,rfl,q1⟩:=q1
 cases r1
 exact not_of (wpAny_truthy_bool ⟨.bl (!c),H1,I1,rfl,q1⟩)
end
def SqL (K:W.Frag) (H:Hp) (a:Addr) (xs:List V):Prop:=
 Rd H a (.lst xs)\/
  ∃ (o:Obj) (its:Array Value) (n:Nat),K.lookup a=some o/\o.cls= .type "list"/\o.dict=none/\o.data= .seq its n/\its.size<=sizeLine/\zaZ xs its.toList
def SqT (K:W.Frag) (H:Hp) (a:Addr) (xs:List V):Prop:=
 Rd H a (.tup xs)\/
  ∃ (o:Obj) (its:Array Value) (n:Nat),K.lookup a=some o/\o.cls= .type "tuple"/\o.data= .seq its n/\its.size<=sizeLine/\zaZ xs its.toList
noncomputable def zto:Value->Option V
 | .none=>some .non
 | .bool b=>some (.bl b)
 | .int i _=>some (.int i)
 | .str x _=>some (.str x)
 | .bytes b _=>some (.byt b)
 | .float b _=>some (.flt b)
 | .ref a=>some (.ref a)
 | .type n=>some (.ty n)
 | _=>none
theorem zbE.abs {x:V} {u:Value} (r:zbE x u):zto u=some x:=by
 cases x with
 | non=>cases r;rfl
 | bl _=>cases r;rfl
 | int _=>obtain ⟨t,rfl⟩:=r;rfl
 | str _=>obtain ⟨t,rfl⟩:=r;rfl
 | byt _=>obtain ⟨t,rfl⟩:=r;rfl
 | flt _=>obtain ⟨t,rfl⟩:=r;rfl
 | ref _=>cases r;rfl
 | ty _=>cases r;rfl
theorem zbE.inj {x y:V} {u:Value} (r:zbE x u) (q:zbE y u):x=y:=Option.some.inj (r.abs.symm.trans q.abs)
theorem zaZ.inj: ∀ {xs ys:List V} {us:List Value},zaZ xs us->zaZ ys us->xs=ys
 | _,_,_,.nil,.nil=>rfl
 | _,_,_,.cons r t,.cons r' t'=>by rw [r.inj r',zaZ.inj t t']
section
variable {X:Cx} {pins:List (Addr×Obj)} {σ:St} {H:Hp} {s:Shared} {a:Addr} {xs ys:List V}
theorem SqL.of {K:W.Frag} (h:H a=some (.lst xs)):SqL K H a xs:= .inl (.inl h)
theorem SqT.of {K:W.Frag} (h:H a=some (.tup xs)):SqT K H a xs:= .inl (.inl h)
theorem Inv.list (I:Inv X pins σ H s) (h:SqL X.K H a xs): ∃ its:List Value,zaZ xs its/\PlainL s.heap a its.toArray/\xs.length<=sizeLine:=by
 rcases h with h | ⟨o,its,n,hk,hc,hd,hs,hz,r⟩
 ·obtain ⟨z,its,n,r,e⟩:=h.ok I.hok
  exact ⟨its,r,⟨_,n,e,rfl,rfl,rfl⟩,z⟩
 ·refine ⟨its.toList,r,⟨o,n,I.kIn a o hk,hc,hd,by simpa using hs⟩,?_⟩
  have e:=r.length
  simp only [qas] at e
  omega
theorem Inv.tuple (I:Inv X pins σ H s) (h:SqT X.K H a xs): ∃ its:List Value,zaZ xs its/\IsTup s.heap a its.toArray/\xs.length<=sizeLine:=by
 rcases h with h | ⟨o,its,n,hk,hc,hs,hz,r⟩
 ·obtain ⟨z,its,r,p⟩:=h.ok I.hok
  exact ⟨its,r,p,z⟩
 ·refine ⟨its.toList,r,⟨o,I.kIn a o hk,hc,n,by simpa using hs⟩,?_⟩
  have e:=r.length
  simp only [qas] at e
  omega
theorem Inv.list_inj (I:Inv X pins σ H s) (h:SqL X.K H a xs) (h':SqL X.K H a ys):xs=ys:=by
 obtain ⟨its,r,⟨o,n,e,_,_,d⟩,_⟩:=I.list h
 obtain ⟨its',r',⟨o',n',e',_,_,d'⟩,_⟩:=I.list h'
 rw [e] at e';cases e'
 rw [d] at d'
 injection d' with d1 _
 have:its=its':=by simpa using congrArg Array.toList d1
 subst this
 exact r.inj r'
theorem Inv.tuple_inj (I:Inv X pins σ H s) (h:SqT X.K H a xs) (h':SqT X.K H a ys):xs=ys:=by
 obtain ⟨its,r,⟨o,e,_,n,d⟩,_⟩:=I.tuple h
 obtain ⟨its',r',⟨o',e',_,n',d'⟩,_⟩:=I.tuple h'
 rw [e] at e';cases e'
 rw [d] at d'
 injection d' with d1 _
 have:its=its':=by simpa using congrArg Array.toList d1
 subst this
 exact r.inj r'
end
noncomputable abbrev Cx.wish (X:Cx) (E:Value->Shared->Prop):Cx:={X with xe:=E}
noncomputable abbrev Cx.nox (X:Cx):Cx:=X.wish fun _ _=>False
theorem Cx.Ok.wish {X:Cx} (ok:X.Ok) (E:Value->Shared->Prop):(X.wish E).Ok:=
 ⟨ok.mod,ok.kind,ok.glob,ok.blt,ok.above,ok.inj,ok.has,ok.cab,ok.hd,ok.hx,ok.frames,ok.stk,ok.exf,ok.bs,ok.bsz,ok.noex,ok.exfs,ok.funs,ok.frf⟩
theorem Cx.Ok.unwish {X:Cx} {E:Value->Shared->Prop} (ok:(X.wish E).Ok):X.Ok:=
 ⟨ok.mod,ok.kind,ok.glob,ok.blt,ok.above,ok.inj,ok.has,ok.cab,ok.hd,ok.hx,ok.frames,ok.stk,ok.exf,ok.bs,ok.bsz,ok.noex,ok.exfs,ok.funs,ok.frf⟩
section
variable {X:Cx} {pins:List (Addr×Obj)} {σ:St} {H:Hp} {s:Shared} {E:Value->Shared->Prop}
theorem Inv.wish (I:Inv X pins σ H s) (E:Value->Shared->Prop):Inv (X.wish E) pins σ H s:=⟨I.ok.wish E,I.os,I.bare,I.base,I.loc,I.cell,I.free,I.freeC,I.pin,I.hok,I.len⟩
theorem Inv.unwish (I:Inv (X.wish E) pins σ H s):Inv X pins σ H s:=⟨I.ok.unwish,I.os,I.bare,I.base,I.loc,I.cell,I.free,I.freeC,I.pin,I.hok,I.len⟩
theorem SP.unwish {D:zmA} {f:Flow} {s':Shared} (h:SP (X.wish E) pins D f s'):SP X pins D f s':=by
 cases f with
 | next=>obtain ⟨σ',H',I,q⟩:=h;exact ⟨σ',H',I.unwish,q⟩
 | brk=>obtain ⟨σ',H',I,q⟩:=h;exact ⟨σ',H',I.unwish,q⟩
 | cont=>obtain ⟨σ',H',I,q⟩:=h;exact ⟨σ',H',I.unwish,q⟩
 | ret u=>obtain ⟨v,σ',H',I,r,q⟩:=h;exact ⟨v,σ',H',I.unwish,r,q⟩
theorem PE.nox {e:Expr} {t:TE} (h:PE X.nox e t):PE X e t:=fun pins s σ H Q I hw=>
 qaZ (h pins s σ H Q (I.wish _) hw) (fun _ _ ⟨v,H',I',r,q⟩=>⟨v,H',I'.unwish,r,q⟩) fun _ _ z=>qa0 z
theorem PT.nox {e:Expr} {t:TT} (h:PT X.nox e t):PT X e t:=fun pins s σ H Q I hw=>
 qaZ (h pins s σ H Q (I.wish _) hw) (fun _ _ ⟨H',I',q⟩=>⟨H',I'.unwish,q⟩) fun _ _ z=>qa0 z
theorem PSs.nox {st:List Stmt} {t:TS} (h:PSs X.nox st t):PSs X st t:=fun pins s σ H D I hw=>
 qaZ (h pins s σ H D (I.wish _) hw) (fun _ _ q=>q.unwish) fun _ _ z=>qa0 z
end
section
variable {X:Cx} {st:Stmt} {rest:List Stmt} {t u:TS} {e:Expr} {te:TE} {pos:Pos}
noncomputable def zsc:TS:=fun D σ H=>D.nx σ H
noncomputable def ztt (t u:TS):TS:=fun D σ H=>t {D with nx:=u D} σ H
theorem zm6:PSs X [] zsc:=fun _ _ σ H _ I h=>wpAny_execs_nil ⟨σ,H,I,h⟩
theorem zlo (h1:PS X st t) (h2:PSs X rest u):PSs X (st::rest) (ztt t u):=by
 intro pins s σ H D I h
 refine wpAny_execs_cons (thn (h1 pins s σ H {D with nx:=u D} I h) fun f s1 q=> ?_)
 cases f with
 | next=>
  obtain ⟨σ',H',I',q⟩:=q
  exact h2 pins s1 σ' H' D I' q
 | ret v=>exact q
 | brk=>exact q
 | cont=>exact q
theorem zm3 (h1:PS X st t):PSs X [st] t:=by
 intro pins s σ H D I h
 refine wpAny_execs_cons (thn (h1 pins s σ H D I h) fun f s1 q=> ?_)
 cases f with
 | next=>exact wpAny_execs_nil q
 | ret v=>exact q
 | brk=>exact q
 | cont=>exact q
theorem Inv.quiet {pins:List (Addr×Obj)} {σ:St} {H:Hp} {s:Shared} (I:Inv X pins σ H s):interactive X.env=false:=by simp [interactive,I.ok.kind]
noncomputable def zrD (te:TE):TS:=fun D σ H=>te σ H fun _ H1=>D.nx σ H1
theorem znF (he:PE X e te) (hs:swapsWith e none pos.line X.env=pure false:=by rfl):PS X (.Expr e pos) (zrD te):=by
 intro pins s σ H D I h
 exact wpAny_Expr_any (thn (he pins s σ H _ I h) fun v s1 ⟨x,H1,I1,r1,q1⟩=>⟨σ,H1,I1,q1⟩) I.quiet hs
noncomputable def ztD (te:TE):TS:=fun D σ H=>te σ H D.rt
theorem zqH (he:PE X e te):PS X (.Return (some e) pos) (ztD te):=by
 intro pins s σ H D I h
 exact wpAny_Return_some (thn (he pins s σ H _ I h) fun v s1 ⟨x,H1,I1,r1,q1⟩=>⟨x,σ,H1,I1,r1,q1⟩)
noncomputable def ztn (c:TT) (t u:TS):TS:=fun D σ H=>c σ H fun b H1=>if b=true then t D σ H1 else u D σ H1
theorem zrO {c:Expr} {a b:List Stmt} {tc:TT} (hc:PT X c tc) (ha:PSs X a t) (hb:PSs X b u):PS X (.If c a b pos) (ztn tc t u):=by
 intro pins s σ H D I h
 refine wpAny_If (thn (hc pins s σ H _ I h) fun d s1 ⟨H1,I1,q1⟩=> ?_)
 cases d with
 | true=>exact ha pins s1 σ H1 D I1 q1
 | false=>exact hb pins s1 σ H1 D I1 q1
end
noncomputable abbrev TG:=V->St->Hp->(St->Hp->Prop)->Prop
noncomputable abbrev TGs:=List V->St->Hp->(St->Hp->Prop)->Prop
def PG (X:Cx) (target:Expr) (t:TG):Prop:=
 ∀ (pins:List (Addr×Obj)) (s:Shared) (σ:St) (H:Hp) (v:V) (u:Value) (Q:St->Hp->Prop),Inv X pins σ H s->zbE v u->t v σ H Q->
  wpAny (model X.prog X.w) X.A (assign target X.env u) (fun _ s'=> ∃ σ' H',Inv X pins σ' H' s'/\Q σ' H') X.xe s
def PGs (X:Cx) (ts:List Expr) (t:TGs):Prop:=
 ∀ (pins:List (Addr×Obj)) (s:Shared) (σ:St) (H:Hp) (vs:List V) (us:List Value) (Q:St->Hp->Prop),Inv X pins σ H s->zaZ vs us->t vs σ H Q->
  wpAny (model X.prog X.w) X.A (assignInOrder ((assignEach ts X.env).map (·.2)) us) (fun _ s'=> ∃ σ' H',Inv X pins σ' H' s'/\Q σ' H') X.xe s
noncomputable abbrev zpL:=V->V->V->Hp->(Hp->Prop)->Prop
def zoK (X:Cx) (t:zpL):Prop:=
 ∀ (pins:List (Addr×Obj)) (s:Shared) (σ:St) (H:Hp) (o i v:V) (ov iv u:Value) (Q:Hp->Prop),Inv X pins σ H s->zbE o ov->zbE i iv->zbE v u->t o i v H Q->
  wpAny (model X.prog X.w) X.A (setItem ov iv u) (fun _ s'=> ∃ H',Inv X pins σ H' s'/\Q H') X.xe s
section
variable {X:Cx} {pos:Pos}
noncomputable def zoo (i:Nat):TG:=fun v σ H Q=>Q (σ.set i (some v)) H
theorem znw {i:Nat} {x:Str} (hN:X.N.Nodup) (hi:X.N[i]? = some x) (hx:Loc X.env.scope x) (hf:X.fn x=true\/X.env.scope.names.lookup x=some .local:=by first | exact .inl rfl | exact .inr rfl | assumption):PG X (.Name x pos) (zoo i):=by
 intro pins s σ H v u Q I r h
 exact wpAny_assign_Name (zdv I hN hi hx r (fun s' I'=>⟨_,H,I',h⟩) hf)
noncomputable def ztx:TGs:=fun vs σ H Q=>vs=[]/\Q σ H
noncomputable def zrR (t:TG) (u:TGs):TGs:=fun vs σ H Q=> ∃ v r,vs=v::r/\t v σ H fun σ' H'=>u r σ' H' Q
theorem znG:PGs X [] ztx:=by
 intro pins s σ H vs us Q I r h
 obtain ⟨e,h⟩:=h
 subst e
 cases r
 exact assignInOrder_nil ⟨σ,H,I,h⟩
theorem zlO {e:Expr} {es:List Expr} {t:TG} {u:TGs} (h1:PG X e t) (h2:PGs X es u)
  (hs:(assignEach (e::es) X.env).map (·.2)=assign e X.env::(assignEach es X.env).map (·.2):=by rfl):PGs X (e::es) (zrR t u):=by
 intro pins s σ H vs us Q I r h
 obtain ⟨v,vr,e1,h⟩:=h
 subst e1
 cases r with
 | cons r rr=>
  rw [hs]
  refine assignInOrder_cons (thn (h1 pins s σ H _ _ _ I r h) fun _ s1 ⟨σ1,H1,I1,q1⟩=> ?_)
  exact h2 pins s1 σ1 H1 _ _ Q I1 rr q1
noncomputable def zs8 (K:W.Frag) (n:Nat) (t:TGs):TG:=fun v σ H Q=> ∃ a xs,v= .ref a/\SqT K H a xs/\xs.length=n/\t xs σ H Q
theorem zqT {es:List Expr} {k:Nat} {t:TGs} {n:Nat} (hc:X.calm=true) (h:PGs X es t)
  (hn:(assignEach es X.env).length=n:=by rfl) (hst:(assignEach es X.env).findIdx? (·.1)=none:=by rfl):PG X (.Tuple es k pos) (zs8 X.K n t):=by
 intro pins s σ H v u Q I r hw
 obtain ⟨a,xs,e1,hq,hl,hw⟩:=hw
 subst e1
 cases r
 obtain ⟨its,rv,ht,hz⟩:=I.tuple hq
 refine assign_Tuple_tuple (I.ok.hd hc) ht (by simp [hn, <-hl,rv.length]) hst fun h' hx=> ?_
 have I1:Inv X pins σ H {s with heap:=h'}:=I.kept (t':=s.toks) fun b o e=>hx b o (qaR (qaQ e)) e
 exact h pins _ σ H xs _ Q I1 (by simpa using rv) hw
noncomputable def zsP (to ti:TE) (t:zpL):TG:=fun v σ H Q=>to σ H fun o H1=>ti σ H1 fun i H2=>t o i v H2 fun H3=>Q σ H3
theorem zpP {o i:Expr} {to ti:TE} {t:zpL} (ho:PE X o to) (hi:PE X i ti) (hs:zoK X t)
  (ha: ∀ v,assign (.Subscript o i pos) X.env v=(do
    let ov<-holding [v] (eval o X.env)
    let iv<-holding [v,ov] (eval i X.env)
    standAt pos
    holding [v,ov,iv] (setItem ov iv v)
    release [v,ov,iv] []):=by intro _;rfl):PG X (.Subscript o i pos) (zsP to ti t):=by
 intro pins s σ H v u Q I r h
 rw [ha]
 refine qaW (qaO (thn (ho pins s σ H _ I h) fun ov s1 ⟨x,H1,I1,r1,q1⟩=> ?_))
 refine qaW (qaO (thn (hi pins s1 σ H1 _ I1 q1) fun iv s2 ⟨y,H2,I2,r2,q2⟩=> ?_))
 refine qaW (wpAny_standAt (qaW (qaO (thn (hs pins s2 σ H2 x y v ov iv u _ I2 r1 r2 r q2) fun _ s3 ⟨H3,I3,q3⟩=> ?_))))
 exact wpAny_release ⟨σ,H3,I3,q3⟩
noncomputable def zsL (te:TE) (g:TG):TS:=fun D σ H=>te σ H fun x H1=>g x σ H1 D.nx
theorem zqX {tg e:Expr} {te:TE} {g:TG} (he:PE X e te) (hg:PG X tg g) (hs:swapsWithSole [tg] e pos.line X.env=pure false:=by rfl) (hw:swappedStores [tg] e X.env=pure none:=by rfl)
  (h1:(assignEach [tg] X.env).map (·.2)=[assign tg X.env]:=by rfl):PS X (.Assign [tg] e pos) (zsL te g):=by
 intro pins s σ H D I h
 refine wpAny_Assign_stores (thn (he pins s σ H _ I h) fun v s1 ⟨x,H1,I1,r1,q1⟩=> ?_) hs hw
 rw [h1]
 exact thn (hg pins s1 σ H1 x v _ I1 r1 q1) fun _ s2 q=>q
theorem zpi {i:Nat} {x:Str} {e:Expr} {te:TE} {pos':Pos} (hN:X.N.Nodup) (hi:X.N[i]? = some x) (hx:Loc X.env.scope x) (he:PE X e te) (hs:swapsWith e (some (.Name x pos')) pos.line X.env=pure false:=by rfl) (hf:X.fn x=true\/X.env.scope.names.lookup x=some .local:=by first | exact .inl rfl | exact .inr rfl | assumption):
  PS X (.Assign [.Name x pos'] e pos) (zsL te (zoo i)):=by
 intro pins s σ H D I h
 refine wpAny_Assign_Name (thn (he pins s σ H _ I h) fun v s1 ⟨y,H1,I1,r1,q1⟩=> ?_) hs
 exact zdv I1 hN hi hx r1 (fun s2 I2=>⟨_,H1,I2,q1⟩) hf
noncomputable def zsR (i j:Nat) (ta:TA):TS:=fun D σ H=>ta σ H fun vs H1=> ∃ v w,vs=[v,w]/\D.nx ((σ.set i (some v)).set j (some w)) H1
theorem zoP {i j:Nat} {x y:Str} {a b:Expr} {ta:TA} {px py pt:Pos} {kt k2 pt2} (hc:X.calm=true) (hN:X.N.Nodup) (hi:X.N[i]? = some x) (hj:X.N[j]? = some y) (hij:i≠j)
  (hx:X.env.scope.names.lookup x=some .local) (hy:X.env.scope.names.lookup y=some .local) (ha:PA X [a,b] ta)
  (hw:swappedStores [.Tuple [.Name x px,.Name y py] kt pt] (.Tuple [a,b] k2 pt2) X.env=pure (some [x,y]))
  (hs:swapsWithSole [.Tuple [.Name x px,.Name y py] kt pt] (.Tuple [a,b] k2 pt2) pos.line X.env=pure false:=by rfl):
  PS X (.Assign [.Tuple [.Name x px,.Name y py] kt pt] (.Tuple [a,b] k2 pt2) pos) (zsR i j ta):=by
 intro pins s σ H D I h
 rw [exec_Assign_arm]
 refine qaW (wpAny_standAt ?_)
 rw [hs]
 refine qaW (qaX ?_)
 rw [qa5 (by decide)]
 refine qaW (Tuple_ (thn (ha _ pins s σ H _ I h) fun us s1 ⟨vs,H1,I1,r1,q1⟩=> ?_))
 obtain ⟨v,w,e1,q1⟩:=q1
 subst e1
 obtain ⟨u1,u2,rfl,rv,rw'⟩: ∃ u1 u2,us=[u1,u2]/\zbE v u1/\zbE w u2:=by
  cases r1 with
  | cons p q=>
   cases q with
   | cons p' q'=>
    cases q'
    exact ⟨_,_,rfl,p,p'⟩
 refine qaC ?_ (by show 2<=sizeLine;decide)
 have I2:Inv X pins σ H1 {s1 with heap:=s1.heap.push {cls:= .type "tuple",data:= .seq [u1,u2].toArray}}:=I1.kept (t':=s1.toks) fun b o e=>qag _ e
 rw [hw]
 refine qaW (qaX ?_)
 show wpAny (model X.prog X.w) X.A (do rule "assign.swapped-stores";let items<-unpackItems (.ref s1.heap.objs.size) 2 none;assignInOrder [fun v=>bindName X.env y v,fun v=>bindName X.env x v] items.reverse;pure Flow.next) _ _ _
 refine qaW (wpAny_rule (qaW (unpackItems_tuple (items:= #[u1,u2]) (I.ok.hd hc) (IsTup.new s1.heap _) fun h' hx'=> ?_)))
 have I3:=I2.kept (h':=h') (t':=s1.toks) fun b o e=>hx' b o (qaR (qaQ e)) e
 show wpAny _ _ (assignInOrder [fun v=>bindName X.env y v,fun v=>bindName X.env x v] [u2,u1]>>=fun _=>pure Flow.next) _ _ _
 refine qaW (assignInOrder_cons (wpAny_bindName (zdv I3 hN hj (.inl hy) rw' (fun s2 I4=> ?_) (.inr hy))))
 refine assignInOrder_cons (wpAny_bindName (zdv I4 hN hi (.inl hx) rv (fun s3 I5=>assignInOrder_nil (qaX ?_)) (.inr hx)))
 rw [List.set_comm _ _ (Ne.symm hij)] at I5
 exact ⟨_,H1,I5,q1⟩
end
section
variable {X:Cx} {pos:Pos}
noncomputable def zpC (c:TT) (tb:TS):TS:=fun D σ H=> ∃ W:Nat->St->Hp->Prop,(∃ m,W m σ H)/\ ∀ m σ H,W m σ H->
 c σ H fun b H1=>if b=true then ∃ N:St->Hp->Prop,(∀ σ' H',N σ' H'-> ∃ m',m'<m/\W m' σ' H')/\tb {D with nx:=N,ct:=N,bk:=D.nx} σ H1 else D.nx σ H1
theorem zlG {c:Expr} {body:List Stmt} {tc:TT} {tb:TS} (hp:PassesOwn (model X.prog X.w) X.A X.env X.xe) (hc:PT X c tc) (hb:PSs X body tb):PS X (.While c body [] pos) (zpC tc tb):=by
 intro pins s σ H D I h
 obtain ⟨W,⟨m0,w0⟩,turn⟩:=h
 refine wpAny_While (codeAny_whileLoop (fun n s'=> ∃ σ' H',Inv X pins σ' H' s'/\W n σ' H') ?_ m0 ⟨σ,H,I,w0⟩)
 rintro n s1 ⟨σ1,H1,I1,w1⟩
 refine wpAny_passesOwn hp (thn (hc pins s1 σ1 H1 _ I1 (turn n σ1 H1 w1)) fun b s2 ⟨H2,I2,q2⟩=> ?_)
 cases b with
 | true=>
  obtain ⟨N,hN,q2⟩:=q2
  rw [qa4 rfl]
  refine wpAny_passesOwn hp (thn (hb pins s2 σ1 H2 _ I2 q2) fun f s3 q3=> ?_)
  cases f with
  | next=>
   obtain ⟨σ3,H3,I3,n3⟩:=q3
   obtain ⟨m',hm,w3⟩:=hN σ3 H3 n3
   exact ⟨m',hm,σ3,H3,I3,w3⟩
  | cont=>
   obtain ⟨σ3,H3,I3,n3⟩:=q3
   obtain ⟨m',hm,w3⟩:=hN σ3 H3 n3
   exact ⟨m',hm,σ3,H3,I3,w3⟩
  | brk=>exact q3
  | ret v=>exact q3
 | false=>
  rw [qa5 Bool.false_ne_true]
  exact wpAny_execs_nil ⟨σ1,H2,I2,q2⟩
end
structure It where
 go:Nat->Hp->Prop
 yld:Nat->Hp->V->Hp->Prop
 stop:Nat->Hp->Prop
def ziS (X:Cx) (pins:List (Addr×Obj)) (H:Hp) (b:Addr):Prop:=
 H b=none/\b≠X.env.locals/\b∉X.fs/\(b∈X.ex\/X.s₀.heap.objs.size<=b)/\(∀ x c,X.env.cells.lookup x=some c->c≠b)/\ ∀ p∈X.pn++pins,p.1≠b
theorem Inv.fpOk {X:Cx} {pins:List (Addr×Obj)} {σ:St} {H H':Hp} {s:Shared} {b:Addr} (I:Inv X pins σ H s) (hb:s.heap.objs.size<=b) (hn:H' b=none):ziS X pins H' b:=by
 refine ⟨hn,Nat.ne_of_gt (qaw I.lt hb),I.nofs hb,.inr (qaS I.sz hb),fun x c e z=> ?_,fun p hp z=> ?_⟩
 ·obtain ⟨v,q⟩:=I.cell x c e
  exact absurd (qaw q.lt (by rw [z];exact hb)) (qaN _)
 ·exact absurd (qaw (qaQ (I.pin p hp).1) (by rw [z];exact hb)) (qaN _)
structure zoI (P:Program) (w:World) (K:W.Frag) (tg:Expr) (J:It) (fp:List Addr) (it:Addr) (tn:Nat->Heap->Prop):Prop where
 mem:it∈fp
 obj: ∀ i h,tn i h-> ∀ b∈fp, ∃ o,h.get? b=some o/\ ∀ v,o.data≠ .cell v
 keep: ∀ i h h',tn i h->(∀ b∈fp, ∀ o,h.get? b=some o->h'.get? b=some o)->tn i h'
 item: ∀ (X:Cx),X.prog=P->X.w=w->X.K=K-> ∀ (i:Nat) (pins:List (Addr×Obj)) (s:Shared) (σ:St) (H:Hp) (E:Value->Shared->Prop),Inv X pins σ H s->(∀ b∈fp,ziS X pins H b)->tn i s.heap->J.go i H->
  wpAny (model P w) X.A (pyNext (.ref it)) (fun r s1=> ∃ u,r=some u/\
    wpAny (model P w) X.A (letOwnedTupleGo tg (.ref it) u) (fun _ s2=> ∃ x H',Inv X pins σ H' s2/\zbE x u/\J.yld i H x H'/\tn (i+1) s2.heap/\ ∀ b∈fp,H' b=none) E s1) E s
 done: ∀ (X:Cx),X.prog=P->X.w=w->X.K=K-> ∀ (i:Nat) (pins:List (Addr×Obj)) (s:Shared) (σ:St) (H:Hp) (E:Value->Shared->Prop),Inv X pins σ H s->(∀ b∈fp,ziS X pins H b)->tn i s.heap->J.stop i H->
  wpAny (model P w) X.A (pyNext (.ref it)) (fun r s1=>r=none/\Inv X pins σ H s1) E s
 self: ∀ (A:Around) (i:Nat) (s:Shared) (Q:Value->Shared->Prop) (E:Value->Shared->Prop),tn i s.heap->Q (.ref it) s->wpAny (model P w) A (pyIter (.ref it)) Q E s
noncomputable abbrev TI:=St->Hp->(It->Hp->Prop)->Prop
def PIE (X:Cx) (pins:List (Addr×Obj)) (σ:St) (tg:Expr) (R:It->Hp->Prop) (itv:Value) (s2:Shared):Prop:=
 ∃ (it:Addr) (fp:List Addr) (tn:Nat->Heap->Prop) (J:It) (H':Hp),itv= .ref it/\Inv X pins σ H' s2/\zoI X.prog X.w X.K tg J fp it tn/\tn 0 s2.heap/\(∀ b∈fp,ziS X pins H' b)/\R J H'
def PI (X:Cx) (tg iter:Expr) (wi:TI):Prop:=
 ∀ (pins:List (Addr×Obj)) (s:Shared) (σ:St) (H:Hp) (R:It->Hp->Prop),Inv X pins σ H s->wi σ H R->
  wpAny (model X.prog X.w) X.A (eval iter X.env) (fun v s1=>wpAny (model X.prog X.w) X.A (pyIter v) (PIE X pins σ tg R) X.xe s1) X.xe s
theorem znT {M:Model} {A:Around} {E:Value->Shared->Prop} {s:Shared} {tg:Expr} {it:Addr} {u:Value} {o:Obj} {n:String} {vs:Array Value} {Q:Unit->Shared->Prop} (ho:s.heap.get? it=some o) (hc:o.cls= .type n) (hd:o.data= .fields vs)
  (hn:["enumerate","zip","dict_itemiterator","dict_reverseitemiterator","odict_iterator","itertools.zip_longest","itertools.pairwise"].contains n=false) (hQ:Q () s):wpAny M A (letOwnedTupleGo tg (.ref it) u) Q E s:=by
 unfold letOwnedTupleGo
 cases tg<;>first
  | exact qaX hQ
  | (cases u<;>first
      | exact qaX hQ
      | (refine qaW (wpAny_load ho ?_)
         rw [hc,hd]
         show wpAny M A (if (["enumerate","zip","dict_itemiterator","dict_reverseitemiterator","odict_iterator","itertools.zip_longest","itertools.pairwise"].contains n && vs[0]? == some (rawInt _))=true then _ else _) Q E s
         rw [qa5 (by intro h;rw [hn,Bool.false_and] at h;cases h)]
         exact qaX hQ))
noncomputable def Itl (K:W.Frag) (a:Addr):It:=
 ⟨fun i H=> ∃ xs x,SqL K H a xs/\xs[i]? = some x,fun i H x H'=>H'=H/\ ∀ xs,SqL K H a xs->xs[i]? = some x,fun i H=> ∃ xs,SqL K H a xs/\xs.length<=i⟩
noncomputable def Itt (K:W.Frag) (a:Addr):It:=
 ⟨fun i H=> ∃ xs x,SqT K H a xs/\xs[i]? = some x,fun i H x H'=>H'=H/\ ∀ xs,SqT K H a xs->xs[i]? = some x,fun i H=> ∃ xs,SqT K H a xs/\xs.length<=i⟩
noncomputable def Itr (lo:Int) (n:Nat):It:=⟨fun i _=>i<n,fun i H x H'=>H'=H/\x= .int (lo+i),fun i _=>n<=i⟩
theorem zgv.keep {A:Around} {H H':Hp} (x:zgv A H) (k: ∀ b o u,H b=some (.frz o u)->H' b=some (.frz o u)):zgv A H':=by
 rcases x with x | ⟨a,o,cls,head,vs,x1,x2,x3⟩
 ·exact .inl x
 ·exact .inr ⟨a,o,cls,head,vs,x1,k _ _ _ x2,x3⟩
theorem zgv.at_ {A:Around} {P:Program} {w:World} {H:Hp} {h:Heap} (x:zgv A H) (ok:HOk P w H h):L3.ziC A h:=by
 rcases x with x | ⟨a,o,cls,head,vs,x1,x2,x3⟩
 ·exact .inl x
 ·exact .inr ⟨a,cls,head,x1,o,vs,(ok a _ x2).1,x3⟩
theorem Inv.handA {X:Cx} {pins:List (Addr×Obj)} {σ:St} {H:Hp} {s:Shared} (I:Inv X pins σ H s):zgv X.A H:=I.ok.hx.keep I.base.frzs
theorem Inv.hand {X:Cx} {pins:List (Addr×Obj)} {σ:St} {H:Hp} {s:Shared} (I:Inv X pins σ H s):L3.ziC X.A s.heap:=I.handA.at_ I.hok
theorem ziY {P:Program} {w:World} {K:W.Frag} {tg:Expr} (a it:Addr):zoI P w K tg (Itl K a) [it] it (fun i h=>h.IsListIter it a i) where
 mem:=by simp
 obj:=fun i h st b hb=>by
  have e:b=it:=by simpa using hb
  subst e
  obtain ⟨o,e,c,d⟩:=st
  exact ⟨o,e,fun v z=>by rw [d] at z;cases z⟩
 keep:=fun i h h' st k=>st.at fun o e=>k it (by simp) o e
 item:=by
  intro X hP hw hK i pins s σ H E I hf st hg
  subst hP hw hK
  obtain ⟨xs,x,hq,hx⟩:=hg
  obtain ⟨its,rv,p,hz⟩:=I.list hq
  obtain ⟨u,hu,ru⟩:=rv.get hx
  obtain ⟨f0,f1,f2,f3,f4,f5⟩:=hf it (by simp)
  refine wpAny_pyNext_list_item st p.isList (x:=u) (by simpa using hu) fun h' st' sb=> ?_
  have I1:Inv X pins σ H {s with heap:=h'}:=I.turned (t':=s.toks) (fun b o hb e=>(sb.2 b hb).trans e) f0 f1 f3 f4 f5
  obtain ⟨o,e,c,d⟩:=id st'
  exact ⟨u,rfl,znT (s:={s with heap:=h'}) e c d (by decide) ⟨x,H,I1,ru,⟨rfl,fun ys hy=>by rw [I.list_inj hy hq];exact hx⟩,st',fun b hb=>(hf b hb).1⟩⟩
 done:=by
  intro X hP hw hK i pins s σ H E I hf st hg
  subst hP hw hK
  obtain ⟨xs,hq,hx⟩:=hg
  obtain ⟨its,rv,p,hz⟩:=I.list hq
  obtain ⟨f0,f1,f2,f3,f4,f5⟩:=hf it (by simp)
  have hl:=rv.length
  exact L3.zh3 I.hand st p.isList (by simp;omega) fun h' eb=>⟨rfl,I.turned (t':=s.toks) (fun b o hb e=>eb b o hb e) f0 f1 f3 f4 f5⟩
 self:=fun _ _ _ _ _ st h=>wpAny_pyIter_listiter st h
theorem ziN {P:Program} {w:World} {K:W.Frag} {tg:Expr} (a it:Addr):zoI P w K tg (Itt K a) [it] it (fun i h=>h.IsTupleIter it a i) where
 mem:=by simp
 obj:=fun i h st b hb=>by
  have e:b=it:=by simpa using hb
  subst e
  obtain ⟨o,e,c,d⟩:=st
  exact ⟨o,e,fun v z=>by rw [d] at z;cases z⟩
 keep:=fun i h h' st k=>st.at fun o e=>k it (by simp) o e
 item:=by
  intro X hP hw hK i pins s σ H E I hf st hg
  subst hP hw hK
  obtain ⟨xs,x,hq,hx⟩:=hg
  obtain ⟨its,rv,p,hz⟩:=I.tuple hq
  obtain ⟨u,hu,ru⟩:=rv.get hx
  obtain ⟨f0,f1,f2,f3,f4,f5⟩:=hf it (by simp)
  refine wpAny_pyNext_tuple_item st (show s.heap.IsTuple a its.toArray from p) (x:=u) (by simpa using hu) fun h' st' sb=> ?_
  have I1:Inv X pins σ H {s with heap:=h'}:=I.turned (t':=s.toks) (fun b o hb e=>(sb.2 b hb).trans e) f0 f1 f3 f4 f5
  obtain ⟨o,e,c,d⟩:=id st'
  exact ⟨u,rfl,znT (s:={s with heap:=h'}) e c d (by decide) ⟨x,H,I1,ru,⟨rfl,fun ys hy=>by rw [I.tuple_inj hy hq];exact hx⟩,st',fun b hb=>(hf b hb).1⟩⟩
 done:=by
  intro X hP hw hK i pins s σ H E I hf st hg
  subst hP hw hK
  obtain ⟨xs,hq,hx⟩:=hg
  obtain ⟨its,rv,p,hz⟩:=I.tuple hq
  obtain ⟨f0,f1,f2,f3,f4,f5⟩:=hf it (by simp)
  have hl:=rv.length
  exact L3.zkG I.hand st (show s.heap.IsTuple a its.toArray from p) (by simp;omega) fun h' eb=>⟨rfl,I.turned (t':=s.toks) (fun b o hb e=>eb b o hb e) f0 f1 f3 f4 f5⟩
 self:=fun _ _ _ _ _ st h=>wpAny_pyIter_tupleiter st h
theorem ziB {P:Program} {w:World} {K:W.Frag} {tg:Expr} (it:Addr) (lo:Int) (n:Nat):zoI P w K tg (Itr lo n) [it] it (fun i h=>IsRangeIter h it (lo+(i:Nat)*1) ((n:Int) - (i:Nat)) 1) where
 mem:=by simp
 obj:=fun i h st b hb=>by
  have e:b=it:=by simpa using hb
  subst e
  exact ⟨_,st,fun v z=>by
    have z':Data.fields _=Data.cell v:=z
    cases z'⟩
 keep:=fun i h h' st k=>k it (by simp) _ st
 item:=by
  intro X hP hw hK i pins s σ H E I hf st hg
  subst hP hw hK
  obtain ⟨f0,f1,f2,f3,f4,f5⟩:=hf it (by simp)
  refine wpAny_pyNext_range_item st (by have:i<n:=hg;omega) fun h' st' kk=> ?_
  have e1:lo+(i:Nat)*1+1=lo+((i+1:Nat):Int)*1:=by omega
  have e2:(n:Int) - (i:Nat) - 1=(n:Int) - ((i+1:Nat):Int):=by omega
  rw [e1,e2] at st'
  have I1:Inv X pins σ H {s with heap:=h',toks:=s.toks+1}:=I.turned (fun b o hb e=>(kk.2 b hb).trans e) f0 f1 f3 f4 f5
  refine ⟨_,rfl,znT (s:={s with heap:=h',toks:=s.toks+1}) (n:="range_iterator") st' rfl rfl (by decide) ⟨.int (lo+i),H,I1,⟨s.toks,?_⟩,⟨rfl,rfl⟩,st',fun b hb=>(hf b hb).1⟩⟩
  rw [Int.mul_one]
 done:=by
  intro X hP hw hK i pins s σ H E I hf st hg
  subst hP hw hK
  obtain ⟨f0,f1,f2,f3,f4,f5⟩:=hf it (by simp)
  exact L3.zjw I.hand st (by have:n<=i:=hg;omega) fun h' eb=>⟨rfl,I.turned (t':=s.toks) (fun b o hb e=>eb b o hb e) f0 f1 f3 f4 f5⟩
 self:=fun _ _ _ _ _ st h=>wpAny_pyIter_rangeiter st h
section
variable {X:Cx} {tg:Expr}
theorem zlu {pins:List (Addr×Obj)} {σ:St} {H:Hp} {s:Shared} {R:It->Hp->Prop} {E:Value->Shared->Prop} {lo hi:Int} {t u v:Tok} {tk:Nat} (I:Inv X pins σ H s) (h1: -(2^62)<=lo) (h2:lo<2^62) (h3: -(2^62)<=hi) (h4:hi<2^62)
  (q:R (Itr lo (hi - lo).toNat) H):wpAny (model X.prog X.w) X.A (pyIter (.ref s.heap.objs.size)) (PIE X pins σ tg R) E {s with heap:=s.heap.push {cls:= .type "range",data:= .fields #[.int lo t,.int hi u,.int 1 v]},toks:=tk}:=by
 refine wpAny_pyIter_range (IsRange.new ..) (small_one h1 h2 h3 h4) ?_
 have I1:Inv X pins σ H {s with heap:=s.heap.push {cls:= .type "range",data:= .fields #[.int lo t,.int hi u,.int 1 v]},toks:=tk}:=I.kept fun b o e=>qag _ e
 refine ⟨(s.heap.push {cls:= .type "range",data:= .fields #[.int lo t,.int hi u,.int 1 v]}).objs.size,[(s.heap.push {cls:= .type "range",data:= .fields #[.int lo t,.int hi u,.int 1 v]}).objs.size],_,_,H,rfl,
   I1.kept (t':=tk) fun b o e=>qag _ e,ziB _ lo (hi - lo).toNat,?_,fun b hb=> ?_,q⟩
 ·have e1:lo+((0:Nat):Int)*1=lo:=by simp
  have e2:(((hi - lo).toNat:Nat):Int) - ((0:Nat):Int)=Builtin.Range.rangeSize lo hi 1:=by rw [rangeSize_one];split<;>omega
  show IsRangeIter _ _ (lo+((0:Nat):Int)*1) ((((hi - lo).toNat:Nat):Int) - ((0:Nat):Int)) 1
  rw [e1,e2]
  exact qar _ rfl
 ·have e:b=(s.heap.push {cls:= .type "range",data:= .fields #[.int lo t,.int hi u,.int 1 v]}).objs.size:=by simpa using hb
  subst e
  exact I1.fpOk (qaV _) (I1.hok.fresh (qaV _))
noncomputable def zsa (ta:TA):TI:=fun σ H R=>ta σ H fun vs H1=> ∃ j:Int,vs=[.int j]/\ -(2^62)<=j/\j<2^62/\R (Itr 0 j.toNat) H1
theorem zi6 {a:Expr} {ta:TA} {p pos:Pos} (hg:Gl X "range") (hm:X.mg "range"=none) (ha:PA X [a] ta) (hs:starEach [a] X.env=[(false,eval a X.env)]:=by rfl):PI X tg (.Call (.Name "range" p) [a] [] pos) (zsa ta):=by
 intro pins s σ H R I h
 refine Call_ (zgG I hg hm boot_range (PyProof.Rows.callWith_type1 (thn (ha pos pins s σ H _ I h) fun us s1 ⟨vs,H1,I1,r1,q1⟩=> ?_) hs rfl))
 obtain ⟨j,e,q1,q2,q⟩:=q1
 subst e
 cases r1 with
 | cons r rr=>
  cases rr
  obtain ⟨t,rfl⟩:=r
  exact call_range_1 (zlu I1 (by omega) (by omega) q1 q2 (by simpa using q))
noncomputable def ztz (wi:TI) (g:TG) (tb:TS):TS:=fun D σ H=>wi σ H fun J H1=> ∃ W:Nat->Nat->St->Hp->Prop,(∃ m,W 0 m σ H1)/\ ∀ i m σ H,W i m σ H->
 (J.stop i H/\D.nx σ H)\/(J.go i H/\ ∃ N:St->Hp->Prop,(∀ σ' H',N σ' H'-> ∃ m',m'<m/\W (i+1) m' σ' H')/\ ∀ x H',J.yld i H x H'->g x σ H' fun σ2 H2=>tb {D with nx:=N,ct:=N,bk:=D.nx} σ2 H2)
noncomputable def zgJ (fp:List Addr) (h:Heap):List (Addr×Obj):=fp.filterMap fun b=>(h.get? b).map fun o=>(b,o)
theorem zc5 {fp:List Addr} {h:Heap} {b:Addr} {o:Obj} (hb:b∈fp) (e:h.get? b=some o):(b,o)∈zgJ fp h:=List.mem_filterMap.mpr ⟨b,hb,by rw [e];rfl⟩
theorem zks {fp:List Addr} {h:Heap} {p:Addr×Obj} (hp:p∈zgJ fp h):p.1∈fp/\h.get? p.1=some p.2:=by
 obtain ⟨b,hb,e⟩:=List.mem_filterMap.mp hp
 cases q:h.get? b with
 | none=>rw [q] at e;cases e
 | some o=>
  rw [q] at e
  have e':(b,o)=p:=Option.some.inj e
  subst e'
  exact ⟨hb,q⟩
theorem Inv.pinned {pins:List (Addr×Obj)} {σ:St} {H:Hp} {s:Shared} {fp:List Addr} (I:Inv X pins σ H s) (hf: ∀ b∈fp,ziS X pins H b) (ho: ∀ b∈fp, ∃ o,s.heap.get? b=some o/\ ∀ v,o.data≠ .cell v):Inv X (pins++zgJ fp s.heap) σ H s:=
 I.pins_of fun p hp=>(qaK.mp hp).elim (fun z=>I.pin p (qak _ z)) fun z=>by
  obtain ⟨hb,e⟩:=zks z
  obtain ⟨f0,f1,f2,_⟩:=hf p.1 hb
  obtain ⟨o,e',d⟩:=ho p.1 hb
  rw [e] at e';cases e'
  exact ⟨e,f0,f1,f2,d⟩
theorem Inv.unpinned {pins pl:List (Addr×Obj)} {σ:St} {H:Hp} {s:Shared} (I:Inv X (pins++pl) σ H s):Inv X pins σ H s:=I.pins_of fun p hp=>I.pin p (qak _ (List.mem_append_left _ hp))
theorem zqP {iter:Expr} {body:List Stmt} {wi:TI} {g:TG} {tb:TS} {pos:Pos} (hp:PassesOwn (model X.prog X.w) X.A X.env X.xe) (hc:X.calm=true) (hi:PI X tg iter wi) (hg:PG X tg g) (hb:PSs X body tb)
  (hs: ∀ x,foldedSetIterable iter X.env x=pure x:=by intro _;rfl):PS X (.For tg iter body [] pos) (ztz wi g tb):=by
 intro pins s σ H D I h
 refine wpAny_For (thn (hi pins s σ H _ I h) fun v s1 h1=>thn h1 fun itv s2 h2=> ?_) hs
 obtain ⟨it,fp,tn,J,H2,e,I2,T,st2,f2,W,⟨m0,w0⟩,turn⟩:=h2
 subst e
 have stat: ∀ {H':Hp},(∀ b∈fp,H' b=none)-> ∀ b∈fp,ziS X pins H' b:=fun hn b hb=>⟨hn b hb,(f2 b hb).2⟩
 refine codeAny_forLoop_any (fun n s'=> ∃ i σ' H',Inv X pins σ' H' s'/\tn i s'.heap/\(∀ b∈fp,H' b=none)/\W i n σ' H') ?_ m0 ⟨0,σ,H2,I2,st2,fun b hb=>(f2 b hb).1,w0⟩
 rintro n s3 ⟨i,σ3,H3,I3,st3,fr3,w3⟩
 rcases turn i n σ3 H3 w3 with ⟨stop,qn⟩ | ⟨go,N,hN,step⟩
 ·refine wpAny_passesOwn hp (thn (T.done X rfl rfl rfl i pins s3 σ3 H3 X.xe I3 (stat fr3) st3 stop) fun r s4 ⟨hr,I4⟩=> ?_)
  subst hr
  exact wpAny_execs_nil ⟨σ3,H3,I4,qn⟩
 ·refine wpAny_passesOwn hp (thn (T.item X rfl rfl rfl i pins s3 σ3 H3 X.xe I3 (stat fr3) st3 go) fun r s4 ⟨u,hr,h4⟩=> ?_)
  subst hr
  refine wpAny_passesOwn hp (thn h4 fun _ s5 ⟨x,H5,I5,r5,y5,st5,fr5⟩=> ?_)
  have I5':=I5.pinned (stat fr5) (T.obj _ _ st5)
  refine wpAny_passesOwn hp (thn (hg _ s5 σ3 H5 x u _ I5' r5 (step x H5 y5)) fun _ s6 ⟨σ6,H6,I6,q6⟩=> ?_)
  refine wpAny_passesOwn hp (thn (hb _ s6 σ6 H6 _ I6 q6) fun f s7 q7=> ?_)
  have again: ∀ {σ7:St} {H7:Hp},Inv X (pins++zgJ fp s5.heap) σ7 H7 s7->N σ7 H7-> ∃ m,m<n/\ ∃ i σ' H',Inv X pins σ' H' s7/\tn i s7.heap/\(∀ b∈fp,H' b=none)/\W i m σ' H':=fun {σ7 H7} I7 n7=>by
   obtain ⟨m',hm,w7⟩:=hN σ7 H7 n7
   refine ⟨m',hm,i+1,σ7,H7,I7.unpinned,T.keep _ _ _ st5 fun b hb o e=>(I7.pin (b,o) (qak _ (qak _ (zc5 hb e)))).1,fun b hb=> ?_,w7⟩
   obtain ⟨o,e,d⟩:=T.obj _ _ st5 b hb
   exact (I7.pin (b,o) (qak _ (qak _ (zc5 hb e)))).2.1
  cases f with
  | next=>obtain ⟨σ7,H7,I7,n7⟩:=q7;exact again I7 n7
  | cont=>obtain ⟨σ7,H7,I7,n7⟩:=q7;exact again I7 n7
  | brk=>obtain ⟨σ7,H7,I7,q7⟩:=q7;exact ⟨σ7,H7,I7.unpinned,q7⟩
  | ret v=>obtain ⟨x7,σ7,H7,I7,r7,q7⟩:=q7;exact ⟨x7,σ7,H7,I7.unpinned,r7,q7⟩
end
noncomputable abbrev R2:=V->V->Hp->VK->Prop
def OpR (X:Cx) (f:Value->Value->Sem Value) (r:R2):Prop:=
 ∀ (pins:List (Addr×Obj)) (s:Shared) (σ:St) (H:Hp) (x y:V) (v u:Value) (Q:VK),Inv X pins σ H s->zbE x v->zbE y u->r x y H Q->
  wpAny (model X.prog X.w) X.A (f v u) (EP X pins σ Q) X.xe s
def UnR (X:Cx) (f:Value->Sem Value) (r:V->Hp->VK->Prop):Prop:=
 ∀ (pins:List (Addr×Obj)) (s:Shared) (σ:St) (H:Hp) (x:V) (v:Value) (Q:VK),Inv X pins σ H s->zbE x v->r x H Q->
  wpAny (model X.prog X.w) X.A (f v) (EP X pins σ Q) X.xe s
def zaJ (X:Cx) (f:Value) (r:List V->Hp->VK->Prop):Prop:=
 ∀ (pins:List (Addr×Obj)) (s:Shared) (σ:St) (H:Hp) (xs:List V) (us:List Value) (Q:VK),Inv X pins σ H s->zaZ xs us->r xs H Q->
  wpAny (model X.prog X.w) X.A (call f us) (EP X pins σ Q) X.xe s
noncomputable def tOp (r:R2) (ta tb:TE):TE:=fun σ H Q=>ta σ H fun x H1=>tb σ H1 fun y H2=>r x y H2 Q
noncomputable def tUn (r:V->Hp->VK->Prop) (ta:TE):TE:=fun σ H Q=>ta σ H fun x H1=>r x H1 Q
noncomputable def rI (C:Int->Int->Prop) (g:Int->Int->V):R2:=fun x y H Q=> ∃ i j,x= .int i/\y= .int j/\C i j/\Q (g i j) H
noncomputable def rI0 (g:Int->Int->V):R2:=fun x y H Q=> ∃ i j,x= .int i/\y= .int j/\Q (g i j) H
noncomputable def rU (g:Int->V):V->Hp->VK->Prop:=fun x H Q=> ∃ i,x= .int i/\Q (g i) H
section
variable {X:Cx} {a b c:Expr} {ta tb tc:TE} {pos:Pos}
theorem zss (ha:PE X a ta) (hb:PE X b tb) {pins:List (Addr×Obj)} {s:Shared} {σ:St} {H:Hp} {R:V->V->Hp->Prop} (I:Inv X pins σ H s)
  (h:ta σ H fun x H1=>tb σ H1 fun y H2=>R x y H2) {Q:Value->Shared->Prop} {f:Value->Value->Sem Value}
  (hf: ∀ v u s2 x y H2,Inv X pins σ H2 s2->zbE x v->zbE y u->R x y H2->wpAny (model X.prog X.w) X.A (f v u) Q X.xe s2):
  wpAny (model X.prog X.w) X.A (eval a X.env) (fun v s₁=>wpAny (model X.prog X.w) X.A (eval b X.env) (fun u s₂=>wpAny (model X.prog X.w) X.A (f v u) Q X.xe s₂) X.xe s₁) X.xe s:=by
 refine thn (ha pins s σ H _ I h) fun v s1 ⟨x,H1,I1,r1,q1⟩=> ?_
 refine thn (hb pins s1 σ H1 _ I1 q1) fun u s2 ⟨y,H2,I2,r2,q2⟩=> ?_
 exact hf v u s2 x y H2 I2 r1 r2 q2
theorem zrN {op:Operator} {r:R2} (ho:OpR X (binaryOp op) r) (ha:PE X a ta) (hb:PE X b tb):PE X (.BinOp a op b pos) (tOp r ta tb):=by
 intro pins s σ H Q I h
 exact wpAny_BinOp (zss ha hb I h fun v u s2 x y H2 I2 rx ry q=>ho pins s2 σ H2 x y v u Q I2 rx ry q)
theorem zpT {op:UnaryOp} {r:V->Hp->VK->Prop} (ho:UnR X (unaryOp op) r) (ha:PE X a ta):PE X (.UnaryOp op a pos) (tUn r ta):=by
 intro pins s σ H Q I h
 exact UnaryOp_ (thn (ha pins s σ H _ I h) fun v s1 ⟨x,H1,I1,r1,q1⟩=>ho pins s1 σ H1 x v Q I1 r1 q1)
theorem opI {f:Value->Value->Sem Value} {C:Int->Int->Prop} {g:Int->Int->Int}
  (rule: ∀ (i j:Int) (t u:Tok) (s:Shared) (Q:Value->Shared->Prop) (E:Value->Shared->Prop),C i j->Q (.int (g i j) s.toks) {s with toks:=s.toks+1}->wpAny (model X.prog X.w) X.A (f (.int i t) (.int j u)) Q E s):
  OpR X f (rI C fun i j=> .int (g i j)):=by
 intro pins s σ H x y v u Q I rx ry h
 obtain ⟨i,j,rfl,rfl,hc,q⟩:=h
 obtain ⟨t,rfl⟩:=rx
 obtain ⟨t',rfl⟩:=ry
 exact rule i j t t' s _ _ hc ⟨.int (g i j),H,I.tok _,⟨_,rfl⟩,q⟩
theorem zr5 {f:Value->Value->Sem Value} {g:Int->Int->Int}
  (rule: ∀ (i j:Int) (t u:Tok) (s:Shared) (Q:Value->Shared->Prop) (E:Value->Shared->Prop),Q (.int (g i j) s.toks) {s with toks:=s.toks+1}->wpAny (model X.prog X.w) X.A (f (.int i t) (.int j u)) Q E s):
  OpR X f (rI0 fun i j=> .int (g i j)):=by
 intro pins s σ H x y v u Q I rx ry h
 obtain ⟨i,j,rfl,rfl,q⟩:=h
 obtain ⟨t,rfl⟩:=rx
 obtain ⟨t',rfl⟩:=ry
 exact rule i j t t' s _ _ ⟨.int (g i j),H,I.tok _,⟨_,rfl⟩,q⟩
theorem zsx {f:Value->Value->Sem Value} {g:Int->Int->Bool}
  (rule: ∀ (i j:Int) (t u:Tok) (s:Shared) (Q:Value->Shared->Prop) (E:Value->Shared->Prop),Q (.bool (g i j)) s->wpAny (model X.prog X.w) X.A (f (.int i t) (.int j u)) Q E s):
  OpR X f (rI0 fun i j=> .bl (g i j)):=by
 intro pins s σ H x y v u Q I rx ry h
 obtain ⟨i,j,rfl,rfl,q⟩:=h
 obtain ⟨t,rfl⟩:=rx
 obtain ⟨t',rfl⟩:=ry
 exact rule i j t t' s _ _ ⟨.bl (g i j),H,I,rfl,q⟩
def zrm (i j:Int):Prop:=0<=j/\j<=1000000/\i.natAbs<2^64
def zsH (i j:Int):Prop:=(-(2^64)<i/\i<2^64)\/(-(2^64)<j/\j<2^64)
theorem zsH.ok {i j:Int} (h:zsH i j):IntMulOk i j:=by
 rcases h with ⟨h1,h2⟩ | ⟨h1,h2⟩
 ·exact .of_left (intBits_le_64 h1 h2)
 ·exact .of_right (intBits_le_64 h1 h2)
theorem two_pow_nn (k:Nat):(0:Int)<=2^k:=by
 rw [two_pow_cast]
 exact Int.natCast_nonneg _
theorem zqi:OpR X (binaryOp .Add) (rI0 fun i j=> .int (i+j)):=zr5 fun _ _ _ _ _ _ _ q=>add_int q
theorem zpr:OpR X (binaryOp .Sub) (rI0 fun i j=> .int (i - j)):=zr5 fun _ _ _ _ _ _ _ q=>sub_int q
theorem zoS:OpR X (binaryOp .Mult) (rI zsH fun i j=> .int (i*j)):=opI fun _ _ _ _ _ _ _ hc q=>mul_int q hc.ok
theorem zpY:OpR X (binaryOp .Mod) (rI (fun _ j=>0<j) fun i j=> .int (i % j)):=opI fun i j _ _ _ _ _ hc q=>by
 have h1:(0:Int)<j:=hc
 exact mod_int' (by omega) (by rw [Int.fmod_eq_emod_of_nonneg i (by omega)];exact q)
theorem zq6:OpR X (binaryOp .Pow) (rI zrm fun i j=> .int (i^j.toNat)):=opI fun _ _ _ _ _ _ _ hc q=>pow_int_small hc.1 hc.2.1 hc.2.2 q
theorem zrj:OpR X (binaryOp .LShift) (rI zrm fun i j=> .int (i*2^j.toNat)):=opI fun _ _ _ _ _ _ _ hc q=>lshift_int_small hc.1 hc.2.1 hc.2.2 q
theorem zo4:OpR X (binaryOp .RShift) (rI (fun _ j=>0<=j) fun i j=> .int (i / 2^j.toNat)):=opI fun i j _ _ _ _ _ hc q=>
 rshift_int hc (by rw [Int.fdiv_eq_ediv_of_nonneg i (two_pow_nn _)];exact q)
theorem zql:OpR X (binaryOp .BitAnd) (rI0 fun i j=> .int (Builtin.bitAnd i j)):=zr5 fun _ _ _ _ _ _ _ q=>and_int q
theorem unI {f:Value->Sem Value} {g:Int->Int}
  (rule: ∀ (i:Int) (t:Tok) (s:Shared) (Q:Value->Shared->Prop) (E:Value->Shared->Prop),Q (.int (g i) s.toks) {s with toks:=s.toks+1}->wpAny (model X.prog X.w) X.A (f (.int i t)) Q E s):
  UnR X f (rU fun i=> .int (g i)):=by
 intro pins s σ H x v Q I rx h
 obtain ⟨i,rfl,q⟩:=h
 obtain ⟨t,rfl⟩:=rx
 exact rule i t s _ _ ⟨.int (g i),H,I.tok _,⟨_,rfl⟩,q⟩
theorem zmv:UnR X (unaryOp .USub) (rU fun i=> .int (-i)):=unI fun _ _ _ _ _ q=>neg_int q
end
section
variable {X:Cx} {a b c:Expr} {ta tb tc:TE} {pos:Pos}
theorem zpR {pins:List (Addr×Obj)} {σ:St} {H:Hp} {s:Shared} {Q:VK} {k k':Bool} (I:Inv X pins σ H s) (q:Q (.bl k) H) (e:k=k'):EP X pins σ Q (.bool k') s:=by
 subst e
 exact ⟨.bl k,H,I,rfl,q⟩
theorem zr2:OpR X (compareOp .Lt) (rI0 fun i j=> .bl (decide (i<j))):=zsx fun _ _ _ _ _ _ _ q=>lt_int q
theorem zsE:OpR X (compareOp .Gt) (rI0 fun i j=> .bl (decide (j<i))):=zsx fun _ _ _ _ _ _ _ q=>gt_int q
theorem zr0:OpR X (compareOp .GtE) (rI0 fun i j=> .bl (decide (j<=i))):=zsx fun _ _ _ _ _ _ _ q=>ge_int q
theorem OpR.or {f:Value->Value->Sem Value} {r r':R2} (h:OpR X f r) (h':OpR X f r'):OpR X f (fun x y H Q=>r x y H Q\/r' x y H Q):=by
 intro pins s σ H x y v u Q I rx ry q
 rcases q with q | q
 ·exact h pins s σ H x y v u Q I rx ry q
 ·exact h' pins s σ H x y v u Q I rx ry q
theorem znf {op:CmpOp} {r:R2} (ho:OpR X (compareOp op) r) (ha:PE X a ta) (hb:PE X b tb) (hm:behindInMarks op b=false):PE X (.Compare a [op] [b] pos) (tOp r ta tb):=by
 intro pins s σ H Q I h
 exact wpAny_Compare1 (zss ha hb I h fun v u s2 x y H2 I2 rx ry q=>ho pins s2 σ H2 x y v u Q I2 rx ry q) hm
noncomputable def zsF (t:TE):TT:=fun σ H Q=>t σ H fun x H'=> ∃ k,x= .bl k/\Q k H'
theorem znl {op:CmpOp} {r:R2} (ho:OpR X (compareOp op) r) (ha:PE X a ta) (hb:PE X b tb) (hm:behindInMarks op b=false):PT X (.Compare a [op] [b] pos) (zsF (tOp r ta tb)):=by
 intro pins s σ H Q I h
 refine wpAny_isTrue_Compare1 (thn (ha pins s σ H _ I h) fun v s1 ⟨x,H1,I1,r1,q1⟩=>thn (hb pins s1 σ H1 _ I1 q1) fun u s2 ⟨y,H2,I2,r2,q2⟩=>
   thn (ho pins s2 σ H2 x y v u _ I2 r1 r2 q2) fun c s3 ⟨z,H3,I3,r3,k,e,q3⟩=> ?_) hm
 subst e
 cases r3
 exact wpAny_truthy_bool ⟨H3,I3,q3⟩
theorem zhr:(sizeLine:Nat)<2^63:=by rw [sizeLine_eq];decide
theorem zii:OpR X (binaryOp .Add) (fun x y H Q=> ∃ i j,x= .str i/\y= .str j/\i.length+j.length<=sizeLine/\Q (.str (i++j)) H):=by
 intro pins s σ H x y v u Q I rx ry h
 obtain ⟨i,j,rfl,rfl,hz,q⟩:=h
 obtain ⟨t,rfl⟩:=rx
 obtain ⟨t',rfl⟩:=ry
 exact add_str (fun t' tk=>⟨.str (i++j),H,I.tok _,⟨_,rfl⟩,q⟩) hz
theorem zdI {x:V} {us:List Value} (r:zaZ [x] us): ∃ u,us=[u]/\zbE x u:=by
 cases r with
 | cons r1 r2=>cases r2;exact ⟨_,rfl,r1⟩
theorem zqD {x y:V} {us:List Value} (r:zaZ [x,y] us): ∃ u w',us=[u,w']/\zbE x u/\zbE y w':=by
 cases r with
 | cons r1 r2=>
  cases r2 with
  | cons r3 r4=>cases r4;exact ⟨_,_,rfl,r1,r3⟩
theorem zjl (hc:X.calm=true):zaJ X (.builtin "max") (fun xs H Q=> ∃ i j,xs=[.int i,.int j]/\Q (.int (if j>i then j else i)) H):=by
 intro pins s σ H xs us Q I r h
 obtain ⟨i,j,rfl,q⟩:=h
 obtain ⟨u,w',rfl,⟨t,rfl⟩,⟨t',rfl⟩⟩:=zqD r
 refine max_two_ints (I.ok.hd hc) fun h' tk k=>⟨_,H,I.kept k,?_,q⟩
 by_cases hj:j>i
 ·rw [qa4 hj,qa4 hj];exact ⟨_,rfl⟩
 ·rw [qa5 hj,qa5 hj];exact ⟨_,rfl⟩
theorem zku (hc:X.calm=true):zaJ X (.builtin "min") (fun xs H Q=> ∃ i j,xs=[.int i,.int j]/\Q (.int (if j<i then j else i)) H):=by
 intro pins s σ H xs us Q I r h
 obtain ⟨i,j,rfl,q⟩:=h
 obtain ⟨u,w',rfl,⟨t,rfl⟩,⟨t',rfl⟩⟩:=zqD r
 refine min_two_ints (I.ok.hd hc) fun h' tk k=>⟨_,H,I.kept k,?_,q⟩
 by_cases hj:j<i
 ·rw [qa4 hj,qa4 hj];exact ⟨_,rfl⟩
 ·rw [qa5 hj,qa5 hj];exact ⟨_,rfl⟩
theorem zjh:zaJ X (.type "int") (fun xs H Q=>(∃ i,xs=[.int i]/\Q (.int i) H)\/ ∃ k,xs=[.bl k]/\Q (.int (if k then 1 else 0)) H):=by
 intro pins s σ H xs us Q I r h
 rcases h with ⟨i,rfl,q⟩ | ⟨k,rfl,q⟩
 ·obtain ⟨u,rfl,t,rfl⟩:=zdI r
  exact call_int_int ⟨.int i,H,I,⟨_,rfl⟩,q⟩
 ·obtain ⟨u,rfl,r1⟩:=zdI r
  cases r1
  exact call_int_bool ⟨.int (if k then 1 else 0),H,I.tok _,⟨_,rfl⟩,q⟩
theorem zgw:zaJ X (.type "str") (fun xs H Q=> ∃ i,xs=[.int i]/\i.natAbs.log2<1920/\Q (.str (toString i)) H):=by
 intro pins s σ H xs us Q I r h
 obtain ⟨i,rfl,hz,q⟩:=h
 obtain ⟨u,rfl,t,rfl⟩:=zdI r
 exact PySem.P.str_of_int hz ⟨.str _,H,I.tok _,⟨_,rfl⟩,q⟩
end
structure zr9 (h:Heap) (x dx C:Addr) (mA:Str->Option Value):Prop where
 obj:h.get? x=some (W.instObj C dx)
 ns:h.Ns1 dx mA
 ne:dx≠x
theorem zkB {h:Heap} {dx:Addr} {mA:Str->Option Value} (n:h.Ns1 dx mA): ∃ od,h.get? dx=some od/\ ∀ name,W.lookIn name od=some (mA name):=by
 obtain ⟨o,es,ep,ho,hd,hk,_,hm⟩:=n
 refine ⟨o,ho,fun name=> ?_⟩
 have e:=hm name
 unfold nsFind findBy at e
 rw [<- Array.find?_toList] at e
 unfold W.lookIn
 rw [hd]
 dsimp only
 split
 ·rename_i y q
  rw [q] at e
  exact congrArg some e
 ·rename_i q
  rw [q] at e
  have a:es.toList.any (·.refKey)=false:=by
   rw [List.any_eq_false]
   intro y hy
   obtain ⟨z,t,hkey⟩:=hk y (Array.mem_toList_iff.mp hy)
   simp [DictEntry.refKey,hkey]
  have a': ¬es.toList.any (·.refKey)=true:=by rw [a];exact Bool.false_ne_true
  rw [qa5 a']
  exact congrArg some e
theorem zr9.look {h:Heap} {x dx C:Addr} {mA:Str->Option Value} (I:zr9 h x dx C mA): ∃ od,W.InstAt h x (W.instObj C dx) C (some od)/\ ∀ name,W.lookIn name od=some (mA name):=
 let ⟨od,ho,hl⟩:=zkB I.ns
 ⟨od,⟨I.obj,rfl,rfl,ho⟩,hl⟩
section
variable {prog:Program} {w:World} {A:Around} {E:Value->Shared->Prop} {s:Shared} {K:W.Frag} {x dx C f:Addr} {mA:Str->Option Value} {name:Str} {v:Value}
end
section
variable {P:Program} {w:World} {H H':Hp} {h h':Heap} {a C dx:Addr} {fs fs':List (Str×V)}
theorem znW (hok:HOk P w H h) (e:H a=some (.ins C dx fs)): ∃ mA,zr9 h a dx C mA/\(∀ f,zsD (fs.lookup f) (mA f))/\PySem.Within mA (fs.map (·.1))/\fs.length<=1000/\H dx=some (.own a):=by
 obtain ⟨d,z,ne,ob,mA,n,r,q⟩:=(show zbp P w H h a (.ins C dx fs) from hok a _ e)
 exact ⟨mA,⟨ob,n,ne⟩,r,q,z,d⟩
end
structure Cls (K:W.Frag) (C:Addr):Prop where
 pg:W.plainGet K C Str.empty=true
 hd:W.hasDictIn K C=true
 po:W.plainOver K C=true
 sa:W.findIn K (.ref C) "__setattr__"=some (some (.builtin "object.__setattr__"))
theorem Cls.get {K:W.Frag} {C:Addr} (c:Cls K C) (f:Str):W.plainGet K C f=true:=c.pg
structure Con (K:W.Frag) (C:Addr) (f:Str) (v:V) (u:Value):Prop where
 at_:W.findIn K (.ref C) f=some (some u)
 rel:zbE v u
 get:W.specialIn K u "__get__"=some none
 cp:W.copiedNames.contains f=false
structure ztG (K:W.Frag) (C:Addr) (m:Str) (f:Addr):Prop where
 at_:W.findIn K (.ref C) m=some (some (.ref f))
 fn:W.isFn K (.ref f)=true
 kp:W.keepIn K (.ref f)=true
section
variable {X:Cx} {pins:List (Addr×Obj)} {σ:St} {H:Hp} {s:Shared} {a C dx:Addr} {fs:List (Str×V)} {f:Str} {v:V} {A:Around} {E:Value->Shared->Prop}
theorem Inv.made (I:Inv X pins σ H s):Inv X pins σ (upd (upd H s.heap.objs.size (.own (s.heap.objs.size+1))) (s.heap.objs.size+1) (.ins C s.heap.objs.size []))
  {s with heap:=(s.heap.push W.emptyDict).push (W.instObj C s.heap.objs.size)}:=by
 have e1:(s.heap.push W.emptyDict).get? s.heap.objs.size=some W.emptyDict:=qar s.heap rfl
 have e2:((s.heap.push W.emptyDict).push (W.instObj C s.heap.objs.size)).get? (s.heap.objs.size+1)=some (W.instObj C s.heap.objs.size):=by
  have:=qar (s.heap.push W.emptyDict) (o:=W.instObj C s.heap.objs.size) rfl
  rwa [qaL] at this
 have e3:(s.heap.push W.emptyDict).Ns s.heap.objs.size (fun _=>none):=⟨W.emptyDict, #[],_,e1,rfl,(fun e he=>absurd he (by simp)),fun _=>rfl⟩
 have I1:=I.laid (a:=s.heap.objs.size) (o:= .own (s.heap.objs.size+1)) (h':=s.heap.push W.emptyDict) (t':=s.toks) (fun b u q=>qag _ q) (qaV _) ⟨_,e1⟩
 refine I1.laid (a:=s.heap.objs.size+1) (o:= .ins C s.heap.objs.size []) (t':=s.toks) (fun b u q=>qag _ q) (Nat.le_of_eq (qaL _ _)) ?_
 have ne:s.heap.objs.size≠s.heap.objs.size+1:=qaR (Nat.lt_succ_self _)
 refine ⟨by rw [zaw ne,zaU],Nat.zero_le _,ne,e2,fun _=>none,(Heap.Ns1.of_empty e3).at fun o q=>qag _ q,fun _=>True.intro,fun y hy=>absurd rfl hy⟩
end
section
variable {X:Cx} {o e value:Expr} {f:Str} {pos pos' tpos:Pos} {ta tv:TE}
end
section
variable {X:Cx} {pins:List (Addr×Obj)} {σ:St} {H:Hp} {s:Shared} {A:Around} {E:Value->Shared->Prop} {Q:Value->Shared->Prop} {c:Value} {b:Bool}
inductive zh0 (K:W.Frag) (H:Hp):V->Value->Prop where
 | non:zh0 K H .non (.type "NoneType")
 | bl (x:Bool):zh0 K H (.bl x) (.type "bool")
 | int (i:Int):zh0 K H (.int i) (.type "int")
 | str (x:Str):zh0 K H (.str x) (.type "str")
 | flt (x:UInt64):zh0 K H (.flt x) (.type "float")
 | lst {a:Addr} {xs:List V} (e:H a=some (.lst xs)):zh0 K H (.ref a) (.type "list")
 | frz {a:Addr} {o:Obj} {xs:List V} (e:H a=some (.frz o (.lst xs))):zh0 K H (.ref a) (.type "list")
 | tup {a:Addr} {xs:List V} (e:H a=some (.tup xs)):zh0 K H (.ref a) (.type "tuple")
 | dK {a:Addr} {kvs:List (Key×V)} (e:H a=some (.dK kvs)):zh0 K H (.ref a) (.type "dict")
 | dT {a:Addr} {kvs:List (List Key×V)} (e:H a=some (.dT kvs)):zh0 K H (.ref a) (.type "dict")
 | ins {a C dx:Addr} {fs:List (Str×V)} (e:H a=some (.ins C dx fs)) (cl:Cls K C) (ha:W.findIn K (.ref C) "__class__"=some (some (.builtin "object.__class__")))
   (hn:W.specialIn K (.builtin "object.__class__") "__get__"=some (some (.builtin "getset_descriptor.__get__"))) (htk:W.takesIn K (.builtin "object.__class__")=some true)
   (hm:W.mroIn K C (.type "object")=some true):zh0 K H (.ref a) (.ref C)
theorem zkr {x:V} {u t:Value} (I:Inv X pins σ H s) (rx:zbE x u) (ty:zh0 X.K H x t) (e:W.kitOne X.K t c=some b) (h: ∀ tk,Q (.bool b) {s with toks:=tk}):
  wpAny (model X.prog X.w) A (call (.builtin "isinstance") [u,c]) Q E s:=by
 cases ty with
 | non=>cases (show u=Value.none from rx);exact W.kia_one W.kitx_none I.kIn True.intro e (fun z=>nomatch z) h
 | bl y=>cases (show u=Value.bool y from rx);exact W.kia_one W.kitx_bool I.kIn True.intro e (fun z=>nomatch z) h
 | int i=>obtain ⟨t,q⟩:=(show ∃ t,u=Value.int i t from rx);cases q;exact W.kia_one W.kitx_int I.kIn True.intro e (fun z=>nomatch z) h
 | str y=>obtain ⟨t,q⟩:=(show ∃ t,u=Value.str y t from rx);cases q;exact W.kia_one W.kitx_str I.kIn True.intro e (fun z=>nomatch z) h
 | flt y=>obtain ⟨t,q⟩:=(show ∃ t,u=Value.float y t from rx);cases q;exact W.kia_one W.kitx_float I.kIn True.intro e (fun z=>nomatch z) h
 | @lst a xs ea=>
  cases (show u=Value.ref a from rx)
  obtain ⟨_,_,n,_,h1⟩:=(show zbp X.prog X.w H s.heap a (.lst xs) from I.hok a _ ea)
  exact W.kia_one W.kitx_list I.kIn ⟨_,h1,rfl⟩ e (fun z=>nomatch z) h
 | @frz a ob xs ea=>
  cases (show u=Value.ref a from rx)
  obtain ⟨_,_,_,n,_,h1⟩:=(show zbp X.prog X.w H s.heap a (.frz ob (.lst xs)) from I.hok a _ ea)
  exact W.kia_one W.kitx_list I.kIn ⟨_,h1,rfl⟩ e (fun z=>nomatch z) h
 | @tup a xs ea=>
  cases (show u=Value.ref a from rx)
  obtain ⟨_,_,_,p⟩:=(show zbp X.prog X.w H s.heap a (.tup xs) from I.hok a _ ea)
  obtain ⟨o,h1,h2,_⟩:=p
  exact W.kia_one W.kitx_tuple I.kIn ⟨o,h1,h2⟩ e (fun z=>nomatch z) h
 | @dK a kvs ea=>
  cases (show u=Value.ref a from rx)
  obtain ⟨_,_,vs,_,p⟩:=(show zbp X.prog X.w H s.heap a (.dK kvs) from I.hok a _ ea)
  obtain ⟨o,es,ep,h1,h2,_⟩:=p
  exact W.kia_one W.kitx_dict I.kIn ⟨o,h1,h2.1⟩ e (fun z=>nomatch z) h
 | @dT a kvs ea=>
  cases (show u=Value.ref a from rx)
  obtain ⟨_,_,xs,_,o,es,ep,h1,h2,_⟩:=(show zbp X.prog X.w H s.heap a (.dT kvs) from I.hok a _ ea)
  exact W.kia_one W.kitx_dict I.kIn ⟨o,h1,h2.1⟩ e (fun z=>nomatch z) h
 | @ins a C dx fs ea cl ha hn htk hm=>
  cases (show u=Value.ref a from rx)
  obtain ⟨mA,O,_⟩:=znW I.hok ea
  obtain ⟨od,J,_⟩:=O.look
  exact W.kia_one (W.kitx_own (cl.get _) cl.hd ha hn htk hm) I.kIn J e (fun z=>nomatch z) h
end
structure zdf (k:Nat) (A:Around):Prop where
 hd:A.handled=none
 dp:A.depth+3*k+5<recursionLimit
 un:A.units+16*k+200<cLine
theorem zdf.mono {j k:Nat} {A:Around} (r:zdf k A) (h:j<=k):zdf j A:=⟨r.hd,by have:=r.dp;omega,by have:=r.un;omega⟩
theorem zdf.deeper {k:Nat} {A:Around} (r:zdf (k+1) A) (env:Env):zdf k (A.deeper env):=
 ⟨r.hd,by have:=r.dp;show A.depth+1+3*k+5<_;omega,by have:=r.un;show A.units+3+16*k+200<_;omega⟩
theorem zdf.in1 {k:Nat} {A:Around} (r:zdf (k+1) A):zdf k A.in1:=
 ⟨r.hd,by have:=r.dp;show A.depth+3*k+5<_;omega,by have:=r.un;show A.units+1+16*k+200<_;omega⟩
theorem zdf.depth {k:Nat} {A:Around} (r:zdf k A):A.depth<recursionLimit:=by have:=r.dp;omega
theorem zdf.units {k:Nat} {A:Around} (r:zdf k A):A.units+64<cLine:=by have:=r.un;omega
noncomputable def zta:TA:=fun _ H Q=>Q [] H
noncomputable def zsM (ta:TE) (tr:TA):TA:=fun σ H Q=>ta σ H fun x H1=>tr σ H1 fun xs H2=>Q (x::xs) H2
section
variable {X:Cx} {e:Expr} {es:List Expr} {te:TE} {t:TA} {pos:Pos}
theorem zcS:PA X [] zta:=fun _ _ _ _ H Q I h=>Calls.spliced_nil ⟨[],H,I,.nil,h⟩
theorem zbm (ha:PE X e te) (hr:PA X es t) (hs:starEach (e::es) X.env=(false,eval e X.env)::starEach es X.env:=by rfl):PA X (e::es) (zsM te t):=by
 intro pos pins s σ H Q I h
 rw [hs]
 show wpAny _ _ (spliced ((false,eval e X.env)::backTo pos (starEach es X.env))) _ _ s
 refine Calls.spliced_cons (thn (ha pins s σ H _ I h) fun u s1 ⟨x,H1,I1,r1,q1⟩=> ?_)
 exact thn (hr pos pins s1 σ H1 _ I1 q1) fun us s2 ⟨xs,H2,I2,r2,q2⟩=>⟨x::xs,H2,I2,.cons r1 r2,q2⟩
noncomputable def ztc (t:TA):TE:=fun σ H Q=>t σ H fun xs H1=>xs.length<=sizeLine/\ ∀ p,H1 p=none->Q (.ref p) (upd H1 p (.tup xs))
noncomputable def zsZ (t:TA):TE:=fun σ H Q=>t σ H fun xs H1=>xs.length<=sizeLine/\ ∀ p,H1 p=none->Q (.ref p) (upd H1 p (.lst xs))
theorem zpb {x1} (h:PA X es t):PE X (.Tuple es x1 pos) (ztc t):=by
 intro pins s σ H Q I hq
 refine wpAny_Tuple_spliced (thn (h pos pins s σ H _ I hq) fun us s1 ⟨xs,H1,I1,r,z,q⟩=>⟨by rw [<- r.length];exact z,?_⟩)
 have hf:H1 s1.heap.objs.size=none:=I1.hok.fresh (qaV _)
 refine ⟨.ref s1.heap.objs.size,upd H1 s1.heap.objs.size (.tup xs),I1.laid (t':=s1.toks) (fun b u e=>qag _ e) (qaV _) ?_,rfl,q _ hf⟩
 exact ⟨z,us,r,⟨_,qar _ rfl,rfl,_,rfl⟩⟩
theorem zmD (h:PA X es t):PE X (.List es pos) (zsZ t):=by
 intro pins s σ H Q I hq
 refine wpAny_List_spliced (thn (h pos pins s σ H _ I hq) fun us s1 ⟨xs,H1,I1,r,z,q⟩=>⟨by rw [<- r.length];exact z,?_⟩)
 have hf:H1 s1.heap.objs.size=none:=I1.hok.fresh (qaV _)
 refine ⟨.ref s1.heap.objs.size,upd H1 s1.heap.objs.size (.lst xs),I1.laid (t':=s1.toks) (fun b u e=>qag _ e) (qaV _) ?_,rfl,q _ hf⟩
 exact ⟨z,us,0,r,qar _ rfl⟩
end
noncomputable abbrev Sp:=List V->Hp->VK->XK->Prop
noncomputable abbrev CXT:=List Env->Hp->Shared->XK->Value->Shared->Prop
structure zl9 (P:Program) (w:World) (K:W.Frag) (mg:Str->Option Value) (base:Heap) (A:Around) (outer:List Env) (s:Shared) (H:Hp):Prop where
 frames:A.frames=some outer
 mod:Mod K mg base
 bs: ∀ b o,base.get? b=some o->s.heap.get? b=some o/\H b=none
 bsz:base.objs.size<=s.heap.objs.size
 funs:s.heap.FunFrames base outer
 frf: ∀ b∈frs outer,H b=none
 hok:HOk P w H s.heap
 bare:AllBare s.gens
 hand:zgv A H
def CE (outer:List Env) (P:Program) (w:World) (H:Hp) (s:Shared) (Q:VK) (u:Value) (s':Shared):Prop:=
 ∃ v H',s'.os=s.os/\AllBare s'.gens/\Un (frs outer) [] H H' s.heap s'.heap/\HOk P w H' s'.heap/\zbE v u/\Q v H'
def CR (CX:CXT) (outer:List Env) (P:Program) (w:World) (H:Hp) (s:Shared) (Q:VK) (E:XK) (r:Result) (s':Shared):Prop:=
 match r with
 | .ok (.ret u)=>CE outer P w H s Q u s'
 | .ok _=>False
 | .error e=>CX outer H s E e s'
structure zbr (P:Program) (w:World) (K:W.Frag) (mg:Str->Option Value) (base:Heap) (CX:CXT) (k:Nat) (f:Addr) (fd:FuncData) (ps:List Str) (sp:Sp):Prop where
 len: ∀ vs H Q E,sp vs H Q E->vs.length=ps.length
 run: ∀ (A:Around) (outer:List Env) (s:Shared) (H:Hp) (args:Args) (us:List Value) (vs:List V) (Q:VK) (E:XK),zdf k A->zl9 P w K mg base A outer s H->BindsTo s fd args (ps.zip us)->zaZ vs us->sp vs H Q E->
  codeAny (model P w) A (.call (.ref f) args) (CR CX outer P w H s Q E) s
theorem zbr.mono {P:Program} {w:World} {K:W.Frag} {mg:Str->Option Value} {base:Heap} {CX:CXT} {j k:Nat} {f:Addr} {fd:FuncData} {ps:List Str} {sp:Sp} (F:zbr P w K mg base CX j f fd ps sp) (h:j<=k):
  zbr P w K mg base CX k f fd ps sp:=⟨F.len,fun A outer s H args us vs Q E hr=>F.run A outer s H args us vs Q E (hr.mono h)⟩
theorem zbr.imp {P:Program} {w:World} {K:W.Frag} {mg:Str->Option Value} {base:Heap} {CX:CXT} {k:Nat} {f:Addr} {fd:FuncData} {ps:List Str} {sp sp':Sp} (F:zbr P w K mg base CX k f fd ps sp)
  (h: ∀ vs H Q E,sp' vs H Q E->sp vs H Q E):zbr P w K mg base CX k f fd ps sp':=
 ⟨fun vs H Q E q=>F.len vs H Q E (h _ _ _ _ q),fun A outer s H args us vs Q E hr he hb hv hs=>F.run A outer s H args us vs Q E hr he hb hv (h _ _ _ _ hs)⟩
theorem zl9.in1 {P:Program} {w:World} {K:W.Frag} {mg:Str->Option Value} {base:Heap} {A:Around} {outer:List Env} {s:Shared} {H:Hp} (e:zl9 P w K mg base A outer s H):
  zl9 P w K mg base A.in1 outer s H:=⟨e.frames,e.mod,e.bs,e.bsz,e.funs,e.frf,e.hok,e.bare,e.hand⟩
section
variable {X:Cx} {pins:List (Addr×Obj)} {σ:St} {H:Hp} {s s':Shared}
theorem Inv.env0 (I:Inv X pins σ H s):zl9 X.prog X.w X.K X.mg X.base X.A X.stack s H:=
 ⟨I.ok.frames,I.ok.mod,I.bs,qaS I.ok.bsz I.sz,I.stack,I.stkFree,I.hok,I.bare,I.handA⟩
theorem Inv.after {Q:VK} {u:Value} (I:Inv X pins σ H s) (h:CE X.stack X.prog X.w H s Q u s'):EP X pins σ Q u s':=by
 obtain ⟨v,H',os,bare,un,hok,r,q⟩:=h
 obtain ⟨hh,g,d,t,os'⟩:=s'
 obtain rfl:os'=s.os:=os
 exact ⟨v,H',I.call (h':=hh) (g':=g) (d':=d) (t':=t) (ch:=[]) un hok bare (fun b z=>absurd z (by simp)),r,q⟩
end
noncomputable def zsl (sp:Sp) (dvs:List V) (E:XK) (t:TA):TE:=fun σ H Q=>t σ H fun vs H1=>sp (vs++dvs) H1 Q E
def zaM (K:W.Frag) (fd:FuncData) (ps:List Str) (ds:List Value):Prop:=
 ∀ (s:Shared) (us:List Value),K.In s.heap->(us++ds).length=ps.length->BindsTo s fd ⟨us,[]⟩ (ps.zip (us++ds))
theorem zaM.all {K:W.Frag} {fd:FuncData} {ps:List Str} (h: ∀ us:List Value,us.length=ps.length->bindArgs fd ⟨us,[]⟩=pure (ps.zip us)):zaM K fd ps []:=fun s us _ hl=>by
 rw [List.append_nil] at hl ⊢
 exact .of_eq (h us hl)
def zd8 (CX:CXT) (X:Cx) (E:XK):Prop:= ∀ (pins:List (Addr×Obj)) (σ:St) (H:Hp) (s:Shared) (e:Value) (s':Shared),Inv X pins σ H s->CX X.stack H s E e s'->X.xe e s'
section
variable {X:Cx} {CX:CXT} {k:Nat} {f C:Addr} {fd:FuncData} {ps:List Str} {sp:Sp} {dvs:List V} {ds:List Value} {E:XK} {x m:Str} {p pos apos:Pos} {e o:Expr} {es:List Expr} {ta:TE} {t:TA}
theorem zpz {pins:List (Addr×Obj)} {σ:St} {H:Hp} {s:Shared} {Q:VK} {us:List Value} {vs:List V} (F:zbr X.prog X.w X.K X.mg X.base CX k f fd ps sp) (hr:zdf k X.A) (hb:zaM X.K fd ps ds) (hd:zaZ dvs ds) (hx:zd8 CX X E)
  (I:Inv X pins σ H s) (r:zaZ vs us) (h:sp (vs++dvs) H Q E):wpAny (model X.prog X.w) X.A (call (.ref f) us) (EP X pins σ Q) X.xe s:=by
 have r2:zaZ (vs++dvs) (us++ds):=r.append hd
 have hl:(us++ds).length=ps.length:=by rw [<- r2.length];exact F.len _ _ _ _ h
 refine wpAny_call (codeAny_mono (F.run X.A X.stack s H ⟨us,[]⟩ (us++ds) (vs++dvs) Q E hr I.env0 (hb s us I.kIn hl) r2 h) fun r s' hq=> ?_)
 cases r with
 | error e=>exact hx pins σ H s e s' I hq
 | ok fl=>
  cases fl with
  | ret u=>exact I.after hq
  | next=>exact qa0 hq
  | brk=>exact qa0 hq
  | cont=>exact qa0 hq
theorem zhc (F:zbr X.prog X.w X.K X.mg X.base CX k f fd ps sp) (hr:zdf k X.A) (hg:Gl X x) (hm:X.mg x=some (.ref f)) (hk:W.keepIn X.K (.ref f)=true) (hb:zaM X.K fd ps ds) (hd:zaZ dvs ds) (hx:zd8 CX X E)
  (ha:PA X (e::es) t) (hdb:(x==("__debug__":Str))=false:=by decide) (he:starEach (e::es) X.env=(false,eval e X.env)::starEach es X.env:=by rfl) (hpl:(backTo pos (starEach es X.env)).any (·.1)=false:=by rfl):
  PE X (.Call (.Name x p) (e::es) [] pos) (zsl sp dvs E t):=by
 intro pins s σ H Q I h
 refine wpAny_Call_Name_kw (zho I hg hm ?_ hdb)
 refine W.callWith_K (h₀:=X.base) I.ok.mod.kin hk (thn (ha pos pins s σ H _ I h) fun us s1 ⟨vs,H1,I1,r,q⟩=>⟨I1.kIn,?_⟩) he hpl
 exact zpz F hr hb hd hx I1 r q
structure Mk (K:W.Frag) (C f:Addr):Prop where
 makes:W.makesIn K C=true
 init:W.findIn K (.ref C) "__init__"=some (some (.ref f))
 fn:W.isFn K (.ref f)=true
 kp:W.keepIn K (.ref C)=true
end
section
variable {X:Cx} {CX:CXT} {k:Nat} {f C:Addr} {fd:FuncData} {ps ks:List Str} {sp:Sp} {E:XK} {x m:Str} {p pos apos kpos:Pos} {e o:Expr} {es:List Expr} {kws:List Keyword} {te ta:TE} {t tk:TA} {nm:Option Str}
structure zsY (K:W.Frag) (fd:FuncData) (ps ks:List Str) (g:List Value->List Value->List Value) (gV:List V->List V->List V):Prop where
 to: ∀ (s:Shared) (us ws:List Value),K.In s.heap->(g us ws).length=ps.length->BindsTo s fd ⟨us,ks.zip ws⟩ (ps.zip (g us ws))
 rel: ∀ {vs:List V} {us:List Value} {zs:List V} {ws:List Value},zaZ vs us->zaZ zs ws->zaZ (gV vs zs) (g us ws)
variable {g:List Value->List Value->List Value} {gV:List V->List V->List V}
end
structure zas (N P:List Str) (sc:Scope):Prop where
 kind:sc.kind= .function
 co:sc.isCoroutine=false
 gen:sc.isGenerator=false
 nd:N.Nodup
 pre:N.take P.length=P
 par: ∀ x∈P,sc.names.lookup x=some .local\/sc.names.lookup x=some .cell
 nofree: ∀ y∈sc.names,y.2≠ .free
theorem zgo {kindOf:Str->Option NameKind} {x:Str}: ∀ {binds:List (Str×Value)} {m:Str->Option Value},(∀ v,(x,v)∉binds)->bindL kindOf binds m x=m x
 | [],_,_=>rfl
 | (n,v)::r,m,h=>by
  unfold bindL
  rw [zgo fun w hw=>h w (qan _ hw)]
  split
  ·have:x≠n:=by rintro rfl;exact h v qau
   simp [this]
  ·rfl
theorem zgD {kindOf:Str->Option NameKind} {x:Str}: ∀ {binds:List (Str×Value)} {m:Str->Option Value},(∀ v,(x,v)∉binds)->bindC kindOf binds m x=m x
 | [],_,_=>rfl
 | (n,v)::r,m,h=>by
  unfold bindC
  rw [zgD fun w hw=>h w (qan _ hw)]
  split
  ·rfl
  ·have:x≠n:=by rintro rfl;exact h v qau
   simp [this]
theorem zgB {kindOf:Str->Option NameKind} {x:Str} {v:Value}: ∀ {P:List Str} {vs:List Value} {i:Nat} {m:Str->Option Value},P.Nodup->P[i]? = some x->vs[i]? = some v->kindOf x=some .local->
  bindL kindOf (P.zip vs) m x=some v
 | [],_,_,_,_,h,_,_=>by simp at h
 | _::_,[],_,_,_,_,h,_=>by simp at h
 | p::P,w::vs,0,m,nd,h1,h2,hk=>by
  simp at h1 h2;subst h1;subst h2
  show bindL kindOf ((p,w)::P.zip vs) m p=_
  unfold bindL
  rw [zgo fun v hv=>(List.nodup_cons.mp nd).1 (List.of_mem_zip hv).1,qa4 hk]
  simp
 | p::P,w::vs,i+1,m,nd,h1,h2,hk=>by
  show bindL kindOf ((p,w)::P.zip vs) m x=_
  unfold bindL
  exact zgB (i:=i) (List.nodup_cons.mp nd).2 (by simpa using h1) (by simpa using h2) hk
theorem zf8 {kindOf:Str->Option NameKind} {x:Str} {v:Value}: ∀ {P:List Str} {vs:List Value} {i:Nat} {m:Str->Option Value},P.Nodup->P[i]? = some x->vs[i]? = some v->kindOf x≠some .local->
  bindC kindOf (P.zip vs) m x=some v
 | [],_,_,_,_,h,_,_=>by simp at h
 | _::_,[],_,_,_,_,h,_=>by simp at h
 | p::P,w::vs,0,m,nd,h1,h2,hk=>by
  simp at h1 h2;subst h1;subst h2
  show bindC kindOf ((p,w)::P.zip vs) m p=_
  unfold bindC
  rw [zgD fun v hv=>(List.nodup_cons.mp nd).1 (List.of_mem_zip hv).1,qa5 hk]
  simp
 | p::P,w::vs,i+1,m,nd,h1,h2,hk=>by
  show bindC kindOf ((p,w)::P.zip vs) m x=_
  unfold bindC
  exact zf8 (i:=i) (List.nodup_cons.mp nd).2 (by simpa using h1) (by simpa using h2) hk
noncomputable def zdP (N:List Str) (vs:List V):St:=vs.map some++List.replicate (N.length - vs.length) none
noncomputable def zg9 (CX:CXT) (P:Program) (w:World) (K:W.Frag) (mg:Str->Option Value) (base:Heap) (N:List Str) (qual:Str) (scope:Scope) (f:Addr) (cd:Value) (A:Around) (outer:List Env) (s:Shared) (H:Hp) (E:XK):Cx where
 prog:=P
 w:=w
 K:=K
 mg:=mg
 base:=base
 A:=A.deeper (envOfC qual scope s.heap.objs.size f cd)
 N:=N
 s₀:=s
 H₀:=H
 env:=envOfC qual scope s.heap.objs.size f cd
 outer:=outer
 stack:=envOfC qual scope s.heap.objs.size f cd::outer
 ex:=[]
 calm:=true
 fn:=fun _=>true
 pn:=[]
 xe:=fun e s'=>wpAny (model P w) (A.deeper (envOfC qual scope s.heap.objs.size f cd)) (leaving (envOfC qual scope s.heap.objs.size f cd) e) (fun _ s''=>CX outer H s E e s'') (fun e' s''=>CX outer H s E e' s'') s'
theorem zhv {sc:Scope} {n:Nat} {x:Str} (h:sc.names.lookup x=some .cell): ∃ c,(cellsFrom n sc.names []).lookup x=some c:=by
 have q:=W.cellsFrom_some sc.names n [] (.inl h)
 exact Option.isSome_iff_exists.mp q
theorem zgz {CX:CXT} {P:Program} {w:World} {K:W.Frag} {mg:Str->Option Value} {base:Heap} {N ps:List Str} {qual:Str} {scope:Scope} {f:Addr} {cd:Value} {A:Around} {outer:List Env} {s s1:Shared} {H:Hp} {E:XK} {us:List Value} {vs:List V}
  (S:zas N ps scope) {cm:Bool} (hd:cm=true->A.handled=none) (e0:zl9 P w K mg base A outer s H) (hl:vs.length=ps.length) (r:zaZ vs us)
  (x:InCallC s s.heap.objs.size (bindL (envOfC qual scope s.heap.objs.size f cd).kindOf (ps.zip us) fun _=>none) (cellsFrom (s.heap.objs.size+1) scope.names []) (bindC (envOfC qual scope s.heap.objs.size f cd).kindOf (ps.zip us) fun _=>none) s1):
  Inv {zg9 CX P w K mg base N qual scope f cd A outer s H E with calm:=cm} [] (zdP N vs) H s1:=by
 have hpl:ps.length<=N.length:=by have:=congrArg List.length S.pre;rw [List.length_take] at this;omega
 obtain ⟨h1,tk,rfl,hk⟩:=x.done
 have noA: ∀ b:Addr,b∉(zg9 CX P w K mg base N qual scope f cd A outer s H E).ex:=fun b z=>absurd (show b∈([]:List Addr) from z) (by simp)
 refine ⟨⟨e0.mod,S.kind,rfl,rfl,qaV _,fun y z c h1 h2=> ?_,fun y hy=> ?_,fun y c _ h=> ?_,hd,e0.hand,Around.frames_deeper e0.frames,.inr ⟨rfl,rfl⟩,fun b z=>absurd z (noA b),e0.bs,e0.bsz,fun b _ _=>noA b,fun b z=>absurd z (noA b),e0.funs,e0.frf⟩,
   rfl,e0.bare,Un.kept hk,⟨_,x.toInCall.ns,fun i y v h1 h2 h3=> ?_⟩,fun y c h=>⟨_,x.cell y c h⟩,e0.hok.fresh (qaV _),fun y c h=> ?_,fun p hp=>absurd (show p∈([]:List (Addr×Obj)) from hp) (by simp),e0.hok.kept hk,?_⟩
 ·exact name_of_addr x.apart (PySem.mem_of_lookup h1) (PySem.mem_of_lookup h2)
 ·have hy:scope.names.lookup y=some .cell\/scope.names.lookup y=some .free:=hy
  rcases hy with hy | hy
  ·exact zhv hy
  ·exact absurd rfl (S.nofree _ (PySem.mem_of_lookup hy))
 ·exact Nat.le_of_lt (x.above y c (PySem.mem_of_lookup h))
 ·have hi:i<vs.length:=by
   unfold zdP at h2
   by_cases hi:i<vs.length
   ·exact hi
   ·rw [qaa (by simpa using hi)] at h2
    rw [List.getElem?_replicate] at h2
    split at h2<;>cases h2
  have ha:vs[i]? = some v:=by
   unfold zdP at h2
   rw [qad (by simpa using hi),List.getElem?_map] at h2
   cases e:vs[i]? with
   | none=>rw [e] at h2;cases h2
   | some a=>rw [e] at h2;cases h2;rfl
  obtain ⟨u,hu,rv⟩:=r.get ha
  have hp:ps[i]? = some y:=by
   rw [<- S.pre,List.getElem?_take_of_lt (by omega)];exact h1
  have ndP:ps.Nodup:=by rw [<- S.pre];exact S.nd.sublist (List.take_sublist _ _)
  refine ⟨u,rv,?_⟩
  rcases S.par y (List.mem_of_getElem? hp) with k | k
  ·exact .inl ⟨k,zgB ndP hp hu k⟩
  ·obtain ⟨c,e⟩:=zhv (n:=s.heap.objs.size+1) k
   refine .inr ⟨.inl k,c,e,?_⟩
   have q:=x.cell y c e
   rw [zf8 ndP hp hu (by show scope.names.lookup y≠_;rw [k];decide)] at q
   exact q
 ·exact e0.hok.fresh (Nat.le_of_lt (x.above y c (PySem.mem_of_lookup h)))
 ·unfold zdP
  show _=N.length
  rw [qav,qaH,List.length_replicate]
  omega
theorem zo5 {CX:CXT} {P:Program} {w:World} {K:W.Frag} {mg:Str->Option Value} {base:Heap} {k:Nat} {f:Addr} {name qual:Str} {params:Arguments} {body:List Stmt} {scope:Scope} {dV kV doc pm cdv ct oc:Value} {an od:Option Addr}
  {osl:Array (Option Value)} {N ps:List Str} {sp:Sp} (lk:K.lookup f=some ⟨oc,od,.func (W.fnOf name qual params body scope dV kV doc pm an cdv ct),osl⟩) (hcd:W.codeIn K cdv qual=true) (S:zas N ps scope)
  (len: ∀ vs H Q E,sp vs H Q E->vs.length=ps.length)
  (hbody: ∀ (A:Around) (outer:List Env) (s:Shared) (H:Hp) (vs:List V) (Q:VK) (E:XK),zdf k (A.deeper (envOfC qual scope s.heap.objs.size f cdv))->sp vs H Q E->
    ∃ t,PSs (zg9 CX P w K mg base N qual scope f cdv A outer s H E) body t/\t {nx:=fun _ H'=>Q .non H',rt:=Q} (zdP N vs) H):
  zbr P w K mg base CX (k+1) f (W.fnOf name qual params body scope dV kV doc pm an cdv ct) ps sp:=by
 refine ⟨len,fun A outer s H args us vs Q E hr e0 hb r hsp=> ?_⟩
 have hl:=len _ _ _ _ hsp
 have KX:K.In s.heap:=e0.mod.kin.keeps fun b o e=>(e0.bs b o e).1
 have lim:s.heap.NoLimit:=e0.mod.nolimit.keeps fun b o e=>(e0.bs b o e).1
 have hkind: ∀ y∈ps.zip us,scope.names.lookup y.1=some .local\/(scope.names.lookup y.1=some .cell/\((cellsFrom (s.heap.objs.size+1) scope.names []).lookup y.1).isSome=true):=fun ⟨n,v⟩ hy=>by
  rcases S.par n (List.of_mem_zip hy).1 with q | q
  ·exact .inl q
  ·exact .inr ⟨q,W.cellsFrom_some _ _ _ (.inl q)⟩
 refine codeAny_call_function hr.depth (KX _ _ lk) rfl S.co S.gen rfl (W.codeRec_of KX hcd) (hb _ _ _ _ ?_)
 refine wpAny_newFunctionEnv_cells S.kind hkind fun env he s1 x=> ?_
 subst he
 refine ⟨lim.keeps x.toInCall.keep,codeAny_func ?_⟩
 obtain ⟨t,ht,hq⟩:=hbody A outer s H vs Q E (hr.deeper _) hsp
 have I:Inv (zg9 CX P w K mg base N qual scope f cdv A outer s H E) [] (zdP N vs) H s1:=zgz (cm:=true) S (fun _=>hr.hd) e0 hl r x
 refine qaZ (ht [] s1 (zdP N vs) H _ I hq) (fun fl s' hs=> ?_) fun e s' hs=>hs
 have fin: ∀ {σ':St} {H':Hp} {v:V} {u:Value},Inv (zg9 CX P w K mg base N qual scope f cdv A outer s H E) [] σ' H' s'->zbE v u->Q v H'->CE outer P w H s Q u s':=
  fun {σ' H' v u} J rv q=>⟨v,H',J.os,J.bare,J.base,J.hok,rv,q⟩
 cases fl with
 | ret u=>
  obtain ⟨v,σ',H',J,rv,q⟩:=hs
  exact fin J rv q
 | next=>
  obtain ⟨σ',H',J,q⟩:=hs
  exact fin (v:=V.non) (u:=Value.none) J rfl q
 | brk=>
  obtain ⟨_,_,_,q⟩:=hs
  exact qa0 q
 | cont=>
  obtain ⟨_,_,_,q⟩:=hs
  exact qa0 q
section
variable {X:Cx} {x:Str} {p pos:Pos} {e:Expr} {es:List Expr} {t:TA} {id T:String} {r:List V->Hp->VK->Prop}
noncomputable def tCB (r:List V->Hp->VK->Prop) (t:TA):TE:=fun σ H Q=>t σ H fun vs H1=>r vs H1 Q
theorem zdu (hc:zaJ X (.builtin id) r) (hg:Gl X x) (hm:X.mg x=none) (hv:bootBuiltins x=some (.builtin id)) (ha:PA X (e::es) t) (hn:x≠"__name__":=by decide) (hdb:(x==("__debug__":Str))=false:=by decide)
  (he:starEach (e::es) X.env=(false,eval e X.env)::starEach es X.env:=by rfl) (hpl:(backTo pos (starEach es X.env)).any (·.1)=false:=by rfl):PE X (.Call (.Name x p) (e::es) [] pos) (tCB r t):=by
 intro pins s σ H Q I h
 refine wpAny_Call_Name_kw (zgG I hg hm hv ?_ hn hdb)
 exact PyProof.Rows.callWith_builtin1 (thn (ha pos pins s σ H _ I h) fun us s1 ⟨vs,H1,I1,r1,q1⟩=>hc pins s1 σ H1 vs us Q I1 r1 q1) he hpl
theorem zdO (hc:zaJ X (.type T) r) (hg:Gl X x) (hm:X.mg x=none) (hv:bootBuiltins x=some (.type T)) (ha:PA X (e::es) t) (hn:x≠"__name__":=by decide) (hdb:(x==("__debug__":Str))=false:=by decide)
  (he:starEach (e::es) X.env=(false,eval e X.env)::starEach es X.env:=by rfl) (hpl:(backTo pos (starEach es X.env)).any (·.1)=false:=by rfl):PE X (.Call (.Name x p) (e::es) [] pos) (tCB r t):=by
 intro pins s σ H Q I h
 refine wpAny_Call_Name_kw (zgG I hg hm hv ?_ hn hdb)
 exact PyProof.Rows.callWith_type1 (thn (ha pos pins s σ H _ I h) fun us s1 ⟨vs,H1,I1,r1,q1⟩=>hc pins s1 σ H1 vs us Q I1 r1 q1) he hpl
end
end L2
namespace HT
open PySem PyProof.Rows
section
open PySem.SeqAt
open PySem.AutoSeq1 (wpAny_loadPart')
open PySem.MeetsSeq PySem.MeetsSeq2 PySem.MeetsSeq3
end
section
variable {prog:Program} {w:World} {A:Around} {E:Value->Shared->Prop} {s:Shared}
theorem znm {t b:Addr} {vs ws:List Value} {Q:Value->Shared->Prop} (ht:IsTup s.heap t vs.toArray) (hb:IsTup s.heap b ws.toArray) (hv:vs≠[])
  (h1:ws=[]->Q (.ref t) s) (h2:ws≠[]->Q (.ref s.heap.objs.size) {s with heap:=s.heap.push {cls:= .type "tuple",data:= .seq (vs++ws).toArray}})
  (hsz:vs.length+ws.length<=sizeLine):wpAny (model prog w) A (binaryOp .Add (.ref t) (.ref b)) Q E s:=by
 obtain ⟨⟨cls,dd,data,sl⟩,ho,hc,n,hd⟩:=id ht
 obtain ⟨⟨cls2,dd2,data2,sl2⟩,ho2,hc2,n2,hd2⟩:=id hb
 simp only at hc hd hc2 hd2
 subst hc hd hc2 hd2
 have e:vs.toArray++ws.toArray=(vs++ws).toArray:=by simp
 by_cases hw:ws=[]
 ·exact concat_meets ⟨_,ho,rfl⟩ ⟨_,ho2,rfl⟩ noFill_tuple_add seq_tuple_add PySem.F.slot_tuple_add PySem.F.entry_tuple_add (PySem.F.args_tuple_add_2 _ _)
   (tuple_addW1 t b vs.toArray ws.toArray n n2 dd dd2 sl sl2 (by simpa using hv) (by simp [hw])) ⟨ho,ho2,h1 hw⟩
 ·refine concat_meets ⟨_,ho,rfl⟩ ⟨_,ho2,rfl⟩ noFill_tuple_add seq_tuple_add PySem.F.slot_tuple_add PySem.F.entry_tuple_add (PySem.F.args_tuple_add_2 _ _)
   (tuple_addW2 t b vs.toArray ws.toArray n n2 dd dd2 sl sl2 (by simpa using hv) (by simpa using hw) (by rw [qaA,qaA];exact hsz)) ⟨ho,ho2,?_⟩
  rw [e]
  exact h2 hw
noncomputable def sIx (n d:Nat):Option Int->Nat
 | none=>d
 | some v=>if v<0 then (v+(n:Int)).toNat else min v.toNat n
theorem zje (n d k:Nat):sIx n d (some (k:Int))=min k n:=by
 show (if (k:Int)<0 then ((k:Int)+(n:Int)).toNat else min (k:Int).toNat n)=min k n
 rw [qa5 (by omega),qaB]
theorem zoU (n d:Nat) (hd:d<=n) (o:Option Int):sIx n d o<=n:=by
 cases o with
 | none=>exact hd
 | some v=>
  show (if v<0 then (v+(n:Int)).toNat else min v.toNat n)<=n
  by_cases hv:v<0
  ·rw [qa4 hv];omega
  ·rw [qa5 hv];exact Nat.min_le_right _ _
theorem zke (v:Int) (n d:Nat):(if v<0 then max (v+(n:Int)) 0 else min v (n:Int))=((sIx n d (some v):Nat):Int):=by
 show (if v<0 then max (v+(n:Int)) 0 else min v (n:Int))=(((if v<0 then (v+(n:Int)).toNat else min v.toNat n):Nat):Int)
 by_cases hv:v<0
 ·simp only [qa4 hv];omega
 ·simp only [qa5 hv];omega
theorem zig (lo hi:Option Int) (n:Nat):Builtin.Slice.sliceAdjust lo hi 1 (n:Int)=(((sIx n 0 lo:Nat):Int),((sIx n n hi:Nat):Int)):=by
 have h1: ¬((1:Int)<0):=by omega
 unfold Builtin.Slice.sliceAdjust
 simp only [h1,if_false]
 refine Prod.ext ?_ ?_
 ·cases lo with
  | none=>rfl
  | some v=>exact zke v n 0
 ·cases hi with
  | none=>rfl
  | some v=>exact zke v n n
theorem zie (i j:Nat):Builtin.Slice.slicePlaces (i:Int) (j:Int) 1=j - i:=by
 unfold Builtin.Slice.slicePlaces
 have h1:(1:Int)>0:=by omega
 simp only [h1,if_true,Int.ediv_one]
 split<;>omega
theorem zff {v:Value} {o:Option Int} {Q:Option Int->Shared->Prop} (p:IsPart v o) (h:Q o s):wpAny (model prog w) A (Builtin.Slice.slicePartIndex v) Q E s:=by
 cases p with
 | none=>exact slicePart_none h
 | int i t=>exact slicePart_int h
theorem zcI {sl:Addr} {vl vu:Value} {lo hi:Option Int} {n:Nat} {Q:Int×Int×Nat->Shared->Prop} (hs:s.heap.IsSliceOf sl vl vu .none) (pl:IsPart vl lo) (pu:IsPart vu hi)
  (h:Q (((sIx n 0 lo:Nat):Int),1,sIx n n hi - sIx n 0 lo) s):wpAny (model prog w) A (Builtin.Slice.sliceApplied (.ref sl) (pure (n:Int))) Q E s:=by
 obtain ⟨os,hos,hcs,hds⟩:=id hs
 unfold Builtin.Slice.sliceApplied Builtin.Slice.sliceFields
 refine qaW (qaW (wpAny_field hos hds (x:=vl) rfl (qaW (wpAny_field hos hds (x:=vu) rfl (qaW (wpAny_field hos hds (x:= .none) rfl (qaX ?_)))))))
 refine qaW (slicePart_none ?_)
 show wpAny _ _ (if ((1:Int)==0)=true then _ else _) _ _ s
 rw [qa5 (by decide)]
 refine qaW (zff pl (qaW (zff pu (qaW (qaX ?_)))))
 show wpAny _ _ (match Builtin.Slice.sliceAdjust lo hi 1 (n:Int) with | (lo,hi)=>pure (lo,(1:Int),Builtin.Slice.slicePlaces lo hi 1)) _ _ s
 rw [zig lo hi n]
 show wpAny _ _ (pure (((sIx n 0 lo:Nat):Int),(1:Int),Builtin.Slice.slicePlaces ((sIx n 0 lo:Nat):Int) ((sIx n n hi:Nat):Int) 1)) _ _ s
 rw [zie]
 exact qaX h
theorem zkS (xs:Array Value) (i k:Nat):((List.range k).filterMap fun (m:Nat)=>xs[((i:Int)+(m:Int)*1).toNat]?).toArray=((xs.toList.drop i).take k).toArray:=by
 have e:(fun (m:Nat)=>xs[((i:Int)+(m:Int)*1).toNat]?)=fun m=>xs[i+m]? := by
  funext m
  have:((i:Int)+(m:Int)*1).toNat=i+m:=by omega
  rw [this]
 rw [e]
 have:=pick_run xs i k
 rw [List.filterMap_map] at this
 have e2:((fun x=>xs[x]?)∘fun x=>i+x)=fun m=>xs[i+m]? := rfl
 rw [e2] at this
 rw [this]
theorem zdQ {t sl:Addr} {items:Array Value} {vl vu:Value} {lo hi:Option Int} {Q:Value->Shared->Prop} (ht:IsTup s.heap t items) (hs:s.heap.IsSliceOf sl vl vu .none) (pl:IsPart vl lo) (pu:IsPart vu hi)
  (hw: ¬(sIx items.size 0 lo=0/\sIx items.size items.size hi=items.size))
  (h:Q (.ref s.heap.objs.size) {s with heap:=s.heap.push {cls:= .type "tuple",data:= .seq ((items.toList.drop (sIx items.size 0 lo)).take (sIx items.size items.size hi - sIx items.size 0 lo)).toArray}})
  (hsz:items.size<=sizeLine):wpAny (model prog w) A (getItem (.ref t) (.ref sl)) Q E s:=by
 have htake:sizeOk (.seq ((items.toList.drop (sIx items.size 0 lo)).take (sIx items.size items.size hi - sIx items.size 0 lo)).toArray):=by
  show ((items.toList.drop (sIx items.size 0 lo)).take (sIx items.size items.size hi - sIx items.size 0 lo)).toArray.size<=sizeLine
  rw [qaA,List.length_take,List.length_drop,qas]
  omega
 have hj:sIx items.size items.size hi<=items.size:=zoU _ _ (qaV _) hi
 obtain ⟨os,hos,hcs,hds⟩:=id hs
 have hTs:s.TypeIs (.ref sl) "slice":=⟨os,hos,hcs⟩
 unfold getItem
 try with_reducible refine qaO ?_
 first | refine qaW (qaX ?_) | skip
 refine qaW (wpAny_sequenceKey ht.typeIs (by decide) ?_)
 refine qaW (wpAny_callSpecial?_slot (name:=Str.ofString "__getitem__") ht.typeIs PyProof.Rows.slot_tuple_getitem
   (wpAny_call_entry PyProof.Rows.slot_tuple_getitem ht.typeIs entry_tuple_getitem ?_ (args_tuple_getitem _ _)))
 show wpAny _ _ (Builtin.Tuple.tupleItemsOf (.ref t)>>=_) _ _ s
 refine qaW (tupleItemsOf_ ht ?_)
 refine qaW (wpAny_typeOf hTs ?_)
 rw [qa4 (by decide)]
 refine qaW (zcI hs pl pu ?_)
 have hno: ¬((((sIx items.size 0 lo:Nat):Int)==0 && (1:Int)==1 && (sIx items.size items.size hi - sIx items.size 0 lo)==items.size)=true):=by
  intro q
  rw [qaG,qaG] at q
  have q1:((sIx items.size 0 lo:Nat):Int)=0:=eq_of_beq q.1.1
  have q2:sIx items.size items.size hi - sIx items.size 0 lo=items.size:=eq_of_beq q.2
  exact hw ⟨by omega,by omega⟩
 show wpAny _ _ (if (((sIx items.size 0 lo:Nat):Int)==0 && (1:Int)==1 && (sIx items.size items.size hi - sIx items.size 0 lo)==items.size)=true then _ else _) _ _ s
 rw [qa5 hno,zkS]
 first
  | exact qaW (m:=Builtin.Tuple.tupleExact _) (qaC (qaX ⟨_,rfl,qaX h⟩) htake)
  | exact qaW (m:=Builtin.Tuple.tupleExact _) (qaC (qaW (qaX (qaX ⟨_,rfl,qaX h⟩))) htake)
  | exact qaW (qaW (m:=Builtin.Tuple.tupleExact _) (qaC (qaX (qaX ⟨_,rfl,qaX h⟩)) htake))
  | exact qaW (qaW (m:=Builtin.Tuple.tupleExact _) (qaC (qaX ⟨_,rfl,qaX h⟩) htake))
end
end HT
namespace L2
open PySem PySem.Spec PyProof.Rows
noncomputable abbrev TO:=St->Hp->(Option Int->Hp->Prop)->Prop
def PO (X:Cx) (e:Option Expr) (t:TO):Prop:=
 ∀ (pins:List (Addr×Obj)) (s:Shared) (σ:St) (H:Hp) (Q:Option Int->Hp->Prop),Inv X pins σ H s->t σ H Q->
  wpAny (model X.prog X.w) X.A (evalPart e X.env) (fun u s'=> ∃ o H',Inv X pins σ H' s'/\IsPart u o/\Q o H') X.xe s
noncomputable def znP:TO:=fun _ H Q=>Q none H
noncomputable def zsC (t:TE):TO:=fun σ H Q=>t σ H fun x H1=> ∃ i,x= .int i/\Q (some i) H1
theorem zcs {ns:List Int}: ∀ {us:List Value},zaZ (ns.map V.int) us->IntsAre us ns:=by
 induction ns with
 | nil=>intro us r;rw [List.map_nil] at r;cases r;exact .nil
 | cons n ns ih=>
  intro us r
  rw [qaM] at r
  cases r with
  | cons r1 r2=>
   obtain ⟨t,e⟩:=r1
   subst e
   exact .cons n t (ih r2)
section
variable {X:Cx} {e:Expr} {te:TE} {lo hi:Option Expr} {tl th:TO} {pos p2:Pos}
theorem zok:PO X none znP:=by
 intro pins s σ H Q I h
 rw [evalPart_none]
 exact qaX ⟨none,H,I,.none,h⟩
theorem zoz (h:PE X e te):PO X (some e) (zsC te):=by
 intro pins s σ H Q I hw
 rw [evalPart_some]
 refine thn (h pins s σ H _ I hw) fun u s1 ⟨x,H1,I1,r1,q1⟩=> ?_
 obtain ⟨i,rfl,q⟩:=q1
 obtain ⟨t,rfl⟩:=r1
 exact ⟨some i,H1,I1,.int i t,q⟩
def SlR (X:Cx) (r:V->Option Int->Option Int->Hp->VK->Prop):Prop:=
 ∀ (pins:List (Addr×Obj)) (s:Shared) (σ:St) (H:Hp) (x:V) (v vl vu:Value) (lo hi:Option Int) (sl:Addr) (Q:VK),Inv X pins σ H s->zbE x v->s.heap.IsSliceOf sl vl vu .none->IsPart vl lo->IsPart vu hi->r x lo hi H Q->
  ∃ T id,typeLookup (.type T) "__getitem__"=pure (some (.builtin id))/\s.TypeIs v T/\wpAny (model X.prog X.w) X.A (getItem v (.ref sl)) (EP X pins σ Q) X.xe s
theorem SlR.or {r r':V->Option Int->Option Int->Hp->VK->Prop} (h:SlR X r) (h':SlR X r'):SlR X (fun x lo hi H Q=>r x lo hi H Q\/r' x lo hi H Q):=by
 intro pins s σ H x v vl vu lo hi sl Q I rx hs pl pu q
 rcases q with q | q
 ·exact h pins s σ H x v vl vu lo hi sl Q I rx hs pl pu q
 ·exact h' pins s σ H x v vl vu lo hi sl Q I rx hs pl pu q
noncomputable def tSl (r:V->Option Int->Option Int->Hp->VK->Prop) (te:TE) (tl th:TO):TE:=fun σ H Q=>te σ H fun x H1=>tl σ H1 fun l H2=>th σ H2 fun u H3=>r x l u H3 Q
theorem zl2 {r:V->Option Int->Option Int->Hp->VK->Prop} (hr:SlR X r) (he:PE X e te) (hl:PO X lo tl) (hu:PO X hi th):PE X (.Subscript e (.Slice lo hi none p2) pos) (tSl r te tl th):=by
 intro pins s σ H Q I h
 refine Subscript_ (thn (he pins s σ H _ I h) fun v s1 ⟨x,H1,I1,r1,q1⟩=> ?_)
 refine wpAny_Slice (thn (hl pins s1 σ H1 _ I1 q1) fun vl s2 ⟨l,H2,I2,pl,q2⟩=>thn (hu pins s2 σ H2 _ I2 q2) fun vu s3 ⟨u,H3,I3,pu,q3⟩=> ?_)
 rw [evalPart_none]
 refine qaX ?_
 have I4:Inv X pins σ H3 {s3 with heap:=s3.heap.push {cls:= .type "slice",data:= .fields #[vl,vu,.none]}}:=I3.kept (t':=s3.toks) fun b ob q=>qag _ q
 obtain ⟨T,id,hT,ht,hg⟩:=hr pins {s3 with heap:=s3.heap.push {cls:= .type "slice",data:= .fields #[vl,vu,.none]}} σ H3 x v vl vu l u s3.heap.objs.size Q I4 r1 (Heap.IsSliceOf.new ..) pl pu q3
 show wpAny (model X.prog X.w) X.A (subscriptTail e (.Slice lo hi none p2) v (.ref s3.heap.objs.size)) (EP X pins σ Q) X.xe {s3 with heap:=s3.heap.push {cls:= .type "slice",data:= .fields #[vl,vu,.none]}}
 exact tail_any (ops:=[.ref s3.heap.objs.size,v]) ht hT hg (by with_unfolding_all rfl)
noncomputable def zmE (xs:List V) (lo hi:Option Int):List V:=(xs.drop (HT.sIx xs.length 0 lo)).take (HT.sIx xs.length xs.length hi - HT.sIx xs.length 0 lo)
theorem zeK (xs:List V) (lo hi:Option Int):(zmE xs lo hi).length<=xs.length:=by
 unfold zmE
 rw [List.length_take,List.length_drop]
 omega
noncomputable def ztr (K:W.Frag):V->Option Int->Option Int->Hp->VK->Prop:=fun x lo hi H Q=> ∃ a xs,x= .ref a/\SqT K H a xs/\
 ¬ (HT.sIx xs.length 0 lo=0/\HT.sIx xs.length xs.length hi=xs.length)/\ ∀ p,H p=none->Q (.ref p) (upd H p (.tup (zmE xs lo hi)))
theorem zq4:SlR X (ztr X.K):=by
 intro pins s σ H x v vl vu lo hi sl Q I rx hs pl pu h
 obtain ⟨a,xs,rfl,hx,hw,q⟩:=h
 cases rx
 obtain ⟨its,r,ht,hz⟩:=I.tuple hx
 have hlen:its.toArray.size=xs.length:=by rw [qaA];exact r.length.symm
 refine ⟨"tuple",_,PyProof.Rows.slot_tuple_getitem.lookup,ht.typeIs,?_⟩
 refine HT.zdQ ht hs pl pu (by rw [hlen];exact hw) ?_ (by rw [hlen];exact hz)
 rw [hlen]
 refine ⟨.ref s.heap.objs.size,_,I.laid (t':=s.toks) (o:= .tup (zmE xs lo hi)) (fun b ob q=>qag _ q) (qaV _) ?_,rfl,q _ (I.hok.fresh (qaV _))⟩
 exact ⟨qaS (zeK xs lo hi) hz,_,(r.drop (HT.sIx xs.length 0 lo)).take (HT.sIx xs.length xs.length hi - HT.sIx xs.length 0 lo),IsTup.new _ _⟩
noncomputable def zsA (K:W.Frag):R2:=fun x y H Q=> ∃ a b xs ys,x= .ref a/\y= .ref b/\SqT K H a xs/\SqT K H b ys/\xs≠[]/\xs.length+ys.length<=sizeLine/\
 (ys=[]->Q (.ref a) H)/\(ys≠[]-> ∀ p,H p=none->Q (.ref p) (upd H p (.tup (xs++ys))))
theorem zaZ.nil_iff {xs:List V} {us:List Value} (r:zaZ xs us):us=[]↔xs=[]:=by
 cases r with
 | nil=>simp
 | cons _ _=>simp
theorem znp:OpR X (binaryOp .Add) (zsA X.K):=by
 intro pins s σ H x y v u Q I rx ry h
 obtain ⟨a,b,xs,ys,rfl,rfl,ha,hb,hx,hz,q1,q2⟩:=h
 cases rx
 cases ry
 obtain ⟨its,r1,p1,_⟩:=I.tuple ha
 obtain ⟨its2,r2,p2,_⟩:=I.tuple hb
 refine HT.znm p1 p2 (fun z=>hx (r1.nil_iff.mp z)) (fun z=>⟨.ref a,H,I,rfl,q1 (r2.nil_iff.mp z)⟩) (fun z=> ?_) (by rw [<- r1.length, <-r2.length];exact hz)
 refine ⟨.ref s.heap.objs.size,_,I.laid (t':=s.toks) (o:= .tup (xs++ys)) (fun b ob q=>qag _ q) (qaV _) ?_,rfl,q2 (fun w=>z (r2.nil_iff.mpr w)) _ (I.hok.fresh (qaV _))⟩
 exact ⟨by rw [qav];exact hz,_,r1.append r2,IsTup.new _ _⟩
end
noncomputable def ixN (n:Nat) (i:Int):Option Nat:=if 0<=i then (if i<n then some i.toNat else none) else if -(n:Int)<=i then some (i+n).toNat else none
noncomputable def atI {α:Type} (xs:List α) (i:Int):Option α:=(ixN xs.length i).bind fun j=>xs[j]?
theorem ziW {n:Nat} {i:Int} {j:Nat} (h:ixN n i=some j):seqIndex? i n=some j/\j<n/\ -(n:Int)<=i/\i<n:=by
 unfold ixN at h
 by_cases h0:0<=i
 ·rw [qa4 h0] at h
  by_cases h1:i<n
  ·rw [qa4 h1] at h
   have e:i.toNat=j:=Option.some.inj h
   exact ⟨by rw [seqIndex_of h0 h1,e],by omega,by omega,h1⟩
  ·rw [qa5 h1] at h;cases h
 ·rw [qa5 h0] at h
  by_cases h1: -(n:Int)<=i
  ·rw [qa4 h1] at h
   have e:(i+n).toNat=j:=Option.some.inj h
   exact ⟨by rw [seqIndex_neg (by omega) h1,e],by omega,h1,by omega⟩
  ·rw [qa5 h1] at h;cases h
theorem zjH {α:Type} {xs:List α} {i:Int} {v:α} (h:atI xs i=some v): ∃ j,seqIndex? i xs.length=some j/\xs[j]? = some v/\j<xs.length/\ -(xs.length:Int)<=i/\i<xs.length:=by
 unfold atI at h
 cases e:ixN xs.length i with
 | none=>rw [e] at h;cases h
 | some j=>
  rw [e] at h
  obtain ⟨h1,h2,h3,h4⟩:=ziW e
  exact ⟨j,h1,h,h2,h3,h4⟩
theorem zdR {α:Type} {xs:List α} {j:Nat} {v:α} (h:xs[j]? = some v):atI xs (j:Int)=some v:=by
 have hj:j<xs.length:=(qac.mp h).1
 have e:ixN xs.length (j:Int)=some j:=by
  unfold ixN
  rw [qa4 (by omega),qa4 (by omega)];simp
 unfold atI;rw [e];exact h
def zha (b:Expr):Prop:= ∀ o i,subscripted b false o i=operate [o,i] (getItem o i)
def IxR (X:Cx) (r:R2):Prop:=
 ∀ (value slice:Expr) (pins:List (Addr×Obj)) (s:Shared) (σ:St) (H:Hp) (x y:V) (v u:Value) (Q:VK),Inv X pins σ H s->zbE x v->zbE y u->r x y H Q->
  subscripted slice false v u=operate [v,u] (getItem v u)->wpAny (model X.prog X.w) X.A (subscriptTail value slice v u) (EP X pins σ Q) X.xe s
def MtR (X:Cx) (id:String) (r:V->List V->Hp->VK->Prop):Prop:=
 ∀ (pins:List (Addr×Obj)) (s:Shared) (σ:St) (H:Hp) (x:V) (xs:List V) (v:Value) (us:List Value) (Q:VK),Inv X pins σ H s->zbE x v->zaZ xs us->r x xs H Q->
  wpAny (model X.prog X.w) X.A (call (.builtin id) (v::us)) (EP X pins σ Q) X.xe s
section
variable {X:Cx} {a b:Expr} {ta tb:TE} {pos:Pos}
theorem IxR.or {r r':R2} (h:IxR X r) (h':IxR X r'):IxR X (fun x y H Q=>r x y H Q\/r' x y H Q):=by
 intro value slice pins s σ H x y v u Q I rx ry q hs
 rcases q with q | q
 ·exact h value slice pins s σ H x y v u Q I rx ry q hs
 ·exact h' value slice pins s σ H x y v u Q I rx ry q hs
theorem MtR.or {id:String} {r r':V->List V->Hp->VK->Prop} (h:MtR X id r) (h':MtR X id r'):MtR X id (fun x xs H Q=>r x xs H Q\/r' x xs H Q):=by
 intro pins s σ H x xs v us Q I rx rs q
 rcases q with q | q
 ·exact h pins s σ H x xs v us Q I rx rs q
 ·exact h' pins s σ H x xs v us Q I rx rs q
theorem zst {r:R2} (hr:IxR X r) (ha:PE X a ta) (hb:PE X b tb) (hs:zha b):PE X (.Subscript a b pos) (tOp r ta tb):=by
 intro pins s σ H Q I h
 exact Subscript_ (zss ha hb I h fun v u s2 x y H2 I2 rx ry q=>hr a b pins s2 σ H2 x y v u Q I2 rx ry q (hs _ _))
noncomputable def ztl (K:W.Frag):R2:=fun x y H Q=> ∃ p xs i v,x= .ref p/\y= .int i/\SqL K H p xs/\atI xs i=some v/\Q v H
noncomputable def zti (K:W.Frag):R2:=fun x y H Q=> ∃ p xs i v,x= .ref p/\y= .int i/\SqT K H p xs/\atI xs i=some v/\Q v H
theorem zn9:IxR X (ztl X.K):=by
 intro value slice pins s σ H x y v u Q I rx ry h hs
 obtain ⟨p,xs,i,z,rfl,rfl,hq,he,q⟩:=h
 cases rx
 obtain ⟨t,rfl⟩:=ry
 obtain ⟨its,r,pl,hz⟩:=I.list hq
 obtain ⟨j,h1,h2,h3,h4,h5⟩:=zjH he
 obtain ⟨w,ew,rw'⟩:=r.get h2
 have hl:=r.length
 have hn:=zhr
 have fin:EP X pins σ Q w s:=⟨z,H,I,rw',q⟩
 by_cases h0:0<=i
 ·have hj:i.toNat=j:=by
   rw [seqIndex_of h0 h5] at h1
   exact Option.some.inj h1
  exact item_listR pl.isList h0 (by omega) (by rw [hj];simpa using ew) fin hs
 ·have hj:(i+(its.toArray.size:Int)).toNat=j:=by
   rw [seqIndex_neg (by omega) h4] at h1
   rw [qaA, <-hl]
   exact Option.some.inj h1
  exact subscriptTail_builtinR (x:=w) pl.isList.typeIs slot_list_getitem.lookup
   (wpAny_getItem_list_neg (Q:=fun r s'=>r=w/\EP X pins σ Q r s') pl.isList (by omega) (by rw [qaA]<;>omega) (by omega) (by rw [hj];simpa using ew) ⟨rfl,fin⟩) hs
theorem zqg:IxR X (zti X.K):=by
 intro value slice pins s σ H x y v u Q I rx ry h hs
 obtain ⟨p,xs,i,z,rfl,rfl,hq,he,q⟩:=h
 cases rx
 obtain ⟨t,rfl⟩:=ry
 obtain ⟨its,r,pl,hz⟩:=I.tuple hq
 obtain ⟨j,h1,h2,h3,h4,h5⟩:=zjH he
 obtain ⟨w,ew,rw'⟩:=r.get h2
 have hl:=r.length
 have hn:=zhr
 have fin:EP X pins σ Q w s:=⟨z,H,I,rw',q⟩
 exact subscriptTail_builtinR (x:=w) pl.typeIs slot_tuple_getitem.lookup
  (getItem_tuple (j:=j) (Q:=fun r s'=>r=w/\EP X pins σ Q r s') pl (by omega) (by omega) (by rw [qaA, <-hl];exact h1) (by simpa using ew) ⟨rfl,fin⟩) hs
theorem zid (its:List Value) (n j:Nat) (u:Value):Obj.mapSeq (·.setIfInBounds j u) {cls:= .type "list",data:= .seq its.toArray n}={cls:= .type "list",data:= .seq (its.set j u).toArray n}:=by
 simp [Obj.mapSeq]
theorem Inv.lst {pins:List (Addr×Obj)} {σ:St} {H:Hp} {s:Shared} {p:Addr} {xs:List V} (I:Inv X pins σ H s) (h:H p=some (.lst xs)):
  ∃ (its:List Value) (n:Nat),zaZ xs its/\s.heap.get? p=some {cls:= .type "list",data:= .seq its.toArray n}/\xs.length<=sizeLine:=by
 obtain ⟨z,its,n,r,e⟩:=I.hok p _ h
 exact ⟨its,n,r,e,z⟩
theorem Inv.lstUpd {pins:List (Addr×Obj)} {σ:St} {H:Hp} {s:Shared} {p:Addr} {xs ys:List V} {its its':List Value} {n n':Nat} {f:Obj->Obj} (I:Inv X pins σ H s) (h:H p=some (.lst xs))
  (ho:s.heap.get? p=some {cls:= .type "list",data:= .seq its.toArray n}) (hf:f {cls:= .type "list",data:= .seq its.toArray n}={cls:= .type "list",data:= .seq its'.toArray n'}) (r:zaZ ys its') (hz:ys.length<=sizeLine) (t:Nat):
  Inv X pins σ (upd H p (.lst ys)) {s with heap:=s.heap.update p f,toks:=t}:=by
 have e:(s.heap.update p f).get? p=some {cls:= .type "list",data:= .seq its'.toArray n'}:=by
  rw [qal f ho (by rw [hf]<;>rfl),hf]
 refine I.write (x:=p) (e:=p) (by rw [h];trivial) (.inl rfl) (fun b u hb q=>(qah _ _ (Ne.symm hb)).trans q) ⟨_,e⟩ ?_
 exact ⟨hz,its',n',r,e⟩
noncomputable def zsk:V->V->V->Hp->(Hp->Prop)->Prop:=fun o i v H Q=> ∃ p xs k j,o= .ref p/\i= .int k/\H p=some (.lst xs)/\ixN xs.length k=some j/\Q (upd H p (.lst (xs.set j v)))
theorem zlg:zoK X zsk:=by
 intro pins s σ H o i v ov iv u Q I ro ri rv h
 obtain ⟨p,xs,k,j,rfl,rfl,hp,hj,q⟩:=h
 cases ro
 obtain ⟨t,rfl⟩:=ri
 obtain ⟨its,n,r,ho,hz⟩:=I.lst hp
 obtain ⟨h1,h2,h3,h4⟩:=ziW hj
 have hl:=r.length
 have hn:=zhr
 have I':Inv X pins σ (upd H p (.lst (xs.set j v))) {s with heap:=s.heap.update p (Obj.mapSeq (·.setIfInBounds j u))}:=
  I.lstUpd hp ho (zid its n j u) (r.set rv j) (by rw [qaI];exact hz) s.toks
 by_cases h0:0<=k
 ·have hk:k.toNat=j:=by
   rw [seqIndex_of h0 h4] at h1
   exact Option.some.inj h1
  exact W.ki_setAt ho h0 (by omega) (by rw [qaA, <-hl];exact h4) (by rw [hk];exact ⟨_,I',q⟩)
 ·have hk:(k+(its.toArray.size:Int)).toNat=j:=by
   rw [seqIndex_neg (by omega) h3] at h1
   rw [qaA, <-hl]
   exact Option.some.inj h1
  exact W.ki_setBack ho (by omega) (by rw [qaA, <-hl];exact h3) (by omega) (by rw [hk];exact ⟨_,I',q⟩)
theorem zgy (lo hi:Option Int) (n:Nat):(sliceBounds lo hi none n).1=((HT.sIx n 0 lo:Nat):Int)/\(sliceBounds lo hi none n).2.1=((HT.sIx n n hi:Nat):Int)/\(sliceBounds lo hi none n).2.2=1:=by
 refine ⟨?_,?_,rfl⟩
 ·cases lo with
  | none=>simp [sliceBounds,HT.sIx]
  | some i=>
   simp only [sliceBounds,HT.sIx,Option.getD_none,show (1:Int)>0 by decide,if_true]
   by_cases h:i<0
   ·simp only [h,if_true]<;>omega
   ·simp only [h,if_false]<;>omega
 ·cases hi with
  | none=>simp [sliceBounds,HT.sIx]
  | some i=>
   simp only [sliceBounds,HT.sIx,Option.getD_none,show (1:Int)>0 by decide,if_true]
   by_cases h:i<0
   ·simp only [h,if_true]<;>omega
   ·simp only [h,if_false]<;>omega
theorem zfo (its:List Value) (lo hi:Option Int):slicePick its.toArray lo hi none=((its.drop (HT.sIx its.length 0 lo)).take (HT.sIx its.length its.length hi - HT.sIx its.length 0 lo)).toArray:=by
 obtain ⟨h1,h2,h3⟩:=zgy lo hi its.toArray.size
 unfold slicePick
 rw [h1,h2,h3]
 simp only [sliceRange_one,pick_run,qaA]<;>rfl
noncomputable def ztf (K:W.Frag):V->Option Int->Option Int->Hp->VK->Prop:=fun x lo hi H Q=> ∃ a xs,x= .ref a/\SqL K H a xs/\ ∀ p,H p=none->Q (.ref p) (upd H p (.lst (zmE xs lo hi)))
theorem zoE:SlR X (ztf X.K):=by
 intro pins s σ H x v vl vu lo hi sl Q I rx hs pl pu h
 obtain ⟨a,xs,rfl,hx,q⟩:=h
 cases rx
 obtain ⟨its,r,ht,hz⟩:=I.list hx
 have hlen:=r.length
 refine ⟨"list",_,slot_list_getitem.lookup,ht.isList.typeIs,?_⟩
 refine wpAny_getItem_list_slice ht.isList hs pl pu .none (by simp) ?_ (by rw [qaA]<;>omega)
 rw [zfo, <-hlen]
 refine ⟨.ref s.heap.objs.size,_,I.laid (t':=s.toks) (o:= .lst (zmE xs lo hi)) (fun b ob q=>qag _ q) (qaV _) ?_,rfl,q _ (I.hok.fresh (qaV _))⟩
 exact ⟨qaS (zeK xs lo hi) hz,_,0,(r.drop (HT.sIx xs.length 0 lo)).take (HT.sIx xs.length xs.length hi - HT.sIx xs.length 0 lo),qar _ rfl⟩
theorem zgC:zaJ X (.builtin "len") (fun xs H Q=> ∃ p ys,xs=[.ref p]/\(SqL X.K H p ys\/SqT X.K H p ys)/\Q (.int ys.length) H):=by
 intro pins s σ H xs us Q I r h
 obtain ⟨p,ys,rfl,hq,q⟩:=h
 obtain ⟨u,rfl,rx⟩:=zdI r
 cases rx
 have hn:=zhr
 rcases hq with hq | hq
 ·obtain ⟨its,r',pl,hz⟩:=I.list hq
  have hlen:=r'.length
  exact Calls.call_len_list pl.isList (by simp only [qaA]<;>omega) ⟨.int ys.length,H,I.tok _,⟨s.toks+1,by rw [qaA,hlen]⟩,q⟩
 ·obtain ⟨its,r',pl,hz⟩:=I.tuple hq
  have hlen:=r'.length
  exact len_tuple pl (by simp only [qaA]<;>omega) ⟨.int ys.length,H,I.tok _,⟨s.toks+1,by rw [qaA,hlen]⟩,q⟩
theorem zaJ.or {f:Value} {r r':List V->Hp->VK->Prop} (h:zaJ X f r) (h':zaJ X f r'):zaJ X f (fun xs H Q=>r xs H Q\/r' xs H Q):=by
 intro pins s σ H xs us Q I rs q
 rcases q with q | q
 ·exact h pins s σ H xs us Q I rs q
 ·exact h' pins s σ H xs us Q I rs q
theorem zgk:zaJ X (.type "list") (fun xs H Q=> ∃ p ys,xs=[.ref p]/\(SqL X.K H p ys\/SqT X.K H p ys)/\ ∀ l,H l=none->Q (.ref l) (upd H l (.lst ys))):=by
 intro pins s σ H xs us Q I r h
 obtain ⟨p,ys,rfl,hq,q⟩:=h
 obtain ⟨u,rfl,rx⟩:=zdI r
 cases rx
 have fin: ∀ (its:List Value),zaZ ys its->ys.length<=sizeLine-> ∀ (h':Heap) (c':Nat),(∀ b o',s.heap.get? b=some o'->h'.get? b=some o')->
   h'.get? s.heap.objs.size=some {cls:= .type "list",dict:=none,data:= .seq its.toArray c',slots:= #[]}->EP X pins σ Q (.ref s.heap.objs.size) {s with heap:=h'}:=fun its r' hz h' c' kp e=>
  ⟨.ref s.heap.objs.size,_,I.laid (t':=s.toks) kp (qaV _) (show zbp X.prog X.w _ h' _ (.lst ys) from ⟨hz,its,c',r',e⟩),rfl,q _ (I.hok.fresh (qaV _))⟩
 rcases hq with hq | hq
 ·obtain ⟨its,r',pl,hz⟩:=I.list hq
  have hlen:=r'.length
  obtain ⟨o,ho,hc,n,hd⟩:=pl.isList
  exact call_list_seq p (.inl rfl) ho hc hd (fun h' c' kp e=>fin its r' hz h' c' kp e) (by simp only [qaA]<;>omega)
 ·obtain ⟨its,r',pl,hz⟩:=I.tuple hq
  have hlen:=r'.length
  obtain ⟨o,ho,hc,n,hd⟩:=pl
  exact call_list_seq p (.inr rfl) ho hc hd (fun h' c' kp e=>fin its r' hz h' c' kp e) (by simp only [qaA]<;>omega)
theorem zfk:zaJ X (.type "tuple") (fun xs H Q=> ∃ p ys,xs=[.ref p]/\((SqL X.K H p ys/\ ∀ l,H l=none->Q (.ref l) (upd H l (.tup ys)))\/(SqT X.K H p ys/\Q (.ref p) H))):=by
 intro pins s σ H xs us Q I r h
 obtain ⟨p,ys,rfl,h⟩:=h
 obtain ⟨u,rfl,rx⟩:=zdI r
 cases rx
 rcases h with ⟨hq,q⟩ | ⟨hq,q⟩
 ·obtain ⟨its,r',pl,hz⟩:=I.list hq
  have hlen:=r'.length
  refine call_tuple_list pl.isList (fun h' kp=> ?_) (by simp only [qaA]<;>omega)
  have I1:Inv X pins σ H {s with heap:=h'}:=I.kept (t':=s.toks) kp
  have I2:Inv X pins σ (upd H h'.objs.size (.tup ys)) {s with heap:=h'.push {cls:= .type "tuple",data:= .seq its.toArray}}:=
   I1.laid (t':=s.toks) (fun b o e=>qag _ e) (qaV _) (show zbp X.prog X.w _ _ _ (.tup ys) from ⟨hz,its,r',IsTup.new _ _⟩)
  exact ⟨.ref h'.objs.size,_,I2,rfl,q _ (I1.hok.fresh (qaV _))⟩
 ·obtain ⟨its,r',pl,hz⟩:=I.tuple hq
  exact call_tuple_same pl ⟨.ref p,H,I,rfl,q⟩
def tyV (K:W.Frag) (T:String) (x:V) (H:Hp):Prop:=match x with
 | .str _=>T="str"
 | .int _=>T="int"
 | .ref p=>(T="list"/\ ∃ xs,SqL K H p xs)\/(T="tuple"/\ ∃ o,K.lookup p=some o/\o.cls= .type "tuple"/\o.dict=none)\/
   (T="dict"/\((∃ kvs,H p=some (.dK kvs))\/ ∃ kvs,H p=some (.dT kvs)))\/(T="set"/\ ∃ S n,H p=some (.set S n))
 | _=>False
theorem zpW {pins:List (Addr×Obj)} {σ:St} {H:Hp} {s:Shared} {T:String} {x:V} {v:Value} (I:Inv X pins σ H s) (r:zbE x v) (ty:tyV X.K T x H):
  s.TypeIs v T/\ ∀ a,v= .ref a-> ∃ ob,s.heap.get? a=some ob/\ob.dict=none:=by
 cases x with
 | str z=>
  obtain ⟨t,rfl⟩:=r
  cases (show T="str" from ty)
  exact ⟨typeIs_str s z t,fun _ e=>nomatch e⟩
 | int i=>
  obtain ⟨t,rfl⟩:=r
  cases (show T="int" from ty)
  exact ⟨typeIs_int s i t,fun _ e=>nomatch e⟩
 | ref p=>
  cases r
  rcases ty with ⟨rfl,xs,hq⟩ | ⟨rfl,o,hk,hc,hd⟩ | ⟨rfl,hk⟩ | ⟨rfl,S,n,hk⟩
  ·obtain ⟨its,_,pl,_⟩:=I.list hq
   refine ⟨pl.isList.typeIs,fun a e=> ?_⟩
   cases e
   obtain ⟨o,n,e,c,hd,_⟩:=pl
   exact ⟨o,e,hd⟩
  ·refine ⟨⟨o,I.kIn p o hk,hc⟩,fun a e=> ?_⟩
   cases e
   exact ⟨o,I.kIn _ o hk,hd⟩
  ·have z: ∃ o,s.heap.get? p=some o/\o.ExactDict:=by
    rcases hk with ⟨kvs,hk⟩ | ⟨kvs,hk⟩
    ·obtain ⟨_,_,_,_,o,_,_,e,ex,_⟩:=I.hok p _ hk
     exact ⟨o,e,ex⟩
    ·obtain ⟨_,_,_,_,o,_,_,e,ex,_⟩:=I.hok p _ hk
     exact ⟨o,e,ex⟩
   obtain ⟨o,e,ex⟩:=z
   refine ⟨⟨o,e,ex.1⟩,fun a e2=> ?_⟩
   cases e2
   exact ⟨o,e,ex.2.1⟩
  ·obtain ⟨o,_,_,_,e,ex,_⟩:=I.hok p _ hk
   refine ⟨⟨o,e,ex.1⟩,fun a e2=> ?_⟩
   cases e2
   exact ⟨o,e,ex.2.1⟩
 | _=>exact qa0 ty
noncomputable def tBM (K:W.Frag) (T:String) (r:V->List V->Hp->VK->Prop) (to:TE) (t:TA):TE:=fun σ H Q=>to σ H fun x H1=>tyV K T x H1/\t σ H1 fun xs H2=>r x xs H2 Q
variable {o e:Expr} {es:List Expr} {to:TE} {t:TA} {name:Str} {apos cpos:Pos} {T id:String} {r:V->List V->Hp->VK->Prop}
theorem zoh (pa:PlainAttrs T) (slot:Slot T name id) (hty:typeOf (.builtin id)=pure (.type "method_descriptor")) (hm:MtR X id r) (ho:PE X o to) (ha:PA X (e::es) t)
  (hbase:attributeBase o name X.env (eval o X.env)=eval o X.env:=by rfl)
  (hfew:((backTo cpos (starEach (e::es) X.env)).all (fun x=> !x.1) && (backToKw cpos (keywordEach [] X.env)).all (fun x=>x.1.isSome)
    && decide ((e::es).length+([]:List Keyword).length+(if ([]:List Keyword).isEmpty then 0 else 1)<30))=true:=by rfl)
  (hline:(apos.endLine==cpos.line)=true:=by rfl) (hs:starEach (e::es) X.env=(false,eval e X.env)::starEach es X.env:=by rfl) (hplain:(backTo cpos (starEach es X.env)).any (·.1)=false:=by rfl):
  PE X (.Call (.Attribute o name apos) (e::es) [] cpos) (tBM X.K T r to t):=by
 intro pins s σ H Q I h
 refine wpAny_Call_method_late hbase hfew hline rfl (thn (ho pins s σ H _ I h) fun v s1 ⟨x,H1,I1,r1,ty,q1⟩=> ?_)
 obtain ⟨h1,h2⟩:=zpW I1 r1 ty
 refine ⟨T,id,pa,slot,hty,h1,h2,?_⟩
 have hA:=ha cpos pins s1 σ H1 _ I1 q1
 rw [hs] at hA ⊢
 refine Calls.callWith_builtin (by show (false || (backTo cpos (starEach es X.env)).any (·.1))=false;rw [hplain]<;>rfl) (Calls.evalArgs_plain ?_)
 exact thn hA fun us s2 ⟨vs,H2,I2,r2,q2⟩=>hm pins s2 σ H2 x vs v us Q I2 r1 r2 q2
end
def MtM (X:Cx) (id:String) (r:V->List V->Hp->VK->Prop):Prop:=
 ∀ (pins:List (Addr×Obj)) (s:Shared) (σ:St) (H:Hp) (x:V) (xs:List V) (v:Value) (us:List Value) (Q:VK),Inv X pins σ H s->zbE x v->zaZ xs us->r x xs H Q->
  wpAny (model X.prog X.w) X.A (call (.builtin id) (v::us)) (EP X pins σ Q) X.xe s
theorem zaZ.one: ∀ {x:V} {us:List Value},zaZ [x] us-> ∃ u,us=[u]/\zbE x u
 | _,_,.cons r .nil=>⟨_,rfl,r⟩
theorem zaZ.zero: ∀ {us:List Value},zaZ [] us->us=[]
 | _,.nil=>rfl
theorem zaZ.eraseIdx: ∀ {xs:List V} {us:List Value} (i:Nat),zaZ xs us->zaZ (xs.eraseIdx i) (us.eraseIdx i)
 | _,_,_,.nil=> .nil
 | _,_,0,.cons _ t=>t
 | _,_,i+1,.cons r t=> .cons r (zaZ.eraseIdx i t)
theorem zaZ.reverse {xs:List V} {us:List Value} (h:zaZ xs us):zaZ xs.reverse us.reverse:=by
 induction h with
 | nil=>exact .nil
 | cons r t ih=>rw [List.reverse_cons,List.reverse_cons];exact zaZ.append ih (.cons r .nil)
theorem zaZ.rep {xs:List V} {us:List Value} (h:zaZ xs us): ∀ k:Nat,zaZ (List.replicate k xs).flatten (List.replicate k us).flatten
 | 0=> .nil
 | k+1=>by
  rw [List.replicate_succ,List.replicate_succ,List.flatten_cons,List.flatten_cons]
  exact zaZ.append h (zaZ.rep h k)
theorem zgn {α:Type}: ∀ (l:List α) (i:Nat),(l.eraseIdx i).length<=l.length
 | [],_=>qaV _
 | _::_,0=>Nat.le_succ _
 | _::r,i+1=>Nat.succ_le_succ (zgn r i)
theorem zgN (its:List Value): ∀ (k:Nat) (acc:List Value),
  List.foldl (fun x1 x2=>x1++x2) acc.toArray (List.replicate k its.toArray)=(acc++(List.replicate k its).flatten).toArray
 | 0,acc=>by simp
 | k+1,acc=>by
  have e:acc.toArray++its.toArray=(acc++its).toArray:=by simp
  have e2:(acc++its)++(List.replicate k its).flatten=acc++(List.replicate (k+1) its).flatten:=by
   rw [List.replicate_succ,List.flatten_cons,List.append_assoc]
  rw [<- e2, <-zgN its k (acc++its), <-e,List.replicate_succ,List.foldl_cons]
section
variable {X:Cx} {pins:List (Addr×Obj)} {σ:St} {H:Hp} {s:Shared} {l b:Addr} {xs ys zs:List V}
theorem Inv.lset {its its':List Value} {n:Nat} {f:Array Value->Array Value} {t':Nat} (I:Inv X pins σ H s) (hH:H l=some (.lst xs))
  (e:s.heap.get? l=some {cls:= .type "list",data:= .seq its.toArray n}) (hf:f its.toArray=its'.toArray) (hv:zaZ ys its') (hz:ys.length<=sizeLine):
  Inv X pins σ (upd H l (.lst ys)) {s with heap:=s.heap.update l (Obj.mapSeq f),toks:=t'}:=by
 have q:=PySem.IsL.update e f
 rw [hf] at q
 refine I.write (x:=l) (e:=l) (by rw [hH];exact trivial) (.inl rfl) (fun b' u hb hu=>(qah s.heap (Obj.mapSeq f) (Ne.symm hb)).trans hu) ⟨_,q⟩ ?_
 exact ⟨hz,its',_,hv,q⟩
theorem Inv.lnew {its:List Value} {t':Nat} (I:Inv X pins σ H s) (hv:zaZ ys its) (hz:ys.length<=sizeLine):
  Inv X pins σ (upd H s.heap.objs.size (.lst ys)) {s with heap:=s.heap.push {cls:= .type "list",data:= .seq its.toArray},toks:=t'}:=
 I.laid (fun _ _ q=>qag _ q) (qaV _) ⟨hz,its,0,hv,qar _ rfl⟩
theorem Inv.fresh (I:Inv X pins σ H s):H s.heap.objs.size=none:=I.hok.fresh (qaV _)
theorem Inv.lstM (I:Inv X pins σ H s) (hH:H l=some (.lst xs)):xs.length<=sizeLine/\ ∃ (its:List Value) (n:Nat),zaZ xs its/\xs.length=its.length/\s.heap.get? l=some {cls:= .type "list",data:= .seq its.toArray n}:=by
 obtain ⟨z,its,n,r,e⟩:=I.hok l _ hH
 exact ⟨z,its,n,r,r.length,e⟩
end
section
variable {X:Cx}
noncomputable def znE:V->List V->Hp->VK->Prop:=fun x vs H Q=> ∃ l xs y,x= .ref l/\vs=[y]/\H l=some (.lst xs)/\xs.length<sizeLine/\Q .non (upd H l (.lst (xs++[y])))
theorem zf1:MtM X "list.append" znE:=by
 intro pins s σ H x vs v us Q I rx rv h
 obtain ⟨l,xs,y,rfl,rfl,hH,hz,q⟩:=h
 cases rx
 obtain ⟨u,rfl,ru⟩:=rv.one
 obtain ⟨z,its,n,r,hl,e⟩:=I.lstM hH
 refine call_meets F.slot_list_append ⟨_,e,rfl⟩ F.entry_list_append (F.args_list_append_2 _ _) (PySem.list_append l its.toArray n u (by rw [qaA];omega)) ⟨e,?_⟩
 refine ⟨.non,_,I.lset (its':=its++[u]) hH e (by simp) (r.append (.cons ru .nil)) ?_,rfl,q⟩
 rw [qav,List.length_singleton]
 omega
noncomputable def zqo:V->List V->Hp->VK->Prop:=fun x vs H Q=> ∃ l xs i k y,x= .ref l/\vs=[.int i]/\H l=some (.lst xs)/\ -(2^63)<=i/\i<2^63/\seqIndex? i xs.length=some k/\xs[k]? = some y/\Q y (upd H l (.lst (xs.eraseIdx k)))
theorem zly:MtM X "list.pop" zqo:=by
 intro pins s σ H x vs v us Q I rx rv h
 obtain ⟨l,xs,i,k,y,rfl,rfl,hH,h1,h2,hk,hy,q⟩:=h
 cases rx
 obtain ⟨u,rfl,ru⟩:=rv.one
 obtain ⟨t,rfl⟩:=ru
 obtain ⟨z,its,n,r,hl,e⟩:=I.lstM hH
 obtain ⟨w,hw,rw'⟩:=r.get hy
 refine call_meets F.slot_list_pop ⟨_,e,rfl⟩ F.entry_list_pop (F.args_list_pop_2 _ _)
  (MeetsSeq.list_pop_at l its.toArray n i t k w (fitsIndex_both h1 h2) (by rw [qaA, <-hl];exact hk) (by rw [<- Array.getElem?_toList];exact hw) (by rw [qaA];omega)) ⟨e,?_⟩
 refine ⟨y,_,I.lset (its':=its.eraseIdx k) hH e ?_ (r.eraseIdx k) ?_,rw',q⟩
 ·show its.toArray.eraseIdxIfInBounds k=(its.eraseIdx k).toArray
  rw [List.eraseIdxIfInBounds_toArray]
 ·have:=zgn xs k
  omega
noncomputable def ztu:R2:=fun x y H Q=> ∃ l b xs zs,x= .ref l/\y= .ref b/\H l=some (.lst xs)/\H b=some (.lst zs)/\xs.length+zs.length<=sizeLine/\ ∀ p,H p=none->Q (.ref p) (upd H p (.lst (xs++zs)))
theorem zqF:OpR X (binaryOp .Add) ztu:=by
 intro pins s σ H x y v u Q I rx ry h
 obtain ⟨l,b,xs,zs,rfl,rfl,hH,hB,hz,q⟩:=h
 cases rx
 cases ry
 obtain ⟨z,its,n,r,hl,e⟩:=I.lstM hH
 obtain ⟨z2,its2,n2,r2,hl2,e2⟩:=I.lstM hB
 refine PySem.P.add_list e e2 ?_ (by rw [qaA,qaA];omega)
 have ea:its.toArray++its2.toArray=(its++its2).toArray:=by simp
 rw [ea]
 exact ⟨.ref _,_,I.lnew (t':=s.toks) (r.append r2) (by rw [qav];omega),rfl,q _ I.fresh⟩
theorem zoB {α:Type} (xs:List α) (k:Nat):(List.replicate k xs).flatten.length=k*xs.length:=by
 induction k with
 | zero=>simp
 | succ k ih=>rw [List.replicate_succ,List.flatten_cons,qav,ih,Nat.succ_mul,Nat.add_comm]
end
section
variable {prog:Program} {w:World} {A:Around} {E:Value->Shared->Prop} {s:Shared}
end
section
variable {X:Cx}
end
end L2
namespace Att
open PySem PySem.W PySem.Calls PyProof.Rows
theorem zet {P:Params} {h:Heap}: ∀ (ns:List Int) (vs:List Value),WellAll P h vs (ns.map WData.int)->IntsAre vs ns:=by
 intro ns
 induction ns with
 | nil=>
  intro vs w
  rw [List.map_nil] at w
  cases w
  exact .nil
 | cons n ns ih=>
  intro vs w
  rw [qaM] at w
  cases w with
  | cons a b=>
   cases a
   exact .cons _ _ (ih _ b)
theorem zj1 {l:OpenLaw} {n:Nat} (hn:l.most=some n) {P:Params} {h:Heap} {args:List WData} {vals:List Value}
  (hpre:l.row.toRowW.claim.pre args=true) (hwl:WellAll P h vals args):
  ∃ a vs ns,vals=[Value.ref a]/\args=[WData.list (ns.map WData.int)]/\h.get? a=some {cls:= .type "list",data:= .seq vs.toArray}/\IntsAre vs ns/\ns.length<=n:=by
 have hsh:WShape.hasAll [] args [.list .int]=true:=(pre_splitW hpre).1
 have hc:l.pre.holds [] {args:=args}=true:=(pre_splitW hpre).2
 obtain ⟨d,r,rfl,h1,h2⟩:=hasAllW_cons hsh
 obtain rfl:=hasAllW_nil h2
 obtain ⟨xs,rfl,h3⟩:=hasW_list h1
 obtain ⟨ns,rfl⟩:=items_int h3
 have hlen:ns.length<=n:=by
  unfold OpenLaw.pre at hc
  have h4:(WTm.not (.lt (.lit (.int (n:Int))) (.len (.arg 0)))).holds [] {args:=[.list (ns.map .int)]}=true:=by
   have h4:=(holds_andW hc).1
   rw [hn] at h4
   exact h4
  have h5:=condW_of h4 (w_not (w_lt w_lit (w_len_list (w_arg rfl))))
  rw [qaH] at h5
  refine Nat.le_of_not_lt fun q=> ?_
  have q':(n:Int)<((ns.length:Nat):Int):=by omega
  first
   | (rw [decide_eq_true q'] at h5;exact absurd h5 (by decide))
   | (simp at h5;omega)
 cases hwl with
 | cons w1 w2=>
  cases w2
  cases w1 with
  | list ho hall=>exact ⟨_,_,ns,rfl,rfl,ho,zet ns _ hall,hlen⟩
theorem zj4 (l:OpenLaw) (args:List WData):l.row.toRowW.claim.post args (.bool true) args=true:=
 postW_of (r:=l.row.toRowW) (X:=(true==true))
  (show WShape.has [] (.bool true) .bool=true by first | rfl | decide | simp [WShape.has,WShape.arms,WShape.armsAll])
  (show (WTm.eq .res (.lit (.bool true))).value [] {args:=args,res:=some (.bool true),after:=args}=some (.bool (true==true)) from w_eq_bool (w_res rfl) w_lit) rfl
theorem zhk {l:OpenLaw} {n:Nat} {q:Program} {loose:List Str} {XP:(Str->Option Value)->Heap->Prop} {YP:World->Heap->Prop} {d:DefRec}
  (hn:l.most=some n) (hdf:d.params.defaults=[])
  (call: ∀ (w:World) (s₀ s₁:Shared) (mg mb:Str->Option Value) (fa:Addr) (o:Obj) (pm cd doc:Value) (a:Addr) (vs:List Value) (ns:List Int),
    Ground q loose [] XP w s₀ mg mb s₁.heap->YP w s₁.heap->
    s₁.heap.get? fa=some o->o.data= .func (docDef d.name d.params d.body d.scope pm cd doc)->s₁.heap.CodeRec cd d.name->mg d.name=some (.ref fa)->
    s₁.heap.get? a=some {cls:= .type "list",data:= .seq vs.toArray}->IntsAre vs ns->ns.length<=n->s₁.gens= #[]->
    codeAny (model l.prog w) callerA (.call (.ref fa) ⟨[.ref a],[]⟩) (fun r s'=>r= .ok (.ret (.bool true))/\OldK s₁.heap s'.heap/\s'.os=s₁.os/\AllBare s'.gens) s₁):
  WalkO q loose XP YP l.row.toRowW d [] (fun f vs=>PySem.call f vs):=by
 intro w s₀ s₁ mg mb G Y fa o pm cd doc dV kV ho hd hcd hD hmg hg args vals as hpre hlay hrd hwl hlo
 obtain rfl:dV= .none:=Dflts.none hD hdf
 obtain rfl:kV= .none:=Dflts.noKw hD
 obtain ⟨a,vs,ns,rfl,rfl,hobj,hints,hlen⟩:=zj1 hn hpre hwl
 refine enter_call (codeAny_mono (call w s₀ s₁ mg mb fa o pm cd doc a vs ns G Y ho (fd_plain hd) hcd hmg hobj hints hlen hg) fun r s' hq=> ?_)
 obtain ⟨rfl,h2,h3,h4⟩:=hq
 exact ⟨.inl ⟨.bool true,.bool true,[],rfl,fun _=>rfl,.bool true,zj4 l _,fun _=>⟨List.Pairwise.nil,fun _ hm=>(nomatch hm)⟩⟩,h2,h3,h4⟩
section
variable {prog:Program} {w:World} {A:Around} {E:Value->Shared->Prop} {s:Shared} {K:Frag}
end
end Att
namespace L2
open PySem PySem.Spec PyProof.Rows
theorem zeF: ∀ {vs:List Value} {ns:List Int},IntsAre vs ns->zaZ (ns.map V.int) vs
 | _,_,.nil=> .nil
 | _,_,.cons n t h=> .cons ⟨t,rfl⟩ (zeF h)
def zrI (H:Hp):Prop:= ∀ b,H b=none\/ ∃ o xs,H b=some (.frz o (.lst xs))
theorem zkW {P:Program} {w:World} {K:W.Frag} {mg mb:Str->Option Value} {CX:CXT} {k:Nat} {fa a:Addr} {fd:FuncData} {x:Str} {sp:Sp} {s₁:Shared} {vs:List Value} {ns:List Int}
  (KX:K.In s₁.heap) (hns:s₁.heap.Ns mainGlobals mg) (hb:s₁.heap.Ns builtinsNs mb) (hbb: ∀ x:Str,x≠"__name__"->mb x=bootBuiltins x) (hlim:s₁.heap.NoLimit) (hg:s₁.gens= #[])
  (ha:s₁.heap.get? a=some {cls:= .type "list",data:= .seq vs.toArray}) (hi:IntsAre vs ns) (hl:ns.length<=sizeLine) (hr:zdf k callerA)
  (F: ∀ base:Heap,K.In base->base.Ns mainGlobals mg->zbr P w K mg base CX k fa fd [x] sp) (hbind: ∀ (s:Shared) (u:Value),BindsTo s fd ⟨[u],[]⟩ [(x,u)])
  (hsp: ∀ H:Hp,zrI H->SqL K H a (ns.map V.int)->sp [.ref a] H (fun v _=>v= .bl true) fun _ _ _=>False)
  (hCX: ∀ H e s',CX [] H s₁ (fun _ _ _=>False) e s'->False):
  codeAny (model P w) callerA (.call (.ref fa) ⟨[.ref a],[]⟩) (fun r s'=>r= .ok (.ret (.bool true))/\OldK s₁.heap s'.heap/\s'.os=s₁.os/\AllBare s'.gens) s₁:=by
 have rv:=zeF hi
 have lenV:=hi.length
 have core: ∀ H:Hp,zrI H->SqL K H a (ns.map V.int)->HOk P w H s₁.heap->(∀ b,H b≠none->b=a)->(H a≠none->K.lookup a=none)->
   codeAny (model P w) callerA (.call (.ref fa) ⟨[.ref a],[]⟩) (fun r s'=>r= .ok (.ret (.bool true))/\OldK s₁.heap s'.heap/\s'.os=s₁.os/\AllBare s'.gens) s₁:=by
  intro H hO hS hok hA hK
  have base_of: ∀ {b:Addr} {o:Obj},s₁.heap.get? b=some o->H b=none->(zk2 s₁.heap H).get? b=some o:=fun e n=>zlU e n
  have noA: ∀ {b:Addr} {o:Obj} {es:Array DictEntry} {ep:Nat},s₁.heap.get? b=some o->o.data= .dict es ep->H b=none:=fun {b o es ep} e d=>by
   cases q:H b with
   | none=>rfl
   | some u=>
    have e':b=a:=hA b (by rw [q];simp)
    subst e'
    rw [ha] at e;cases e
    have d':Data.seq vs.toArray _=Data.dict es ep:=d
    cases d'
  have nsK: ∀ {b:Addr} {m:Str->Option Value},s₁.heap.Ns b m->(zk2 s₁.heap H).Ns b m:=fun {b m} ⟨o,es,ep,e,d,r⟩=>⟨o,es,ep,base_of e (noA e d),d,r⟩
  have hKb:K.In (zk2 s₁.heap H):=fun b o e=>base_of (KX b o e) (by
    cases q:H b with
    | none=>rfl
    | some u=>
      have e':b=a:=hA b (by rw [q];simp)
      subst e'
      rw [hK (by rw [q];simp)] at e;cases e)
  have hM:Mod K mg (zk2 s₁.heap H):=⟨hKb,nsK hns,⟨mb,nsK hb,hbb⟩,let ⟨mc,h1,h2⟩:=hlim;⟨mc,nsK h1,h2⟩⟩
  have e0:zl9 P w K mg (zk2 s₁.heap H) callerA [] s₁ H:=⟨rfl,hM,fun b o e=>zng e,Nat.le_of_eq (zjI _ _),trivial,fun b hb=>absurd (show b∈([]:List Addr) from hb) (by simp),hok,.of_eq hg,.inl rfl⟩
  refine codeAny_mono ((F _ hKb (nsK hns)).run callerA [] s₁ H ⟨[.ref a],[]⟩ [.ref a] [.ref a] _ _ hr e0 (hbind s₁ (.ref a)) (.cons rfl .nil) (hsp H hO hS)) fun r s' h=> ?_
  cases r with
  | error e=>exact (hCX H e s' h).elim
  | ok fl=>
   cases fl with
   | next=>exact qa0 h
   | brk=>exact qa0 h
   | cont=>exact qa0 h
   | ret u=>
    obtain ⟨v,H',os,bare,un,hok',r',q⟩:=h
    have q':v= .bl true:=q
    subst q'
    obtain rfl:u=Value.bool true:=r'
    refine ⟨rfl,OldK.of_keep fun b o e=> ?_,os,bare⟩
    cases q:H b with
    | none=>exact un.keep b o e q (by intro z;exact absurd (show b∈([]:List Addr) from z) (by simp)) (by simp)
    | some u=>
     rcases hO b with z | ⟨ob,xs,z⟩
     ·rw [q] at z;cases z
     ·have z2:=un.frzs b ob _ z
      obtain ⟨e1,_⟩:=hok b _ z
      obtain ⟨e2,_⟩:=hok' b _ z2
      rw [e] at e1;cases e1
      exact e2
 cases hk:K.lookup a with
 | some o=>
  have e:=KX a o hk
  rw [ha] at e
  cases e
  refine core (fun _=>none) (fun _=> .inl rfl) (.inr ⟨_,vs.toArray,_,hk,rfl,rfl,rfl,by rw [qaA,lenV];exact hl,by simpa using rv⟩) (fun b u z=>by have z':(none:Option HO)=some u:=z;cases z') (fun b z=>absurd rfl z) fun z=>absurd rfl z
 | none=>
  refine core (fun b=>if b=a then some (.frz {cls:= .type "list",data:= .seq vs.toArray} (.lst (ns.map V.int))) else none) (fun b=> ?_) (.inl (.inr ⟨{cls:= .type "list",data:= .seq vs.toArray},qa4 rfl⟩)) (fun b u z=> ?_) (fun b z=> ?_) fun _=>hk
  ·by_cases hb:b=a
   ·exact .inr ⟨_,_,qa4 hb⟩
   ·exact .inl (qa5 hb)
  ·by_cases hb:b=a
   ·have z':=(qa4 hb).symm.trans z
    cases z'
    subst hb
    exact ⟨ha,by rw [qaH];exact hl,vs,_,rv,ha⟩
   ·have z':=(qa5 hb).symm.trans z
    cases z'
  ·by_cases hb:b=a
   ·exact hb
   ·exact absurd (qa5 hb) z
theorem znO {l:W.OpenLaw} {n k:Nat} {q:Program} {loose:List Str} {XP:(Str->Option Value)->Heap->Prop} {YP:World->Heap->Prop} {d:DefRec} {K:Params->W.Frag} {CX:World->CXT} {sp:World->Sp} {x:Str}
  (hn:l.most=some n) (hn2:n<=sizeLine) (hdf:d.params.defaults=[]) (hr:zdf k callerA)
  (hY: ∀ (w:World) (h:Heap),YP w h->(K w.params).In h)
  (F: ∀ (w:World) (mg:Str->Option Value) (fa:Addr) (h:Heap),(K w.params).In h->h.Ns mainGlobals mg->mg d.name=some (.ref fa)->
    ∃ fd:FuncData,(∀ (s:Shared) (u:Value),BindsTo s fd ⟨[u],[]⟩ [(x,u)])/\
      ∀ base:Heap,(K w.params).In base->base.Ns mainGlobals mg->zbr l.prog w (K w.params) mg base (CX w) k fa fd [x] (sp w))
  (hsp: ∀ (w:World) (H:Hp) (a:Addr) (ns:List Int),ns.length<=n->zrI H->SqL (K w.params) H a (ns.map V.int)->sp w [.ref a] H (fun v _=>v= .bl true) fun _ _ _=>False)
  (hCX: ∀ (w:World) (H:Hp) (s:Shared) (e:Value) (s':Shared),CX w [] H s (fun _ _ _=>False) e s'->False):
  W.WalkO q loose XP YP l.row.toRowW d [] (fun f vs=>PySem.call f vs):=by
 refine Att.zhk hn hdf fun w s₀ s₁ mg mb fa o pm cd doc a vs ns G Y ho hd hcd hmg hobj hints hlen hg=> ?_
 have KX:=hY w _ Y
 obtain ⟨fd,hb,hF⟩:=F w mg fa _ KX G.T.g hmg
 exact zkW KX G.T.g G.T.b G.T.builtins G.T.nolimit hg hobj hints (qaS hlen hn2) hr hF hb (fun H hO hS=>hsp w H a ns hlen hO hS) fun H e s'=>hCX w H s₁ e s'
noncomputable def zdZ (s:Stmt):Arguments:=match s with
 | .FunctionDef _ a _ _ _ _ _ _ _ _=>a
 | _=>{posonlyargs:=[],args:=[],vararg:=none,kwonlyargs:=[],kw_defaults:=[],kwarg:=none,defaults:=[]}
noncomputable def zcm (s:Stmt):List Stmt:=match s with
 | .FunctionDef _ _ b _ _ _ _ _ _ _=>b
 | _=>[]
noncomputable def zae (s:Stmt):Scope:=match s with
 | .FunctionDef _ _ _ _ _ _ sc _ _ _=>sc
 | _=>{kind:= .function,names:=[],isGenerator:=false,isCoroutine:=false}
noncomputable abbrev CX0:CXT:=fun _ _ _ _ _ _=>False
noncomputable abbrev E0:XK:=fun _ _ _=>False
theorem zqB {X:Cx}:zd8 CX0 X E0:=fun _ _ _ _ _ _ _ h=>h.elim
structure Fun (K:W.Frag) (x qual:Str) (st:Stmt) (f:Addr) (fd:FuncData):Prop where
 ex: ∃ (oc:Value) (od:Option Addr) (kV doc pm:Value) (an:Option Addr) (cdv ct:Value) (osl:Array (Option Value)),
  fd=W.fnOf x qual (zdZ st) (zcm st) (zae st) .none kV doc pm an cdv ct/\K.lookup f=some ⟨oc,od,.func fd,osl⟩/\W.codeIn K cdv qual=true
 kp:W.keepIn K (.ref f)=true
section
variable {P:Program} {w:World} {K:W.Frag} {mg:Str->Option Value} {base:Heap}
theorem Fun.ok {x qual:Str} {st:Stmt} {f:Addr} {fd:FuncData} {N ps:List Str} {k:Nat} {sp:Sp} (F:Fun K x qual st f fd) (S:zas N ps (zae st)) (len: ∀ vs H Q E,sp vs H Q E->vs.length=ps.length)
  (hbody: ∀ (cdv:Value) (A:Around) (outer:List Env) (s:Shared) (H:Hp) (vs:List V) (Q:VK) (E:XK),zdf k (A.deeper (envOfC qual (zae st) s.heap.objs.size f cdv))->sp vs H Q E->
    ∃ t,PSs (zg9 CX0 P w K mg base N qual (zae st) f cdv A outer s H E).nox (zcm st) t/\t {nx:=fun _ H'=>Q .non H',rt:=Q} (zdP N vs) H):zbr P w K mg base CX0 (k+1) f fd ps sp:=by
 obtain ⟨oc,od,kV,doc,pm,an,cdv,ct,osl,rfl,lk,hcd⟩:=F.ex
 refine zo5 lk hcd S len fun A outer s H vs Q E hr hsp=> ?_
 obtain ⟨t,h,q⟩:=hbody cdv A outer s H vs Q E hr hsp
 exact ⟨t,h.nox,q⟩
theorem Fun.binds {x qual:Str} {st:Stmt} {f:Addr} {fd:FuncData} {ps:List Str} (F:Fun K x qual st f fd)
  (h: ∀ (kV doc pm:Value) (an:Option Addr) (cdv ct:Value) (us:List Value),us.length=ps.length->bindArgs (W.fnOf x qual (zdZ st) (zcm st) (zae st) .none kV doc pm an cdv ct) ⟨us,[]⟩=pure (ps.zip us)):zaM K fd ps []:=by
 obtain ⟨oc,od,kV,doc,pm,an,cdv,ct,osl,rfl,lk,hcd⟩:=F.ex
 exact .all (h kV doc pm an cdv ct)
theorem zaO {x qual:Str} {st:Stmt} {f:Addr} {oc:Value} {od an:Option Addr} {osl:Array (Option Value)} {kV doc pm cdv ct:Value} (l:K.lookup f=some ⟨oc,od,.func (W.fnOf x qual (zdZ st) (zcm st) (zae st) .none kV doc pm an cdv ct),osl⟩)
  (c:W.codeIn K cdv qual=true) (k:W.keepIn K (.ref f)=true):Fun K x qual st f (W.fnOf x qual (zdZ st) (zcm st) (zae st) .none kV doc pm an cdv ct):=⟨⟨oc,od,kV,doc,pm,an,cdv,ct,osl,rfl,l,c⟩,k⟩
end
section
variable {X:Cx}
theorem pv (i:Nat) {x:Str} {pos:Pos} (hN:X.N[i]? = some x:=by rfl) (hv:Vis X.env.scope x:=by first | exact Or.inl rfl | exact Or.inr (Or.inl rfl) | exact Or.inr (Or.inr rfl)) (hd:(x==("__debug__":Str))=false:=by decide)
  (hcd:(x==("__classdict__":Str))=false:=by decide):PE X (.Name x pos) (zs7 i):=zme hN hv hd hcd
end
theorem zrs {A B:Prop} (h:B):if false=true then A else B:=by
 rw [qa5 Bool.false_ne_true]
 exact h
theorem zrv {A B:Prop} (h:A):if true=true then A else B:=by
 rw [qa4 rfl]
 exact h
def zkJ (H H':Hp):Prop:= ∀ b o,H b=some o->H' b=some o
theorem zkJ.refl (H:Hp):zkJ H H:=fun _ _ h=>h
theorem zkJ.trans {H H1 H2:Hp} (a:zkJ H H1) (b:zkJ H1 H2):zkJ H H2:=fun c o h=>b c o (a c o h)
theorem zkJ.free {H H':Hp} (e:zkJ H H') {l:Addr} (h:H' l=Option.none):H l=Option.none:=by
 cases q:H l with
 | none=>rfl
 | some o=>
  rw [e l o q] at h
  cases h
theorem zkJ.seq {K:W.Frag} {H H':Hp} {a:Addr} {xs:List V} (e:zkJ H H') (h:SqL K H a xs):SqL K H' a xs:=by
 rcases h with (h | ⟨o,h⟩) | h
 ·exact .inl (.inl (e _ _ h))
 ·exact .inl (.inr ⟨o,e _ _ h⟩)
 ·exact .inr h
noncomputable def zbi (cells:List (Str×Addr)):List (Str×NameKind)->List (Str×Addr)->List (Str×Addr)
 | [],acc=>acc
 | (n,k)::r,acc=>if k== .free then zbi cells r ((n,(cells.lookup n).getD 0)::acc) else zbi cells r acc
theorem zdJ {scope:Scope} {env:Env} (h: ∀ x∈scope.names,x.2= .free-> ∃ c,env.cells.lookup x.1=some c):closureFor scope env=pure (zbi env.cells scope.names []):=by
 simp only [closureFor]
 generalize hn:scope.names=names at h
 clear hn
 generalize hacc:([]:List (Str×Addr))=acc
 clear hacc
 have key: ∀ (names:List (Str×NameKind)) (acc:List (Str×Addr)),(∀ x∈names,x.2= .free-> ∃ c,env.cells.lookup x.1=some c)->
   (forIn (m:=Sem) names acc fun (x:Str×NameKind) (r:List (Str×Addr))=>(match x with
     | (name,kind)=>if (kind==NameKind.free)=true then do
         let a<-cellOf env name
         pure (ForInStep.yield ((name,a)::r))
       else pure (ForInStep.yield r)))=pure (zbi env.cells names acc):=by
  intro names
  induction names with
  | nil=>intro acc _;rfl
  | cons x r ih=>
   intro acc h
   obtain ⟨n,k⟩:=x
   rw [List.forIn_cons]
   unfold zbi
   by_cases hk:(k==NameKind.free)=true
   ·simp only [hk,if_true]
    obtain ⟨c,hc⟩:=h (n,k) qau (by simpa using hk)
    have e:cellOf env n=pure c:=by unfold cellOf;rw [show env.cells.lookup n=some c from hc]
    rw [e,show (env.cells.lookup n).getD 0=c by rw [show env.cells.lookup n=some c from hc];rfl]
    exact ih _ fun y hy=>h y (qan _ hy)
   ·simp only [hk,if_false]
    exact ih _ fun y hy=>h y (qan _ hy)
 have k:=key names acc h
 refine Eq.trans (congrArg (fun (z:Sem (List (Str×Addr)))=>z>>=fun r=>pure r) k) ?_
 rfl
theorem zd1 {cells:List (Str×Addr)}: ∀ {names:List (Str×NameKind)} {acc:List (Str×Addr)} {n:Str} {c:Addr},(n,c)∈zbi cells names acc->
  (n,c)∈acc\/((n,NameKind.free)∈names/\c=(cells.lookup n).getD 0)
 | [],_,_,_,h=> .inl h
 | (y,k)::r,acc,n,c,h=>by
  unfold zbi at h
  by_cases hk:(k==NameKind.free)=true
  ·rw [qa4 hk] at h
   have ek:k= .free:=by simpa using hk
   subst ek
   rcases zd1 h with h | ⟨h1,h2⟩
   ·rcases qaP.mp h with e | h
    ·cases e
     exact .inr ⟨qau,rfl⟩
    ·exact .inl h
   ·exact .inr ⟨qan _ h1,h2⟩
  ·rw [qa5 hk] at h
   rcases zd1 h with h | ⟨h1,h2⟩
   ·exact .inl h
   ·exact .inr ⟨qan _ h1,h2⟩
theorem zdl {cells:List (Str×Addr)} {x:Str} {c:Addr} (hc:cells.lookup x=some c): ∀ (names:List (Str×NameKind)) (acc:List (Str×Addr)),((x,NameKind.free)∈names\/acc.lookup x=some c)->(zbi cells names acc).lookup x=some c
 | [],acc,h=>h.elim (fun z=>nomatch z) id
 | (y,k)::r,acc,h=>by
  unfold zbi
  by_cases hk:(k==NameKind.free)=true
  ·rw [qa4 hk]
   refine zdl hc r _ ?_
   by_cases hy:x=y
   ·subst hy
    exact .inr (by rw [List.lookup_cons,beq_self_eq_true,hc];rfl)
   ·rcases h with h | h
    ·rcases qaP.mp h with e | h
     ·cases e;exact absurd rfl hy
     ·exact .inl h
    ·refine .inr ?_
     rw [List.lookup_cons,show (x==y)=false by simpa using hy]
     exact h
  ·rw [qa5 hk]
   refine zdl hc r _ ?_
   rcases h with h | h
   ·rcases qaP.mp h with e | h
    ·cases e;exact absurd rfl hk
    ·exact .inl h
   ·exact .inr h
theorem zcE: ∀ {names:List (Str×NameKind)} {n:Nat} {acc:List (Str×Addr)} {x:Str} {c:Addr},(x,c)∈cellsFrom n names acc->(x,c)∈acc\/(n<=c/\(x,NameKind.cell)∈names)
 | [],_,_,_,_,h=> .inl h
 | (y,k)::r,n,acc,x,c,h=>by
  unfold cellsFrom at h
  by_cases hk:(k==NameKind.cell)=true
  ·rw [qa4 hk] at h
   have ek:k= .cell:=by simpa using hk
   subst ek
   rcases zcE h with h | ⟨h,h'⟩
   ·rcases qaP.mp h with e | h
    ·cases e;exact .inr ⟨qaV _,qau⟩
    ·exact .inl h
   ·exact .inr ⟨Nat.le_of_succ_le h,qan _ h'⟩
  ·rw [qa5 hk] at h
   rcases zcE h with h | ⟨h,h'⟩
   ·exact .inl h
   ·exact .inr ⟨h,qan _ h'⟩
theorem zb1 {x:Str} {c:Addr}: ∀ (names:List (Str×NameKind)) (n:Nat) (acc:List (Str×Addr)),(x,NameKind.cell)∉names->acc.lookup x=some c->(cellsFrom n names acc).lookup x=some c
 | [],_,_,_,h=>h
 | (y,k)::r,n,acc,hn,h=>by
  unfold cellsFrom
  by_cases hk:(k==NameKind.cell)=true
  ·rw [qa4 hk]
   have ek:k= .cell:=by simpa using hk
   subst ek
   refine zb1 r _ _ (fun z=>hn (qan _ z)) ?_
   have hy:x≠y:=fun e=>hn (by rw [e];exact qau)
   rw [List.lookup_cons,show (x==y)=false by simpa using hy]
   exact h
  ·rw [qa5 hk]
   exact zb1 r _ _ (fun z=>hn (qan _ z)) h
theorem zb3: ∀ (names:List (Str×NameKind)) (n:Nat) (acc:List (Str×Addr)),(∀ x c,(x,c)∈acc->c<n)->(acc.Pairwise fun x y=>x.2≠y.2)->(cellsFrom n names acc).Pairwise fun x y=>x.2≠y.2
 | [],_,_,_,h=>h
 | (y,k)::r,n,acc,hlt,h=>by
  unfold cellsFrom
  by_cases hk:(k==NameKind.cell)=true
  ·rw [qa4 hk]
   refine zb3 r (n+1) _ (fun x c hm=> ?_) (qay.mpr ⟨fun z hz e=> ?_,h⟩)
   ·rcases qaP.mp hm with e | hm
    ·cases e;exact Nat.lt_succ_self _
    ·exact Nat.lt_succ_of_lt (hlt x c hm)
   ·have:=hlt z.1 z.2 hz
    have e':n=z.2:=e
    exact qaN _ (e'▸this)
  ·rw [qa5 hk]
   exact zb3 r n acc hlt h
noncomputable def znD (env:Env) (scope:Scope) (C:Addr):Env:=
 {scope:=relabel scope env,locals:=C,globals:=env.globals,cells:=cellsFrom (C+1) scope.names (zbi env.cells scope.names []),qual:=env.qual,func:=none,code:=env.code,frame:=env.frame,builtins:=env.builtins}
section
variable {M:Model} {A:Around} {E:Value->Shared->Prop} {s:Shared}
theorem zeT {scope:Scope} {env:Env} {cl:List (Str×Addr)} {Q:Env->Shared->Prop}
  (hQ: ∀ h',(∀ b o,s.heap.get? b=some o->h'.get? b=some o)->h'.Ns s.heap.objs.size (fun _=>none)->(∀ x c,(x,NameKind.cell)∈scope.names->(x,c)∈cellsFrom (s.heap.objs.size+1) scope.names cl->(x,c)∉cl->h'.IsCell c none)->
    Q {scope,locals:=s.heap.objs.size,globals:=env.globals,cells:=cellsFrom (s.heap.objs.size+1) scope.names cl,qual:=env.qual,func:=none,code:=env.code,frame:=env.frame,builtins:=env.builtins} {s with heap:=h'}):
  wpAny M A (newFunctionEnv scope env.globals cl [] env.qual none .none (some env)) Q E s:=by
 simp only [newFunctionEnv,Option.isSome_some,if_true]
 refine qaW (wpAny_alloc ?_)
 refine qaW (wpAny_layCells _ (fun name kind cells=>by cases hkc:kind==NameKind.cell<;>simp [hkc]) _ _ _ _ ?_)
 simp only [List.forIn_nil]
 refine qaW (qaX (qaX ?_))
 rw [show ({s with heap:=s.heap.push {cls:= .type "dict",data:= .dict #[]}}:Shared).heap.objs.size=s.heap.objs.size+1 from qaL ..]
 have key: ∀ (names:List (Str×NameKind)) (h:Heap) (acc:List (Str×Addr)) (x:Str) (c:Addr),(x,c)∈cellsFrom h.objs.size names acc->(x,c)∉acc->(pushCells h names).IsCell c none:=by
  intro names
  induction names with
  | nil=>intro h acc x c hm hn;exact absurd hm hn
  | cons y r ih=>
   intro h acc x c hm hn
   obtain ⟨n,k⟩:=y
   unfold cellsFrom at hm
   unfold pushCells
   by_cases hk:(k==NameKind.cell)=true
   ·rw [qa4 hk] at hm ⊢
    by_cases hin:(x,c)∈((n,h.objs.size)::acc)
    ·rcases qaP.mp hin with e | e
     ·cases e
      exact ⟨_,pushCells_keeps _ _ _ _ (qar _ rfl),rfl⟩
     ·exact absurd e hn
    ·refine ih (h.push {cls:= .type "cell",data:= .cell none}) ((n,h.objs.size)::acc) x c ?_ hin
     rw [qaL]
     exact hm
   ·rw [qa5 hk] at hm ⊢
    exact ih h acc x c hm hn
 refine hQ _ (fun b o e=>pushCells_keeps _ _ b o (qag _ e)) ((Heap.Ns.new s.heap (.type "dict")).keeps (pushCells_keeps _ _)) fun x c _ hm hn=> ?_
 refine key scope.names _ cl x c ?_ hn
 rw [qaL]
 exact hm
end
section
variable {prog:Program} {w:World} {A:Around} {E:Value->Shared->Prop} {R:Result->Shared->Prop} {s:Shared}
theorem zgr {elt target iter:Expr} {ifs:List Expr} {scope:Scope} {pos:Pos} {it acc:Value} {env:Env} (I:Nat->Shared->Prop)
  (turn: ∀ n s,I n s->wpAny (model prog w) A (pyNext it) (fun r s₁=>match r with
    | none=>R (.ok .next) s₁
    | some v=>wpAny (model prog w) A (letOwnedTupleGo target it v) (fun _ s₁'=>wpAny (model prog w) A (assign target env v) (fun _ s₂=>
        wpAny (model prog w) A (forIn ifs true fun c r=>if r=true then do let ok<-isTrue c env (eval c env);pure (ForInStep.yield ok) else pure (ForInStep.yield r)) (fun ok s₃=>
          if ok=true then wpAny (model prog w) A (eval elt env) (fun x s₄=>
            wpAny (model prog w) A (call (.builtin "list.append") [acc,x]) (fun _ s₅=> ∃ m,m<n/\I m s₅) (fun _ _=>False) s₄) (fun _ _=>False) s₃
          else ∃ m,m<n/\I m s₃) (fun _ _=>False) s₂) (fun _ _=>False) s₁') (fun _ _=>False) s₁) (fun _ _=>False) s)
  (n:Nat) (h:I n s):
  codeAny (model prog w) A (.compLoop (.ListComp elt [⟨target,iter,ifs,0⟩] scope pos) 0 it acc env) R s:=by
 refine codeAny_loop rfl I (fun n s hI=> ?_) n h
 show wpAny _ A ((compTurn (.ListComp elt [⟨target,iter,ifs,0⟩] scope pos) 0 it acc env).onRaise (fun x=>do noteFrame x env;theTreesLotGoes x)) _ _ s
 refine wpAny_noted ?_
 rw [compTurn_list]
 refine qaW (wpAny_standAt (qaW (qaZ (turn n s hI) (fun r s₁ h₁=> ?_) fun _ _ h'=>h'.elim)))
 cases r with
 | none=>exact qaX h₁
 | some v=>
  refine qaW (qaZ h₁ (fun _ s₁' h₁'=> ?_) fun _ _ h'=>h'.elim)
  refine qaW (qaZ h₁' (fun _ s₂ h₂=>qaW (qaZ h₂ (fun ok s₃ h₃=> ?_) fun _ _ h'=>h'.elim)) fun _ _ h'=>h'.elim)
  cases ok with
  | false=>exact qaX ⟨rfl,h₃⟩
  | true=>
   exact qaW (qaW (qaZ h₃ (fun x s₄ h₄=>qaW (qaZ h₄ (fun _ s₅ h₅=>qaX (qaX ⟨rfl,h₅⟩)) fun _ _ h'=>h'.elim)) fun _ _ h'=>h'.elim))
end
noncomputable abbrev cxB (X:Cx) (scope:Scope) (N:List Str) (s:Shared) (H:Hp) (fp:List Addr):Cx:=
 {prog:=X.prog,w:=X.w,K:=X.K,mg:=X.mg,base:=X.base,A:=X.A,N:=N,s₀:=s,H₀:=H,env:=znD X.env scope s.heap.objs.size,outer:=X.stack,stack:=X.stack,ex:=fp,
   fn:=fun x=>scope.names.lookup x==some .cell,calm:=X.calm,pn:=[],xe:=fun _ _=>False}
noncomputable def zmB (Xn:List (Str×NameKind)) (XN:List Str) (names:List (Str×NameKind)) (N:List Str) (src:List (Option Nat)):Bool:=
 decide N.Nodup && decide (names.map (·.1)).Nodup && (src.length==N.length) &&
 names.all (fun x=>x.2 != .local || names.lookup x.1==some .local) &&
 names.all (fun x=>x.2 != .cell || names.lookup x.1==some .cell) &&
 names.all (fun x=>x.2 != .free || Xn.lookup x.1==some .cell || Xn.lookup x.1==some .free) &&
 (N.zip src).all (fun p=>match p.2 with
   | none=>true
   | some i=>XN[i]? == some p.1 && names.lookup p.1==some .free)
structure BOk (X:Cx) (scope:Scope) (N:List Str) (src:List (Option Nat)):Prop where
 kind:scope.kind= .function
 nd:N.Nodup
 keys:(scope.names.map (·.1)).Nodup
 len:src.length=N.length
 locs: ∀ x∈scope.names,x.2= .local->scope.names.lookup x.1=some .local
 cels: ∀ x∈scope.names,x.2= .cell->scope.names.lookup x.1=some .cell
 free: ∀ x∈scope.names,x.2= .free->X.env.kindOf x.1=some .cell\/X.env.kindOf x.1=some .free
 src: ∀ (k i:Nat) (x:Str),src[k]? = some (some i)->N[k]? = some x->X.N[i]? = some x/\scope.names.lookup x=some .free
theorem BOk.of {X:Cx} {scope:Scope} {N:List Str} {src:List (Option Nat)} {Xn:List (Str×NameKind)} {XN:List Str} (hk:scope.kind= .function) (hX:X.env.scope.names=Xn) (hN:X.N=XN)
  (h:zmB Xn XN scope.names N src=true):BOk X scope N src:=by
 unfold zmB at h
 simp only [qaG,qaD,List.all_eq_true,beq_iff_eq] at h
 obtain ⟨⟨⟨⟨⟨⟨h1,h2⟩,h3⟩,h4⟩,h4'⟩,h5⟩,h6⟩:=h
 refine ⟨hk,h1,h2,h3,fun x hx e=> ?_,fun x hx e=> ?_,fun x hx e=> ?_,fun k i x e1 e2=> ?_⟩
 ·have:=h4 x hx
  rw [e] at this
  simpa using this
 ·have:=h4' x hx
  rw [e] at this
  simpa using this
 ·have:=h5 x hx
  rw [e] at this
  unfold Env.kindOf
  rw [hX]
  simpa using this
 ·have hm:(x,some i)∈N.zip src:=by
   refine List.mem_iff_getElem?.mpr ⟨k,?_⟩
   rw [List.getElem?_zip_eq_some]
   exact ⟨e2,e1⟩
  have:=h6 _ hm
  dsimp only at this
  simp only [qaG,beq_iff_eq] at this
  rw [hN]
  exact this
noncomputable def bStart (src:List (Option Nat)) (σ:St):St:=src.map fun o=>o.bind fun i=>(σ[i]?).join
theorem zeZ {scope:Scope} {env:Env} {x:Str}:(relabel scope env).names.lookup x=(scope.names.lookup x).map fun k=>if (k== .free && env.scope.kind== .function && env.kindOf x==some .cell) then .cell else k:=by
 show List.lookup x (scope.names.map _)=_
 induction scope.names with
 | nil=>rfl
 | cons y r ih=>
  obtain ⟨n,k⟩:=y
  rw [qaM]
  dsimp only
  by_cases hx:x=n
  ·subst hx
   by_cases hc:(k==NameKind.free && env.scope.kind== .function && env.kindOf x==some .cell)=true
   ·rw [qa4 hc,List.lookup_cons,List.lookup_cons,beq_self_eq_true]
    dsimp only [Option.map]
    rw [qa4 hc]
   ·rw [qa5 hc,List.lookup_cons,List.lookup_cons,beq_self_eq_true]
    dsimp only [Option.map]
    rw [qa5 hc]
  ·have hb:(x==n)=false:=by simpa using hx
   by_cases hc:(k==NameKind.free && env.scope.kind== .function && env.kindOf n==some .cell)=true
   ·rw [qa4 hc,List.lookup_cons,List.lookup_cons,hb]
    exact ih
   ·rw [qa5 hc,List.lookup_cons,List.lookup_cons,hb]
    exact ih
section
variable {X:Cx} {pins:List (Addr×Obj)} {σ:St} {H:Hp} {s:Shared} {scope:Scope} {N:List Str} {src:List (Option Nat)} {fp:List Addr}
theorem zno (I:Inv X pins σ H s) (B:BOk X scope N src) {x:Str} {c:Addr} (h:(x,c)∈zbi X.env.cells scope.names []):X.env.cells.lookup x=some c/\(x,NameKind.free)∈scope.names:=by
 rcases zd1 h with z | ⟨z,e⟩
 ·exact nomatch z
 ·obtain ⟨c',hc⟩:=I.ok.has x (B.free _ z rfl)
  rw [hc] at e
  exact ⟨by rw [hc,e];rfl,z⟩
theorem zgA {l:List (Str×NameKind)} (h:(l.map (·.1)).Nodup) {x:Str} {j k:NameKind} (a:(x,j)∈l) (b:(x,k)∈l):j=k:=by
 induction l with
 | nil=>exact nomatch a
 | cons y r ih=>
  obtain ⟨h1,h2⟩:=List.nodup_cons.mp (show (y.1::r.map (·.1)).Nodup from h)
  rcases qaP.mp a with e | a<;>rcases qaP.mp b with e' | b
  ·rw [<- e] at e';cases e';rfl
  ·exact absurd (qaU.mpr ⟨_,b,by rw [<- e]⟩) h1
  ·exact absurd (qaU.mpr ⟨_,a,by rw [<- e']⟩) h1
  ·exact ih h2 a b
theorem zd3 (I:Inv X pins σ H s): ∀ (names:List (Str×NameKind)) (acc:List (Str×Addr)),(∀ x∈names,x.2= .free-> ∃ c,X.env.cells.lookup x.1=some c)->(names.map (·.1)).Nodup->(∀ x c,(x,c)∈acc->X.env.cells.lookup x=some c/\x∉names.map (·.1))->
  (acc.Pairwise fun x y=>x.2≠y.2)->(zbi X.env.cells names acc).Pairwise fun x y=>x.2≠y.2
 | [],_,_,_,_,h=>h
 | (n,k)::r,acc,hf,nd,ha,h=>by
  unfold zbi
  obtain ⟨h1,h2⟩:=List.nodup_cons.mp (show (n::r.map (·.1)).Nodup from nd)
  by_cases hk:(k==NameKind.free)=true
  ·rw [qa4 hk]
   obtain ⟨c,hc⟩:=hf (n,k) qau (by simpa using hk)
   have hc:X.env.cells.lookup n=some c:=hc
   rw [show (X.env.cells.lookup n).getD 0=c by rw [hc];rfl]
   refine zd3 I r _ (fun x hx=>hf x (qan _ hx)) h2 (fun x c' hm=> ?_) (qay.mpr ⟨fun y hy e=> ?_,h⟩)
   ·rcases qaP.mp hm with e | hm
    ·cases e;exact ⟨hc,h1⟩
    ·exact ⟨(ha x c' hm).1,fun z=>(ha x c' hm).2 (qan _ z)⟩
   ·obtain ⟨q1,q2⟩:=ha y.1 y.2 hy
    have e':c=y.2:=e
    rw [<- e'] at q1
    have:=I.ok.inj _ _ _ hc q1
    exact q2 (by rw [<- this];exact qau)
  ·rw [qa5 hk]
   exact zd3 I r acc (fun x hx=>hf x (qan _ hx)) h2 (fun x c' hm=>⟨(ha x c' hm).1,fun z=>(ha x c' hm).2 (qan _ z)⟩) h
theorem zjd (I:Inv X pins σ H s) (B:BOk X scope N src) (hf: ∀ b∈fp,ziS X pins H b) (hfo: ∀ b∈fp, ∃ o,s.heap.get? b=some o) {h':Heap} (hk: ∀ b o,s.heap.get? b=some o->h'.get? b=some o) (hns:h'.Ns s.heap.objs.size (fun _=>none))
  (hce: ∀ x c,(x,NameKind.cell)∈scope.names->(x,c)∈cellsFrom (s.heap.objs.size+1) scope.names (zbi X.env.cells scope.names [])->(x,c)∉zbi X.env.cells scope.names []->h'.IsCell c none):
  Inv (cxB X scope N s H fp) [] (bStart src σ) H {s with heap:=h'}:=by
 have cin: ∀ {x:Str} {c:Addr},(x,c)∈zbi X.env.cells scope.names []->X.env.cells.lookup x=some c/\(x,NameKind.free)∈scope.names:=fun h=>zno I B h
 have old: ∀ {x:Str} {c:Addr},X.env.cells.lookup x=some c->c<s.heap.objs.size:=fun {x c} h=>(let ⟨_,q⟩:=I.cell x c h;q.lt)
 have all: ∀ {x:Str} {c:Addr},(x,c)∈cellsFrom (s.heap.objs.size+1) scope.names (zbi X.env.cells scope.names [])->(X.env.cells.lookup x=some c/\(x,NameKind.free)∈scope.names)\/(s.heap.objs.size<c/\(x,NameKind.cell)∈scope.names):=fun {x c} h=>by
  rcases zcE h with z | ⟨z,z'⟩
  ·exact .inl (cin z)
  ·exact .inr ⟨z,z'⟩
 have lk: ∀ {x:Str} {c:Addr},(znD X.env scope s.heap.objs.size).cells.lookup x=some c->(x,c)∈cellsFrom (s.heap.objs.size+1) scope.names (zbi X.env.cells scope.names []):=fun h=>PySem.mem_of_lookup h
 have hasF: ∀ x∈scope.names,x.2= .free-> ∃ c,X.env.cells.lookup x.1=some c:=fun x hx e=>I.ok.has x.1 (B.free x hx e)
 have ap:(cellsFrom (s.heap.objs.size+1) scope.names (zbi X.env.cells scope.names [])).Pairwise fun x y=>x.2≠y.2:=
  zb3 _ _ _ (fun x c hm=>Nat.lt_succ_of_lt (old (cin hm).1)) (zd3 I scope.names [] hasF B.keys (fun _ _ z=>nomatch z) .nil)
 have outer: ∀ {x:Str} {c:Addr},(x,NameKind.free)∈scope.names->X.env.cells.lookup x=some c->(znD X.env scope s.heap.objs.size).cells.lookup x=some c:=fun {x c} h1 h2=>
  zb1 _ _ _ (fun z=>nomatch zgA B.keys h1 z) (zdl h2 scope.names [] (.inl h1))
 have kinds: ∀ x,(znD X.env scope s.heap.objs.size).kindOf x=(scope.names.lookup x).map fun k=>if (k== .free && X.env.scope.kind== .function && X.env.kindOf x==some .cell) then .cell else k:=fun x=>zeZ
 have ckind: ∀ x,((znD X.env scope s.heap.objs.size).kindOf x=some .cell\/(znD X.env scope s.heap.objs.size).kindOf x=some .free)->scope.names.lookup x=some .cell\/scope.names.lookup x=some .free:=fun x h=>by
  rw [kinds x] at h
  cases e:scope.names.lookup x with
  | none=>rw [e] at h;simp at h
  | some k=>
   rw [e] at h
   cases k<;>simp at h ⊢
 refine ⟨⟨I.ok.mod,B.kind,I.ok.glob,I.ok.blt,qaV _,fun x y c h1 h2=>name_of_addr ap (lk h1) (lk h2),fun x hx=> ?_,fun x c hfn hx=> ?_,I.ok.hd,I.handA,I.ok.frames,.inl rfl,fun b hb=> ?_,I.bs,qaS I.ok.bsz I.sz,fun b o e hb=> ?_,fun b hb hb'=> ?_,I.stack,I.stkFree⟩,
   rfl,I.bare,Un.kept hk,⟨_,hns,fun i x v h1 h2 h3=> ?_⟩,fun x c h=> ?_,I.hok.fresh (qaV _),fun x c h=> ?_,fun p hp=>absurd (show p∈([]:List (Addr×Obj)) from hp) (by simp),I.hok.kept hk,?_⟩
 ·-- has
  rcases ckind x hx with h | h
  ·exact Option.isSome_iff_exists.mp (W.cellsFrom_some scope.names _ _ (.inl h))
  ·have hm:=PySem.mem_of_lookup h
   obtain ⟨c,hc⟩:=hasF _ hm rfl
   exact ⟨c,outer hm hc⟩
 ·-- cab
  have hfn:scope.names.lookup x=some .cell:=by simpa using hfn
  rcases all (lk hx) with ⟨_,z⟩ | ⟨z,_⟩
  ·exact absurd (zgA B.keys z (PySem.mem_of_lookup hfn)) (by decide)
  ·exact Nat.le_of_lt z
 ·-- exf
  obtain ⟨o,ho⟩:=hfo b hb
  refine ⟨qaR (qaQ ho),fun x c hx z=> ?_⟩
  rcases all (lk hx) with ⟨q,_⟩ | ⟨q,_⟩
  ·exact (hf b hb).2.2.2.2.1 x c q z
  ·have:=qaQ ho
   rw [<- z] at this
   exact qaN _ (Nat.lt_trans q this)
 ·-- noex
  rcases (hf b hb).2.2.2.1 with z | z
  ·exact I.ok.noex b o e z
  ·exact qaN _ (qaw (qaw (qaQ e) I.ok.bsz) z)
 ·-- exfs
  rcases qaP.mp (I.stkSub b hb') with z | z
  ·exact (hf b hb).2.1 z
  ·exact (hf b hb).2.2.1 z
 ·-- loc
  unfold bStart at h2
  rw [List.getElem?_map] at h2
  cases e:src[i]? with
  | none=>rw [e] at h2;cases h2
  | some o=>
   rw [e] at h2
   cases o with
   | none=>cases h2
   | some j=>
    have h2:(σ[j]?).join=some v:=by simpa using h2
    have e3:σ[j]? = some (some v):=by
     cases q:σ[j]? with
     | none=>rw [q] at h2;cases h2
     | some z=>rw [q] at h2;simp at h2;rw [h2]
    obtain ⟨b1,b2⟩:=B.src i j x e h1
    have hm:=PySem.mem_of_lookup b2
    obtain ⟨m,hn,hl⟩:=I.loc
    have hfr:=B.free _ hm rfl
    obtain ⟨u,r,l⟩:=hl j x v b1 e3 (.inr hfr)
    rcases l with ⟨k,_⟩ | ⟨k,c,hc,q⟩
    ·rcases hfr with z | z<;>(have z':=k.symm.trans z;cases z')
    ·refine ⟨u,r,.inr ⟨?_,c,outer hm hc,q.keeps hk⟩⟩
     rw [kinds x,b2]
     dsimp only [Option.map]
     split
     ·exact .inl rfl
     ·exact .inr rfl
 ·-- cell
  rcases all (lk h) with ⟨q,_⟩ | ⟨q,q'⟩
  ·obtain ⟨v,z⟩:=I.cell x c q
   exact ⟨v,z.keeps hk⟩
  ·exact ⟨none,hce x c q' (lk h) fun z=>absurd (Nat.lt_trans q (old (cin z).1)) (qaN _)⟩
 ·-- freeC
  rcases all (lk h) with ⟨q,_⟩ | ⟨q,q'⟩
  ·exact I.freeC x c q
  ·exact I.hok.fresh (Nat.le_of_lt q)
 ·unfold bStart
  rw [qaH]
  exact B.len
end
def PCs (X:Cx) (ifs:List Expr) (t:TT):Prop:=
 ∀ (pins:List (Addr×Obj)) (s:Shared) (σ:St) (H:Hp) (Q:Bool->Hp->Prop),Inv X pins σ H s->t σ H Q->
  wpAny (model X.prog X.w) X.A (forIn ifs true fun c r=>if r=true then do let ok<-isTrue c X.env (eval c X.env);pure (ForInStep.yield ok) else pure (ForInStep.yield r)) (TP X pins σ Q) X.xe s
noncomputable def ztg:TT:=fun _ H Q=>Q true H
theorem zm5 {X:Cx}:PCs X [] ztg:=fun pins s σ H Q I h=>wpAny_tests_nil ⟨H,I,h⟩
theorem zol {X:Cx} {c:Expr} {t:TT} (h:PT X c t):PCs X [c] t:=fun pins s σ H Q I hw=>wpAny_tests_one (h pins s σ H Q I hw)
def zrH (J:It) (g:TG) (tc:TT) (te:TE) (σ0:St) (H1:Hp) (D:Addr) (Q:Hp->Prop):Prop:=
 ∃ W:Nat->Nat->St->Hp->Prop,(∃ m,W 0 m σ0 (upd H1 D (.lst [])))/\ ∀ i m σ' H',W i m σ' H'->
  (J.stop i H'/\Q H')\/(J.go i H'/\ ∃ Nn:St->Hp->Prop,(∀ σ2 H2,Nn σ2 H2-> ∃ m',m'<m/\W (i+1) m' σ2 H2)/\ ∀ x H2,J.yld i H' x H2->g x σ' H2 fun σ2 H3=>tc σ2 H3 fun b H4=>
    if b=true then te σ2 H4 fun y H5=> ∃ xs,H5 D=some (.lst xs)/\xs.length<sizeLine/\Nn σ2 (upd H5 D (.lst (xs++[y]))) else Nn σ2 H4)
section
variable {X:Cx} {scope:Scope} {N:List Str} {src:List (Option Nat)} {tg iter elt:Expr} {ifs:List Expr} {pos:Pos}
theorem zh4 {pins:List (Addr×Obj)} {σ:St} {H:Hp} {s₂:Shared} {it:Addr} {fp:List Addr} {tn:Nat->Heap->Prop} {J:It} {g:TG} {tc:TT} {te:TE} {Q:Addr->Hp->Prop} {E:Value->Shared->Prop} {RR:Value->Addr->Result->Shared->Prop}
  (B:BOk X scope N src)
  (hg: ∀ s H fp,PG (cxB X scope N s H fp) tg g) (ht: ∀ s H fp,PCs (cxB X scope N s H fp) ifs tc) (he: ∀ s H fp,PE (cxB X scope N s H fp) elt te)
  (I2:Inv X pins σ H s₂) (T:zoI X.prog X.w X.K tg J fp it tn) (st2:tn 0 s₂.heap) (f2: ∀ b∈fp,ziS X pins H b) (hw: ∀ D,H D=none->zrH J g tc te (bStart src σ) H D (Q D))
  (hRR: ∀ D C H' s' m,Inv X pins σ H' s'->s'.heap.Ns C m->s₂.heap.objs.size<=C->C<s'.heap.objs.size->H' C=none->Q D H'->RR (.ref D) C (.ok .next) s'):
  wpAny (model X.prog X.w) X.A (newList []) (fun acc s₃=>wpAny (model X.prog X.w) X.A (newFunctionEnv scope X.env.globals (zbi X.env.cells scope.names []) [] X.env.qual none .none (some X.env)) (fun cenv s₄=>
    codeAny (model X.prog X.w) X.A (.compStart (.ListComp elt [⟨tg,iter,ifs,0⟩] scope pos) 0 (.ref it) acc {cenv with scope:=relabel scope X.env}) (RR acc cenv.locals) s₄) E s₃) E s₂:=by
 refine qaC (zeT fun h₁ hk₁ hns₁ hce₁=> ?_)
 dsimp only at hk₁ hns₁ hce₁ ⊢
 have hfresh:H s₂.heap.objs.size=none:=I2.hok.fresh (qaV _)
 have I3:Inv X pins σ (upd H s₂.heap.objs.size (.lst [])) {s₂ with heap:=s₂.heap.push {cls:= .type "list",dict:=none,data:= .seq ([]:List Value).toArray}}:=by
  have:=I2.lnew (its:=[]) (ys:=[]) (t':=s₂.toks) .nil (Nat.zero_le _)
  exact this
 obtain ⟨W,⟨m0,w0⟩,turn⟩:=hw _ hfresh
 generalize hD:s₂.heap.objs.size=D at*
 generalize hs3:({s₂ with heap:=s₂.heap.push {cls:= .type "list",dict:=none,data:= .seq ([]:List Value).toArray}}:Shared)=s₃ at*
 have hh3:s₂.heap.push {cls:= .type "list",dict:=none,data:= .seq ([]:List Value).toArray}=s₃.heap:=by rw [<- hs3]
 rw [hh3] at hk₁ hns₁ hce₁ ⊢
 have push3: ∀ b o,s₂.heap.get? b=some o->s₃.heap.get? b=some o:=fun b o e=>by rw [<- hs3];exact qag _ e
 have sz3:s₃.heap.objs.size=D+1:=by rw [<- hs3, <-hD];exact qaL ..
 have fpo: ∀ b∈fp, ∃ o,s₂.heap.get? b=some o/\ ∀ v,o.data≠ .cell v:=T.obj _ _ st2
 have fpD: ∀ b∈fp,b≠D:=fun b hb z=>by
  obtain ⟨o,e,_⟩:=fpo b hb
  have:=qaQ e
  rw [z, <-hD] at this
  exact qaN _ this
 have f3: ∀ b∈fp,ziS X pins (upd H D (.lst [])) b:=fun b hb=>⟨by rw [zaw (fpD b hb)];exact (f2 b hb).1,(f2 b hb).2⟩
 have I4:Inv (cxB X scope N s₃ (upd H D (.lst [])) fp) [] (bStart src σ) (upd H D (.lst [])) {s₃ with heap:=h₁}:=
  zjd I3 B f3 (fun b hb=>let ⟨o,e,_⟩:=fpo b hb;⟨o,push3 b o e⟩) hk₁ hns₁ hce₁
 have fB: ∀ {H':Hp},(∀ b∈fp,H' b=none)-> ∀ b∈fp,ziS (cxB X scope N s₃ (upd H D (.lst [])) fp) [] H' b:=fun {H'} hn b hb=>
  ⟨hn b hb,(I4.ok.exf b hb).1,I4.ok.exfs b hb,.inl hb,fun x c e=>(I4.ok.exf b hb).2 x c e,fun p hp=>absurd (show p∈([]:List (Addr×Obj)) from hp) (by simp)⟩
 have stat4: ∀ s',s'=({s₃ with heap:=h₁}:Shared)->codeAny (model X.prog X.w) X.A (.compLoop (.ListComp elt [⟨tg,iter,ifs,0⟩] scope pos) 0 (.ref it) (.ref D) (znD X.env scope s₃.heap.objs.size)) (RR (.ref D) s₃.heap.objs.size) s':=by
  intro s' es
  refine zgr (fun n s'=> ∃ i σ' H',Inv (cxB X scope N s₃ (upd H D (.lst [])) fp) [] σ' H' s'/\tn i s'.heap/\(∀ b∈fp,H' b=none)/\W i n σ' H') ?_ m0 ⟨0,_,_,by rw [es];exact I4,by rw [es];exact T.keep _ _ _ st2 fun b hb o e=>hk₁ b o (push3 b o e),fun b hb=>(f3 b hb).1,w0⟩
  rintro n s5 ⟨i,σ5,H5,I5,st5,fr5,w5⟩
  rcases turn i n σ5 H5 w5 with ⟨stop,qn⟩ | ⟨go,Nn,hN,step⟩
  ·refine thn (T.done (cxB X scope N s₃ (upd H D (.lst [])) fp) rfl rfl rfl i [] s5 σ5 H5 _ I5 (fB fr5) st5 stop) fun r s6 ⟨hr,I6⟩=> ?_
   subst hr
   obtain ⟨m,hnC,_⟩:=I6.loc
   have un:=I6.base
   have u2:Un (frs X.stack) fp H H5 s₂.heap s6.heap:=by
    refine Un.trans ?_ un
    have:=Un.laid (fs:=frs X.stack) (ex:=fp) (H:=H) (h:=s₂.heap) (h':=s₃.heap) (a:=D) (o:= .lst []) push3 (Nat.le_of_eq hD) hfresh
    exact this
   refine hRR D _ H5 s6 m (I2.call' (ch:=fp) (by rw [I6.os, <-hs3]) u2 I6.hok I6.bare fun b hb=> ?_) hnC (by rw [sz3];exact Nat.le_succ _) hnC.lt I6.free qn
   obtain ⟨q0,q1,q2,q3,q4,q5⟩:=f2 b hb
   exact ⟨q3,q1,q4,q5⟩
  ·refine thn (T.item (cxB X scope N s₃ (upd H D (.lst [])) fp) rfl rfl rfl i [] s5 σ5 H5 _ I5 (fB fr5) st5 go) fun r s6 ⟨u,hr,h6⟩=> ?_
   subst hr
   refine thn h6 fun _ s7 ⟨x,H7,I7,r7,y7,st7,fr7⟩=> ?_
   have I7':=I7.pinned (fB fr7) (T.obj _ _ st7)
   refine thn (hg _ _ _ _ s7 σ5 H7 x u _ I7' r7 (step x H7 y7)) fun _ s8 ⟨σ8,H8,I8,q8⟩=> ?_
   refine thn (ht _ _ _ _ s8 σ8 H8 _ I8 q8) fun ok s9 ⟨H9,I9,q9⟩=> ?_
   have again: ∀ {σ7:St} {Hz:Hp} {sz:Shared},Inv (cxB X scope N s₃ (upd H D (.lst [])) fp) ([]++zgJ fp s7.heap) σ7 Hz sz->Nn σ7 Hz-> ∃ m,m<n/\ ∃ i σ' H',Inv (cxB X scope N s₃ (upd H D (.lst [])) fp) [] σ' H' sz/\tn i sz.heap/\(∀ b∈fp,H' b=none)/\W i m σ' H':=fun {σz Hz sz} Iz nz=>by
    obtain ⟨m',hm,wz⟩:=hN _ _ nz
    refine ⟨m',hm,i+1,_,_,Iz.unpinned,T.keep _ _ _ st7 fun b hb o e=>(Iz.pin (b,o) (qak _ (qak _ (zc5 hb e)))).1,fun b hb=> ?_,wz⟩
    obtain ⟨o,e,d⟩:=T.obj _ _ st7 b hb
    exact (Iz.pin (b,o) (qak _ (qak _ (zc5 hb e)))).2.1
   cases ok with
   | false=>
    rw [qa5 (by decide)] at q9
    rw [qa5 (by decide)]
    exact again I9 q9
   | true=>
    rw [qa4 rfl] at q9
    rw [qa4 rfl]
    refine thn (he _ _ _ _ s9 σ8 H9 _ I9 q9) fun y s10 ⟨yv,H10,I10,ry,xs,e10,z10,q10⟩=> ?_
    refine thn (zf1 (X:=cxB X scope N s₃ (upd H D (.lst [])) fp) _ s10 σ8 H10 (.ref D) [yv] (.ref D) [y] (fun _ Hf=>Nn σ8 Hf) I10 rfl (.cons ry .nil) ⟨D,xs,yv,rfl,rfl,e10,z10,q10⟩) fun _ s11 ⟨_,H11,I11,_,q11⟩=> ?_
    exact again I11 q11
 exact codeAny_compStart_list (stat4 _ (by rw [<- hs3])) (T.self _ 0 _ _ _ (T.keep _ _ _ st2 fun b hb o e=>hk₁ b o (push3 b o e)) (stat4 _ (by rw [<- hs3])))
noncomputable def znH (wi:TI) (g:TG) (tc:TT) (te:TE) (src:List (Option Nat)):TE:=fun σ H Q=>wi σ H fun J H1=> ∀ D,H1 D=none->zrH J g tc te (bStart src σ) H1 D fun H'=>Q (.ref D) H'
theorem Inv.letGo {pins:List (Addr×Obj)} {σ:St} {H:Hp} {s:Shared} {C:Addr} {m:Str->Option Value} {h':Heap} (I:Inv X pins σ H s) (hn:s.heap.Ns C m) (hn':H C=none) (hC:X.s₀.heap.objs.size<=C) (hL:C≠X.env.locals) (hp: ∀ p∈X.pn++pins,p.1≠C) (hs:Heap.SameBut C s.heap h'):Inv X pins σ H {s with heap:=h'}:=by
 refine I.turned (t':=s.toks) (it:=C) (fun b o hb e=>(hs.2 b hb).trans e) hn' hL (.inr hC) (fun x c e z=> ?_) hp
 obtain ⟨v,o,ho,hd⟩:=I.cell x c e
 obtain ⟨o',es,ep,ho',hd',_⟩:=hn
 rw [z,ho'] at ho
 cases ho
 rw [hd'] at hd
 cases hd
theorem zm1 {wi:TI} {g:TG} {tc:TT} {te:TE} (B:BOk X scope N src) (hi:PI X tg iter wi)
  (hg: ∀ s H fp,PG (cxB X scope N s H fp) tg g) (ht: ∀ s H fp,PCs (cxB X scope N s H fp) ifs tc) (he: ∀ s H fp,PE (cxB X scope N s H fp) elt te)
  (hs: ∀ x,foldedSetIterable iter X.env x=pure x:=by intro _;rfl):PE X (.ListComp elt [⟨tg,iter,ifs,0⟩] scope pos) (znH wi g tc te src):=by
 intro pins s σ H Q I h
 rw [eval_ListComp]
 refine wpAny_comprehension_free (use:=none) rfl hs (zdJ fun x hx e=>I.ok.has x.1 (B.free x hx e)) B.kind B.locs ?_
 refine thn (hi pins s σ H _ I h) fun v s1 h1=>thn h1 fun itv s2 h2=> ?_
 obtain ⟨it,fp,tn,J,H2,e,I2,T,st2,f2,hw⟩:=h2
 subst e
 refine zh4 (RR:=fun acc C=>compPost (model X.prog X.w) X.A X.xe none (EP X pins σ Q) acc C) (Q:=fun D H'=>Q (.ref D) H') B hg ht he I2 T st2 f2 hw ?_
 intro D C H' s' m I' hn hC hCs hf q
 refine ⟨m,hn,fun h' hs'=>⟨.ref D,H',I'.letGo hn hf (qaS I2.sz hC) (fun z=> ?_) (fun p hp z=> ?_) hs',rfl,q⟩⟩
 ·exact qaN _ (qaw (z▸I2.lt) hC)
 ·have:=qaQ (I2.pin p hp).1
  rw [z] at this
  exact qaN _ (qaw this hC)
theorem ziE {wi:TI} {g:TG} {tc:TT} {te:TE} {i:Nat} {y:Str} {py spos:Pos} (B:BOk X scope N src) (hi:PI X tg iter wi)
  (hg: ∀ s H fp,PG (cxB X scope N s H fp) tg g) (ht: ∀ s H fp,PCs (cxB X scope N s H fp) ifs tc) (he: ∀ s H fp,PE (cxB X scope N s H fp) elt te)
  (hN:X.N.Nodup) (hy:X.N[i]? = some y) (hx:Loc X.env.scope y) (hsw:swapsWith (.ListComp elt [⟨tg,iter,ifs,0⟩] scope pos) (some (.Name y py)) spos.line X.env=pure true)
  (hf:X.fn y=true\/X.env.scope.names.lookup y=some .local:=by first | exact .inl rfl | exact .inr rfl | assumption)
  (hs: ∀ x,foldedSetIterable iter X.env x=pure x:=by intro _;rfl):PS X (.Assign [.Name y py] (.ListComp elt [⟨tg,iter,ifs,0⟩] scope pos) spos) (zsL (znH wi g tc te src) (zoo i)):=by
 intro pins s σ H D0 I h
 rw [exec_Assign_Name_used _ _ _ _ hsw]
 refine qaW (wpAny_standAt (qaW ?_))
 show wpAny _ X.A (do let _<-comprehension (.ListComp elt [⟨tg,iter,ifs,0⟩] scope pos) scope X.env _ (newList []) false (eval iter X.env) (some (assign (.Name y py) X.env))) _ _ s
 refine qaW (qaZ (wpAny_comprehension_free (use:=some (assign (.Name y py) X.env)) (Q:=fun _ s'=>SP X pins D0 .next s') rfl hs (zdJ fun x hx e=>I.ok.has x.1 (B.free x hx e)) B.kind B.locs ?_)
   (fun _ s' hq=>qaX (qaX hq)) fun _ _ e=>e)
 refine thn (hi pins s σ H _ I h) fun v s1 h1=>thn h1 fun itv s2 h2=> ?_
 obtain ⟨it,fp,tn,J,H2,e,I2,T,st2,f2,hw⟩:=h2
 subst e
 refine zh4 (RR:=fun acc C=>compPost (model X.prog X.w) X.A X.xe (some (assign (.Name y py) X.env)) (fun _ s'=>SP X pins D0 .next s') acc C) (Q:=fun D H'=>D0.nx (σ.set i (some (.ref D))) H') B hg ht he I2 T st2 f2 hw ?_
 intro D C H' s' m I' hn hC hCs hf' q
 show wpAny _ X.A (assign (.Name y py) X.env (.ref D)) _ _ _
 have hCL:C≠X.env.locals:=fun z=>qaN _ (qaw (z▸I2.lt) hC)
 have hCp: ∀ p∈X.pn++pins,p.1≠C:=fun p hp z=>by
  have:=qaQ (I2.pin p hp).1
  rw [z] at this
  exact qaN _ (qaw this hC)
 have hCc: ∀ x c,X.env.cells.lookup x=some c->c≠C:=fun x c e z=>by
  obtain ⟨v,hv⟩:=I2.cell x c e
  exact qaN _ (qaw (z▸hv.lt) hC)
 obtain ⟨oC,es,ep,hoC,hdC,hrest⟩:=hn
 have hCfs:C∉X.fs:=I2.nofs hC
 have Ip:Inv X (pins++[(C,oC)]) σ H' s':=I'.pins_of fun p hp=>by
  rcases qaK.mp hp with z | z
  ·exact I'.pin p (qak _ z)
  ·obtain rfl:p=(C,oC):=by simpa using z
   exact ⟨hoC,hf',hCL,hCfs,fun v z=>by have z':=hdC.symm.trans z;cases z'⟩
 refine wpAny_assign_Name (zdv Ip hN hy hx (v:= .ref D) rfl (fun s3 I3=> ?_) hf)
 have hC3:=(I3.pin (C,oC) (by simp)).1
 refine ⟨m,⟨oC,es,ep,hC3,hdC,hrest⟩,fun h' hs'=> ?_⟩
 exact ⟨_,H',(I3.unpinned).letGo ⟨oC,es,ep,hC3,hdC,hrest⟩ hf' (qaS I2.sz hC) hCL hCp hs',q⟩
end
end L2
namespace L3
open PySem PySem.Spec PyProof.Rows L2
inductive D where
 | non | bl (b:Bool) | int (i:Int) | str (x:Str) | tup (xs:List D) | lst (xs:List D) | cel (n:Nat) | set (xs:List Int) | dct | fn (a:Addr) | scr (xs:List D) | exn (c:String)
inductive C where
 | lst (xs:List D) | dic (kvs:List (Int×D)) | dead
noncomputable abbrev Hh:=List C
structure Io where
 c:List (Option Addr)
 x:List Addr
def Io.Has (ι:Io) (a:Addr):Prop:=some a∈ι.c\/a∈ι.x
inductive R (α:Type) where
 | ok (a:α) (h:Hh) | exc (c:String) (h:Hh) | bad
noncomputable def M (α:Type):=Hh->R α
@[inline] noncomputable def M.bind {α β:Type} (m:M α) (f:α->M β):M β:=fun h=>match m h with
 | .ok a h'=>f a h'
 | .exc c h'=> .exc c h'
 | .bad=> .bad
@[inline] noncomputable def M.pure {α:Type} (a:α):M α:=fun h=> .ok a h
noncomputable instance:Monad M where
 pure:=M.pure
 bind:=M.bind
noncomputable def M.bad {α:Type}:M α:=fun _=> .bad
def KL (K:W.Frag) (a:Addr) (xs:List V):Prop:=SqL K (fun _=>none) a xs
mutual
noncomputable def Rel (K:W.Frag) (ι:Io) (H:Hp):D->V->Prop
 | .non,v=>v= .non
 | .bl b,v=>v= .bl b
 | .int i,v=>v= .int i
 | .str x,v=>v= .str x
 | .tup ds,v=> ∃ a vs,v= .ref a/\(H a=some (.tup vs)/\ ¬ι.Has a)/\zaq K ι H ds vs
 | .lst ds,v=> ∃ a vs,v= .ref a/\(H a=some (.lst vs)/\ ¬ι.Has a)/\zaq K ι H ds vs
 | .scr ds,v=> ∃ a vs,v= .ref a/\((Rd H a (.lst vs)/\ ¬ι.Has a)\/KL K a vs)/\zaq K ι H ds vs
 | .cel n,v=> ∃ a,v= .ref a/\(ι.c[n]? = some (some a)\/ι.c[n]? = some none)
 | .set xs,v=> ∃ a,v= .ref a/\H a=some (.set (fun k=>xs.any (· == k)) xs.length)/\ ¬ι.Has a
 | .dct,v=> ∃ a,v= .ref a/\H a=some (.dK [])/\ ¬ι.Has a
 | .fn a,v=>v= .ref a
 | .exn c,v=> ∃ a o C head vs,v= .ref a/\(H a=some (.frz o (.own 0))/\ ¬ι.Has a)/\W.nsIn K mainGlobals (c:Str)=some (some (.ref C))/\o.cls= .ref C/\o.dict=none/\o.data= .fields vs/\vs[2]? = some .none/\vs[1]? = some head
noncomputable def zaq (K:W.Frag) (ι:Io) (H:Hp):List D->List V->Prop
 | [],vs=>vs=[]
 | d::ds,vs=> ∃ v r,vs=v::r/\Rel K ι H d v/\zaq K ι H ds r
end
structure zbS (ι:Io) (H:Hp) (ι':Io) (H':Hp):Prop where
 old: ∀ (n:Nat) (o:Option Addr),ι.c[n]? = some o->ι'.c[n]? = some o\/ι'.c[n]? = some none
 new: ∀ a,some a∈ι'.c->some a∈ι.c\/H a=none
 hid:ι'.x=ι.x
 hidk: ∀ a∈ι.x,H' a=H a
 keep: ∀ b o,H b=some o-> ¬ι.Has b->H' b=some o
theorem zbS.refl (ι:Io) (H:Hp):zbS ι H ι H:=⟨fun _ _ h=> .inl h,fun _ h=> .inl h,rfl,fun _ _=>rfl,fun _ _ h _=>h⟩
theorem zbS.nin {ι ι':Io} {H H':Hp} (s:zbS ι H ι' H') {a:Addr} {o:HO} (h:H a=some o) (n: ¬ι.Has a): ¬ι'.Has a:=fun z=>by
 rcases z with z | z
 ·rcases s.new a z with z | z
  ·exact n (.inl z)
  ·rw [h] at z;cases z
 ·rw [s.hid] at z;exact n (.inr z)
theorem zbS.trans {ι ι1 ι2:Io} {H H1 H2:Hp} (s:zbS ι H ι1 H1) (t:zbS ι1 H1 ι2 H2):zbS ι H ι2 H2 where
 old:=fun n o h=>by
  rcases s.old n o h with h | h
  ·exact t.old n o h
  ·rcases t.old n _ h with h | h<;>exact .inr h
 new:=fun a h=>by
  rcases t.new a h with h | h
  ·exact s.new a h
  ·by_cases z:some a∈ι.c
   ·exact .inl z
   ·refine .inr ?_
    cases q:H a with
    | none=>rfl
    | some o=>
     by_cases z':a∈ι.x
     ·rw [s.hidk a z',q] at h;cases h
     ·rw [s.keep a o q (fun w=>w.elim z z')] at h;cases h
 hid:=t.hid.trans s.hid
 hidk:=fun a h=>(t.hidk a (by rw [s.hid];exact h)).trans (s.hidk a h)
 keep:=fun b o h n=>t.keep b o (s.keep b o h n) (s.nin h n)
theorem zbS.rd {ι ι':Io} {H H':Hp} (s:zbS ι H ι' H') {a:Addr} {u:HO} (h:Rd H a u) (n: ¬ι.Has a):Rd H' a u/\ ¬ι'.Has a:=by
 rcases h with h | ⟨o,h⟩
 ·exact ⟨.inl (s.keep _ _ h n),s.nin h n⟩
 ·exact ⟨.inr ⟨o,s.keep _ _ h n⟩,s.nin h n⟩
structure Pass (ι:Io) (H:Hp) (ι':Io) (H':Hp):Prop where
 old: ∀ (n:Nat) (o:Option Addr),ι.c[n]? = some o->ι'.c[n]? = some o\/ι'.c[n]? = some none
 keep: ∀ b o,H b=some o-> ¬ι.Has b->H' b=some o/\ ¬ι'.Has b
theorem zbS.pass {ι ι':Io} {H H':Hp} (s:zbS ι H ι' H'):Pass ι H ι' H':=⟨s.old,fun b o h n=>⟨s.keep b o h n,s.nin h n⟩⟩
theorem Pass.rd {ι ι':Io} {H H':Hp} (s:Pass ι H ι' H') {a:Addr} {u:HO} (h:Rd H a u) (n: ¬ι.Has a):Rd H' a u/\ ¬ι'.Has a:=by
 rcases h with h | ⟨o,h⟩
 ·exact ⟨.inl (s.keep _ _ h n).1,(s.keep _ _ h n).2⟩
 ·exact ⟨.inr ⟨o,(s.keep _ _ h n).1⟩,(s.keep _ _ h n).2⟩
section
variable {K:W.Frag} {ι ι':Io} {H H':Hp}
mutual
theorem Rel.pass (s:Pass ι H ι' H'): ∀ {d:D} {v:V},Rel K ι H d v->Rel K ι' H' d v
 | .non,_,h=>by simpa [Rel] using h
 | .bl _,_,h=>by simpa [Rel] using h
 | .int _,_,h=>by simpa [Rel] using h
 | .str _,_,h=>by simpa [Rel] using h
 | .tup ds,v,h=>by
  simp only [Rel] at h ⊢
  obtain ⟨a,vs,e,h1,h2⟩:=h
  exact ⟨a,vs,e,s.keep _ _ h1.1 h1.2,zaq.pass s h2⟩
 | .lst ds,v,h=>by
  simp only [Rel] at h ⊢
  obtain ⟨a,vs,e,h1,h2⟩:=h
  exact ⟨a,vs,e,s.keep _ _ h1.1 h1.2,zaq.pass s h2⟩
 | .scr ds,v,h=>by
  simp only [Rel] at h ⊢
  obtain ⟨a,vs,e,h1,h2⟩:=h
  exact ⟨a,vs,e,h1.imp (fun z=>s.rd z.1 z.2) id,zaq.pass s h2⟩
 | .cel n,v,h=>by
  simp only [Rel] at h ⊢
  obtain ⟨a,e,h⟩:=h
  refine ⟨a,e,?_⟩
  rcases h with h | h
  ·exact s.old n _ h
  ·rcases s.old n _ h with h | h<;>exact .inr h
 | .set xs,v,h=>by
  simp only [Rel] at h ⊢
  obtain ⟨a,e,h,n⟩:=h
  exact ⟨a,e,(s.keep _ _ h n).1,(s.keep _ _ h n).2⟩
 | .dct,v,h=>by
  simp only [Rel] at h ⊢
  obtain ⟨a,e,h,n⟩:=h
  exact ⟨a,e,(s.keep _ _ h n).1,(s.keep _ _ h n).2⟩
 | .fn _,_,h=>by simpa [Rel] using h
 | .exn _,_,h=>by
  simp only [Rel] at h ⊢
  obtain ⟨a,o,C,head,vs,e,h1,h2⟩:=h
  exact ⟨a,o,C,head,vs,e,s.keep _ _ h1.1 h1.2,h2⟩
theorem zaq.pass (s:Pass ι H ι' H'): ∀ {ds:List D} {vs:List V},zaq K ι H ds vs->zaq K ι' H' ds vs
 | [],_,h=>by simpa [zaq] using h
 | d::ds,_,h=>by
  simp only [zaq] at h ⊢
  obtain ⟨v,r,e,h1,h2⟩:=h
  exact ⟨v,r,e,Rel.pass s h1,zaq.pass s h2⟩
end
theorem Rel.step (s:zbS ι H ι' H') {d:D} {v:V} (h:Rel K ι H d v):Rel K ι' H' d v:=h.pass s.pass
theorem zaq.step (s:zbS ι H ι' H') {ds:List D} {vs:List V} (h:zaq K ι H ds vs):zaq K ι' H' ds vs:=h.pass s.pass
theorem zaq.nil:zaq K ι H [] []:=by simp [zaq]
theorem zaq.cons {d:D} {ds:List D} {v:V} {vs:List V} (h:Rel K ι H d v) (t:zaq K ι H ds vs):zaq K ι H (d::ds) (v::vs):=by simp only [zaq];exact ⟨v,vs,rfl,h,t⟩
theorem zaq.length: ∀ {ds:List D} {vs:List V},zaq K ι H ds vs->ds.length=vs.length
 | [],_,h=>by simp only [zaq] at h;subst h;rfl
 | d::ds,_,h=>by
  simp only [zaq] at h
  obtain ⟨v,r,rfl,_,h⟩:=h
  simp [zaq.length h]
theorem zaq.get: ∀ {ds:List D} {vs:List V} {i:Nat} {d:D},zaq K ι H ds vs->ds[i]? = some d-> ∃ v,vs[i]? = some v/\Rel K ι H d v
 | [],_,_,_,_,e=>by simp at e
 | d::ds,_,i,x,h,e=>by
  simp only [zaq] at h
  obtain ⟨v,r,rfl,h1,h2⟩:=h
  cases i with
  | zero=>simp at e;subst e;exact ⟨v,rfl,h1⟩
  | succ i=>simp at e;simpa using zaq.get h2 e
theorem zaq.getV: ∀ {ds:List D} {vs:List V} {i:Nat} {v:V},zaq K ι H ds vs->vs[i]? = some v-> ∃ d,ds[i]? = some d/\Rel K ι H d v
 | [],_,_,_,h,e=>by simp only [zaq] at h;subst h;simp at e
 | d::ds,_,i,x,h,e=>by
  simp only [zaq] at h
  obtain ⟨v,r,rfl,h1,h2⟩:=h
  cases i with
  | zero=>simp at e;subst e;exact ⟨d,rfl,h1⟩
  | succ i=>simp at e;simpa using zaq.getV h2 e
theorem zaq.append: ∀ {ds es:List D} {vs ws:List V},zaq K ι H ds vs->zaq K ι H es ws->zaq K ι H (ds++es) (vs++ws)
 | [],_,_,_,h,t=>by simp only [zaq] at h;subst h;exact t
 | d::ds,es,_,ws,h,t=>by
  simp only [zaq] at h
  obtain ⟨v,r,rfl,h1,h2⟩:=h
  exact zaq.cons h1 (zaq.append h2 t)
theorem zaq.take: ∀ {ds:List D} {vs:List V} (n:Nat),zaq K ι H ds vs->zaq K ι H (ds.take n) (vs.take n)
 | _,_,0,_=>by simpa using zaq.nil
 | [],_,n+1,h=>by simp only [zaq] at h;subst h;exact zaq.nil
 | d::ds,_,n+1,h=>by
  simp only [zaq] at h
  obtain ⟨v,r,rfl,h1,h2⟩:=h
  exact zaq.cons h1 (zaq.take n h2)
theorem zaq.drop: ∀ {ds:List D} {vs:List V} (n:Nat),zaq K ι H ds vs->zaq K ι H (ds.drop n) (vs.drop n)
 | _,_,0,h=>h
 | [],_,n+1,h=>by simp only [zaq] at h;subst h;exact zaq.nil
 | d::ds,_,n+1,h=>by
  simp only [zaq] at h
  obtain ⟨v,r,rfl,h1,h2⟩:=h
  exact zaq.drop n h2
theorem zaq.reverse {ds:List D} {vs:List V} (h:zaq K ι H ds vs):zaq K ι H ds.reverse vs.reverse:=by
 induction ds generalizing vs with
 | nil=>simp only [zaq] at h;subst h;exact zaq.nil
 | cons d ds ih=>
  simp only [zaq] at h
  obtain ⟨v,r,rfl,h1,h2⟩:=h
  rw [List.reverse_cons,List.reverse_cons]
  exact zaq.append (ih h2) (zaq.cons h1 zaq.nil)
theorem zaq.set {d:D} {v:V} (hd:Rel K ι H d v): ∀ {ds:List D} {vs:List V} (i:Nat),zaq K ι H ds vs->zaq K ι H (ds.set i d) (vs.set i v)
 | [],_,_,h=>by simp only [zaq] at h;subst h;exact zaq.nil
 | x::ds,_,i,h=>by
  simp only [zaq] at h
  obtain ⟨w,r,rfl,h1,h2⟩:=h
  cases i with
  | zero=>exact zaq.cons hd h2
  | succ i=>exact zaq.cons h1 (zaq.set hd i h2)
theorem zco: ∀ {is:List Int} {vs:List V},zaq K ι H (is.map D.int) vs↔vs=is.map V.int
 | [],vs=>by simp [zaq]
 | i::is,vs=>by
  simp only [qaM,zaq]
  constructor
  ·rintro ⟨v,r,rfl,h1,h2⟩
   simp only [Rel] at h1
   rw [h1,zco.mp h2]
  ·rintro rfl
   exact ⟨_,_,rfl,by simp [Rel],zco.mpr rfl⟩
noncomputable def CO (K:W.Frag) (ι:Io) (H:Hp):C->HO->Prop
 | .lst ds,o=> ∃ vs,o= .lst vs/\zaq K ι H ds vs
 | .dic kvs,o=> ∃ vs,o= .dK vs/\Paired (fun (p:Int×D) (q:Key×V)=>q.1= .inl p.1/\Rel K ι H p.2 q.2) kvs vs
 | .dead,_=>False
theorem CO.pass {c:C} {o:HO} (s:Pass ι H ι' H') (h:CO K ι H c o):CO K ι' H' c o:=by
 cases c with
 | lst ds=>obtain ⟨vs,e,r⟩:=h;exact ⟨vs,e,r.pass s⟩
 | dic kvs=>
  obtain ⟨vs,e,r⟩:=h
  refine ⟨vs,e,?_⟩
  clear e
  induction r with
  | nil=>exact .nil
  | cons a t ih=>exact .cons ⟨a.1,a.2.pass s⟩ ih
 | dead=>exact h
structure za6 (K:W.Frag) (ι:Io) (H:Hp) (h:Hh):Prop where
 len:h.length=ι.c.length
 inj: ∀ (m n:Nat) (a:Addr),ι.c[m]? = some (some a)->ι.c[n]? = some (some a)->m=n
 at_: ∀ (n:Nat) (a:Addr) (c:C),ι.c[n]? = some (some a)->h[n]? = some c-> ∃ o,H a=some o/\CO K ι H c o
 dead: ∀ (n:Nat),ι.c[n]? = some none->h[n]? = some .dead
 hidt: ∀ a∈ι.x,(∃ o,H a=some o)/\some a∉ι.c
noncomputable abbrev Sd:=List (Option D)
def zcy (K:W.Frag) (ι:Io) (H:Hp) (sd:Sd) (σ:L2.St):Prop:=sd.length=σ.length/\ ∀ (i:Nat) (d:D),sd[i]? = some (some d)-> ∃ v,σ[i]? = some (some v)/\Rel K ι H d v
theorem zcy.pass {sd:Sd} {σ:L2.St} (s:Pass ι H ι' H') (h:zcy K ι H sd σ):zcy K ι' H' sd σ:=⟨h.1,fun i d e=>let ⟨v,h1,h2⟩:=h.2 i d e;⟨v,h1,h2.pass s⟩⟩
theorem zcy.step {sd:Sd} {σ:L2.St} (s:zbS ι H ι' H') (h:zcy K ι H sd σ):zcy K ι' H' sd σ:=⟨h.1,fun i d e=>let ⟨v,h1,h2⟩:=h.2 i d e;⟨v,h1,h2.step s⟩⟩
theorem zcy.set {sd:Sd} {σ:L2.St} {d:D} {v:V} (h:zcy K ι H sd σ) (r:Rel K ι H d v) (i:Nat):zcy K ι H (sd.set i (some d)) (σ.set i (some v)):=by
 refine ⟨by rw [qaI,qaI];exact h.1,fun j d' e=> ?_⟩
 by_cases hij:i=j
 ·subst hij
  by_cases hl:i<sd.length
  ·rw [qai hl] at e
   cases e
   exact ⟨v,by rw [qai (by rw [<- h.1];exact hl)],r⟩
  ·rw [List.getElem?_eq_none (by rw [qaI];omega)] at e
   cases e
 ·rw [qao hij] at e ⊢
  exact h.2 j d' e
theorem zcy.skip {sd:Sd} {σ:L2.St} {o:Option V} (h:zcy K ι H sd σ) (i:Nat) (hn:sd[i]? = some none):zcy K ι H sd (σ.set i o):=by
 refine ⟨by rw [qaI];exact h.1,fun j d' e=> ?_⟩
 by_cases hij:i=j
 ·subst hij;rw [hn] at e;cases e
 ·rw [qao hij];exact h.2 j d' e
end
noncomputable abbrev St:=L2.St
noncomputable abbrev XE:=String->Hp->Prop
def Fin {α:Type} (K:W.Frag) (E:XE) (ι:Io) (H:Hp) (r:R α) (P:α->Io->Hp->Prop):Prop:=match r with
 | .ok a h'=> ∀ ι' H',zbS ι H ι' H'->za6 K ι' H' h'->P a ι' H'
 | .exc c h'=> ∀ ι' H',zbS ι H ι' H'->za6 K ι' H' h'->E c H'
 | .bad=>False
section
variable {α β:Type} {K:W.Frag} {E:XE} {ι ι':Io} {H H':Hp}
theorem Fin.step {r:R α} {P:α->Io->Hp->Prop} (s:zbS ι H ι' H') (h:Fin K E ι H r P):Fin K E ι' H' r P:=by
 cases r with
 | ok a h'=>exact fun ι2 H2 t hr=>h ι2 H2 (s.trans t) hr
 | exc c h'=>exact fun ι2 H2 t hr=>h ι2 H2 (s.trans t) hr
 | bad=>exact h
theorem Fin.mono {r:R α} {P P':α->Io->Hp->Prop} (h:Fin K E ι H r P) (m: ∀ a ι' H',P a ι' H'->P' a ι' H'):Fin K E ι H r P':=by
 cases r with
 | ok a h'=>exact fun ι2 H2 t hr=>m _ _ _ (h ι2 H2 t hr)
 | exc c h'=>exact h
 | bad=>exact h
theorem Fin.bind {m:M α} {f:α->M β} {h:Hh} {P:β->Io->Hp->Prop} {P':α->Io->Hp->Prop} (q:Fin K E ι H ((m>>=f) h) P)
  (k: ∀ a h' ι' H',m h= .ok a h'->zbS ι H ι' H'->za6 K ι' H' h'->Fin K E ι' H' (f a h') P->P' a ι' H'):Fin K E ι H (m h) P':=by
 have q':Fin K E ι H (M.bind m f h) P:=q
 unfold M.bind at q'
 cases e:m h with
 | ok a h'=>
  rw [e] at q'
  intro ι' H' s hr
  exact k a h' ι' H' e s hr (Fin.step s q')
 | exc c h'=>rw [e] at q';exact q'
 | bad=>rw [e] at q';exact q'
theorem Fin.out {a:α} {h:Hh} {P:α->Io->Hp->Prop} (hr:za6 K ι H h) (q:Fin K E ι H ((pure a:M α) h) P):P a ι H:=q ι H (zbS.refl _ _) hr
end
noncomputable def ziR (K:W.Frag) (E:XE) (f:Sd->M D):TE:=fun σ H Q=> ∃ ι h sd,zcy K ι H sd σ/\za6 K ι H h/\Fin K E ι H (f sd h) fun d ι' H'=> ∀ v,Rel K ι' H' d v->Q v H'
noncomputable def ziD (K:W.Frag) (E:XE) (f:Sd->M Bool):TT:=fun σ H Q=> ∃ ι h sd,zcy K ι H sd σ/\za6 K ι H h/\Fin K E ι H (f sd h) fun b ι' H'=>Q b H'
noncomputable def zsV (K:W.Frag) (E:XE) (f:Sd->M (List D)):TA:=fun σ H Q=> ∃ ι h sd,zcy K ι H sd σ/\za6 K ι H h/\Fin K E ι H (f sd h) fun ds ι' H'=> ∀ vs,zaq K ι' H' ds vs->Q vs H'
noncomputable abbrev SE (X:Cx) (E:XE) (e:Expr) (f:Sd->M D):Prop:=PE X e (ziR X.K E f)
noncomputable abbrev ST (X:Cx) (E:XE) (e:Expr) (f:Sd->M Bool):Prop:=PT X e (ziD X.K E f)
noncomputable abbrev SA (X:Cx) (E:XE) (es:List Expr) (f:Sd->M (List D)):Prop:=PA X es (zsV X.K E f)
noncomputable def zdb (K:W.Frag) (E:XE) (F:D->D->M D):R2:=fun x y H Q=> ∃ ι h d1 d2,Rel K ι H d1 x/\Rel K ι H d2 y/\za6 K ι H h/\Fin K E ι H (F d1 d2 h) fun d ι' H'=> ∀ v,Rel K ι' H' d v->Q v H'
noncomputable def zhh (K:W.Frag) (E:XE) (F:List D->M D):List V->Hp->VK->Prop:=fun xs H Q=> ∃ ι h ds,zaq K ι H ds xs/\za6 K ι H h/\Fin K E ι H (F ds h) fun d ι' H'=> ∀ v,Rel K ι' H' d v->Q v H'
theorem PE.imp {X:Cx} {e:Expr} {t t':TE} (h:PE X e t) (m: ∀ σ H Q,t' σ H Q->t σ H Q):PE X e t':=fun pins s σ H Q I q=>h pins s σ H Q I (m _ _ _ q)
theorem PT.imp {X:Cx} {e:Expr} {t t':TT} (h:PT X e t) (m: ∀ σ H Q,t' σ H Q->t σ H Q):PT X e t':=fun pins s σ H Q I q=>h pins s σ H Q I (m _ _ _ q)
theorem PA.imp {X:Cx} {e:List Expr} {t t':TA} (h:PA X e t) (m: ∀ σ H Q,t' σ H Q->t σ H Q):PA X e t':=fun pos pins s σ H Q I q=>h pos pins s σ H Q I (m _ _ _ q)
theorem OpR.imp {X:Cx} {f:Value->Value->Sem Value} {r r':R2} (h:OpR X f r) (m: ∀ x y H Q,r' x y H Q->r x y H Q):OpR X f r':=fun pins s σ H x y v u Q I rx ry q=>h pins s σ H x y v u Q I rx ry (m _ _ _ _ q)
theorem zaJ.imp {X:Cx} {f:Value} {r r':List V->Hp->VK->Prop} (h:zaJ X f r) (m: ∀ xs H Q,r' xs H Q->r xs H Q):zaJ X f r':=by
 intro pins s σ H xs us Q I rx q
 exact h pins s σ H xs us Q I rx (m _ _ _ q)
theorem IxR.imp {X:Cx} {r r':R2} (h:IxR X r) (m: ∀ x y H Q,r' x y H Q->r x y H Q):IxR X r':=by
 intro value slice pins s σ H x y v u Q I rx ry q hs
 exact h value slice pins s σ H x y v u Q I rx ry (m _ _ _ _ q) hs
theorem MtM.imp {X:Cx} {id:String} {r r':V->List V->Hp->VK->Prop} (h:MtM X id r) (m: ∀ x xs H Q,r' x xs H Q->r x xs H Q):MtM X id r':=fun pins s σ H x xs v us Q I rx rs q=>h pins s σ H x xs v us Q I rx rs (m _ _ _ _ q)
theorem SlR.imp {X:Cx} {r r':V->Option Int->Option Int->Hp->VK->Prop} (h:SlR X r) (m: ∀ x l u H Q,r' x l u H Q->r x l u H Q):SlR X r':=fun pins s σ H x v vl vu lo hi sl Q I rx hs pl pu q=>h pins s σ H x v vl vu lo hi sl Q I rx hs pl pu (m _ _ _ _ _ q)
theorem zoK.imp {X:Cx} {r r':zpL} (h:zoK X r) (m: ∀ o i v H Q,r' o i v H Q->r o i v H Q):zoK X r':=fun pins s σ H o i v ov iv u Q I ro ri rv q=>h pins s σ H o i v ov iv u Q I ro ri rv (m _ _ _ _ _ q)
theorem PI.imp {X:Cx} {tg iter:Expr} {t t':TI} (h:PI X tg iter t) (m: ∀ σ H Q,t' σ H Q->t σ H Q):PI X tg iter t':=fun pins s σ H Q I q=>h pins s σ H Q I (m _ _ _ q)
theorem PG.imp {X:Cx} {tg:Expr} {t t':TG} (h:PG X tg t) (m: ∀ v σ H Q,t' v σ H Q->t v σ H Q):PG X tg t':=fun pins s σ H v u Q I r q=>h pins s σ H v u Q I r (m _ _ _ _ q)
theorem PS.imp {X:Cx} {st:Stmt} {t t':TS} (h:PS X st t) (m: ∀ D σ H,t' D σ H->t D σ H):PS X st t':=fun pins s σ H D I q=>h pins s σ H D I (m _ _ _ q)
theorem PSs.imp {X:Cx} {st:List Stmt} {t t':TS} (h:PSs X st t) (m: ∀ D σ H,t' D σ H->t D σ H):PSs X st t':=fun pins s σ H D I q=>h pins s σ H D I (m _ _ _ q)
section
variable {X:Cx} {E:XE} {a b e:Expr} {es:List Expr} {pos:Pos} {fa fb:Sd->M D}
theorem te2 {K:W.Frag} {F:D->D->M D} {r:R2} (hr: ∀ x y H Q,zdb K E F x y H Q->r x y H Q) (σ:St) (H:Hp) (Q:VK) (q:ziR K E (fun sd=>do let x<-fa sd;let y<-fb sd;F x y) σ H Q):tOp r (ziR K E fa) (ziR K E fb) σ H Q:=by
 obtain ⟨ι,h,sd,L,hh,q⟩:=q
 refine ⟨ι,h,sd,L,hh,Fin.bind q fun d1 h1 ι1 H1 e1 s1 hr1 q1 v r1=> ?_⟩
 refine ⟨ι1,h1,sd,L.step s1,hr1,Fin.bind q1 fun d2 h2 ι2 H2 e2 s2 hr2 q2 w r2=> ?_⟩
 exact hr _ _ _ _ ⟨ι2,h2,d1,d2,r1.step s2,r2,hr2,q2⟩
theorem zsy {op:Operator} {F:D->D->M D} (ho:OpR X (binaryOp op) (zdb X.K E F)) (ha:SE X E a fa) (hb:SE X E b fb):SE X E (.BinOp a op b pos) (fun sd=>do let x<-fa sd;let y<-fb sd;F x y):=
 PE.imp (zrN ho ha hb) (te2 fun _ _ _ _ q=>q)
theorem zqx {op:CmpOp} {F:D->D->M D} (ho:OpR X (compareOp op) (zdb X.K E F)) (ha:SE X E a fa) (hb:SE X E b fb) (hm:behindInMarks op b=false):SE X E (.Compare a [op] [b] pos) (fun sd=>do let x<-fa sd;let y<-fb sd;F x y):=
 PE.imp (znf ho ha hb hm) (te2 fun _ _ _ _ q=>q)
theorem zsm {F:D->D->M D} (ho:IxR X (zdb X.K E F)) (ha:SE X E a fa) (hb:SE X E b fb) (hs:zha b):SE X E (.Subscript a b pos) (fun sd=>do let x<-fa sd;let y<-fb sd;F x y):=
 PE.imp (zst ho ha hb hs) (te2 fun _ _ _ _ q=>q)
noncomputable def zda:D->M Bool
 | .bl b=>pure b
 | _=>M.bad
theorem zfy {K:W.Frag} {f:Sd->M D} (σ:St) (H:Hp) (Q:Bool->Hp->Prop) (q:ziD K E (fun sd=>do let x<-f sd;zda x) σ H Q):(ziR K E f) σ H fun x H1=> ∃ c,x= .bl c/\Q c H1:=by
 obtain ⟨ι,h,sd,L,hh,q⟩:=q
 refine ⟨ι,h,sd,L,hh,Fin.bind q fun d1 h1 ι1 H1 e1 s1 hr1 q2 v r1=> ?_⟩
 cases d1 with
 | bl b=>simp only [Rel] at r1;exact ⟨b,r1,Fin.out hr1 q2⟩
 | _=>exact qa0 q2
theorem zqO {op:CmpOp} {F:D->D->M D} (ho:OpR X (compareOp op) (zdb X.K E F)) (ha:SE X E a fa) (hb:SE X E b fb) (hm:behindInMarks op b=false):
  ST X E (.Compare a [op] [b] pos) (fun sd=>do let z<-(do let x<-fa sd;let y<-fb sd;F x y);zda z):=by
 refine PT.imp (znl ho ha hb hm) fun σ H Q q=> ?_
 have q1:=zfy (f:=fun sd=>do let x<-fa sd;let y<-fb sd;F x y) σ H Q q
 exact te2 (fun _ _ _ _ q=>q) σ H _ q1
theorem zpk {f:Sd->M D} (h:SE X E e f) (he: ∀ whole,isTrue e X.env whole=(do let v<-whole;standAt e.pos;holding [v] (truthy v)):=by intro _;rfl):ST X E e (fun sd=>do let x<-f sd;zda x):=
 PT.imp (zqE h he) fun σ H Q q=>zfy σ H Q q
theorem zq7 {t:Sd->M Bool} (ha:ST X E a t):ST X E (.UnaryOp .Not a pos) (fun sd=>do let c<-t sd;pure (!c)):=by
 refine PT.imp (zpK ha) fun σ H Q ⟨ι,h,sd,L,hh,q⟩=>⟨ι,h,sd,L,hh,Fin.bind q fun c h1 ι1 H1 e1 s1 hr1 q1=> ?_⟩
 exact Fin.out hr1 q1
theorem zoN {t:Sd->M Bool} (ha:ST X E a t):PW X (.BoolOp .Or [a] pos) (ziD X.K E t):=pw_or1 ha
theorem PW.imp {t t':TT} (h:PW X e t) (m: ∀ σ H Q,t' σ H Q->t σ H Q):PW X e t':=fun whole pins s σ H Q I q=>h whole pins s σ H Q I (m _ _ _ q)
theorem zrG {rest:List Expr} {t u:Sd->M Bool} (ha:ST X E a t) (hb:PW X (.BoolOp .Or (b::rest) pos) (ziD X.K E u)):PW X (.BoolOp .Or (a::b::rest) pos) (ziD X.K E fun sd=>do let c<-t sd;if c=true then pure true else u sd):=by
 refine PW.imp (pw_or ha hb) fun σ H Q ⟨ι,h,sd,L,hh,q⟩=>⟨ι,h,sd,L,hh,Fin.bind q fun c h1 ι1 H1 e1 s1 hr1 q1=> ?_⟩
 cases c with
 | false=>exact zrs ⟨ι1,h1,sd,L.step s1,hr1,q1⟩
 | true=>exact zrv (Fin.out hr1 q1)
theorem znr {op:BoolOp} {vs:List Expr} {t:Sd->M Bool} (h:PW X (.BoolOp op vs pos) (ziD X.K E t)):ST X E (.BoolOp op vs pos) t:=h.pt
theorem zoV {op:BoolOp} (h:SE X E a fa):SE X E (.BoolOp op [a] pos) fa:=zpm h
theorem zqe {rest:List Expr} (ha:SE X E a fa) (hb:SE X E (.BoolOp .And (b::rest) pos) fb):SE X E (.BoolOp .And (a::b::rest) pos) (fun sd=>do let c<-(do let x<-fa sd;zda x);if c=true then fb sd else pure (.bl false)):=by
 refine PE.imp (zp6 ha hb) fun σ H Q ⟨ι,h,sd,L,hh,q⟩=> ?_
 have q1:=zfy (K:=X.K) (E:=E) (f:=fa) σ H (fun c H1=>if c=true then ziR X.K E fb σ H1 Q else Q (.bl false) H1) ⟨ι,h,sd,L,hh,Fin.bind q fun c h1 ι1 H1 e1 s1 hr1 q1=> ?_⟩
 ·exact q1
 ·cases c with
  | true=>exact zrv ⟨ι1,h1,sd,L.step s1,hr1,q1⟩
  | false=>exact zrs (Fin.out hr1 q1 _ (by simp [Rel]))
theorem zqG (ha:SE X E a fa):SE X E (.UnaryOp .Not a pos) (fun sd=>do let c<-(do let x<-fa sd;zda x);pure (.bl (!c))):=by
 refine PE.imp (zpg ha) fun σ H Q ⟨ι,h,sd,L,hh,q⟩=> ?_
 have q1:=zfy (K:=X.K) (E:=E) (f:=fa) σ H (fun c H1=>Q (.bl (!c)) H1) ⟨ι,h,sd,L,hh,Fin.bind q fun c h1 ι1 H1 e1 s1 hr1 q1=> ?_⟩
 ·exact q1
 ·exact Fin.out hr1 q1 _ (by simp [Rel])
noncomputable def zaf (i:Nat):Sd->M D:=fun sd=>match sd[i]? with
 | some (some d)=>pure d
 | _=>M.bad
theorem zqW (i:Nat) {x:Str} (hN:X.N[i]? = some x) (hv:Vis X.env.scope x) (hd:(x==("__debug__":Str))=false:=by decide) (hcd:(x==("__classdict__":Str))=false:=by decide):SE X E (.Name x pos) (zaf i):=by
 refine PE.imp (zme hN hv hd hcd) fun σ H Q ⟨ι,h,sd,L,hh,q⟩=> ?_
 unfold zaf at q
 cases e:sd[i]? with
 | none=>rw [e] at q;exact qa0 q
 | some o=>
  rw [e] at q
  cases o with
  | none=>exact qa0 q
  | some d=>
   obtain ⟨v,e1,r⟩:=L.2 i d e
   exact ⟨v,e1,Fin.out hh q v r⟩
theorem zel {K:W.Frag} {d:D} {v:V} (r: ∀ ι H,Rel K ι H d v) (σ:St) (H:Hp) (Q:VK) (q:ziR K E (fun _=>pure d) σ H Q):tC v σ H Q:=by
 obtain ⟨ι,h,sd,L,hh,q⟩:=q
 exact Fin.out hh q v (r _ _)
theorem zo3 {i:Int} {j:Nat}:SE X E (.Constant (.int i) j pos) (fun _=>pure (.int i)):=PE.imp zmg (zel fun _ _=>by simp [Rel])
theorem zsi {i:Bool} {j:Nat}:SE X E (.Constant (.bool i) j pos) (fun _=>pure (.bl i)):=PE.imp zrf (zel fun _ _=>by simp [Rel])
theorem zqa {j:Nat}:SE X E (.Constant .none j pos) (fun _=>pure .non):=PE.imp zqb (zel fun _ _=>by simp [Rel])
theorem zp9 {i:Str} {j:Nat}:SE X E (.Constant (.str i) j pos) (fun _=>pure (.str i)):=PE.imp zmu (zel fun _ _=>by simp [Rel])
theorem zpO:SA X E [] (fun _=>pure []):=PA.imp zcS fun σ H Q ⟨ι,h,sd,L,hh,q⟩=>Fin.out hh q [] zaq.nil
theorem zom {fs:Sd->M (List D)} (ha:SE X E e fa) (hr:SA X E es fs) (hs:starEach (e::es) X.env=(false,eval e X.env)::starEach es X.env:=by rfl):SA X E (e::es) (fun sd=>do let x<-fa sd;let r<-fs sd;pure (x::r)):=by
 refine PA.imp (zbm ha hr hs) fun σ H Q ⟨ι,h,sd,L,hh,q⟩=>⟨ι,h,sd,L,hh,Fin.bind q fun d h1 ι1 H1 e1 s1 hr1 q1 v rv=> ?_⟩
 refine ⟨ι1,h1,sd,L.step s1,hr1,Fin.bind q1 fun ds h2 ι2 H2 e2 s2 hr2 q2 vs rvs=> ?_⟩
 exact Fin.out hr2 q2 _ (zaq.cons (rv.step s2) rvs)
end
theorem za6.nin {K:W.Frag} {ι:Io} {H:Hp} {h:Hh} (hr:za6 K ι H h) {p:Addr} (hp:H p=none): ¬ι.Has p:=fun z=>by
 rcases z with z | z
 ·obtain ⟨n,hn⟩:=List.mem_iff_getElem?.mp z
  have hl:n<h.length:=by rw [hr.len];exact (qac.mp hn).1
  obtain ⟨o,e,_⟩:=hr.at_ n p h[n] hn (by simp [hl])
  rw [hp] at e
  cases e
 ·obtain ⟨⟨o,e⟩,_⟩:=hr.hidt p z
  rw [hp] at e
  cases e
theorem za6.laidS {K:W.Frag} {ι:Io} {H:Hp} {h:Hh} (hr:za6 K ι H h) {p:Addr} {o:HO} (hp:H p=none):zbS ι H ι (upd H p o):=
 ⟨fun _ _ h=> .inl h,fun _ h=> .inl h,rfl,fun a ha=>zaw fun z=>hr.nin hp (.inr (z▸ha)),fun b o' h _=>by rw [zaw (zaQ h hp)];exact h⟩
theorem za6.laid {K:W.Frag} {ι:Io} {H:Hp} {h:Hh} {p:Addr} {o:HO} (hr:za6 K ι H h) (hp:H p=none):za6 K ι (upd H p o) h:=
 ⟨hr.len,hr.inj,fun n a c hn hc=>by
   obtain ⟨o',e2,e3⟩:=hr.at_ n a c hn hc
   exact ⟨o',by rw [zaw (zaQ e2 hp)];exact e2,e3.pass (hr.laidS hp).pass⟩,hr.dead,fun a ha=>⟨by rw [zaw (show a≠p from fun z=>hr.nin hp (.inr (z▸ha)))];exact (hr.hidt a ha).1,(hr.hidt a ha).2⟩⟩
noncomputable def fits (n:Nat):M Unit:=if n<=sizeLine then pure () else M.bad
theorem Fin.fits {α:Type} {K:W.Frag} {E:XE} {ι:Io} {H:Hp} {n:Nat} {f:M α} {h:Hh} {P:α->Io->Hp->Prop} (q:Fin K E ι H ((do L3.fits n;f) h) P):n<=sizeLine/\Fin K E ι H (f h) P:=by
 have q':Fin K E ι H (M.bind (L3.fits n) (fun _=>f) h) P:=q
 unfold M.bind L3.fits at q'
 by_cases hn:n<=sizeLine
 ·rw [qa4 hn] at q'
  exact ⟨hn,q'⟩
 ·rw [qa5 hn] at q'
  exact qa0 q'
section
variable {X:Cx} {E:XE} {es:List Expr} {pos:Pos} {fs:Sd->M (List D)}
theorem zmL {K:W.Frag} {ι:Io} {H:Hp} {h:Hh} {ds:List D} {vs:List V} {Q:VK} (hr:za6 K ι H h) (rl:zaq K ι H ds vs) (q:Fin K E ι H ((pure (.tup ds):M D) h) fun d ι' H'=> ∀ v,Rel K ι' H' d v->Q v H') {p:Addr} (hp:H p=none):Q (.ref p) (upd H p (.tup vs)):=
 q ι _ (hr.laidS hp) (hr.laid hp) _ (by
   simp only [Rel]
   exact ⟨p,vs,rfl,⟨zaU,hr.nin hp⟩,rl.step (hr.laidS hp)⟩)
theorem zoF {K:W.Frag} {ι:Io} {H:Hp} {h:Hh} {ds:List D} {vs:List V} {Q:VK} (hr:za6 K ι H h) (rl:zaq K ι H ds vs) (q:Fin K E ι H ((pure (.lst ds):M D) h) fun d ι' H'=> ∀ v,Rel K ι' H' d v->Q v H') {p:Addr} (hp:H p=none):Q (.ref p) (upd H p (.lst vs)):=
 q ι _ (hr.laidS hp) (hr.laid hp) _ (by
   simp only [Rel]
   exact ⟨p,vs,rfl,⟨zaU,hr.nin hp⟩,rl.step (hr.laidS hp)⟩)
noncomputable def zdm (ds:List D):M D:=fun h=> .ok (.cel h.length) (h++[.lst ds])
theorem zso {K:W.Frag} {ι:Io} {H:Hp} {h:Hh} {c0:C} {o0:HO} {Q:VK} (hr:za6 K ι H h) (co:CO K ι H c0 o0) (q:Fin K E ι H (.ok (.cel h.length) (h++[c0])) fun d ι' H'=> ∀ v,Rel K ι' H' d v->Q v H') {p:Addr} (hp:H p=none):Q (.ref p) (upd H p o0):=by
 have hlen:=hr.len
 have nh:=hr.nin hp
 have st:zbS ι H ⟨ι.c++[some p],ι.x⟩ (upd H p o0):=by
  refine ⟨fun n o h=> .inl ?_,fun a h=> ?_,rfl,fun a ha=>zaw fun z=>nh (.inr (z▸ha)),fun b o' h _=>by rw [zaw (zaQ h hp)];exact h⟩
  ·show (ι.c++[some p])[n]? = _
   rw [qad (qac.mp h).1];exact h
  ·rcases qaK.mp h with h | h
   ·exact .inl h
   ·simp at h;subst h;exact .inr hp
 have at_: ∀ (n:Nat) (a:Addr),(ι.c++[some p])[n]? = some (some a)->(ι.c[n]? = some (some a))\/(n=ι.c.length/\a=p):=fun n a h=>by
  by_cases hl:n<ι.c.length
  ·rw [qad hl] at h;exact .inl h
  ·rw [qaa (by omega)] at h
   have:n - ι.c.length=0:=by
    cases z:n - ι.c.length with
    | zero=>rfl
    | succ k=>rw [z] at h;simp at h
   rw [this] at h
   simp at h
   exact .inr ⟨by omega,h.symm⟩
 refine q _ _ st ⟨?_,fun m n a h1 h2=> ?_,fun n a c h1 h2=> ?_,fun n h1=> ?_,fun a ha=>⟨?_,fun z=> ?_⟩⟩ _ ?_
 ·show (h++[c0]).length=(ι.c++[some p]).length
  rw [qav,qav,hlen];rfl
 ·rcases at_ m a h1 with z1 | ⟨z1,z1'⟩<;>rcases at_ n a h2 with z2 | ⟨z2,z2'⟩
  ·exact hr.inj m n a z1 z2
  ·subst z2';exact absurd (.inl (List.mem_of_getElem? z1)) nh
  ·subst z1';exact absurd (.inl (List.mem_of_getElem? z2)) nh
  ·rw [z1,z2]
 ·rcases at_ n a h1 with z1 | ⟨z1,z1'⟩
  ·rw [qad (by rw [hlen];exact (qac.mp z1).1)] at h2
   obtain ⟨o',e2,e3⟩:=hr.at_ n a c z1 h2
   exact ⟨o',by rw [zaw (zaQ e2 hp)];exact e2,e3.pass st.pass⟩
  ·subst z1 z1'
   rw [<- hlen,qaa (qaV _)] at h2
   simp at h2
   subst h2
   exact ⟨o0,zaU,co.pass st.pass⟩
 ·have h1:(ι.c++[some p])[n]? = some none:=h1
  by_cases hl:n<ι.c.length
  ·rw [qad hl] at h1
   rw [qad (by rw [hlen];exact hl)]
   exact hr.dead n h1
  ·rw [qaa (by omega)] at h1
   cases z:n - ι.c.length with
   | zero=>rw [z] at h1;simp at h1
   | succ k=>rw [z] at h1;simp at h1
 ·rw [zaw (show a≠p from fun z=>nh (.inr (z▸ha)))]
  exact (hr.hidt a ha).1
 ·rcases qaK.mp z with z | z
  ·exact (hr.hidt a ha).2 z
  ·simp at z;subst z;exact nh (.inr ha)
 ·simp only [Rel]
  refine ⟨p,rfl,.inl ?_⟩
  show (ι.c++[some p])[h.length]? = _
  rw [hlen,qaa (qaV _)]
  simp
theorem zsS {K:W.Frag} {ι:Io} {H:Hp} {h:Hh} {ds:List D} {vs:List V} {Q:VK} (hr:za6 K ι H h) (rl:zaq K ι H ds vs) (q:Fin K E ι H (zdm ds h) fun d ι' H'=> ∀ v,Rel K ι' H' d v->Q v H') {p:Addr} (hp:H p=none):Q (.ref p) (upd H p (.lst vs)):=
 zso hr (c0:= .lst ds) ⟨vs,rfl,rl⟩ q hp
theorem zqf {x1} (h:SA X E es fs):SE X E (.Tuple es x1 pos) (fun sd=>do let ds<-fs sd;fits ds.length;pure (.tup ds)):=by
 refine PE.imp (zpb h) fun σ H Q ⟨ι,h,sd,L,hh,q⟩=>⟨ι,h,sd,L,hh,Fin.bind q fun ds h1 ι1 H1 e1 s1 hr1 q1 vs rvs=> ?_⟩
 obtain ⟨z,q2⟩:=Fin.fits q1
 exact ⟨by rw [<- rvs.length];exact z,fun p hp=>zmL hr1 rvs q2 hp⟩
theorem zoZ (h:SA X E es fs):SE X E (.List es pos) (fun sd=>do let ds<-fs sd;fits ds.length;pure (.lst ds)):=by
 refine PE.imp (zmD h) fun σ H Q ⟨ι,h,sd,L,hh,q⟩=>⟨ι,h,sd,L,hh,Fin.bind q fun ds h1 ι1 H1 e1 s1 hr1 q1 vs rvs=> ?_⟩
 obtain ⟨z,q2⟩:=Fin.fits q1
 exact ⟨by rw [<- rvs.length];exact z,fun p hp=>zoF hr1 rvs q2 hp⟩
theorem znb (h:SA X E es fs):SE X E (.List es pos) (fun sd=>do let ds<-fs sd;fits ds.length;zdm ds):=by
 refine PE.imp (zmD h) fun σ H Q ⟨ι,h,sd,L,hh,q⟩=>⟨ι,h,sd,L,hh,Fin.bind q fun ds h1 ι1 H1 e1 s1 hr1 q1 vs rvs=> ?_⟩
 obtain ⟨z,q2⟩:=Fin.fits q1
 exact ⟨by rw [<- rvs.length];exact z,fun p hp=>zsS hr1 rvs q2 hp⟩
end
inductive Out where
 | nx (sd:Sd) | rt (d:D) | bk (sd:Sd) | ct (sd:Sd)
noncomputable def zfT (K:W.Frag) (D0:zmA):Out->Io->Hp->Prop
 | .nx sd',ι',H'=> ∀ σ',zcy K ι' H' sd' σ'->D0.nx σ' H'
 | .rt d,ι',H'=> ∀ v,Rel K ι' H' d v->D0.rt v H'
 | .bk sd',ι',H'=> ∀ σ',zcy K ι' H' sd' σ'->D0.bk σ' H'
 | .ct sd',ι',H'=> ∀ σ',zcy K ι' H' sd' σ'->D0.ct σ' H'
noncomputable def zs6 (K:W.Frag) (E:XE) (G:Sd->M Out):TS:=fun D0 σ H=> ∃ ι h sd,zcy K ι H sd σ/\za6 K ι H h/\Fin K E ι H (G sd h) (zfT K D0)
noncomputable abbrev SS (X:Cx) (E:XE) (st:Stmt) (G:Sd->M Out):Prop:=PS X st (zs6 X.K E G)
noncomputable abbrev SSs (X:Cx) (E:XE) (st:List Stmt) (G:Sd->M Out):Prop:=PSs X st (zs6 X.K E G)
noncomputable def andThen (o:Out) (g:Sd->M Out):M Out:=match o with
 | .nx sd=>g sd
 | o=>pure o
section
variable {X:Cx} {E:XE} {pos:Pos}
theorem zqw:SSs X E [] (fun sd=>pure (.nx sd)):=PSs.imp zm6 fun D0 σ H ⟨ι,h,sd,L,hh,q⟩=>Fin.out hh q σ L
theorem znn {st:Stmt} {rest:List Stmt} {g g':Sd->M Out} (h1:SS X E st g) (h2:SSs X E rest g'):SSs X E (st::rest) (fun sd=>do let o<-g sd;andThen o g'):=by
 refine PSs.imp (zlo h1 h2) fun D0 σ H ⟨ι,h,sd,L,hh,q⟩=>⟨ι,h,sd,L,hh,Fin.bind q fun o h1 ι1 H1 e1 s1 hr1 q1=> ?_⟩
 cases o with
 | nx sd'=>exact fun σ' L'=>⟨ι1,h1,sd',L',hr1,q1⟩
 | rt d=>exact Fin.out (E:=E) (P:=zfT X.K D0) hr1 q1
 | bk sd'=>exact Fin.out (E:=E) (P:=zfT X.K D0) hr1 q1
 | ct sd'=>exact Fin.out (E:=E) (P:=zfT X.K D0) hr1 q1
theorem zo0 {st:Stmt} {g:Sd->M Out} (h1:SS X E st g):SSs X E [st] g:=zm3 h1
theorem zq9 {e:Expr} {f:Sd->M D} (he:SE X E e f) (hs:swapsWith e none pos.line X.env=pure false:=by rfl):SS X E (.Expr e pos) (fun sd=>do let _<-f sd;pure (.nx sd)):=by
 refine PS.imp (znF he hs) fun D0 σ H ⟨ι,h,sd,L,hh,q⟩=>⟨ι,h,sd,L,hh,Fin.bind q fun d h1 ι1 H1 e1 s1 hr1 q1 v rv=> ?_⟩
 exact Fin.out hr1 q1 σ (L.step s1)
theorem zsO {e:Expr} {f:Sd->M D} (he:SE X E e f):SS X E (.Return (some e) pos) (fun sd=>do let d<-f sd;pure (.rt d)):=by
 refine PS.imp (zqH he) fun D0 σ H ⟨ι,h,sd,L,hh,q⟩=>⟨ι,h,sd,L,hh,Fin.bind q fun d h1 ι1 H1 e1 s1 hr1 q1 v rv=> ?_⟩
 exact Fin.out hr1 q1 v rv
theorem ztq {c:Expr} {a b:List Stmt} {t:Sd->M Bool} {g g':Sd->M Out} (hc:ST X E c t) (ha:SSs X E a g) (hb:SSs X E b g'):SS X E (.If c a b pos) (fun sd=>do let c<-t sd;if c=true then g sd else g' sd):=by
 refine PS.imp (zrO hc ha hb) fun D0 σ H ⟨ι,h,sd,L,hh,q⟩=>⟨ι,h,sd,L,hh,Fin.bind q fun c h1 ι1 H1 e1 s1 hr1 q1=> ?_⟩
 cases c with
 | true=>exact zrv ⟨ι1,h1,sd,L.step s1,hr1,q1⟩
 | false=>exact zrs ⟨ι1,h1,sd,L.step s1,hr1,q1⟩
noncomputable def zrP (K:W.Frag) (E:XE) (g:D->Sd->M Sd):TG:=fun v σ H Q=> ∃ ι h sd d,zcy K ι H sd σ/\za6 K ι H h/\Rel K ι H d v/\Fin K E ι H (g d sd h) fun sd' ι' H'=> ∀ σ',zcy K ι' H' sd' σ'->Q σ' H'
noncomputable def zse (K:W.Frag) (E:XE) (g:List D->Sd->M Sd):TGs:=fun vs σ H Q=> ∃ ι h sd ds,zcy K ι H sd σ/\za6 K ι H h/\zaq K ι H ds vs/\Fin K E ι H (g ds sd h) fun sd' ι' H'=> ∀ σ',zcy K ι' H' sd' σ'->Q σ' H'
noncomputable abbrev SG (X:Cx) (E:XE) (tg:Expr) (g:D->Sd->M Sd):Prop:=PG X tg (zrP X.K E g)
noncomputable abbrev SGs (X:Cx) (E:XE) (tgs:List Expr) (g:List D->Sd->M Sd):Prop:=PGs X tgs (zse X.K E g)
noncomputable def zaW (i:Nat):D->Sd->M Sd:=fun d sd=>pure (sd.set i (some d))
theorem zni (i:Nat) {x:Str} (hN:X.N.Nodup) (hi:X.N[i]? = some x) (hx:Loc X.env.scope x) (hf:X.fn x=true\/X.env.scope.names.lookup x=some .local):SG X E (.Name x pos) (zaW i):=by
 refine PG.imp (znw hN hi hx hf) fun v σ H Q ⟨ι,h,sd,d,L,hh,r,q⟩=> ?_
 exact Fin.out hh q _ (L.set r i)
theorem PGs.imp {tgs:List Expr} {t t':TGs} (h:PGs X tgs t) (m: ∀ v σ H Q,t' v σ H Q->t v σ H Q):PGs X tgs t':=fun pins s σ H v u Q I r q=>h pins s σ H v u Q I r (m _ _ _ _ q)
noncomputable def zbW:List D->Sd->M Sd:=fun ds sd=>match ds with | []=>pure sd | _=>M.bad
noncomputable def zax (g:D->Sd->M Sd) (gs:List D->Sd->M Sd):List D->Sd->M Sd:=fun ds sd=>match ds with
 | []=>M.bad
 | d::r=>do let sd1<-g d sd;gs r sd1
theorem zm9:SGs X E [] zbW:=by
 refine PGs.imp znG fun v σ H Q ⟨ι,h,sd,ds,L,hh,r,q⟩=> ?_
 cases ds with
 | nil=>simp only [zaq] at r;exact ⟨r,Fin.out hh q _ L⟩
 | cons d r=>exact qa0 q
theorem zlL {e:Expr} {es:List Expr} {g:D->Sd->M Sd} {gs:List D->Sd->M Sd} (h1:SG X E e g) (h2:SGs X E es gs)
  (hs:(assignEach (e::es) X.env).map (·.2)=assign e X.env::(assignEach es X.env).map (·.2):=by rfl):SGs X E (e::es) (zax g gs):=by
 refine PGs.imp (zlO h1 h2 hs) fun v σ H Q ⟨ι,h,sd,ds,L,hh,r,q⟩=> ?_
 cases ds with
 | nil=>exact qa0 q
 | cons d ds=>
  simp only [zaq] at r
  obtain ⟨v1,vr,rfl,r1,r2⟩:=r
  refine ⟨v1,vr,rfl,ι,h,sd,d,L,hh,r1,Fin.bind q fun sd1 h1 ι1 H1 e1 s1 hr1 q1 σ1 L1=> ?_⟩
  exact ⟨ι1,h1,sd1,ds,L1,hr1,r2.step s1,q1⟩
noncomputable def zb0 (n:Nat) (gs:List D->Sd->M Sd):D->Sd->M Sd:=fun d sd=>match d with
 | .tup ds=>if ds.length=n then gs ds sd else M.bad
 | _=>M.bad
theorem zcu {K:W.Frag} {ι:Io} {H:Hp} {ds:List D} {v:V} (h:Rel K ι H (.tup ds) v): ∃ a vs,v= .ref a/\SqT K H a vs/\zaq K ι H ds vs:=by
 simp only [Rel] at h
 obtain ⟨a,vs,e,h1,h2⟩:=h
 exact ⟨a,vs,e,.inl (.inl h1.1),h2⟩
theorem zjA {K:W.Frag} {ι:Io} {H:Hp} {ds:List D} {v:V} (h:Rel K ι H (.scr ds) v): ∃ a vs,v= .ref a/\SqL K H a vs/\zaq K ι H ds vs:=by
 simp only [Rel] at h
 obtain ⟨a,vs,e,h1,h2⟩:=h
 refine ⟨a,vs,e,?_,h2⟩
 rcases h1 with h1 | h1
 ·exact .inl h1.1
 ·rcases h1 with h1 | h1
  ·rcases h1 with h1 | ⟨o,h1⟩<;>cases h1
  ·exact .inr h1
theorem zd6 {K:W.Frag} {ι:Io} {H:Hp} {ds:List D} {v:V} (h:Rel K ι H (.lst ds) v): ∃ a vs,v= .ref a/\SqL K H a vs/\zaq K ι H ds vs:=by
 simp only [Rel] at h
 obtain ⟨a,vs,e,h1,h2⟩:=h
 exact ⟨a,vs,e,.inl (.inl h1.1),h2⟩
theorem zo6 {es:List Expr} {k:Nat} {gs:List D->Sd->M Sd} {n:Nat} (hc:X.calm=true) (h:SGs X E es gs)
  (hn:(assignEach es X.env).length=n:=by rfl) (hst:(assignEach es X.env).findIdx? (·.1)=none:=by rfl):SG X E (.Tuple es k pos) (zb0 n gs):=by
 refine PG.imp (zqT hc h hn hst) fun v σ H Q ⟨ι,h,sd,d,L,hh,r,q⟩=> ?_
 cases d with
 | tup ds=>
  obtain ⟨a,vs,e,h1,h2⟩:=zcu r
  have q:Fin X.K E ι H ((if ds.length=n then gs ds sd else M.bad) h) _:=q
  by_cases hl:ds.length=n
  ·rw [qa4 hl] at q
   exact ⟨a,vs,e,h1,by rw [<- h2.length];exact hl,ι,h,sd,ds,L,hh,h2,q⟩
  ·rw [qa5 hl] at q
   exact qa0 q
 | _=>exact qa0 q
theorem zrL {tg e:Expr} {f:Sd->M D} {g:D->Sd->M Sd} (he:SE X E e f) (hg:SG X E tg g) (hs:swapsWithSole [tg] e pos.line X.env=pure false:=by rfl) (hw:swappedStores [tg] e X.env=pure none:=by rfl)
  (h1:(assignEach [tg] X.env).map (·.2)=[assign tg X.env]:=by rfl):SS X E (.Assign [tg] e pos) (fun sd=>do let d<-f sd;let sd'<-g d sd;pure (.nx sd')):=by
 refine PS.imp (zqX he hg hs hw h1) fun D0 σ H ⟨ι,h,sd,L,hh,q⟩=>⟨ι,h,sd,L,hh,Fin.bind q fun d h1 ι1 H1 e1 s1 hr1 q1 v rv=> ?_⟩
 exact ⟨ι1,h1,sd,d,L.step s1,hr1,rv,Fin.bind q1 fun sd' h2 ι2 H2 e2 s2 hr2 q2=>Fin.out hr2 q2⟩
theorem zsj (i:Nat) {x:Str} {e:Expr} {f:Sd->M D} {pos':Pos} (hN:X.N.Nodup) (hi:X.N[i]? = some x) (hx:Loc X.env.scope x) (hf:X.fn x=true\/X.env.scope.names.lookup x=some .local) (he:SE X E e f) (hs:swapsWith e (some (.Name x pos')) pos.line X.env=pure false:=by rfl):
  SS X E (.Assign [.Name x pos'] e pos) (fun sd=>do let d<-f sd;pure (.nx (sd.set i (some d)))):=by
 refine PS.imp (zpi hN hi hx he hs hf) fun D0 σ H ⟨ι,h,sd,L,hh,q⟩=>⟨ι,h,sd,L,hh,Fin.bind q fun d h1 ι1 H1 e1 s1 hr1 q1 v rv=> ?_⟩
 exact Fin.out hr1 q1 _ ((L.step s1).set rv i)
theorem zry {i j:Nat} {x y:Str} {a b:Expr} {fs:Sd->M (List D)} {px py pt:Pos} {kt k2 pt2} (hp:PS X (.Assign [.Tuple [.Name x px,.Name y py] kt pt] (.Tuple [a,b] k2 pt2) pos) (zsR i j (zsV X.K E fs))):
  SS X E (.Assign [.Tuple [.Name x px,.Name y py] kt pt] (.Tuple [a,b] k2 pt2) pos) (fun sd=>do let ds<-fs sd;match ds with | [d,d']=>pure (.nx ((sd.set i (some d)).set j (some d'))) | _=>M.bad):=by
 refine PS.imp hp fun D0 σ H ⟨ι,h,sd,L,hh,q⟩=>⟨ι,h,sd,L,hh,Fin.bind q fun ds h1 ι1 H1 e1 s1 hr1 q1 vs rv=> ?_⟩
 match ds,rv,q1 with
 | [d,d'],rv,q1=>
  simp only [zaq] at rv
  obtain ⟨v,r,rfl,r1,v',r',rfl,r2,rfl⟩:=rv
  exact ⟨v,v',rfl,Fin.out hr1 q1 _ (((L.step s1).set r1 i).set r2 j)⟩
 | [],_,q1=>exact qa0 q1
 | [_],_,q1=>exact qa0 q1
 | _::_::_::_,_,q1=>exact qa0 q1
def zrw (H H2:Hp):Prop:=H2=H\/ ∃ q vs,H q=none/\H2=upd H q (.tup vs)
theorem zrw.step {K:W.Frag} {ι:Io} {H H2:Hp} {h:Hh} (g:zrw H H2) (hr:za6 K ι H h):zbS ι H ι H2/\za6 K ι H2 h:=by
 rcases g with e | ⟨q,vs,hq,e⟩
 ·subst e;exact ⟨zbS.refl _ _,hr⟩
 ·subst e;exact ⟨hr.laidS hq,hr.laid hq⟩
structure zoM (K:W.Frag) (ι:Io) (H:Hp) (J:It) (ds:List D):Prop where
 go: ∀ ι' H' (i:Nat),Pass ι H ι' H'->i<ds.length->J.go i H'
 yld: ∀ ι' H' h (i:Nat) x H2,Pass ι H ι' H'->za6 K ι' H' h->i<ds.length->J.yld i H' x H2->zrw H' H2/\ ∃ d,ds[i]? = some d/\Rel K ι' H2 d x
 stop: ∀ ι' H',Pass ι H ι' H'->J.stop ds.length H'
noncomputable def zs0 (K:W.Frag) (E:XE) (f:Sd->M (List D)):TI:=fun σ H Q=> ∃ ι h sd,zcy K ι H sd σ/\za6 K ι H h/\Fin K E ι H (f sd h) fun ds ι' H'=> ∀ J,zoM K ι' H' J ds->Q J H'
noncomputable abbrev SI (X:Cx) (E:XE) (tg iter:Expr) (f:Sd->M (List D)):Prop:=PI X tg iter (zs0 X.K E f)
noncomputable def zdM:D->M (List D)
 | .tup ds=>pure ds
 | .lst ds=>pure ds
 | _=>M.bad
theorem zlI {K:W.Frag} {ι:Io} {H:Hp} {a:Addr} {vs:List V} {ds:List D} (h: ∀ ι' H',Pass ι H ι' H'->SqT K H' a vs) (rl:zaq K ι H ds vs):zoM K ι H (Itt K a) ds where
 go:=fun ι' H' i s hi=>⟨vs,vs[i]'(by rw [<- rl.length];exact hi),h ι' H' s,by simp⟩
 yld:=fun ι' H' _ i x H2 s _ hi ⟨e,y⟩=>by
  subst e
  have hx:=y vs (h ι' _ s)
  obtain ⟨d,e1,e2⟩:=rl.getV hx
  exact ⟨.inl rfl,d,e1,e2.pass s⟩
 stop:=fun ι' H' s=>⟨vs,h ι' H' s,by rw [rl.length];exact qaV _⟩
theorem zlQ {K:W.Frag} {ι:Io} {H:Hp} {a:Addr} {vs:List V} {ds:List D} (h: ∀ ι' H',Pass ι H ι' H'->SqL K H' a vs) (rl:zaq K ι H ds vs):zoM K ι H (Itl K a) ds where
 go:=fun ι' H' i s hi=>⟨vs,vs[i]'(by rw [<- rl.length];exact hi),h ι' H' s,by simp⟩
 yld:=fun ι' H' _ i x H2 s _ hi ⟨e,y⟩=>by
  subst e
  have hx:=y vs (h ι' _ s)
  obtain ⟨d,e1,e2⟩:=rl.getV hx
  exact ⟨.inl rfl,d,e1,e2.pass s⟩
 stop:=fun ι' H' s=>⟨vs,h ι' H' s,by rw [rl.length];exact qaV _⟩
theorem Pass.refl (ι:Io) (H:Hp):Pass ι H ι H:=(zbS.refl ι H).pass
theorem zhj {K:W.Frag} {ι:Io} {H:Hp} {ds:List D} {v:V} (h:Rel K ι H (.tup ds) v): ∃ a vs,v= .ref a/\(∀ ι' H',Pass ι H ι' H'->SqT K H' a vs)/\zaq K ι H ds vs:=by
 simp only [Rel] at h
 obtain ⟨a,vs,e,h1,h2⟩:=h
 exact ⟨a,vs,e,fun ι' H' s=> .inl (.inl (s.keep _ _ h1.1 h1.2).1),h2⟩
theorem znc {K:W.Frag} {ι:Io} {H:Hp} {ds:List D} {v:V} (h:Rel K ι H (.lst ds) v): ∃ a vs,v= .ref a/\(∀ ι' H',Pass ι H ι' H'->SqL K H' a vs)/\zaq K ι H ds vs:=by
 simp only [Rel] at h
 obtain ⟨a,vs,e,h1,h2⟩:=h
 exact ⟨a,vs,e,fun ι' H' s=> .inl (.inl (s.keep _ _ h1.1 h1.2).1),h2⟩
end
end L3
namespace L2
open PySem PySem.Spec PyProof.Rows
noncomputable def ztd (K:W.Frag) (tl:TE):TI:=fun σ H R=>tl σ H fun x H1=> ∃ a,x= .ref a/\(((∃ xs,SqL K H1 a xs)/\R (Itl K a) H1)\/((∃ xs,SqT K H1 a xs)/\R (Itt K a) H1))
theorem zq2 {X:Cx} {tg:Expr} {l:Expr} {tl:TE} (hl:PE X l tl):PI X tg l (ztd X.K tl):=by
 intro pins s σ H R I h
 refine thn (hl pins s σ H _ I h) fun v s1 ⟨x,H1,I1,r1,q1⟩=> ?_
 obtain ⟨a,e,⟨⟨xs,hq⟩,q⟩ | ⟨⟨xs,hq⟩,q⟩⟩:=q1
 ·subst e
  cases r1
  obtain ⟨its,rv,p,hz⟩:=I1.list hq
  refine wpAny_pyIter_list p.isList ?_
  refine ⟨s1.heap.objs.size,[s1.heap.objs.size],_,_,H1,rfl,I1.kept (t':=s1.toks) fun b o e=>qag _ e,ziY a _,⟨_,qar _ rfl,rfl,rfl⟩,fun b hb=> ?_,q⟩
  have e:b=s1.heap.objs.size:=by simpa using hb
  subst e
  exact I1.fpOk (qaV _) (I1.hok.fresh (qaV _))
 ·subst e
  cases r1
  obtain ⟨its,rv,p,hz⟩:=I1.tuple hq
  refine wpAny_pyIter_tuple (show s1.heap.IsTuple a its.toArray from p) ?_
  refine ⟨s1.heap.objs.size,[s1.heap.objs.size],_,_,H1,rfl,I1.kept (t':=s1.toks) fun b o e=>qag _ e,ziN a _,⟨_,qar _ rfl,rfl,rfl⟩,fun b hb=> ?_,q⟩
  have e:b=s1.heap.objs.size:=by simpa using hb
  subst e
  exact I1.fpOk (qaV _) (I1.hok.fresh (qaV _))
end L2
namespace L3
open PySem PySem.Spec PyProof.Rows L2
section
variable {X:Cx} {E:XE} {pos:Pos}
theorem zqc {tg e:Expr} {f:Sd->M D} (he:SE X E e f):SI X E tg e (fun sd=>do let d<-f sd;zdM d):=by
 refine PI.imp (zq2 he) fun σ H Q ⟨ι,h,sd,L,hh,q⟩=>⟨ι,h,sd,L,hh,Fin.bind q fun d h1 ι1 H1 e1 s1 hr1 q1 v rv=> ?_⟩
 cases d with
 | lst ds=>
  obtain ⟨a,vs,e,h1',h2⟩:=znc rv
  exact ⟨a,e,.inl ⟨⟨vs,h1' _ _ (Pass.refl _ _)⟩,Fin.out hr1 q1 _ (zlQ h1' h2)⟩⟩
 | tup ds=>
  obtain ⟨a,vs,e,h1',h2⟩:=zhj rv
  exact ⟨a,e,.inr ⟨⟨vs,h1' _ _ (Pass.refl _ _)⟩,Fin.out hr1 q1 _ (zlI h1' h2)⟩⟩
 | _=>exact qa0 q1
noncomputable def zdg (lo:Int) (n:Nat):List D:=(List.range n).map fun (k:Nat)=>D.int (lo+(k:Int))
theorem zlz {K:W.Frag} {ι:Io} {H:Hp} {lo:Int} {n:Nat}:zoM K ι H (Itr lo n) (zdg lo n) where
 go:=fun ι' H' i s hi=>by show i<n;simpa [zdg] using hi
 yld:=fun ι' H' _ i x H2 s _ hi ⟨e,y⟩=>by
  subst e y
  have hi:i<n:=by simpa [zdg] using hi
  refine ⟨.inl rfl,.int (lo+i),?_,by simp [Rel]⟩
  simp [zdg,hi]
 stop:=fun ι' H' s=>by
  show n<=(zdg lo n).length
  simp [zdg]
noncomputable def zdj (j:Int):Bool:=decide (-(2^62)<=j) && decide (j<2^62)
noncomputable def zkw:List D->M (List D)
 | [.int j]=>if zdj j=true then pure (zdg 0 j.toNat) else M.bad
 | _=>M.bad
theorem zeN {j:Int} (h:zdj j=true): -(2^62)<=j/\j<2^62:=by
 unfold zdj at h
 simpa using h
theorem zof {tg a:Expr} {p:Pos} {fs:Sd->M (List D)} (hg:Gl X "range") (hm:X.mg "range"=none) (ha:SA X E [a] fs) (hs:starEach [a] X.env=[(false,eval a X.env)]:=by rfl):
  SI X E tg (.Call (.Name "range" p) [a] [] pos) (fun sd=>do let ds<-fs sd;zkw ds):=by
 refine PI.imp (zi6 hg hm ha hs) fun σ H Q ⟨ι,h,sd,L,hh,q⟩=>⟨ι,h,sd,L,hh,Fin.bind q fun ds h1 ι1 H1 e1 s1 hr1 q1 vs rv=> ?_⟩
 match ds,rv,q1 with
 | [.int j],rv,q1=>
  simp only [zaq,Rel] at rv
  obtain ⟨v,r,rfl,rfl,rfl⟩:=rv
  have q1:Fin X.K E ι1 H1 ((if zdj j=true then (pure (zdg 0 j.toNat):M (List D)) else M.bad) h1) _:=q1
  by_cases hj:zdj j=true
  ·rw [qa4 hj] at q1
   exact ⟨j,rfl,(zeN hj).1,(zeN hj).2,Fin.out hr1 q1 _ zlz⟩
  ·rw [qa5 hj] at q1
   exact qa0 q1
 | [],_,q1=>exact qa0 q1
 | .non::_,_,q1=>exact qa0 q1
 | .bl _::_,_,q1=>exact qa0 q1
 | .str _::_,_,q1=>exact qa0 q1
 | .tup _::_,_,q1=>exact qa0 q1
 | .lst _::_,_,q1=>exact qa0 q1
 | .cel _::_,_,q1=>exact qa0 q1
 | .set _::_,_,q1=>exact qa0 q1
 | .dct::_,_,q1=>exact qa0 q1
 | .fn _::_,_,q1=>exact qa0 q1
 | .scr _::_,_,q1=>exact qa0 q1
 | .exn _::_,_,q1=>exact qa0 q1
 | .int _::_::_,_,q1=>exact qa0 q1
noncomputable def zba (body:D->Sd->M Out):List D->Sd->M Out
 | [],sd=>pure (.nx sd)
 | x::r,sd=>do
  let o<-body x sd
  match o with
  | .nx sd'=>zba body r sd'
  | .ct sd'=>zba body r sd'
  | .bk sd'=>pure (.nx sd')
  | .rt d=>pure (.rt d)
theorem zsN {tg iter:Expr} {body:List Stmt} {fi:Sd->M (List D)} {g:D->Sd->M Sd} {gb:Sd->M Out} (hc:X.calm=true) (hp:PassesOwn (model X.prog X.w) X.A X.env X.xe) (hi:SI X E tg iter fi) (hg:SG X E tg g) (hb:SSs X E body gb)
  (hs: ∀ x,foldedSetIterable iter X.env x=pure x:=by intro _;rfl):SS X E (.For tg iter body [] pos) (fun sd=>do let ds<-fi sd;zba (fun x sd=>do let sd1<-g x sd;gb sd1) ds sd):=by
 refine PS.imp (zqP hp hc hi hg hb hs) fun D0 σ H ⟨ι,h,sd,L,hh,q⟩=>⟨ι,h,sd,L,hh,Fin.bind q fun ds h1 ι1 H1 e1 s1 hr1 q1 J ok=> ?_⟩
 refine ⟨fun i m σ' H'=>m=ds.length - i/\i<=ds.length/\ ∃ ι' h' sd',zbS ι1 H1 ι' H'/\zcy X.K ι' H' sd' σ'/\za6 X.K ι' H' h'/\Fin X.K E ι' H' (zba (fun x sd=>do let sd1<-g x sd;gb sd1) (ds.drop i) sd' h') (zfT X.K D0),
   ⟨_,rfl,Nat.zero_le _,ι1,h1,sd,zbS.refl _ _,L.step s1,hr1,by simpa using q1⟩,?_⟩
 rintro i m σ2 H2 ⟨rfl,hi2,ι2,h2,sd2,s2,L2,hr2,q2⟩
 by_cases hlt:i<ds.length
 ·right
  refine ⟨ok.go ι2 H2 i s2.pass hlt,fun σ' H'=>i+1<=ds.length/\ ∃ ι' h' sd',zbS ι1 H1 ι' H'/\zcy X.K ι' H' sd' σ'/\za6 X.K ι' H' h'/\Fin X.K E ι' H' (zba (fun x sd=>do let sd1<-g x sd;gb sd1) (ds.drop (i+1)) sd' h') (zfT X.K D0),
    fun σ' H' p=>⟨ds.length - (i+1),by omega,rfl,p.1,p.2⟩,fun x H3 y=> ?_⟩
  obtain ⟨gr,d,ed,rd⟩:=ok.yld ι2 H2 h2 i x H3 s2.pass hr2 hlt y
  obtain ⟨s3,hr3⟩:=gr.step hr2
  have edr:ds.drop i=d::ds.drop (i+1):=by
   rw [List.drop_eq_getElem_cons hlt]
   rw [qaf hlt] at ed
   rw [Option.some.inj ed]
  rw [edr] at q2
  have q3:Fin X.K E ι2 H3 (zba (fun x sd=>do let sd1<-g x sd;gb sd1) (d::ds.drop (i+1)) sd2 h2) (zfT X.K D0):=Fin.step s3 q2
  refine ⟨ι2,h2,sd2,d,L2.step s3,hr3,rd,?_⟩
  have q5:Fin X.K E ι2 H3 ((g d sd2>>=fun sd1=>(gb sd1>>=fun o=>(match o with
    | .nx sd'=>zba (fun x sd=>do let sd1<-g x sd;gb sd1) (ds.drop (i+1)) sd'
    | .ct sd'=>zba (fun x sd=>do let sd1<-g x sd;gb sd1) (ds.drop (i+1)) sd'
    | .bk sd'=>pure (.nx sd')
    | .rt d=>pure (.rt d):M Out))) h2) (zfT X.K D0):=by
   have e:(zba (fun x sd=>do let sd1<-g x sd;gb sd1) (d::ds.drop (i+1)) sd2 h2)=((g d sd2>>=fun sd1=>(gb sd1>>=fun o=>(match o with
     | .nx sd'=>zba (fun x sd=>do let sd1<-g x sd;gb sd1) (ds.drop (i+1)) sd'
     | .ct sd'=>zba (fun x sd=>do let sd1<-g x sd;gb sd1) (ds.drop (i+1)) sd'
     | .bk sd'=>pure (.nx sd')
     | .rt d=>pure (.rt d):M Out))) h2):=by
    show M.bind (M.bind (g d sd2) gb) _ h2=M.bind (g d sd2) _ h2
    unfold M.bind
    cases g d sd2 h2<;>rfl
   rw [<- e]
   exact q3
  refine Fin.bind q5 fun sd6 h6 ι6 H6 e6 s6 hr6 q6 σ6 L6=> ?_
  refine ⟨ι6,h6,sd6,L6,hr6,Fin.bind q6 fun o h7 ι7 H7 e7 s7 hr7 q7=> ?_⟩
  have st7:zbS ι1 H1 ι7 H7:=((s2.trans s3).trans s6).trans s7
  cases o with
  | nx sd'=>exact fun σ' L'=>⟨hlt,ι7,h7,sd',st7,L',hr7,q7⟩
  | ct sd'=>exact fun σ' L'=>⟨hlt,ι7,h7,sd',st7,L',hr7,q7⟩
  | bk sd'=>exact fun σ' L'=>Fin.out (E:=E) (P:=zfT X.K D0) hr7 q7 σ' L'
  | rt d=>exact fun v rv=>Fin.out (E:=E) (P:=zfT X.K D0) hr7 q7 v rv
 ·left
  have e:i=ds.length:=by omega
  subst e
  refine ⟨ok.stop ι2 H2 s2.pass,?_⟩
  rw [List.drop_length] at q2
  exact Fin.out (E:=E) (P:=zfT X.K D0) hr2 q2 σ2 L2
noncomputable def zbC (f:D->M (Option D)):List D->M (List D)
 | []=>pure []
 | x::r=>do
  let o<-f x
  let ys<-zbC f r
  pure (match o with | some y=>y::ys | none=>ys)
noncomputable def zbc (g:D->Sd->M Sd) (tc:Sd->M Bool) (te:Sd->M D) (sd:Sd) (x:D):M (Option D):=do
 let sd1<-g x sd
 let c<-tc sd1
 if c=true then do
  let y<-te sd1
  pure (some y)
 else pure none
end
noncomputable def Io.hide (ι:Io) (p:Addr):Io:=⟨ι.c,p::ι.x⟩
noncomputable def Io.show (ι:Io):Io:=⟨ι.c,ι.x.tail⟩
theorem zl5 {ι:Io} {a:Addr} (h:ι.show.Has a):ι.Has a:=h.imp id List.mem_of_mem_tail
section
variable {K:W.Frag} {ι ι':Io} {H H':Hp} {p:Addr} {o:HO} {h:Hh}
theorem zgF (hp:H p=none):Pass ι H (ι.hide p) (upd H p o):=⟨fun _ _ z=> .inl z,fun b o' hb n=>⟨by rw [zaw (zaQ hb hp)];exact hb,fun z=>by
  rcases z with z | z
  · exact n (.inl z)
  · rcases qaP.mp z with z | z
    · rw [z,hp] at hb;cases hb
    · exact n (.inr z)⟩⟩
theorem zgp:Pass ι H ι.show H:=⟨fun _ _ z=> .inl z,fun b o' hb n=>⟨hb,fun z=>n (zl5 z)⟩⟩
theorem zfj (hp:p∈ι.x):Pass ι H ι (upd H p o):=⟨fun _ _ z=> .inl z,fun b o' hb n=>⟨by rw [zaw (show b≠p from fun z=>n (.inr (z▸hp)))];exact hb,n⟩⟩
theorem za6.hide (hr:za6 K ι H h) (hp:H p=none):za6 K (ι.hide p) (upd H p o) h:=
 ⟨hr.len,hr.inj,fun n a c h1 h2=>by
   obtain ⟨o',e2,e3⟩:=hr.at_ n a c h1 h2
   exact ⟨o',by rw [zaw (zaQ e2 hp)];exact e2,e3.pass (zgF hp)⟩,hr.dead,fun a ha=>by
   rcases qaP.mp ha with z | z
   · subst z;exact ⟨⟨o,zaU⟩,fun z=>hr.nin hp (.inl z)⟩
   · refine ⟨?_,(hr.hidt a z).2⟩
     rw [zaw (show a≠p from fun w=>hr.nin hp (.inr (w▸z)))]
     exact (hr.hidt a z).1⟩
theorem za6.hid (hr:za6 K ι H h) (hp:p∈ι.x):za6 K ι (upd H p o) h:=
 ⟨hr.len,hr.inj,fun n a c h1 h2=>by
   obtain ⟨o',e2,e3⟩:=hr.at_ n a c h1 h2
   have ne:a≠p:=fun z=>(hr.hidt p hp).2 (z▸List.mem_of_getElem? h1)
   exact ⟨o',by rw [zaw ne];exact e2,e3.pass (zfj hp)⟩,hr.dead,fun a ha=>by
   refine ⟨?_,(hr.hidt a ha).2⟩
   by_cases z:a=p
   · subst z;exact ⟨o,zaU⟩
   · rw [zaw z];exact (hr.hidt a ha).1⟩
theorem za6.show (hr:za6 K ι H h):za6 K ι.show H h:=
 ⟨hr.len,hr.inj,fun n a c h1 h2=>by
   obtain ⟨o',e2,e3⟩:=hr.at_ n a c h1 h2
   exact ⟨o',e2,e3.pass zgp⟩,hr.dead,fun a ha=>hr.hidt a (List.mem_of_mem_tail ha)⟩
theorem zj7 {ι1 ι2:Io} {H1 H2:Hp} (hp:H p=none) (hpx:p∉ι.x) (hx:ι1.x=p::ι.x) (s:zbS ι H ι1.show H1) (t:zbS ι1 H1 ι2 H2):zbS ι H ι2.show (upd H2 p o) where
 old:=fun n q h=>by
  rcases s.old n q h with h | h
  ·exact t.old n q h
  ·rcases t.old n _ h with h | h<;>exact .inr h
 new:=fun a h=>by
  rcases t.new a h with h | h
  ·exact s.new a h
  ·by_cases z:some a∈ι.c
   ·exact .inl z
   ·refine .inr ?_
    cases q:H a with
    | none=>rfl
    | some o=>
     by_cases z':a∈ι.x
     ·rw [s.hidk a z',q] at h;cases h
     ·rw [s.keep a o q (fun w=>w.elim z z')] at h;cases h
 hid:=by
  show ι2.x.tail=ι.x
  rw [t.hid,hx]
  rfl
 hidk:=fun a ha=>by
  have z:a≠p:=fun z=>hpx (z▸ha)
  rw [zaw z,t.hidk a (by rw [hx];exact qan _ ha)]
  exact s.hidk a ha
 keep:=fun b q hb n=>by
  have ne:b≠p:=zaQ hb hp
  rw [zaw ne]
  refine t.keep b q (s.keep b q hb n) fun z=> ?_
  rcases z with z | z
  ·rcases s.new b z with z | z
   ·exact n (.inl z)
   ·rw [hb] at z;cases z
  ·rw [hx] at z
   rcases qaP.mp z with z | z
   ·exact ne z
   ·exact n (.inr z)
theorem zbS.shown {ι2:Io} {H2:Hp} {r:List Addr} (hx:ι.x=p::r) (t:zbS ι H ι2 H2):zbS ι.show H ι2.show H2 where
 old:=t.old
 new:=t.new
 hid:=by show ι2.x.tail=ι.x.tail;rw [t.hid]
 hidk:=fun a ha=>t.hidk a (List.mem_of_mem_tail ha)
 keep:=fun b q hb n=>by
  by_cases z:b=p
  ·subst z
   rw [t.hidk b (by rw [hx];exact qau)]
   exact hb
  ·refine t.keep b q hb fun w=> ?_
   rcases w with w | w
   ·exact n (.inl w)
   ·rw [hx] at w
    rcases qaP.mp w with w | w
    ·exact z w
    ·exact n (.inr (by show b∈ι.x.tail;rw [hx];exact w))
theorem Fin.bindB {α β:Type} {E:XE} {m:M α} {f:α->M β} {P:β->Io->Hp->Prop} {P':α->Io->Hp->Prop} {ιb:Io} {Hb:Hp} (q:Fin K E ιb Hb ((m>>=f) h) P)
  (conv: ∀ ι' H' h',zbS ι H ι' H'->za6 K ι' H' h'-> ∃ ι'',zbS ιb Hb ι'' H'/\za6 K ι'' H' h')
  (k: ∀ a h' ι' H',m h= .ok a h'->zbS ι H ι' H'->za6 K ι' H' h'->Fin K E ιb Hb (f a h') P->P' a ι' H'):Fin K E ι H (m h) P':=by
 have q':Fin K E ιb Hb (M.bind m f h) P:=q
 unfold M.bind at q'
 cases e:m h with
 | ok a h'=>
  rw [e] at q'
  intro ι' H' s hr
  exact k a h' ι' H' e s hr q'
 | exc c h'=>
  rw [e] at q'
  intro ι' H' s hr
  obtain ⟨ι'',s2,hr2⟩:=conv ι' H' h' s hr
  exact q' _ _ s2 hr2
 | bad=>rw [e] at q';exact q'
end
noncomputable instance:LawfulMonad M:=LawfulMonad.mk' M
 (id_map:=fun x=>by
   funext h
   show M.bind x (fun a=>M.pure (id a)) h=x h
   unfold M.bind M.pure
   cases x h<;>rfl)
 (pure_bind:=fun x f=>rfl)
 (bind_assoc:=fun x f g=>by
   funext h
   show M.bind (M.bind x f) g h=M.bind x (fun a=>M.bind (f a) g) h
   unfold M.bind
   cases x h<;>rfl)
noncomputable def zau (src:List (Option Nat)) (sd:Sd):Sd:=src.map fun o=>o.bind fun i=>(sd[i]?).join
theorem zcy.bStart {K:W.Frag} {ι:Io} {H:Hp} {sd:Sd} {σ:L2.St} {src:List (Option Nat)} (h:zcy K ι H sd σ):zcy K ι H (zau src sd) (bStart src σ):=by
 refine ⟨by unfold zau L2.bStart;rw [qaH,qaH],fun i d e=> ?_⟩
 unfold zau at e
 unfold L2.bStart
 rw [List.getElem?_map] at e ⊢
 cases z:src[i]? with
 | none=>rw [z] at e;cases e
 | some o=>
  rw [z] at e
  cases o with
  | none=>cases e
  | some j=>
   have e:(sd[j]?).join=some d:=by simpa using e
   cases w:sd[j]? with
   | none=>rw [w] at e;cases e
   | some q=>
    rw [w] at e
    have e:q=some d:=by simpa using e
    subst e
    obtain ⟨v,h1,h2⟩:=h.2 j d w
    exact ⟨v,by simp [h1],h2⟩
def zaP (g:D->Sd->M Sd) (src:List (Option Nat)):Prop:= ∀ x sd h sd1 h1,sd.length=src.length->(∀ (i:Nat),src[i]? = some none->sd[i]? = some none)->g x sd h= .ok sd1 h1->sd1.length=sd.length/\ ∀ (i:Nat) d,src[i]? ≠ some none->sd[i]? = some (some d)->sd1[i]? = some (some d)
def zaY (g:List D->Sd->M Sd) (src:List (Option Nat)):Prop:= ∀ x sd h sd1 h1,g x sd h= .ok sd1 h1->sd1.length=sd.length/\ ∀ (i:Nat) d,src[i]? ≠ some none->sd[i]? = some (some d)->sd1[i]? = some (some d)
theorem zkb {i:Nat} {src:List (Option Nat)} (h:src[i]? = some none): ∀ x sd h sd1 h1,zaW i x sd h= .ok sd1 h1->sd1.length=sd.length/\ ∀ (j:Nat) d,src[j]? ≠ some none->sd[j]? = some (some d)->sd1[j]? = some (some d):=fun x sd h0 sd1 h1 e=>by
 have e:R.ok (sd.set i (some x)) h0= .ok sd1 h1:=e
 cases e
 refine ⟨qaI,fun j d hj e=> ?_⟩
 rw [qao (show i≠j from fun z=>hj (z▸h))]
 exact e
theorem zaP.name {i:Nat} {src:List (Option Nat)} (h:src[i]? = some none):zaP (zaW i) src:=fun x sd h0 sd1 h1 _ _ e=>zkb h x sd h0 sd1 h1 e
theorem zaY.nil {src:List (Option Nat)}:zaY zbW src:=fun x sd h sd1 h1 e=>by
 cases x with
 | nil=>
  have e:R.ok sd h= .ok sd1 h1:=e
  cases e
  exact ⟨rfl,fun _ _ _ z=>z⟩
 | cons _ _=>cases (show R.bad=R.ok sd1 h1 from e)
theorem zaY.cons {i:Nat} {gs:List D->Sd->M Sd} {src:List (Option Nat)} (h:src[i]? = some none) (t:zaY gs src):zaY (zax (zaW i) gs) src:=fun x sd h0 sd1 h1 e=>by
 cases x with
 | nil=>cases (show R.bad=R.ok sd1 h1 from e)
 | cons d r=>
  have e:gs r (sd.set i (some d)) h0= .ok sd1 h1:=e
  obtain ⟨e1,e2⟩:=t r _ h0 sd1 h1 e
  refine ⟨by rw [e1,qaI],fun j d' hj z=>e2 j d' hj ?_⟩
  rw [qao (show i≠j from fun z=>hj (z▸h))]
  exact z
theorem zaP.tup {n:Nat} {gs:List D->Sd->M Sd} {src:List (Option Nat)} (t:zaY gs src):zaP (zb0 n gs) src:=fun x sd h0 sd1 h1 _ _ e=>by
 cases x with
 | tup ds=>
  have e:(if ds.length=n then gs ds sd else M.bad) h0= .ok sd1 h1:=e
  by_cases hl:ds.length=n
  ·rw [qa4 hl] at e;exact t _ _ _ _ _ e
  ·rw [qa5 hl] at e;cases (show R.bad=R.ok sd1 h1 from e)
 | _=>cases (show R.bad=R.ok sd1 h1 from e)
section
variable {X:Cx} {E:XE} {scope:Scope} {N:List Str} {src:List (Option Nat)} {tg iter elt:Expr} {ifs:List Expr} {pos:Pos}
noncomputable abbrev SCs (X:Cx) (E:XE) (ifs:List Expr) (t:Sd->M Bool):Prop:=PCs X ifs (ziD X.K E t)
theorem zqm:SCs X E [] (fun _=>pure true):=fun pins s σ H Q I ⟨ι,h,sd,L,hh,q⟩=>zm5 pins s σ H Q I (Fin.out hh q)
theorem zp1 {c:Expr} {t:Sd->M Bool} (h:ST X E c t):SCs X E [c] t:=zol h
theorem blk {K:W.Frag} {g:D->Sd->M Sd} {tc:Sd->M Bool} {te:Sd->M D} {J:It} {ds:List D} {ι:Io} {H:Hp} {h:Hh} {sd:Sd} {σ:L2.St} {Q:VK} {p:Addr} (hk:zaP g src) (L:zcy K ι H sd σ) (hr:za6 K ι H h) (ok:zoM K ι H J ds) (hz:ds.length<=sizeLine)
  (q:Fin K E ι H ((do let ys<-zbC (zbc g tc te (zau src sd)) ds;pure (D.lst ys)) h) fun d ι' H'=> ∀ v,Rel K ι' H' d v->Q v H') (hp:H p=none):
  zrH J (zrP K E g) (ziD K E tc) (ziR K E te) (bStart src σ) H p fun H'=>Q (.ref p) H':=by
 generalize hP:(fun (d:D) (ι':Io) (H':Hp)=> ∀ v,Rel K ι' H' d v->Q v H')=P at q
 generalize hf:zbc g tc te (zau src sd)=f at q
 have hpx:p∉ι.x:=fun z=>hr.nin hp (.inr z)
 have h0len:(zau src sd).length=src.length:=by unfold zau;rw [qaH]
 have h0non: ∀ (i:Nat),src[i]? = some none->(zau src sd)[i]? = some none:=fun i e=>by unfold zau;rw [List.getElem?_map,e];rfl
 refine ⟨fun i m σ' H'=>m=ds.length - i/\i<=ds.length/\ ∃ ι' h' done vs,ι'.x=p::ι.x/\zbS ι H ι'.show H'/\zcy K ι' H' (zau src sd) σ'/\za6 K ι' H' h'/\H' p=some (.lst vs)/\zaq K ι' H' done vs/\done.length<=i/\
     Fin K E ι H ((do let ys<-zbC f (ds.drop i);pure (D.lst (done++ys))) h') P,
   ⟨_,rfl,Nat.zero_le _,ι.hide p,h,[],[],rfl,?_,L.bStart.pass (zgF hp),hr.hide hp,zaU,zaq.nil,qaV _,?_⟩,?_⟩
 ·have:=hr.laidS (o:= .lst []) hp
  exact ⟨this.old,this.new,this.hid,this.hidk,this.keep⟩
 ·simpa using q
 rintro i m σ2 H2 ⟨rfl,hi2,ι2,h2,done,vs,hx2,s2,L2,hr2,e2,rl2,dl2,q2⟩
 have ps2:Pass ι H ι2 H2:=⟨s2.old,fun b o hb n=>⟨s2.keep b o hb n,fun z=>by
   rcases z with z | z
   · exact s2.nin hb n (.inl z)
   · rw [hx2] at z
     rcases qaP.mp z with z | z
     · rw [z,hp] at hb;cases hb
     · exact n (.inr z)⟩⟩
 have hp2:p∈ι2.x:=by rw [hx2];exact qau
 have base: ∀ {ι':Io} {H':Hp},zbS ι2 H2 ι' H'->zbS ι H ι'.show H':=fun t=>s2.trans (t.shown hx2)
 by_cases hlt:i<ds.length
 ·right
  refine ⟨ok.go ι2 H2 i ps2 hlt,fun σ' H'=>i+1<=ds.length/\ ∃ ι' h' done vs,ι'.x=p::ι.x/\zbS ι H ι'.show H'/\zcy K ι' H' (zau src sd) σ'/\za6 K ι' H' h'/\H' p=some (.lst vs)/\zaq K ι' H' done vs/\done.length<=i+1/\
    Fin K E ι H ((do let ys<-zbC f (ds.drop (i+1));pure (D.lst (done++ys))) h') P,fun σ' H' z=>⟨ds.length - (i+1),by omega,rfl,z.1,z.2⟩,fun x H3 y=> ?_⟩
  obtain ⟨gr,d,ed,rd⟩:=ok.yld ι2 H2 h2 i x H3 ps2 hr2 hlt y
  obtain ⟨s3,hr3⟩:=gr.step hr2
  have edr:ds.drop i=d::ds.drop (i+1):=by
   rw [List.drop_eq_getElem_cons hlt]
   rw [qaf hlt] at ed
   rw [Option.some.inj ed]
  rw [edr] at q2
  have q3:=q2
  have st3:zbS ι2 H2 ι2 H3:=s3
  have e3:H3 p=some (.lst vs):=by rw [s3.hidk p hp2];exact e2
  have eq1:(do let ys<-zbC f (d::ds.drop (i+1));pure (D.lst (done++ys)):M D)=(g d (zau src sd)>>=fun sd1=>tc sd1>>=fun c=>if c=true then (te sd1>>=fun y=>zbC f (ds.drop (i+1))>>=fun ys=>pure (D.lst (done++[y]++ys))) else (zbC f (ds.drop (i+1))>>=fun ys=>pure (D.lst (done++ys)))):=by
   rw [zbC]
   rw [<- hf]
   simp only [zbc,bind_assoc]
   refine congrArg _ (funext fun sd1=> ?_)
   refine congrArg _ (funext fun c=> ?_)
   cases c with
   | true=>simp only [if_true,bind_assoc,pure_bind,List.append_assoc,List.cons_append,List.nil_append]
   | false=>simp only [qax,if_false,pure_bind]
  rw [eq1] at q3
  refine ⟨ι2,h2,zau src sd,d,L2.step s3,hr3,rd,?_⟩
  refine Fin.bindB q3 (fun ι' H' h' s hr'=>⟨ι'.show,base (s3.trans s),hr'.show⟩) fun sd4 h4 ι4 H4 e4 s4 hr4 q4 σ4 L4=> ?_
  have hx4:ι4.x=p::ι.x:=by rw [s4.hid];exact hx2
  obtain ⟨k1,k2⟩:=hk d _ h2 sd4 h4 h0len h0non e4
  refine ⟨ι4,h4,sd4,L4,hr4,Fin.bindB q4 (fun ι' H' h' s hr'=>⟨ι'.show,base ((s3.trans s4).trans s),hr'.show⟩) fun c h5 ι5 H5 e5 s5 hr5 q5=> ?_⟩
  have hx5:ι5.x=p::ι.x:=by rw [s5.hid];exact hx4
  have sub: ∀ {ι':Io} {H':Hp},zcy K ι' H' sd4 σ4->zcy K ι' H' (zau src sd) σ4:=fun {ι' H'} z=>⟨by rw [<- k1];exact z.1,fun j d' e=>z.2 j d' (k2 j d' (fun w=>by rw [h0non j w] at e;cases e) e)⟩
  have st5:zbS ι2 H2 ι5 H5:=(s3.trans s4).trans s5
  cases c with
  | false=>
   exact zrs ⟨hlt,ι5,h5,done,vs,hx5,base st5,sub (L4.step s5),hr5,by rw [st5.hidk p hp2];exact e2,rl2.step st5,Nat.le_succ_of_le dl2,q5⟩
  | true=>
   refine zrv ⟨ι5,h5,sd4,L4.step s5,hr5,Fin.bindB q5 (fun ι' H' h' s hr'=>⟨ι'.show,base (st5.trans s),hr'.show⟩) fun yd h6 ι6 H6 e6 s6 hr6 q6 y ry=> ?_⟩
   have st6:zbS ι2 H2 ι6 H6:=st5.trans s6
   have hx6:ι6.x=p::ι.x:=by rw [s6.hid];exact hx5
   have hp6:p∈ι6.x:=by rw [hx6];exact qau
   have e6':H6 p=some (.lst vs):=by rw [st6.hidk p hp2];exact e2
   refine ⟨vs,e6',by rw [<- rl2.length];omega,hlt,ι6,h6,done++[yd],vs++[y],hx6,zj7 hp hpx hx2 s2 st6,?_,hr6.hid hp6,zaU,?_,?_,?_⟩
   ·exact ((sub (L4.step s5)).step s6).pass (zfj hp6)
   ·exact ((rl2.step st6).append (zaq.cons ry zaq.nil)).pass (zfj hp6)
   ·rw [qav,List.length_singleton];omega
   ·exact q6
 ·left
  have e:i=ds.length:=by omega
  subst e
  refine ⟨ok.stop ι2 H2 ps2,?_⟩
  rw [List.drop_length] at q2
  have q3:P (.lst done) ι2.show H2:=by
   have:Fin K E ι H ((pure (D.lst (done++[])):M D) h2) P:=q2
   rw [List.append_nil] at this
   exact this _ _ s2 hr2.show
  rw [<- hP] at q3
  refine q3 (.ref p) ?_
  simp only [Rel]
  refine ⟨p,vs,rfl,⟨e2,fun z=> ?_⟩,rl2.pass zgp⟩
  rcases z with z | z
  ·exact (hr2.hidt p (by rw [hx2];exact qau)).2 z
  ·exact hpx (by have z:p∈ι2.x.tail:=z;rw [hx2] at z;exact z)
noncomputable def zaC (fi:Sd->M (List D)) (g:D->Sd->M Sd) (tc:Sd->M Bool) (te:Sd->M D) (src:List (Option Nat)):Sd->M D:=fun sd=>do
 let ds<-fi sd
 fits ds.length
 let ys<-zbC (zbc g tc te (zau src sd)) ds
 pure (D.lst ys)
theorem zkn {K:W.Frag} {fi:Sd->M (List D)} {g:D->Sd->M Sd} {tc:Sd->M Bool} {te:Sd->M D} (hk:zaP g src) (σ:L2.St) (H:Hp) (Q:VK) (q:ziR K E (zaC fi g tc te src) σ H Q):
  znH (zs0 K E fi) (zrP K E g) (ziD K E tc) (ziR K E te) src σ H Q:=by
 obtain ⟨ι,h,sd,L,hh,q⟩:=q
 refine ⟨ι,h,sd,L,hh,Fin.bind q fun ds h1 ι1 H1 e1 s1 hr1 q1 J ok p hp=> ?_⟩
 obtain ⟨z,q2⟩:=Fin.fits q1
 exact blk hk (L.step s1) hr1 ok z q2 hp
theorem zj6 {fi:Sd->M (List D)} {g:D->Sd->M Sd} {tc:Sd->M Bool} {te:Sd->M D} (B:BOk X scope N src) (hk:zaP g src) (hi:SI X E tg iter fi)
  (hg: ∀ s H fp,SG (cxB X scope N s H fp) E tg g) (ht: ∀ s H fp,SCs (cxB X scope N s H fp) E ifs tc) (he: ∀ s H fp,SE (cxB X scope N s H fp) E elt te)
  (hs: ∀ x,foldedSetIterable iter X.env x=pure x:=by intro _;rfl):SE X E (.ListComp elt [⟨tg,iter,ifs,0⟩] scope pos) (zaC fi g tc te src):=
 PE.imp (zm1 B hi hg ht he hs) (zkn hk)
theorem zi5 {fi:Sd->M (List D)} {g:D->Sd->M Sd} {tc:Sd->M Bool} {te:Sd->M D} (i:Nat) {y:Str} {py spos:Pos} (B:BOk X scope N src) (hk:zaP g src) (hi:SI X E tg iter fi)
  (hg: ∀ s H fp,SG (cxB X scope N s H fp) E tg g) (ht: ∀ s H fp,SCs (cxB X scope N s H fp) E ifs tc) (he: ∀ s H fp,SE (cxB X scope N s H fp) E elt te)
  (hN:X.N.Nodup) (hy:X.N[i]? = some y) (hx:Loc X.env.scope y) (hf:X.fn y=true\/X.env.scope.names.lookup y=some .local) (hsw:swapsWith (.ListComp elt [⟨tg,iter,ifs,0⟩] scope pos) (some (.Name y py)) spos.line X.env=pure true)
  (hs: ∀ x,foldedSetIterable iter X.env x=pure x:=by intro _;rfl):SS X E (.Assign [.Name y py] (.ListComp elt [⟨tg,iter,ifs,0⟩] scope pos) spos) (fun sd=>do let d<-zaC fi g tc te src sd;pure (.nx (sd.set i (some d)))):=by
 refine PS.imp (ziE B hi hg ht he hN hy hx hsw hf hs) fun D0 σ H ⟨ι,h,sd,L,hh,q⟩=>zkn hk σ H _ ⟨ι,h,sd,L,hh,Fin.bind q fun d h1 ι1 H1 e1 s1 hr1 q1 v rv=> ?_⟩
 exact Fin.out (E:=E) (P:=zfT X.K D0) hr1 q1 _ ((L.step s1).set rv i)
end
section
variable {K:W.Frag} {ι:Io} {H:Hp} {h:Hh} {n:Nat} {a:Addr}
theorem zeP {o:HO} (hn:ι.c[n]? = some (some a)):Pass ι H ι (upd H a o):=⟨fun _ _ z=> .inl z,fun b o' hb nb=>⟨by rw [zaw (show b≠a from fun z=>nb (.inl (z▸List.mem_of_getElem? hn)))];exact hb,nb⟩⟩
theorem za6.cellS {o:HO} (hr:za6 K ι H h) (hn:ι.c[n]? = some (some a)):zbS ι H ι (upd H a o):=
 ⟨fun _ _ z=> .inl z,fun _ z=> .inl z,rfl,fun b hb=>zaw fun z=>(hr.hidt b hb).2 (z▸List.mem_of_getElem? hn),fun b o' hb nb=>((zeP hn).keep b o' hb nb).1⟩
theorem za6.cellO {c':C} {o':HO} (hr:za6 K ι H h) (hn:ι.c[n]? = some (some a)) (co:CO K ι H c' o'):za6 K ι (upd H a o') (h.set n c'):=by
 refine ⟨by rw [qaI];exact hr.len,hr.inj,fun m b c hm hc=> ?_,fun m hm=> ?_,fun b hb=>⟨?_,(hr.hidt b hb).2⟩⟩
 ·by_cases e:n=m
  ·subst e
   rw [hn] at hm
   cases hm
   rw [qai (by rw [hr.len];exact (qac.mp hn).1)] at hc
   cases hc
   exact ⟨o',zaU,co.pass (zeP hn)⟩
  ·rw [qao e] at hc
   obtain ⟨o2,e2,e3⟩:=hr.at_ m b c hm hc
   have ne:b≠a:=fun z=>by subst z;exact e (hr.inj n m b hn hm)
   exact ⟨o2,by rw [zaw ne];exact e2,e3.pass (zeP hn)⟩
 ·have e:n≠m:=fun z=>by subst z;rw [hn] at hm;cases hm
  rw [qao e]
  exact hr.dead m hm
 ·rw [zaw (show b≠a from fun z=>(hr.hidt b hb).2 (z▸List.mem_of_getElem? hn))]
  exact (hr.hidt b hb).1
theorem za6.cell {ds':List D} {vs':List V} (hr:za6 K ι H h) (hn:ι.c[n]? = some (some a)) (rl:zaq K ι H ds' vs'):za6 K ι (upd H a (.lst vs')) (h.set n (.lst ds')):=hr.cellO hn ⟨vs',rfl,rl⟩
theorem za6.read {ds:List D} {v:V} (hr:za6 K ι H h) (r:Rel K ι H (.cel n) v) (e:h[n]? = some (.lst ds)): ∃ a vs,v= .ref a/\ι.c[n]? = some (some a)/\H a=some (.lst vs)/\zaq K ι H ds vs:=by
 simp only [Rel] at r
 obtain ⟨a,e1,r | r⟩:=r
 ·obtain ⟨o,e3,vs,rfl,e4⟩:=hr.at_ n a _ r e
  exact ⟨a,vs,e1,r,e3,e4⟩
 ·rw [hr.dead n r] at e
  cases e
end
noncomputable def zal (n:Nat):M (List D):=fun h=>match h[n]? with
 | some (.lst ds)=> .ok ds h
 | _=> .bad
noncomputable def zbk (n:Nat) (ds:List D):M Unit:=fun h=> .ok () (h.set n (.lst ds))
theorem zcr {n:Nat} {h h':Hh} {ds:List D} (e:zal n h= .ok ds h'):h'=h/\h[n]? = some (.lst ds):=by
 unfold zal at e
 cases z:h[n]? with
 | none=>rw [z] at e;cases e
 | some c=>
  rw [z] at e
  cases c with
  | lst xs=>cases e;exact ⟨rfl,rfl⟩
  | dic _=>cases e
  | dead=>cases e
noncomputable def ofO {α:Type}:Option α->M α
 | some a=>pure a
 | none=>M.bad
noncomputable def dIx:D->D->M D:=fun x y=>match x,y with
 | .tup ds,.int i=>ofO (atI ds i)
 | .lst ds,.int i=>ofO (atI ds i)
 | .scr ds,.int i=>ofO (atI ds i)
 | .cel n,.int i=>do let ds<-zal n;ofO (atI ds i)
 | _,_=>M.bad
theorem zfr {K:W.Frag} {ι:Io} {H:Hp} {ds:List D} {vs:List V} {i:Int} {d:D} (rl:zaq K ι H ds vs) (e:atI ds i=some d): ∃ v,atI vs i=some v/\Rel K ι H d v:=by
 unfold atI at e ⊢
 rw [<- rl.length]
 cases z:ixN ds.length i with
 | none=>rw [z] at e;cases e
 | some j=>
  rw [z] at e
  have e:ds[j]? = some d:=e
  exact rl.get e
section
variable {X:Cx} {E:XE}
theorem Fin.ofO {α:Type} {K:W.Frag} {ι:Io} {H:Hp} {h:Hh} {o:Option α} {P:α->Io->Hp->Prop} (hr:za6 K ι H h) (q:Fin K E ι H (L3.ofO o h) P): ∃ a,o=some a/\P a ι H:=by
 cases o with
 | none=>exact qa0 q
 | some a=>exact ⟨a,rfl,Fin.out hr q⟩
theorem zth:IxR X (zdb X.K E dIx):=by
 refine IxR.imp (zn9.or zqg) fun x y H Q ⟨ι,h,d1,d2,r1,r2,hr,q⟩=> ?_
 cases d2 with
 | int i=>
  simp only [Rel] at r2
  cases d1 with
  | tup ds=>
   obtain ⟨a,vs,e,h1,h2⟩:=zcu r1
   obtain ⟨d,e1,q⟩:=Fin.ofO hr q
   obtain ⟨v,e2,rv⟩:=zfr h2 e1
   exact .inr ⟨a,vs,i,v,e,r2,h1,e2,q v rv⟩
  | lst ds=>
   obtain ⟨a,vs,e,h1,h2⟩:=zd6 r1
   obtain ⟨d,e1,q⟩:=Fin.ofO hr q
   obtain ⟨v,e2,rv⟩:=zfr h2 e1
   exact .inl ⟨a,vs,i,v,e,r2,h1,e2,q v rv⟩
  | scr ds=>
   obtain ⟨a,vs,e,h1,h2⟩:=zjA r1
   obtain ⟨d,e1,q⟩:=Fin.ofO hr q
   obtain ⟨v,e2,rv⟩:=zfr h2 e1
   exact .inl ⟨a,vs,i,v,e,r2,h1,e2,q v rv⟩
  | cel n=>
   have q:Fin X.K E ι H ((zal n>>=fun ds=>L3.ofO (atI ds i)) h) _:=q
   have q':Fin X.K E ι H (M.bind (zal n) (fun ds=>L3.ofO (atI ds i)) h) _:=q
   unfold M.bind at q'
   cases z:zal n h with
   | bad=>rw [z] at q';exact qa0 q'
   | exc c h'=>unfold zal at z;split at z<;>cases z
   | ok ds h'=>
    rw [z] at q'
    obtain ⟨rfl,z2⟩:=zcr z
    obtain ⟨a,vs,e,hn,hH,rl⟩:=hr.read r1 z2
    obtain ⟨d,e1,q⟩:=Fin.ofO hr q'
    obtain ⟨v,e2,rv⟩:=zfr rl e1
    exact .inl ⟨a,vs,i,v,e,r2,SqL.of hH,e2,q v rv⟩
  | _=>exact qa0 q
 | _=>cases d1<;>exact qa0 q
noncomputable def zjW (o i d:D):M Unit:=match o,i with
 | .cel n,.int k=>do
  let ds<-zal n
  let j<-ofO (ixN ds.length k)
  zbk n (ds.set j d)
 | _,_=>M.bad
theorem zrb {o i:Expr} {pos:Pos} {fo fi:Sd->M D} (hp: ∀ {t:zpL},zoK X t->PG X (.Subscript o i pos) (zsP (ziR X.K E fo) (ziR X.K E fi) t)):
  SG X E (.Subscript o i pos) (fun d sd=>do let x<-fo sd;let y<-fi sd;zjW x y d;pure sd):=by
 refine PG.imp (hp zlg) fun v σ H Q ⟨ι,h,sd,d,L,hr,rd,q⟩=>⟨ι,h,sd,L,hr,Fin.bind q fun x h1 ι1 H1 e1 s1 hr1 q1 xv rx=> ?_⟩
 refine ⟨ι1,h1,sd,L.step s1,hr1,Fin.bind q1 fun y h2 ι2 H2 e2 s2 hr2 q2 yv ry=> ?_⟩
 cases x with
 | cel n=>
  cases y with
  | int k=>
   have rx2:=rx.step s2
   have q3:Fin X.K E ι2 H2 ((zal n>>=fun ds=>(ofO (ixN ds.length k)>>=fun j=>zbk n (ds.set j d)>>=fun _=>pure sd)) h2) (fun sd' ι' H'=> ∀ σ',zcy X.K ι' H' sd' σ'->Q σ' H'):=by
    have e:(do zjW (.cel n) (.int k) d;pure sd:M Sd)=(zal n>>=fun ds=>(ofO (ixN ds.length k)>>=fun j=>zbk n (ds.set j d)>>=fun _=>pure sd)):=by
     show ((zal n>>=fun ds=>(ofO (ixN ds.length k)>>=fun j=>zbk n (ds.set j d)))>>=fun _=>pure sd)=_
     simp only [bind_assoc]
    rw [<- e]
    exact q2
   have q':Fin X.K E ι2 H2 (M.bind (zal n) (fun ds=>(ofO (ixN ds.length k)>>=fun j=>zbk n (ds.set j d)>>=fun _=>pure sd)) h2) _:=q3
   unfold M.bind at q'
   cases z:zal n h2 with
   | bad=>rw [z] at q';exact qa0 q'
   | exc c h'=>unfold zal at z;split at z<;>cases z
   | ok ds h'=>
    rw [z] at q'
    obtain ⟨rfl,z2⟩:=zcr z
    obtain ⟨a,vs,e,hn,hH,rl⟩:=hr2.read rx2 z2
    simp only [Rel] at ry
    have q4:Fin X.K E ι2 H2 (M.bind (ofO (ixN ds.length k)) (fun j=>zbk n (ds.set j d)>>=fun _=>pure sd) h') _:=q'
    unfold M.bind at q4
    cases z3:ixN ds.length k with
    | none=>rw [z3] at q4;exact qa0 q4
    | some j=>
     rw [z3] at q4
     have q5:Fin X.K E ι2 H2 (R.ok sd (h'.set n (.lst (ds.set j d)))) (fun sd' ι' H'=> ∀ σ',zcy X.K ι' H' sd' σ'->Q σ' H'):=q4
     refine ⟨a,vs,k,j,e,ry,hH,by rw [<- rl.length];exact z3,?_⟩
     have rd2:=(rd.step s1).step s2
     exact q5 ι2 _ (hr2.cellS hn) (hr2.cell hn (rl.set rd2 j)) σ (((L.step s1).step s2).step (hr2.cellS hn))
  | _=>exact qa0 q2
 | _=>cases y<;>exact qa0 q2
end
noncomputable abbrev E0x:XE:=fun _ _=>False
noncomputable def zbT (K:W.Frag) (n:Nat) (F:List D->M D):Sp:=fun vs H Q _=>vs.length=n/\ ∃ ι h ds,zaq K ι H ds vs/\za6 K ι H h/\Fin K E0x ι H (F ds h) fun d ι' H'=> ∀ v,Rel K ι' H' d v->Q v H'
noncomputable def ze2 (n:Nat) (ds:List D):Sd:=ds.map some++List.replicate (n - ds.length) none
noncomputable def zcV:Out->M D
 | .nx _=>pure .non
 | .rt d=>pure d
 | _=>M.bad
noncomputable def zc1 (n:Nat) (G:Sd->M Out) (ds:List D):M D:=do let o<-G (ze2 n ds);zcV o
theorem zdV {K:W.Frag} {ι:Io} {H:Hp} {ds:List D} {vs:List V} {N:List Str} (h:zaq K ι H ds vs):zcy K ι H (ze2 N.length ds) (L2.zdP N vs):=by
 have hl:=h.length
 unfold ze2 L2.zdP
 refine ⟨by simp [hl],fun i d e=> ?_⟩
 by_cases hi:i<ds.length
 ·rw [qad (by simpa using hi),List.getElem?_map] at e
  cases z:ds[i]? with
  | none=>rw [z] at e;cases e
  | some d'=>
   rw [z] at e
   cases e
   obtain ⟨v,h1,h2⟩:=h.get z
   exact ⟨v,by rw [qad (by rw [qaH, <-hl];exact hi),List.getElem?_map,h1];rfl,h2⟩
 ·rw [qaa (by simpa using hi),List.getElem?_replicate] at e
  split at e<;>cases e
section
variable {P:Program} {w:World} {K:W.Frag} {mg:Str->Option Value} {base:Heap}
theorem zbj {x qual:Str} {st:Stmt} {f:Addr} {fd:FuncData} {N ps:List Str} {k:Nat} {G:Sd->M Out} (F:Fun K x qual st f fd) (S:zas N ps (zae st))
  (hb: ∀ (cdv:Value) (A:Around) (outer:List Env) (s:Shared) (H:Hp) (E:XK),zdf k (A.deeper (envOfC qual (zae st) s.heap.objs.size f cdv))->SSs (zg9 CX0 P w K mg base N qual (zae st) f cdv A outer s H E).nox E0x (zcm st) G):
  zbr P w K mg base CX0 (k+1) f fd ps (zbT K ps.length (zc1 N.length G)):=by
 refine F.ok S (fun vs H Q E h=>h.1) fun cdv A outer s H vs Q E hr ⟨hl,ι,h,ds,rl,hh,q⟩=>⟨_,hb cdv A outer s H E hr,ι,h,ze2 N.length ds,zdV rl,hh,?_⟩
 refine Fin.bind q fun o h1 ι1 H1 e1 s1 hr1 q1=> ?_
 cases o with
 | nx sd=>exact fun σ' _=>Fin.out hr1 q1 _ (by simp [Rel])
 | rt d=>exact fun v rv=>Fin.out hr1 q1 v rv
 | bk sd=>exact qa0 q1
 | ct sd=>exact qa0 q1
end
section
variable {X:Cx} {e:Expr} {es:List Expr} {pos p:Pos}
noncomputable def zav (n:Nat) (F:List D->M D) (ds:List D):M D:=if ds.length=n then F ds else M.bad
theorem zns {k:Nat} {f:Addr} {fd:FuncData} {ps:List Str} {n:Nat} {F:List D->M D} {fs:Sd->M (List D)} {x:Str} (G:zbr X.prog X.w X.K X.mg X.base CX0 k f fd ps (zbT X.K n F)) (hr:zdf k X.A) (hg:Gl X x) (hm:X.mg x=some (.ref f)) (hk:W.keepIn X.K (.ref f)=true) (hb:zaM X.K fd ps [])
  (ha:SA X E0x (e::es) fs) (hdb:(x==("__debug__":Str))=false:=by decide) (he:starEach (e::es) X.env=(false,eval e X.env)::starEach es X.env:=by rfl) (hpl:(backTo pos (starEach es X.env)).any (·.1)=false:=by rfl):
  SE X E0x (.Call (.Name x p) (e::es) [] pos) (fun sd=>do let ds<-fs sd;zav n F ds):=by
 refine PE.imp (zhc G hr hg hm hk hb (dvs:=[]) .nil (E:=fun _ _ _=>False) zqB ha hdb he hpl) fun σ H Q ⟨ι,h,sd,L,hh,q⟩=>⟨ι,h,sd,L,hh,Fin.bind q fun ds h1 ι1 H1 e1 s1 hr1 q1 vs rv=> ?_⟩
 show zbT X.K n F (vs++[]) H1 Q _
 rw [List.append_nil]
 unfold zav at q1
 by_cases hl:ds.length=n
 ·rw [qa4 hl] at q1
  exact ⟨by rw [<- rv.length];exact hl,ι1,h1,ds,rv,hr1,q1⟩
 ·rw [qa5 hl] at q1
  exact qa0 q1
end
section
variable {X:Cx} {E:XE}
theorem Fin.guard {α:Type} {K:W.Frag} {ι:Io} {H:Hp} {h:Hh} {c:Prop} [Decidable c] {f:M α} {P:α->Io->Hp->Prop} (q:Fin K E ι H ((if c then f else M.bad) h) P):c/\Fin K E ι H (f h) P:=by
 by_cases hc:c
 ·rw [qa4 hc] at q;exact ⟨hc,q⟩
 ·rw [qa5 hc] at q;exact qa0 q
theorem zlw:OpR X (binaryOp .Add) (fun x y H Q=> ∃ a b ys,x= .ref a/\y= .ref b/\SqT X.K H a []/\SqT X.K H b ys/\Q (.ref b) H):=by
 intro pins s σ H x y v u Q I rx ry h
 obtain ⟨a,b,ys,rfl,rfl,ha,hb,q⟩:=h
 cases rx
 cases ry
 obtain ⟨its,r1,p1,_⟩:=I.tuple ha
 obtain ⟨its2,r2,p2,_⟩:=I.tuple hb
 cases r1
 obtain ⟨⟨cls,dd,data,sl⟩,ho,hc,n,hd⟩:=id p1
 obtain ⟨⟨cls2,dd2,data2,sl2⟩,ho2,hc2,n2,hd2⟩:=id p2
 simp only at hc hd hc2 hd2
 subst hc hd hc2 hd2
 exact concat_meets ⟨_,ho,rfl⟩ ⟨_,ho2,rfl⟩ noFill_tuple_add seq_tuple_add PySem.F.slot_tuple_add PySem.F.entry_tuple_add (PySem.F.args_tuple_add_2 _ _)
   (tuple_addW0 a b _ _ n n2 dd dd2 sl sl2 (by simp)) ⟨ho,ho2,⟨.ref b,H,I,rfl,q⟩⟩
noncomputable def zcY (x y:D):M D:=match x,y with
 | .int i,.int j=>pure (.int (i+j))
 | .tup xs,.tup ys=>do fits (xs.length+ys.length);pure (.tup (xs++ys))
 | .lst xs,.lst ys=>do fits (xs.length+ys.length);pure (.lst (xs++ys))
 | .str x,.str y=>do fits (x.length+y.length);pure (.str (x++y))
 | _,_=>M.bad
theorem zaz:OpR X (binaryOp .Add) (zdb X.K E zcY):=by
 refine OpR.imp (zqi.or (zlw.or (znp.or (zqF.or zii)))) fun x y H Q ⟨ι,h,d1,d2,r1,r2,hr,q⟩=> ?_
 unfold zcY at q
 split at q
 ·simp only [Rel] at r1 r2
  exact .inl ⟨_,_,r1,r2,Fin.out hr q _ (by simp [Rel])⟩
 ·rename_i xs ys
  right
  obtain ⟨a,vs,e,h1,h2⟩:=zcu r1
  obtain ⟨b,ws,e',h1',h2'⟩:=zcu r2
  obtain ⟨z,q⟩:=Fin.fits q
  cases xs with
  | nil=>
   simp only [zaq] at h2
   subst h2
   exact .inl ⟨a,b,ws,e,e',h1,h1',Fin.out hr q _ (by rw [<- e'];exact r2)⟩
  | cons x0 xr=>
   refine .inr (.inl ⟨a,b,vs,ws,e,e',h1,h1',fun z=> ?_,by rw [<- h2.length, <-h2'.length];exact z,fun z=> ?_,fun z p hp=>zmL hr (h2.append h2') q hp⟩)
   ·subst z
    have:=h2.length
    cases this
   ·subst z
    have:=h2'.length
    cases ys with
    | nil=>rw [List.append_nil] at q;exact Fin.out hr q _ (by rw [<- e];exact r1)
    | cons _ _=>cases this
 ·rename_i xs ys
  right;right;right;left
  simp only [Rel] at r1 r2
  obtain ⟨a,vs,e,h1,h2⟩:=r1
  obtain ⟨b,ws,e',h1',h2'⟩:=r2
  obtain ⟨z,q⟩:=Fin.fits q
  exact ⟨a,b,vs,ws,e,e',h1.1,h1'.1,by rw [<- h2.length, <-h2'.length];exact z,fun p hp=>zoF hr (h2.append h2') q hp⟩
 ·simp only [Rel] at r1 r2
  obtain ⟨z,q⟩:=Fin.fits q
  exact .inr (.inr (.inr (.inr ⟨_,_,r1,r2,z,Fin.out hr q _ (by simp [Rel])⟩)))
 ·exact qa0 q
noncomputable def dII (C:Int->Int->Bool) (g:Int->Int->D) (x y:D):M D:=match x,y with
 | .int i,.int j=>if C i j=true then pure (g i j) else M.bad
 | _,_=>M.bad
theorem zgU {f:Value->Value->Sem Value} {C:Int->Int->Bool} {C':Int->Int->Prop} {g:Int->Int->V} {g':Int->Int->D} (ho:OpR X f (rI C' g)) (hc: ∀ i j,C i j=true->C' i j) (hg: ∀ i j ι H,Rel X.K ι H (g' i j) (g i j)):OpR X f (zdb X.K E (dII C g')):=by
 refine OpR.imp ho fun x y H Q ⟨ι,h,d1,d2,r1,r2,hr,q⟩=> ?_
 unfold dII at q
 split at q
 ·simp only [Rel] at r1 r2
  obtain ⟨c,q⟩:=Fin.guard q
  exact ⟨_,_,r1,r2,hc _ _ c,Fin.out hr q _ (hg _ _ _ _)⟩
 ·exact qa0 q
theorem zf6 {f:Value->Value->Sem Value} {g:Int->Int->V} {g':Int->Int->D} (ho:OpR X f (rI0 g)) (hg: ∀ i j ι H,Rel X.K ι H (g' i j) (g i j)):OpR X f (zdb X.K E (dII (fun _ _=>true) g')):=by
 refine OpR.imp ho fun x y H Q ⟨ι,h,d1,d2,r1,r2,hr,q⟩=> ?_
 unfold dII at q
 split at q
 ·simp only [Rel] at r1 r2
  obtain ⟨c,q⟩:=Fin.guard q
  exact ⟨_,_,r1,r2,Fin.out hr q _ (hg _ _ _ _)⟩
 ·exact qa0 q
noncomputable def zpF:=dII (fun _ _=>true) fun i j=> .int (i - j)
theorem zhn:OpR X (binaryOp .Sub) (zdb X.K E zpF):=zf6 zpr fun _ _ _ _=>by simp [Rel]
noncomputable def zbd (i:Int):Bool:=decide (-(2^64)<i) && decide (i<2^64)
theorem zcA {i:Int} (h:zbd i=true): -(2^64)<i/\i<2^64:=by unfold zbd at h;simpa using h
theorem zlE:OpR X (binaryOp .FloorDiv) (rI (fun _ j=>0<j/\j<2^64) fun i j=> .int (i / j)):=opI fun i j _ _ _ _ _ hc q=>by
 refine floordiv_int (by omega) (by rw [Int.fdiv_eq_ediv_of_nonneg _ (by omega)];exact q) (.inl (PyProof.noPylong_of_log2 ?_))
 have h1:j.natAbs<2^64:=by omega
 have h0:j.natAbs≠0:=by omega
 exact Nat.lt_trans ((Nat.log2_lt h0).mpr h1) (by decide)
noncomputable def zlC:=dII (fun _ j=>decide (0<j) && decide (j<2^64)) fun i j=> .int (i / j)
theorem zic:OpR X (binaryOp .FloorDiv) (zdb X.K E zlC):=zgU zlE (fun i j h=>by simpa using h) fun _ _ _ _=>by simp [Rel]
noncomputable def zlM:=dII (fun _ j=>decide (0<j)) fun i j=> .int (i % j)
theorem zdo:OpR X (binaryOp .Mod) (zdb X.K E zlM):=zgU zpY (fun i j h=>by simpa using h) fun _ _ _ _=>by simp [Rel]
noncomputable def zoJ (i j:Int):Bool:=decide (0<=j) && decide (j<=1000000) && decide (i.natAbs<2^64)
noncomputable def zrn:=dII zoJ fun i j=> .int (i^j.toNat)
theorem zhB {i j:Int} (h:zoJ i j=true):zrm i j:=by unfold zoJ at h;simpa [zrm,and_assoc] using h
theorem zor:OpR X (binaryOp .Pow) (zdb X.K E zrn):=zgU zq6 (fun _ _=>zhB) fun _ _ _ _=>by simp [Rel]
noncomputable def zsh:=dII zoJ fun i j=> .int (i*2^j.toNat)
theorem zn0:OpR X (binaryOp .LShift) (zdb X.K E zsh):=zgU zrj (fun _ _=>zhB) fun _ _ _ _=>by simp [Rel]
noncomputable def zrV:=dII (fun _ j=>decide (0<=j)) fun i j=> .int (i / 2^j.toNat)
theorem znB:OpR X (binaryOp .RShift) (zdb X.K E zrV):=zgU zo4 (fun i j h=>by simpa using h) fun _ _ _ _=>by simp [Rel]
noncomputable def zsK:=dII (fun _ _=>true) fun i j=> .int (Builtin.bitAnd i j)
theorem znh:OpR X (binaryOp .BitAnd) (zdb X.K E zsK):=zf6 zql fun _ _ _ _=>by simp [Rel]
noncomputable def dLt:=dII (fun _ _=>true) fun i j=> .bl (decide (i<j))
theorem zhy:OpR X (compareOp .Lt) (zdb X.K E dLt):=zf6 zr2 fun _ _ _ _=>by simp [Rel]
noncomputable def dLe:=dII (fun _ _=>true) fun i j=> .bl (decide (i<=j))
noncomputable def dGt:=dII (fun _ _=>true) fun i j=> .bl (decide (j<i))
theorem zhG:OpR X (compareOp .Gt) (zdb X.K E dGt):=zf6 zsE fun _ _ _ _=>by simp [Rel]
noncomputable def dGe:=dII (fun _ _=>true) fun i j=> .bl (decide (j<=i))
theorem zmN:OpR X (compareOp .GtE) (zdb X.K E dGe):=zf6 zr0 fun _ _ _ _=>by simp [Rel]
noncomputable def zqy:D->M D
 | .int i=>pure (.int (-i))
 | _=>M.bad
theorem zpM {a:Expr} {pos:Pos} {fa:Sd->M D} (ha:SE X E a fa):SE X E (.UnaryOp .USub a pos) (fun sd=>do let x<-fa sd;zqy x):=by
 refine PE.imp (zpT zmv ha) fun σ H Q ⟨ι,h,sd,L,hh,q⟩=>⟨ι,h,sd,L,hh,Fin.bind q fun d h1 ι1 H1 e1 s1 hr1 q1 v rv=> ?_⟩
 cases d with
 | int i=>simp only [Rel] at rv;exact ⟨i,rv,Fin.out hr1 q1 _ (by simp [Rel])⟩
 | _=>exact qa0 q1
mutual
noncomputable def pd:D->Option PyData
 | .non=>some .none
 | .bl b=>some (.bool b)
 | .int i=>some (.int i)
 | .str x=>some (.str x)
 | .tup xs=>(pdL xs).map .tuple
 | .lst xs=>(pdL xs).map .list
 | .scr xs=>(pdL xs).map .list
 | _=>none
noncomputable def pdL:List D->Option (List PyData)
 | []=>some []
 | x::xs=>match pd x,pdL xs with
  | some a,some r=>some (a::r)
  | _,_=>none
end
mutual
theorem zeL {pins:List (Addr×Obj)} {σ:L2.St} {H:Hp} {s:Shared} {ι:Io} (I:Inv X pins σ H s): ∀ {d:D} {v:V} {u:Value} {p:PyData},Rel X.K ι H d v->zbE v u->pd d=some p-> ∃ as,Reads s.heap u p as
 | .non,v,u,p,r,ru,e=>by simp only [Rel] at r;subst r;cases ru;cases e;exact ⟨_,.none⟩
 | .bl b,v,u,p,r,ru,e=>by simp only [Rel] at r;subst r;cases ru;cases e;exact ⟨_,.bool _⟩
 | .int i,v,u,p,r,ru,e=>by simp only [Rel] at r;subst r;obtain ⟨t,rfl⟩:=ru;cases e;exact ⟨_,.int _ _⟩
 | .str i,v,u,p,r,ru,e=>by simp only [Rel] at r;subst r;obtain ⟨t,rfl⟩:=ru;cases e;exact ⟨_,.str _ _⟩
 | .tup ds,v,u,p,r,ru,e=>by
  obtain ⟨a,vs,rfl,h1,h2⟩:=zcu r
  cases ru
  obtain ⟨its,rv,pl,_⟩:=I.tuple h1
  obtain ⟨o,ho,hc,n,hd⟩:=pl
  unfold pd at e
  cases z:pdL ds with
  | none=>rw [z] at e;cases e
  | some ps=>
   rw [z] at e;cases e
   obtain ⟨as,q⟩:=zfV I h2 rv z
   exact ⟨_,.tuple ho hc hd (by simpa using q)⟩
 | .lst ds,v,u,p,r,ru,e=>by
  obtain ⟨a,vs,rfl,h1,h2⟩:=zd6 r
  cases ru
  obtain ⟨its,rv,pl,_⟩:=I.list h1
  obtain ⟨o,ho,hc,n,hd⟩:=pl.isList
  unfold pd at e
  cases z:pdL ds with
  | none=>rw [z] at e;cases e
  | some ps=>
   rw [z] at e;cases e
   obtain ⟨as,q⟩:=zfV I h2 rv z
   exact ⟨_,.list ho hc hd (by simpa using q)⟩
 | .scr ds,v,u,p,r,ru,e=>by
  obtain ⟨a,vs,rfl,h1,h2⟩:=zjA r
  cases ru
  obtain ⟨its,rv,pl,_⟩:=I.list h1
  obtain ⟨o,ho,hc,n,hd⟩:=pl.isList
  unfold pd at e
  cases z:pdL ds with
  | none=>rw [z] at e;cases e
  | some ps=>
   rw [z] at e;cases e
   obtain ⟨as,q⟩:=zfV I h2 rv z
   exact ⟨_,.list ho hc hd (by simpa using q)⟩
 | .cel n,_,_,_,_,_,e=>by cases e
 | .set xs,_,_,_,_,_,e=>by cases e
 | .dct,_,_,_,_,_,e=>by cases e
 | .fn _,_,_,_,_,_,e=>by cases e
 | .exn _,_,_,_,_,_,e=>by cases e
theorem zfV {pins:List (Addr×Obj)} {σ:L2.St} {H:Hp} {s:Shared} {ι:Io} (I:Inv X pins σ H s): ∀ {ds:List D} {vs:List V} {us:List Value} {ps:List PyData},zaq X.K ι H ds vs->zaZ vs us->pdL ds=some ps-> ∃ as,ReadsAll s.heap us ps as
 | [],vs,us,ps,r,ru,e=>by simp only [zaq] at r;subst r;cases ru;cases e;exact ⟨_,.nil⟩
 | d::ds,vs,us,ps,r,ru,e=>by
  simp only [zaq] at r
  obtain ⟨v,vr,rfl,r1,r2⟩:=r
  cases ru with
  | cons ru1 ru2=>
   unfold pdL at e
   cases z:pd d with
   | none=>rw [z] at e;cases e
   | some a=>
    cases z2:pdL ds with
    | none=>rw [z,z2] at e;cases e
    | some b=>
     rw [z,z2] at e
     cases e
     obtain ⟨as,q1⟩:=zeL I r1 ru1 z
     obtain ⟨bs,q2⟩:=zfV I r2 ru2 z2
     exact ⟨_,.cons q1 q2⟩
end
noncomputable def zgf (a b:PyData):Bool:=a.canLay0 && b.canLay0 && decide (min a.depth b.depth<=60)
noncomputable def ziP (neg:Bool) (x y:D):M D:=match pd x,pd y with
 | some a,some b=>if zgf a b=true then pure (.bl (if neg then !PyData.eqv a b else PyData.eqv a b)) else M.bad
 | _,_=>M.bad
noncomputable def dEq:=ziP false
noncomputable def dNe:=ziP true
theorem zfq {a b:PyData} (h:zgf a b=true):a.canLay0=true/\b.canLay0=true/\min a.depth b.depth<=60:=by unfold zgf at h;simpa [and_assoc] using h
theorem zh2 {K:W.Frag} {ι:Io} {H:Hp} {h:Hh} {neg:Bool} {x y:D} {P:D->Io->Hp->Prop} (q:Fin K E ι H (ziP neg x y h) P): ∃ a b,pd x=some a/\pd y=some b/\zgf a b=true/\Fin K E ι H ((pure (.bl (if neg then !PyData.eqv a b else PyData.eqv a b)):M D) h) P:=by
 unfold ziP at q
 cases e1:pd x with
 | none=>rw [e1] at q;exact qa0 q
 | some a=>
  cases e2:pd y with
  | none=>rw [e1,e2] at q;exact qa0 q
  | some b=>
   rw [e1,e2] at q
   obtain ⟨c,q⟩:=Fin.guard q
   exact ⟨a,b,rfl,rfl,c,q⟩
theorem zea (hu:X.A.units+60<cLine):OpR X (compareOp .Eq) (zdb X.K E dEq):=by
 intro pins s σ H x y v u Q I rx ry ⟨ι,h,d1,d2,r1,r2,hr,q⟩
 obtain ⟨a,b,e1,e2,c,q2⟩:=zh2 q
 obtain ⟨c1,c2,c3⟩:=zfq c
 obtain ⟨as,ra⟩:=zeL I r1 rx e1
 obtain ⟨bs,rb⟩:=zeL I r2 ry e2
 exact SeqAt.compareEq_reads ra rb c1 c2 (by omega) ⟨.bl _,H,I,rfl,Fin.out hr q2 (.bl _) (by simp [Rel])⟩
theorem zeH (hu:X.A.units+60<cLine):OpR X (compareOp .NotEq) (zdb X.K E dNe):=by
 intro pins s σ H x y v u Q I rx ry ⟨ι,h,d1,d2,r1,r2,hr,q⟩
 obtain ⟨a,b,e1,e2,c,q2⟩:=zh2 q
 obtain ⟨c1,c2,c3⟩:=zfq c
 obtain ⟨as,ra⟩:=zeL I r1 rx e1
 obtain ⟨bs,rb⟩:=zeL I r2 ry e2
 exact SeqAt.compareNe_reads ra rb c1 c2 (by omega) ⟨.bl _,H,I,rfl,Fin.out hr q2 (.bl _) (by simp [Rel])⟩
noncomputable def zlK (a:PyData) (xs:List PyData):Bool:=a.canLay0 && PyData.canLayAll0 xs && decide (min (PyData.depthAll xs) a.depth<=50)
theorem zhS {a:PyData} {xs:List PyData} (h:zlK a xs=true):a.canLay0=true/\PyData.canLayAll0 xs=true/\min (PyData.depthAll xs) a.depth<=50:=by unfold zlK at h;simpa [and_assoc] using h
noncomputable def zmV (neg:Bool) (x c:D):M D:=match pd x,c with
 | some a,.tup ds=>match pdL ds with
  | some xs=>if zlK a xs=true then pure (.bl (if neg then !xs.any (fun y=>PyData.eqv y a) else xs.any fun y=>PyData.eqv y a)) else M.bad
  | none=>M.bad
 | some a,.lst ds=>match pdL ds with
  | some xs=>if zlK a xs=true then pure (.bl (if neg then !xs.any (fun y=>PyData.eqv y a) else xs.any fun y=>PyData.eqv y a)) else M.bad
  | none=>M.bad
 | _,_=>M.bad
noncomputable def dIn:=zmV false
noncomputable def zi1:=zmV true
theorem zh1 {K:W.Frag} {ι:Io} {H:Hp} {h:Hh} {neg:Bool} {x c:D} {P:D->Io->Hp->Prop} (q:Fin K E ι H (zmV neg x c h) P): ∃ a ds xs,pd x=some a/\pdL ds=some xs/\(c= .tup ds\/c= .lst ds)/\zlK a xs=true/\
  Fin K E ι H ((pure (.bl (if neg then !xs.any (fun y=>PyData.eqv y a) else xs.any fun y=>PyData.eqv y a)):M D) h) P:=by
 unfold zmV at q
 cases e1:pd x with
 | none=>rw [e1] at q;exact qa0 q
 | some a=>
  rw [e1] at q
  cases c with
  | tup ds=>
   dsimp only at q
   cases e2:pdL ds with
   | none=>rw [e2] at q;exact qa0 q
   | some xs=>
    rw [e2] at q
    obtain ⟨c,q⟩:=Fin.guard q
    exact ⟨a,ds,xs,rfl,e2,.inl rfl,c,q⟩
  | lst ds=>
   dsimp only at q
   cases e2:pdL ds with
   | none=>rw [e2] at q;exact qa0 q
   | some xs=>
    rw [e2] at q
    obtain ⟨c,q⟩:=Fin.guard q
    exact ⟨a,ds,xs,rfl,e2,.inr rfl,c,q⟩
  | _=>exact qa0 q
theorem zh6 (hu:X.A.units+60<cLine):OpR X (compareOp .In) (zdb X.K E dIn):=by
 intro pins s σ H x y v u Q I rx ry ⟨ι,h,d1,d2,r1,r2,hr,q⟩
 obtain ⟨a,ds,xs,e1,e2,ec,c,q2⟩:=zh1 q
 obtain ⟨c1,c2,c3⟩:=zhS c
 obtain ⟨as,ra⟩:=zeL I r1 rx e1
 rcases ec with rfl | rfl
 ·obtain ⟨bs,rb⟩:=zeL I r2 ry (p:= .tuple xs) (by unfold pd;rw [e2];rfl)
  exact SeqAt.in_tuple_reads rb ra c2 c1 (by omega) ⟨.bl _,H,I,rfl,Fin.out hr q2 (.bl _) (by simp [Rel])⟩
 ·obtain ⟨bs,rb⟩:=zeL I r2 ry (p:= .list xs) (by unfold pd;rw [e2];rfl)
  exact SeqAt.in_list_reads rb ra c2 c1 (by omega) ⟨.bl _,H,I,rfl,Fin.out hr q2 (.bl _) (by simp [Rel])⟩
theorem zkD (hu:X.A.units+60<cLine):OpR X (compareOp .NotIn) (zdb X.K E zi1):=by
 intro pins s σ H x y v u Q I rx ry ⟨ι,h,d1,d2,r1,r2,hr,q⟩
 obtain ⟨a,ds,xs,e1,e2,ec,c,q2⟩:=zh1 q
 obtain ⟨c1,c2,c3⟩:=zhS c
 obtain ⟨as,ra⟩:=zeL I r1 rx e1
 rcases ec with rfl | rfl
 ·obtain ⟨bs,rb⟩:=zeL I r2 ry (p:= .tuple xs) (by unfold pd;rw [e2];rfl)
  exact SeqAt.notIn_tuple_reads rb ra c2 c1 (by omega) ⟨.bl _,H,I,rfl,Fin.out hr q2 (.bl _) (by simp [Rel])⟩
 ·obtain ⟨bs,rb⟩:=zeL I r2 ry (p:= .list xs) (by unfold pd;rw [e2];rfl)
  exact SeqAt.notIn_list_reads rb ra c2 c1 (by omega) ⟨.bl _,H,I,rfl,Fin.out hr q2 (.bl _) (by simp [Rel])⟩
end
end L3
namespace HT
open PySem PySem.Spec PyProof.Rows L2
section
variable {prog:Program} {w:World} {A:Around} {E:Value->Shared->Prop} {s:Shared}
theorem zdk {t sl:Addr} {items:Array Value} {vl vu:Value} {lo hi:Option Int} {Q:Value->Shared->Prop} (ht:IsTup s.heap t items) (hs:s.heap.IsSliceOf sl vl vu .none) (pl:IsPart vl lo) (pu:IsPart vu hi)
  (hw:sIx items.size 0 lo=0/\sIx items.size items.size hi=items.size) (h:Q (.ref t) s):wpAny (model prog w) A (getItem (.ref t) (.ref sl)) Q E s:=by
 obtain ⟨os,hos,hcs,hds⟩:=id hs
 have hTs:s.TypeIs (.ref sl) "slice":=⟨os,hos,hcs⟩
 unfold getItem
 try with_reducible refine qaO ?_
 first | refine qaW (qaX ?_) | skip
 refine qaW (wpAny_sequenceKey ht.typeIs (by decide) ?_)
 refine qaW (wpAny_callSpecial?_slot (name:=Str.ofString "__getitem__") ht.typeIs PyProof.Rows.slot_tuple_getitem
   (wpAny_call_entry PyProof.Rows.slot_tuple_getitem ht.typeIs entry_tuple_getitem ?_ (args_tuple_getitem _ _)))
 show wpAny _ _ (Builtin.Tuple.tupleItemsOf (.ref t)>>=_) _ _ s
 refine qaW (tupleItemsOf_ ht ?_)
 refine qaW (wpAny_typeOf hTs ?_)
 rw [qa4 (by decide)]
 refine qaW (zcI hs pl pu ?_)
 show wpAny _ _ (if (((sIx items.size 0 lo:Nat):Int)==0 && (1:Int)==1 && (sIx items.size items.size hi - sIx items.size 0 lo)==items.size)=true then _ else _) _ _ s
 rw [hw.1,hw.2,qa4 (by simp)]
 refine qaW (m:=Builtin.Tuple.tupleIsExact _) (qaW (wpAny_typeOf ht.typeIs (qaX ?_)))
 rw [qa4 (by decide)]
 refine qaW (wpAny_rule ?_)
 exact qaX ⟨_,rfl,qaX h⟩
theorem zee {sl:Addr} {t:Tok} {n:Nat} {Q:Int×Int×Nat->Shared->Prop} (hs:s.heap.IsSliceOf sl .none .none (.int (-1) t))
  (h:Q ((n:Int) - 1, -1,n) s):wpAny (model prog w) A (Builtin.Slice.sliceApplied (.ref sl) (pure (n:Int))) Q E s:=by
 obtain ⟨os,hos,hcs,hds⟩:=id hs
 unfold Builtin.Slice.sliceApplied Builtin.Slice.sliceFields
 refine qaW (qaW (wpAny_field hos hds (x:= .none) rfl (qaW (wpAny_field hos hds (x:= .none) rfl (qaW (wpAny_field hos hds (x:= .int (-1) t) rfl (qaX ?_)))))))
 refine qaW (slicePart_int ?_)
 show wpAny _ _ (if ((-1:Int)==0)=true then _ else _) _ _ s
 rw [qa5 (by decide)]
 refine qaW (slicePart_none (qaW (slicePart_none (qaW (qaX ?_)))))
 show wpAny _ _ (pure ((n:Int) - 1,(-1:Int),Builtin.Slice.slicePlaces ((n:Int) - 1) (-1) (-1))) _ _ s
 have e:Builtin.Slice.slicePlaces ((n:Int) - 1) (-1) (-1)=n:=by
  unfold Builtin.Slice.slicePlaces
  rw [qa5 (by decide)]
  have:(-(-1):Int)=1:=by decide
  rw [this,Int.ediv_one]
  split<;>omega
 rw [e]
 exact qaX h
theorem zk8 (xs:Array Value):((List.range xs.size).filterMap fun (m:Nat)=>xs[((xs.size:Int) - 1+(m:Int)*(-1)).toNat]?).toArray=xs.toList.reverse.toArray:=by
 congr 1
 have e: ∀ n,n<=xs.size->(List.range n).filterMap (fun (m:Nat)=>xs[((xs.size:Int) - 1+(m:Int)*(-1)).toNat]?)=(xs.toList.reverse).take n:=by
  intro n
  induction n with
  | zero=>intro _;simp
  | succ n ih=>
   intro hn
   rw [List.range_succ,List.filterMap_append,ih (by omega),List.take_add_one]
   congr 1
   have e1:((xs.size:Int) - 1+(n:Int)*(-1)).toNat=xs.size - 1 - n:=by omega
   rw [qat,List.filterMap_nil,e1]
   have h1:xs.size - 1 - n<xs.size:=by omega
   rw [List.getElem?_reverse (by simp;omega)]
   simp [h1]
 rw [e _ (qaV _),List.take_of_length_le (by simp)]
theorem zdS {t sl:Addr} {items:Array Value} {tk:Tok} {Q:Value->Shared->Prop} (ht:IsTup s.heap t items) (hs:s.heap.IsSliceOf sl .none .none (.int (-1) tk))
  (h:Q (.ref s.heap.objs.size) {s with heap:=s.heap.push {cls:= .type "tuple",data:= .seq items.toList.reverse.toArray}})
  (hsz:items.size<=sizeLine):wpAny (model prog w) A (getItem (.ref t) (.ref sl)) Q E s:=by
 have htake:sizeOk (.seq items.toList.reverse.toArray):=by
  show items.toList.reverse.toArray.size<=sizeLine
  simpa using hsz
 obtain ⟨os,hos,hcs,hds⟩:=id hs
 have hTs:s.TypeIs (.ref sl) "slice":=⟨os,hos,hcs⟩
 unfold getItem
 try with_reducible refine qaO ?_
 first | refine qaW (qaX ?_) | skip
 refine qaW (wpAny_sequenceKey ht.typeIs (by decide) ?_)
 refine qaW (wpAny_callSpecial?_slot (name:=Str.ofString "__getitem__") ht.typeIs PyProof.Rows.slot_tuple_getitem
   (wpAny_call_entry PyProof.Rows.slot_tuple_getitem ht.typeIs entry_tuple_getitem ?_ (args_tuple_getitem _ _)))
 show wpAny _ _ (Builtin.Tuple.tupleItemsOf (.ref t)>>=_) _ _ s
 refine qaW (tupleItemsOf_ ht ?_)
 refine qaW (wpAny_typeOf hTs ?_)
 rw [qa4 (by decide)]
 refine qaW (zee hs ?_)
 show wpAny _ _ (if ((((items.size:Int) - 1)==0 && (-1:Int)==1 && items.size==items.size)=true) then _ else _) _ _ s
 rw [qa5 (by simp),zk8]
 first
  | exact qaW (m:=Builtin.Tuple.tupleExact _) (qaC (qaX ⟨_,rfl,qaX h⟩) htake)
  | exact qaW (m:=Builtin.Tuple.tupleExact _) (qaC (qaW (qaX (qaX ⟨_,rfl,qaX h⟩))) htake)
  | exact qaW (qaW (m:=Builtin.Tuple.tupleExact _) (qaC (qaX (qaX ⟨_,rfl,qaX h⟩)) htake))
  | exact qaW (qaW (m:=Builtin.Tuple.tupleExact _) (qaC (qaX ⟨_,rfl,qaX h⟩) htake))
end
end HT
namespace L2
open PySem PySem.Spec PyProof.Rows
section
variable {X:Cx} {e:Expr} {te:TE} {pos p2:Pos}
theorem znJ:SlR X (fun x lo hi H Q=> ∃ a xs,x= .ref a/\SqT X.K H a xs/\(HT.sIx xs.length 0 lo=0/\HT.sIx xs.length xs.length hi=xs.length)/\Q (.ref a) H):=by
 intro pins s σ H x v vl vu lo hi sl Q I rx hs pl pu h
 obtain ⟨a,xs,rfl,hx,hw,q⟩:=h
 cases rx
 obtain ⟨its,r,ht,hz⟩:=I.tuple hx
 have hlen:its.toArray.size=xs.length:=by rw [qaA];exact r.length.symm
 refine ⟨"tuple",_,PyProof.Rows.slot_tuple_getitem.lookup,ht.typeIs,?_⟩
 exact HT.zdk ht hs pl pu (by rw [hlen];exact hw) ⟨.ref a,H,I,rfl,q⟩
theorem zqR {st:Expr} (he:PE X e te) (hst:PE X st (tC (.int (-1)))):PE X (.Subscript e (.Slice none none (some st) p2) pos) (fun σ H Q=>te σ H fun x H1=> ∃ a xs,x= .ref a/\SqT X.K H1 a xs/\ ∀ p,H1 p=none->Q (.ref p) (upd H1 p (.tup xs.reverse))):=by
 intro pins s σ H Q I h
 refine Subscript_ (thn (he pins s σ H _ I h) fun v s1 ⟨x,H1,I1,r1,q1⟩=> ?_)
 obtain ⟨a,xs,rfl,hx,q⟩:=q1
 cases r1
 refine wpAny_Slice ?_
 rw [evalPart_none]
 refine qaX (qaX ?_)
 rw [evalPart_some]
 refine thn (hst pins s1 σ H1 (fun z Hz=>z= .int (-1)/\Hz=H1) I1 ⟨rfl,rfl⟩) fun u s2 ⟨z,Hz,I2,rz,ez,eH⟩=> ?_
 subst ez eH
 obtain ⟨t,rfl⟩:=rz
 have I4:Inv X pins σ Hz {s2 with heap:=s2.heap.push {cls:= .type "slice",data:= .fields #[.none,.none,.int (-1) t]}}:=I2.kept (t':=s2.toks) fun b ob q=>qag _ q
 obtain ⟨its,r,ht,hz⟩:=I4.tuple hx
 have hlen:its.toArray.size=xs.length:=by rw [qaA];exact r.length.symm
 show wpAny (model X.prog X.w) X.A (subscriptTail e (.Slice none none (some st) p2) (.ref a) (.ref s2.heap.objs.size)) (EP X pins σ Q) X.xe {s2 with heap:=s2.heap.push {cls:= .type "slice",data:= .fields #[.none,.none,.int (-1) t]}}
 refine tail_any (ops:=[.ref a,.ref s2.heap.objs.size]) ht.typeIs PyProof.Rows.slot_tuple_getitem.lookup (HT.zdS ht ⟨_,qar _ rfl,rfl,rfl⟩ ?_ (by rw [hlen];exact hz)) (by with_unfolding_all rfl)
 refine ⟨.ref _,_,I4.laid (t':=s2.toks) (o:= .tup xs.reverse) (fun b ob q=>qag _ q) (qaV _) ?_,rfl,q _ (I4.hok.fresh (qaV _))⟩
 refine ⟨by rw [List.length_reverse];exact hz,its.reverse,r.reverse,?_⟩
 exact IsTup.new _ _
theorem zbG:fillsNumberSlot (.type "tuple") "mul"=pure false:=
 PySem.fillsNumberSlot_seq (id:="tuple.__mul__") (r:=some (.builtin "tuple.__rmul__")) F.slot_tuple_mul.lookup (by decide +kernel) F.slot_tuple_rmul.lookup (by decide +kernel)
theorem zc0:seqRepeat? (.type "tuple")=pure (some (.builtin "tuple.__mul__")):=by
 unfold seqRepeat?
 rw [PySem.seqSlot_of (T:="tuple") (name:="__mul__") (id:="tuple.__mul__") F.slot_tuple_mul.lookup (by decide +kernel),PySem.seqSlot_of (T:="tuple") (name:="__rmul__") (id:="tuple.__rmul__") F.slot_tuple_rmul.lookup (by decide +kernel)]
 rfl
theorem zcd (k:Int) (t:Tok) (l:Addr) (items:Array Value) (n:Nat) (dd:Option Addr) (sl:Array (Option Value)):
  Meets (Builtin.«int.__rmul__» ⟨[.int k t,.ref l],[]⟩) (fun _ R s=>s.heap.get? l=some {cls:= .type "tuple",dict:=dd,data:= .seq items n,slots:=sl}/\R (.ok (.ret Value.notImplemented)) s):=
 .of_wp fun prog w A R s h=>by obtain ⟨hp,g,d,tk,os⟩:=s;obtain ⟨hl,h⟩:=h;wp_walk;exact ⟨_,rfl,h⟩
theorem zi0 (k:Int) (t:Tok) (l:Addr) (items:Array Value) (n:Nat) (dd:Option Addr) (sl:Array (Option Value)) (hne:items.isEmpty=false) (hk:2<=k) (hk2:k<1000) (hz:items.size*k.toNat<=sizeLine):
  Meets (Builtin.«tuple.__mul__» ⟨[.ref l,.int k t],[]⟩) (fun _ R s=>s.heap.get? l=some {cls:= .type "tuple",dict:=dd,data:= .seq items n,slots:=sl}/\
    R (.ok (.ret (.ref s.heap.objs.size))) {s with heap:=s.heap.push {cls:= .type "tuple",data:= .seq ((List.replicate k.toNat items).foldl (· ++ ·) #[])}}):=
 .of_wp fun prog w A R s h=>by
  obtain ⟨hp,g,d,tk,os⟩:=s;obtain ⟨hl,h⟩:=h
  unfold Builtin.«tuple.__mul__» 
  wp_walk
  have hk63: ¬(decide (k< -2^63) || decide (k>=2^63))=true:=by
   rw [Bool.or_eq_true,qaD,qaD]
   omega
  rw [qa5 hk63]
  dsimp only
  have ht:IsTup hp l items:=⟨_,hl,rfl,_,rfl⟩
  refine qaW (tupleItemsOf_ ht ?_)
  have h1: ¬(items.isEmpty || k==1)=true:=by
   rw [hne,Bool.false_or,beq_iff_eq]
   omega
  rw [qa5 h1]
  have h2: ¬(decide (k<=0) || items.isEmpty)=true:=by
   rw [hne,Bool.or_false,qaD]
   omega
  rw [qa5 h2]
  have hk0:((k.toNat:Nat):Int)=k:=Int.toNat_of_nonneg (by omega)
  have hm:((items.size:Nat):Int)*k=((items.size*k.toNat:Nat):Int):=by rw [Int.natCast_mul,hk0]
  have hsl:(sizeLine:Nat)=16777216:=by decide
  have h3: ¬((items.size:Int)*k>(2^63 - 1) / 8):=by
   rw [hm]
   omega
  rw [qa5 h3]
  have h4: ¬Builtin.Tuple.tupleTooMany ((items.size:Int)*k)=true:=by
   unfold Builtin.Tuple.tupleTooMany
   rw [hm,qaD]
   omega
  rw [qa5 h4]
  have hsz:sizeOk (.seq (List.foldl (fun x1 x2=>x1++x2) #[] (List.replicate k.toNat items))):=by
   show (List.foldl (fun x1 x2=>x1++x2) #[] (List.replicate k.toNat items)).size<=sizeLine
   have e: ∀ (m:Nat) (acc:Array Value),(List.foldl (fun x1 x2=>x1++x2) acc (List.replicate m items)).size=acc.size+m*items.size:=by
    intro m
    induction m with
    | zero=>intro acc;simp
    | succ m ih=>intro acc;rw [List.replicate_succ,List.foldl_cons,ih,Array.size_append,Nat.succ_mul];omega
   rw [e,Nat.mul_comm]
   simpa using hz
  exact qaW (m:=Builtin.Tuple.tupleExact _) (qaC (qaX ⟨_,rfl,h⟩) hsz)
theorem ziZ:OpR X (binaryOp .Mult) (fun x y H Q=> ∃ a k xs,x= .ref a/\y= .int k/\SqT X.K H a xs/\xs≠[]/\2<=k/\k<1000/\xs.length*k.toNat<=sizeLine/\ ∀ p,H p=none->Q (.ref p) (upd H p (.tup (List.replicate k.toNat xs).flatten))):=by
 intro pins s σ H x y v u Q I rx ry h
 obtain ⟨a,k,xs,rfl,rfl,hx,hne,h1,h2,hz,q⟩:=h
 cases rx
 obtain ⟨t,rfl⟩:=ry
 obtain ⟨its,r,ht,_⟩:=I.tuple hx
 have hl:=r.length
 obtain ⟨⟨cls,dd,data,sl⟩,ho,hc,n,hd⟩:=id ht
 simp only at hc hd
 subst hc hd
 have hemp:its.toArray.isEmpty=false:=by
  cases its with
  | nil=>cases r;exact absurd rfl hne
  | cons _ _=>simp
 refine wpAny_binaryOp_repeat_ref (T:="tuple") (U:="int") (by decide) ⟨_,ho,rfl⟩ (fun s'=>typeIs_int s' k t) zbG F.fills_int_mul F.slot_int_rmul zc0 F.slot_int_index.lookup
  (call_meets F.slot_int_rmul (typeIs_int s k t) F.entry_int_rmul (F.args_int_rmul_2 _ _) (zcd k t a its.toArray n dd sl)
    ⟨ho,rfl,⟨_,ho,rfl⟩,call_meets F.slot_tuple_mul ⟨_,ho,rfl⟩ F.entry_tuple_mul (F.args_tuple_mul_2 _ _) (zi0 k t a its.toArray n dd sl hemp h1 h2 (by rw [qaA, <-hl];exact hz)) ⟨ho,?_⟩⟩)
 have hnew:List.foldl (fun x1 x2=>x1++x2) #[] (List.replicate k.toNat its.toArray)=(List.replicate k.toNat its).flatten.toArray:=by
  have:=zgN its k.toNat []
  rw [List.nil_append] at this
  exact this
 rw [hnew]
 refine ⟨.ref _,_,I.laid (t':=s.toks) (o:= .tup (List.replicate k.toNat xs).flatten) (fun b ob q=>qag _ q) (qaV _) ?_,rfl,q _ (I.hok.fresh (qaV _))⟩
 exact ⟨by rw [zoB,Nat.mul_comm];exact hz,_,r.rep k.toNat,IsTup.new _ _⟩
end
end L2
namespace LT
open PySem PySem.Spec PyProof.Rows
noncomputable abbrev Up (xs:Array Nat):Prop:=xs.toList.Pairwise (· < ·)
theorem Up.lt {xs:Array Nat} (h:Up xs) {i j:Nat} {a b:Nat} (hi:xs[i]? = some a) (hj:xs[j]? = some b) (hij:i<j):a<b:=by
 have hi':xs.toList[i]? = some a:=by simpa using hi
 have hj':xs.toList[j]? = some b:=by simpa using hj
 obtain ⟨h1,e1⟩:=qac.mp hi'
 obtain ⟨h2,e2⟩:=qac.mp hj'
 have:=List.pairwise_iff_getElem.mp h i j h1 h2 hij
 rw [e1,e2] at this
 exact this
theorem zfO {xs:Array Nat} (h:Up xs) (j:Nat): ∀ (fuel lo hi:Nat),hi - lo<=fuel->lo<=hi->hi<=xs.size->(∀ i a,i<lo->xs[i]? = some a->a<j)->(∀ i a,hi<=i->xs[i]? = some a->j<=a)->
  let r:=SetTable.below.go xs j fuel lo hi
  r<=xs.size/\(∀ i a,i<r->xs[i]? = some a->a<j)/\(∀ i a,r<=i->xs[i]? = some a->j<=a)
 | 0,lo,hi,hf,hl,hs,h1,h2=>by
  have e:lo=hi:=by omega
  subst e
  exact ⟨hs,h1,h2⟩
 | fuel+1,lo,hi,hf,hl,hs,h1,h2=>by
  unfold SetTable.below.go
  by_cases hlt:lo<hi
  ·rw [qa4 hlt]
   have hm:(lo+hi) / 2<xs.size:=by omega
   have em:xs[(lo+hi) / 2]? = some xs[(lo+hi) / 2]:=by simp [hm]
   have eg:xs.getD ((lo+hi) / 2) j=xs[(lo+hi) / 2]:=by simp [Array.getD,hm]
   dsimp only
   by_cases hc:xs.getD ((lo+hi) / 2) j<j
   ·rw [qa4 hc]
    refine zfO h j fuel _ hi (by omega) (by omega) hs (fun i a hi' e=> ?_) h2
    rw [eg] at hc
    by_cases z:i=(lo+hi) / 2
    ·subst z;rw [em] at e;cases e;exact hc
    ·exact Nat.lt_trans (h.lt e em (by omega)) hc
   ·rw [qa5 hc]
    refine zfO h j fuel lo _ (by omega) (by omega) (by omega) h1 fun i a hi' e=> ?_
    rw [eg] at hc
    by_cases z:i=(lo+hi) / 2
    ·subst z;rw [em] at e;cases e;omega
    ·have:=h.lt em e (by omega)
     omega
  ·rw [qa5 hlt]
   have e:lo=hi:=by omega
   subst e
   exact ⟨hs,h1,h2⟩
theorem zfg {xs:Array Nat} (h:Up xs) (j:Nat):SetTable.below xs j<=xs.size/\(∀ i a,i<SetTable.below xs j->xs[i]? = some a->a<j)/\(∀ i a,SetTable.below xs j<=i->xs[i]? = some a->j<=a):=
 zfO h j xs.size 0 xs.size (by omega) (Nat.zero_le _) (qaV _) (fun _ _ z=>absurd z (Nat.not_lt_zero _)) fun i a z e=>by
  have:=(qab.mp e).1
  omega
theorem ze9 {xs:Array Nat} (h:Up xs) {k a:Nat} (e:xs[k]? = some a):SetTable.below xs (a+1)=k+1:=by
 obtain ⟨h1,h2,h3⟩:=zfg h (a+1)
 by_cases c:SetTable.below xs (a+1)<=k
 ·have:=h3 k a c e
  omega
 ·by_cases c2:k+1<SetTable.below xs (a+1)
  ·have hl:k+1<xs.size:=by omega
   have e2:xs[k+1]? = some xs[k+1]:=by simp [hl]
   have a1:=h2 (k+1) _ c2 e2
   have a2:=h.lt e e2 (by omega)
   omega
  ·omega
theorem ze7 {xs:Array Nat} (h:Up xs):SetTable.below xs 0=0:=by
 obtain ⟨h1,h2,h3⟩:=zfg h 0
 by_cases c:SetTable.below xs 0=0
 ·exact c
 ·have hl:0<xs.size:=by omega
  exact absurd (h2 0 _ (by omega) (show xs[0]? = some xs[0] by simp [hl])) (Nat.not_lt_zero _)
theorem zjF {xs:Array Nat} (h:Up xs) {j:Nat} (hn:xs[SetTable.below xs j]? ≠ some j):Up (SetTable.insertAt xs (SetTable.below xs j) j):=by
 obtain ⟨h1,h2,h3⟩:=zfg h j
 show (SetTable.insertAt xs (SetTable.below xs j) j).toList.Pairwise (· < ·)
 rw [SetTable.toList_insertAt]
 rw [qaq]
 have hsplit:xs.toList.take (SetTable.below xs j)++xs.toList.drop (SetTable.below xs j)=xs.toList:=List.take_append_drop ..
 have hp:(xs.toList.take (SetTable.below xs j)++xs.toList.drop (SetTable.below xs j)).Pairwise (· < ·):=by rw [hsplit];exact h
 obtain ⟨p1,p2,p3⟩:=qaq.mp hp
 have tk: ∀ a∈xs.toList.take (SetTable.below xs j),a<j:=fun a ha=>by
  obtain ⟨i,hi⟩:=List.mem_iff_getElem?.mp ha
  rw [List.getElem?_take] at hi
  split at hi
  ·rename_i hlt
   exact h2 i a hlt (by simpa using hi)
  ·cases hi
 have dr: ∀ a∈xs.toList.drop (SetTable.below xs j),j<a:=fun a ha=>by
  obtain ⟨i,hi⟩:=List.mem_iff_getElem?.mp ha
  rw [List.getElem?_drop] at hi
  have hi':xs[SetTable.below xs j+i]? = some a:=by simpa using hi
  have a1:=h3 _ a (by omega) hi'
  rcases Nat.lt_or_eq_of_le a1 with z | z
  ·exact z
  ·subst z
   exfalso
   cases i with
   | zero=>exact hn hi'
   | succ i=>
    have hl:=(qab.mp hi').1
    have e0:xs[SetTable.below xs j]? = some xs[SetTable.below xs j]:=by
     have:SetTable.below xs j<xs.size:=by omega
     simp [this]
    have b1:=h3 _ _ (qaV _) e0
    have b2:=h.lt e0 hi' (by omega)
    omega
 refine ⟨p1,qay.mpr ⟨dr,p2⟩,fun a ha b hb=> ?_⟩
 rcases qaP.mp hb with z | z
 ·rw [z];exact tk a ha
 ·exact p3 a ha b z
structure zg3 (t:SetTable) (led:Bool):Prop where
 up:Up t.place
 nod:t.dummies= #[]
 led:t.led=led
theorem zhV {j:Nat}:SetTable.has #[] j=false:=by
 unfold SetTable.has
 simp
theorem zj5 {t:SetTable} {led:Bool} (g:zg3 t led) {j:Nat} (h:t.slot j= .empty):t.place[SetTable.below t.place j]? ≠ some j:=fun e=>by
 unfold SetTable.slot at h
 dsimp only at h
 rw [e] at h
 simp at h
theorem zhw {t:SetTable} {led:Bool} (g:zg3 t led) (f:Nat->Int) (h:Int): ∀ (fuel:Nat) (p:SetTable.Probe) (j:Nat) (d:Option Nat),p.dummy=none->SetTable.probe.go t f h fuel p=some (.empty j d)->t.slot j= .empty/\d=none
 | 0,_,_,_,_,e=>by cases e
 | fuel+1,p,j,d,hp,e=>by
  unfold SetTable.probe.go at e
  have adv: ∀ q:SetTable.Probe,q.dummy=none->(t.advance q).dummy=none:=fun q hq=>by
   unfold SetTable.advance
   split<;>exact hq
  split at e
  ·rename_i hs
   cases e
   exact ⟨hs,hp⟩
  ·rename_i hs
   exfalso
   unfold SetTable.slot at hs
   dsimp only at hs
   rw [g.nod,zhV] at hs
   split at hs<;>simp at hs
  ·split at e
   ·cases e
   ·exact zhw g f h fuel _ j d (adv p hp) e
theorem zfL {t:SetTable} {led:Bool} (g:zg3 t led) {h:Int} {j:Nat} {b:Bool} (e:t.freeSlot h=some (j,b)):t.place[SetTable.below t.place j]? ≠ some j:=by
 unfold SetTable.freeSlot at e
 split at e
 ·rename_i j' d' hpr
  obtain ⟨h1,h2⟩:=zhw g _ _ _ _ _ _ rfl hpr
  subst h2
  cases e
  exact zj5 g h1
 ·cases e
theorem zkT (n:Nat):Up (Array.range n):=by
 show (Array.range n).toList.Pairwise (· < ·)
 rw [Array.toList_range]
 exact List.pairwise_lt_range
theorem zb6 {t:SetTable} {led:Bool} (g:zg3 t led) (n:Nat):zg3 (t.standIn n) led:=⟨zkT n,rfl,g.led⟩
theorem zg4 {t:SetTable} {led:Bool} (g:zg3 t led) (es:Array (Int×Value)) (h:Int) (x:Value):zg3 (layNew t es h x).2.1 led:=by
 unfold layNew
 split
 ·rename_i slot wasDummy e
  have g2:zg3 (t.put slot).1 led:=by
   refine ⟨zjF g.up (zfL g e),?_,g.led⟩
   show (if SetTable.has t.dummies slot then _ else t.dummies)= #[]
   rw [g.nod,zhV]
   rfl
  show zg3 ((t.put slot).1.orStandIn _) led
  unfold SetTable.orStandIn
  split
  ·exact g2
  ·exact zb6 g2 _
 ·exact zb6 g _
theorem zkj {mask finger moves:Nat} {led plain:Bool} {hs:Array Int} {t:SetTable} {o:Array Nat} (e:SetTable.laid mask finger moves led plain hs=some (t,o)):zg3 t led:=by
 unfold SetTable.laid at e
 cases z:SetTable.layClean mask hs with
 | none=>rw [z] at e;cases e
 | some owner=>
  rw [z] at e
  have e:some (({mask,place:=(((List.range (mask+1)).filterMap fun j=>(owner.getD j none).map (j, ·)).map (·.1)).toArray,dummies:= #[],finger,led,moves,plain}:SetTable),_)=some (t,o):=e
  cases e
  refine ⟨?_,rfl,rfl⟩
  show (((List.range (mask+1)).filterMap fun j=>(owner.getD j none).map (j, ·)).map (·.1)).toArray.toList.Pairwise (· < ·)
  rw [List.toList_toArray,List.map_filterMap]
  have sub:List.Sublist ((List.range (mask+1)).filterMap fun j=>((owner.getD j none).map (j, ·)).map (·.1)) (List.range (mask+1)):=by
   generalize List.range (mask+1)=l
   induction l with
   | nil=>exact .slnil
   | cons a r ih=>
    rw [qat]
    cases q:owner.getD a none with
    | none=>exact ih.cons a
    | some v=>exact ih.cons₂ a
  exact List.pairwise_lt_range.sublist sub
theorem zfJ {t:SetTable} {led:Bool} (g:zg3 t led) (es:Array (Int×Value)) (wanted:Nat):zg3 (relayAll t es wanted).2.1 led:=by
 unfold relayAll
 split
 ·rename_i t' order e
  have g2:zg3 t' t.led:=zkj e
  rw [g.led] at g2
  dsimp only
  split
  ·exact g2
  ·exact zb6 g _
 ·exact zb6 g _
noncomputable def zcC (w:World):Bool:= !w.params.followText "set-order"
def zfS (prog:Program) (w:World) (h:Heap) (a:Addr) (S:Int->Bool) (n:Nat):Prop:=
 ∃ ob es ep tb,(h.get? a=some ob/\ob.ExactSet/\ob.data= .set es ep tb)/\ElemsOf (intKind prog w) es.toList/\(∀ k,S k=true↔ ∃ e∈es.toList,(intKind prog w).is k e.2=true)/\
  (es.size<scanBound/\tb.fits es.size=true/\es.size=n)/\zg3 tb (zcC w)
theorem zfS.move {prog:Program} {w:World} {h h':Heap} {a:Addr} {S S':Int->Bool} {n n':Nat} (g:zfS prog w h a S n) (k: ∀ ob,h.get? a=some ob->h'.get? a=some ob) (e: ∀ k,S k=S' k) (en:n=n'):zfS prog w h' a S' n':=by
 obtain ⟨ob,es,ep,tb,⟨h1,h2,h3⟩,h4,h5,⟨h6,h7,h8⟩,h9⟩:=g
 exact ⟨ob,es,ep,tb,⟨k ob h1,h2,h3⟩,h4,fun z=>by rw [<- e z];exact h5 z,⟨h6,h7,h8.trans en⟩,h9⟩
section
variable {prog:Program} {w:World} {A:Around} {E:Value->Shared->Prop} {s:Shared}
theorem stored {a:Addr} {ob:Obj} {es es':Array (Int×Value)} {ep:Nat} {tb tb':SetTable} {S:Int->Bool} {R:Unit->Shared->Prop} (ho:s.heap.get? a=some ob) (hx:ob.ExactSet) (hd:ob.data= .set es ep tb)
  (hE:ElemsOf (intKind prog w) es'.toList) (hS: ∀ k,S k=true↔ ∃ e∈es'.toList,(intKind prog w).is k e.2=true) (hb:es'.size<scanBound) (hf:tb'.fits es'.size=true) (hg:zg3 tb' (zcC w))
  (q: ∀ h',Heap.SameBut a s.heap h'->h'.get? a=some {ob with data:= .set es' (ep+1) tb'}->zfS prog w h' a S es'.size->R () {s with heap:=h'}):wpAny (model prog w) A (storeSet a es' tb') R E s:=by
 have put:=putSet_of es' tb' hd
 have at1:(s.heap.update a (Obj.putSet es' tb')).get? a=some {ob with data:= .set es' (ep+1) tb'}:=by
  have z:=qal (Obj.putSet es' tb') ho (by rw [put];rfl)
  rwa [put] at z
 exact wpAny_storeSet_of ho hd (q _ (Heap.SameBut.update ..) at1 ⟨_,es',ep+1,tb',⟨at1,hx,rfl⟩,hE,hS,⟨hb,hf,rfl⟩,hg⟩) (fits_of_scanBound hb)
theorem ztk {a:Addr} {S:Int->Bool} {n:Nat} {k:Int} {t:Tok} {Q:Bool->Shared->Prop} (g:zfS prog w s.heap a S n) (room:n+1<scanBound)
  (q: ∀ h' b,Heap.SameBut a s.heap h'->zfS prog w h' a (fun z=>S z || decide (z=k)) (if S k then n else n+1)->Q b {s with heap:=h'}):
  wpAny (model prog w) A (setAddHashed a (.int k t) ((intKind prog w).hash k)) Q E s:=by
 have kis:(intKind prog w).is k (.int k t)=true:=intKind_is _ _ _ _
 obtain ⟨ob,es,ep,tb,⟨h1,h2,h3⟩,h4,h5,⟨h6,h7,h8⟩,h9⟩:=g
 have scn:(Value.int k t).scannable=true:=rfl
 unfold setAddHashed setAddHashedIn
 refine qaO (qaW (wpAny_setState_of h1 h3 h7 ?_))
 dsimp only
 rw [qa4 (byScan_of scn h6 h4)]
 refine qaW ?_
 unfold setAddByScan
 refine qaW (wpAny_rule (qaW (wpAny_setScan_of kis h1 h3 h7 h4 ?_)))
 cases fi:List.findIdx? (fun e=>(intKind prog w).is k e.2) es.toList with
 | some j=>
  obtain ⟨lj,pj,_⟩:=List.findIdx?_eq_some_iff_getElem.mp fi
  have inS:S k=true:=(h5 k).mpr ⟨_,List.getElem_mem lj,pj⟩
  refine qaX (qaX ?_)
  have z:=q s.heap false (Heap.SameBut.refl ..) ⟨ob,es,ep,tb,⟨h1,h2,h3⟩,h4,fun y=> ?_,⟨h6,h7,by rw [inS];exact h8⟩,h9⟩
  ·exact z
  ·rw [<- h5 y,Bool.or_eq_true,qaD]
   exact ⟨fun c=>c.elim id fun c=>by rw [c];exact inS,.inl⟩
 | none=>
  have noS:S k=false:=by
   rw [<- Bool.not_eq_true,h5 k]
   rintro ⟨e,he,pe⟩
   have:=List.findIdx?_eq_none_iff.mp fi e he
   rw [pe] at this
   cases this
  have L1:=layNew_perm tb es ((intKind prog w).hash k) (.int k t)
  have L2:=layNew_fits tb es ((intKind prog w).hash k) (.int k t)
  have L3:=zg4 h9 es ((intKind prog w).hash k) (.int k t)
  generalize hl:layNew tb es ((intKind prog w).hash k) (.int k t)=ln at L1 L2 L3 ⊢
  obtain ⟨es1,tb1,wd,gv⟩:=ln
  dsimp only at L1 L2 L3 ⊢
  rw [Array.toList_push] at L1
  have E1:ElemsOf (intKind prog w) es1.toList:=(h4.push kis scn).perm L1
  have M1: ∀ y,(S y || decide (y=k))=true↔ ∃ e∈es1.toList,(intKind prog w).is y e.2=true:=mem_push_iff kis h5 L1
  have Z1:es1.size=n+1:=by
   have z:=L1.length_eq
   rw [qav,qas,qas] at z
   rw [z,h8];rfl
  have B1:es1.size<scanBound:=by rw [Z1];exact room
  have quiet: ∀ (b:Bool) (s1:Shared) (R:Unit->Shared->Prop),R () s1->wpAny (model prog w) A (match b with | true=>rule "set.scan.the-table-gave-way" | false=>pure ()) R E s1:=fun b s1 R z=>by
   cases b
   ·exact qaX z
   ·exact wpAny_rule z
  have fin: ∀ (s1:Shared) (h':Heap),s1={s with heap:=h'}->Heap.SameBut a s.heap h'->zfS prog w h' a (fun y=>S y || decide (y=k)) es1.size->Q true s1:=fun s1 h' e1 sb gg=>by
   subst e1
   have z:=q h' true sb
   rw [noS] at z
   exact z (by rw [Z1] at gg;exact gg)
  refine qaW (quiet _ _ _ ?_)
  have tail: ∀ (gw:Bool->Sem Unit),(∀ (b:Bool) (s1:Shared) (R:Unit->Shared->Prop),R () s1->wpAny (model prog w) A (gw b) R E s1)->wpAny (model prog w) A (do
      storeSet a es1 tb1
      if (!wd && tb1.tooFull)=true then do
        gw (relayAll tb1 es1 (SetTable.grown es1.size)).2.2
        storeSet a (relayAll tb1 es1 (SetTable.grown es1.size)).1 (relayAll tb1 es1 (SetTable.grown es1.size)).2.1
        pure (some true)
      else pure (some true)) (fun r s'=>wpAny (model prog w) A (match r with | some b=>pure b | none=>setAddHashedIn a (.int k t) ((intKind prog w).hash k) 99999) Q E s') E s:=by
   intro gw hgw
   refine qaW (stored h1 h2 h3 E1 M1 B1 L2 L3 fun h' sb at1 gg=> ?_)
   by_cases full:(!wd && tb1.tooFull)=true
   ·rw [qa4 full]
    have P2:=relayAll_perm tb1 es1 (SetTable.grown es1.size)
    have F2:=relayAll_fits tb1 es1 (SetTable.grown es1.size)
    have G2:=zfJ L3 es1 (SetTable.grown es1.size)
    generalize relayAll tb1 es1 (SetTable.grown es1.size)=rl at P2 F2 G2 ⊢
    obtain ⟨es2,tb2,gv2⟩:=rl
    dsimp only at P2 F2 G2 ⊢
    have Z2:es2.size=es1.size:=by
     have z:=P2.length_eq
     rwa [qas,qas] at z
    refine qaW (hgw _ _ _ (qaW (stored (s:={s with heap:=h'}) (S:=fun y=>S y || decide (y=k)) at1 h2 rfl (E1.perm P2) (fun y=>(M1 y).trans ?_) (by rw [Z2];exact B1) F2 G2 fun h'' sb2 _ gg2=> ?_)))
    ·exact ⟨fun ⟨e,he,pe⟩=>⟨e,P2.mem_iff.mpr he,pe⟩,fun ⟨e,he,pe⟩=>⟨e,P2.mem_iff.mp he,pe⟩⟩
    ·exact qaX (qaX (fin _ h'' rfl (sb.trans sb2) (by rw [Z2] at gg2;exact gg2)))
   ·rw [qa5 full]
    exact qaX (qaX (fin _ h' rfl sb gg))
  split
  ·rw [hashByValue_scannable 8 scn]
   refine qaW (qaX ?_)
   exact tail _ fun b s1 R z=>by cases b<;>first | exact qaX z | exact wpAny_rule z
  ·refine qaW (qaX ?_)
   exact tail _ fun b s1 R z=>by cases b<;>first | exact qaX z | exact wpAny_rule z
end
section
variable {prog:Program} {w:World} {A:Around} {R:Result->Shared->Prop} {it:Addr} {fp wr:List Addr} {G:Array GenState->Array GenState->Prop} {n:Nat} {P:Nat->Value->Prop} {St:Nat->Shared->Prop}
theorem zsT (W:WalksS prog w A.in1 it fp wr G n P St) (a:Addr) (ha:a∉fp) (val:Nat->Int) (hval: ∀ i v,P i v-> ∃ t,v= .int (val i) t) (room:n+1<scanBound):
  ∀ (left i:Nat) (s:Shared),n - i=left->i<=n->St i s->zfS prog w s.heap a (fun z=>(firstMet val i).any (· == z)) (firstMet val i).length->
   (∀ s',Moved (a::wr) G s s'->zfS prog w s'.heap a (fun z=>(firstMet val n).any (· == z)) (firstMet val n).length->R (.ok (.ret .none)) s')->
   codeAny (model prog w) A (.builtin "set.update.loop" ⟨[.ref a,.ref it],[]⟩) R s:=by
 have awr:a∉wr:=fun z=>ha (W.sub _ z)
 have more: ∀ b∈wr,b∈a::wr:=fun b z=> .tail _ z
 intro left
 induction left with
 | zero=>
  intro i s hleft hin st g q
  obtain rfl:i=n:=by omega
  refine codeAny_builtin F.entry_set_update_loop ?_
  rw [qap F.plain_set_update_loop _]
  show wpAny _ _ (pyNext (.ref it)>>=_) _ _ _
  refine qaW (W.done s _ _ st fun s' mv=> ?_)
  exact qaX (q s' (mv.mono more) (g.move (fun ob e=>mv.heap a ob awr e) (fun _=>rfl) rfl))
 | succ left ih=>
  intro i s hleft hin st g q
  have hi:i<n:=by omega
  refine codeAny_builtin F.entry_set_update_loop ?_
  rw [qap F.plain_set_update_loop _]
  show wpAny _ _ (pyNext (.ref it)>>=_) _ _ _
  refine qaW (W.item i s _ _ hi st fun v s1 pv st1 mv=> ?_)
  obtain ⟨t,rfl⟩:=hval i v pv
  have g1:zfS prog w s1.heap a (fun z=>(firstMet val i).any (· == z)) (firstMet val i).length:=g.move (fun ob e=>mv.heap a ob awr e) (fun _=>rfl) rfl
  show wpAny _ _ (holding [Value.int (val i) t] (setAdd a (.int (val i) t))>>=_) _ _ _
  refine qaW (qaO ?_)
  unfold setAdd
  refine qaO (qaW ((intKind prog w).pyHash (k:=val i) (intKind_is _ _ _ _) ?_))
  have few:=firstMet_length_le val i
  refine ztk (s:={s1 with toks:=s1.toks+1}) g1 (by omega) fun h2 b sb g2=> ?_
  have g3:zfS prog w h2 a (fun z=>(firstMet val (i+1)).any (· == z)) (firstMet val (i+1)).length:=
   g2.move (fun _ e=>e) (fun z=>by rw [firstMet_succ,step_any]) (by rw [firstMet_succ,step_length])
  have off: ∀ b,b≠a->h2.get? b=s1.heap.get? b:=fun b hb=>sb.2 b hb
  refine qaX ⟨plainId_quiet F.plain_set_update_loop _,ih (i+1) _ (by omega) hi (W.frame _ s1 _ _ st1 (Nat.le_succ _) fun b hb ob e=> ?_) g3 fun s3 mv3 g4=> ?_⟩
  ·rw [off b fun z=>ha (z▸hb)]
   exact e
  ·refine q s3 (.trans W.gtrans ((mv.mono more).then_heap (Nat.le_succ _) fun b ob hb e=> ?_) mv3) g4
   rw [off b fun z=>hb (z▸ .head _)]
   exact e
end
section
variable {prog:Program} {w:World} {A:Around} {E:Value->Shared->Prop} {s:Shared}
theorem zmf (h:Heap):zfS prog w (h.push {cls:= .type "set",dict:=none,data:= .set #[] 0 (.fresh 0 0 (zcC w))}) h.objs.size (fun _=>false) 0:=
 ⟨_, #[],0,_,⟨qar _ rfl,⟨rfl,rfl,rfl⟩,rfl⟩,fun e he=>by simp at he,fun k=>by simp,⟨by decide,rfl,rfl⟩,⟨List.Pairwise.nil,rfl,rfl⟩⟩
theorem ztv (x:Value) {Q:Value->Shared->Prop} (q:Q (.ref s.heap.objs.size) {s with heap:=s.heap.push {cls:= .type "set",dict:=none,data:= .set #[] 0 (.fresh 0 0 (zcC w))}}):
  codeAny (model prog w) A (.call (.builtin "set.__new__") ⟨[.type "set",x],[]⟩) (wants Q E) s:=by
 refine codeAny_of_tree ?_
 show wpAny _ _ (do checkBuiltinCall "set.__new__" ⟨[.type "set",x],[]⟩;again (.builtin "set.__new__" ⟨[.type "set",x],[]⟩)) _ _ _
 refine qaW (wpAny_of_eq (F.newCall_set_1 x) (qaX ⟨plainId_quiet F.plain_set_new _,codeAny_builtin F.entry_set_new ?_⟩))
 rw [qap F.plain_set_new _]
 unfold Builtin.«set.__new__» Builtin.Frozenset.newClass
 have self:=sub_set_self
 obtain ⟨hp,gs,dr,tk,os⟩:=s
 dsimp only
 wp_walk
 refine wpAny_askSetting (qaX ?_)
 dsimp only
 simp only [newObj]
 exact qaW (wpAny_alloc (qaX (qaX q)))
theorem zs4 {l:Addr} {T:String} {items:Array Value} {ns:List Int} {Q:Value->Shared->Prop} (hh:A.handled=none) (hT:(T="list"/\s.heap.IsList l items)\/(T="tuple"/\s.heap.IsTuple l items)) (hi:IntsAre items.toList ns) (room:items.size+1<scanBound)
  (q: ∀ (h':Heap) (tk:Nat),zfS prog w h' s.heap.objs.size (fun z=>(firstMet (fun i=>ns.getD i 0) items.size).any (· == z)) (firstMet (fun i=>ns.getD i 0) items.size).length->(∀ b ob,s.heap.get? b=some ob->h'.get? b=some ob)->
    Q (.ref s.heap.objs.size) {s with heap:=h',toks:=tk}):wpAny (model prog w) A (call (.type "set") [.ref l]) Q E s:=by
 obtain ⟨c,tl,hmro⟩:=F.called_set.mro
 have hmade:=F.called_set.made
 have hsub:=F.called_set.sub
 refine wpAny_call (codeAny_of_tree ?_)
 show wpAny _ _ (callAny (.type "set") _) _ _ _
 refine qaX ⟨Code.quiet_builtin _ (by decide +kernel),codeAny_builtin F.entry_type_call ?_⟩
 rw [Around.under_plain (weight_type_call_type "set" [.ref l] []) rfl]
 have hnt:=F.called_set.notType
 have hcc:=F.called_set.canCreate
 have htc:=F.typeCall_set_1 (.ref l)
 repeat' (first | assumption | wp_step)
 refine codeAny_mono (ztv (.ref l) (E:=E) (Q:=fun v s1=>v= .ref s.heap.objs.size/\s1={s with heap:=s.heap.push {cls:= .type "set",dict:=none,data:= .set #[] 0 (.fresh 0 0 (zcC w))}}) ⟨rfl,rfl⟩) fun r s1 hr=> ?_
 cases r with
 | error e=>exact hr
 | ok fl=>
  cases fl with
  | ret v=>
   obtain ⟨rfl,rfl⟩:=hr
   have laid:(s.heap.push {cls:= .type "set",dict:=none,data:= .set #[] 0 (.fresh 0 0 (zcC w))}).get? s.heap.objs.size=some {cls:= .type "set",dict:=none,data:= .set #[] 0 (.fresh 0 0 (zcC w))}:=qar _ rfl
   have isSet:Shared.TypeIs {s with heap:=s.heap.push {cls:= .type "set",dict:=none,data:= .set #[] 0 (.fresh 0 0 (zcC w))}} (.ref s.heap.objs.size) "set":=⟨_,laid,rfl⟩
   have hli:=F.called_set.init.lookup
   have hbi:=F.called_set.init.bind (.ref s.heap.objs.size)
   repeat' (first | assumption | wp_step)
   refine codeAny_mono (codeAny_call_builtin (R:=wants (fun z s2=>z= .none/\ ∃ h' tk,s2={s with heap:=h',toks:=tk}/\
       zfS prog w h' s.heap.objs.size (fun z=>(firstMet (fun i=>ns.getD i 0) items.size).any (· == z)) (firstMet (fun i=>ns.getD i 0) items.size).length/\(∀ b ob,s.heap.get? b=some ob->h'.get? b=some ob)) E) F.called_set.init.plain F.entry_set_init (check_set_init_1 isSet ?_)) fun r2 s2 hr2=> ?_
   ·have keepL: ∀ ob,s.heap.get? l=some ob->(s.heap.push {cls:= .type "set",dict:=none,data:= .set #[] 0 (.fresh 0 0 (zcC w))}).get? l=some ob:=fun ob e=>qag _ e
    have hval: ∀ (i:Nat) (v:Value),items[i]? = some v-> ∃ t,v= .int ((fun i=>ns.getD i 0) i) t:=fun i v hv=>IntsAre.int_at hi i v (by rw [Array.getElem?_toList];exact hv)
    have hh3:A.in1.in1.in1.handled=none:=by simp [hh]
    have done1: ∀ (l0:Addr) (h0:Heap) (s':Shared),l0=s.heap.objs.size->Moved [l0,(s.heap.push {cls:= .type "set",dict:=none,data:= .set #[] 0 (.fresh 0 0 (zcC w))}).objs.size] (fun a b=>b=a) {s with heap:=h0} s'->(∀ b ob,s.heap.get? b=some ob->h0.get? b=some ob)->
      (∀ b ob,s.heap.get? b=some ob->s'.heap.get? b=some ob)/\s'={s with heap:=s'.heap,toks:=s'.toks}:=fun l0 h0 s' e0 mv k0=>by
     refine ⟨fun b ob e=>mv.heap b ob (fun z=> ?_) (k0 b ob e),?_⟩
     ·have lt:=qaQ e
      rw [qaL,e0] at z
      simp only [qaP,qaF,or_false] at z
      rcases z with z | z
      ·exact qaN _ (z▸lt)
      ·exact qaN _ (Nat.lt_of_succ_lt (z▸lt))
     ·obtain ⟨h',g',d',tk',os'⟩:=s'
      have eg:g'=s.gens:=mv.gens
      have ed:d'=s.drawn:=mv.drawn
      have eo:os'=s.os:=mv.os
      subst eg ed eo
      rfl
    unfold Builtin.«set.__init__» noKeywords Builtin.Frozenset.updateFrom
    generalize hPI:pyIter=PI
    rcases hT with ⟨rfl,hl⟩ | ⟨rfl,hl⟩
    ·obtain ⟨⟨ocl,odi,oda,osl⟩,hol,hcl,nl,hdl⟩:=hl
     simp only at hcl hdl
     subst hcl hdl
     have hol':=keepL _ hol
     have f1:=F.sub_list_set
     have f2:=F.sub_list_frozenset
     have f3:(Value.type "list"==Value.type "dict")=false:=by decide
     wp_walk
     subst hPI
     have hl1:(s.heap.push {cls:= .type "set",dict:=none,data:= .set #[] 0 (.fresh 0 0 (zcC w))}).IsList l items:=⟨_,hol',rfl,nl,rfl⟩
     refine wpAny_pyIter_list hl1 ?_
     refine qaW (wpAny_runValue ?_)
     have ltl:l<s.heap.objs.size:=qaQ hol
     have szp:(s.heap.push {cls:= .type "set",dict:=none,data:= .set #[] 0 (.fresh 0 0 (zcC w))}).objs.size=s.heap.objs.size+1:=qaL ..
     have ne1:l≠(s.heap.push {cls:= .type "set",dict:=none,data:= .set #[] 0 (.fresh 0 0 (zcC w))}).objs.size:=by rw [szp];exact qaR (Nat.lt_succ_of_lt ltl)
     have ne2:s.heap.objs.size∉[(s.heap.push {cls:= .type "set",dict:=none,data:= .set #[] 0 (.fresh 0 0 (zcC w))}).objs.size,l]:=by
      rw [szp]
      simp only [qaP,qaF,or_false]
      rintro (z | z)
      ·exact Nat.succ_ne_self _ z.symm
      ·exact qaN _ (z▸ltl)
     refine zsT ((Walks.list hh3 _ l ne1 items).toS) s.heap.objs.size ne2 (fun i=>ns.getD i 0) hval room _ 0 _ rfl (Nat.zero_le _) ⟨⟨_,qar _ rfl,rfl,rfl⟩,hl1.push _⟩ ?g0 fun s' mv gg=> ?_
     case g0=>exact (zmf s.heap).move (fun ob e=>qag _ e) (fun _=>rfl) rfl
     obtain ⟨k1,k2⟩:=done1 _ _ s' rfl mv fun b ob e=>qag _ (qag _ e)
     exact qaX (qaX ⟨rfl,s'.heap,s'.toks,k2,gg,k1⟩)
    ·obtain ⟨⟨ocl,odi,oda,osl⟩,hol,hcl,nl,hdl⟩:=hl
     simp only at hcl hdl
     subst hcl hdl
     have hol':=keepL _ hol
     have f1:=F.sub_tuple_set
     have f2:=F.sub_tuple_frozenset
     have f3:(Value.type "tuple"==Value.type "dict")=false:=by decide
     wp_walk
     subst hPI
     have hl1:(s.heap.push {cls:= .type "set",dict:=none,data:= .set #[] 0 (.fresh 0 0 (zcC w))}).IsTuple l items:=⟨_,hol',rfl,nl,rfl⟩
     refine wpAny_pyIter_tuple hl1 ?_
     refine qaW (wpAny_runValue ?_)
     have ltl:l<s.heap.objs.size:=qaQ hol
     have szp:(s.heap.push {cls:= .type "set",dict:=none,data:= .set #[] 0 (.fresh 0 0 (zcC w))}).objs.size=s.heap.objs.size+1:=qaL ..
     have ne1:l≠(s.heap.push {cls:= .type "set",dict:=none,data:= .set #[] 0 (.fresh 0 0 (zcC w))}).objs.size:=by rw [szp];exact qaR (Nat.lt_succ_of_lt ltl)
     have ne2:s.heap.objs.size∉[(s.heap.push {cls:= .type "set",dict:=none,data:= .set #[] 0 (.fresh 0 0 (zcC w))}).objs.size,l]:=by
      rw [szp]
      simp only [qaP,qaF,or_false]
      rintro (z | z)
      ·exact Nat.succ_ne_self _ z.symm
      ·exact qaN _ (z▸ltl)
     refine zsT ((Walks.tuple hh3 _ l ne1 items).toS) s.heap.objs.size ne2 (fun i=>ns.getD i 0) hval room _ 0 _ rfl (Nat.zero_le _) ⟨⟨_,qar _ rfl,rfl,rfl⟩,⟨_,qag _ hol',rfl,nl,rfl⟩⟩ ?g0 fun s' mv gg=> ?_
     case g0=>exact (zmf s.heap).move (fun ob e=>qag _ e) (fun _=>rfl) rfl
     obtain ⟨k1,k2⟩:=done1 _ _ s' rfl mv fun b ob e=>qag _ (qag _ e)
     exact qaX (qaX ⟨rfl,s'.heap,s'.toks,k2,gg,k1⟩)
   ·cases r2 with
    | error e=>exact hr2
    | ok fl2=>
     cases fl2 with
     | ret z=>
      obtain ⟨rfl,h',tk,rfl,gg,k1⟩:=hr2
      repeat' (first | assumption | wp_step)
      exact q _ _ gg k1
     | _=>exact hr2.elim
  | _=>exact hr.elim
end
theorem zaN:Slot "set_iterator" "__next__" "set_iterator.__next__":= .of (owner:="set_iterator") (n:="__next__") (by rw [typeLookup_type,builtinLookup_eq_fast];kernel_rfl) (by decide +kernel) (by decide +kernel) (by decide +kernel) (by first | exact .inl (by decide +kernel) | exact .inr (by decide +kernel)) (by rw [isSubtype_type];kernel_rfl)
theorem zdE:Slot "set_iterator" "__iter__" "set_iterator.__iter__":= .of (owner:="set_iterator") (n:="__iter__") (by rw [typeLookup_type,builtinLookup_eq_fast];kernel_rfl) (by decide +kernel) (by decide +kernel) (by decide +kernel) (by first | exact .inl (by decide +kernel) | exact .inr (by decide +kernel)) (by rw [isSubtype_type];kernel_rfl)
theorem zcc:entryFor table "set_iterator.__next__"=some Builtin.«set_iterator.__next__» := entryFor_of_tree (by kernel_rfl)
theorem zeS:entryFor table "set_iterator.__iter__"=some Builtin.«dict_keyiterator.__iter__» := entryFor_alias (id':="dict_keyiterator.__iter__") (by kernel_rfl) rfl (by decide +kernel) (by kernel_rfl)
theorem zcD (a:Value):argsOk "set_iterator.__next__" ⟨[a],[]⟩:=by unfold argsOk;kernel_rfl
theorem zfh (a:Value):argsOk "set_iterator.__iter__" ⟨[a],[]⟩:=by unfold argsOk;kernel_rfl
theorem ze1:entryFor table "set.__iter__"=some Builtin.«frozenset.__iter__» := entryFor_alias (id':="frozenset.__iter__") (by kernel_rfl) rfl (by decide +kernel) (by kernel_rfl)
def SIt (h:Heap) (it a:Addr) (first:Value) (i n ep:Nat):Prop:=h.get? it=some {cls:= .type "set_iterator",dict:=none,data:= .fields #[first,.int i 0,.ref a,.int n 0,.int ep 0],slots:= #[]}
structure zh7 (h:Heap) (a:Addr) (es:Array (Int×Value)) (ep:Nat) (tb:SetTable):Prop where
 at_: ∃ ob,h.get? a=some ob/\ob.ExactSet/\ob.data= .set es ep tb
 fits:tb.fits es.size=true
section
variable {prog:Program} {w:World} {A:Around} {E:Value->Shared->Prop} {s:Shared}
theorem zkH {it a:Addr} {first:Value} {i n ep:Nat} {es:Array (Int×Value)} {tb:SetTable} {Q:Option Value->Shared->Prop} (hI:SIt s.heap it a first i n ep) (hS:zh7 s.heap a es ep tb) (hn:es.size=n) (slot:Nat) (hf:first= .int slot 0)
  (q:wpAny (model prog w) A.in1 (do
    match<-setNext a slot i ep with
    | some (x,next)=>
      setField (.ref it) 0 (rawInt next)
      setField (.ref it) 1 (rawInt ((i:Int)+1))
      ret x
    | none=>setField (.ref it) 2 .none;raiseNew (<- newExc (.type "StopIteration") [])) (fun f s'=> ∃ v,f= .done (.ret v)/\Q (some v) s') (fun e s'=>wpAny (model prog w) A (do if<-isInstance e (.type "StopIteration") then pure none else throw e) Q E s') s):
  wpAny (model prog w) A (pyNext (.ref it)) Q E s:=by
 obtain ⟨ob,ho,hx,hd⟩:=hS.at_
 subst hf
 have tI:s.TypeIs (.ref it) "set_iterator":=⟨_,hI,rfl⟩
 unfold pyNext
 refine qaW (wpAny_attempt (wpAny_callSpecial?_slot (name:=Str.ofString "__next__") tI zaN (wpAny_call_entry zaN tI zcc ?_ (zcD _))))
 unfold Builtin.«set_iterator.__next__»
 refine qaW (m:=slotArgs "__next__" 0 _) (qaX ?_)
 refine qaW (m:=fieldsOf (.ref it)) ?_
 unfold fieldsOf
 refine qaW (wpAny_load hI (qaX ?_))
 refine qaW (wpAny_setEntries_of ho hd hS.fits ?_)
 have same: ¬(((es.size:Nat):Int) != (n:Int))=true:=by rw [hn];simp
 rw [qa5 same]
 exact qaZ q (fun f s' ⟨v,e,z⟩=>⟨v,e,qaX z⟩) fun e s' z=>z
theorem zjT {it:Addr} {r:Shared->Prop} {Q:Option Value->Shared->Prop} (hh:A.handled=none) (q: ∀ h',(∀ b ob,s.heap.get? b=some ob->h'.get? b=some ob)->Q none {s with heap:=h'}):
  wpAny (model prog w) A.in1 (do raiseNew (<- newExc (.type "StopIteration") []):Sem PySem.Fin) (fun f s'=> ∃ v,f= .done (.ret v)/\Q (some v) s') (fun e s'=>wpAny (model prog w) A (do if<-isInstance e (.type "StopIteration") then pure none else throw e) Q E s') s:=by
 refine qaW ?_
 simp only [newExc,newTuple]
 refine qaW (qaC ?_ (by size_fits))
 refine qaW (m:=firstArgMember _ _) (wpAny_of_eq (a:=Value.none) (by first | rfl | (simp only [firstArgMember];rfl)) ?_)
 refine qaC ?_ (by size_fits)
 simp only [raiseNew]
 refine qaW (wpAny_handled ?_)
 rw [show A.in1.handled=none from hh]
 refine qaW (qaX (wpAny_throw ?_))
 refine qaW (wpAny_isInstance (T:="StopIteration") (b:=true) ⟨_,qar _ rfl,rfl⟩ isSubtype_stop ?_)
 exact qaX (q _ fun b ob e=>qag _ (qag _ e))
theorem SIt.set {h h':Heap} {it a:Addr} {first:Value} {i n ep:Nat} (x:SIt h it a first i n ep):it<h.objs.size:=qaQ x
theorem ze6 {es:Array (Int×Value)} {tb:SetTable} (hf:tb.fits es.size=true):tb.place.size=es.size:=by
 unfold SetTable.fits at hf
 simp only [qaG,beq_iff_eq] at hf
 exact hf.1
theorem zds {a:Addr} {ep i slot:Nat} {es:Array (Int×Value)} {tb:SetTable} {R:Option (Value×Nat)->Shared->Prop} (hS:zh7 s.heap a es ep tb) (led:tb.led=true) (bt:w.params.followText "set-order"=false) (pl:(!tb.plain && decide (es.size>1))=false)
  (q:R (match es[SetTable.below tb.place slot]?, tb.place[SetTable.below tb.place slot]? with | some (_,x),some j=>some (x,j+1) | _,_=>none) s):wpAny (model prog w) A (setNext a slot i ep) R E s:=by
 obtain ⟨ob,ho,hx,hd⟩:=hS.at_
 unfold setNext
 refine qaW (wpAny_setState_of ho hd hS.fits ?_)
 dsimp only
 unfold setsByText
 refine qaW (qaW (wpAny_askSetting (qaX ?_)))
 dsimp only
 rw [show (model prog w).w.params.followText "set-order"=false from bt]
 simp only [qax,if_false]
 show wpAny _ _ (if (!tb.plain && decide (es.size>1))=true then _ else _) _ _ _
 rw [qa5 (by rw [pl];exact Bool.false_ne_true)]
 refine qaW ?_
 show wpAny _ _ (if (!tb.led && !es.isEmpty)=true then _ else _) _ _ _
 rw [qa5 (by rw [led];exact Bool.false_ne_true)]
 exact qaX (qaX q)
theorem zd5 {a:Addr} {ep i slot:Nat} {es:Array (Int×Value)} {tb:SetTable} {R:Option (Value×Nat)->Shared->Prop} (hS:zh7 s.heap a es ep tb) (bt:w.params.followText "set-order"=true)
  (q:R (((pickOrder (w.params.setOrder a ep) es)[i]?).map fun e=>(e.2,slot)) s):wpAny (model prog w) A (setNext a slot i ep) R E s:=by
 obtain ⟨ob,ho,hx,hd⟩:=hS.at_
 unfold setNext
 refine qaW (wpAny_setState_of ho hd hS.fits ?_)
 dsimp only
 unfold setsByText
 refine qaW (qaW (wpAny_askSetting (qaX ?_)))
 dsimp only
 rw [show (model prog w).w.params.followText "set-order"=true from bt]
 simp only [if_true]
 rw [qa5 (by simp)]
 refine qaW ?_
 unfold setWalk
 refine qaW (wpAny_setState_of ho hd hS.fits ?_)
 dsimp only
 unfold setsByText
 refine qaW (qaW (wpAny_askSetting (qaX ?_)))
 dsimp only
 rw [show (model prog w).w.params.followText "set-order"=true from bt]
 simp only [if_true]
 refine qaW (wpAny_askSetting (qaX (qaX q)))
theorem zjE {it a:Addr} {n ep i slot nx:Nat} {x:Value} {es:Array (Int×Value)} {tb:SetTable} {Q:Option Value->Shared->Prop} (hI:SIt s.heap it a (.int slot 0) i n ep) (hS:zh7 s.heap a es ep tb) (hn:es.size=n)
  (st: ∀ (R:Option (Value×Nat)->Shared->Prop) (E':Value->Shared->Prop),R (some (x,nx)) s->wpAny (model prog w) A.in1 (setNext a slot i ep) R E' s)
  (q: ∀ h',SIt h' it a (.int nx 0) (i+1) n ep->Heap.SameBut it s.heap h'->Q (some x) {s with heap:=h'}):wpAny (model prog w) A (pyNext (.ref it)) Q E s:=by
 refine zkH hI hS hn slot rfl (qaW (st _ _ ?_))
 dsimp only
 refine qaW (wpAny_setField_rec hI (by simp) fun h1 a1 sb1=> ?_)
 refine qaW (wpAny_setField_rec (s:={s with heap:=h1}) a1 (by simp) fun h2 a2 sb2=> ?_)
 refine qaX ⟨x,rfl,q h2 ?_ (sb1.trans sb2)⟩
 unfold SIt
 rw [a2]
 simp [rawInt]
theorem zmn {it a:Addr} {n ep i slot:Nat} {es:Array (Int×Value)} {tb:SetTable} {Q:Option Value->Shared->Prop} (hh:A.handled=none) (hI:SIt s.heap it a (.int slot 0) i n ep) (hS:zh7 s.heap a es ep tb) (hn:es.size=n)
  (st: ∀ (R:Option (Value×Nat)->Shared->Prop) (E':Value->Shared->Prop),R none s->wpAny (model prog w) A.in1 (setNext a slot i ep) R E' s)
  (q: ∀ h',(∀ b ob,b≠it->s.heap.get? b=some ob->h'.get? b=some ob)->Q none {s with heap:=h'}):wpAny (model prog w) A (pyNext (.ref it)) Q E s:=by
 refine zkH hI hS hn slot rfl (qaW (st _ _ ?_))
 dsimp only
 refine qaW (wpAny_setField_rec hI (by simp) fun h1 a1 sb1=> ?_)
 exact zjT (r:=fun _=>True) (it:=it) (s:={s with heap:=h1}) hh fun h' k=>q h' fun b ob hb e=>k b ob ((sb1.2 b hb).trans e)
end
theorem zc2 {α:Type}: ∀ {l:List α} {i:Nat} {x:α},l[i]? = some x->List.Perm l (x::l.eraseIdx i)
 | [],_,_,e=>by simp at e
 | a::r,0,x,e=>by simp at e;subst e;exact .rfl
 | a::r,i+1,x,e=>by
  have e:r[i]? = some x:=by simpa using e
  exact ((zc2 e).cons a).trans (.swap x a _)
theorem zd4 {α:Type} {l:List α} {i:Nat} {x:α} (e:l[i]? = some x):(l.eraseIdx i).length+1=l.length:=by
 have:=(zc2 e).length_eq
 rw [qaE] at this
 exact this.symm
theorem zgd {α:Type} (nx:Nat->Nat): ∀ (fuel k:Nat) (left:List α) (out:Array α),left.length=fuel->List.Perm (pickOrder.go nx fuel k left out).toList (out.toList++left)
 | 0,k,left,out,h=>by
  have:left=[]:=List.length_eq_zero_iff.mp h
  subst this
  simp [pickOrder.go]
 | fuel+1,k,left,out,h=>by
  unfold pickOrder.go
  have hl:nx k % left.length<left.length:=Nat.mod_lt _ (by omega)
  have e:left[nx k % left.length]? = some left[nx k % left.length]:=by simp [hl]
  rw [e]
  dsimp only
  have hz:=zd4 e
  refine (zgd nx fuel (k+1) _ _ (by omega)).trans ?_
  rw [Array.toList_push,List.append_assoc]
  exact List.Perm.append_left _ (zc2 e).symm
theorem zch {α:Type} (nx:Nat->Nat) (xs:Array α):List.Perm (pickOrder nx xs).toList xs.toList:=by
 have:=zgd nx xs.size 0 xs.toList #[] (by simp)
 simpa [pickOrder] using this
section
variable {prog:Program} {w:World} {A:Around} {E:Value->Shared->Prop} {s:Shared}
theorem zio {src:Source} {n:Nat} {Q:Nat->Shared->Prop} (hn:n≠0) (q: ∀ k d,k<n->Q k {s with drawn:=d}):wpAny (model prog w) A (choose src n) Q E s:=fun Γ p hΓ=>⟨hn,q _ _ (Nat.mod_lt _ (Nat.pos_of_ne_zero hn))⟩
theorem zd9 {α:Type}: ∀ (fuel:Nat) (xs:List α) (s:Shared) (Q:List α->Shared->Prop),xs.length<=fuel->(∀ ys d,List.Perm ys xs->Q ys {s with drawn:=d})->wpAny (model prog w) A (drawOrder fuel xs) Q E s
 | 0,xs,s,Q,h,q=>by
  have:xs=[]:=List.length_eq_zero_iff.mp (by omega)
  subst this
  unfold drawOrder
  exact qaX (q [] s.drawn .rfl)
 | fuel+1,[],s,Q,h,q=>by
  unfold drawOrder
  exact qaX (q [] s.drawn .rfl)
 | fuel+1,x::r,s,Q,h,q=>by
  unfold drawOrder
  refine qaW (zio (by simp) fun k d hk=> ?_)
  have e:(x::r)[k]? = some (x::r)[k]:=by simp [hk]
  rw [e]
  dsimp only
  have hz:=zd4 e
  refine qaW (zd9 fuel ((x::r).eraseIdx k) {s with drawn:=d} _ (by omega) fun ys d' p=>qaX ?_)
  exact q _ d' ((p.cons _).trans (zc2 e).symm)
theorem zif {it a tp:Addr} {n ep i p:Nat} {x:Value} {es:Array (Int×Value)} {tb:SetTable} {ps:Array Value} {Q:Option Value->Shared->Prop} (hI:SIt s.heap it a (.ref tp) i n ep) (hS:zh7 s.heap a es ep tb) (hn:es.size=n)
  (hT:s.heap.get? tp=some {cls:= .type "tuple",data:= .seq ps}) (hp:ps[i]? = some (.int (p:Nat) 0)) (he:(es[p]?).map (·.2)=some x)
  (q: ∀ h',SIt h' it a (.ref tp) (i+1) n ep->Heap.SameBut it s.heap h'->Q (some x) {s with heap:=h'}):wpAny (model prog w) A (pyNext (.ref it)) Q E s:=by
 obtain ⟨ob,ho,hx,hd⟩:=hS.at_
 have tI:s.TypeIs (.ref it) "set_iterator":=⟨_,hI,rfl⟩
 unfold pyNext
 refine qaW (wpAny_attempt (wpAny_callSpecial?_slot (name:=Str.ofString "__next__") tI zaN (wpAny_call_entry zaN tI zcc ?_ (zcD _))))
 unfold Builtin.«set_iterator.__next__»
 refine qaW (m:=slotArgs "__next__" 0 _) (qaX ?_)
 refine qaW (m:=fieldsOf (.ref it)) ?_
 unfold fieldsOf
 refine qaW (wpAny_load hI (qaX ?_))
 refine qaW (wpAny_setEntries_of ho hd hS.fits ?_)
 have same: ¬(((es.size:Nat):Int) != (n:Int))=true:=by rw [hn];simp
 rw [qa5 same]
 refine qaW (m:=seqItems? (.ref tp)) ?_
 unfold seqItems?
 refine qaW (wpAny_load hT (qaX ?_))
 dsimp only
 rw [show ((i:Nat):Int).toNat=i from qaB i,hp]
 dsimp only
 refine qaW (m:=setNextDrawn a _ _) ?_
 unfold setNextDrawn
 refine qaW (wpAny_setState_of ho hd hS.fits ?_)
 dsimp only
 rw [show ((ep:Nat):Int).toNat=ep from qaB ep,show ((p:Nat):Int).toNat=p from qaB p,qa5 (by simp)]
 cases ee:es[p]? with
 | none=>rw [ee] at he;cases he
 | some e=>
  rw [ee] at he
  cases he
  dsimp only
  refine qaX ?_
  refine qaW (wpAny_setField_rec hI (by simp) fun h2 a2 sb2=> ?_)
  refine qaX ⟨_,rfl,qaX (q h2 ?_ sb2)⟩
  unfold SIt
  rw [a2]
  simp [rawInt]
theorem zj8 {it a tp:Addr} {n ep i:Nat} {es:Array (Int×Value)} {tb:SetTable} {ps:Array Value} {Q:Option Value->Shared->Prop} (hh:A.handled=none) (hI:SIt s.heap it a (.ref tp) i n ep) (hS:zh7 s.heap a es ep tb) (hn:es.size=n)
  (hT:s.heap.get? tp=some {cls:= .type "tuple",data:= .seq ps}) (hp:ps[i]? = none)
  (q: ∀ h',(∀ b ob,b≠it->s.heap.get? b=some ob->h'.get? b=some ob)->Q none {s with heap:=h'}):wpAny (model prog w) A (pyNext (.ref it)) Q E s:=by
 obtain ⟨ob,ho,hx,hd⟩:=hS.at_
 have tI:s.TypeIs (.ref it) "set_iterator":=⟨_,hI,rfl⟩
 unfold pyNext
 refine qaW (wpAny_attempt (wpAny_callSpecial?_slot (name:=Str.ofString "__next__") tI zaN (wpAny_call_entry zaN tI zcc ?_ (zcD _))))
 unfold Builtin.«set_iterator.__next__»
 refine qaW (m:=slotArgs "__next__" 0 _) (qaX ?_)
 refine qaW (m:=fieldsOf (.ref it)) ?_
 unfold fieldsOf
 refine qaW (wpAny_load hI (qaX ?_))
 refine qaW (wpAny_setEntries_of ho hd hS.fits ?_)
 have same: ¬(((es.size:Nat):Int) != (n:Int))=true:=by rw [hn];simp
 rw [qa5 same]
 refine qaW (m:=seqItems? (.ref tp)) ?_
 unfold seqItems?
 refine qaW (wpAny_load hT (qaX ?_))
 dsimp only
 rw [show ((i:Nat):Int).toNat=i from qaB i,hp]
 dsimp only
 refine qaW (wpAny_setField_rec hI (by simp) fun h1 a1 sb1=> ?_)
 refine qaW (wpAny_setField_rec (s:={s with heap:=h1}) a1 (by simp) fun h2 a2 sb2=> ?_)
 refine qaZ (zjT (Q:=Q) (E:=E) (r:=fun _=>True) (it:=it) (s:={s with heap:=h2}) hh fun h' k=>q h' fun b ob hb e=>k b ob ((sb2.2 b hb).trans ((sb1.2 b hb).trans e))) (fun f s' ⟨v,e,z⟩=>⟨v,e,qaX z⟩) fun e s' z=>z
theorem zer {it a:Addr} {first:Value} {i n ep:Nat} {Q:Value->Shared->Prop} (hI:SIt s.heap it a first i n ep) (q:Q (.ref it) s):wpAny (model prog w) A (pyIter (.ref it)) Q E s:=by
 have tI:s.TypeIs (.ref it) "set_iterator":=⟨_,hI,rfl⟩
 refine wpAny_pyIter_slot tI zdE (wpAny_call_entry zdE tI zeS ?_ (zfh _))
 show wpAny _ _ (ret (.ref it)) _ _ _
 exact qaX ⟨_,rfl,"set_iterator",_,tI,zaN.lookup,q⟩
theorem zh7.keep {h h':Heap} {a:Addr} {es:Array (Int×Value)} {ep:Nat} {tb:SetTable} (x:zh7 h a es ep tb) (k: ∀ ob,h.get? a=some ob->h'.get? a=some ob):zh7 h' a es ep tb:=
 ⟨let ⟨ob,h1,h2⟩:=x.at_;⟨ob,k ob h1,h2⟩,x.fits⟩
noncomputable def zf4 (tb:SetTable):Nat->Nat
 | 0=>0
 | i+1=>tb.place.getD i 0+1
theorem ziz (hh:A.handled=none) {it a:Addr} {ep:Nat} {es:Array (Int×Value)} {tb:SetTable} (hne:a≠it) (up:Up tb.place) (led:tb.led=true) (bt:w.params.followText "set-order"=false) (pl:(!tb.plain && decide (es.size>1))=false) (hf:tb.fits es.size=true):
  Walks prog w A it [it,a] [it] es.size (fun i v=> ∃ e,es.toList[i]? = some e/\v=e.2) (fun i h=>SIt h it a (.int (zf4 tb i:Nat) 0) i es.size ep/\zh7 h a es ep tb) where
 sub:=fun b hb=>by simp at hb;simp [hb]
 frame:=fun i h h' st k=>⟨k it (by simp) _ st.1,st.2.keep fun ob e=>k a (by simp) ob e⟩
 item:=fun i s Q E hi st q=>by
  have pz:=ze6 hf
  have hi2:i<tb.place.size:=by omega
  have bl:SetTable.below tb.place (zf4 tb i)=i:=by
   cases i with
   | zero=>exact ze7 up
   | succ i=>
    have hi3:i<tb.place.size:=by omega
    have e:tb.place[i]? = some (tb.place.getD i 0):=by simp [hi3,Array.getD]
    exact ze9 up e
  have ep':tb.place.getD i 0=tb.place[i]:=by simp [hi2,Array.getD]
  refine zjE (nx:=zf4 tb (i+1)) (x:=es[i].2) st.1 st.2 rfl (fun R E' r=>zds st.2 led bt pl ?_) fun h' a1 sb=> ?_
  ·rw [bl]
   have e1:es[i]? = some es[i]:=by simp [hi]
   have e2:tb.place[i]? = some tb.place[i]:=by simp [hi2]
   rw [e1,e2]
   show R (some (es[i].2,tb.place[i]+1)) s
   have e3:zf4 tb (i+1)=tb.place[i]+1:=by show tb.place.getD i 0+1=_;rw [ep']
   rw [<- e3]
   exact r
  ·exact q _ h' s.toks ⟨es[i],by simp [hi],rfl⟩ ⟨a1,st.2.keep fun ob e=>(sb.2 a hne).trans e⟩ fun b ob hb e=>(sb.2 b fun z=>hb (by simp [z])).trans e
 done:=fun s Q E st q=>by
  have pz:=ze6 hf
  have bl:SetTable.below tb.place (zf4 tb es.size)=es.size:=by
   cases hz:es.size with
   | zero=>exact ze7 up
   | succ i=>
    have hi3:i<tb.place.size:=by omega
    have e:tb.place[i]? = some (tb.place.getD i 0):=by simp [hi3,Array.getD]
    exact ze9 up e
  refine zmn hh st.1 st.2 rfl (fun R E' r=>zds st.2 led bt pl ?_) fun h' k=>q h' s.toks fun b ob hb e=>k b ob (fun z=>hb (by simp [z])) e
  rw [bl]
  have e1:es[es.size]? = none:=by simp
  rw [e1]
  exact r
 self:=fun i s Q E st q=>zer st.1 q
theorem zkC (hh:A.handled=none) {it a:Addr} {ep:Nat} {es:Array (Int×Value)} {tb:SetTable} (hne:a≠it) (bt:w.params.followText "set-order"=true) (hf:tb.fits es.size=true):
  Walks prog w A it [it,a] [it] es.size (fun i v=> ∃ e,(pickOrder (w.params.setOrder a ep) es).toList[i]? = some e/\v=e.2) (fun i h=>SIt h it a (.int (0:Nat) 0) i es.size ep/\zh7 h a es ep tb) where
 sub:=fun b hb=>by simp at hb;simp [hb]
 frame:=fun i h h' st k=>⟨k it (by simp) _ st.1,st.2.keep fun ob e=>k a (by simp) ob e⟩
 item:=fun i s Q E hi st q=>by
  have pz:(pickOrder (w.params.setOrder a ep) es).size=es.size:=by
   have:=(zch (w.params.setOrder a ep) es).length_eq
   simpa using this
  have hi2:i<(pickOrder (w.params.setOrder a ep) es).size:=by omega
  refine zjE (nx:=0) (x:=(pickOrder (w.params.setOrder a ep) es)[i].2) st.1 st.2 rfl (fun R E' r=>zd5 st.2 bt ?_) fun h' a1 sb=> ?_
  ·have e1:(pickOrder (w.params.setOrder a ep) es)[i]? = some (pickOrder (w.params.setOrder a ep) es)[i]:=by simp [hi2]
   rw [e1]
   exact r
  ·exact q _ h' s.toks ⟨(pickOrder (w.params.setOrder a ep) es)[i],by simp [hi2],rfl⟩ ⟨a1,st.2.keep fun ob e=>(sb.2 a hne).trans e⟩ fun b ob hb e=>(sb.2 b fun z=>hb (by simp [z])).trans e
 done:=fun s Q E st q=>by
  have pz:(pickOrder (w.params.setOrder a ep) es).size=es.size:=by
   have:=(zch (w.params.setOrder a ep) es).length_eq
   simpa using this
  refine zmn hh st.1 st.2 rfl (fun R E' r=>zd5 st.2 bt ?_) fun h' k=>q h' s.toks fun b ob hb e=>k b ob (fun z=>hb (by simp [z])) e
  have e1:(pickOrder (w.params.setOrder a ep) es)[es.size]? = none:=by simp [pz]
  rw [e1]
  exact r
 self:=fun i s Q E st q=>zer st.1 q
theorem zis (hh:A.handled=none) {it a tp:Addr} {ep:Nat} {es:Array (Int×Value)} {tb:SetTable} {ys:List Nat} (hne:a≠it) (hne2:tp≠it) (hp:List.Perm ys (List.range es.size)):
  Walks prog w A it [it,a,tp] [it] es.size (fun i v=> ∃ e,(ys.filterMap (es[·]?))[i]? = some e/\v=e.2) (fun i h=>SIt h it a (.ref tp) i es.size ep/\zh7 h a es ep tb/\h.get? tp=some {cls:= .type "tuple",data:= .seq (ys.map fun (i:Nat)=>rawInt i).toArray}) where
 sub:=fun b hb=>by simp at hb;simp [hb]
 frame:=fun i h h' st k=>⟨k it (by simp) _ st.1,st.2.1.keep fun ob e=>k a (by simp) ob e,k tp (by simp) _ st.2.2⟩
 item:=fun i s Q E hi st q=>by
  have hl:ys.length=es.size:=by simpa using hp.length_eq
  have hi2:i<ys.length:=by omega
  have lt: ∀ y∈ys,y<es.size:=fun y hy=>by simpa using hp.mem_iff.mp hy
  have lti:=lt _ (List.getElem_mem hi2)
  have fm: ∀ (zs:List Nat),(∀ y∈zs,y<es.size)-> ∀ (j:Nat) (y:Nat),zs[j]? = some y->(zs.filterMap (es[·]?))[j]? = es[y]? := by
   intro zs
   induction zs with
   | nil=>intro _ j y e;simp at e
   | cons z r ih=>
    intro hz j y e
    have lz:=hz z (.head _)
    rw [List.filterMap_cons_some (b:=es[z]) (by simp [lz])]
    cases j with
    | zero=>simp at e;subst e;simp [lz]
    | succ j=>simpa using ih (fun y hy=>hz y (.tail _ hy)) j y (by simpa using e)
  refine zif (p:=ys[i]) (x:=es[ys[i]].2) st.1 st.2.1 rfl st.2.2 (by simp [hi2,rawInt]) (by simp [lti]) fun h' a1 sb=> ?_
  refine q _ h' s.toks ⟨es[ys[i]],?_,rfl⟩ ⟨a1,st.2.1.keep fun ob e=>(sb.2 a hne).trans e,(sb.2 tp hne2).trans st.2.2⟩ fun b ob hb e=>(sb.2 b fun z=>hb (by simp [z])).trans e
  rw [fm ys lt i ys[i] (by simp [hi2])]
  simp [lti]
 done:=fun s Q E st q=>by
  have hl:ys.length=es.size:=by simpa using hp.length_eq
  exact zj8 hh st.1 st.2.1 rfl st.2.2 (by simp [hl]) fun h' k=>q h' s.toks fun b ob hb e=>k b ob (fun z=>hb (by simp [z])) e
 self:=fun i s Q E st q=>zer st.1 q
end
section
variable {prog:Program} {w:World} {A:Around} {E:Value->Shared->Prop} {s:Shared}
structure zos (prog:Program) (w:World) (a it:Addr) (es:Array (Int×Value)) (ord:List (Int×Value)) (fp:List Addr) (St:Nat->Heap->Prop):Prop where
 walks: ∀ A:Around,A.handled=none->Walks prog w A it fp [it] es.size (fun i v=> ∃ e,ord[i]? = some e/\v=e.2) St
 perm:List.Perm ord es.toList
 mem:it∈fp
theorem zsw {a:Addr} {S:Int->Bool} {n:Nat} {Q:Value->Shared->Prop} (g:zfS prog w s.heap a S n)
  (q: ∀ it es ep tb ord fp St h' d,(∃ ob,s.heap.get? a=some ob/\ob.ExactSet/\ob.data= .set es ep tb)->zos prog w a it es ord fp St->St 0 h'->s.heap.objs.size<=it->(∀ b ob,s.heap.get? b=some ob->h'.get? b=some ob)->(∀ b∈fp,b=a\/s.heap.objs.size<=b)->es.size<scanBound->
    Q (.ref it) {s with heap:=h',drawn:=d}):wpAny (model prog w) A (pyIter (.ref a)) Q E s:=by
 obtain ⟨ob,es,ep,tb,⟨h1,h2,h3⟩,h4,h5,⟨h6,h7,h8⟩,h9⟩:=g
 have tS:s.TypeIs (.ref a) "set":=⟨ob,h1,h2.1⟩
 have lta:a<s.heap.objs.size:=qaQ h1
 refine wpAny_pyIter_slot tS F.slot_set_iter (wpAny_call_entry F.slot_set_iter tS ze1 ?_ (F.args_set_iter_1 _))
 unfold Builtin.«frozenset.__iter__»
 refine qaW (m:=Builtin.Frozenset.slot0 "__iter__" _) (qaX ?_)
 refine qaW (m:=Builtin.Frozenset.sizeOf a) ?_
 unfold Builtin.Frozenset.sizeOf
 refine qaW (wpAny_setEntries_of h1 h3 h7 (qaX ?_))
 refine qaW (m:=setDrawn a) ?_
 unfold setDrawn
 refine qaW (wpAny_setState_of h1 h3 h7 ?_)
 dsimp only
 unfold setsByText
 refine qaW (qaW (wpAny_askSetting (qaX (qaX ?_))))
 dsimp only
 have sobj: ∀ {h':Heap},(∀ b ob,s.heap.get? b=some ob->h'.get? b=some ob)->zh7 h' a es ep tb:=fun k=>⟨⟨ob,k _ _ h1,h2,h3⟩,h7⟩
 by_cases dr:(!(model prog w).w.params.followText "set-order" && (!tb.plain && decide (es.size>1)))=true
 ·show wpAny _ _ (if (!(model prog w).w.params.followText "set-order" && (!tb.plain && decide (es.size>1)))=true then _ else _) _ _ _
  rw [qa4 dr]
  refine qaW (zd9 es.size (List.range es.size) s _ (by simp) fun ys d hp=> ?_)
  have hl:ys.length=es.size:=by simpa using hp.length_eq
  have small:es.size<=sizeLine:=fits_of_scanBound h6
  refine qaW ?_
  unfold newTuple
  refine qaC ?_ (by show (ys.map fun (i:Nat)=>rawInt i).toArray.size<=sizeLine;simp [hl];exact small)
  unfold setEpoch
  refine qaW (qaW (wpAny_setState_of (s:={s with heap:=_,drawn:=d}) (qag _ h1) h3 h7 (qaX ?_)))
  dsimp only
  refine qaW (qaC (qaX ⟨_,rfl,"set_iterator",_,⟨_,qar _ rfl,rfl⟩,zaN.lookup,?_⟩))
  have z1:(s.heap.push {cls:= .type "tuple",dict:=none,data:= .seq (ys.map fun (i:Nat)=>rawInt i).toArray}).objs.size=s.heap.objs.size+1:=qaL ..
  have kp: ∀ (o2:Obj) b ob,s.heap.get? b=some ob->((s.heap.push {cls:= .type "tuple",dict:=none,data:= .seq (ys.map fun (i:Nat)=>rawInt i).toArray}).push o2).get? b=some ob:=fun o2 b ob e=>qag _ (qag _ e)
  refine q _ es ep tb (ys.filterMap (es[·]?)) [(s.heap.push {cls:= .type "tuple",dict:=none,data:= .seq (ys.map fun (i:Nat)=>rawInt i).toArray}).objs.size,a,s.heap.objs.size] _ _ d ⟨ob,h1,h2,h3⟩ ⟨fun A' hA=>zis (tb:=tb) (ep:=ep) hA ?_ ?_ hp,?_,.head _⟩ ⟨?_,sobj (kp _),?_⟩ ?_ (kp _) (fun b hb=> ?_) h6
  ·rw [z1];exact qaR (Nat.lt_succ_of_lt lta)
  ·rw [z1];exact qaR (Nat.lt_succ_self _)
  ·refine (hp.filterMap _).trans ?_
   rw [filterMap_getElem?_range]
  ·exact qar _ rfl
  ·exact qag _ (qar _ rfl)
  ·rw [z1];exact Nat.le_succ _
  ·simp only [qaP,qaF,or_false] at hb
   rcases hb with z | z | z
   ·right;rw [z,z1];exact Nat.le_succ _
   ·exact .inl z
   ·right;rw [z];exact qaV _
 ·show wpAny _ _ (if (!(model prog w).w.params.followText "set-order" && (!tb.plain && decide (es.size>1)))=true then _ else _) _ _ _
  rw [qa5 dr]
  refine qaW (qaX ?_)
  unfold setEpoch
  refine qaW (qaW (wpAny_setState_of h1 h3 h7 (qaX ?_)))
  dsimp only
  refine qaW (qaC (qaX ⟨_,rfl,"set_iterator",_,⟨_,qar _ rfl,rfl⟩,zaN.lookup,?_⟩))
  have kp: ∀ (o2:Obj) b ob,s.heap.get? b=some ob->(s.heap.push o2).get? b=some ob:=fun o2 b ob e=>qag _ e
  have fpl: ∀ b∈[s.heap.objs.size,a],b=a\/s.heap.objs.size<=b:=fun b hb=>by
   simp only [qaP,qaF,or_false] at hb
   rcases hb with z | z
   ·right;rw [z];exact qaV _
   ·exact .inl z
  cases bt:w.params.followText "set-order" with
  | true=>
   exact q _ es ep tb _ [s.heap.objs.size,a] _ _ s.drawn ⟨ob,h1,h2,h3⟩ ⟨fun A' hA=>zkC (tb:=tb) (ep:=ep) hA (qaR lta) bt h7,zch _ _,.head _⟩ ⟨qar _ rfl,sobj (kp _)⟩ (qaV _) (kp _) fpl h6
  | false=>
   have pl:(!tb.plain && decide (es.size>1))=false:=by
    rw [show (model prog w).w.params.followText "set-order"=false from bt] at dr
    simpa using dr
   have led:tb.led=true:=by
    rw [h9.led]
    unfold zcC
    rw [bt]
    rfl
   exact q _ es ep tb _ [s.heap.objs.size,a] _ _ s.drawn ⟨ob,h1,h2,h3⟩ ⟨fun A' hA=>ziz (tb:=tb) (ep:=ep) hA (qaR lta) h9.up led bt pl h7,.rfl,.head _⟩ ⟨qar _ rfl,sobj (kp _)⟩ (qaV _) (kp _) fpl h6
theorem zlD {a:Addr} {S:Int->Bool} {n:Nat} {Q:List Value->Shared->Prop} (hh:A.handled=none) (g:zfS prog w s.heap a S n)
  (q: ∀ vs s' es ep tb,(∃ ob,s.heap.get? a=some ob/\ob.ExactSet/\ob.data= .set es ep tb)->List.Perm vs (es.toList.map (·.2))->(∀ b ob,s.heap.get? b=some ob->s'.heap.get? b=some ob)->s'.gens=s.gens->s'.os=s.os->Q vs s'):wpAny (model prog w) A (collect (.ref a)) Q E s:=by
 have tS: ∀ {h':Heap} {s':Shared},s'.heap=h'->(∀ b ob,s.heap.get? b=some ob->h'.get? b=some ob)->s'.TypeIs (.ref a) "set":=fun {h' s'} e k=>by
  obtain ⟨ob,es,ep,tb,⟨h1,h2,h3⟩,_⟩:=g
  exact ⟨ob,by rw [e];exact k _ _ h1,h2.1⟩
 have lta:a<s.heap.objs.size:=by
  obtain ⟨ob,es,ep,tb,⟨h1,h2,h3⟩,_⟩:=g
  exact qaQ h1
 unfold collect
 refine qaW (wpAny_runValue (codeAny_builtin F.entry_proto_collect ?_))
 rw [qap F.plain_proto_collect _]
 show wpAny _ _ (newList []>>=fun l=>again (.builtin "list.__iadd__" ⟨[l,.ref a],[]⟩)) _ _ _
 refine qaW (qaC (qaX ⟨plainId_quiet F.plain_list_iadd _,codeAny_builtin F.entry_list_iadd ?_⟩))
 rw [qap F.plain_list_iadd _]
 show wpAny _ _ (Builtin.List.listExtendWith (.ref s.heap.objs.size) (.ref a) (.ref s.heap.objs.size)) _ _ _
 unfold Builtin.List.listExtendWith
 have k1: ∀ b ob,s.heap.get? b=some ob->(s.heap.push {cls:= .type "list",data:= .seq ([]:List Value).toArray}).get? b=some ob:=fun b ob e=>qag _ e
 refine qaW (wpAny_typeOf (tS rfl k1) ?_)
 have nsame:Builtin.List.listSameRef (.ref s.heap.objs.size) (.ref a)=false:=by
  simp only [Builtin.List.listSameRef,beq_eq_false_iff_ne]
  exact fun z=>qaN _ (z▸lta)
 have nl:(Value.type "set"==Value.type "list")=false:=by decide
 have nt:(Value.type "set"==Value.type "tuple")=false:=by decide
 simp only [nsame,nl,nt,Bool.or_false,qax,if_false]
 refine qaW (zsw (g.move (fun ob e=>k1 _ _ e) (fun _=>rfl) rfl) fun it es ep tb ord fp St h2 d hob W st0 lit k2 fpl few=> ?_)
 refine qaW (qaO ?_)
 unfold Builtin.List.listLengthHint
 have k12: ∀ b ob,s.heap.get? b=some ob->h2.get? b=some ob:=fun b ob e=>k2 b ob (k1 b ob e)
 refine qaW (wpAny_specialOf (tS rfl k12) F.slot_set_len.lookup ?_)
 have sp:splitId "set.__len__"=some ("set","__len__"):=by decide +kernel
 dsimp only
 rw [sp]
 dsimp only
 refine qaW (wpAny_isInstance (tS rfl k12) sub_set_self ?_)
 rw [qa5 (by decide)]
 rw [qa4 (by decide +kernel)]
 refine qaW (wpAny_typeOf (tS rfl k12) (qaX ?_))
 rw [qa4 (by decide +kernel)]
 refine qaW (wpAny_rule ?_)
 have l2:h2.get? s.heap.objs.size=some {cls:= .type "list",data:= .seq ([]:List Value).toArray}:=k2 _ _ (qar _ rfl)
 refine qaW ?_
 unfold Builtin.List.listTouch
 show wpAny _ _ (updateSeq s.heap.objs.size (·.push .none)>>=fun _=>updateSeq s.heap.objs.size (·.pop)) _ _ _
 refine qaW (wpAny_updateSeq l2 rfl ?_)
 have l3:=qal (Obj.mapSeq (·.push Value.none)) l2 rfl
 refine wpAny_updateSeq l3 rfl ?_
 have l4:=qal (Obj.mapSeq (·.pop)) l3 rfl
 have oth: ∀ b ob,b≠s.heap.objs.size->h2.get? b=some ob->((h2.update s.heap.objs.size (Obj.mapSeq (·.push Value.none))).update s.heap.objs.size (Obj.mapSeq (·.pop))).get? b=some ob:=fun b ob hb e=>
  (qah _ _ (Ne.symm hb)).trans ((qah _ _ (Ne.symm hb)).trans e)
 have nfp:s.heap.objs.size∉fp:=fun z=>by
  rcases fpl _ z with z | z
  ·exact qaN _ (z▸lta)
  ·rw [show ({s with heap:=s.heap.push {cls:= .type "list",data:= .seq ([]:List Value).toArray}}:Shared).heap.objs.size=s.heap.objs.size+1 from qaL ..] at z
   exact qaN _ z
 have fin: ∀ (s':Shared) (vs:Array Value) (c:Nat),(∀ b ob,s.heap.get? b=some ob->s'.heap.get? b=some ob)->s'.gens=s.gens->s'.os=s.os->s'.heap.get? s.heap.objs.size=some {cls:= .type "list",dict:=none,data:= .seq vs c,slots:= #[]}->ItemsOf (fun i v=> ∃ e,ord[i]? = some e/\v=e.2) vs es.size->
   wpAny (model prog w) A (load s.heap.objs.size>>=fun o=>match o.data with | .seq xs _=>pure xs.toList | _=>unsupported "internal:collect") Q E s':=fun s' vs c k g1 g2 e it1=>by
  refine qaW (wpAny_load e (qaX (q vs.toList s' es ep tb ?_ ?_ k g1 g2)))
  ·obtain ⟨ob,o1,o2⟩:=hob
   obtain ⟨ob',es',ep',tb',⟨p1,p2,p3⟩,_⟩:=g
   have:=k1 _ _ p1
   rw [o1] at this
   cases this
   exact ⟨ob,p1,o2⟩
  ·have hl:ord.length=es.size:=by simpa using W.perm.length_eq
   have e2:vs.toList=ord.map (·.2):=by
    apply List.ext_getElem?
    intro i
    by_cases hi:i<es.size
    ·have hv0:i<vs.size:=by rw [it1.1];exact hi
     have hv:vs[i]? = some vs[i]:=by simp [hv0]
     obtain ⟨e,e1,e2⟩:=it1.2 i _ hv
     rw [List.getElem?_map,e1,Array.getElem?_toList,hv,e2]
     rfl
    ·rw [List.getElem?_eq_none (by simp [it1.1];omega),List.getElem?_eq_none (by simp [hl];omega)]
   rw [e2]
   exact W.perm.map _
 have Wk:=(W.walks A.in1 hh).toS
 refine qaX ⟨plainId_quiet F.plain_extend_loop _,codeAny_extend_loopS Wk ?_ _ nfp _ es.size 0 _ _ _ rfl (Nat.zero_le _) ?_ l4 (ItemsOf.nil _) fun s' vs c mv e it1=> ?_⟩
 ·exact fits_of_scanBound few
 ·exact (W.walks A.in1 hh).frame 0 h2 _ st0 fun b hb ob e=>oth b ob (fun z=>nfp (z▸hb)) e
 ·refine fin s' vs c (fun b ob e'=>mv.heap b ob ?_ (oth b ob ?_ (k12 b ob e'))) mv.gens mv.os e it1
  ·intro z
   rcases qaP.mp z with z | z
   ·exact qaN _ (z▸qaQ e')
   ·simp only [qaP,qaF,or_false] at z
    have:=qaQ e'
    rw [z] at this
    exact qaN _ (qaw this (qaS (by rw [qaL];exact Nat.le_succ _) lit))
  ·exact fun z=>qaN _ (z▸qaQ e')
end
noncomputable def zmW (x:Int):List Int->List Int
 | []=>[x]
 | y::r=>if x<=y then x::y::r else y::zmW x r
noncomputable def zbu:List Int->List Int
 | []=>[]
 | x::r=>zmW x (zbu r)
theorem zeO (x:Int): ∀ l:List Int,List.Perm (zmW x l) (x::l)
 | []=> .rfl
 | y::r=>by
  unfold zmW
  split
  ·exact .rfl
  ·exact ((zeO x r).cons y).trans (.swap x y r)
theorem zlm {x z:Int} {l:List Int}:z∈zmW x l↔z=x\/z∈l:=by rw [(zeO x l).mem_iff,qaP]
theorem zi8 (x:Int): ∀ l:List Int,l.Pairwise (· <= ·)->(zmW x l).Pairwise (· <= ·)
 | [],_=>by unfold zmW;simp
 | y::r,h=>by
  obtain ⟨h1,h2⟩:=qay.mp h
  unfold zmW
  split
  ·rename_i hxy
   refine qay.mpr ⟨fun z hz=> ?_,h⟩
   rcases qaP.mp hz with e | hz
   ·rw [e];exact hxy
   ·exact Int.le_trans hxy (h1 z hz)
  ·rename_i hxy
   refine qay.mpr ⟨fun z hz=> ?_,zi8 x r h2⟩
   rcases zlm.mp hz with e | hz
   ·rw [e];omega
   ·exact h1 z hz
theorem zay: ∀ l:List Int,List.Perm (zbu l) l
 | []=> .rfl
 | x::r=>(zeO x _).trans ((zay r).cons x)
theorem zc4: ∀ l:List Int,(zbu l).Pairwise (· <= ·)
 | []=> .nil
 | x::r=>zi8 x _ (zc4 r)
theorem zeo {a b:List Int} (hp:a.Perm b) (h:a.Pairwise (· <= ·)):a=zbu b:=W.ksm_same (hp.trans (zay b).symm) h (zc4 b)
noncomputable def zey (ns:List Int):List Int:=zbu (ns.foldl step_dedup [])
theorem ziV (ns:List Int): ∀ (acc:List Int) (k:Int),(ns.foldl step_dedup acc).any (· == k)=(acc.any (· == k) || ns.any (· == k)):=by
 induction ns with
 | nil=>intro acc k;simp
 | cons x r ih=>
  intro acc k
  rw [List.foldl_cons,ih,step_any]
  simp only [List.any_cons]
  have:(x==k)=decide (k=x):=by
   by_cases h:k=x
   ·subst h;simp
   ·have h': ¬x=k:=fun e=>h e.symm
    simp [h,h']
  rw [this,Bool.or_assoc]
theorem zkm {ns:List Int} {k:Int}:k∈ns.foldl step_dedup []↔k∈ns:=by
 have:=ziV ns [] k
 simp only [List.any_nil,Bool.false_or] at this
 have e: ∀ l:List Int,k∈l↔(l.any fun x=>x==k)=true:=fun l=>by
  rw [List.any_eq_true]
  constructor
  ·exact fun h=>⟨k,h,by simp⟩
  ·rintro ⟨x,h,c⟩
   have c:x=k:=by simpa using c
   rw [<- c]
   exact h
 rw [e,e,this]
theorem zeD (ns:List Int): ∀ acc:List Int,acc.Nodup->(ns.foldl step_dedup acc).Nodup:=by
 induction ns with
 | nil=>intro acc h;exact h
 | cons x r ih=>
  intro acc h
  refine ih _ ?_
  unfold step_dedup
  split
  ·exact h
  ·rename_i hx
   rw [List.nodup_append]
   refine ⟨h,by simp,fun a ha b hb=> ?_⟩
   simp only [List.mem_singleton] at hb
   subst hb
   intro e
   subst e
   exact hx (List.any_eq_true.mpr ⟨a,ha,by simp⟩)
theorem zc6 {ns:List Int} {k:Int}:k∈zey ns↔k∈ns:=by unfold zey;rw [(zay _).mem_iff,zkm]
theorem zfA (ns:List Int):(zey ns).Pairwise (· < ·):=by
 have h1:=zc4 (ns.foldl step_dedup [])
 have h2:(zey ns).Nodup:=(zay _).nodup_iff.mpr (zeD ns [] List.nodup_nil)
 exact (List.Pairwise.and h1 h2).imp fun ⟨a,b⟩=>by omega
theorem zex (ns:List Int):firstMet (fun i=>ns.getD i 0) ns.length=ns.foldl step_dedup []:=by
 unfold firstMet
 congr 1
 apply List.ext_getElem?
 intro i
 by_cases hi:i<ns.length
 ·simp [hi,List.getD]
 ·rw [List.getElem?_eq_none (by simp;omega),List.getElem?_eq_none (by omega)]
theorem zez: ∀ {fm ms:List Int},fm.Nodup->(∀ k,k∈fm->k∈ms)->ms.length<=fm.length->List.Perm ms fm
 | [],ms,_,_,h=>by
  have:ms=[]:=List.length_eq_zero_iff.mp (by simpa using h)
  subst this
  exact .rfl
 | x::r,ms,nd,hm,h=>by
  obtain ⟨n1,n2⟩:=List.nodup_cons.mp nd
  have hx:=hm x (.head _)
  have p:=List.perm_cons_erase hx
  have hl:=p.length_eq
  rw [qaE] at hl h
  refine p.trans ((zez n2 (fun k hk=> ?_) (by omega)).cons x)
  have hne:k≠x:=fun e=>n1 (e▸hk)
  rcases qaP.mp (p.mem_iff.mp (hm k (.tail _ hk))) with e | e
  ·exact absurd e hne
  ·exact e
section
variable {prog:Program} {w:World} {A:Around} {E:Value->Shared->Prop} {s:Shared}
theorem zf5 {l l':List Value} {ns:List Int} (p:List.Perm l l') (h:IntsAre l' ns): ∃ ms,IntsAre l ms/\List.Perm ms ns:=by
 induction p generalizing ns with
 | nil=>exact ⟨ns,h,.rfl⟩
 | cons x _ ih=>
  cases h with
  | cons n t h=>
   obtain ⟨ms,h1,h2⟩:=ih h
   exact ⟨n::ms,.cons n t h1,h2.cons n⟩
 | swap x y l=>
  cases h with
  | cons n t h=>
   cases h with
   | cons n' t' h=>exact ⟨n'::n::_,.cons n' t' (.cons n t h),.swap _ _ _⟩
 | trans _ _ ih1 ih2=>
  obtain ⟨ms,h1,h2⟩:=ih2 h
  obtain ⟨ms',h3,h4⟩:=ih1 h1
  exact ⟨ms',h3,h4.trans h2⟩
theorem zfc: ∀ {es:List (Int×Value)},ElemsOf (intKind prog w) es-> ∃ ms,IntsAre (es.map (·.2)) ms/\ ∀ k,k∈ms↔ ∃ e∈es,(intKind prog w).is k e.2=true
 | [],_=>⟨[],.nil,fun k=>by simp⟩
 | e::r,h=>by
  obtain ⟨ms,h1,h2⟩:=zfc (ElemsOf.tail h)
  obtain ⟨⟨k,hk,_⟩,_⟩:=ElemsOf.head h
  obtain ⟨t,ht⟩:=Value.isInt_shape (k:=k) (v:=e.2) hk
  refine ⟨k::ms,by rw [qaM,ht];exact .cons k t h1,fun z=> ?_⟩
  rw [qaP,h2 z]
  constructor
  ·rintro (c | ⟨e',c1,c2⟩)
   ·exact ⟨e,.head _,by rw [c];exact hk⟩
   ·exact ⟨e',.tail _ c1,c2⟩
  ·rintro ⟨e',c1,c2⟩
   rcases qaP.mp c1 with c | c
   ·subst c;exact .inl ((intKind prog w).inj _ _ _ c2 hk)
   ·exact .inr ⟨e',c,c2⟩
theorem zeI {x:Value} {Q:Value->Shared->Prop} (hc: ∀ E':Value->Shared->Prop,wpAny (model prog w) A.in1 (collect x) (fun vs s1=> ∃ ns,IntsAre vs ns/\vs.length<64/\ ∀ out e h',IntsAre out (zbu ns)->(∀ b ob,s1.heap.get? b=some ob->h'.get? b=some ob)->
      h'.get? s1.heap.objs.size=some (seqObj "list" out.toArray e)->Q (.ref s1.heap.objs.size) {s1 with heap:=h'}) E' s):wpAny (model prog w) A (call (.builtin "sorted") [x]) Q E s:=by
 refine Calls.call_function_entry kind_sorted plain_sorted entry_sorted (args_sorted1 _) ?_
 unfold Builtin.«sorted»
 refine qaW (m:=checkCount "sorted" 1 1 _) (qaX ?_)
 refine qaW (m:=collect x) (qaZ (hc _) (fun vs s1 ⟨ns,hI,h64,q⟩=> ?_) fun _ _ z=>z)
 have small:vs.length<=sizeLine:=qaS (Nat.le_of_lt h64) (by decide)
 refine qaW (wpAny_newList ?_ small)
 have at0:(s1.heap.push {cls:= .type "list",data:= .seq vs.toArray}).get? s1.heap.objs.size=some (seqObj "list" vs.toArray 0):=qar _ rfl
 refine qaW (qaO (wpAny_call_entry slot_list_sort ⟨_,at0,rfl⟩ entry_list_sort (list_sort_tree (s:={s1 with heap:=s1.heap.push {cls:= .type "list",data:= .seq vs.toArray}}) at0 hI h64 fun out ns' a1 a2 a3=>⟨_,rfl,?_⟩) (args_list_sort _)))
 obtain ⟨e,he⟩:=sortedHeap_at (out:=out) at0
 refine qaX ⟨_,rfl,q out.toList e _ ?_ (fun b ob eb=> ?_) (by simpa using he)⟩
 ·rw [<- zeo a2 a3];exact a1
 ·have lt:=qaQ eb
  rw [sortedHeap_old (qaR lt) (by rw [qaL];exact Nat.lt_succ_of_lt lt)]
  exact qag _ eb
theorem zg7 {l:Addr} {vs:List Value} {Q:List Value->Shared->Prop} (hl:s.heap.IsTuple l vs.toArray) (small:vs.length<=sizeLine)
  (q: ∀ h',(∀ b ob,s.heap.get? b=some ob->h'.get? b=some ob)->Q vs {s with heap:=h'}):wpAny (model prog w) A (collect (.ref l)) Q E s:=by
 obtain ⟨ob,ho,hc,n,hd⟩:=id hl
 unfold collect
 refine qaW (wpAny_runValue (codeAny_builtin F.entry_proto_collect ?_))
 rw [qap F.plain_proto_collect _]
 show wpAny _ _ (newList []>>=fun d=>again (.builtin "list.__iadd__" ⟨[d,.ref l],[]⟩)) _ _ _
 refine qaW (qaC (qaX ⟨plainId_quiet F.plain_list_iadd _,codeAny_builtin F.entry_list_iadd ?_⟩))
 rw [qap F.plain_list_iadd _]
 show wpAny _ _ (Builtin.List.listExtendWith (.ref s.heap.objs.size) (.ref l) (.ref s.heap.objs.size)) _ _ _
 unfold Builtin.List.listExtendWith
 have ho':(s.heap.push {cls:= .type "list",data:= .seq ([]:List Value).toArray}).get? l=some ob:=qag _ ho
 have d0:(s.heap.push {cls:= .type "list",data:= .seq ([]:List Value).toArray}).get? s.heap.objs.size=some (seqObj "list" #[] 0):=qar _ rfl
 refine qaW (wpAny_typeOf (T:="tuple") ⟨ob,ho',hc⟩ ?_)
 rw [qa4 (by simp)]
 refine qaW (listItems_at ho' hd ?_)
 refine qaW (listItems_at d0 rfl ?_)
 rw [qa5 (by simp)]
 refine qaW (listUpdate_at (xs:= #[]) (n:=0) d0 rfl ?_ (Nat.zero_le _) (by show (#[]++vs.toArray).size<=sizeLine+1;simp;omega))
 refine qaX ?_
 show wpAny _ _ (load s.heap.objs.size>>=fun o=>match o.data with | .seq xs _=>pure xs.toList | _=>unsupported "internal:collect") _ _ _
 refine qaW (wpAny_load (get?_update_seq d0 _) ?_)
 have z:=q ((s.heap.push {cls:= .type "list",data:= .seq ([]:List Value).toArray}).update s.heap.objs.size (Obj.mapSeq fun x=>x++vs.toArray)) fun b ob e=>(qah _ _ (fun z=>qaN _ (z▸qaQ e))).trans (qag _ e)
 show wpAny _ _ (pure ((#[]:Array Value)++vs.toArray).toList) _ _ _
 rw [show ((#[]:Array Value)++vs.toArray).toList=vs by simp]
 exact qaX z
end
end LT
namespace L2
open PySem PySem.Spec PyProof.Rows LT
section
variable {X:Cx}
noncomputable def zjX (P:Program) (w:World) (p:Addr) (ns:List Int):HO:= .ext fun h=>zfS P w h p (fun z=>(ns.foldl step_dedup []).any (· == z)) (ns.foldl step_dedup []).length
theorem zkf (ns:List Int):(ns.foldl step_dedup []).length<=ns.length:=by
 rw [<- zex]
 exact firstMet_length_le _ _
theorem zkc (hc:X.calm=true):zaJ X (.type "set") (fun xs H Q=> ∃ (a:Addr) (ns:List Int),xs=[.ref a]/\(SqL X.K H a (ns.map V.int)\/SqT X.K H a (ns.map V.int))/\ns.length<4000/\ ∀ p,H p=none->Q (.ref p) (upd H p (zjX X.prog X.w p ns))):=by
 intro pins s σ H xs us Q I r h
 obtain ⟨a,ns,rfl,hq,hl,q⟩:=h
 obtain ⟨u,rfl,rx⟩:=zdI r
 cases rx
 have fin: ∀ (items:Array Value),items.size=ns.length-> ∀ (h':Heap) (tk:Nat),zfS X.prog X.w h' s.heap.objs.size (fun z=>(firstMet (fun i=>ns.getD i 0) items.size).any (· == z)) (firstMet (fun i=>ns.getD i 0) items.size).length->(∀ b ob,s.heap.get? b=some ob->h'.get? b=some ob)->
   EP X pins σ Q (.ref s.heap.objs.size) {s with heap:=h',toks:=tk}:=fun items hz h' tk g k=>by
  rw [hz,zex] at g
  refine ⟨.ref s.heap.objs.size,_,I.laid (t':=tk) (o:=zjX X.prog X.w s.heap.objs.size ns) k (qaV _) ⟨g,?_,fun h1 h2 z e=>z.move e (fun _=>rfl) rfl⟩,rfl,q _ (I.hok.fresh (qaV _))⟩
  obtain ⟨ob,es,ep,tb,⟨h1,_⟩,_⟩:=g
  exact ⟨ob,h1⟩
 have room:ns.length+1<scanBound:=by
  have:scanBound=4096:=rfl
  omega
 rcases hq with hq | hq
 ·obtain ⟨its,r',pl,_⟩:=I.list hq
  have hz:its.toArray.size=ns.length:=by rw [qaA, <-r'.length,qaH]
  exact zs4 (I.ok.hd hc) (.inl ⟨rfl,pl.isList⟩) (by simpa using zcs r') (by rw [hz];exact room) fun h' tk g k=>fin _ hz h' tk g k
 ·obtain ⟨its,r',pl,_⟩:=I.tuple hq
  have hz:its.toArray.size=ns.length:=by rw [qaA, <-r'.length,qaH]
  exact zs4 (I.ok.hd hc) (.inr ⟨rfl,pl⟩) (by simpa using zcs r') (by rw [hz];exact room) fun h' tk g k=>fin _ hz h' tk g k
theorem Inv.grown {pins:List (Addr×Obj)} {σ:St} {H:Hp} {s s':Shared} (I:Inv X pins σ H s) (ho:s'.os=s.os) (hg:s'.gens=s.gens) (k: ∀ b ob,s.heap.get? b=some ob->s'.heap.get? b=some ob):Inv X pins σ H s':=
 I.call' (ch:=[]) ho (Un.kept k) (I.hok.kept k) (by rw [hg];exact I.bare) fun b z=>nomatch z
theorem zlH {out:List Value} {ms:List Int} (h:IntsAre out ms):zaZ (ms.map V.int) out:=zeF h
theorem zeb (hc:X.calm=true):zaJ X (.builtin "sorted") (fun xs H Q=> ∃ (p:Addr) (ns:List Int),xs=[.ref p]/\((((ns.foldl step_dedup []).length<64/\H p=some (zjX X.prog X.w p ns))/\ ∀ l,H l=none->Q (.ref l) (upd H l (.lst ((zey ns).map V.int))))\/
    ((ns.length<64/\(SqL X.K H p (ns.map V.int)\/SqT X.K H p (ns.map V.int)))/\ ∀ l,H l=none->Q (.ref l) (upd H l (.lst ((zbu ns).map V.int)))))):=by
 intro pins s σ H xs us Q I r h
 obtain ⟨p,ns,rfl,h⟩:=h
 obtain ⟨u,rfl,rx⟩:=zdI r
 cases rx
 have fin: ∀ (s1:Shared) (ms:List Int),ms.length<=64->(∀ b ob,s.heap.get? b=some ob->s1.heap.get? b=some ob)->s1.gens=s.gens->s1.os=s.os->(∀ l,H l=none->Q (.ref l) (upd H l (.lst ((zbu ms).map V.int))))-> ∀ out e h',IntsAre out (zbu ms)->(∀ b ob,s1.heap.get? b=some ob->h'.get? b=some ob)->
   h'.get? s1.heap.objs.size=some (seqObj "list" out.toArray e)->EP X pins σ Q (.ref s1.heap.objs.size) {s1 with heap:=h'}:=fun s1 ms hm k g1 o1 q out e h' hi k2 e2=>by
  have I1:=I.grown o1 g1 k
  refine ⟨.ref s1.heap.objs.size,_,I1.laid (t':=s1.toks) (o:= .lst ((zbu ms).map V.int)) k2 (qaV _) ⟨?_,out,e,zlH hi,e2⟩,rfl,q _ (I1.hok.fresh (qaV _))⟩
  rw [qaH,(zay ms).length_eq]
  exact qaS hm (by decide)
 rcases h with ⟨⟨hl,hs⟩,q⟩ | ⟨⟨hl,hq⟩,q⟩
 ·obtain ⟨g,_⟩:=(show zbp X.prog X.w H s.heap p (zjX X.prog X.w p ns) from I.hok p _ hs)
  refine zeI fun E'=>zlD (show X.A.in1.handled=none from I.ok.hd hc) g fun vs s1 es ep tb hob pv k g1 o1=> ?_
  obtain ⟨ob',es',ep',tb',⟨a1,a2,a3⟩,h4,h5,⟨h6,h7,h8⟩,h9⟩:=g
  obtain ⟨ob,b1,b2,b3⟩:=hob
  rw [a1] at b1
  cases b1
  rw [a3] at b3
  cases b3
  obtain ⟨ms,m1,m2⟩:=zfc h4
  obtain ⟨ms',m3,m4⟩:=zf5 pv m1
  have len:ms.length=(ns.foldl step_dedup []).length:=by
   rw [<- m1.length,qaH,qas]
   exact h8
  have pm:List.Perm ms (ns.foldl step_dedup []):=zez (zeD ns [] List.nodup_nil) (fun z hz=>by
    rw [m2 z, <-h5 z]
    exact List.any_eq_true.mpr ⟨z,hz,by simp⟩) (Nat.le_of_eq len)
  have es1:zbu ms'=zey ns:=by
   unfold zey
   exact zeo ((zay ms').trans (m4.trans pm)) (zc4 ms')
  have lm:ms'.length<64:=by
   rw [m4.length_eq,len]
   exact hl
  refine ⟨ms',m3,by rw [m3.length];omega,fun out e h' hi k2 e2=> ?_⟩
  exact fin s1 ms' (by omega) k g1 o1 (by rw [es1];exact q) out e h' hi k2 e2
 ·rcases hq with hq | hq
  ·obtain ⟨its,r',pl,hz⟩:=I.list hq
   have hi:=zcs r'
   have lz:its.length=ns.length:=by rw [<- r'.length,qaH]
   refine zeI fun E'=>collect_list pl.isList ?_ (by rw [lz, <-qaH (f:=V.int)];exact hz)
   refine ⟨ns,hi,by omega,fun out e h' hi2 k2 e2=> ?_⟩
   refine fin {s with heap:=(s.heap.push (seqObj "list" #[] 0)).update s.heap.objs.size (Obj.mapSeq fun x=>x++its.toArray)} ns (by omega) (fun b ob eb=> ?_) rfl rfl q out e h' hi2 k2 e2
   exact (qah _ _ (fun z=>qaN _ (z▸qaQ eb))).trans (qag _ eb)
  ·obtain ⟨its,r',pl,hz⟩:=I.tuple hq
   have hi:=zcs r'
   have lz:its.length=ns.length:=by rw [<- r'.length,qaH]
   refine zeI fun E'=>zg7 pl (by rw [lz, <-qaH (f:=V.int)];exact hz) fun h1 k1=> ?_
   refine ⟨ns,hi,by omega,fun out e h' hi2 k2 e2=> ?_⟩
   exact fin {s with heap:=h1} ns (by omega) k1 rfl rfl q out e h' hi2 k2 e2
theorem zkz (hc:X.calm=true):zaJ X (.builtin "all") (fun xs H Q=> ∃ (a:Addr) (bs:List Bool),xs=[.ref a]/\SqL X.K H a (bs.map V.bl)/\Q (.bl (bs.all id)) H):=by
 intro pins s σ H xs us Q I r h
 obtain ⟨a,bs,rfl,hq,q⟩:=h
 obtain ⟨u,rfl,rx⟩:=zdI r
 cases rx
 obtain ⟨its,r',pl,hz⟩:=I.list hq
 have hlt:a<s.heap.objs.size:=by obtain ⟨_,e,_⟩:=pl.isList;exact qaQ e
 refine call_all_walk (wpAny_pyIter_list pl.isList ?_)
 refine ⟨s.heap.objs.size,[s.heap.objs.size,a],[s.heap.objs.size],its.toArray.size,_,_,fun i=>(bs[i]?).getD true,rfl,Walks.list (A:=X.A.in1) (I.ok.hd hc) _ a (qaR hlt) its.toArray,⟨⟨_,qar _ rfl,rfl,rfl⟩,pl.isList.push _⟩,fun i v s' Q' E' hP hQ=> ?_,fun h' tk hk=> ?_⟩
 ·have hv:its[i]? = some v:=by simpa using hP
  obtain ⟨hi,_⟩:=qac.mp hv
  have hlen:bs.length=its.length:=by rw [<- r'.length,qaH]
  have hb:(bs.map V.bl)[i]? = some (V.bl bs[i]):=by simp [hlen,hi]
  obtain ⟨u',hu,ru⟩:=r'.get hb
  rw [hv] at hu
  cases hu
  cases ru
  have e:(bs[i]?).getD true=bs[i]:=by simp [hlen,hi]
  have hQ:Q' ((bs[i]?).getD true) s':=hQ
  rw [e] at hQ
  exact wpAny_truthy_bool hQ
 ·have e:((List.range its.toArray.size).all fun i=>(bs[i]?).getD true)=bs.all id:=by
   have hlen:bs.length=its.length:=by rw [<- r'.length,qaH]
   rw [qaA, <-hlen]
   rw [Bool.eq_iff_iff,List.all_eq_true,List.all_eq_true]
   constructor
   ·intro h x hx
    obtain ⟨i,hi⟩:=List.mem_iff_getElem?.mp hx
    have hl:=(qac.mp hi).1
    have:=h i (by simpa using hl)
    rw [hi] at this
    exact this
   ·intro h i hi
    have hl:i<bs.length:=by simpa using hi
    have e1:bs[i]? = some bs[i]:=by simp [hl]
    rw [e1]
    exact h _ (List.getElem_mem hl)
  rw [e]
  refine ⟨.bl _,H,I.grown (s':={s with heap:=h',toks:=tk}) rfl rfl fun b ob eb=>hk b ob (fun z=> ?_) (qag _ eb),rfl,q⟩
  simp only [qaP,qaF,or_false] at z
  exact qaN _ (z▸qaQ eb)
end
end L2
namespace L3
open PySem PySem.Spec PyProof.Rows L2 LT
section
variable {X:Cx} {E:XE} {e:Expr} {es:List Expr} {pos p:Pos} {fs:Sd->M (List D)} {x:Str}
theorem zl7 {id:String} {F:List D->M D} (hc:zaJ X (.builtin id) (zhh X.K E F)) (hg:Gl X x) (hm:X.mg x=none) (hv:bootBuiltins x=some (.builtin id)) (ha:SA X E (e::es) fs) (hn:x≠"__name__":=by decide) (hdb:(x==("__debug__":Str))=false:=by decide)
  (he:starEach (e::es) X.env=(false,eval e X.env)::starEach es X.env:=by rfl) (hpl:(backTo pos (starEach es X.env)).any (·.1)=false:=by rfl):SE X E (.Call (.Name x p) (e::es) [] pos) (fun sd=>do let ds<-fs sd;F ds):=
 PE.imp (zdu hc hg hm hv ha hn hdb he hpl) fun σ H Q ⟨ι,h,sd,L,hh,q⟩=>⟨ι,h,sd,L,hh,Fin.bind q fun ds h1 ι1 H1 e1 s1 hr1 q1 vs rv=>⟨ι1,h1,ds,rv,hr1,q1⟩⟩
theorem zki {T:String} {F:List D->M D} (hc:zaJ X (.type T) (zhh X.K E F)) (hg:Gl X x) (hm:X.mg x=none) (hv:bootBuiltins x=some (.type T)) (ha:SA X E (e::es) fs) (hn:x≠"__name__":=by decide) (hdb:(x==("__debug__":Str))=false:=by decide)
  (he:starEach (e::es) X.env=(false,eval e X.env)::starEach es X.env:=by rfl) (hpl:(backTo pos (starEach es X.env)).any (·.1)=false:=by rfl):SE X E (.Call (.Name x p) (e::es) [] pos) (fun sd=>do let ds<-fs sd;F ds):=
 PE.imp (zdO hc hg hm hv ha hn hdb he hpl) fun σ H Q ⟨ι,h,sd,L,hh,q⟩=>⟨ι,h,sd,L,hh,Fin.bind q fun ds h1 ι1 H1 e1 s1 hr1 q1 vs rv=>⟨ι1,h1,ds,rv,hr1,q1⟩⟩
noncomputable def zmy:D->M (List D)
 | .tup ds=>pure ds
 | .lst ds=>pure ds
 | .scr ds=>pure ds
 | .cel n=>zal n
 | _=>M.bad
theorem zdH {K:W.Frag} {ι:Io} {H:Hp} {h:Hh} {d:D} {v:V} {α:Type} {f:List D->M α} {P:α->Io->Hp->Prop} (hr:za6 K ι H h) (r:Rel K ι H d v) (q:Fin K E ι H ((do let ds<-zmy d;f ds) h) P):
  ∃ a vs ds,v= .ref a/\((SqL K H a vs/\ ∀ ts,d≠ .tup ts)\/(SqT K H a vs/\d= .tup ds))/\zaq K ι H ds vs/\Fin K E ι H (f ds h) P:=by
 cases d with
 | tup ds=>
  obtain ⟨a,vs,e,h1,h2⟩:=zcu r
  exact ⟨a,vs,ds,e,.inr ⟨h1,rfl⟩,h2,q⟩
 | lst ds=>
  obtain ⟨a,vs,e,h1,h2⟩:=zd6 r
  exact ⟨a,vs,ds,e,.inl ⟨h1,fun _ z=>by cases z⟩,h2,q⟩
 | scr ds=>
  obtain ⟨a,vs,e,h1,h2⟩:=zjA r
  exact ⟨a,vs,ds,e,.inl ⟨h1,fun _ z=>by cases z⟩,h2,q⟩
 | cel n=>
  have q':Fin K E ι H (M.bind (zal n) f h) P:=q
  unfold M.bind at q'
  cases z:zal n h with
  | bad=>rw [z] at q';exact qa0 q'
  | exc c h'=>unfold zal at z;split at z<;>cases z
  | ok ds h'=>
   rw [z] at q'
   obtain ⟨rfl,z2⟩:=zcr z
   obtain ⟨a,vs,e,hn,hH,rl⟩:=hr.read r z2
   exact ⟨a,vs,ds,e,.inl ⟨SqL.of hH,fun _ z=>by cases z⟩,rl,q'⟩
 | _=>exact qa0 q
theorem zlX {K:W.Frag} {H:Hp} {a:Addr} {vs:List V} {d:D} {ds:List D} (h:(SqL K H a vs/\ ∀ ts,d≠ .tup ts)\/(SqT K H a vs/\d= .tup ds)):SqL K H a vs\/SqT K H a vs:=h.imp And.left And.left
theorem zrE {K:W.Frag} {ι:Io} {H:Hp} {d:D} {xs:List V} (h:zaq K ι H [d] xs): ∃ v,xs=[v]/\Rel K ι H d v:=by
 simp only [zaq] at h
 obtain ⟨v,r,rfl,h1,rfl⟩:=h
 exact ⟨v,rfl,h1⟩
noncomputable def zmF {α:Type} (f:D->M α):List D->M α
 | [d]=>f d
 | _=>M.bad
theorem zcF {α:Type} {K:W.Frag} {ι:Io} {H:Hp} {h:Hh} {f:D->M α} {ds:List D} {xs:List V} {P:α->Io->Hp->Prop} (rl:zaq K ι H ds xs) (q:Fin K E ι H (zmF f ds h) P): ∃ d v,xs=[v]/\Rel K ι H d v/\Fin K E ι H (f d h) P:=by
 match ds,rl,q with
 | [d],rl,q=>
  obtain ⟨v,e,r⟩:=zrE rl
  exact ⟨d,v,e,r,q⟩
 | [],_,q=>exact qa0 q
 | _::_::_,_,q=>exact qa0 q
noncomputable def zem:List D->M D:=zmF fun d=>do let ds<-zmy d;pure (.int ds.length)
theorem zaF:zaJ X (.builtin "len") (zhh X.K E zem):=by
 refine zaJ.imp zgC fun xs H Q ⟨ι,h,ds,rl,hr,q⟩=> ?_
 obtain ⟨d,v,e,r,q⟩:=zcF rl q
 obtain ⟨a,vs,ds',e',hs,rl',q⟩:=zdH hr r q
 exact ⟨a,vs,by rw [e,e'],zlX hs,Fin.out hr q _ (by rw [rl'.length];simp [Rel])⟩
noncomputable def zcw:List D->M D:=zmF fun d=>do let ds<-zmy d;pure (.tup ds)
theorem za3:zaJ X (.type "tuple") (zhh X.K E zcw):=by
 refine zaJ.imp zfk fun xs H Q ⟨ι,h,ds,rl,hr,q⟩=> ?_
 obtain ⟨d,v,e,r,q⟩:=zcF rl q
 obtain ⟨a,vs,ds',e',hs,rl',q⟩:=zdH hr r q
 refine ⟨a,vs,by rw [e,e'],?_⟩
 rcases hs with ⟨hs,_⟩ | ⟨hs,hd⟩
 ·exact .inl ⟨hs,fun l hl=>zmL hr rl' q hl⟩
 ·exact .inr ⟨hs,Fin.out hr q _ (by rw [<- e', <-hd];exact r)⟩
noncomputable def zoy:List D->M D:=zmF fun d=>do let ds<-zmy d;pure (.lst ds)
theorem ziL:zaJ X (.type "list") (zhh X.K E zoy):=by
 refine zaJ.imp zgk fun xs H Q ⟨ι,h,ds,rl,hr,q⟩=> ?_
 obtain ⟨d,v,e,r,q⟩:=zcF rl q
 obtain ⟨a,vs,ds',e',hs,rl',q⟩:=zdH hr r q
 exact ⟨a,vs,by rw [e,e'],zlX hs,fun l hl=>zoF hr rl' q hl⟩
noncomputable def two2 (g:Int->Int->Int):List D->M D
 | [.int i,.int j]=>pure (.int (g i j))
 | _=>M.bad
theorem two2_inv {K:W.Frag} {ι:Io} {H:Hp} {h:Hh} {g:Int->Int->Int} {ds:List D} {xs:List V} {P:D->Io->Hp->Prop} (hr:za6 K ι H h) (rl:zaq K ι H ds xs) (q:Fin K E ι H (two2 g ds h) P): ∃ i j,xs=[.int i,.int j]/\P (.int (g i j)) ι H:=by
 unfold two2 at q
 split at q
 ·simp only [zaq,Rel] at rl
  obtain ⟨v,r,rfl,rfl,v',r',rfl,rfl,rfl⟩:=rl
  exact ⟨_,_,rfl,Fin.out hr q⟩
 ·exact qa0 q
noncomputable def znZ:=two2 fun i j=>if j>i then j else i
noncomputable def znk:=two2 fun i j=>if j<i then j else i
theorem zir (hc:X.calm=true):zaJ X (.builtin "max") (zhh X.K E znZ):=by
 refine zaJ.imp (zjl hc) fun xs H Q ⟨ι,h,ds,rl,hr,q⟩=> ?_
 obtain ⟨i,j,e,q⟩:=two2_inv hr rl q
 exact ⟨i,j,e,q _ (by simp [Rel])⟩
theorem ziH (hc:X.calm=true):zaJ X (.builtin "min") (zhh X.K E znk):=by
 refine zaJ.imp (zku hc) fun xs H Q ⟨ι,h,ds,rl,hr,q⟩=> ?_
 obtain ⟨i,j,e,q⟩:=two2_inv hr rl q
 exact ⟨i,j,e,q _ (by simp [Rel])⟩
noncomputable def zkP:List D->Option (List Bool)
 | []=>some []
 | .bl b::r=>(zkP r).map (b:: ·)
 | _=>none
noncomputable def zd2:List D->Option (List Int)
 | []=>some []
 | .int i::r=>(zd2 r).map (i:: ·)
 | _=>none
theorem zfi {K:W.Frag} {ι:Io} {H:Hp}: ∀ {ds:List D} {vs:List V} {bs:List Bool},zaq K ι H ds vs->zkP ds=some bs->vs=bs.map V.bl
 | [],_,_,h,e=>by simp only [zaq] at h;subst h;cases e;rfl
 | d::ds,_,bs,h,e=>by
  simp only [zaq] at h
  obtain ⟨v,r,rfl,h1,h2⟩:=h
  cases d with
  | bl b=>
   unfold zkP at e
   cases z:zkP ds with
   | none=>rw [z] at e;cases e
   | some cs=>
    rw [z] at e
    cases e
    simp only [Rel] at h1
    rw [h1,zfi h2 z]
    rfl
  | _=>cases e
theorem zdD {K:W.Frag} {ι:Io} {H:Hp}: ∀ {ds:List D} {vs:List V} {bs:List Int},zaq K ι H ds vs->zd2 ds=some bs->vs=bs.map V.int
 | [],_,_,h,e=>by simp only [zaq] at h;subst h;cases e;rfl
 | d::ds,_,bs,h,e=>by
  simp only [zaq] at h
  obtain ⟨v,r,rfl,h1,h2⟩:=h
  cases d with
  | int b=>
   unfold zd2 at e
   cases z:zd2 ds with
   | none=>rw [z] at e;cases e
   | some cs=>
    rw [z] at e
    cases e
    simp only [Rel] at h1
    rw [h1,zdD h2 z]
    rfl
  | _=>cases e
theorem Fin.ofOb {α β:Type} {K:W.Frag} {ι:Io} {H:Hp} {h:Hh} {o:Option α} {f:α->M β} {P:β->Io->Hp->Prop} (q:Fin K E ι H ((do let a<-L3.ofO o;f a) h) P): ∃ a,o=some a/\Fin K E ι H (f a h) P:=by
 cases o with
 | none=>exact qa0 q
 | some a=>exact ⟨a,rfl,q⟩
noncomputable def zoL:List D->M D:=zmF fun d=>match d with
 | .lst ds=>do let bs<-ofO (zkP ds);pure (.bl (bs.all id))
 | _=>M.bad
theorem zdG (hc:X.calm=true):zaJ X (.builtin "all") (zhh X.K E zoL):=by
 refine zaJ.imp (zkz hc) fun xs H Q ⟨ι,h,ds,rl,hr,q⟩=> ?_
 obtain ⟨d,v,e,r,q⟩:=zcF rl q
 cases d with
 | lst ds=>
  obtain ⟨a,vs,e',h1,h2⟩:=zd6 r
  obtain ⟨bs,eb,q⟩:=Fin.ofOb q
  have:=zfi h2 eb
  subst this
  exact ⟨a,bs,by rw [e,e'],h1,Fin.out hr q _ (by simp [Rel])⟩
 | _=>exact qa0 q
noncomputable def zsU:List D->M D:=zmF fun d=>match d with
 | .lst ds=>do let bs<-ofO (zd2 ds);pure (.int bs.sum)
 | _=>M.bad
noncomputable def zdU:List D->M D:=zmF fun d=>do
 let ds<-zmy d
 let ns<-ofO (zd2 ds)
 if ns.length<64 then pure (.lst ((zbu ns).map D.int)) else M.bad
theorem zcL (hc:X.calm=true):zaJ X (.builtin "sorted") (zhh X.K E zdU):=by
 refine zaJ.imp (zeb hc) fun xs H Q ⟨ι,h,ds,rl,hr,q⟩=> ?_
 obtain ⟨d,v,e,r,q⟩:=zcF rl q
 obtain ⟨a,vs,ds',e',hs,rl',q⟩:=zdH hr r q
 obtain ⟨ns,en,q⟩:=Fin.ofOb q
 have:=zdD rl' en
 subst this
 obtain ⟨hl,q⟩:=Fin.guard q
 exact ⟨a,ns,by rw [e,e'],.inr ⟨⟨hl,zlX hs⟩,fun l hl=>zoF hr (zco.mpr rfl) q hl⟩⟩
noncomputable def zc7 (d:D):M D:=do
 let ds<-zmy d
 let ns<-ofO (zd2 ds)
 if (ns.foldl step_dedup []).length<64/\ns.length<4000 then pure (.lst ((zey ns).map D.int)) else M.bad
theorem ziJ {p1 p2 pos2:Pos} {f:Sd->M D} (hc:X.calm=true) (hg1:Gl X "sorted") (hm1:X.mg "sorted"=none) (hg2:Gl X "set") (hm2:X.mg "set"=none) (he:SE X E e f)
  (h1:starEach [.Call (.Name "set" p2) [e] [] pos2] X.env=[(false,eval (.Call (.Name "set" p2) [e] [] pos2) X.env)]:=by rfl) (h2:starEach [e] X.env=[(false,eval e X.env)]:=by rfl):
  SE X E (.Call (.Name "sorted" p1) [.Call (.Name "set" p2) [e] [] pos2] [] pos) (fun sd=>do let d<-f sd;zc7 d):=by
 refine PE.imp (zdu (zeb hc) hg1 hm1 boot_sorted (zbm (zdO (zkc hc) hg2 hm2 PyProof.Rows.boot_set (zbm he zcS h2) (he:=h2)) zcS h1) (he:=h1)) fun σ H Q ⟨ι,h,sd,L,hh,q⟩=>⟨ι,h,sd,L,hh,Fin.bind q fun d h1 ι1 H1 e1 s1 hr1 q1 v rv=> ?_⟩
 obtain ⟨a,vs,ds',e',hs,rl',q2⟩:=zdH hr1 rv q1
 obtain ⟨ns,en,q3⟩:=Fin.ofOb q2
 have:=zdD rl' en
 subst this
 obtain ⟨hl,q4⟩:=Fin.guard q3
 refine ⟨a,ns,by rw [e'],zlX hs,hl.2,fun p hp=> ?_⟩
 have hr2:za6 X.K ι1 (upd H1 p (zjX X.prog X.w p ns)) h1:=hr1.laid hp
 exact ⟨p,ns,rfl,.inl ⟨⟨hl.1,zaU⟩,fun l hl'=>zoF hr2 (zco.mpr rfl) (Fin.step (hr1.laidS hp) q4) hl'⟩⟩
end
noncomputable def tyD:D->M String
 | .non=>pure "NoneType"
 | .bl _=>pure "bool"
 | .int _=>pure "int"
 | .str _=>pure "str"
 | .tup _=>pure "tuple"
 | .lst _=>pure "list"
 | .dct=>pure "dict"
 | .cel n=>do let _<-zal n;pure "list"
 | _=>M.bad
noncomputable def zkI:List String:=["NoneType","bool","int","str","tuple","list","dict"]
noncomputable def isB (T t:String):Bool:=t==T || (t=="bool" && T=="int")
noncomputable def zfR (T:String) (d:D):M D:=do let t<-tyD d;pure (.bl (isB T t))
def zim (T:String):Prop:= ∀ (K:W.Frag), ∀ t∈zkI,W.kitOne K (.type t) (.type T)=some (isB T t)
noncomputable def zs3 (t T:String):Option Bool:=if ((Value.type t)==(Value.type T))=true then some true else if W.kitMeta T=true then (fastBuiltinMro t).map (·.contains (Value.type T)) else none
theorem zfp {T:String} (h:(zkI.all fun t=>zs3 t T==some (isB T t))=true):zim T:=fun K t ht=>by
 have:=List.all_eq_true.mp h t ht
 have e:W.kitOne K (.type t) (.type T)=zs3 t T:=rfl
 rw [e]
 exact beq_iff_eq.mp this
theorem zjV:zim "int":=zfp (by decide +kernel)
theorem zfG:zim "bool":=zfp (by decide +kernel)
theorem zdF:zim "tuple":=zfp (by decide +kernel)
section
variable {X:Cx} {E:XE} {α:Type}
theorem zm2 {K:W.Frag} {ι:Io} {H:Hp} {h:Hh} {d:D} {v:V} {f:String->M α} {P:α->Io->Hp->Prop} (hr:za6 K ι H h) (r:Rel K ι H d v) (q:Fin K E ι H ((do let t<-tyD d;f t) h) P):
  ∃ t,t∈zkI/\zh0 K H v (.type t)/\Fin K E ι H (f t h) P:=by
 cases d with
 | non=>simp only [Rel] at r;subst r;exact ⟨_,by decide,.non,q⟩
 | bl b=>simp only [Rel] at r;subst r;exact ⟨_,by decide,.bl b,q⟩
 | int b=>simp only [Rel] at r;subst r;exact ⟨_,by decide,.int b,q⟩
 | str b=>simp only [Rel] at r;subst r;exact ⟨_,by decide,.str b,q⟩
 | tup ds=>
  simp only [Rel] at r
  obtain ⟨a,vs,e,h1,h2⟩:=r
  subst e
  exact ⟨_,by decide,.tup h1.1,q⟩
 | lst ds=>
  simp only [Rel] at r
  obtain ⟨a,vs,e,h1,h2⟩:=r
  subst e
  exact ⟨_,by decide,.lst h1.1,q⟩
 | dct=>
  simp only [Rel] at r
  obtain ⟨a,e,h1,h2⟩:=r
  subst e
  exact ⟨_,by decide,.dK h1,q⟩
 | cel n=>
  have q':Fin K E ι H (M.bind (zal n) (fun _=>f "list") h) P:=by
   have e:(do let t<-tyD (.cel n);f t:M α)=(zal n>>=fun _=>f "list"):=by
    show ((zal n>>=fun _=>pure "list")>>=f)=_
    simp only [bind_assoc,pure_bind]
   rw [e] at q
   exact q
  unfold M.bind at q'
  cases z:zal n h with
  | bad=>rw [z] at q';exact qa0 q'
  | exc c h'=>unfold zal at z;split at z<;>cases z
  | ok ds h'=>
   rw [z] at q'
   obtain ⟨rfl,z2⟩:=zcr z
   obtain ⟨a,vs,e,hn,hH,rl⟩:=hr.read r z2
   subst e
   exact ⟨_,by decide,.lst hH,q'⟩
 | _=>exact qa0 q
theorem zlh:zaJ X (.builtin "isinstance") (fun xs H Q=> ∃ x t T b,xs=[x,.ty T]/\zh0 X.K H x t/\W.kitOne X.K t (.type T)=some b/\Q (.bl b) H):=by
 intro pins s σ H xs us Q I r h
 obtain ⟨x,t,T,b,rfl,ty,e,q⟩:=h
 cases r with
 | cons r1 r2=>
  cases r2 with
  | cons r3 r4=>
   cases r4
   cases r3
   exact zkr I r1 ty e fun tk=>⟨.bl b,H,I.tok tk,rfl,q⟩
theorem zqv {a:Expr} {x:Str} {T:String} {p1 p2 pos:Pos} {fa:Sd->M D} (hk:zim T) (hg:Gl X "isinstance") (hm:X.mg "isinstance"=none) (hgT:Gl X x) (hmT:X.mg x=none) (hvT:bootBuiltins x=some (.type T)) (ha:SE X E a fa)
  (hn:x≠"__name__":=by decide) (hd:(x==("__debug__":Str))=false:=by decide)
  (h1:starEach [a,.Name x p2] X.env=(false,eval a X.env)::starEach [.Name x p2] X.env:=by rfl) (h2:starEach [.Name x p2] X.env=[(false,eval (.Name x p2) X.env)]:=by rfl)
  (hpl:(backTo pos (starEach [.Name x p2] X.env)).any (·.1)=false:=by rfl):
  SE X E (.Call (.Name "isinstance" p1) [a,.Name x p2] [] pos) (fun sd=>do let d<-fa sd;zfR T d):=by
 refine PE.imp (zdu zlh hg hm PyProof.Rows.boot_isinstance (zbm ha (zbm (zjB (v:= .ty T) hgT hmT hvT rfl hn hd) zcS h2) h1) (he:=h1) (hpl:=hpl)) fun σ H Q ⟨ι,h,sd,L,hh,q⟩=>⟨ι,h,sd,L,hh,Fin.bind q fun d h1 ι1 H1 e1 s1 hr1 q1 v rv=> ?_⟩
 obtain ⟨t,ht,ty,q2⟩:=zm2 hr1 rv q1
 exact ⟨v,.type t,T,isB T t,rfl,ty,hk X.K t ht,Fin.out hr1 q2 _ (by simp [Rel])⟩
noncomputable def zgj:D->D->M D
 | .bl a,.bl b=>pure (.bl (a != b))
 | _,_=>M.bad
theorem zjR:OpR X (compareOp .IsNot) (zdb X.K E zgj):=by
 intro pins s σ H x y v u Q I rx ry ⟨ι,h,d1,d2,r1,r2,hr,q⟩
 unfold zgj at q
 split at q
 ·simp only [Rel] at r1 r2
  subst r1 r2
  cases rx
  cases ry
  exact isnot_bool (zpR I (Fin.out hr q _ (by simp [Rel])) rfl)
 ·exact qa0 q
noncomputable def zkh (xs:List D) (lo hi:Option Int):List D:=(xs.drop (HT.sIx xs.length 0 lo)).take (HT.sIx xs.length xs.length hi - HT.sIx xs.length 0 lo)
noncomputable def dSl (d:D) (lo hi:Option Int):M D:=match d with
 | .tup ds=>pure (.tup (zkh ds lo hi))
 | .lst ds=>pure (.lst (zkh ds lo hi))
 | _=>M.bad
noncomputable def ztj (K:W.Frag) (E:XE) (f:Sd->M (Option Int)):TO:=fun σ H Q=> ∃ ι h sd,zcy K ι H sd σ/\za6 K ι H h/\Fin K E ι H (f sd h) fun o ι' H'=>Q o H'
noncomputable abbrev SO (X:Cx) (E:XE) (e:Option Expr) (f:Sd->M (Option Int)):Prop:=PO X e (ztj X.K E f)
theorem PO.imp {e:Option Expr} {t t':TO} (h:PO X e t) (m: ∀ σ H Q,t' σ H Q->t σ H Q):PO X e t':=fun pins s σ H Q I q=>h pins s σ H Q I (m _ _ _ q)
noncomputable def zjZ:Sd->M (Option Int):=fun _=>pure none
noncomputable def zoc:D->M (Option Int)
 | .int i=>pure (some i)
 | _=>M.bad
noncomputable def zjK (f:Sd->M D):Sd->M (Option Int):=fun sd=>do let d<-f sd;zoc d
theorem zhg:SO X E none zjZ:=PO.imp zok fun σ H Q ⟨ι,h,sd,L,hh,q⟩=>Fin.out hh q
theorem zhm {e:Expr} {f:Sd->M D} (h:SE X E e f):SO X E (some e) (zjK f):=by
 refine PO.imp (zoz h) fun σ H Q ⟨ι,h,sd,L,hh,q⟩=>⟨ι,h,sd,L,hh,Fin.bind q fun d h1 ι1 H1 e1 s1 hr1 q1 v rv=> ?_⟩
 cases d with
 | int i=>simp only [Rel] at rv;exact ⟨i,rv,Fin.out hr1 q1⟩
 | _=>exact qa0 q1
noncomputable def cSl (f:Sd->M D) (lo hi:Sd->M (Option Int)):Sd->M D:=fun sd=>do let d<-f sd;let l<-lo sd;let u<-hi sd;dSl d l u
theorem zfE {e:Expr} {lo hi:Option Expr} {p2 pos:Pos} {f:Sd->M D} {fl fh:Sd->M (Option Int)} (he:SE X E e f) (hl:SO X E lo fl) (hu:SO X E hi fh):SE X E (.Subscript e (.Slice lo hi none p2) pos) (cSl f fl fh):=by
 refine PE.imp (zl2 (znJ.or (zq4.or zoE)) he hl hu) fun σ H Q ⟨ι,h,sd,L,hh,q⟩=>⟨ι,h,sd,L,hh,Fin.bind q fun d h1 ι1 H1 e1 s1 hr1 q1 v rv=> ?_⟩
 refine ⟨ι1,h1,sd,L.step s1,hr1,Fin.bind q1 fun l h2 ι2 H2 e2 s2 hr2 q2=> ?_⟩
 refine ⟨ι2,h2,sd,(L.step s1).step s2,hr2,Fin.bind q2 fun u h3 ι3 H3 e3 s3 hr3 q3=> ?_⟩
 have rv3:=(rv.step s2).step s3
 cases d with
 | tup ds=>
  obtain ⟨a,vs,e,k1,k2⟩:=zcu rv3
  by_cases hw:HT.sIx vs.length 0 l=0/\HT.sIx vs.length vs.length u=vs.length
  ·refine .inl ⟨a,vs,e,k1,hw,?_⟩
   have ec:zkh ds l u=ds:=by
    unfold zkh
    rw [k2.length,hw.1,hw.2, <-k2.length]
    simp
   refine Fin.out hr3 q3 _ ?_
   rw [ec, <-e]
   exact rv3
  ·refine .inr (.inl ⟨a,vs,e,k1,hw,fun p hp=>zmL hr3 ?_ q3 hp⟩)
   unfold zkh zmE
   rw [k2.length]
   exact zaq.take _ (zaq.drop _ k2)
 | lst ds=>
  obtain ⟨a,vs,e,k1,k2⟩:=zd6 rv3
  refine .inr (.inr ⟨a,vs,e,k1,fun p hp=>zoF hr3 ?_ q3 hp⟩)
  unfold zkh zmE
  rw [k2.length]
  exact zaq.take _ (zaq.drop _ k2)
 | _=>exact qa0 q3
noncomputable def zrx:D->M D
 | .tup ds=>pure (.tup ds.reverse)
 | _=>M.bad
theorem zra {e:Expr} {p2 pos p3 p4:Pos} {j:Nat} {f:Sd->M D} (he:SE X E e f):SE X E (.Subscript e (.Slice none none (some (.UnaryOp .USub (.Constant (.int 1) j p3) p4)) p2) pos) (fun sd=>do let d<-f sd;zrx d):=by
 refine PE.imp (zqR he (PE.imp (zpT zmv zmg) fun σ H Q q=>⟨1,rfl,q⟩)) fun σ H Q ⟨ι,h,sd,L,hh,q⟩=>⟨ι,h,sd,L,hh,Fin.bind q fun d h1 ι1 H1 e1 s1 hr1 q1 v rv=> ?_⟩
 cases d with
 | tup ds=>
  obtain ⟨a,vs,e,k1,k2⟩:=zcu rv
  exact ⟨a,vs,e,k1,fun p hp=>zmL hr1 k2.reverse q1 hp⟩
 | _=>exact qa0 q1
noncomputable def ziQ (x y:D):M D:=match x,y with
 | .int i,.int j=>if (zbd i || zbd j)=true then pure (.int (i*j)) else M.bad
 | .tup xs,.int k=>if xs≠[]/\2<=k/\k<1000/\xs.length*k.toNat<=sizeLine then pure (.tup (List.replicate k.toNat xs).flatten) else M.bad
 | _,_=>M.bad
theorem zaq.rep {K:W.Frag} {ι:Io} {H:Hp} {ds:List D} {vs:List V} (h:zaq K ι H ds vs): ∀ n,zaq K ι H (List.replicate n ds).flatten (List.replicate n vs).flatten
 | 0=>zaq.nil
 | n+1=>by
  rw [List.replicate_succ,List.replicate_succ,List.flatten_cons,List.flatten_cons]
  exact zaq.append h (zaq.rep h n)
theorem zdi:OpR X (binaryOp .Mult) (zdb X.K E ziQ):=by
 refine OpR.imp (zoS.or ziZ) fun x y H Q ⟨ι,h,d1,d2,r1,r2,hr,q⟩=> ?_
 unfold ziQ at q
 split at q
 ·simp only [Rel] at r1 r2
  obtain ⟨c,q⟩:=Fin.guard q
  refine .inl ⟨_,_,r1,r2,?_,Fin.out hr q _ (by simp [Rel])⟩
  rcases (Bool.or_eq_true _ _).mp c with z | z
  ·exact .inl (zcA z)
  ·exact .inr (zcA z)
 ·simp only [Rel] at r2
  obtain ⟨a,vs,e,k1,k2⟩:=zcu r1
  obtain ⟨⟨c1,c2,c3,c4⟩,q⟩:=Fin.guard q
  refine .inr ⟨a,_,vs,e,r2,k1,fun z=>c1 ?_,c2,c3,by rw [<- k2.length];exact c4,fun p hp=>zmL hr (k2.rep _) q hp⟩
  subst z
  exact List.eq_nil_of_length_eq_zero k2.length
 ·exact qa0 q
theorem ziq {pins:List (Addr×Obj)} {σ:L2.St} {H:Hp} {s:Shared} (I:Inv X pins σ H s):sysModules<s.heap.objs.size:=
 Nat.lt_trans (by decide) (show mainGlobals<s.heap.objs.size from (I.mod.glob.keeps I.bk).lt)
theorem zlf {pos:Pos}:PE X (.Dict [] [] pos) (fun _ H Q=> ∀ p,H p=none->Q (.ref p) (upd H p (.dK []))):=fun pins s σ H Q I h=>
 wpAny_Dict_empty ⟨.ref s.heap.objs.size,_,I.laid (a:=s.heap.objs.size) (o:= .dK []) (t':=s.toks) (fun _ _ q=>qag _ q) (qaV _)
   ⟨Nat.zero_le _,beq_eq_false_iff_ne.mpr (Ne.symm (qaR (ziq I))),[],.nil,Heap.DictOf.new s.heap⟩,rfl,h _ (I.hok.fresh (qaV _))⟩
theorem zle {pos:Pos}:SE X E (.Dict [] [] pos) (fun _=>pure .dct):=by
 refine PE.imp zlf fun σ H Q ⟨ι,h,sd,L,hh,q⟩ p hp=> ?_
 exact q ι _ (hh.laidS hp) (hh.laid hp) _ (by
   simp only [Rel]
   exact ⟨p,rfl,zaU,hh.nin hp⟩)
mutual
noncomputable def pdH (h:Hh):D->Option PyData
 | .non=>some .none
 | .bl b=>some (.bool b)
 | .int i=>some (.int i)
 | .str x=>some (.str x)
 | .tup xs=>(ziT h xs).map .tuple
 | .lst xs=>(ziT h xs).map .list
 | .cel n=>match h[n]? with
  | some (.lst ds)=>(pdL ds).map .list
  | _=>none
 | _=>none
noncomputable def ziT (h:Hh):List D->Option (List PyData)
 | []=>some []
 | x::xs=>match pdH h x,ziT h xs with
  | some a,some r=>some (a::r)
  | _,_=>none
end
mutual
theorem zj2 {pins:List (Addr×Obj)} {σ:L2.St} {H:Hp} {s:Shared} {ι:Io} {h:Hh} (I:Inv X pins σ H s) (hr:za6 X.K ι H h): ∀ {d:D} {v:V} {u:Value} {p:PyData},Rel X.K ι H d v->zbE v u->pdH h d=some p-> ∃ as,Reads s.heap u p as
 | .non,v,u,p,r,ru,e=>by simp only [Rel] at r;subst r;cases ru;simp only [pdH] at e;cases e;exact ⟨_,.none⟩
 | .bl b,v,u,p,r,ru,e=>by simp only [Rel] at r;subst r;cases ru;simp only [pdH] at e;cases e;exact ⟨_,.bool _⟩
 | .int i,v,u,p,r,ru,e=>by simp only [Rel] at r;subst r;obtain ⟨t,rfl⟩:=ru;simp only [pdH] at e;cases e;exact ⟨_,.int _ _⟩
 | .str i,v,u,p,r,ru,e=>by simp only [Rel] at r;subst r;obtain ⟨t,rfl⟩:=ru;simp only [pdH] at e;cases e;exact ⟨_,.str _ _⟩
 | .tup ds,v,u,p,r,ru,e=>by
  obtain ⟨a,vs,rfl,h1,h2⟩:=zcu r
  cases ru
  obtain ⟨its,rv,pl,_⟩:=I.tuple h1
  obtain ⟨o,ho,hc,n,hd⟩:=pl
  simp only [pdH] at e
  cases z:ziT h ds with
  | none=>rw [z] at e;cases e
  | some ps=>
   rw [z] at e;cases e
   obtain ⟨as,q⟩:=zg0 I hr h2 rv z
   exact ⟨_,.tuple ho hc hd (by simpa using q)⟩
 | .lst ds,v,u,p,r,ru,e=>by
  obtain ⟨a,vs,rfl,h1,h2⟩:=zd6 r
  cases ru
  obtain ⟨its,rv,pl,_⟩:=I.list h1
  obtain ⟨o,ho,hc,n,hd⟩:=pl.isList
  simp only [pdH] at e
  cases z:ziT h ds with
  | none=>rw [z] at e;cases e
  | some ps=>
   rw [z] at e;cases e
   obtain ⟨as,q⟩:=zg0 I hr h2 rv z
   exact ⟨_,.list ho hc hd (by simpa using q)⟩
 | .cel m,v,u,p,r,ru,e=>by
  simp only [pdH] at e
  cases z0:h[m]? with
  | none=>rw [z0] at e;cases e
  | some c=>
   rw [z0] at e
   cases c with
   | dead=>cases e
   | dic _=>cases e
   | lst ds=>
    obtain ⟨a,vs,rfl,hn,hH,rl⟩:=hr.read r z0
    cases ru
    obtain ⟨its,rv,pl,_⟩:=I.list (SqL.of hH)
    obtain ⟨o,ho,hc,n,hd⟩:=pl.isList
    cases z:pdL ds with
    | none=>simp only [z] at e;cases e
    | some ps=>
     simp only [z] at e;cases e
     obtain ⟨as,q⟩:=zfV I rl rv z
     exact ⟨_,.list ho hc hd (by simpa using q)⟩
 | .scr ds,_,_,_,_,_,e=>by simp only [pdH] at e;cases e
 | .set xs,_,_,_,_,_,e=>by simp only [pdH] at e;cases e
 | .dct,_,_,_,_,_,e=>by simp only [pdH] at e;cases e
 | .fn _,_,_,_,_,_,e=>by simp only [pdH] at e;cases e
 | .exn _,_,_,_,_,_,e=>by simp only [pdH] at e;cases e
theorem zg0 {pins:List (Addr×Obj)} {σ:L2.St} {H:Hp} {s:Shared} {ι:Io} {h:Hh} (I:Inv X pins σ H s) (hr:za6 X.K ι H h): ∀ {ds:List D} {vs:List V} {us:List Value} {ps:List PyData},zaq X.K ι H ds vs->zaZ vs us->ziT h ds=some ps-> ∃ as,ReadsAll s.heap us ps as
 | [],vs,us,ps,r,ru,e=>by simp only [zaq] at r;subst r;cases ru;simp only [ziT] at e;cases e;exact ⟨_,.nil⟩
 | d::ds,vs,us,ps,r,ru,e=>by
  simp only [zaq] at r
  obtain ⟨v,vr,rfl,r1,r2⟩:=r
  cases ru with
  | cons ru1 ru2=>
   simp only [ziT] at e
   cases z:pdH h d with
   | none=>rw [z] at e;cases e
   | some a=>
    cases z2:ziT h ds with
    | none=>rw [z,z2] at e;cases e
    | some b=>
     rw [z,z2] at e
     cases e
     obtain ⟨as,q1⟩:=zj2 I hr r1 ru1 z
     obtain ⟨bs,q2⟩:=zg0 I hr r2 ru2 z2
     exact ⟨_,.cons q1 q2⟩
end
noncomputable def zpU (x y:D):M D:=fun h=>match pdH h x,pdH h y with
 | some a,some b=>if zgf a b=true then .ok (.bl (PyData.eqv a b)) h else .bad
 | _,_=> .bad
theorem zrg (hu:X.A.units+60<cLine):OpR X (compareOp .Eq) (zdb X.K E zpU):=by
 intro pins s σ H x y v u Q I rx ry ⟨ι,h,d1,d2,r1,r2,hr,q⟩
 unfold zpU at q
 cases e1:pdH h d1 with
 | none=>rw [e1] at q;exact qa0 q
 | some a=>
  cases e2:pdH h d2 with
  | none=>rw [e1,e2] at q;exact qa0 q
  | some b=>
   rw [e1,e2] at q
   dsimp only at q
   by_cases c:zgf a b=true
   ·rw [qa4 c] at q
    obtain ⟨c1,c2,c3⟩:=zfq c
    obtain ⟨as,ra⟩:=zj2 I hr r1 rx e1
    obtain ⟨bs,rb⟩:=zj2 I hr r2 ry e2
    exact SeqAt.compareEq_reads ra rb c1 c2 (by omega) ⟨.bl _,H,I,rfl,q ι H (zbS.refl _ _) hr (.bl _) (by simp [Rel])⟩
   ·rw [qa5 c] at q
    exact qa0 q
end
noncomputable abbrev FE:=Sd->M D
noncomputable abbrev FT:=Sd->M Bool
noncomputable abbrev FA:=Sd->M (List D)
noncomputable abbrev FS:=Sd->M Out
noncomputable def cOp (F:D->D->M D) (a b:FE):FE:=fun sd=>do let x<-a sd;let y<-b sd;F x y
noncomputable def cUn (F:D->M D) (a:FE):FE:=fun sd=>do let x<-a sd;F x
noncomputable def zaH (F:List D->M D) (a:FA):FE:=fun sd=>do let ds<-a sd;F ds
noncomputable def zeg (F:D->D->M D) (a b:FE):FT:=fun sd=>do let z<-(do let x<-a sd;let y<-b sd;F x y);zda z
noncomputable def zfQ (a:FE):FT:=fun sd=>do let x<-a sd;zda x
noncomputable def ze5 (t:FT):FT:=fun sd=>do let c<-t sd;pure (!c)
noncomputable def zsQ (t u:FT):FT:=fun sd=>do let c<-t sd;if c=true then u sd else pure false
noncomputable def tOr (t u:FT):FT:=fun sd=>do let c<-t sd;if c=true then pure true else u sd
noncomputable def zkK (a b:FE):FE:=fun sd=>do let c<-(do let x<-a sd;zda x);if c=true then b sd else pure (.bl false)
noncomputable def cOr (a b:FE):FE:=fun sd=>do let c<-(do let x<-a sd;zda x);if c=true then pure (.bl true) else b sd
noncomputable def zpZ (a:FE):FE:=fun sd=>do let c<-(do let x<-a sd;zda x);pure (.bl (!c))
noncomputable def cIf (t:FT) (a b:FE):FE:=fun sd=>do let c<-t sd;if c=true then a sd else b sd
noncomputable def cK (d:D):FE:=fun _=>pure d
noncomputable def zan:FA:=fun _=>pure []
noncomputable def zab (a:FE) (r:FA):FA:=fun sd=>do let x<-a sd;let r<-r sd;pure (x::r)
noncomputable def zb4 (fs:FA):FE:=fun sd=>do let ds<-fs sd;fits ds.length;pure (.tup ds)
noncomputable def zfd (fs:FA):FE:=fun sd=>do let ds<-fs sd;fits ds.length;pure (.lst ds)
noncomputable def zix (fs:FA):FE:=fun sd=>do let ds<-fs sd;fits ds.length;zdm ds
noncomputable def zfD:FS:=fun sd=>pure (.nx sd)
noncomputable def zat (g g':FS):FS:=fun sd=>do let o<-g sd;andThen o g'
noncomputable def zbA (i:Nat) (f:FE):FS:=fun sd=>do let d<-f sd;pure (.nx (sd.set i (some d)))
noncomputable def zbO (f:FE):FS:=fun sd=>do let d<-f sd;pure (.rt d)
noncomputable def sIf (t:FT) (g g':FS):FS:=fun sd=>do let c<-t sd;if c=true then g sd else g' sd
noncomputable def zkL (fi:FA) (g:D->Sd->M Sd) (gb:FS):FS:=fun sd=>do let ds<-fi sd;zba (fun x sd=>do let sd1<-g x sd;gb sd1) ds sd
noncomputable def zkM (f:FE) (g:D->Sd->M Sd):FS:=fun sd=>do let d<-f sd;let sd'<-g d sd;pure (.nx sd')
noncomputable def zmZ (f:FE):FS:=fun sd=>do let _<-f sd;pure (.nx sd)
noncomputable def iSq (f:FE):FA:=fun sd=>do let d<-f sd;zdM d
noncomputable def zgR (fs:FA):FA:=fun sd=>do let ds<-fs sd;zkw ds
noncomputable def zkZ (fo fi:FE):D->Sd->M Sd:=fun d sd=>do let x<-fo sd;let y<-fi sd;zjW x y d;pure sd
section
variable {X:Cx} {E:XE} {a b e c:Expr} {es:List Expr} {pos p p1 p2:Pos} {fa fb f:FE} {fs:FA} {x:Str}
theorem zac (i:Nat) (hN:X.N[i]? = some x:=by rfl) (hv:Vis X.env.scope x:=by first | exact Or.inl rfl | exact Or.inr (Or.inl rfl) | exact Or.inr (Or.inr rfl)) (hd:(x==("__debug__":Str))=false:=by decide) (hcd:(x==("__classdict__":Str))=false:=by decide):SE X E (.Name x pos) (zaf i):=zqW i hN hv hd hcd
theorem zag {i:Int} {j:Nat}:SE X E (.Constant (.int i) j pos) (cK (.int i)):=zo3
theorem zfY {i:Bool} {j:Nat}:SE X E (.Constant (.bool i) j pos) (cK (.bl i)):=zsi
theorem znU {j:Nat}:SE X E (.Constant .none j pos) (cK .non):=zqa
theorem zc8 {i:Str} {j:Nat}:SE X E (.Constant (.str i) j pos) (cK (.str i)):=zp9
theorem za7 {op:Operator} {F:D->D->M D} (ho:OpR X (binaryOp op) (zdb X.K E F)) (ha:SE X E a fa) (hb:SE X E b fb):SE X E (.BinOp a op b pos) (cOp F fa fb):=zsy ho ha hb
theorem zeX {op:CmpOp} {F:D->D->M D} (ho:OpR X (compareOp op) (zdb X.K E F)) (ha:SE X E a fa) (hb:SE X E b fb) (hm:behindInMarks op b=false:=by rfl):SE X E (.Compare a [op] [b] pos) (cOp F fa fb):=zqx ho ha hb hm
theorem zbb {op:CmpOp} {F:D->D->M D} (ho:OpR X (compareOp op) (zdb X.K E F)) (ha:SE X E a fa) (hb:SE X E b fb) (hm:behindInMarks op b=false:=by rfl):ST X E (.Compare a [op] [b] pos) (zeg F fa fb):=zqO ho ha hb hm
theorem zbg (ha:SE X E a fa) (hb:SE X E b fb) (hs:zha b:=by intro _ _;rfl):SE X E (.Subscript a b pos) (cOp dIx fa fb):=zsm zth ha hb hs
theorem zqU (ha:SE X E a fa):SE X E (.UnaryOp .USub a pos) (cUn zqy fa):=zpM ha
theorem znQ (ha:SE X E a fa):SE X E (.UnaryOp .Not a pos) (zpZ fa):=zqG ha
theorem zgi {op:BoolOp} (h:SE X E a fa):SE X E (.BoolOp op [a] pos) fa:=zoV h
theorem zfU {rest:List Expr} (ha:SE X E a fa) (hb:SE X E (.BoolOp .And (b::rest) pos) fb):SE X E (.BoolOp .And (a::b::rest) pos) (zkK fa fb):=zqe ha hb
theorem zbM (h:SE X E e f) (he: ∀ whole,isTrue e X.env whole=(do let v<-whole;standAt e.pos;holding [v] (truthy v)):=by intro _;rfl):ST X E e (zfQ f):=zpk h he
theorem zbL {t:FT} (ha:ST X E a t):ST X E (.UnaryOp .Not a pos) (ze5 t):=zq7 ha
theorem zeu {t:FT} (ha:ST X E a t):PW X (.BoolOp .Or [a] pos) (ziD X.K E t):=zoN ha
theorem zeV {rest:List Expr} {t u:FT} (ha:ST X E a t) (hb:PW X (.BoolOp .Or (b::rest) pos) (ziD X.K E u)):PW X (.BoolOp .Or (a::b::rest) pos) (ziD X.K E (tOr t u)):=zrG ha hb
theorem zdn {op:BoolOp} {vs:List Expr} {t:FT} (h:PW X (.BoolOp op vs pos) (ziD X.K E t)):ST X E (.BoolOp op vs pos) t:=znr h
theorem zi2 {env:Env} (h: ∀ v p,e≠ .Starred v p):starEach (e::es) env=(false,eval e env)::starEach es env:=by
 cases e<;>first | rfl | exact absurd rfl (h _ _)
theorem zad:SA X E [] zan:=zpO
theorem zaa (ha:SE X E e fa) (hr:SA X E es fs) (hs:starEach (e::es) X.env=(false,eval e X.env)::starEach es X.env:=by exact zi2 (fun _ _ z=>nomatch z)):SA X E (e::es) (zab fa fs):=zom ha hr hs
theorem zaX {k} (h:SA X E es fs):SE X E (.Tuple es k pos) (zb4 fs):=zqf h
theorem zcK (h:SA X E es fs):SE X E (.List es pos) (zfd fs):=zoZ h
theorem zhC (h:SA X E es fs):SE X E (.List es pos) (zix fs):=znb h
theorem zon:SE X E (.Dict [] [] pos) (cK .dct):=zle
theorem zrQ {p3 p4:Pos} {j:Nat} (he:SE X E e f):SE X E (.Subscript e (.Slice none none (some (.UnaryOp .USub (.Constant (.int 1) j p3) p4)) p2) pos) (cUn zrx f):=zra he
theorem zaA {id:String} {F:List D->M D} (hc:zaJ X (.builtin id) (zhh X.K E F)) (hv:bootBuiltins x=some (.builtin id)) (hm:X.mg x=none) (ha:SA X E (e::es) fs) (hg:Gl X x:=by rfl) (hn:x≠"__name__":=by decide) (hdb:(x==("__debug__":Str))=false:=by decide)
  (he:starEach (e::es) X.env=(false,eval e X.env)::starEach es X.env:=by rfl) (hpl:(backTo pos (starEach es X.env)).any (·.1)=false:=by rfl):SE X E (.Call (.Name x p) (e::es) [] pos) (zaH F fs):=zl7 hc hg hm hv ha hn hdb he hpl
theorem zbe {T:String} {F:List D->M D} (hc:zaJ X (.type T) (zhh X.K E F)) (hv:bootBuiltins x=some (.type T)) (hm:X.mg x=none) (ha:SA X E (e::es) fs) (hg:Gl X x:=by rfl) (hn:x≠"__name__":=by decide) (hdb:(x==("__debug__":Str))=false:=by decide)
  (he:starEach (e::es) X.env=(false,eval e X.env)::starEach es X.env:=by rfl) (hpl:(backTo pos (starEach es X.env)).any (·.1)=false:=by rfl):SE X E (.Call (.Name x p) (e::es) [] pos) (zaH F fs):=zki hc hg hm hv ha hn hdb he hpl
theorem zfl {T:String} (hk:zim T) (hvT:bootBuiltins x=some (.type T)) (hm:X.mg "isinstance"=none) (hmT:X.mg x=none) (ha:SE X E a fa) (hg:Gl X "isinstance":=by rfl) (hgT:Gl X x:=by rfl)
  (hn:x≠"__name__":=by decide) (hd:(x==("__debug__":Str))=false:=by decide)
  (h1:starEach [a,.Name x p2] X.env=(false,eval a X.env)::starEach [.Name x p2] X.env:=by rfl) (h2:starEach [.Name x p2] X.env=[(false,eval (.Name x p2) X.env)]:=by rfl)
  (hpl:(backTo pos (starEach [.Name x p2] X.env)).any (·.1)=false:=by rfl):SE X E (.Call (.Name "isinstance" p1) [a,.Name x p2] [] pos) (cUn (zfR T) fa):=zqv hk hg hm hgT hmT hvT ha hn hd h1 h2 hpl
theorem zi3 {pos2:Pos} (hc:X.calm=true) (hm1:X.mg "sorted"=none) (hm2:X.mg "set"=none) (he:SE X E e f) (hg1:Gl X "sorted":=by rfl) (hg2:Gl X "set":=by rfl)
  (h1:starEach [.Call (.Name "set" p2) [e] [] pos2] X.env=[(false,eval (.Call (.Name "set" p2) [e] [] pos2) X.env)]:=by rfl) (h2:starEach [e] X.env=[(false,eval e X.env)]:=by rfl):
  SE X E (.Call (.Name "sorted" p1) [.Call (.Name "set" p2) [e] [] pos2] [] pos) (cUn zc7 f):=ziJ hc hg1 hm1 hg2 hm2 he h1 h2
theorem zar {k:Nat} {g:Addr} {fd:FuncData} {ps:List Str} {n:Nat} {F:List D->M D} (G:zbr X.prog X.w X.K X.mg X.base CX0 k g fd ps (zbT X.K n F)) (hr:zdf k X.A) (hm:X.mg x=some (.ref g)) (hk:W.keepIn X.K (.ref g)=true) (hb:zaM X.K fd ps [])
  (ha:SA X E0x (e::es) fs) (hg:Gl X x:=by rfl) (hdb:(x==("__debug__":Str))=false:=by decide) (he:starEach (e::es) X.env=(false,eval e X.env)::starEach es X.env:=by rfl) (hpl:(backTo pos (starEach es X.env)).any (·.1)=false:=by rfl):
  SE X E0x (.Call (.Name x p) (e::es) [] pos) (zaH (zav n F) fs):=zns G hr hg hm hk hb ha hdb he hpl
theorem zbD:SSs X E [] zfD:=zqw
theorem zap {st:Stmt} {g:FS} (h1:SS X E st g):SSs X E [st] g:=zo0 h1
theorem zah {st:Stmt} {rest:List Stmt} {g g':FS} (h1:SS X E st g) (h2:SSs X E rest g'):SSs X E (st::rest) (zat g g'):=znn h1 h2
theorem zaS (he:SE X E e f):SS X E (.Return (some e) pos) (zbO f):=zsO he
theorem zgl {ys ns:List Stmt} {t:FT} {g g':FS} (hc:ST X E c t) (ha:SSs X E ys g) (hb:SSs X E ns g'):SS X E (.If c ys ns pos) (sIf t g g'):=ztq hc ha hb
theorem zpq (he:SE X E e f) (hs:swapsWith e none pos.line X.env=pure false:=by rfl):SS X E (.Expr e pos) (zmZ f):=zq9 he hs
theorem zaV (i:Nat) (hN:X.N.Nodup) (he:SE X E e f) (hi:X.N[i]? = some x:=by rfl) (hx:Loc X.env.scope x:=by first | exact Or.inl rfl | exact Or.inr rfl) (hf:X.fn x=true\/X.env.scope.names.lookup x=some .local:=by first | exact Or.inl rfl | exact Or.inr rfl)
  (hs:swapsWith e (some (.Name x p)) pos.line X.env=pure false:=by rfl):SS X E (.Assign [.Name x p] e pos) (zbA i f):=zsj i hN hi hx hf he hs
theorem zgh {tg:Expr} {g:D->Sd->M Sd} (he:SE X E e f) (hg:SG X E tg g) (hs:swapsWithSole [tg] e pos.line X.env=pure false:=by rfl) (hw:swappedStores [tg] e X.env=pure none:=by rfl)
  (h1:(assignEach [tg] X.env).map (·.2)=[assign tg X.env]:=by rfl):SS X E (.Assign [tg] e pos) (zkM f g):=zrL he hg hs hw h1
theorem zao (i:Nat) (hN:X.N.Nodup) (hi:X.N[i]? = some x:=by rfl) (hx:Loc X.env.scope x:=by first | exact Or.inl rfl | exact Or.inr rfl) (hf:X.fn x=true\/X.env.scope.names.lookup x=some .local:=by first | exact Or.inl rfl | exact Or.inr rfl):SG X E (.Name x pos) (zaW i):=zni i hN hi hx hf
theorem zb2:SGs X E [] zbW:=zm9
theorem zaE {g:D->Sd->M Sd} {gs:List D->Sd->M Sd} (h1:SG X E e g) (h2:SGs X E es gs) (hs:(assignEach (e::es) X.env).map (·.2)=assign e X.env::(assignEach es X.env).map (·.2):=by rfl):SGs X E (e::es) (zax g gs):=zlL h1 h2 hs
theorem zcU {k n:Nat} {gs:List D->Sd->M Sd} (hc:X.calm=true) (h:SGs X E es gs) (hn:(assignEach es X.env).length=n:=by rfl) (hst:(assignEach es X.env).findIdx? (·.1)=none:=by rfl):SG X E (.Tuple es k pos) (zb0 n gs):=zo6 hc h hn hst
theorem zmm (ho:SE X E a fa) (hi:SE X E b fb) (ha: ∀ v,assign (.Subscript a b pos) X.env v=(do
      let ov<-holding [v] (eval a X.env)
      let iv<-holding [v,ov] (eval b X.env)
      standAt pos
      holding [v,ov,iv] (setItem ov iv v)
      release [v,ov,iv] []):=by intro _;rfl):SG X E (.Subscript a b pos) (zkZ fa fb):=zrb fun hs=>zpP ho hi hs ha
theorem zdC {tg:Expr} (he:SE X E e f):SI X E tg e (iSq f):=zqc he
theorem zeG {tg:Expr} (hm:X.mg "range"=none) (ha:SA X E [a] fs) (hg:Gl X "range":=by rfl) (hs:starEach [a] X.env=[(false,eval a X.env)]:=by rfl):SI X E tg (.Call (.Name "range" p) [a] [] pos) (zgR fs):=zof hg hm ha hs
theorem zgL {tg iter:Expr} {body:List Stmt} {fi:FA} {g:D->Sd->M Sd} {gb:FS} (hc:X.calm=true) (hp:PassesOwn (model X.prog X.w) X.A X.env X.xe) (hi:SI X E tg iter fi) (hg:SG X E tg g) (hb:SSs X E body gb)
  (hs: ∀ x,foldedSetIterable iter X.env x=pure x:=by intro _;rfl):SS X E (.For tg iter body [] pos) (zkL fi g gb):=zsN hc hp hi hg hb hs
theorem zcp:SCs X E [] (fun _=>pure true):=zqm
theorem zd7 {t:FT} (h:ST X E c t):SCs X E [c] t:=zp1 h
theorem zbN {scope:Scope} {N:List Str} {src:List (Option Nat)} {tg iter elt:Expr} {ifs:List Expr} {fi:FA} {g:D->Sd->M Sd} {tc:FT} {te:FE} (hc:X.calm=true) (B:BOk X scope N src) (hk:zaP g src) (hi:SI X E tg iter fi)
  (hg: ∀ s H fp,SG (cxB X scope N s H fp) E tg g) (ht: ∀ s H fp,SCs (cxB X scope N s H fp) E ifs tc) (he: ∀ s H fp,SE (cxB X scope N s H fp) E elt te)
  (hs: ∀ x,foldedSetIterable iter X.env x=pure x:=by intro _;rfl):SE X E (.ListComp elt [⟨tg,iter,ifs,0⟩] scope pos) (zaC fi g tc te src):=zj6 B hk hi hg ht he hs
theorem zdK {scope:Scope} {N:List Str} {src:List (Option Nat)} {tg iter elt:Expr} {ifs:List Expr} {fi:FA} {g:D->Sd->M Sd} {tc:FT} {te:FE} (i:Nat) {y:Str} {py spos:Pos} (hc:X.calm=true) (hN:X.N.Nodup) (B:BOk X scope N src) (hk:zaP g src) (hi:SI X E tg iter fi)
  (hg: ∀ s H fp,SG (cxB X scope N s H fp) E tg g) (ht: ∀ s H fp,SCs (cxB X scope N s H fp) E ifs tc) (he: ∀ s H fp,SE (cxB X scope N s H fp) E elt te)
  (hy:X.N[i]? = some y:=by rfl) (hx:Loc X.env.scope y:=by first | exact Or.inl rfl | exact Or.inr rfl) (hf:X.fn y=true\/X.env.scope.names.lookup y=some .local:=by first | exact Or.inl rfl | exact Or.inr rfl) (hsw:swapsWith (.ListComp elt [⟨tg,iter,ifs,0⟩] scope pos) (some (.Name y py)) spos.line X.env=pure true:=by rfl)
  (hs: ∀ x,foldedSetIterable iter X.env x=pure x:=by intro _;rfl):SS X E (.Assign [.Name y py] (.ListComp elt [⟨tg,iter,ifs,0⟩] scope pos) spos) (zbA i (zaC fi g tc te src)):=zi5 i B hk hi hg ht he hN hy hx hf hsw hs
end
theorem za6.empty {K:W.Frag} {H:Hp}:za6 K ⟨[],[]⟩ H []:=⟨rfl,fun m n a h=>by simp at h,fun n a c h=>by simp at h,fun n h=>by simp at h,fun a h=>by cases h⟩
theorem zsr {K:W.Frag} {F:List D->M D} {H:Hp} {a:Addr} {ns:List Int} (hS:SqL K H a (ns.map V.int)) (hm: ∃ h',F [.scr (ns.map D.int)] []= .ok (.bl true) h'):zbT K 1 F [.ref a] H (fun v _=>v= .bl true) fun _ _ _=>False:=by
 obtain ⟨h',e⟩:=hm
 refine ⟨rfl,⟨[],[]⟩,[],[.scr (ns.map D.int)],zaq.cons ?_ zaq.nil,za6.empty,?_⟩
 ·simp only [Rel]
  refine ⟨a,ns.map V.int,rfl,?_,zco.mpr rfl⟩
  rcases hS with h | h
  ·exact .inl ⟨h,fun z=>by rcases z with z | z<;>cases z⟩
  ·exact .inr (.inr h)
 ·rw [e]
  intro ι1 H1 s hr v rv
  simpa [Rel] using rv
section
variable {sd:Sd} {a b:FE} {fs:FA} {t u:FT} {g g':FS} {F:D->D->M D}
@[simp] theorem zci:cOp F a b sd=(do let x<-a sd;let y<-b sd;F x y):=rfl
@[simp] theorem zlN {F:D->M D}:cUn F a sd=(do let x<-a sd;F x):=rfl
@[simp] theorem zbo {F:List D->M D}:zaH F fs sd=(do let ds<-fs sd;F ds):=rfl
@[simp] theorem zew:zeg F a b sd=(do let z<-(do let x<-a sd;let y<-b sd;F x y);zda z):=rfl
@[simp] theorem zpN:zfQ a sd=(do let x<-a sd;zda x):=rfl
@[simp] theorem zpG:ze5 t sd=(do let c<-t sd;pure (!c)):=rfl
@[simp] theorem zpJ:zsQ t u sd=(do let c<-t sd;if c=true then u sd else pure false):=rfl
@[simp] theorem zrX:tOr t u sd=(do let c<-t sd;if c=true then pure true else u sd):=rfl
@[simp] theorem zjg:zkK a b sd=(do let c<-(do let x<-a sd;zda x);if c=true then b sd else pure (.bl false)):=rfl
@[simp] theorem zsJ:cOr a b sd=(do let c<-(do let x<-a sd;zda x);if c=true then pure (.bl true) else b sd):=rfl
@[simp] theorem zjr:zpZ a sd=(do let c<-(do let x<-a sd;zda x);pure (.bl (!c))):=rfl
@[simp] theorem zsz:cIf t a b sd=(do let c<-t sd;if c=true then a sd else b sd):=rfl
@[simp] theorem zfe {d:D}:cK d sd=pure d:=rfl
@[simp] theorem za5:zan sd=pure []:=rfl
@[simp] theorem zaL:zab a fs sd=(do let x<-a sd;let r<-fs sd;pure (x::r)):=rfl
@[simp] theorem zf0:zb4 fs sd=(do let ds<-fs sd;fits ds.length;pure (.tup ds)):=rfl
@[simp] theorem zhL:zfd fs sd=(do let ds<-fs sd;fits ds.length;pure (.lst ds)):=rfl
@[simp] theorem zfF:zix fs sd=(do let ds<-fs sd;fits ds.length;zdm ds):=rfl
@[simp] theorem zgc:zfD sd=pure (.nx sd):=rfl
@[simp] theorem zbh:zat g g' sd=(do let o<-g sd;andThen o g'):=rfl
@[simp] theorem zcQ {i:Nat}:zbA i a sd=(do let d<-a sd;pure (.nx (sd.set i (some d)))):=rfl
@[simp] theorem zcT:zbO a sd=(do let d<-a sd;pure (.rt d)):=rfl
@[simp] theorem zjf:sIf t g g' sd=(do let c<-t sd;if c=true then g sd else g' sd):=rfl
@[simp] theorem zjx {fi:FA} {gt:D->Sd->M Sd}:zkL fi gt g sd=(do let ds<-fi sd;zba (fun x sd=>do let sd1<-gt x sd;g sd1) ds sd):=rfl
@[simp] theorem zhP {gt:D->Sd->M Sd}:zkM a gt sd=(do let d<-a sd;let sd'<-gt d sd;pure (.nx sd')):=rfl
@[simp] theorem znx:zmZ a sd=(do let _<-a sd;pure (.nx sd)):=rfl
@[simp] theorem zpE:iSq a sd=(do let d<-a sd;zdM d):=rfl
@[simp] theorem zf2:zgR fs sd=(do let ds<-fs sd;zkw ds):=rfl
@[simp] theorem zkk {d:D}:zkZ a b d sd=(do let x<-a sd;let y<-b sd;zjW x y d;pure sd):=rfl
@[simp] theorem zde {i:Nat} {d:D}:zaW i d sd=pure (sd.set i (some d)):=rfl
@[simp] theorem zgP:andThen (.nx sd) g=g sd:=rfl
@[simp] theorem zrt {d:D}:andThen (.rt d) g=pure (.rt d):=rfl
@[simp] theorem ztF:andThen (.bk sd) g=pure (.bk sd):=rfl
@[simp] theorem ztE:andThen (.ct sd) g=pure (.ct sd):=rfl
@[simp] theorem zrz:zcV (.nx sd)=pure .non:=rfl
@[simp] theorem zeW {d:D}:zcV (.rt d)=pure d:=rfl
@[simp] theorem zdw {c:Bool}:zda (.bl c)=pure c:=rfl
@[simp] theorem zr8 {lo hi:Sd->M (Option Int)}:cSl a lo hi sd=(do let d<-a sd;let l<-lo sd;let u<-hi sd;dSl d l u):=rfl
@[simp] theorem zod:zjZ sd=pure none:=rfl
@[simp] theorem znt:zjK a sd=(do let d<-a sd;zoc d):=rfl
@[simp] theorem zqK {i:Int}:zoc (.int i)=pure (some i):=rfl
@[simp] theorem zrJ {ds:List D} {lo hi:Option Int}:dSl (.tup ds) lo hi=pure (.tup (zkh ds lo hi)):=rfl
@[simp] theorem zrB {ds:List D}:zrx (.tup ds)=pure (.tup ds.reverse):=rfl
@[simp] theorem zpA {i:Int}:zqy (.int i)=pure (.int (-i)):=rfl
@[simp] theorem zdc {i j:Int}:zcY (.int i) (.int j)=pure (.int (i+j)):=rfl
@[simp] theorem zmc {xs ys:List D}:zcY (.tup xs) (.tup ys)=(do fits (xs.length+ys.length);pure (.tup (xs++ys))):=rfl
@[simp] theorem zmJ {xs ys:List D}:zcY (.lst xs) (.lst ys)=(do fits (xs.length+ys.length);pure (.lst (xs++ys))):=rfl
@[simp] theorem zn7 {i j:Int}:zpF (.int i) (.int j)=pure (.int (i - j)):=rfl
@[simp] theorem zsf {i j:Int}:zsK (.int i) (.int j)=pure (.int (Builtin.bitAnd i j)):=rfl
@[simp] theorem zqI {i j:Int}:dLt (.int i) (.int j)=pure (.bl (decide (i<j))):=rfl
@[simp] theorem ztH {i j:Int}:dLe (.int i) (.int j)=pure (.bl (decide (i<=j))):=rfl
@[simp] theorem ztp {i j:Int}:dGt (.int i) (.int j)=pure (.bl (decide (j<i))):=rfl
@[simp] theorem zs1 {i j:Int}:dGe (.int i) (.int j)=pure (.bl (decide (j<=i))):=rfl
@[simp] theorem zsd {i j:Bool}:zgj (.bl i) (.bl j)=pure (.bl (i != j)):=rfl
@[simp] theorem zpn {ds:List D}:zem [.tup ds]=pure (.int ds.length):=rfl
@[simp] theorem zmt {ds:List D}:zem [.lst ds]=pure (.int ds.length):=rfl
@[simp] theorem zmx {ds:List D}:zem [.scr ds]=pure (.int ds.length):=rfl
@[simp] theorem zpX {ds:List D}:zcw [.tup ds]=pure (.tup ds):=rfl
@[simp] theorem zgH {ds:List D}:zcw [.lst ds]=pure (.tup ds):=rfl
@[simp] theorem zqq {ds:List D}:zoy [.tup ds]=pure (.lst ds):=rfl
@[simp] theorem zr6 {ds:List D}:zdM (.tup ds)=pure ds:=rfl
@[simp] theorem zpo {ds:List D}:zdM (.lst ds)=pure ds:=rfl
@[simp] theorem zog {F:List D->M D} {x:D}:zav 1 F [x]=F [x]:=rfl
@[simp] theorem zbv {F:List D->M D} {x y:D}:zav 2 F [x,y]=F [x,y]:=rfl
@[simp] theorem zob {F:List D->M D} {x y z:D}:zav 3 F [x,y,z]=F [x,y,z]:=rfl
@[simp] theorem zfB {body:D->Sd->M Out}:zba body [] sd=pure (.nx sd):=rfl
theorem zcW {body:D->Sd->M Out} {x:D} {r:List D}:zba body (x::r) sd=(do let o<-body x sd;match o with | .nx sd'=>zba body r sd' | .ct sd'=>zba body r sd' | .bk sd'=>pure (.nx sd') | .rt d=>pure (.rt d)):=rfl
@[simp] theorem zju {gs:List D->Sd->M Sd} {x y:D}:zb0 2 gs (.tup [x,y]) sd=gs [x,y] sd:=rfl
@[simp] theorem zjY:zbW [] sd=pure sd:=rfl
@[simp] theorem zhE {gt:D->Sd->M Sd} {gs:List D->Sd->M Sd} {x:D} {r:List D}:zax gt gs (x::r) sd=(do let sd1<-gt x sd;gs r sd1):=rfl
@[simp] theorem zmh {n:Nat} {k:Int} {d:D}:zjW (.cel n) (.int k) d=(do let ds<-zal n;let j<-ofO (ixN ds.length k);zbk n (ds.set j d)):=rfl
@[simp] theorem zsg {ds:List D} {i:Int}:dIx (.tup ds) (.int i)=ofO (atI ds i):=rfl
@[simp] theorem zgu {ds:List D} {i:Int}:dIx (.lst ds) (.int i)=ofO (atI ds i):=rfl
@[simp] theorem zrT {ds:List D} {i:Int}:dIx (.scr ds) (.int i)=ofO (atI ds i):=rfl
@[simp] theorem zkY {n:Nat} {i:Int}:dIx (.cel n) (.int i)=(do let ds<-zal n;ofO (atI ds i)):=rfl
@[simp] theorem zdX {α:Type} {x:α}:ofO (some x)=pure x:=rfl
@[simp] theorem zko {x:D} {r:List D}:atI (x::r) 0=some x:=by unfold atI ixN;simp
@[simp] theorem zoT {x y:D} {r:List D}:atI (x::y::r) 1=some y:=by
 have:=zdR (xs:=x::y::r) (j:=1) (v:=y) rfl
 simpa using this
end
theorem zaK {n:Nat} (h:n<=1000):fits n=pure ():=by
 unfold fits
 rw [qa4 (qaS h (by decide))]
theorem zhU {i j:Int} (h:(zbd i || zbd j)=true):ziQ (.int i) (.int j)=pure (.int (i*j)):=by
 show (if (zbd i || zbd j)=true then _ else _)=_
 rw [qa4 h]
theorem zhO {i:Int} (h: -1000000000000000<i) (h':i<1000000000000000):zbd i=true:=by unfold zbd;simp;omega
theorem zgs {i j:Int} (h: -1000000000000000<i) (h':i<1000000000000000):ziQ (.int i) (.int j)=pure (.int (i*j)):=zhU (by rw [zhO h h'];rfl)
theorem zml {i j:Int} (h: -1000000000000000<j) (h':j<1000000000000000):ziQ (.int i) (.int j)=pure (.int (i*j)):=zhU (by rw [zhO h h'];simp)
theorem zcR {i j:Int} (h:0<j):zlM (.int i) (.int j)=pure (.int (i % j)):=by
 show (if (decide (0<j))=true then _ else _)=_
 rw [qa4 (by simpa using h)]
theorem zh9 {i j:Int} (h:0<j) (h':j<2^64):zlC (.int i) (.int j)=pure (.int (i / j)):=by
 show (if (decide (0<j) && decide (j<2^64))=true then _ else _)=_
 rw [qa4 (by rw [qaG];exact ⟨by simpa using h,by simpa using h'⟩)]
theorem zq3 {i j:Int}:dEq (.int i) (.int j)=pure (.bl (i==j)):=by
 unfold dEq ziP
 simp only [pd]
 rw [qa4 (show zgf (.int i) (.int j)=true from rfl)]
 rfl
theorem zrq {i j:Int}:dNe (.int i) (.int j)=pure (.bl (!(i==j))):=by
 unfold dNe ziP
 simp only [pd]
 rw [qa4 (show zgf (.int i) (.int j)=true from rfl)]
 rfl
def wp {α:Type} (m:M α) (h:Hh) (P:α->Hh->Prop):Prop:= ∃ a h',m h= .ok a h'/\P a h'
section
variable {α β:Type} {h:Hh} {P P':α->Hh->Prop}
theorem zak {a:α}:wp (pure a:M α) h P↔P a h:=⟨fun ⟨b,h',e,q⟩=>by cases (show R.ok a h=R.ok b h' from e);exact q,fun q=>⟨a,h,rfl,q⟩⟩
theorem zam {m:M β} {f:β->M α}:wp (m>>=f) h P↔wp m h fun b h'=>wp (f b) h' P:=by
 constructor
 ·rintro ⟨a,h',e,q⟩
  have e:M.bind m f h= .ok a h':=e
  unfold M.bind at e
  cases z:m h with
  | ok b h1=>rw [z] at e;exact ⟨b,h1,z,a,h',e,q⟩
  | exc c h1=>rw [z] at e;cases e
  | bad=>rw [z] at e;cases e
 ·rintro ⟨b,h1,e,a,h',e2,q⟩
  refine ⟨a,h',?_,q⟩
  show M.bind m f h=_
  unfold M.bind
  rw [e]
  exact e2
theorem zjG {m:M α} (q:wp m h P) (k: ∀ a h',P a h'->P' a h'):wp m h P':=by
 obtain ⟨a,h',e,q⟩:=q
 exact ⟨a,h',e,k _ _ q⟩
theorem zcH {n:Nat} {ds:List D} {P:List D->Hh->Prop} (e:h[n]? = some (.lst ds)):wp (zal n) h P↔P ds h:=by
 unfold wp zal
 rw [e]
 exact ⟨fun ⟨b,h',e,q⟩=>by cases e;exact q,fun q=>⟨_,_,rfl,q⟩⟩
theorem zhQ {n:Nat} {ds:List D} {P:Unit->Hh->Prop}:wp (zbk n ds) h P↔P () (h.set n (.lst ds)):=⟨fun ⟨b,h',e,q⟩=>by cases (show R.ok () (h.set n (.lst ds))=R.ok b h' from e);exact q,fun q=>⟨_,_,rfl,q⟩⟩
theorem zhT {ds:List D} {P:D->Hh->Prop}:wp (zdm ds) h P↔P (.cel h.length) (h++[.lst ds]):=⟨fun ⟨b,h',e,q⟩=>by cases (show R.ok (D.cel h.length) (h++[C.lst ds])=R.ok b h' from e);exact q,fun q=>⟨_,_,rfl,q⟩⟩
end
theorem zdY {f:D->M (Option D)} {k:D->Option D}: ∀ {ds:List D},(∀ x∈ds,f x=pure (k x))->zbC f ds=pure (ds.filterMap k)
 | [],_=>rfl
 | x::r,hf=>by
  rw [zbC,hf x qau,zdY fun y hy=>hf y (qan _ hy)]
  simp only [pure_bind]
  cases e:k x<;>simp [qat,e]
theorem zct {fi:FA} {g:D->Sd->M Sd} {tc:FT} {te:FE} {src:List (Option Nat)} {sd:Sd} {ds:List D} {k:D->Option D} (hi:fi sd=pure ds) (hl:ds.length<=1000) (hf: ∀ x∈ds,zbc g tc te (zau src sd) x=pure (k x)):zaC fi g tc te src sd=pure (.lst (ds.filterMap k)):=by
 unfold zaC
 rw [hi]
 simp only [pure_bind]
 rw [zaK hl]
 simp only [pure_bind]
 rw [zdY hf]
 simp only [pure_bind]
theorem zeM {fi:FA} {g:D->Sd->M Sd} {tc:FT} {te:FE} {src:List (Option Nat)} {sd:Sd} {ds:List D} {k:D->D} (hi:fi sd=pure ds) (hl:ds.length<=1000) (hf: ∀ x∈ds,zbc g tc te (zau src sd) x=pure (some (k x))):zaC fi g tc te src sd=pure (.lst (ds.map k)):=by
 rw [zct (k:=fun x=>some (k x)) hi hl hf]
 simp
theorem zhZ: ∀ bs:List Bool,zkP (bs.map D.bl)=some bs
 | []=>rfl
 | b::r=>by rw [qaM,zkP,zhZ r];rfl
theorem zbY: ∀ bs:List Int,zd2 (bs.map D.int)=some bs
 | []=>rfl
 | b::r=>by rw [qaM,zd2,zbY r];rfl
theorem zfw (bs:List Bool):zoL [.lst (bs.map D.bl)]=pure (.bl (bs.all id)):=by
 show (do let bs<-ofO (zkP (bs.map D.bl));pure (.bl (bs.all id)):M D)=_
 rw [zhZ]
 rfl
theorem zjm {d:D} {xs:List Int} (e:zmy d=pure (xs.map D.int)) (h:(xs.foldl step_dedup []).length<64) (h2:xs.length<4000):zc7 d=pure (.lst ((zey xs).map D.int)):=by
 unfold zc7
 rw [e]
 show (do let ns<-ofO (zd2 (xs.map D.int));if (ns.foldl step_dedup []).length<64/\ns.length<4000 then pure (.lst ((zey ns).map D.int)) else M.bad:M D)=_
 rw [zbY]
 show (if (xs.foldl step_dedup []).length<64/\xs.length<4000 then (pure (.lst ((zey xs).map D.int)):M D) else M.bad)=_
 rw [qa4 ⟨h,h2⟩]
theorem zge {xs:List Int} (h:xs.length<64):zc7 (.lst (xs.map D.int))=pure (.lst ((zey xs).map D.int)):=zjm rfl (Nat.lt_of_le_of_lt (zkf xs) h) (by omega)
theorem zfa {xs:List Int} (h:xs.length<64):zdU [.tup (xs.map D.int)]=pure (.lst ((zbu xs).map D.int)):=by
 show (do let ns<-ofO (zd2 (xs.map D.int));if ns.length<64 then pure (.lst ((zbu ns).map D.int)) else M.bad:M D)=_
 rw [zbY]
 show (if xs.length<64 then (pure (.lst ((zbu xs).map D.int)):M D) else M.bad)=_
 rw [qa4 h]
noncomputable def kn:D->Bool
 | .non | .bl _ | .int _ | .str _ | .tup _ | .lst _ | .dct=>true
 | _=>false
noncomputable def isT:D->Bool
 | .tup _=>true
 | _=>false
noncomputable def isI:D->Bool
 | .int _=>true
 | _=>false
theorem zhX {d:D} (k:kn d=true):zfR "tuple" d=pure (.bl (isT d)):=by
 cases d<;>simp [kn] at k<;>simp [zfR,tyD,isB,isT]
theorem zjQ {d:D} (k:kn d=true):zfR "int" d=pure (.bl (isI d || (match d with | .bl _=>true | _=>false))):=by
 cases d<;>simp [kn] at k<;>simp [zfR,tyD,isB,isI]
theorem zmR {d:D} (k:kn d=true):zfR "bool" d=pure (.bl (match d with | .bl _=>true | _=>false)):=by
 cases d<;>simp [kn] at k<;>simp [zfR,tyD,isB,isI]
mutual
noncomputable def zjO:D->Bool
 | .non | .bl _ | .int _=>true
 | .str x=>PyData.strOk x
 | .tup ds=>decide (ds.length<64) && zgY ds
 | .lst ds=>decide (ds.length<64) && zgY ds
 | _=>false
noncomputable def zgY:List D->Bool
 | []=>true
 | d::r=>zjO d && zgY r
end
mutual
theorem zm8: ∀ {d:D},zjO d=true-> ∃ p,pd d=some p/\p.canLay0=true
 | .non,_=>⟨.none,rfl,rfl⟩
 | .bl b,_=>⟨.bool b,rfl,rfl⟩
 | .int i,_=>⟨.int i,rfl,rfl⟩
 | .str x,g=>⟨.str x,rfl,by simpa [zjO,PyData.canLay0] using g⟩
 | .tup ds,g=>by
  have g2:zgY ds=true:=by simp [zjO] at g;exact g.2
  obtain ⟨ps,e,c⟩:=zfu g2
  exact ⟨.tuple ps,by unfold pd;rw [e];rfl,c⟩
 | .lst ds,g=>by
  have g2:zgY ds=true:=by simp [zjO] at g;exact g.2
  obtain ⟨ps,e,c⟩:=zfu g2
  exact ⟨.list ps,by unfold pd;rw [e];rfl,c⟩
 | .cel _,g=>by simp [zjO] at g
 | .set _,g=>by simp [zjO] at g
 | .dct,g=>by simp [zjO] at g
 | .fn _,g=>by simp [zjO] at g
 | .scr _,g=>by simp [zjO] at g
 | .exn _,g=>by simp [zjO] at g
theorem zfu: ∀ {ds:List D},zgY ds=true-> ∃ ps,pdL ds=some ps/\PyData.canLayAll0 ps=true
 | [],_=>⟨[],rfl,rfl⟩
 | d::r,g=>by
  simp [zgY] at g
  obtain ⟨p,e,c⟩:=zm8 g.1
  obtain ⟨ps,e2,c2⟩:=zfu g.2
  exact ⟨p::ps,by unfold pdL;rw [e,e2],by simp [PyData.canLayAll0,c,c2]⟩
end
theorem zdz: ∀ xs:List Int,pdL (xs.map D.int)=some (xs.map PyData.int)
 | []=>rfl
 | x::r=>by rw [qaM,pdL,zdz r];rfl
theorem zbw: ∀ xs:List Int,PyData.canLayAll0 (xs.map PyData.int)=true
 | []=>rfl
 | x::r=>by simp [PyData.canLayAll0,PyData.canLay0,zbw r]
theorem zcq: ∀ xs:List Int,PyData.depthAll (xs.map PyData.int)=0
 | []=>rfl
 | x::r=>by simp [PyData.depthAll,PyData.depth,zcq r]
theorem zhu: ∀ xs ys:List Int,PyData.eqvAll (xs.map PyData.int) (ys.map PyData.int)=(xs==ys)
 | [],[]=>rfl
 | [],_::_=>rfl
 | _::_,[]=>rfl
 | x::xs,y::ys=>by
  simp only [qaM,PyData.eqvAll,PyData.eqv,zhu xs ys]
  rfl
theorem zfC (k:Int): ∀ xs:List Int,((xs.map PyData.int).any fun y=>PyData.eqv y (.int k))=xs.any (· == k)
 | []=>rfl
 | x::r=>by simp only [qaM,List.any_cons,zfC k r];rfl
theorem zcB (k:Int) (xs:List Int):dIn (.int k) (.tup (xs.map D.int))=pure (.bl (xs.any (· == k))):=by
 show zmV false (.int k) (.tup (xs.map D.int))=_
 unfold zmV
 simp only [pd]
 rw [zdz]
 have c:zlK (.int k) (xs.map PyData.int)=true:=by
  unfold zlK
  simp [PyData.canLay0,zbw,PyData.depth,zcq]
 simp only [c,if_true,zfC]
 rfl
end L3
namespace L2
open PySem PySem.Spec PyProof.Rows LT
section
variable {X:Cx}
end
end L2
namespace L3
open PySem PySem.Spec PyProof.Rows L2 LT
section
variable {X:Cx} {E:XE} {a b c o e:Expr} {pos apos cpos:Pos} {fa fb fc fo fe:FE}
noncomputable def zdd:D->M Unit
 | .cel n=>do let _<-zal n;pure ()
 | _=>M.bad
noncomputable def zdq (x y:D):M D:=match x with
 | .cel n=>do
  let ds<-zal n
  fits (ds.length+1)
  zbk n (ds++[y])
  pure .non
 | _=>M.bad
noncomputable def zhf (fo fe:FE):FE:=fun sd=>do
 let x<-fo sd
 zdd x
 let y<-fe sd
 zdq x y
theorem zfx {α:Type} {K:W.Frag} {ι:Io} {H:Hp} {h:Hh} {n:Nat} {f:List D->M α} {P:α->Io->Hp->Prop} (q:Fin K E ι H ((zal n>>=f) h) P): ∃ ds,h[n]? = some (.lst ds)/\Fin K E ι H (f ds h) P:=by
 have q':Fin K E ι H (M.bind (zal n) f h) P:=q
 unfold M.bind at q'
 cases z:zal n h with
 | bad=>rw [z] at q';exact qa0 q'
 | exc c h'=>unfold zal at z;split at z<;>cases z
 | ok ds h'=>
  rw [z] at q'
  obtain ⟨rfl,z2⟩:=zcr z
  exact ⟨ds,z2,q'⟩
theorem zli (ho:SE X E o fo) (he:SE X E e fe)
  (hbase:attributeBase o "append" X.env (eval o X.env)=eval o X.env:=by rfl)
  (hfew:((backTo cpos (starEach [e] X.env)).all (fun x=> !x.1) && (backToKw cpos (keywordEach [] X.env)).all (fun x=>x.1.isSome)
    && decide (([e]:List Expr).length+([]:List Keyword).length+(if ([]:List Keyword).isEmpty then 0 else 1)<30))=true:=by rfl)
  (hline:(apos.endLine==cpos.line)=true:=by rfl) (hs:starEach [e] X.env=(false,eval e X.env)::starEach [] X.env:=by rfl) (hplain:(backTo cpos (starEach [] X.env)).any (·.1)=false:=by rfl):
  SE X E (.Call (.Attribute o "append" apos) [e] [] cpos) (zhf fo fe):=by
 refine PE.imp (zoh PySem.F.plainAttrs_list PySem.F.slot_list_append PySem.F.type_list_append zf1 ho (zbm he zcS hs) hbase hfew hline hs hplain) fun σ H Q ⟨ι,h,sd,L,hh,q⟩=>⟨ι,h,sd,L,hh,Fin.bind q fun d h1 ι1 H1 e1 s1 hr1 q1 v rv=> ?_⟩
 cases d with
 | cel n=>
  have q2:Fin X.K E ι1 H1 ((zal n>>=fun _=>fe sd>>=fun y=>zdq (.cel n) y) h1) (fun d ι' H'=> ∀ v,Rel X.K ι' H' d v->Q v H'):=by
   have ee:(zdd (.cel n)>>=fun _=>fe sd>>=fun y=>zdq (.cel n) y:M D)=(zal n>>=fun _=>fe sd>>=fun y=>zdq (.cel n) y):=by
    show ((zal n>>=fun _=>pure ())>>=fun _=>fe sd>>=fun y=>zdq (.cel n) y)=_
    simp only [bind_assoc,pure_bind]
   rw [<- ee]
   exact q1
  obtain ⟨ds,e2,q3⟩:=zfx q2
  obtain ⟨a,vs,rfl,hn,hH,rl⟩:=hr1.read rv e2
  refine ⟨.inl ⟨rfl,vs,SqL.of hH⟩,ι1,h1,sd,L.step s1,hr1,Fin.bind q3 fun y h3 ι3 H3 e3 s3 hr3 q4 w rw'=> ?_⟩
  have rv3:=rv.step s3
  have q5:Fin X.K E ι3 H3 ((zal n>>=fun ds=>fits (ds.length+1)>>=fun _=>zbk n (ds++[y])>>=fun _=>pure D.non) h3) (fun d ι' H'=> ∀ v,Rel X.K ι' H' d v->Q v H'):=q4
  obtain ⟨ds3,e4,q6⟩:=zfx q5
  obtain ⟨a3,vs3,ea,hn3,hH3,rl3⟩:=hr3.read rv3 e4
  cases ea
  obtain ⟨z,q7⟩:=Fin.fits q6
  refine ⟨a,vs3,w,rfl,rfl,hH3,by rw [<- rl3.length];omega,?_⟩
  have q8:Fin X.K E ι3 H3 (R.ok D.non (h3.set n (.lst (ds3++[y])))) (fun d ι' H'=> ∀ v,Rel X.K ι' H' d v->Q v H'):=q7
  exact q8 ι3 _ (hr3.cellS hn3) (hr3.cell hn3 (rl3.append (zaq.cons rw' zaq.nil))) _ (by simp [Rel])
 | _=>exact qa0 q1
end
end L3
namespace Att
open PySem PySem.W PySem.Calls PyProof.Rows
end Att
namespace L2
open PySem PySem.Spec PyProof.Rows
end L2
namespace L3
open PySem PySem.Spec PyProof.Rows L2 LT
section
variable {X:Cx} {E:XE}
noncomputable def zin (i j:Int):Bool:=decide (Builtin.Int.intBits i+Builtin.Int.intBits j<=2^26)
theorem ziU {i j:Int} (h:zin i j=true):IntMulOk i j:=by
 unfold zin at h
 rw [qaD] at h
 unfold IntMulOk
 intro z
 rw [qaG] at z
 have z2:=z.2
 unfold Builtin.Int.intTooBig at z2
 have hb:bitsLine=2^27:=rfl
 rw [qaD,hb] at z2
 omega
theorem zn1:OpR X (binaryOp .Mult) (rI (fun i j=>IntMulOk i j) fun i j=> .int (i*j)):=opI fun _ _ _ _ _ _ _ hc q=>mul_int q hc
noncomputable def zc9:=dII (fun i j=>zbd i || zbd j || zin i j) fun i j=> .int (i*j)
theorem zbq:OpR X (binaryOp .Mult) (zdb X.K E zc9):=zgU (zn1) (fun i j h=>by
  rw [Bool.or_eq_true] at h
  rcases h with h | h
  · rcases (Bool.or_eq_true _ _).mp h with z | z
    · have:=zcA z
      exact IntMulOk.of_left (intBits_le_64 this.1 this.2)
    · have:=zcA z
      exact IntMulOk.of_right (intBits_le_64 this.1 this.2)
  · exact ziU h) fun _ _ _ _=>by simp [Rel]
end
end L3
namespace PySem
open Sem (wp)
open AutoSeq1 (wpAny_loadPart')
section
variable {prog:Program} {w:World} {A:Around} {E:Value->Shared->Prop} {s:Shared}
end
end PySem
namespace L2
open PySem PySem.Spec PyProof.Rows LT
theorem zes: ∀ (ns:List Int) (us:List Value),ns.length=us.length->(∀ (j:Nat) u,us[j]? = some u-> ∃ t,u=Value.int (ns.getD j 0) t)->zaZ (ns.map V.int) us
 | [],[],_,_=> .nil
 | [],_::_,h,_=>by cases h
 | _::_,[],h,_=>by cases h
 | n::ns,u::us,h,hg=>by
  refine .cons ?_ (zes ns us (by simpa using h) fun j w e=> ?_)
  ·obtain ⟨t,e⟩:=hg 0 u rfl
   exact ⟨t,by simpa using e⟩
  ·obtain ⟨t,e⟩:=hg (j+1) w (by simpa using e)
   exact ⟨t,by simpa using e⟩
section
variable {X:Cx}
theorem zhp:zaJ X (.type "range") (fun xs H Q=> ∃ j:Int,xs=[.int j]/\ ∀ p,H p=none->Q (.ref p) (upd H p (.rng 0 j))):=by
 intro pins s σ H xs us Q I r h
 obtain ⟨j,rfl,q⟩:=h
 obtain ⟨u,rfl,rx⟩:=zdI r
 obtain ⟨t,rfl⟩:=rx
 refine call_range_1 ?_
 exact ⟨.ref s.heap.objs.size,_,I.laid (t':=s.toks+1+1) (o:= .rng 0 j) (fun b ob q=>qag _ q) (qaV _) ⟨_,_,_,qar _ rfl⟩,rfl,q _ (I.hok.fresh (qaV _))⟩
theorem zlj {j:Int} (h0:0<=j):Builtin.Range.rangeSize 0 j 1=(j.toNat:Int):=by
 unfold Builtin.Range.rangeSize
 rw [qa4 (by decide)]
 split
 ·rw [Int.ediv_one];omega
 ·omega
end
end L2
namespace L3
open PySem PySem.Spec PyProof.Rows L2 LT
section
variable {X:Cx} {E:XE} {e:Expr} {f:FE}
theorem zkR {K:W.Frag} {ι:Io} {H:Hp} {n:Nat}:zaq K ι H (zdg 0 n) (((List.range n).map fun (k:Nat)=>(k:Int)).map V.int):=by
 have:zdg 0 n=((List.range n).map fun (k:Nat)=>(k:Int)).map D.int:=by unfold zdg;simp
 rw [this]
 exact zco.mpr rfl
end
@[simp] theorem zaI {d:D} {r:Sd}:zaf 0 (some d::r)=pure d:=rfl
@[simp] theorem zaR {n:Nat} {x:Option D} {r:Sd}:zaf (n+1) (x::r)=zaf n r:=rfl
noncomputable def zdB (m:Int):Int->List D->Bool
 | _,[]=>true
 | l,.int i::r=>decide (l<=i) && decide (i<m) && zdB m (i+1) r
 | _,_::_=>false
theorem zbB {m:Int}: ∀ {xs:List Int} {l:Int},zdB m l (xs.map D.int)=true↔xs.Pairwise (· < ·)/\ ∀ x∈xs,l<=x/\x<m
 | [],l=>by simp [zdB]
 | x::r,l=>by
  rw [qaM,zdB,qaG,qaG,zbB (xs:=r) (l:=x+1),qay]
  simp only [qaD,qaP,forall_eq_or_imp]
  constructor
  ·rintro ⟨⟨h1,h2⟩,h3,h4⟩
   refine ⟨⟨fun y hy=> ?_,h3⟩,⟨h1,h2⟩,fun y hy=> ?_⟩
   ·have:=(h4 y hy).1;omega
   ·have:=h4 y hy;omega
  ·rintro ⟨⟨h1,h2⟩,⟨h3,h4⟩,h5⟩
   refine ⟨⟨h3,h4⟩,h2,fun y hy=> ?_⟩
   have a1:=h1 y hy
   have a2:=h5 y hy
   omega
theorem zfs {m:Int}: ∀ {ts:List D} {l:Int},zdB m l ts=true->ts.all isI=true
 | [],_,_=>rfl
 | d::r,l,h=>by
  cases d<;>first
   | (simp [zdB] at h;done)
   | (rw [zdB,qaG] at h;rw [List.all_cons,zfs h.2];rfl)
theorem zgT: ∀ {ts:List D},ts.all isI=true-> ∃ xs:List Int,ts=xs.map D.int
 | [],_=>⟨[],rfl⟩
 | d::r,h=>by
  rw [List.all_cons,qaG] at h
  obtain ⟨xs,e⟩:=zgT h.2
  cases d<;>first
   | (simp [isI] at h;done)
   | (rename_i i;exact ⟨i::xs,by rw [e];rfl⟩)
theorem zej {m:Int}: ∀ {ts:List D} {l:Int},zdB m l ts=true->l<=m->(ts.length:Int)<=m - l
 | [],l,_,h=>by simp;omega
 | d::r,l,h,hl=>by
  cases d<;>first
   | (simp [zdB] at h;done)
   | (rename_i i
      rw [zdB,qaG,qaG,qaD,qaD] at h
      have:=zej h.2 (by omega)
      simp
      omega)
def Bx (b:Nat) (h:Hh):Prop:= ∃ z:Int,h[b]? = some (.lst [.int z])
def Ext (b:Nat) (h h':Hh):Prop:=Bx b h'/\ ∀ (n:Nat) (c:C),n≠b->h[n]? = some c->h'[n]? = some c
theorem Ext.refl {b:Nat} {h:Hh} (q:Bx b h):Ext b h h:=⟨q,fun _ _ _ e=>e⟩
theorem Ext.trans {b:Nat} {h h1 h2:Hh} (p:Ext b h h1) (q:Ext b h1 h2):Ext b h h2:=⟨q.1,fun n c hn e=>q.2 n c hn (p.2 n c hn e)⟩
theorem Bx.set {b:Nat} {h:Hh} {z:Int} (q:Bx b h):Ext b h (h.set b (.lst [.int z])):=by
 obtain ⟨y,e⟩:=q
 have hl:=(qac.mp e).1
 exact ⟨⟨z,qai hl⟩,fun n c hn e=>by rw [qao (Ne.symm hn)];exact e⟩
theorem Bx.push {b:Nat} {h:Hh} {c:C} (q:Bx b h):Ext b h (h++[c]):=by
 obtain ⟨y,e⟩:=q
 have hl:=(qac.mp e).1
 refine ⟨⟨y,by rw [qad hl];exact e⟩,fun n c' hn e=> ?_⟩
 rw [qad (qac.mp e).1]
 exact e
theorem zbX {j:Int} (h0:0<=j) (h:j<1000):zkw [.int j]=pure (zdg 0 j.toNat):=by
 show (if zdj j=true then _ else _)=_
 rw [qa4 (by unfold zdj;simp;omega)]
theorem zfK {n:Nat} {d:D} (h:d∈zdg 0 n): ∃ i:Int,d= .int i/\0<=i/\i<n:=by
 unfold zdg at h
 obtain ⟨k,hk,e⟩:=qaU.mp h
 have:=List.mem_range.mp hk
 exact ⟨0+(k:Int),e.symm,by omega,by omega⟩
theorem zdh {n:Nat}:(zdg 0 n).length=n:=by unfold zdg;simp
theorem zen (n:Nat):zdg 0 n=((List.range n).map fun (k:Nat)=>(k:Int)).map D.int:=by unfold zdg;simp
theorem zkt {α:Type} {c:Prop} [Decidable c] {a b:M α} {h:Hh} {P:α->Hh->Prop}:wp (if c then a else b) h P↔if c then wp a h P else wp b h P:=by split<;>exact Iff.rfl
theorem zne {m:Int} (h0:0<=m) (h:m<=1000):zsh (.int 1) (.int m)=pure (.int (1*2^m.toNat)):=by
 show (if zoJ 1 m=true then _ else _)=_
 rw [qa4 (by unfold zoJ;simp;omega)]
theorem znj {i m:Int} (h0:0<=m):zrV (.int i) (.int m)=pure (.int (i / 2^m.toNat)):=by
 show (if decide (0<=m)=true then _ else _)=_
 rw [qa4 (by simpa using h0)]
theorem znY:zrn (.int 10) (.int 12)=pure (.int 1000000000000):=by
 unfold zrn dII
 simp only
 rw [qa4 (by decide)]
 rfl
theorem zot (i:Int):Builtin.bitAnd i 1=i % 2:=by
 exact bitAnd_m1 i
theorem zdT {f:D->M (Option D)} {k:D->Option D} {h:Hh}: ∀ {ds:List D} {P:List D->Hh->Prop},(∀ x∈ds,wp (f x) h fun o h'=>o=k x/\h'=h)->P (ds.filterMap k) h->wp (zbC f ds) h P
 | [],P,_,q=>by rw [zbC,zak];exact q
 | x::r,P,hf,q=>by
  rw [zbC,zam]
  refine zjG (hf x qau) ?_
  rintro o h' ⟨rfl,rfl⟩
  rw [zam]
  refine zdT (k:=k) (fun y hy=>hf y (qan _ hy)) ?_
  rw [zak]
  cases e:k x with
  | none=>rw [qat,e] at q;exact q
  | some y=>rw [qat,e] at q;exact q
theorem ziF {fi:FA} {g:D->Sd->M Sd} {tc:FT} {te:FE} {src:List (Option Nat)} {sd:Sd} {ds:List D} {k:D->Option D} {h:Hh} {P:D->Hh->Prop} (hi:fi sd=pure ds) (hl:ds.length<=1000) (hf: ∀ x∈ds,wp (zbc g tc te (zau src sd) x) h fun o h'=>o=k x/\h'=h) (q:P (.lst (ds.filterMap k)) h):wp (zaC fi g tc te src sd) h P:=by
 unfold zaC
 rw [hi]
 simp only [pure_bind]
 rw [zaK hl]
 simp only [pure_bind]
 rw [zam]
 refine zdT hf ?_
 rw [zak]
 exact q
theorem zm0 {xs:List Int} {i:Int} (h:xs.Pairwise (· < ·)) (hi:i∉xs):(zbu (xs++[i])).Pairwise (· < ·):=by
 have hn:(xs++[i]).Nodup:=by
  rw [List.nodup_append]
  refine ⟨h.imp fun z=>by omega,by simp,fun a ha b hb=> ?_⟩
  simp at hb
  subst hb
  exact fun z=>hi (z▸ha)
 have hn2:(zbu (xs++[i])).Nodup:=(zay _).nodup_iff.mpr hn
 exact ((zc4 (xs++[i])).and hn2).imp fun ⟨a,b⟩=>by omega
end L3
namespace L2
open PySem PySem.Spec PyProof.Rows L3
theorem zbp.there {P:Program} {w:World} {H:Hp} {h:Heap} {a:Addr} {o:HO} (x:zbp P w H h a o): ∃ ob,h.get? a=some ob:=by
 cases o with
 | lst xs=>obtain ⟨_,_,_,_,e⟩:=x;exact ⟨_,e⟩
 | tup xs=>obtain ⟨_,_,_,ob,e,_⟩:=x;exact ⟨ob,e⟩
 | dK kvs=>obtain ⟨_,_,_,_,ob,_,_,e,_⟩:=x;exact ⟨ob,e⟩
 | dT kvs=>obtain ⟨_,_,_,_,ob,_,_,e,_⟩:=x;exact ⟨ob,e⟩
 | set S n=>obtain ⟨ob,_,_,_,e,_⟩:=x;exact ⟨ob,e⟩
 | ins C dx fs=>obtain ⟨_,_,_,e,_⟩:=x;exact ⟨_,e⟩
 | own y=>exact x
 | xd fs=>obtain ⟨_,⟨ob,_,_,e,_⟩,_⟩:=x;exact ⟨ob,e⟩
 | rng lo hi=>obtain ⟨_,_,_,e⟩:=x;exact ⟨_,e⟩
 | frz ob u=>exact ⟨ob,x.1⟩
 | tbl ps=>exact ⟨_,x⟩
 | met f y=>exact ⟨_,x⟩
 | ext φ=>exact x.2.1
structure HS (H H':Hp) (h:Heap):Prop where
 free: ∀ b o,h.get? b=some o->H b=none->H' b=none
 tups: ∀ b xs,H b=some (.tup xs)->H' b=some (.tup xs)
 frzs: ∀ b o u,H b=some (.frz o u)->H' b=some (.frz o u)
 tbls: ∀ b ps,H b=some (.tbl ps)-> ∃ more,H' b=some (.tbl (ps++more))
structure FlB (P:Program) (w:World) (l:List Env) (H:Hp) (h:Heap) (H':Hp) (B:Heap):Prop where
 old: ∀ b o,h.get? b=some o->b∉frs l-> ∃ o',B.get? b=some o'/\(H b=none->o'=o)
 trk: ∀ b u,H' b=some u-> ∃ o,B.get? b=some o
 ok:HOk P w H' B
structure Fl (P:Program) (w:World) (l:List Env) (H:Hp) (s:Shared) (a C:Addr) (fl:Value) (H':Hp) (s':Shared):Prop where
 os:s'.os=s.os
 bare:AllBare s'.gens
 base: ∃ B:Heap,Fly B l a (.ref C) fl s'.heap/\FlB P w l H s.heap H' B
 slot: ∀ b o,s.heap.get? b=some o->H b=none->b∈frs l-> ∃ sl,s'.heap.get? b=some {o with slots:=sl}
 hs:HS H H' s.heap
section
variable {P:Program} {w:World} {l:List Env} {H H':Hp} {s s':Shared} {a C:Addr} {fl:Value}
theorem Fl.un (y:Fl P w l H s a C fl H' s'):Un (frs l) [] H H' s.heap s'.heap:=by
 obtain ⟨B,y1,y2⟩:=y.base
 refine ⟨fun b o e n hb _=> ?_,fun b o e n hb _=>y.slot b o e n hb,fun b o e n _=>y.hs.free b o e n,fun b o e _=> ?_,y.hs.tups,y.hs.frzs,y.hs.tbls⟩
 ·obtain ⟨o',e',q⟩:=y2.old b o e hb
  rw [<- q n]
  exact y1.stays b o' e'
 ·by_cases hb:b∈frs l
  ·obtain ⟨_,o',e',_⟩:=y1.frames.mem hb
   exact ⟨o',e'⟩
  ·obtain ⟨o',e',_⟩:=y2.old b o e hb
   exact ⟨o',y1.stays b o' e'⟩
theorem Fl.hok (y:Fl P w l H s a C fl H' s'):HOk P w H' s'.heap:=by
 obtain ⟨B,y1,y2⟩:=y.base
 exact y2.ok.kept y1.stays
theorem Fl.exc (y:Fl P w l H s a C fl H' s'): ∃ head,zgQ s'.heap a (.ref C) head:=by
 obtain ⟨B,y1,y2⟩:=y.base
 obtain ⟨hd,z,_⟩:=y1.exc
 exact ⟨hd,z⟩
theorem Fl.fresh (y:Fl P w l H s a C fl H' s'):s.heap.get? a=none/\H' a=none/\a∉frs l:=by
 obtain ⟨B,y1,y2⟩:=y.base
 have nf:a∉frs l:=fun z=>by
  obtain ⟨_,o,e,n⟩:=y1.frames.mem z
  obtain ⟨_,⟨ob,vs,e2,_,_,d,_⟩,_⟩:=y1.exc
  rw [e] at e2
  cases e2
  exact n vs d
 refine ⟨?_,?_,nf⟩
 ·cases q:s.heap.get? a with
  | none=>rfl
  | some o=>
   obtain ⟨o',e,_⟩:=y2.old a o q nf
   rw [y1.new] at e
   cases e
 ·cases q:H' a with
  | none=>rfl
  | some u=>
   obtain ⟨o',e⟩:=y2.trk a u q
   rw [y1.new] at e
   cases e
theorem Fl.mv {B h':Heap} {fl':Value} (os:s'.os=s.os) (bare:AllBare s'.gens) (slot: ∀ b o,s.heap.get? b=some o->H b=none->b∈frs l-> ∃ sl,s'.heap.get? b=some {o with slots:=sl}) (hs:HS H H' s.heap)
  (fr:s'.heap.FunFrames B l) (z:Fly B l a (.ref C) fl' h') (y:FlB P w l H s.heap H' B) (u:s'.heap.UpToSlots h'):Fl P w l H s a C fl' H' {s' with heap:=h'}:=by
 refine ⟨os,bare,⟨B,z,y⟩,fun b o e n hb=> ?_,hs⟩
 obtain ⟨sl,e2⟩:=slot b o e n hb
 obtain ⟨_,o2,e3,n3⟩:=fr.mem hb
 rw [e2] at e3
 cases e3
 obtain ⟨sl',e4⟩:=u b _ e2 n3
 exact ⟨sl',e4⟩
section
variable {M:Model} {A:Around} {E:Value->Shared->Prop} {env:Env} {outer:List Env} {L:Addr} {Q:Unit->Shared->Prop}
theorem Fl.note (y:Fl P w (env::outer) H s a C .none H' s') (hfr:A.frames=some (env::outer)) (hf:env.frame=some L) (k: ∀ h',Fl P w (env::outer) H s a C (rawInt L) H' {s' with heap:=h'}->Q () {s' with heap:=h'}):
  wpAny M A (noteFrame (.ref a) env) Q E s':=by
 obtain ⟨B,y1,y2⟩:=y.base
 exact zoi hfr hf y1 fun h' z u=>k h' (Fl.mv y.os y.bare y.slot y.hs y1.frames z y2 u)
theorem Fl.off (y:Fl P w l H s a C fl H' s') (k: ∀ h',Fl P w l H s a C .none H' {s' with heap:=h'}->Q () {s' with heap:=h'}):wpAny M A (setFlight (.ref a) none) Q E s':=by
 obtain ⟨B,y1,y2⟩:=y.base
 exact ze8 y1 fun h' z u=>k h' (Fl.mv y.os y.bare y.slot y.hs y1.frames z y2 fun b o e n=>⟨o.slots,u b o e n⟩)
end
end
structure zeU (X:Cx):Prop where
 stk:X.stack=X.env::X.outer
 frm:X.env.frame=some X.env.locals
 ex:X.ex=[]
theorem zeU.frs {X:Cx} (z:zeU X):frs X.stack=X.env.locals::frs X.outer:=by
 rw [z.stk]
 unfold L2.frs
 rw [qat,z.frm]
section
variable {X:Cx} {pins:List (Addr×Obj)} {σ:St} {H H':Hp} {s s':Shared} {a C:Addr} {M:Model} {E:Value->Shared->Prop} {Q:Unit->Shared->Prop}
theorem Inv.below (I:Inv X pins σ H s) {b:Addr} {o:Obj} (e:X.s₀.heap.get? b=some o):b≠X.env.locals:=qaR (qaw (qaQ e) I.ok.above)
theorem Fl.made {h':Heap} {vs:List Value} (z:zeU X) (I:Inv X pins σ H s) (m:Heap.MadeExcOf s.heap h' a (.ref C) vs) (k: ∀ s2,Fl X.prog X.w X.outer X.H₀ X.s₀ a C .none H s2->Q () s2):wpAny M X.A (leaving X.env (.ref a)) Q E {s with heap:=h'}:=by
 have nex: ∀ b,b∉X.ex:=fun b h=>by rw [z.ex] at h;cases h
 have hfr:=I.ok.frames
 have hl:=I.stack
 have hin: ∀ env∈X.stack, ∀ b,env.frame=some b->b∈frs X.stack:=fun env he b hb=>List.mem_filterMap.mpr ⟨env,he,hb⟩
 have hl2:=W.funFrames_hide hl hin
 have hl3:h'.FunFrames (W.hideAll s.heap (frs X.stack)) X.stack:=hl2.of_keeps fun b o e _=>⟨o,m.keeps b o e,rfl⟩
 have inB: ∀ {b:Addr} {o:Obj},s.heap.get? b=some o->b∉frs X.stack->(W.hideAll s.heap (frs X.stack)).get? b=some o:=fun e n=>W.hideAll_get _ e n
 have ofB: ∀ {b:Addr} {o:Obj},(W.hideAll s.heap (frs X.stack)).get? b=some o->s.heap.get? b=some o:=fun e=>W.of_hideAll _ e
 have trk: ∀ b u,H b=some u->b∉frs X.stack:=fun b u e hm=>by rw [I.stkFree b hm] at e;cases e
 have newB:(W.hideAll s.heap (frs X.stack)).get? a=none:=by
  cases q:(W.hideAll s.heap (frs X.stack)).get? a with
  | none=>rfl
  | some o=>have:=ofB q;rw [m.new] at this;cases this
 have hst:=z.stk
 refine zhi (B:=W.hideAll s.heap (frs X.stack)) (by rw [<- hst];exact hfr) (by rw [<- hst];exact hl3) z.frm (zlB m) (fun b o e=>m.keeps b o (ofB e)) newB fun h2 q u=>k _ ?_
 have nin: ∀ b o,X.s₀.heap.get? b=some o->b∉frs X.outer->b∉frs X.stack:=fun b o e hb hm=>by
  rw [z.frs] at hm
  rcases qaP.mp hm with r | r
  ·exact I.below e r
  ·exact hb r
 refine ⟨I.os,I.bare,⟨_,q,fun b o e hb=> ?_,fun b v e=> ?_,fun b v e=> ?_⟩,fun b o e n hb=> ?_,fun b o e n=>I.base.free b o e n (nex b),I.base.tups,I.base.frzs,I.base.tbls⟩
 ·obtain ⟨o1,e1⟩:=I.base.there b o e (nex b)
  refine ⟨o1,inB e1 (nin b o e hb),fun n=> ?_⟩
  have e3:=I.base.keep b o e n hb (nex b)
  rw [e1] at e3
  cases e3
  rfl
 ·obtain ⟨o,e1⟩:=(I.hok b v e).there
  exact ⟨o,inB e1 (trk b v e)⟩
 ·refine (I.hok b v e).stay (fun c o hc e1=>inB e1 ?_) (fun _ r=>r) fun _ _ r=>r
  rcases hc with rfl | hc
  ·exact trk _ v e
  ·exact trk _ _ hc
 ·obtain ⟨sl,e1⟩:=I.base.slot b o e n hb (nex b)
  have hb2:b∈frs X.stack:=by rw [z.frs];exact qan _ hb
  obtain ⟨_,o3,e3,n3⟩:=hl.mem hb2
  rw [e1] at e3
  cases e3
  obtain ⟨sl4,e4⟩:=u b _ (m.keeps b _ e1) n3
  exact ⟨sl4,e4⟩
end
noncomputable def CXE (P:Program) (w:World):CXT:=fun outer H s E e s'=> ∃ a C H',e= .ref a/\Fl P w outer H s a C .none H' s'/\E e (some C) H'
end L2
namespace L3
open PySem PySem.Spec PyProof.Rows L2
def zbK (K:W.Frag) (c:String) (C:Addr):Prop:=W.nsIn K mainGlobals (c:Str)=some (some (.ref C))
noncomputable def zpj (K:W.Frag) (E:XE):XK:=fun _ oc H'=> ∃ c C,oc=some C/\zbK K c C/\E c H'
noncomputable def zr7 (K:W.Frag) (E:XK):XE:=fun c H'=> ∀ C v,zbK K c C->E v (some C) H'
def zoj (X:Cx) (E:XE):Prop:= ∀ (pins:List (Addr×Obj)) (σ:St) (H:Hp) (s:Shared) (h':Heap) (a C:Addr) (c:String) (vs:List Value),Inv X pins σ H s->zbK X.K c C->Heap.MadeExcOf s.heap h' a (.ref C) vs->E c H->X.xe (.ref a) {s with heap:=h'}
section
variable {P:Program} {w:World} {K:W.Frag} {mg:Str->Option Value} {base:Heap} {N:List Str} {qual:Str} {scope:Scope} {f:Addr} {cd:Value} {A:Around} {outer:List Env} {s:Shared} {H:Hp} {E:XK}
theorem zpy:zeU (zg9 (CXE P w) P w K mg base N qual scope f cd A outer s H E):=⟨rfl,rfl,rfl⟩
theorem zlv:zoj (zg9 (CXE P w) P w K mg base N qual scope f cd A outer s H E) (zr7 K E):=by
 intro pins σ H1 s1 h' a C c vs I hc m he
 exact Fl.made zpy I m fun s3 y3=>⟨a,C,H1,rfl,y3,he _ _ hc⟩
end
noncomputable def noX {α:Type} (m:M α):M α:=fun h=>match m h with
 | .exc _ _=> .bad
 | r=>r
theorem Fin.noX {α:Type} {K:W.Frag} {E E':XE} {ι:Io} {H:Hp} {m:M α} {h:Hh} {P:α->Io->Hp->Prop} (q:Fin K E ι H (L3.noX m h) P):Fin K E' ι H (m h) P:=by
 unfold L3.noX at q
 cases e:m h with
 | ok a h'=>rw [e] at q;exact q
 | exc c h'=>rw [e] at q;exact qa0 q
 | bad=>rw [e] at q;exact q
noncomputable def spE (K:W.Frag) (n:Nat) (F:List D->M D):Sp:=fun vs H Q E=>vs.length=n/\ ∃ ι h ds,zaq K ι H ds vs/\za6 K ι H h/\Fin K (zr7 K E) ι H (F ds h) fun d ι' H'=> ∀ v,Rel K ι' H' d v->Q v H'
section
variable {P:Program} {w:World} {K:W.Frag} {mg:Str->Option Value} {base:Heap}
theorem zpw {x qual:Str} {st:Stmt} {f:Addr} {fd:FuncData} {N ps:List Str} {k:Nat} {G:Sd->M Out} (F:Fun K x qual st f fd) (S:zas N ps (zae st))
  (hb: ∀ (cdv:Value) (A:Around) (outer:List Env) (s:Shared) (H:Hp) (E:XK),zdf k (A.deeper (envOfC qual (zae st) s.heap.objs.size f cdv))->SSs (zg9 (CXE P w) P w K mg base N qual (zae st) f cdv A outer s H E) (zr7 K E) (zcm st) G):
  zbr P w K mg base (CXE P w) (k+1) f fd ps (spE K ps.length (zc1 N.length G)):=by
 obtain ⟨oc,od,kV,doc,pm,an,cdv,ct,osl,rfl,lk,hcd⟩:=F.ex
 refine zo5 lk hcd S (fun vs H Q E h=>h.1) fun A outer s H vs Q E hr ⟨hl,ι,h,ds,rl,hh,q⟩=>⟨_,hb cdv A outer s H E hr,ι,h,ze2 N.length ds,zdV rl,hh,?_⟩
 refine Fin.bind q fun o h1 ι1 H1 e1 s1 hr1 q1=> ?_
 cases o with
 | nx sd=>exact fun σ' _=>Fin.out hr1 q1 _ (by simp [Rel])
 | rt d=>exact fun v rv=>Fin.out hr1 q1 v rv
 | bk sd=>exact qa0 q1
 | ct sd=>exact qa0 q1
end
section
variable {X:Cx} {E:XE} {e:Expr} {es:List Expr} {pos p:Pos}
theorem Fin.exmono {α:Type} {K:W.Frag} {E E':XE} {ι:Io} {H:Hp} {r:R α} {P:α->Io->Hp->Prop} (m: ∀ c H',E c H'->E' c H') (q:Fin K E ι H r P):Fin K E' ι H r P:=by
 cases r with
 | ok a h'=>exact q
 | exc c h'=>exact fun ι2 H2 t hr=>m _ _ (q ι2 H2 t hr)
 | bad=>exact q
theorem zlT {k:Nat} {f:Addr} {fd:FuncData} {ps:List Str} {n:Nat} {F:List D->M D} {fs:Sd->M (List D)} {x:Str} (G:zbr X.prog X.w X.K X.mg X.base (CXE X.prog X.w) k f fd ps (spE X.K n F)) (hx:zd8 (CXE X.prog X.w) X (zpj X.K E)) (hr:zdf k X.A) (hg:Gl X x) (hm:X.mg x=some (.ref f)) (hk:W.keepIn X.K (.ref f)=true) (hb:zaM X.K fd ps [])
  (ha:SA X E (e::es) fs) (hdb:(x==("__debug__":Str))=false:=by decide) (he:starEach (e::es) X.env=(false,eval e X.env)::starEach es X.env:=by rfl) (hpl:(backTo pos (starEach es X.env)).any (·.1)=false:=by rfl):
  SE X E (.Call (.Name x p) (e::es) [] pos) (zaH (zav n F) fs):=by
 refine PE.imp (zhc G hr hg hm hk hb (dvs:=[]) .nil hx ha hdb he hpl) fun σ H Q ⟨ι,h,sd,L,hh,q⟩=>⟨ι,h,sd,L,hh,Fin.bind q fun ds h1 ι1 H1 e1 s1 hr1 q1 vs rv=> ?_⟩
 show spE X.K n F (vs++[]) H1 Q _
 rw [List.append_nil]
 unfold zav at q1
 by_cases hl:ds.length=n
 ·rw [qa4 hl] at q1
  exact ⟨by rw [<- rv.length];exact hl,ι1,h1,ds,rv,hr1,Fin.exmono (fun c H' z C v hc=>⟨c,C,rfl,hc,z⟩) q1⟩
 ·rw [qa5 hl] at q1
  exact qa0 q1
theorem zlP {k:Nat} {f:Addr} {fd:FuncData} {ps:List Str} {n:Nat} {F:List D->M D} {fs:Sd->M (List D)} {x:Str} (G:zbr X.prog X.w X.K X.mg X.base CX0 k f fd ps (zbT X.K n F)) (hr:zdf k X.A) (hg:Gl X x) (hm:X.mg x=some (.ref f)) (hk:W.keepIn X.K (.ref f)=true) (hb:zaM X.K fd ps [])
  (ha:SA X E (e::es) fs) (hdb:(x==("__debug__":Str))=false:=by decide) (he:starEach (e::es) X.env=(false,eval e X.env)::starEach es X.env:=by rfl) (hpl:(backTo pos (starEach es X.env)).any (·.1)=false:=by rfl):
  SE X E (.Call (.Name x p) (e::es) [] pos) (zaH (zav n fun ds=>noX (F ds)) fs):=by
 refine PE.imp (zhc G hr hg hm hk hb (dvs:=[]) .nil (E:=fun _ _ _=>False) zqB ha hdb he hpl) fun σ H Q ⟨ι,h,sd,L,hh,q⟩=>⟨ι,h,sd,L,hh,Fin.bind q fun ds h1 ι1 H1 e1 s1 hr1 q1 vs rv=> ?_⟩
 show zbT X.K n F (vs++[]) H1 Q _
 rw [List.append_nil]
 unfold zav at q1
 by_cases hl:ds.length=n
 ·rw [qa4 hl] at q1
  exact ⟨by rw [<- rv.length];exact hl,ι1,h1,ds,rv,hr1,Fin.noX q1⟩
 ·rw [qa5 hl] at q1
  exact qa0 q1
end
end L3
namespace L2
open PySem PySem.Spec PyProof.Rows L3
structure zcP (k:Nat) (A:Around):Prop where
 dp:A.depth+3*k+5<recursionLimit
 un:A.units+16*k+200<cLine
theorem zcP.of {k:Nat} {A:Around} (r:zdf k A):zcP k A:=⟨r.dp,r.un⟩
theorem zcP.deeper {k:Nat} {A:Around} (r:zcP (k+1) A) (env:Env):zcP k (A.deeper env):=
 ⟨by have:=r.dp;show A.depth+1+3*k+5<_;omega,by have:=r.un;show A.units+3+16*k+200<_;omega⟩
theorem zcP.mono {j k:Nat} {A:Around} (r:zcP k A) (h:j<=k):zcP j A:=⟨by have:=r.dp;omega,by have:=r.un;omega⟩
structure FnH (P:Program) (w:World) (K:W.Frag) (mg:Str->Option Value) (base:Heap) (k:Nat) (f:Addr) (fd:FuncData) (ps:List Str) (sp:Sp):Prop where
 len: ∀ vs H Q E,sp vs H Q E->vs.length=ps.length
 run: ∀ (A:Around) (outer:List Env) (s:Shared) (H:Hp) (args:Args) (us:List Value) (vs:List V) (Q:VK),zcP k A->zl9 P w K mg base A outer s H->BindsTo s fd args (ps.zip us)->zaZ vs us->sp vs H Q E0->
  codeAny (model P w) A (.call (.ref f) args) (CR CX0 outer P w H s Q E0) s
theorem zo9 {P:Program} {w:World} {K:W.Frag} {mg:Str->Option Value} {base:Heap} {k:Nat} {f:Addr} {name qual:Str} {params:Arguments} {body:List Stmt} {scope:Scope} {dV kV doc pm cdv ct oc:Value} {an od:Option Addr}
  {osl:Array (Option Value)} {N ps:List Str} {sp:Sp} (lk:K.lookup f=some ⟨oc,od,.func (W.fnOf name qual params body scope dV kV doc pm an cdv ct),osl⟩) (hcd:W.codeIn K cdv qual=true) (S:zas N ps scope)
  (len: ∀ vs H Q E,sp vs H Q E->vs.length=ps.length)
  (hbody: ∀ (A:Around) (outer:List Env) (s:Shared) (H:Hp) (vs:List V) (Q:VK),zcP k (A.deeper (envOfC qual scope s.heap.objs.size f cdv))->sp vs H Q E0->
    ∃ t,PSs ({zg9 CX0 P w K mg base N qual scope f cdv A outer s H E0 with calm:=false}:Cx).nox body t/\t {nx:=fun _ H'=>Q .non H',rt:=Q} (zdP N vs) H):
  FnH P w K mg base (k+1) f (W.fnOf name qual params body scope dV kV doc pm an cdv ct) ps sp:=by
 refine ⟨len,fun A outer s H args us vs Q hr e0 hb r hsp=> ?_⟩
 have hl:=len _ _ _ _ hsp
 have KX:K.In s.heap:=e0.mod.kin.keeps fun b o e=>(e0.bs b o e).1
 have lim:s.heap.NoLimit:=e0.mod.nolimit.keeps fun b o e=>(e0.bs b o e).1
 have hkind: ∀ y∈ps.zip us,scope.names.lookup y.1=some .local\/(scope.names.lookup y.1=some .cell/\((cellsFrom (s.heap.objs.size+1) scope.names []).lookup y.1).isSome=true):=fun ⟨n,v⟩ hy=>by
  rcases S.par n (List.of_mem_zip hy).1 with q | q
  ·exact .inl q
  ·exact .inr ⟨q,W.cellsFrom_some _ _ _ (.inl q)⟩
 refine codeAny_call_function (by have:=hr.dp;omega) (KX _ _ lk) rfl S.co S.gen rfl (W.codeRec_of KX hcd) (hb _ _ _ _ ?_)
 refine wpAny_newFunctionEnv_cells S.kind hkind fun env he s1 x=> ?_
 subst he
 refine ⟨lim.keeps x.toInCall.keep,codeAny_func ?_⟩
 obtain ⟨t,ht,hq⟩:=hbody A outer s H vs Q (hr.deeper _) hsp
 have I:Inv {zg9 CX0 P w K mg base N qual scope f cdv A outer s H E0 with calm:=false} [] (zdP N vs) H s1:=zgz (cm:=false) S (fun z=>by cases z) e0 hl r x
 refine qaZ (ht.nox [] s1 (zdP N vs) H _ I hq) (fun fl s' hs=> ?_) fun e s' hs=>hs
 have fin: ∀ {σ':St} {H':Hp} {v:V} {u:Value},Inv {zg9 CX0 P w K mg base N qual scope f cdv A outer s H E0 with calm:=false} [] σ' H' s'->zbE v u->Q v H'->CE outer P w H s Q u s':=
  fun {σ' H' v u} J rv q=>⟨v,H',J.os,J.bare,J.base,J.hok,rv,q⟩
 cases fl with
 | ret u=>
  obtain ⟨v,σ',H',J,rv,q⟩:=hs
  exact fin J rv q
 | next=>
  obtain ⟨σ',H',J,q⟩:=hs
  exact fin (v:=V.non) (u:=Value.none) J rfl q
 | brk=>
  obtain ⟨_,_,_,q⟩:=hs
  exact qa0 q
 | cont=>
  obtain ⟨_,_,_,q⟩:=hs
  exact qa0 q
section
variable {X:Cx} {pins:List (Addr×Obj)} {σ:St} {H H':Hp} {s s':Shared} {a:Addr} {o:Obj}
theorem Inv.track (I:Inv X pins σ H s) (hH:H a=none) (ho:s.heap.get? a=some o) (h0:X.s₀.heap.get? a=none) (hL:a≠X.env.locals) (hc: ∀ x c,X.env.cells.lookup x=some c->c≠a) (hp: ∀ p∈X.pn++pins,p.1≠a):
  Inv X pins σ (upd H a (.frz o (.own 0))) s:=by
 have un: ∀ {b:Addr} {u:HO},H b=some u->upd H a (.frz o (.own 0)) b=some u:=fun e=>by rw [zaw (zaQ e hH)];exact e
 refine ⟨I.ok,I.os,I.bare,⟨I.base.keep,I.base.slot,fun b ob e n hx=> ?_,I.base.there,fun b xs e=>un (I.base.tups b xs e),fun b ob u e=>un (I.base.frzs b ob u e),fun b ps e=> ?_⟩,I.loc,I.cell,?_,fun x c e=> ?_,fun p q=> ?_,fun b u e=> ?_,I.len⟩
 ·rw [zaw (fun z=>by subst z;rw [h0] at e;cases e)]
  exact I.base.free b ob e n hx
 ·obtain ⟨m,e1⟩:=I.base.tbls b ps e
  exact ⟨m,un e1⟩
 ·rw [zaw (Ne.symm hL)]
  exact I.free
 ·rw [zaw (hc x c e)]
  exact I.freeC x c e
 ·obtain ⟨e1,e2,e3⟩:=I.pin p q
  exact ⟨e1,by rw [zaw (hp p q)];exact e2,e3⟩
 ·by_cases hb:b=a
  ·subst hb
   rw [zaU] at e
   cases e
   exact ⟨ho,o,ho⟩
  ·rw [zaw hb] at e
   exact (I.hok b u e).stay (fun _ _ _ z=>z) (fun c z=>un z) fun c xs z=>un z
theorem zov {M:Model} {A:Around} {E:Value->Shared->Prop} {i:Nat} {x:Str} {pos:Pos} {Q:Unit->Shared->Prop} (I:Inv X pins σ H s) (hN:X.N.Nodup) (hi:X.N[i]? = some x) (hk:X.env.scope.names.lookup x=some .local)
  (h: ∀ s',Inv X pins (σ.set i none) H s'->Q () s'):wpAny M A (do bindName X.env x .none;unbindBehindTheSuite X.env x pos) Q E s:=by
 obtain ⟨m,hn,hl⟩:=id I.loc
 have hcls:(X.env.scope.kind== .class || (X.env.scope.kind== .module && X.env.locals != X.env.globals))=false:=by rw [I.ok.kind];rfl
 have hiσ:i<σ.length:=by rw [I.len];exact (qac.mp hi).1
 have cne:=I.cne
 refine wpAny_nameGoes_keeps hk hn hcls fun h' v hn' hs=> ?_
 obtain ⟨oL,_,_,hoL,_⟩:=id hn
 refine h _ ⟨I.ok,I.os,I.bare,⟨fun b ob e n hb hx=> ?_,fun b ob e n hb hx=> ?_,I.base.free,fun b ob e hx=> ?_,I.base.tups,I.base.frzs,I.base.tbls⟩,⟨_,hn',fun j y v' e1 e2 e3=> ?_⟩,fun y c e=> ?_,I.free,I.freeC,fun p hp=> ?_,fun b ob e=> ?_,by simpa using I.len⟩
 ·exact (hs.2 b (I.below e)).trans (I.base.keep b ob e n hb hx)
 ·obtain ⟨sl,e1⟩:=I.base.slot b ob e n hb hx
  exact ⟨sl,(hs.2 b (I.below e)).trans e1⟩
 ·obtain ⟨o',e1⟩:=I.base.there b ob e hx
  exact ⟨o',(hs.2 b (I.below e)).trans e1⟩
 ·by_cases hj:j=i
  ·subst hj
   rw [qai hiσ] at e2
   cases e2
  ·rw [qao (Ne.symm hj)] at e2
   obtain ⟨u',r',q⟩:=hl j y v' e1 e2 e3
   refine ⟨u',r',?_⟩
   rcases q with ⟨k,e⟩ | ⟨k,c,e,z⟩
   ·refine .inl ⟨k,?_⟩
    have:y≠x:=fun e=>hj (zfz hN e1 (e▸hi))
    simp [this,e]
   ·exact .inr ⟨k,c,e,z.sameBut hs (cne y c e)⟩
 ·obtain ⟨w',z⟩:=I.cell y c e
  exact ⟨w',z.sameBut hs (cne y c e)⟩
 ·obtain ⟨e,n,ne,nf,d⟩:=I.pin p hp
  exact ⟨(hs.2 p.1 ne).trans e,n,ne,nf,d⟩
 ·refine (I.hok b ob e).stay (fun c w' hc q=>(hs.2 c ?_).trans q) (fun _ q=>q) fun _ _ q=>q
  rintro rfl
  rcases hc with rfl | hc
  ·rw [I.free] at e;cases e
  ·rw [I.free] at hc;cases hc
end
section
variable {X:Cx} {pins:List (Addr×Obj)} {σ:St} {H H':Hp} {s s':Shared} {a C CE:Addr} {ce en:Str} {pce pos:Pos} {b₀:Stmt} {suite:List Stmt} {j:Nat} {Q:Flow->Shared->Prop} {E:Value->Shared->Prop}
theorem Fl.caught (z:zeU X) (I:Inv X pins σ H s) (y:Fl X.prog X.w X.stack H s a C .none H' s') (hN:X.N.Nodup) (hj:X.N[j]? = some en) (hen:X.env.scope.names.lookup en=some .local) (hg:Gl X ce) (hm:X.mg ce=some (.ref CE)) (hx:W.exmOne X.K (.ref C) (.ref CE)=some true)
  (k: ∀ s6,Inv X pins (σ.set j (some (.ref a))) H' s6->(∃ head,zgQ s6.heap a (.ref C) head)->wpAny (model X.prog X.w) (X.A.mark (some (.ref a))) (execs (b₀::suite) X.env)
    (fun f s4=>wpAny (model X.prog X.w) X.A (do bindName X.env en .none;unbindBehindTheSuite X.env en pos) (fun _ s5=>Q f s5) E s4) (fun _ _=>False) s6) (hd:(ce==("__debug__":Str))=false:=by decide):
  wpAny (model X.prog X.w) X.A (noteFrame (.ref a) X.env) (fun _ s2=>wpAny (model X.prog X.w) X.A (setFlight (.ref a) none) (fun _ s3=>
    wpAny (model X.prog X.w) X.A (handleBy (.ref a) X.env [.ExceptHandler (some (.Name ce pce)) (some en) (b₀::suite) pos]) Q E s3) E s2) E s':=by
 have hfr:=I.ok.frames
 rw [z.stk] at hfr y
 refine y.note hfr z.frm fun h3 y3=> ?_
 refine y3.off fun h4 y4=> ?_
 have ev: ∀ {hp fl},Fl X.prog X.w (X.env::X.outer) H s a C fl H' {s' with heap:=hp}->Inv X pins σ H' {s' with heap:=hp}:=fun {hp fl} y=>by
  have u:=y.un
  rw [<- z.stk] at u
  exact I.call' y.os u y.hok y.bare fun b q=>absurd q (by simp)
 have I4:=ev y4
 obtain ⟨hd4,x4⟩:=y4.exc
 have LT:W.Looks (model X.prog X.w) h4 (typeOf (.ref a)) (.ref C):=by
  obtain ⟨ob,vs,e1,e2,_⟩:=x4
  exact e2▸(W.Looks.ld e1).andThen .now
 refine wpAny_handleBy_cons (codeAny_handlers_test ?_) (by intro q;cases q)
 refine Calls.Name_function_global I4.ok.kind hg (Calls.loadGlobal_global (by rw [I4.ok.glob];exact I4.mod.glob.keeps I4.bk) hm ?_) hd
 refine (W.exm_one I4.kIn LT hx).here ?_
 refine codeAny_handlers_suite_as ?_
 refine y4.off fun h5 y5=> ?_
 have I5:=ev y5
 obtain ⟨hd5,x5⟩:=y5.exc
 have na:a≠X.env.locals/\ ∀ x c,X.env.cells.lookup x=some c->c≠a:=by
  obtain ⟨f1,f2,f3⟩:=y.fresh
  refine ⟨fun q=> ?_,fun x c e q=> ?_⟩
  ·obtain ⟨m,⟨oL,_,_,hoL,_⟩,_⟩:=I.loc
   rw [<- q,f1] at hoL
   cases hoL
  ·obtain ⟨v,oc,hoc,_⟩:=I.cell x c e
   rw [q,f1] at hoc
   cases hoc
 refine zfW I5 hN hj (.inl hen) (v:= .ref a) rfl (fun s6 I6 ⟨b,sb,hb⟩=> ?_) (.inr hen)
 refine qaZ (k s6 I6 ⟨hd5,x5.keep fun ob e=>(sb.2 a fun q=> ?_).trans e⟩) (fun _ _ q=>q) fun _ _ q=>q.elim
 rcases hb with hb | hb
 ·exact na.1 (q.trans hb)
 ·exact na.2 en b hb q.symm
end
noncomputable abbrev zjP:List Value:=[.type "ValueError",.type "Exception",.type "BaseException",.type "object"]
theorem zn6 {K:W.Frag} {h:Heap} {mg:Str->Option Value} {x:Str} {C:Addr} {bm:List Value} {nid:String} (X:K.In h) (hm:mg x=some (.ref C)) (q:W.excIn K C bm nid=true):OwnCls x C bm nid mg h:=by
 refine ⟨hm,?_⟩
 unfold W.excIn at q
 split at q
 ·rename_i dd cdt sl lk
  split at q
  ·rename_i C2 tl y0 y1 y2 y3 nn y5 hmro hsl
   simp only [qaG,beq_iff_eq,Bool.not_eq_true'] at q
   obtain ⟨⟨⟨⟨⟨rfl,rfl⟩,q3⟩,q4⟩,q5⟩,q6⟩:=q
   obtain ⟨z1,z2,z3,z4,z5,z6,z7,z8,z9,z10,z11⟩:=cdt
   dsimp only at hmro q3 q5 q6
   subst hmro q3
   obtain rfl:sl= #[y0,y1,y2,y3,some (.builtin nn),y5]:=by
    obtain ⟨ll⟩:=sl
    dsimp only at hsl
    rw [hsl]
   exact ⟨tl,z4,z1,z5,z2,z6,z7,z8,z9,z10,dd,y0,y1,y2,y3,y5,_,X _ _ lk,.of_isNs (W.isNs_of_in X q5),W.nsMap_none_of_in X q5 q6,W.tail_of_in X q4⟩
  ·cases q
 ·cases q
noncomputable def Cx.re (X:Cx) (pn:List (Addr×Obj)) (xe:Value->Shared->Prop):Cx:={X with pn:=pn,xe:=xe}
section
variable {X:Cx} {pins pins':List (Addr×Obj)} {σ:St} {H H':Hp} {s s':Shared} {xe:Value->Shared->Prop}
theorem Inv.re (I:Inv X pins σ H s) (xe:Value->Shared->Prop):Inv (X.re (X.pn++pins) xe) [] σ H s:=
 ⟨⟨I.ok.mod,I.ok.kind,I.ok.glob,I.ok.blt,I.ok.above,I.ok.inj,I.ok.has,I.ok.cab,I.ok.hd,I.ok.hx,I.ok.frames,I.ok.stk,I.ok.exf,I.ok.bs,I.ok.bsz,I.ok.noex,I.ok.exfs,I.ok.funs,I.ok.frf⟩,I.os,I.bare,I.base,I.loc,I.cell,I.free,I.freeC,fun p hp=>I.pin p (by simpa [Cx.re] using hp),I.hok,I.len⟩
theorem Inv.unre (I:Inv (X.re (X.pn++pins) xe) pins' σ H s):Inv X pins σ H s:=
 ⟨⟨I.ok.mod,I.ok.kind,I.ok.glob,I.ok.blt,I.ok.above,I.ok.inj,I.ok.has,I.ok.cab,I.ok.hd,I.ok.hx,I.ok.frames,I.ok.stk,I.ok.exf,I.ok.bs,I.ok.bsz,I.ok.noex,I.ok.exfs,I.ok.funs,I.ok.frf⟩,I.os,I.bare,I.base,I.loc,I.cell,I.free,I.freeC,fun p hp=>I.pin p (List.mem_append_left _ hp),I.hok,I.len⟩
theorem SP.unre {D:zmA} {f:Flow} (h:SP (X.re (X.pn++pins) xe) pins' D f s'):SP X pins D f s':=by
 cases f with
 | next=>obtain ⟨σ',H',I,q⟩:=h;exact ⟨σ',H',I.unre,q⟩
 | brk=>obtain ⟨σ',H',I,q⟩:=h;exact ⟨σ',H',I.unre,q⟩
 | cont=>obtain ⟨σ',H',I,q⟩:=h;exact ⟨σ',H',I.unre,q⟩
 | ret u=>obtain ⟨v,σ',H',I,r,q⟩:=h;exact ⟨v,σ',H',I.unre,r,q⟩
end
end L2
namespace L3
open PySem PySem.Spec PyProof.Rows L2
section
variable {X:Cx} {pins:List (Addr×Obj)} {σ:L2.St} {H:Hp} {s:Shared} {a C:Addr} {o:Obj} {vs:Array Value} {head:Value} {c:String} {gk en pe:Str} {p1 p2 p3:Pos} {j k:Nat} {fk:Addr} {fdk:FuncData} {Fk:List D->M D} {Qv:VK} {ι:Io} {h:Hh}
theorem zkv (I:Inv X pins σ H s) (hH:H a=none) (ho:s.heap.get? a=some o) (ob:o.cls= .ref C/\o.dict=none/\o.data= .fields vs/\vs[2]? = some .none/\vs[1]? = some head)
  (h0:X.s₀.heap.get? a=none) (hL:a≠X.env.locals) (hcl: ∀ x c,X.env.cells.lookup x=some c->c≠a) (hp: ∀ p∈X.pn++pins,p.1≠a) (hj:X.N[j]? = some en) (hσ:σ[j]? = some (some (.ref a))) (hen:X.env.scope.names.lookup en=some .local)
  (FH:FnH X.prog X.w X.K X.mg X.base k fk fdk [pe] (zbT X.K 1 Fk)) (hb:zaM X.K fdk [pe] []) (hg:Gl X gk) (hm:X.mg gk=some (.ref fk)) (kp:W.keepIn X.K (.ref fk)=true) (hr:zcP k X.A) (hc:zbK X.K c C) (hh:za6 X.K ι H h)
  (q:Fin X.K E0x ι (upd H a (.frz o (.own 0))) (Fk [.exn c] h) fun d ι' H'=> ∀ v,Rel X.K ι' H' d v->Qv v H') (hd:(gk==("__debug__":Str))=false:=by decide) (hd2:(en==("__debug__":Str))=false:=by decide):
  wpAny (model X.prog X.w) (X.A.mark (some (.ref a))) (eval (.Call (.Name gk p1) [.Name en p2] [] p3) X.env) (fun u s8=> ∃ v H8,Inv X pins σ H8 s8/\zbE v u/\Qv v H8) (fun _ _=>False) s:=by
 have It:=I.track hH ho h0 hL hcl hp
 have E0':=It.env0
 refine wpAny_Call_Name_kw (Calls.Name_function_global I.ok.kind hg (Calls.loadGlobal_global (by rw [I.ok.glob];exact I.mod.glob.keeps I.bk) hm ?_) hd)
 refine W.callWith_K (h₀:=X.base) I.ok.mod.kin kp ?_
 refine Calls.spliced_cons ?_
 obtain ⟨m,hn,hl⟩:=It.loc
 obtain ⟨u,r,l⟩:=hl j en (.ref a) hj hσ (.inl hen)
 obtain rfl:u=Value.ref a:=r
 have hme:m en=some (.ref a):=by
  rcases l with ⟨_,e⟩ | ⟨e,_⟩
  ·exact e
  ·exfalso
   have e':X.env.scope.names.lookup en=some .cell\/X.env.scope.names.lookup en=some .free:=e
   rw [hen] at e'
   rcases e' with e' | e'<;>cases e'
 refine wpAny_Name (wpAny_loadName_local I.ok.kind hen hn hme ?_) hd2
 refine Calls.spliced_nil ⟨It.kIn,?_⟩
 have e0:zl9 X.prog X.w X.K X.mg X.base (X.A.mark (some (.ref a))) X.stack s (upd H a (.frz o (.own 0))):=
  ⟨It.ok.frames,E0'.mod,E0'.bs,E0'.bsz,E0'.funs,E0'.frf,E0'.hok,E0'.bare,.inr ⟨a,o,.ref C,head,vs,rfl,zaU,ob⟩⟩
 have sp:zbT X.K 1 Fk [.ref a] (upd H a (.frz o (.own 0))) Qv E0:=
  ⟨rfl,ι,h,[.exn c],zaq.cons (by simp only [Rel];exact ⟨a,o,C,head,vs,rfl,⟨zaU,hh.nin hH⟩,hc,ob⟩) zaq.nil,hh.laid hH,q⟩
 refine wpAny_call (codeAny_mono (FH.run (X.A.mark (some (.ref a))) X.stack s _ ⟨[.ref a],[]⟩ [.ref a] [.ref a] Qv ⟨hr.dp,hr.un⟩ e0 (hb s [.ref a] It.kIn rfl) (.cons rfl .nil) sp) fun r s' hq=> ?_)
 cases r with
 | error e=>exact qa0 hq
 | ok fl=>
  cases fl with
  | ret u=>exact It.after hq
  | next=>exact qa0 hq
  | brk=>exact qa0 hq
  | cont=>exact qa0 hq
end
noncomputable def zgW (known:List String) (gb:FS) (Fk:List D->M D):FS:=fun sd h=>match gb sd h with
 | .exc c h1=>if known.contains c=true then (do let d<-noX (Fk [.exn c]);pure (.rt d):M Out) h1 else .bad
 | r=>r
section
variable {X:Cx} {E:XE} {body:List Stmt} {ce en gk pe x:Str} {pce p1 p2 p3 p4 p5 hp pos:Pos} {CE fk:Addr} {fdk:FuncData} {Fk:List D->M D} {gb:FS} {j k i:Nat} {known:List String}
theorem zmb {st:Stmt} {fin:Sd->D->M Out} {gt:FS} (hgt: ∀ sd h,gt sd h=match gb sd h with
      | .exc c h1=>if known.contains c=true then (do let d<-noX (Fk [.exn c]);fin sd d:M Out) h1 else .bad
      | r=>r)
  (z:zeU X) (hN:X.N.Nodup) (hj:X.N[j]? = some en) (hen:X.env.scope.names.lookup en=some .local) (hg:Gl X ce) (hm:X.mg ce=some (.ref CE))
  (hkn: ∀ c∈known, ∀ C,zbK X.K c C->W.exmOne X.K (.ref C) (.ref CE)=some true) (hd:(ce==("__debug__":Str))=false)
  (hb: ∀ pn xe E',zd8 (CXE X.prog X.w) (X.re pn xe) (zpj X.K E')->SSs (X.re pn xe) E' body gb)
  (hst: ∀ (X':Cx) (pins:List (Addr×Obj)) (σ:L2.St) (H:Hp) (s:Shared) (a:Addr) (D0:zmA) (sd:Sd) (Q:Flow->Shared->Prop) (Ef:Value->Shared->Prop) (pn:List (Addr×Obj)) (xe:Value->Shared->Prop),X'=X.re pn xe->Inv X' pins (σ.set j (some (.ref a))) H s->sd.length=X.N.length->
    (∀ Qv:VK,(∀ d ι' H' h',za6 X.K ι' H' h'->Fin X.K E ι' H' (fin sd d h') (zfT X.K D0)-> ∀ v,Rel X.K ι' H' d v->Qv v H')->
      wpAny (model X.prog X.w) (X.A.mark (some (.ref a))) (eval (.Call (.Name gk p1) [.Name en p2] [] p3) X.env) (fun u s8=> ∃ v H8,Inv X' pins (σ.set j (some (.ref a))) H8 s8/\zbE v u/\Qv v H8) (fun _ _=>False) s)->
    (∀ f s9,SP X' pins D0 f s9->Q f s9)->
    wpAny (model X.prog X.w) (X.A.mark (some (.ref a))) (execs [st] X.env) (fun f s4=>wpAny (model X.prog X.w) X.A (do bindName X.env en .none;unbindBehindTheSuite X.env en hp) (fun _ s5=>Q f s5) Ef s4) (fun _ _=>False) s)
  (FH:FnH X.prog X.w X.K X.mg X.base k fk fdk [pe] (zbT X.K 1 Fk)) (hbk:zaM X.K fdk [pe] []) (hgk:Gl X gk) (hmk:X.mg gk=some (.ref fk)) (kp:W.keepIn X.K (.ref fk)=true) (hr:zcP k X.A) (hd2:(gk==("__debug__":Str))=false) (hd3:(en==("__debug__":Str))=false):
  SS X E (.Try body [.ExceptHandler (some (.Name ce pce)) (some en) [st] hp] [] [] pos) gt:=by
 intro pins s σ H D0 I ⟨ι,h,sd,L,hh,q⟩
 refine wpAny_Try_except ?_
 rw [hgt] at q
 let xe':Value->Shared->Prop:=fun e s₁=>wpAny (model X.prog X.w) X.A (noteFrame e X.env) (fun _ s₂=>wpAny (model X.prog X.w) X.A (setFlight e none) (fun _ s₃=>wpAny (model X.prog X.w) X.A (handleBy e X.env [.ExceptHandler (some (.Name ce pce)) (some en) [st] hp]) (SP X pins D0) X.xe s₃) X.xe s₂) X.xe s₁
 cases hres:gb sd h with
 | bad=>rw [hres] at q;exact qa0 q
 | ok o1 h1=>
  rw [hres] at q
  have run:=hb (X.pn++pins) xe'
   E0x (fun pins' σ' H1 s1 e s2 I1 hx=>by obtain ⟨a,C,H2,_,_,c,C',_,_,w⟩:=hx;exact w.elim) [] s σ H D0 (I.re _) ⟨ι,h,sd,L,hh,by rw [hres];exact q⟩
  refine qaZ run (fun f s1 hs=> ?_) fun _ _ w=>w
  have hs':=hs.unre
  cases f with
  | next=>exact wpAny_execs_nil hs'
  | ret u=>exact hs'
  | brk=>exact hs'
  | cont=>exact hs'
 | exc c h1=>
  rw [hres] at q
  by_cases hk:known.contains c=true
  ·simp only [hk,if_true] at q
   have run:=hb (X.pn++pins) xe'
    (fun c' H'=>c'=c/\ ∃ ι',zbS ι H ι' H'/\za6 X.K ι' H' h1) (fun pins' σ' H1 s1 e s2 I1 hx=>by
      obtain ⟨a,C,H2,rfl,y,c',C',e1,hc,rfl,ι',st1,hr1⟩:=hx
      cases e1
      have z':zeU (X.re (X.pn++pins) xe'):=⟨z.stk,z.frm,z.ex⟩
      obtain ⟨f1,f2,f3⟩:=y.fresh
      refine Fl.caught (X:=X.re (X.pn++pins) xe') (b₀:=st) (suite:=[]) (pce:=pce) (pos:=hp) (Q:=SP X pins D0) (E:=X.xe) z' I1 y hN hj hen hg hm (hkn c' (by simpa using hk) C hc) (fun s6 I6 ⟨head,x6⟩=> ?_) hd
      obtain ⟨o,vs,ho,ob⟩:=x6
      have hnil: ∀ b,b∉X.ex:=fun b h=>by rw [z.ex] at h;cases h
      refine hst _ pins' σ' H2 s6 a D0 sd (SP X pins D0) X.xe _ _ rfl I6 (L.1.trans I.len) (fun Qv hQ=> ?_) fun f s9 w=>w.unre
      have hσ:(σ'.set j (some (V.ref a)))[j]? = some (some (.ref a)):=qai (by rw [I1.len];exact (qac.mp hj).1)
      refine zkv (X:=X.re _ _) I6 f2 ho ob ?_ (fun w=> ?_) (fun x c e w=> ?_) (fun p hp w=> ?_) hj hσ hen FH hbk hgk hmk kp hr hc hr1 ?_ hd2 hd3
      · cases w:X.s₀.heap.get? a with
        | none=>exact w
        | some ob=>
          obtain ⟨o',e'⟩:=I1.base.there a ob w (hnil a)
          rw [f1] at e'
          cases e'
      · obtain ⟨m,⟨oL,_,_,hoL,_⟩,_⟩:=I1.loc
        have hoL:s1.heap.get? X.env.locals=some oL:=hoL
        rw [<- show a=X.env.locals from w,f1] at hoL
        cases hoL
      · obtain ⟨v,oc,hoc,_⟩:=I1.cell x c e
        rw [w,f1] at hoc
        cases hoc
      · have e:=(I1.pin p hp).1
        rw [w,f1] at e
        cases e
      · have q1:=Fin.step (st1.trans (hr1.laidS (o:= .frz o (.own 0)) f2)) q
        exact Fin.noX (Fin.bind q1 fun d h' ι8 H8 e8 s8 hr8 q8 v rv=>hQ d ι8 H8 h' hr8 q8 v rv))
    [] s σ H {nx:=fun _ _=>False,rt:=fun _ _=>False} (I.re _) ⟨ι,h,sd,L,hh,by rw [hres];exact fun ι' H' st1 hr1=>⟨rfl,ι',st1,hr1⟩⟩
   refine qaZ run (fun f s1 hs=> ?_) fun _ _ w=>w
   cases f with
   | next=>obtain ⟨_,_,_,w⟩:=hs;exact w.elim
   | brk=>obtain ⟨_,_,_,w⟩:=hs;exact w.elim
   | cont=>obtain ⟨_,_,_,w⟩:=hs;exact w.elim
   | ret u=>obtain ⟨_,_,_,_,_,w⟩:=hs;exact w.elim
  ·simp only [hk] at q
   exact qa0 q
theorem zqL (z:zeU X) (hN:X.N.Nodup) (hj:X.N[j]? = some en) (hen:X.env.scope.names.lookup en=some .local) (hg:Gl X ce) (hm:X.mg ce=some (.ref CE))
  (hkn: ∀ c∈known, ∀ C,zbK X.K c C->W.exmOne X.K (.ref C) (.ref CE)=some true)
  (hb: ∀ pn xe E',zd8 (CXE X.prog X.w) (X.re pn xe) (zpj X.K E')->SSs (X.re pn xe) E' body gb)
  (FH:FnH X.prog X.w X.K X.mg X.base k fk fdk [pe] (zbT X.K 1 Fk)) (hbk:zaM X.K fdk [pe] []) (hgk:Gl X gk) (hmk:X.mg gk=some (.ref fk)) (kp:W.keepIn X.K (.ref fk)=true) (hr:zcP k X.A)
  (hd:(ce==("__debug__":Str))=false:=by decide) (hd2:(gk==("__debug__":Str))=false:=by decide) (hd3:(en==("__debug__":Str))=false:=by decide):
  SS X E (.Try body [.ExceptHandler (some (.Name ce pce)) (some en) [.Return (some (.Call (.Name gk p1) [.Name en p2] [] p3)) p4] hp] [] [] pos) (zgW known gb Fk):=by
 refine zmb (fin:=fun _ d=>pure (.rt d)) (p1:=p1) (p2:=p2) (p3:=p3) (fun sd h=>rfl) z hN hj hen hg hm hkn hd hb (fun X' pins σ H s a D0 sd Q Ef pn xe hX I6 hl ev hQ=> ?_) FH hbk hgk hmk kp hr hd2 hd3
 subst hX
 refine wpAny_execs_cons ?_
 refine wpAny_Return_some (qaZ (ev (fun v H'=>D0.rt v H') fun d ι' H' h' hr1 q v rv=>Fin.out hr1 q v rv) (fun u s8 hv=> ?_) fun _ _ w=>w)
 obtain ⟨v,H8,I8,rv,qv⟩:=hv
 exact zov (X:=X.re pn xe) I8 hN hj hen fun s9 I9=>hQ _ s9 ⟨v,_,H8,I9,rv,qv⟩
noncomputable def zhD (c:String):FS:=fun _ h=> .exc c h
theorem zn2 {c:String} {C:Addr} {nid:String} {msg:Str} {jj:Nat} {np cpos:Pos} (hc:X.calm=true) (hp:zoj X E) (hX:W.excIn X.K C zjP "ValueError.__new__"=true) (hcl:zbK X.K c C) (hg:Gl X (c:Str)) (hd:((c:Str)==("__debug__":Str))=false:=by decide):
  SS X E (.Raise (some (.Call (.Name (c:Str) np) [.Constant (.str msg) jj p2] [] cpos)) none pos) (zhD c):=by
 intro pins s σ H D0 I ⟨ι,h,sd,L,hh,q⟩
 have hE:E c H:=q ι H (zbS.refl _ _) hh
 have hm:X.mg (c:Str)=some (.ref C):=W.mg_of I.ok.mod.kin I.ok.mod.glob hcl
 obtain ⟨tl,N,nm,qq,bs,hdct,sn,sub,ab,col,dd,k0,k1,k2,k3,k5,mN,hC,hNs,hni,T⟩:=(zn6 (x:=(c:Str)) I.ok.mod.kin hm hX).obj
 refine wpAny_Raise_call_subT (C:=C) (nm:=nm) (q:=qq) (N:=N) (bs:=bs) (bm:=tl) (hdct:=hdct) (sn:=sn) (sub:=sub) (ab:=ab) (col:=col) (dd:=dd) (k0:=k0) (k1:=k1) (k2:=k2) (k3:=k3) (k5:=k5)
  PySem.F.excBase_ValueError (mN:=mN) (T.hasType PySem.F.excBase_ValueError.hasBase) (I.ok.hd hc) rfl hni (zho I hg hm ⟨rfl,?_⟩ hd)
 refine Calls.evalArgs_plain (x:=eval (.Constant (.str msg) jj p2) X.env) (rest:=[]) ?_
 refine Calls.spliced_cons (thn (zmu pins s σ H (fun v H1=>H1=H) I rfl) fun u s1 hu=> ?_)
 obtain ⟨v,H1,I1,rv,rfl⟩:=hu
 refine Calls.spliced_nil ⟨rfl,by show 1<=sizeLine;decide,I1.bk _ _ hC,hNs.keeps I1.bk,T.keeps I1.bk,fun h' e m=> ?_⟩
 exact hp pins σ H1 s1 h' e C c _ I1 hcl m hE
end
end L3
namespace L3
open PySem PySem.W
theorem zf3 {K:Frag} {C:Addr} {name:Str} {a g:Value} (hc:(clsIn K C).isSome=true) (ha:findIn K (.ref C) name=some (some a)) (hg:specialIn K a "__get__"=some (some g)) (ht:takesIn K a=some true):findObj K C none name=some (.bind g a):=by
 obtain ⟨cd,hc⟩:=Option.isSome_iff_exists.mp hc
 unfold findObj
 rw [hc,Option.bind_some,ha,Option.bind_some]
 simp [hg,ht]
section
variable {prog:Program} {w:World} {A:Around} {E:Value->Shared->Prop} {s:Shared} {K:Frag} {x D:Addr} {ox:Obj}
theorem zkq {Q:Option Value->Shared->Prop} (X:K.In s.heap) (I:InstAt s.heap x ox D none) (hc:(clsIn K D).isSome=true) (hga:findIn K (.ref D) "__getattribute__"=some (some (.builtin "BaseException.__getattribute__"))) (hk:findIn K (.ref D) "__getattr__"=some none)
  (ha:findIn K (.ref D) "__class__"=some (some (.builtin "object.__class__"))) (hn:specialIn K (.builtin "object.__class__") "__get__"=some (some (.builtin "getset_descriptor.__get__"))) (htk:takesIn K (.builtin "object.__class__")=some true)
  (hm:mroIn K D (.type "object")=some true) (hmB:mroIn K D (.type "BaseException")=some true) (h:Q (some (.ref D)) {s with toks:=s.toks+1}):wpAny (model prog w) A (getAttr? (.ref x) "__class__") Q E s:=by
 obtain ⟨hh,g,d,t,os⟩:=s
 have L0:=I.type (M:=model prog w)
 have L1:=looks_findIn (M:=model prog w) X hga
 have L2:=looks_findIn (M:=model prog w) X hk
 have L3:=looks_find (M:=model prog w) X I (zf3 hc ha hn htk)
 have LB:Looks (model prog w) hh (isInstance (.ref x) (.type "BaseException")) true:=L0.andThen (looks_mroIn X hmB)
 have f3:=PySem.F.attr_ValueError.ga.bind (.ref x)
 have hx2:(Value.builtin "BaseException.__getattribute__"==Value.builtin "object.__getattribute__")=false:=by decide +kernel
 unfold getAttr? getAttrBy? getAttrBy
 refine qaW (wpAny_mkText (qaW (wpAny_attempt (qaO (qaW (L0.at (qaW (L1.at ?_))))))))
 dsimp only
 rw [hx2,Bool.and_false,qa5 Bool.false_ne_true]
 unfold getAttrByItsOwn hookBefore
 rw [qa4 (show onTheHeap (Value.ref D)=true from rfl)]
 refine qaW (L2.at ?_)
 refine qaW (wpAny_attempt (qaO ?_))
 unfold callGetattribute
 rw [qa5 (by simp)]
 unfold boundAndCalled
 rw [f3]
 refine qaW (qaX ?_)
 refine wpAny_call (codeAny_call_builtin PySem.F.attr_ValueError.ga.plain PySem.F.entry_bexc_ga ?_)
 have kd:builtinKind "BaseException.__getattribute__"=some .slot:=by decide +kernel
 have sp:splitId "BaseException.__getattribute__"=some ("BaseException","__getattribute__"):=by decide +kernel
 have ag:=PySem.F.args_bexc_ga (.ref x) (.str "__class__" t)
 simp only [checkBuiltinCall,kd,sp]
 refine qaW (LB.at ?_)
 rw [qa5 (by decide)]
 refine wpAny_of_eq (a:=()) ag ?_
 unfold Builtin.«object.__getattribute__»
 refine qaW (qaX ?_)
 refine qaW (qaX ?_)
 refine qaW (L0.at ?_)
 refine qaW (L3.at ?_)
 dsimp only
 unfold Builtin.ObjectAttr.bindTo
 dsimp only
 refine qaW (qaO (wpAny_call (class_get (s:=⟨hh,g,d,t+1,os⟩) X I hm ?_)))
 refine qaX ?_
 dsimp only
 refine wpAny_of_eq (a:=Value.ref D) rfl ?_
 exact qaX h
end
end L3
namespace L3
open PySem PySem.Spec PyProof.Rows L2
noncomputable def kxb (K:W.Frag) (C:Addr):Bool:=(W.clsIn K C).isSome && W.findIn K (.ref C) "__getattribute__"==some (some (.builtin "BaseException.__getattribute__")) && W.findIn K (.ref C) "__getattr__"==some none && W.findIn K (.ref C) "__class__"==some (some (.builtin "object.__class__"))
 && W.specialIn K (.builtin "object.__class__") "__get__"==some (some (.builtin "getset_descriptor.__get__")) && W.takesIn K (.builtin "object.__class__")==some true && W.mroIn K C (.type "object")==some true && W.mroIn K C (.type "BaseException")==some true
theorem zkQ {K:W.Frag} {x C:Addr} {ox:Obj} (h:kxb K C=true):W.KitX K (.ref x) (.ref C) (fun h=>W.InstAt h x ox C none):=by
 unfold kxb at h
 simp only [qaG,beq_iff_eq] at h
 obtain ⟨⟨⟨⟨⟨⟨⟨h1,h2⟩,h3⟩,h4⟩,h5⟩,h6⟩,h7⟩,h8⟩:=h
 refine ⟨fun _ _ _ I=>I.type,fun M hp X _=> ?_,fun hp tp dd its n sl X htp=> ?_,fun X I k=>zkq X I h1 h2 h3 h4 h5 h6 h7 h8 k⟩
 ·obtain ⟨cd,hc⟩:=Option.isSome_iff_exists.mp h1
  unfold W.clsIn at hc
  split at hc
  ·rename_i lk
   intro A' Q' E' s' k q
   unfold isType loadHead
   exact qaW (wpAny_loadPart (k _ _ (X _ _ lk)) (qaX q))
  ·cases hc
 ·refine Bool.eq_false_iff.mpr fun q=> ?_
  have e:C=tp:=Value.ref.inj (beq_iff_eq.mp q)
  subst e
  obtain ⟨cd,hc⟩:=Option.isSome_iff_exists.mp h1
  unfold W.clsIn at hc
  split at hc
  ·rename_i lk
   have z:=(X _ _ lk).symm.trans htp
   cases z
  ·cases hc
structure zsG (K:W.Frag) (CE:Addr) (names:List String) (c:String) (C:Addr):Prop where
 exc:W.excIn K C zjP "ValueError.__new__"=true
 cov:W.exmOne K (.ref C) (.ref CE)=some true
 kx:kxb K C=true
 ve:W.kitOne K (.ref C) (.type "ValueError")=some true
 one: ∀ c'∈names, ∀ C',zbK K c' C'->W.kitOne K (.ref C) (.ref C')=some (c==c')
def zkN (K:W.Frag) (CE:Addr) (names:List String):Prop:= ∀ c∈names, ∀ C,zbK K c C->zsG K CE names c C
noncomputable def zky (K:W.Frag) (CE:Addr) (tab:List (String×Addr)):Bool:=tab.all fun p=>W.nsIn K mainGlobals (p.1:Str)==some (some (.ref p.2)) && W.excIn K p.2 zjP "ValueError.__new__" && W.exmOne K (.ref p.2) (.ref CE)==some true && kxb K p.2 && W.kitOne K (.ref p.2) (.type "ValueError")==some true
 && tab.all fun r=>W.kitOne K (.ref p.2) (.ref r.2)==some (p.1==r.1)
theorem zkN.of {K:W.Frag} {CE:Addr} {tab:List (String×Addr)} (h:zky K CE tab=true):zkN K CE (tab.map (·.1)):=by
 unfold zky at h
 rw [List.all_eq_true] at h
 have key: ∀ c∈tab.map (·.1), ∀ C,zbK K c C->(c,C)∈tab:=fun c hc C hC=>by
  obtain ⟨p,hp,rfl⟩:=qaU.mp hc
  have h1:=h p hp
  simp only [qaG,beq_iff_eq] at h1
  have e:=h1.1.1.1.1.1
  unfold zbK at hC
  rw [hC] at e
  cases e
  exact hp
 intro c hc C hC
 have h1:=h _ (key c hc C hC)
 simp only [qaG,beq_iff_eq,List.all_eq_true] at h1
 obtain ⟨⟨⟨⟨⟨a1,a2⟩,a3⟩,a4⟩,a5⟩,a6⟩:=h1
 exact ⟨a2,a3,a4,a5,fun c' hc' C' hC'=>a6 _ (key c' hc' C' hC')⟩
theorem zkN.known {K:W.Frag} {CE:Addr} {names:List String} (h:zkN K CE names): ∀ c∈names, ∀ C,zbK K c C->W.exmOne K (.ref C) (.ref CE)=some true:=fun c hc C hC=>(h c hc C hC).cov
noncomputable def ziO (names:List String) (T:String):D->M D
 | .exn c=>if names.contains c && names.contains T then pure (.bl (c==T)) else M.bad
 | _=>M.bad
noncomputable def zqd (names:List String):D->M D
 | .exn c=>if names.contains c then pure (.bl true) else M.bad
 | _=>M.bad
section
variable {X:Cx} {E:XE}
theorem zhW:zaJ X (.builtin "isinstance") (fun xs H Q=> ∃ a o C vs x u b,xs=[.ref a,x]/\H a=some (.frz o (.own 0))/\(o.cls= .ref C/\o.dict=none/\o.data= .fields vs)/\kxb X.K C=true/\zbE x u/\(∀ u',zbE x u'->u'=u)/\W.kitOne X.K (.ref C) u=some b/\Q (.bl b) H):=by
 intro pins s σ H xs us Q I r h
 obtain ⟨a,o,C,vs,x,u,b,rfl,hH,⟨o1,o2,o3⟩,hk,hu,hu2,e,q⟩:=h
 cases r with
 | cons r1 r2=>
  cases r2 with
  | cons r3 r4=>
   cases r4
   cases r1
   have:=hu2 _ r3
   subst this
   have ho:=(I.hok a _ hH).1
   refine W.kia_one (zkQ (x:=a) (ox:=o) hk) I.kIn ⟨ho,o1,by unfold W.notCls;rw [o3],by rw [o2];trivial⟩ e (fun z=>nomatch z) fun tk=>⟨.bl b,H,I.tok tk,rfl,q⟩
variable {a:Expr} {p1 p2 pos:Pos} {fa:FE} {CE CC:Addr} {names:List String}
theorem zeC {c':String} (hx:zkN X.K CE names) (hc':names.contains c'=true) (hcl:zbK X.K c' CC) (hm:X.mg "isinstance"=none) (hmC:X.mg (c':Str)=some (.ref CC)) (ha:SE X E a fa) (hg:Gl X "isinstance":=by rfl) (hgC:Gl X (c':Str):=by rfl)
  (hd:((c':Str)==("__debug__":Str))=false:=by decide)
  (h1:starEach [a,.Name (c':Str) p2] X.env=(false,eval a X.env)::starEach [.Name (c':Str) p2] X.env:=by rfl) (h2:starEach [.Name (c':Str) p2] X.env=[(false,eval (.Name (c':Str) p2) X.env)]:=by rfl)
  (hpl:(backTo pos (starEach [.Name (c':Str) p2] X.env)).any (·.1)=false:=by rfl):
  SE X E (.Call (.Name "isinstance" p1) [a,.Name (c':Str) p2] [] pos) (cUn (ziO names c') fa):=by
 refine PE.imp (zdu zhW hg hm PyProof.Rows.boot_isinstance (zbm ha (zbm (zou (v:= .ref CC) hgC hmC rfl hd) zcS h2) h1) (he:=h1) (hpl:=hpl)) fun σ H Q ⟨ι,h,sd,L,hh,q⟩=>⟨ι,h,sd,L,hh,Fin.bind q fun d h1 ι1 H1 e1 s1 hr1 q1 v rv=> ?_⟩
 cases d with
 | exn c=>
  obtain ⟨hg1,q2⟩:=Fin.guard (show Fin X.K E ι1 H1 ((if (names.contains c && names.contains c')=true then (pure (.bl (c==c')):M D) else M.bad) h1) _ from q1)
  rw [qaG] at hg1
  simp only [Rel] at rv
  obtain ⟨b,o,C,head,vs,rfl,⟨r1,_⟩,r2,r3,r4,r5,_⟩:=rv
  have ok:=hx c (by simpa using hg1.1) C r2
  exact ⟨b,o,C,vs,.ref CC,.ref CC,c==c',rfl,r1,⟨r3,r4,r5⟩,ok.kx,rfl,fun u' z=>z,ok.one c' (by simpa using hc') CC hcl,Fin.out hr1 q2 _ (by simp [Rel])⟩
 | _=>exact qa0 q1
theorem zpI (hx:zkN X.K CE names) (hm:X.mg "isinstance"=none) (hmT:X.mg "ValueError"=none) (ha:SE X E a fa) (hg:Gl X "isinstance":=by rfl) (hgT:Gl X "ValueError":=by rfl)
  (h1:starEach [a,.Name "ValueError" p2] X.env=(false,eval a X.env)::starEach [.Name "ValueError" p2] X.env:=by rfl) (h2:starEach [.Name "ValueError" p2] X.env=[(false,eval (.Name "ValueError" p2) X.env)]:=by rfl)
  (hpl:(backTo pos (starEach [.Name "ValueError" p2] X.env)).any (·.1)=false:=by rfl):
  SE X E (.Call (.Name "isinstance" p1) [a,.Name "ValueError" p2] [] pos) (cUn (zqd names) fa):=by
 refine PE.imp (zdu zhW hg hm PyProof.Rows.boot_isinstance (zbm ha (zbm (zjB (v:= .ty "ValueError") hgT hmT (by decide +kernel) rfl) zcS h2) h1) (he:=h1) (hpl:=hpl)) fun σ H Q ⟨ι,h,sd,L,hh,q⟩=>⟨ι,h,sd,L,hh,Fin.bind q fun d h1 ι1 H1 e1 s1 hr1 q1 v rv=> ?_⟩
 cases d with
 | exn c=>
  obtain ⟨hg1,q2⟩:=Fin.guard (show Fin X.K E ι1 H1 ((if names.contains c=true then (pure (.bl true):M D) else M.bad) h1) _ from q1)
  simp only [Rel] at rv
  obtain ⟨b,o,C,head,vs,rfl,⟨r1,_⟩,r2,r3,r4,r5,_⟩:=rv
  have ok:=hx c (by simpa using hg1) C r2
  exact ⟨b,o,C,vs,.ty "ValueError",.type "ValueError",true,rfl,r1,⟨r3,r4,r5⟩,ok.kx,rfl,fun u' z=>z,ok.ve,Fin.out hr1 q2 _ (by simp [Rel])⟩
 | _=>exact qa0 q1
end
end L3
namespace L3
open PySem
section
variable {prog:Program} {w:World} {A:Around} {E:Value->Shared->Prop} {s:Shared}
theorem zl6 {l:Addr} {xs:Array (Int×Tok)} {Q:Value->Shared->Prop} (hh:ziC A s.heap) (hl:s.heap.IsList l (intItems xs))
  (k: ∀ h' tk t',(∀ b o,s.heap.get? b=some o->h'.get? b=some o)->Q (.int (preSum (numAt xs) xs.size) t') {s with heap:=h',toks:=tk}):wpAny (model prog w) A (call (.builtin "sum") [.ref l]) Q E s:=by
 refine call_sum_walkG (iter_intList hl fun s₂ e st hfp hlI=> ?_)
 subst e
 rcases hh with hh | ⟨ha,cls,head,hh,hX⟩
 ·refine ⟨_,_,_,_,_,_,numAt xs,rfl,Walks.list (A:=A.in1) hh _ l hlI (intItems xs),st,hfp,(fun _ _=>intItems_at),fun h' tk t' hk=> ?_⟩
  simpa [intItems] using k h' tk t' (old_kept hk)
 ·obtain ⟨ob,vs,x1,x2⟩:=id hX
  have hX2:=hX.keep (h':=s.heap.push {cls:= .type "list_iterator",data:= .fields #[.ref l,.int 0 0]}) fun o e=>qag _ e
  refine ⟨_,_,_,_,_,_,numAt xs,rfl,ziM (A:=A.in1) (ha:=ha) (cls:=cls) (head:=head) hh _ l hlI (qaR (qaQ x1)) (intItems xs),⟨st.1,st.2,hX2⟩,fun b hb=> ?_,(fun _ _=>intItems_at),fun h' tk t' hk=> ?_⟩
  ·simp only [qaP,qaF,or_false] at hb
   rcases hb with z | z | z
   ·exact hfp b (by simp [z])
   ·exact hfp b (by simp [z])
   ·rw [z]
    show ha<(s.heap.push _).objs.size
    rw [qaL]
    exact Nat.lt_succ_of_lt (qaQ x1)
  ·simpa [intItems] using k h' tk t' (old_kept hk)
end
end L3
namespace L2
open PySem PySem.Spec PyProof.Rows L3
section
variable {X:Cx}
theorem zjj:zaJ X (.builtin "sum") (fun xs H Q=> ∃ (a:Addr) (ns:List Int),xs=[.ref a]/\SqL X.K H a (ns.map V.int)/\Q (.int ns.sum) H):=by
 intro pins s σ H xs us Q I r h
 obtain ⟨a,ns,rfl,hq,q⟩:=h
 obtain ⟨u,rfl,rx⟩:=zdI r
 cases rx
 obtain ⟨its,r',pl,hz⟩:=I.list hq
 have hi:=zcs r'
 obtain ⟨ys,hy⟩:=hi.allInts.items
 have hl:s.heap.IsList a (intItems ys):=hy▸pl.isList
 refine zl6 I.hand hl fun h' tk t' hk=> ?_
 have e1:ns=ys.toList.map (·.1):=by
  rw [<- nums_intItems, <-hy]
  exact (show numsOf its.toArray.toList=ns from hi.numsOf).symm
 have e2:preSum (numAt ys) ys.size=ns.sum:=by rw [preSum_eq,List.take_of_length_le (by simp),e1]
 rw [e2]
 exact ⟨.int ns.sum,H,I.grown (s':={s with heap:=h',toks:=tk}) rfl rfl hk,⟨t',rfl⟩,q⟩
theorem ze3: ∀ {bs:List Bool} {its:List Value},zaZ (bs.map V.bl) its->its=bs.map Value.bool
 | [],_,h=>by cases h;rfl
 | b::bs,_,h=>by
  cases h with
  | cons r t=>cases r;rw [ze3 t];rfl
theorem zkl:MtR X "list.index" (fun x vs H Q=> ∃ (l:Addr) (bs:List Bool) (j:Nat),x= .ref l/\vs=[.bl true]/\SqL X.K H l (bs.map V.bl)/\bs[j]? = some true/\(∀ m,m<j->bs[m]? = some false)/\Q (.int (j:Int)) H):=by
 intro pins s σ H x vs v us Q I rx rv h
 obtain ⟨l,bs,j,rfl,rfl,hq,hj,hno,q⟩:=h
 cases rx
 obtain ⟨u,rfl,ru⟩:=zdI rv
 cases ru
 obtain ⟨its,r,pl,hz⟩:=I.list hq
 have eit:=ze3 r
 subst eit
 obtain ⟨ob,e1,c1,n1,d1⟩:=pl.isList
 obtain ⟨cc,dd,dt,sl⟩:=ob
 dsimp only at c1 d1
 subst c1 d1
 have hlt:j<bs.length:=(qac.mp hj).1
 rw [qaH] at hz
 have sz:(j:Int)<2^63 - 1:=by
  have:sizeLine<2^40:=by decide
  omega
 refine call_meets F.slot_list_index ⟨_,e1,rfl⟩ F.entry_list_index (F.args_list_index_2 _ _)
  (PySem.SeqAt.list_indexAt l _ n1 dd sl (.bool true) (fun v=>match v with | .bool b=>b | _=>false) j (by simpa using hlt) sz ?_ ?_) ⟨e1,fun y hy=> ?_,⟨.int j,H,I.tok _,⟨_,rfl⟩,q⟩⟩
 ·have:=(qac.mp hj).2
  simp [this]
 ·intro m hm hmj
  have:=(qac.mp (hno m hmj)).2
  simp [this]
 ·obtain ⟨b,_,rfl⟩:=qaU.mp (List.mem_toArray.mp hy)
  have:=PySem.SeqAt.EqAt.bool_bool (A:=X.A.in1) (s:=s) b true
  simpa using this
end
end L2
namespace L3
open PySem PySem.Spec PyProof.Rows L2
noncomputable def zts (f:FE):FE:=fun sd=>noX (f sd)
noncomputable def ztw (f:FS):FS:=fun sd=>noX (f sd)
section
variable {X:Cx} {E:XE} {a e o:Expr} {es:List Expr} {pos p cpos apos:Pos} {f fo fe fa:FE} {fs:FA} {x:Str}
theorem zn5 {k:Nat} {g:Addr} {fd:FuncData} {ps:List Str} {n:Nat} {F:List D->M D} (G:zbr X.prog X.w X.K X.mg X.base (CXE X.prog X.w) k g fd ps (spE X.K n F)) (hx:zd8 (CXE X.prog X.w) X (zpj X.K E)) (hr:zdf k X.A) (hm:X.mg x=some (.ref g)) (hk:W.keepIn X.K (.ref g)=true) (hb:zaM X.K fd ps [])
  (ha:SA X E (e::es) fs) (hg:Gl X x:=by rfl) (hdb:(x==("__debug__":Str))=false:=by decide) (he:starEach (e::es) X.env=(false,eval e X.env)::starEach es X.env:=by rfl) (hpl:(backTo pos (starEach es X.env)).any (·.1)=false:=by rfl):
  SE X E (.Call (.Name x p) (e::es) [] pos) (zaH (zav n F) fs):=zlT G hx hr hg hm hk hb ha hdb he hpl
theorem zji {k:Nat} {g:Addr} {fd:FuncData} {ps:List Str} {n:Nat} {F:List D->M D} (G:zbr X.prog X.w X.K X.mg X.base CX0 k g fd ps (zbT X.K n F)) (hr:zdf k X.A) (hm:X.mg x=some (.ref g)) (hk:W.keepIn X.K (.ref g)=true) (hb:zaM X.K fd ps [])
  (ha:SA X E (e::es) fs) (hg:Gl X x:=by rfl) (hdb:(x==("__debug__":Str))=false:=by decide) (he:starEach (e::es) X.env=(false,eval e X.env)::starEach es X.env:=by rfl) (hpl:(backTo pos (starEach es X.env)).any (·.1)=false:=by rfl):
  SE X E (.Call (.Name x p) (e::es) [] pos) (zaH (zav n fun ds=>noX (F ds)) fs):=zlP G hr hg hm hk hb ha hdb he hpl
theorem znd {c:String} {C CE:Addr} {names:List String} {msg:Str} {jj:Nat} {np p2:Pos} (hc:X.calm=true) (hp:zoj X E) (hX:zkN X.K CE names) (hn:names.contains c=true) (hcl:zbK X.K c C) (hg:Gl X (c:Str):=by rfl) (hd:((c:Str)==("__debug__":Str))=false:=by decide):
  SS X E (.Raise (some (.Call (.Name (c:Str) np) [.Constant (.str msg) jj p2] [] cpos)) none pos) (zhD c):=zn2 (nid:="") hc hp (hX c (by simpa using hn) C hcl).exc hcl hg hd
theorem znI {scope:Scope} {N:List Str} {src:List (Option Nat)} {tg iter elt:Expr} {ifs:List Expr} {fi:FA} {g:D->Sd->M Sd} {tc:FT} {te:FE} (B:BOk X scope N src) (hk:zaP g src) (hi:SI X E tg iter fi)
  (hg: ∀ s H fp,SG (cxB X scope N s H fp) E tg g) (ht: ∀ s H fp,SCs (cxB X scope N s H fp) E ifs tc) (he: ∀ s H fp,SE (cxB X scope N s H fp) E elt te)
  (hs: ∀ x,foldedSetIterable iter X.env x=pure x:=by intro _;rfl):SE X E (.ListComp elt [⟨tg,iter,ifs,0⟩] scope pos) (zaC fi g tc te src):=zj6 B hk hi hg ht he hs
noncomputable def znK:List D->M D
 | [.int i]=>pure (.int i)
 | [.bl b]=>pure (.int (if b then 1 else 0))
 | _=>M.bad
theorem zit:zaJ X (.type "int") (zhh X.K E znK):=by
 refine zaJ.imp zjh fun xs H Q ⟨ι,h,ds,rl,hr,q⟩=> ?_
 unfold znK at q
 split at q
 ·simp only [zaq,Rel] at rl
  obtain ⟨v,r,rfl,rfl,rfl⟩:=rl
  exact .inl ⟨_,rfl,Fin.out hr q _ (by simp [Rel])⟩
 ·simp only [zaq,Rel] at rl
  obtain ⟨v,r,rfl,rfl,rfl⟩:=rl
  exact .inr ⟨_,rfl,Fin.out hr q _ (by simp [Rel])⟩
 ·exact qa0 q
theorem ziw:zaJ X (.builtin "sum") (zhh X.K E zsU):=by
 refine zaJ.imp zjj fun xs H Q ⟨ι,h,ds,rl,hr,q⟩=> ?_
 obtain ⟨d,v,e,r,q⟩:=zcF rl q
 cases d with
 | lst ds=>
  obtain ⟨a,vs,e',h1,h2⟩:=zd6 r
  obtain ⟨ns,en,q⟩:=Fin.ofOb q
  have:=zdD h2 en
  subst this
  exact ⟨a,ns,by rw [e,e'],h1,Fin.out hr q _ (by simp [Rel])⟩
 | _=>exact qa0 q
noncomputable def zoW:D->M D
 | .lst ds=>do
  let bs<-ofO (zkP ds)
  let j<-ofO (bs.findIdx? id)
  pure (.int j)
 | _=>M.bad
theorem zn3 {jj:Nat} {p2:Pos} (ho:SE X E o fo)
  (hbase:attributeBase o "index" X.env (eval o X.env)=eval o X.env:=by rfl)
  (hfew:((backTo cpos (starEach [.Constant (.bool true) jj p2] X.env)).all (fun x=> !x.1) && (backToKw cpos (keywordEach [] X.env)).all (fun x=>x.1.isSome)
    && decide (([.Constant (.bool true) jj p2]:List Expr).length+([]:List Keyword).length+(if ([]:List Keyword).isEmpty then 0 else 1)<30))=true:=by rfl)
  (hline:(apos.endLine==cpos.line)=true:=by rfl) (hs:starEach [.Constant (.bool true) jj p2] X.env=(false,eval (.Constant (.bool true) jj p2) X.env)::starEach [] X.env:=by rfl) (hplain:(backTo cpos (starEach [] X.env)).any (·.1)=false:=by rfl):
  SE X E (.Call (.Attribute o "index" apos) [.Constant (.bool true) jj p2] [] cpos) (cUn zoW fo):=by
 refine PE.imp (zoh PySem.F.plainAttrs_list PySem.F.slot_list_index PySem.F.type_list_index zkl ho (zbm zrf zcS hs) hbase hfew hline hs hplain) fun σ H Q ⟨ι,h,sd,L,hh,q⟩=>⟨ι,h,sd,L,hh,Fin.bind q fun d h1 ι1 H1 e1 s1 hr1 q1 v rv=> ?_⟩
 cases d with
 | lst ds=>
  obtain ⟨a,vs,e',h1',h2⟩:=zd6 rv
  obtain ⟨bs,en,q2⟩:=Fin.ofOb q1
  obtain ⟨j,ej,q3⟩:=Fin.ofOb q2
  have:=zfi h2 en
  subst this
  subst e'
  refine ⟨.inl ⟨rfl,_,h1'⟩,a,bs,j,rfl,rfl,h1',?_,fun m hm=> ?_,Fin.out hr1 q3 _ (by simp [Rel])⟩
  ·obtain ⟨h3,h4,_⟩:=List.findIdx?_eq_some_iff_getElem.mp ej
   rw [qaf h3]
   simpa using h4
  ·obtain ⟨h3,h4,h5⟩:=List.findIdx?_eq_some_iff_getElem.mp ej
   rw [qaf (by omega)]
   simpa using h5 m hm
 | _=>exact qa0 q1
noncomputable def zgX (x y:D):M D:=match x,y with
 | .cel n,.tup zs=>do
  let ds<-zal n
  fits (ds.length+zs.length)
  zbk n (ds++zs)
  pure .non
 | _,_=>M.bad
noncomputable def zoD (fo fe:FE):FE:=fun sd=>do
 let x<-fo sd
 zdd x
 let y<-fe sd
 zgX x y
end
section
variable {P:Program} {w:World} {K:W.Frag} {mg:Str->Option Value} {base:Heap}
theorem zqJ {x qual:Str} {st:Stmt} {f:Addr} {fd:FuncData} {N ps:List Str} {k:Nat} {G:Sd->M Out} (F:Fun K x qual st f fd) (S:zas N ps (zae st))
  (hb: ∀ (cdv:Value) (A:Around) (outer:List Env) (s:Shared) (H:Hp),zcP k (A.deeper (envOfC qual (zae st) s.heap.objs.size f cdv))->SSs ({zg9 CX0 P w K mg base N qual (zae st) f cdv A outer s H E0 with calm:=false}:Cx).nox E0x (zcm st) G):
  FnH P w K mg base (k+1) f fd ps (zbT K ps.length (zc1 N.length G)):=by
 obtain ⟨oc,od,kV,doc,pm,an,cdv,ct,osl,rfl,lk,hcd⟩:=F.ex
 refine zo9 lk hcd S (fun vs H Q E h=>h.1) fun A outer s H vs Q hr ⟨hl,ι,h,ds,rl,hh,q⟩=>⟨_,hb cdv A outer s H hr,ι,h,ze2 N.length ds,zdV rl,hh,?_⟩
 refine Fin.bind q fun o h1 ι1 H1 e1 s1 hr1 q1=> ?_
 cases o with
 | nx sd=>exact fun σ' _=>Fin.out hr1 q1 _ (by simp [Rel])
 | rt d=>exact fun v rv=>Fin.out hr1 q1 v rv
 | bk sd=>exact qa0 q1
 | ct sd=>exact qa0 q1
end
section
variable {X:Cx} {E:XE} {body:List Stmt} {ce en gk pe x:Str} {pce p1 p2 p3 p4 p5 hp pos:Pos} {CE fk:Addr} {fdk:FuncData} {Fk:List D->M D} {gb:FS} {k:Nat} {known:List String}
theorem zqs (j:Nat) (z:zeU X) (hN:X.N.Nodup) (hm:X.mg ce=some (.ref CE)) (hkn:zkN X.K CE known)
  (FH:FnH X.prog X.w X.K X.mg X.base k fk fdk [pe] (zbT X.K 1 Fk)) (hbk:zaM X.K fdk [pe] []) (hmk:X.mg gk=some (.ref fk)) (kp:W.keepIn X.K (.ref fk)=true) (hr:zcP k X.A)
  (hb: ∀ pn xe E',zd8 (CXE X.prog X.w) (X.re pn xe) (zpj X.K E')->SSs (X.re pn xe) E' body gb)
  (hj:X.N[j]? = some en:=by rfl) (hen:X.env.scope.names.lookup en=some .local:=by rfl) (hg:Gl X ce:=by rfl) (hgk:Gl X gk:=by rfl)
  (hd:(ce==("__debug__":Str))=false:=by decide) (hd2:(gk==("__debug__":Str))=false:=by decide) (hd3:(en==("__debug__":Str))=false:=by decide):
  SS X E (.Try body [.ExceptHandler (some (.Name ce pce)) (some en) [.Return (some (.Call (.Name gk p1) [.Name en p2] [] p3)) p4] hp] [] [] pos) (zgW known gb Fk):=zqL z hN hj hen hg hm hkn.known hb FH hbk hgk hmk kp hr hd hd2 hd3
end
noncomputable def zoX (Fs:List (List D->M D)) (i:D):M (List D->M D):=match i with
 | .int j=>(match ixN Fs.length j with
   | some m=>ofO Fs[m]?
   | none=>M.bad)
 | _=>M.bad
noncomputable def zrW (n:Nat) (Fs:List (List D->M D)) (fi:FE) (fs:FA):FE:=fun sd=>do
 let i<-fi sd
 let F<-zoX Fs i
 let ds<-fs sd
 zav n F ds
structure Fns (X:Cx) (n:Nat) (addrs:List Addr) (Fs:List (List D->M D)):Prop where
 len:Fs.length=addrs.length
 ok: ∀ (m:Nat) (F:List D->M D) (a:Addr),Fs[m]? = some F->addrs[m]? = some a-> ∃ k fd ps,zbr X.prog X.w X.K X.mg X.base (CXE X.prog X.w) k a fd ps (spE X.K n F)/\zdf k X.A/\W.keepIn X.K (.ref a)=true/\zaM X.K fd ps []
theorem Fns.nil {X:Cx} {n:Nat}:Fns X n [] []:=⟨rfl,fun m F a h=>by simp at h⟩
theorem Fns.cons {X:Cx} {n k:Nat} {a:Addr} {F:List D->M D} {addrs:List Addr} {Fs:List (List D->M D)} {fd:FuncData} {ps:List Str} (G:zbr X.prog X.w X.K X.mg X.base (CXE X.prog X.w) k a fd ps (spE X.K n F)) (hr:zdf k X.A) (hk:W.keepIn X.K (.ref a)=true) (hb:zaM X.K fd ps []) (h:Fns X n addrs Fs):Fns X n (a::addrs) (F::Fs):=by
 refine ⟨by simp [h.len],fun m F' a' h1 h2=> ?_⟩
 cases m with
 | zero=>simp at h1 h2;subst h1 h2;exact ⟨k,fd,ps,G,hr,hk,hb⟩
 | succ m=>simp at h1 h2;exact h.ok m F' a' h1 h2
section
variable {X:Cx} {E:XE} {e ix:Expr} {es fes:List Expr} {pos p q3 q4:Pos} {fi:FE} {fs:FA} {x:Str}
end
end L3
namespace L2
open PySem PySem.Spec PyProof.Rows
section
variable {X:Cx} {tg:Expr}
theorem zgq (hc:X.calm=true):zaJ X (.type "list") (fun xs H Q=> ∃ (p:Addr) (j:Int),xs=[.ref p]/\H p=some (.rng 0 j)/\0<=j/\j<1000/\ ∀ l,H l=none->Q (.ref l) (upd H l (.lst (((List.range j.toNat).map fun (k:Nat)=>(k:Int)).map V.int)))):=by
 intro pins s σ H xs us Q I r h
 obtain ⟨p,j,rfl,hp,h0,h1,q⟩:=h
 obtain ⟨u,rfl,rx⟩:=zdI r
 cases rx
 obtain ⟨t,u',v,hr⟩:=(show zbp X.prog X.w H s.heap p (.rng 0 j) from I.hok p _ hp)
 refine call_list_range (I.ok.hd hc) hr (small_one (by omega) (by omega) (by omega) (by omega)) (zlj h0) (by omega) fun h' tk acc c' hk hS hacc=> ?_
 have hl:acc.toList.length=j.toNat:=by rw [qas];exact hacc.1
 have I2:=I.laid (t':=tk) (h':=h') (a:=s.heap.objs.size) (o:= .lst (((List.range j.toNat).map fun (k:Nat)=>(k:Int)).map V.int)) hk (qaV _)
  (show zbp X.prog X.w _ h' _ (.lst _) from ⟨by rw [qaH,qaH,List.length_range];exact qaS (show j.toNat<=1000 by omega) (by decide),acc.toList,c',zes _ _ (by rw [qaH,List.length_range,hl]) (fun k w e=> ?_),by simpa using hS⟩)
 ·exact ⟨.ref s.heap.objs.size,_,I2,rfl,q _ (I.hok.fresh (qaV _))⟩
 ·have hk':k<j.toNat:=by rw [<- hl];exact (qac.mp e).1
  obtain ⟨t,et⟩:=hacc.2 k w (by simpa using e)
  refine ⟨t,?_⟩
  rw [et]
  simp [hk']
end
end L2
namespace L3
open PySem PySem.Spec PyProof.Rows L2
section
variable {X:Cx} {E:XE} {e o:Expr} {f fo fe:FE} {pos apos cpos:Pos}
noncomputable def zbs (tc:FT) (gb:FS):Nat->FS
 | 0,_=>M.bad
 | n+1,sd=>do
  let b<-tc sd
  if b=true then
   let o<-gb sd
   match o with
   | .nx sd'=>zbs tc gb n sd'
   | .ct sd'=>zbs tc gb n sd'
   | .bk sd'=>pure (.nx sd')
   | .rt d=>pure (.rt d)
  else pure (.nx sd)
noncomputable def zeR (n:Nat) (tc:FT) (gb:FS):FS:=zbs tc gb n
theorem zgZ {c:Expr} {body:List Stmt} {tc:FT} {gb:FS} (n:Nat) (hp:PassesOwn (model X.prog X.w) X.A X.env X.xe) (hc:ST X E c tc) (hb:SSs X E body gb):SS X E (.While c body [] pos) (zeR n tc gb):=by
 refine PS.imp (zlG hp hc hb) fun D0 σ H ⟨ι,h,sd,L,hh,q⟩=> ?_
 refine ⟨fun m σ' H'=> ∃ ι' h' sd',zcy X.K ι' H' sd' σ'/\za6 X.K ι' H' h'/\Fin X.K E ι' H' (zbs tc gb m sd' h') (zfT X.K D0),⟨n,ι,h,sd,L,hh,q⟩,?_⟩
 rintro m σ2 H2 ⟨ι2,h2,sd2,L2,hr2,q2⟩
 cases m with
 | zero=>exact qa0 q2
 | succ m=>
  refine ⟨ι2,h2,sd2,L2,hr2,Fin.bind q2 fun b h3 ι3 H3 e3 s3 hr3 q3=> ?_⟩
  cases b with
  | true=>
   refine ⟨fun σ' H'=> ∃ ι' h' sd',zcy X.K ι' H' sd' σ'/\za6 X.K ι' H' h'/\Fin X.K E ι' H' (zbs tc gb m sd' h') (zfT X.K D0),fun σ' H' p=>⟨m,by omega,p⟩,ι3,h3,sd2,L2.step s3,hr3,Fin.bind q3 fun o h7 ι7 H7 e7 s7 hr7 q7=> ?_⟩
   cases o with
   | nx sd'=>exact fun σ' L'=>⟨ι7,h7,sd',L',hr7,q7⟩
   | ct sd'=>exact fun σ' L'=>⟨ι7,h7,sd',L',hr7,q7⟩
   | bk sd'=>exact fun σ' L'=>Fin.out (E:=E) (P:=zfT X.K D0) hr7 q7 σ' L'
   | rt d=>exact fun v rv=>Fin.out (E:=E) (P:=zfT X.K D0) hr7 q7 v rv
  | false=>exact Fin.out (E:=E) (P:=zfT X.K D0) hr3 q3 σ2 (L2.step s3)
noncomputable def zg2:D->M D
 | .int j=>if 0<=j/\j<1000 then zdm (zdg 0 j.toNat) else M.bad
 | _=>M.bad
theorem zk9 {p1 p2 pos pos2:Pos} (hc:X.calm=true) (hm1:X.mg "list"=none) (hm2:X.mg "range"=none) (he:SE X E e f) (hg1:Gl X "list":=by rfl) (hg2:Gl X "range":=by rfl)
  (h1:starEach [.Call (.Name "range" p2) [e] [] pos2] X.env=[(false,eval (.Call (.Name "range" p2) [e] [] pos2) X.env)]:=by rfl) (h2:starEach [e] X.env=[(false,eval e X.env)]:=by rfl):
  SE X E (.Call (.Name "list" p1) [.Call (.Name "range" p2) [e] [] pos2] [] pos) (cUn zg2 f):=by
 refine PE.imp (zdO (zgq hc) hg1 hm1 PyProof.Rows.boot_list (zbm (zdO zhp hg2 hm2 boot_range (zbm he zcS h2) (he:=h2)) zcS h1) (he:=h1)) fun σ H Q ⟨ι,h,sd,L,hh,q⟩=>⟨ι,h,sd,L,hh,Fin.bind q fun d h1 ι1 H1 e1 s1 hr1 q1 v rv=> ?_⟩
 cases d with
 | int j=>
  simp only [Rel] at rv
  obtain ⟨⟨c1,c2⟩,q2⟩:=Fin.guard q1
  refine ⟨j,by rw [rv],fun p hp=> ?_⟩
  have hr2:za6 X.K ι1 (upd H1 p (.rng 0 j)) h1:=hr1.laid hp
  exact ⟨p,j,rfl,zaU,c1,c2,fun l hl=>zsS hr2 zkR (Fin.step (hr1.laidS hp) q2) hl⟩
 | _=>exact qa0 q1
noncomputable def zeB (x y:D):M D:=match x,y with
 | .cel n,.int i=>do
  let ds<-zal n
  if 0<=i/\i<1000 then
   match ds[i.toNat]? with
   | some d=>do zbk n (ds.eraseIdx i.toNat);pure d
   | none=>M.bad
  else M.bad
 | _,_=>M.bad
noncomputable def zrZ (fo fe:FE):FE:=fun sd=>do
 let x<-fo sd
 zdd x
 let y<-fe sd
 zeB x y
theorem zaq.eraseIdx {K:W.Frag} {ι:Io} {H:Hp}: ∀ {ds:List D} {vs:List V} (i:Nat),zaq K ι H ds vs->zaq K ι H (ds.eraseIdx i) (vs.eraseIdx i)
 | [],vs,i,h=>by
  simp only [zaq] at h
  subst h
  simpa using zaq.nil
 | x::r,vs,i,h=>by
  simp only [zaq] at h
  obtain ⟨v,vs',rfl,rv,rl⟩:=h
  cases i with
  | zero=>simpa using rl
  | succ i=>exact zaq.cons rv (zaq.eraseIdx i rl)
theorem zsn (ho:SE X E o fo) (he:SE X E e fe)
  (hbase:attributeBase o "pop" X.env (eval o X.env)=eval o X.env:=by rfl)
  (hfew:((backTo cpos (starEach [e] X.env)).all (fun x=> !x.1) && (backToKw cpos (keywordEach [] X.env)).all (fun x=>x.1.isSome)
    && decide (([e]:List Expr).length+([]:List Keyword).length+(if ([]:List Keyword).isEmpty then 0 else 1)<30))=true:=by rfl)
  (hline:(apos.endLine==cpos.line)=true:=by rfl) (hs:starEach [e] X.env=(false,eval e X.env)::starEach [] X.env:=by rfl) (hplain:(backTo cpos (starEach [] X.env)).any (·.1)=false:=by rfl):
  SE X E (.Call (.Attribute o "pop" apos) [e] [] cpos) (zrZ fo fe):=by
 refine PE.imp (zoh PySem.F.plainAttrs_list PySem.F.slot_list_pop PySem.F.type_list_pop zly ho (zbm he zcS hs) hbase hfew hline hs hplain) fun σ H Q ⟨ι,h,sd,L,hh,q⟩=>⟨ι,h,sd,L,hh,Fin.bind q fun d h1 ι1 H1 e1 s1 hr1 q1 v rv=> ?_⟩
 cases d with
 | cel n=>
  have q2:Fin X.K E ι1 H1 ((zal n>>=fun _=>fe sd>>=fun y=>zeB (.cel n) y) h1) (fun d ι' H'=> ∀ v,Rel X.K ι' H' d v->Q v H'):=by
   have ee:(zdd (.cel n)>>=fun _=>fe sd>>=fun y=>zeB (.cel n) y:M D)=(zal n>>=fun _=>fe sd>>=fun y=>zeB (.cel n) y):=by
    show ((zal n>>=fun _=>pure ())>>=fun _=>fe sd>>=fun y=>zeB (.cel n) y)=_
    simp only [bind_assoc,pure_bind]
   rw [<- ee]
   exact q1
  obtain ⟨ds,e2,q3⟩:=zfx q2
  obtain ⟨a,vs,rfl,hn,hH,rl⟩:=hr1.read rv e2
  refine ⟨.inl ⟨rfl,vs,SqL.of hH⟩,ι1,h1,sd,L.step s1,hr1,Fin.bind q3 fun y h3 ι3 H3 e3 s3 hr3 q4 w rw'=> ?_⟩
  have rv3:=rv.step s3
  cases y with
  | int i=>
   have q5:Fin X.K E ι3 H3 ((zal n>>=fun ds=>if 0<=i/\i<1000 then (match ds[i.toNat]? with | some d=>(zbk n (ds.eraseIdx i.toNat)>>=fun _=>pure d:M D) | none=>M.bad) else M.bad) h3) (fun d ι' H'=> ∀ v,Rel X.K ι' H' d v->Q v H'):=q4
   obtain ⟨ds3,e4,q6⟩:=zfx q5
   obtain ⟨a3,vs3,ea,hn3,hH3,rl3⟩:=hr3.read rv3 e4
   cases ea
   simp only [Rel] at rw'
   by_cases hi:0<=i/\i<1000
   ·rw [qa4 hi] at q6
    cases ed:ds3[i.toNat]? with
    | none=>rw [ed] at q6;exact qa0 q6
    | some d=>
     rw [ed] at q6
     obtain ⟨y,ey,ry⟩:=zaq.get rl3 ed
     have hlt:=(qac.mp ey).1
     refine ⟨a,vs3,i,i.toNat,y,rfl,by rw [rw'],hH3,by omega,by omega,?_,ey,?_⟩
     ·exact PySem.StrLaws.seqIndex_nonneg hi.1 (by omega)
     ·have q8:Fin X.K E ι3 H3 (R.ok d (h3.set n (.lst (ds3.eraseIdx i.toNat)))) (fun d ι' H'=> ∀ v,Rel X.K ι' H' d v->Q v H'):=q6
      exact q8 ι3 _ (hr3.cellS hn3) (hr3.cell hn3 (zaq.eraseIdx _ rl3)) _ (ry.step (hr3.cellS hn3))
   ·rw [qa5 hi] at q6
    exact qa0 q6
  | _=>exact qa0 q4
 | _=>exact qa0 q1
end
end L3
namespace L3
open PySem
open Sem (wp)
open AutoSeq1 (wpAny_loadPart')
section
variable {prog:Program} {w:World} {A:Around} {E:Value->Shared->Prop} {s:Shared}
theorem zbt {it l:Addr} {i:Nat} {items:Array Value} {x:Value} {Q:Value->Shared->Prop} (hit:s.heap.IsTupleIter it l i) (hl:s.heap.IsTuple l items) (hx:items[i]? = some x)
  (hQ: ∀ h',h'.IsTupleIter it l (i+1)->Heap.SameBut it s.heap h'->Q x {s with heap:=h'}):wpAny (model prog w) A (Builtin.SmallTypes.nextOf (.ref it)) Q E s:=by
 obtain ⟨o,ho,hc,hd⟩:=id hit
 obtain ⟨ol,hol,_,nl,hdl⟩:=hl
 unfold Builtin.SmallTypes.nextOf
 refine qaW (wpAny_callSpecial?_slot (name:=Str.ofString "__next__") hit.typeIs F.slot_tuple_iterator_next
   (wpAny_call_entry F.slot_tuple_iterator_next hit.typeIs F.entry_tuple_iterator_next ?_ (F.args_tuple_iterator_next_1 _)))
 show wpAny _ _ (field (.ref it) 0>>=_) _ _ s
 refine qaW (wpAny_field ho hd (x:= .ref l) rfl ?_)
 show wpAny _ _ (if (Value.ref l==Value.none)=true then _ else _) _ _ s
 rw [qa5 (show ¬((Value.ref l==Value.none)=true) from Bool.false_ne_true)]
 show wpAny _ _ (field (.ref it) 1>>=_) _ _ s
 refine qaW (wpAny_field ho hd (x:= .int i 0) rfl ?_)
 show wpAny _ _ (seqItems? (.ref l)>>=_) _ _ s
 refine qaW (wpAny_seqItems hol hdl ?_)
 simp only [qaB,hx]
 refine qaW (wpAny_setField ho hd (by simp) (qaX ⟨x,rfl,qaX (hQ _ ?_ (Heap.SameBut.update ..))⟩))
 exact ⟨_,qal _ ho (Obj.isFreed_of_fields (Obj.data_mapFields hd _)),(Obj.cls_mapFields ..).trans hc,by
   rw [Obj.data_mapFields hd];simp [rawInt]⟩
theorem zcG {it l:Addr} {i:Nat} {items:Array Value} {Q:Value->Shared->Prop} (hh:ziC A s.heap) (hit:s.heap.IsTupleIter it l i) (hl:s.heap.IsTuple l items) (hx:items[i]? = none)
  (hE: ∀ h' e,Heap.ExtBut it s.heap h'->(∃ o,h'.get? e=some o/\o.cls= .type "StopIteration")->E (.ref e) {s with heap:=h'}):wpAny (model prog w) A (Builtin.SmallTypes.nextOf (.ref it)) Q E s:=by
 obtain ⟨o,h1,h2,h3⟩:=id hit
 obtain ⟨ol,l1,_,nl,l2⟩:=hl
 unfold Builtin.SmallTypes.nextOf
 refine qaW (wpAny_callSpecial?_slot (name:=Str.ofString "__next__") hit.typeIs F.slot_tuple_iterator_next
   (wpAny_call_entry F.slot_tuple_iterator_next hit.typeIs F.entry_tuple_iterator_next ?_ (F.args_tuple_iterator_next_1 _)))
 show wpAny _ _ (field (.ref it) 0>>=_) _ _ s
 refine qaW (wpAny_field h1 h3 (x:= .ref l) rfl ?_)
 show wpAny _ _ (if (Value.ref l==Value.none)=true then _ else _) _ _ s
 rw [qa5 (show ¬(Value.ref l==Value.none)=true from nofun)]
 show wpAny _ _ (field (.ref it) 1>>=_) _ _ s
 refine qaW (wpAny_field h1 h3 (x:= .int i 0) rfl ?_)
 show wpAny _ _ (seqItems? (.ref l)>>=_) _ _ s
 refine qaW (wpAny_seqItems l1 l2 ?_)
 simp only [qaB,hx]
 refine qaW (wpAny_rule (qaW (wpAny_setField h1 h3 (by simp) ?_)))
 show wpAny _ _ (newExc (.type "StopIteration") []>>=_) _ _ _
 refine qaW ?_
 simp only [newExc,newTuple]
 refine qaW (qaC ?_ (by size_fits))
 refine qaW (m:=firstArgMember _ _) (wpAny_of_eq (a:=Value.none) (by first | rfl | (simp only [firstArgMember];rfl)) ?_)
 refine qaC ?_ (by size_fits)
 rcases hh with hh | ⟨ha,cls,head,hh,hX⟩
 ·simp only [raiseNew]
  refine qaW (wpAny_handled ?_)
  first | rw [show A.in1.handled=none from hh] | rw [hh]
  refine qaW (qaX (wpAny_throw ?_))
  exact hE _ _ (((Heap.SameBut.update ..).extBut.push _).push _) ⟨_,qar _ rfl,rfl⟩
 have nit:ha≠it:=fun z=>by
  subst z
  obtain ⟨ob,vs,x1,_,_,x4,x5,x6⟩:=hX
  rw [h1] at x1
  cases x1
  rw [h3] at x4
  cases x4
  simp at x5
 have hX1:zgQ (s.heap.update it (Obj.mapFields (·.setIfInBounds 0 Value.none))) ha cls head:=by
  obtain ⟨ob,vs,x1,x2⟩:=hX
  exact ⟨ob,vs,(qah _ _ (Ne.symm nit)).trans x1,x2⟩
 obtain ⟨ob,vs,x1,x2⟩:=hX1
 have y1:=qag {cls:= .type "tuple",dict:=none,data:= .seq [].toArray} x1
 refine zc3 (h:=ha) (cls:=cls) (head:=head) hh ⟨ob,vs,qag _ y1,x2⟩ (qar _ rfl) rfl (by simp;omega) (qaR (qaQ y1)) ?_
 refine hE _ _ (fun b o hb z=> ?_) ⟨_,qal _ (qar _ rfl) rfl,rfl⟩
 have z1:(s.heap.update it (Obj.mapFields (·.setIfInBounds 0 Value.none))).get? b=some o:=(qah _ _ (Ne.symm hb)).trans z
 have z2:=qag {cls:= .type "tuple",dict:=none,data:= .seq [].toArray} z1
 rw [qah _ _ (Nat.ne_of_gt (qaQ z2))]
 exact qag _ z2
end
noncomputable def zcv (A:Around):List Addr:=match A.handled with
 | some (.ref a)=>[a]
 | _=>[]
theorem ziC.keep {A:Around} {h h':Heap} (x:ziC A h) (k: ∀ b∈zcv A, ∀ o,h.get? b=some o->h'.get? b=some o):ziC A h':=by
 rcases x with x | ⟨a,cls,head,x1,ob,vs,x2,x3⟩
 ·exact .inl x
 ·exact .inr ⟨a,cls,head,x1,ob,vs,k a (by unfold zcv;rw [x1];simp) _ x2,x3⟩
end L3
namespace L3
open PySem
section
variable {prog:Program} {w:World} {A:Around} {E:Value->Shared->Prop} {s:Shared}
end
end L3
namespace L2
open PySem PySem.Spec PyProof.Rows
section
variable {X:Cx} {pins:List (Addr×Obj)} {σ:St} {H:Hp} {s:Shared} {h':Heap}
end
section
variable {X:Cx} {elts:List Expr} {k:Nat} {tpos:Pos}
end
end L2
namespace L3
open PySem PySem.Spec PyProof.Rows L2
section
variable {X:Cx} {E:XE} {elts:List Expr} {k:Nat} {tpos pos:Pos}
end
end L3
namespace L3
open PySem PyProof.Rows
section
open PySem.SeqAt
open PySem.AutoSeq1 (wpAny_loadPart')
open PySem.MeetsSeq PySem.MeetsSeq2 PySem.MeetsSeq3
section
variable {prog:Program} {w:World} {A:Around} {E:Value->Shared->Prop} {s:Shared}
end
def zjn (h:Heap) (v:Value) (p:Int×List Int):Prop:= ∃ (a q:Addr) (t:Tok) (its:List Value),v= .ref a/\IsTup h a #[.int p.1 t,.ref q]/\IsTup h q its.toArray/\IntsAre its p.2
theorem zjn.keep {h h':Heap} {v:Value} {p:Int×List Int} (k: ∀ b o,h.get? b=some o->h'.get? b=some o):zjn h v p->zjn h' v p:=fun ⟨a,q,t,its,e,⟨o,x1,x2⟩,⟨o',y1,y2⟩,z⟩=>⟨a,q,t,its,e,⟨o,k _ _ x1,x2⟩,⟨o',k _ _ y1,y2⟩,z⟩
end
end L3
namespace L3
open PySem
section
variable {prog:Program} {w:World} {A:Around} {R:Result->Shared->Prop} {I:Addr} {fp wr:List Addr} {n:Nat} {P:Nat->Value->Prop} {St:Nat->Heap->Prop} {h0:Heap}
end
section
variable {prog:Program} {w:World} {A:Around} {E:Value->Shared->Prop} {s:Shared}
end
end L3
namespace L2
open PySem PySem.Spec PyProof.Rows L3
section
variable {X:Cx}
end
end L2
namespace L3
open PySem PySem.Spec PyProof.Rows L2
section
variable {X:Cx} {E:XE}
end
section
variable {X:Cx} {E:XE}
noncomputable def ztB (d:D):M Bool:=do let ds<-zmy d;pure (!ds.isEmpty)
noncomputable def zsZ (f:FE):FT:=fun sd=>do let d<-f sd;ztB d
end
end L3
section
namespace TS
set_option autoImplicit false
open PySem PyProof PyProof.Rows
noncomputable abbrev Ga:Bool->Keyed->Array Keyed->Nat->Nat->Nat->StateT SortSt Sem (Option Nat):=sortPriv% PySem.Builtin.gallop
noncomputable abbrev Lt:Keyed->Keyed->StateT SortSt Sem (Option Bool):=sortPriv% PySem.Builtin.lt
noncomputable abbrev El:Array Keyed->Nat->StateT SortSt Sem Keyed:=sortPriv% PySem.Builtin.elem
structure Cx where
 prog:Program
 w:World
 A:Around
 E:Value->Shared->Prop
 s:Shared
 kd:SortKind
 O:KeyOrd
 ky:Value->O.α
 ok:Value->Prop
 cmp: ∀ (E':Value->Shared->Prop) (x y:Value) (Q:Bool->Shared->Prop),ok x->ok y->Q (O.blt (ky x) (ky y)) s->wpAny (model prog w) A (keyLt' kd x y) Q E' s
noncomputable abbrev Cx.wp (c:Cx) {α:Type} (m:StateT SortSt Sem α) (Q:α->SortSt->Prop) (st:SortSt):Prop:=wpS (model c.prog c.w) c.A c.E c.s m Q st
noncomputable def Cx.lt (c:Cx) (x y:Keyed):Bool:=c.O.blt (c.ky x.1) (c.ky y.1)
def Cx.le (c:Cx) (x y:Keyed):Prop:=c.lt y x=false
section
variable {c:Cx}
theorem Cx.le_refl (x:Keyed):c.le x x:=c.O.irrefl _
theorem Cx.le_of_lt {x y:Keyed} (h:c.lt x y=true):c.le x y:=KeyOrd.klt_asymm (O:=c.O) h
theorem Cx.le_trans {x y z:Keyed} (h:c.le x y) (h2:c.le y z):c.le x z:=KeyOrd.kle_trans (O:=c.O) h h2
end
end TS
end
section
namespace TS
set_option autoImplicit false
open PySem PyProof PyProof.Rows
noncomputable abbrev Sg:Nat->StateT SortSt Sem Unit:=sortPriv% PySem.Builtin.setMinGallop
structure Sm (st st':SortSt):Prop where
 k:kindOf st'=kindOf st
 a:arrOf st'=arrOf st
 p:pendingOf st'=pendingOf st
 f:failedOf st'=failedOf st
theorem Sm.refl (st:SortSt):Sm st st:=⟨rfl,rfl,rfl,rfl⟩
theorem Sm.g {st st':SortSt} (h:Sm st st') (n:Nat):Sm st (SortSt.mk' (kindOf st') (arrOf st') (pendingOf st') n (failedOf st')):=⟨h.k,h.a,h.p,h.f⟩
structure Mg (r:Keyed->Keyed->Prop) (O L R T:List Keyed):Prop where
 s:O.Pairwise r
 l: ∀ x,x∈O-> ∀ y,y∈L->r x y
 r: ∀ x,x∈O-> ∀ y,y∈R->r x y
 p:(O++(L++R)).Perm T
section
variable {r:Keyed->Keyed->Prop} {O L R T X:List Keyed}
theorem Mg.symm (h:Mg r O L R T):Mg r O R L T:=⟨h.s,h.r,h.l,(List.Perm.append_left O List.perm_append_comm).trans h.p⟩
theorem Mg.fin (h:Mg r O L R T) (hs:(L++R).Pairwise r):(O++(L++R)).Pairwise r/\(O++(L++R)).Perm T:=by
 refine ⟨?_,h.p⟩
 rw [qaq]
 refine ⟨h.s,hs,fun x hx y hy=> ?_⟩
 rcases qaK.mp hy with hy | hy
 ·exact h.l x hx y hy
 ·exact h.r x hx y hy
end
section
variable {c:Cx}
def srt (c:Cx) (a:Array Keyed):Prop:=a.toList.Pairwise c.le
def okA (c:Cx) (a:Array Keyed):Prop:= ∀ x,x∈a.toList->c.ok x.1
structure MgA (c:Cx) (a b out:Array Keyed) (ia ib:Nat):Prop where
 m:Mg c.le out.toList (a.toList.drop ia) (b.toList.drop ib) (a.toList++b.toList)
 z:out.size=ia+ib
 la:ia<=a.size
 lb:ib<=b.size
def Fi (c:Cx) (a b res:Array Keyed):Prop:=srt c res/\res.toList.Perm (a.toList++b.toList)
variable {a b out:Array Keyed} {ia ib k:Nat}
theorem MgA.done (h:MgA c a b out ia ib) (ha:srt c a) (hb:srt c b) (he:ia=a.size\/ib=b.size):Fi c a b (out++a.extract ia++b.extract ib):=by
 have e:(out++a.extract ia++b.extract ib).toList=out.toList++(a.toList.drop ia++b.toList.drop ib):=by
  simp [List.extract,List.take_of_length_le]
 have hs:(a.toList.drop ia++b.toList.drop ib).Pairwise c.le:=by
  rcases he with he | he
  ·rw [List.drop_eq_nil_of_le (by simp [he]),List.nil_append]
   exact List.Pairwise.sublist (List.drop_sublist _ _) hb
  ·rw [List.drop_eq_nil_of_le (as:=b.toList) (by simp [he]),List.append_nil]
   exact List.Pairwise.sublist (List.drop_sublist _ _) ha
 obtain ⟨h1,h2⟩:=h.m.fin hs
 exact ⟨by unfold srt;rw [e];exact h1,by rw [e];exact h2⟩
end
end TS
end
section
namespace TS
set_option autoImplicit false
open PySem PyProof PyProof.Rows
section
variable {c:Cx} {a b:Array Keyed}
theorem zkt {α:Type} {p:Prop} [Decidable p] {x y:StateT SortSt Sem α} {Q:α->SortSt->Prop} {st:SortSt} (h1:p->c.wp x Q st) (h2: ¬p->c.wp y Q st):c.wp (if p then x else y) Q st:=by
 by_cases h:p
 ·rw [qa4 h];exact h1 h
 ·rw [qa5 h];exact h2 h
noncomputable abbrev StL:=ForInStep (Option (Array Keyed)×Array Keyed×Nat×Nat×Nat×Nat×Nat)
structure Ex (c:Cx) (a b:Array Keyed) (N:Nat) (Q:StL->SortSt->Prop) (st:SortSt):Prop where
 d1: ∀ res t,Fi c a b res->Q (.done (some res,t)) st
 d2: ∀ o i j t,MgA c a b o i j->i+1<a.size->j<b.size->N<=o.size->Q (.done (none,o,i,j,t)) st/\Q (.yield (none,o,i,j,t)) st
 hl: ∀ (o:Array Keyed) (i j:Nat),MgA c a b o i j->i+1=a.size->Fi c a b (o++b.extract j++a.extract i)
 ha:srt c a
 hb:srt c b
 oa:okA c a
 ob:okA c b
 hk:kindOf st=c.kd
section
variable {N:Nat} {Q:StL->SortSt->Prop} {st:SortSt} {o:Array Keyed} {i j g k l u v:Nat}
end
end
end TS
end
section
namespace TS
set_option autoImplicit false
open PySem PyProof PyProof.Rows
section
variable {c:Cx} {a b out:Array Keyed} {na nb at':Nat}
structure MgH (c:Cx) (a b out:Array Keyed) (na nb:Nat):Prop where
 m:Mg (fun x y=>c.le y x) out.toList (a.toList.take na).reverse (b.toList.take nb).reverse (a.toList++b.toList)
 z:out.size+na+nb=a.size+b.size
 la:na<=a.size
 lb:nb<=b.size
theorem zjD {l:Array Keyed} (n:Nat) (h:srt c l):((l.toList.take n).reverse).Pairwise (fun x y=>c.le y x):=by
 rw [List.pairwise_reverse]
 exact List.Pairwise.sublist (List.take_sublist _ _) h
theorem zi7 {r:List Keyed} {O L R T:List Keyed} (h:Mg (fun x y=>c.le y x) O L R T) (hs:(L++R).Pairwise (fun x y=>c.le y x)) (e:r=(O++(L++R)).reverse):r.Pairwise c.le/\r.Perm T:=by
 obtain ⟨h1,h2⟩:=h.fin hs
 subst e
 exact ⟨by rw [List.pairwise_reverse];exact h1,(List.reverse_perm _).trans h2⟩
theorem MgH.done (h:MgH c a b out na nb) (ha:srt c a) (hb:srt c b) (he:na=0\/nb=0):Fi c a b (a.extract 0 na++b.extract 0 nb++out.reverse):=by
 have hs:((b.toList.take nb).reverse++(a.toList.take na).reverse).Pairwise (fun x y=>c.le y x):=by
  rcases he with he | he
  ·subst he;simpa using zjD nb hb
  ·subst he;simpa using zjD na ha
 exact zi7 h.m.symm hs (by simp [List.extract])
theorem MgH.first (h:MgH c a b out na nb) (ha:srt c a) (_hb:srt c b) (he:nb=1) (hl: ∀ y,b[0]? = some y-> ∀ x,x∈a.toList->c.le y x):Fi c a b (b.extract 0 nb++a.extract 0 na++out.reverse):=by
 subst he
 have hlb:=h.lb
 have ed:b.toList.take 1=[b[0]]:=by
  obtain ⟨l⟩:=b
  cases l with
  | nil=>simp at hlb
  | cons x l=>simp
 have hs:((a.toList.take na).reverse++(b.toList.take 1).reverse).Pairwise (fun x y=>c.le y x):=by
  rw [ed,qaq]
  refine ⟨zjD na ha,List.pairwise_singleton _ _,?_⟩
  intro x hx y hy
  rw [List.mem_singleton.mp hy]
  exact hl _ (getElem?_pos b 0 (by omega)) x (List.mem_of_mem_take (List.mem_reverse.mp hx))
 exact zi7 h.m hs (by simp [List.extract])
noncomputable abbrev H5:=Option (Array Keyed)×Nat×Nat×Array Keyed×Nat
noncomputable abbrev H6:=Option (Array Keyed)×Nat×Nat×Array Keyed×Nat×Nat
noncomputable abbrev H7:=Option (Array Keyed)×Nat×Nat×Array Keyed×Nat×Nat×Nat
def Hi (c:Cx) (a b:Array Keyed) (N:Nat) (p q:Nat) (o:Array Keyed):Prop:=MgH c a b o p q/\0<p/\1<q/\N<=o.size
structure Ey (c:Cx) (a b:Array Keyed) (N:Nat) (Q:ForInStep H7->SortSt->Prop) (st:SortSt):Prop where
 d1: ∀ res t,Fi c a b res->Q (.done (some res,t)) st
 d2: ∀ p q o t,Hi c a b N p q o->Q (.done (none,p,q,o,t)) st/\Q (.yield (none,p,q,o,t)) st
 hl: ∀ (o:Array Keyed) (i j:Nat),MgH c a b o i j->j=1->Fi c a b (b.extract 0 j++a.extract 0 i++o.reverse)
 ha:srt c a
 hb:srt c b
 oa:okA c a
 ob:okA c b
 hk:kindOf st=c.kd
noncomputable def U4 (a b:Array Keyed) (p q:Nat) (o:Array Keyed) (g k l:Nat):StateT SortSt Sem (ForInStep H7):=El a (p - 1)>>=fun z=>
 if (p - 1==0)=true then pure (.done (some (a.extract 0 (p - 1)++b.extract 0 q++(o.push z).reverse),p - 1,q,o.push z,g,k,l))
 else if (decide (k<7) && decide (l<7))=true then pure (.done (none,p - 1,q,o.push z,g,k,l)) else pure (.yield (none,p - 1,q,o.push z,g,k,l))
noncomputable def U3 (a b:Array Keyed) (p q:Nat) (o:Array Keyed) (g k v:Nat):StateT SortSt Sem (ForInStep H7):=El b (q - 1)>>=fun y=>
 if (q - 1==1)=true then pure (.done (some (b.extract 0 (q - 1)++a.extract 0 p++(o.push y).reverse),p,q - 1,o.push y,g,k,v))
 else El a (p - 1)>>=fun z=>Ga true z b 0 (q - 1) (q - 1 - 1)>>=fun x=>match x with
  | some l=>if q - 1 - l>0 then
    if (l==1)=true then pure (.done (some (b.extract 0 l++a.extract 0 p++(o.push y++(b.extract l (q - 1)).reverse).reverse),p,l,o.push y++(b.extract l (q - 1)).reverse,g,k,q - 1 - l))
    else if (l==0)=true then pure (.done (some (a.extract 0 p++b.extract 0 l++(o.push y++(b.extract l (q - 1)).reverse).reverse),p,l,o.push y++(b.extract l (q - 1)).reverse,g,k,q - 1 - l))
    else U4 a b p l (o.push y++(b.extract l (q - 1)).reverse) g k (q - 1 - l)
   else U4 a b p (q - 1) (o.push y) g k (q - 1 - l)
  | _=>pure (.done (some (a.extract 0 p++b.extract 0 (q - 1)++(o.push y).reverse),p,q - 1,o.push y,g,k,v))
noncomputable def U2 (a b:Array Keyed) (p q:Nat) (o:Array Keyed) (g u v:Nat):StateT SortSt Sem (ForInStep H7):=El b (q - 1)>>=fun y=>Ga false y a 0 p (p - 1)>>=fun x=>match x with
  | some k=>if p - k>0 then
    if (k==0)=true then pure (.done (some (a.extract 0 k++b.extract 0 q++(o++(a.extract k p).reverse).reverse),k,q,o++(a.extract k p).reverse,g,p - k,v))
    else U3 a b k q (o++(a.extract k p).reverse) g (p - k) v
   else U3 a b p q o g (p - k) v
  | _=>pure (.done (some (a.extract 0 p++b.extract 0 q++o.reverse),p,q,o,g,u,v))
noncomputable def Z1 (a b:Array Keyed) (g:Nat) (p q:Nat) (o:Array Keyed) (u v:Nat):StateT SortSt Sem (ForInStep H6):=El b (q - 1)>>=fun y=>El a (p - 1)>>=fun z=>Lt y z>>=fun x=>match x with
 | some w=>if w=true then El a (p - 1)>>=fun z=>if (p - 1==0)=true then pure (.done (some (a.extract 0 (p - 1)++b.extract 0 q++(o.push z).reverse),p - 1,q,o.push z,u+1,0)) else if u+1>=g then pure (.done (none,p - 1,q,o.push z,u+1,0)) else pure (.yield (none,p - 1,q,o.push z,u+1,0))
  else El b (q - 1)>>=fun y=>if (q - 1==1)=true then pure (.done (some (b.extract 0 (q - 1)++a.extract 0 p++(o.push y).reverse),p,q - 1,o.push y,0,v+1)) else if v+1>=g then pure (.done (none,p,q - 1,o.push y,0,v+1)) else pure (.yield (none,p,q - 1,o.push y,0,v+1))
 | _=>pure (.done (some (a.extract 0 p++b.extract 0 q++o.reverse),p,q,o,u,v))
noncomputable def Z2 (a b:Array Keyed) (p q:Nat) (o:Array Keyed) (g u v:Nat):StateT SortSt Sem (ForInStep H7):=
 if g>1 then Sg (g - 1)>>=fun _=>U2 a b p q o (g - 1) u v else Sg g>>=fun _=>U2 a b p q o g u v
section
variable {N:Nat} {Q:ForInStep H7->SortSt->Prop} {st:SortSt} {o:Array Keyed} {p q g k l u v:Nat}
end
end
end TS
end
section
namespace TS
set_option autoImplicit false
open PySem PyProof PyProof.Rows
structure Loc (xs ys:Array Keyed) (lo hi:Nat):Prop where
 p:ys.toList.Perm xs.toList
 o: ∀ i,i<lo\/hi<=i->ys[i]? = xs[i]?
theorem Loc.refl (xs:Array Keyed) (lo hi:Nat):Loc xs xs lo hi:=⟨List.Perm.refl _,fun _ _=>rfl⟩
theorem Loc.trans {xs ys zs:Array Keyed} {lo hi:Nat} (h:Loc xs ys lo hi) (h2:Loc ys zs lo hi):Loc xs zs lo hi:=⟨h2.p.trans h.p,fun i hi=>(h2.o i hi).trans (h.o i hi)⟩
theorem Loc.size {xs ys:Array Keyed} {lo hi:Nat} (h:Loc xs ys lo hi):ys.size=xs.size:=by simpa using h.p.length_eq
section
variable {c:Cx}
def sg (c:Cx) (xs:Array Keyed) (lo hi:Nat):Prop:= ∀ i j x y,lo<=i->i<=j->j<hi->xs[i]? = some x->xs[j]? = some y->c.le x y
end
end TS
end
section
namespace TS
set_option autoImplicit false
open PySem PyProof PyProof.Rows
noncomputable abbrev CR:Nat->Nat->StateT SortSt Sem (Option Nat):=sortPriv% PySem.Builtin.countRun
structure St (c:Cx) (a0:Array Keyed) (p0:Array (Nat×Nat×Nat)) (lo hi:Nat) (st:SortSt):Prop where
 k:kindOf st=c.kd
 f:failedOf st=none
 p:pendingOf st=p0
 l:Loc a0 (arrOf st) lo hi
section
variable {c:Cx} {a0:Array Keyed} {p0:Array (Nat×Nat×Nat)} {lo hi:Nat}
noncomputable def KV (c:Cx) (xs:Array Keyed) (i:Nat):c.O.α:=c.ky (xs[i]?.getD (.none,.none)).1
def up (c:Cx) (xs:Array Keyed) (lo hi:Nat):Prop:= ∀ i j,lo<=i->i<=j->j<hi->c.O.kle (KV c xs i) (KV c xs j)
def dn (c:Cx) (xs:Array Keyed) (lo hi:Nat):Prop:= ∀ i j,lo<=i->i<=j->j<hi->c.O.kle (KV c xs j) (KV c xs i)
def ek (c:Cx) (xs:Array Keyed) (lo hi:Nat):Prop:= ∀ i,lo<=i->i<hi->KV c xs i=KV c xs (hi - 1)
theorem St.set {st:SortSt} {xs:Array Keyed} (h:St c a0 p0 lo hi st) (hl:Loc (arrOf st) xs lo hi):St c a0 p0 lo hi (setArr st xs):=⟨h.k,h.f,h.p,h.l.trans hl⟩
theorem St.ok {st:SortSt} (h:St c a0 p0 lo hi st) (ho:okA c a0):okA c (arrOf st):=fun x hx=>ho x (h.l.p.mem_iff.mp hx)
end
end TS
end
section
namespace TS
set_option autoImplicit false
open PySem PyProof PyProof.Rows
section
variable {c:Cx}
noncomputable def chn (c:Cx) (xs:Array Keyed):List (Nat×Nat×Nat)->Nat->Nat->Prop
 | [],a,b=>a=b
 | t::r,a,b=>t.1=a/\0<t.2.1/\sg c xs a (a+t.2.1)/\chn c xs r (a+t.2.1) b
structure Rn (c:Cx) (a0:Array Keyed) (lo:Nat) (st:SortSt):Prop where
 k:kindOf st=c.kd
 f:failedOf st=none
 p:(arrOf st).toList.Perm a0.toList
 h:chn c (arrOf st) (pendingOf st).toList 0 lo
theorem Rn.size {a0:Array Keyed} {lo:Nat} {st:SortSt} (h:Rn c a0 lo st):(arrOf st).size=a0.size:=by simpa using h.p.length_eq
theorem Rn.ok {a0:Array Keyed} {lo:Nat} {st:SortSt} (h:Rn c a0 lo st) (ho:okA c a0):okA c (arrOf st):=fun x hx=>ho x (h.p.mem_iff.mp hx)
end
end TS
end
section
namespace TS
set_option autoImplicit false
open PySem PyProof PyProof.Rows
noncomputable def h6 (h:Heap) (a:Addr) (vs:List Value):Heap:=((h.update a (Obj.mapSeq fun _=> #[])).push (seqObj "tuple" vs.toArray 0)).push (seqObj "list" #[] 0)
def Srt (prog:Program) (w:World) (A:Around) (vs:List Value) (s1:Shared) (kd:SortKind) (O:KeyOrd) (ky:Value->O.α) (ok:Value->Prop):Prop:=
 (∀ v,v∈vs->ok v)/\ ∀ s2:Shared,(∀ b o,s1.heap.get? b=some o->s2.heap.get? b=some o)->
  (2<=vs.length-> ∀ (E:Value->Shared->Prop) (Q:SortKind->Shared->Prop),Q kd s2->wpAny (model prog w) A (keyKind' vs.toArray) Q E s2)/\
  ∀ (E:Value->Shared->Prop) (x y:Value) (Q:Bool->Shared->Prop),ok x->ok y->Q (O.blt (ky x) (ky y)) s2->wpAny (model prog w) A (keyLt' kd x y) Q E s2
end TS
end
namespace TS
set_option autoImplicit false
open PySem PyProof PyProof.Rows PySem.SeqAt
open PySem.MeetsSeq PySem.MeetsSeq2 PySem.MeetsSeq3
inductive Rs (A:Around) (s:Shared) (b:Bool):List ((Value×Value)×Nat)->Bool->Bool->Prop
 | nil (d:Bool):Rs A s b [] d d
 | eq {p q:Value} {i:Nat} {rest:List ((Value×Value)×Nat)} {d r:Bool} (h:EqAt A s p q true) (t:Rs A s b rest d r):Rs A s b (((p,q),i)::rest) d r
 | ne {p q:Value} {i:Nat} {rest:List ((Value×Value)×Nat)} {d l:Bool} (h:EqAt A s p q false) (t: ∀ (prog:Program) (w:World) (E:Value->Shared->Prop) (Q:Bool->Shared->Prop),Q l s->wpAny (model prog w) A (oneLt' (b && i==0) p q) Q E s):Rs A s b (((p,q),i)::rest) d l
section
variable {prog:Program} {w:World} {A:Around} {s:Shared}
def znu (h:Heap) (v:Value) (ns:List Int):Prop:= ∃ (a:Addr) (its:List Value),v= .ref a/\IsTup h a its.toArray/\IntsAre its ns
end
end TS
namespace TS
set_option autoImplicit false
open PySem PyProof PyProof.Rows PySem.SeqAt
def zhs (h:Heap) (v:Value):Prop:= ∃ (a:Addr) (xs:Array Value) (n:Int) (t:Tok),v= .ref a/\IsTup h a xs/\xs[0]? = some (.int n t)
section
variable {prog:Program} {w:World} {A:Around} {s:Shared}
theorem zll {v:Value} (h:zhs s.heap v) {E:Value->Shared->Prop}:wpAny (model prog w) A (firstOfTuple' v) (fun r s'=>s'=s/\ ∃ n t,r=some (.int n t)) E s:=by
 obtain ⟨a,xs,n,t,rfl,⟨o,e1,e2,m,d⟩,hx⟩:=h
 refine qaW (wpAny_typeOf (T:="tuple") ⟨o,e1,e2⟩ ?_)
 have:(Value.type "tuple" != Value.type "tuple")=false:=by rfl
 rw [this]
 refine qaW (listItems_at e1 d (qaX ⟨rfl,n,t,hx⟩))
theorem zgO {E:Value->Shared->Prop}: ∀ (vs:List Value),(∀ v,v∈vs->zhs s.heap v)->wpAny (model prog w) A (vs.mapM firstOfTuple') (fun r s'=>s'=s/\ ∃ us ns,IntsAre us ns/\r=us.map some/\us.length=vs.length) E s
 | [],_=>by rw [List.mapM_nil];exact qaX ⟨rfl,[],[],.nil,rfl,rfl⟩
 | v::vs,h=>by
  rw [List.mapM_cons]
  refine qaW (qaZ (zll (h v (qau ..))) ?_ fun _ _ e=>e)
  rintro r s' ⟨es,n,t,rfl⟩
  rw [es]
  refine qaW (qaZ (zgO vs fun u hu=>h u (qan _ hu)) ?_ fun _ _ e=>e)
  rintro r s' ⟨es,us,ns,h1,rfl,h3⟩
  rw [es]
  exact qaX ⟨rfl,.int n t::us,n::ns,.cons n t h1,rfl,by simp [h3]⟩
theorem znC {vs:List Value} (h: ∀ v,v∈vs->zhs s.heap v) (h0:2<=vs.length) {E:Value->Shared->Prop} {Q:SortKind->Shared->Prop} (hq:Q (tuples' true) s):wpAny (model prog w) A (keyKind' vs.toArray) Q E s:=by
 rw [keyKind'_eq,List.mapM_toArray,map_eq_pure_bind,bind_assoc]
 refine qaW (qaZ (zgO vs h) ?_ fun _ _ e=>e)
 rintro r s' ⟨rfl,us,ns,h1,rfl,h3⟩
 rw [pure_bind]
 rw [qa4 (by simp)]
 refine qaW (wpAny_rule ?_)
 have e1:Array.filterMap id (us.map some).toArray=us.toArray:=by simp
 rw [e1,oneTypeOnly'_eq,List.mapM_toArray,mapM_typeOf_ints h1]
 simp only [map_pure,pure_bind]
 obtain ⟨u,us',rfl⟩: ∃ u us',us=u::us':=by
  cases us with
  | nil=>simp at h3;omega
  | cons u us'=>exact ⟨u,us',rfl⟩
 have hall:((List.map (fun _=>Value.type "int") (u::us')).toArray.all fun x=>x==Value.type "int")=true:=by
  simp only [List.all_toArray,List.all_map,List.all_eq_true]
  intro _ _
  rfl
 have h0':(List.map (fun _=>Value.type "int") (u::us')).toArray[0]? = some (Value.type "int"):=by simp
 rw [h0']
 simp only [hall,if_true,pure_bind]
 exact qaX hq
end
theorem znu.keep {h h':Heap} {v:Value} {p:List Int} (k: ∀ b o,h.get? b=some o->h'.get? b=some o):znu h v p->znu h' v p:=fun ⟨a,its,e,⟨o,x1,x2⟩,z⟩=>⟨a,its,e,⟨o,k _ _ x1,x2⟩,z⟩
structure KR where
 O:KeyOrd
 dflt:O.α
 At:Heap->Value->O.α->Prop
 inj: ∀ {h v p q},At h v p->At h v q->p=q
 keep: ∀ {h h':Heap} {v p},(∀ b o,h.get? b=some o->h'.get? b=some o)->At h v p->At h' v p
 first: ∀ {h v p},At h v p->zhs h v
 lt: ∀ {prog:Program} {w:World} {A:Around} {s:Shared} {E:Value->Shared->Prop} {Q:Bool->Shared->Prop} {u v p q},At s.heap v p->At s.heap u q->A.units+2<cLine->Q (O.blt p q) s->wpAny (model prog w) A (keyLt' (tuples' true) v u) Q E s
open Classical in
noncomputable def KR.ky (k:KR) (h:Heap) (v:Value):k.O.α:=if e: ∃ p,k.At h v p then e.choose else k.dflt
theorem KR.ky_eq {k:KR} {h:Heap} {v:Value} {p:k.O.α} (e:k.At h v p):k.ky h v=p:=by
 unfold KR.ky
 rw [dif_pos ⟨p,e⟩]
 exact k.inj (Exists.choose_spec ⟨p,e⟩) e
theorem KR.srt (k:KR) {prog:Program} {w:World} {A:Around} {vs:List Value} {s1:Shared} (hr:A.units+2<cLine) (h: ∀ v,v∈vs-> ∃ p,k.At s1.heap v p):Srt prog w A vs s1 (tuples' true) k.O (k.ky s1.heap) (fun v=> ∃ p,k.At s1.heap v p):=by
 refine ⟨h,fun s2 hk=>⟨fun h2 E Q hq=>znC (fun v hv=> ?_) h2 hq,fun E x y Q hx hy hq=> ?_⟩⟩
 ·obtain ⟨p,hp⟩:=h v hv
  exact k.first (k.keep hk hp)
 ·obtain ⟨p,hp⟩:=hx
  obtain ⟨q,hq'⟩:=hy
  rw [KR.ky_eq hp,KR.ky_eq hq'] at hq
  exact k.lt (k.keep hk hp) (k.keep hk hq') hr hq
end TS
namespace TS
set_option autoImplicit false
open PySem PyProof.Rows
end TS
namespace L2
open PySem PySem.Spec PyProof.Rows TS
section
variable {X:L2.Cx}
end
end L2
namespace L3
open PySem PySem.Spec PyProof.Rows L2 TS
section
variable {X:L2.Cx} {E:XE}
end
end L3
namespace L3
open PySem PySem.Spec PyProof.Rows L2
section
variable {X:Cx} {E:XE}
end
section
variable {X:Cx} {E:XE} {scope:Scope} {N:List Str} {src:List (Option Nat)} {tg iter elt:Expr} {ifs:List Expr} {pos:Pos}
end
end L3
namespace L3
open PySem
open Sem (wp)
open AutoSeq1 (wpAny_loadPart')
section
variable {prog:Program} {w:World} {A:Around} {E:Value->Shared->Prop} {s:Shared}
end
end L3
namespace L2
open PySem PySem.Spec PyProof.Rows
section
variable {X:Cx} {elts:List Expr} {k:Nat} {tpos:Pos}
end
end L2
namespace L3
open PySem PySem.Spec PyProof.Rows L2
section
variable {X:Cx} {E:XE} {elts:List Expr} {k:Nat} {tpos pos:Pos}
end
end L3
namespace L2
open PySem PySem.Spec PyProof.Rows
section
variable {κ:Type} [DecidableEq κ]
noncomputable def zsX (kvs:List (κ×V)) (k:κ) (v:V):List (κ×V):=
 if (kvs.any fun kv=>decide (kv.1=k))=true then kvs.map (fun kv=>if kv.1=k then (kv.1,v) else kv) else kvs++[(k,v)]
theorem KV.any {kvs:List (κ×V)} {vs:List (κ×Value)} (r:KV kvs vs) (k:κ):(kvs.any fun kv=>decide (kv.1=k))=vs.any fun kv=>decide (kv.1=k):=by
 unfold KV at r
 induction r with
 | nil=>rfl
 | cons h t ih=>rw [List.any_cons,List.any_cons,ih,h.1]
theorem KV.repl {kvs:List (κ×V)} {vs:List (κ×Value)} (r:KV kvs vs) (k:κ) {y:V} {u:Value} (ry:zbE y u):
  KV (kvs.map fun kv=>if kv.1=k then (kv.1,y) else kv) (vs.map fun kv=>if kv.1=k then (kv.1,u) else kv):=by
 unfold KV at r ⊢
 induction r with
 | nil=>exact .nil
 | @cons p q ps qs h t ih=>
  rw [qaM,qaM]
  refine .cons ?_ ih
  obtain ⟨h1,h2⟩:=h
  by_cases e:p.1=k
  ·rw [qa4 e,qa4 (h1.symm.trans e)];exact ⟨h1,ry⟩
  ·rw [qa5 e,qa5 (fun z=>e (h1.trans z))];exact ⟨h1,h2⟩
theorem KV.put {kvs:List (κ×V)} {vs:List (κ×Value)} (r:KV kvs vs) (k:κ) {y:V} {u:Value} (ry:zbE y u):KV (zsX kvs k y) (stored vs k u):=by
 unfold zsX stored
 rw [r.any k]
 by_cases e:(vs.any fun kv=>decide (kv.1=k))=true
 ·rw [qa4 e,qa4 e];exact r.repl k ry
 ·rw [qa5 e,qa5 e];exact Paired.snoc r ⟨rfl,ry⟩
theorem KV.length {kvs:List (κ×V)} {vs:List (κ×Value)} (r:KV kvs vs):kvs.length=vs.length:=Paired.length r
end
section
variable {X:Cx}
end
end L2
namespace L3
open PySem PySem.Spec PyProof.Rows L2
section
variable {X:L2.Cx} {E:XE}
end
open LT
section
variable {h:Hh}
end
end L3
namespace L3
open PySem PySem.Spec PyProof.Rows L2
structure Fd (K:W.Frag) (x:Str) (st:Stmt) (a:Addr) (d:FuncData):Prop where
 e:W.nsIn K mainGlobals x=some (some (.ref a))
 F:Fun K x x st a d
section
variable {X:Cx} {E:XE}
end
end L3
namespace L3
open PySem PyProof.Rows HT
section
open PySem.SeqAt
open PySem.AutoSeq1 (wpAny_loadPart')
open PySem.MeetsSeq PySem.MeetsSeq2 PySem.MeetsSeq3
end
section
variable {prog:Program} {w:World} {A:Around} {E:Value->Shared->Prop} {s:Shared}
end
end L3
namespace L3
open PySem PyProof.Rows
section
open PySem.SeqAt
open PySem.AutoSeq1 (wpAny_loadPart')
open PySem.MeetsSeq PySem.MeetsSeq2 PySem.MeetsSeq3
section
variable {prog:Program} {w:World} {A:Around} {E:Value->Shared->Prop} {s:Shared}
end
end
open PySem.Spec L2
section
variable {X:Cx} {E:XE}
end
end L3
namespace L2
open PySem PySem.Spec PyProof.Rows
section
variable {X:Cx}
theorem zjq:zaJ X (.builtin "abs") (fun xs H Q=> ∃ i,xs=[.int i]/\Q (.int (if i<0 then -i else i)) H):=by
 intro pins s σ H xs us Q I r h
 obtain ⟨i,rfl,q⟩:=h
 obtain ⟨u,rfl,t,rfl⟩:=zdI r
 exact call_abs_int fun u tk=>⟨.int (if i<0 then -i else i),H,I.tok _,⟨_,rfl⟩,q⟩
end
end L2
namespace L3
open PySem PySem.Spec PyProof.Rows L2
section
variable {X:Cx} {E:XE}
noncomputable def zpH:List D->M D
 | [.int i]=>pure (.int (if i<0 then -i else i))
 | _=>M.bad
theorem zfX:zaJ X (.builtin "abs") (zhh X.K E zpH):=by
 refine zaJ.imp zjq fun xs H Q ⟨ι,h,ds,rl,hr,q⟩=> ?_
 unfold zpH at q
 split at q
 ·simp only [zaq,Rel] at rl
  obtain ⟨v,r,rfl,rfl,rfl⟩:=rl
  exact ⟨_,rfl,Fin.out hr q _ (by simp [Rel])⟩
 ·exact qa0 q
noncomputable def zoG (i j:Nat) (fs:FA):FS:=fun sd=>do let ds<-fs sd;match ds with | [d,d']=>pure (.nx ((sd.set i (some d)).set j (some d'))) | _=>M.bad
theorem zqC {x y:Str} {a b:Expr} {fs:FA} {px py pt pos:Pos} {kt k2 pt2} (i j:Nat) (hc:X.calm=true) (hN:X.N.Nodup) (ha:SA X E [a,b] fs) (hi:X.N[i]? = some x:=by rfl) (hj:X.N[j]? = some y:=by rfl) (hij:i≠j:=by decide)
  (hx:X.env.scope.names.lookup x=some .local:=by rfl) (hy:X.env.scope.names.lookup y=some .local:=by rfl)
  (hw:swappedStores [.Tuple [.Name x px,.Name y py] kt pt] (.Tuple [a,b] k2 pt2) X.env=pure (some [x,y]):=by rfl)
  (hs:swapsWithSole [.Tuple [.Name x px,.Name y py] kt pt] (.Tuple [a,b] k2 pt2) pos.line X.env=pure false:=by rfl):
  SS X E (.Assign [.Tuple [.Name x px,.Name y py] kt pt] (.Tuple [a,b] k2 pt2) pos) (zoG i j fs):=zry (zoP hc hN hi hj hij hx hy ha hw hs)
end
open Classical in
noncomputable def chk (n:Nat) (ds:List D):M Unit:=fun h=>if h[n]? = some (.lst ds) then .ok () h else .bad
section
variable {X:Cx} {E:XE} {scope:Scope} {N:List Str} {src:List (Option Nat)} {tg iter elt:Expr} {ifs:List Expr} {pos:Pos}
end
end L3
namespace L3
open PySem PySem.Spec PyProof.Rows L2
section
variable {X:Cx} {E:XE} {pos:Pos}
end
end L3
namespace L2
open PySem PySem.Spec PyProof.Rows
section
variable {X:Cx}
end
end L2
namespace L3
open PySem PySem.Spec PyProof.Rows L2
section
variable {X:L2.Cx} {E:XE}
theorem zlr:OpR X (binaryOp .FloorDiv) (rI (fun _ j=>0<j/\j<2^8000) fun i j=> .int (i / j)):=opI fun i j _ _ _ _ _ hc q=>by
 refine floordiv_int (by omega) (by rw [Int.fdiv_eq_ediv_of_nonneg _ (by omega)];exact q) (.inl (PyProof.noPylong_of_log2 ?_))
 have h1:j.natAbs<2^8000:=by omega
 have h0:j.natAbs≠0:=by omega
 exact Nat.lt_trans ((Nat.log2_lt h0).mpr h1) (by decide)
noncomputable def zev:=dII (fun _ j=>decide (0<j) && decide (j<2^8000)) fun i j=> .int (i / j)
theorem zei:OpR X (binaryOp .FloorDiv) (zdb X.K E zev):=zgU zlr (fun i j h=>by simpa using h) fun _ _ _ _=>by simp [Rel]
end
section
variable {X:L2.Cx} {E:XE}
noncomputable def znz:List D->M D:=zmF fun d=>match d with
 | .int i=>if i.natAbs.log2<1920 then pure (.str (toString i)) else M.bad
 | _=>M.bad
theorem zkp:zaJ X (.type "str") (zhh X.K E znz):=by
 refine zaJ.imp zgw fun xs H Q ⟨ι,h,ds,rl,hr,q⟩=> ?_
 obtain ⟨d,v,e,r,q⟩:=zcF rl q
 cases d with
 | int i=>
  simp only [Rel] at r
  by_cases hc:i.natAbs.log2<1920
  ·have q:Fin X.K E ι H ((if i.natAbs.log2<1920 then (pure (D.str (toString i)):M D) else M.bad) h) _:=q
   rw [qa4 hc] at q
   exact ⟨i,by rw [e,r],hc,Fin.out hr q _ (by simp [Rel])⟩
  ·have q:Fin X.K E ι H ((if i.natAbs.log2<1920 then (pure (D.str (toString i)):M D) else M.bad) h) _:=q
   rw [qa5 hc] at q
   exact qa0 q
 | _=>exact qa0 q
end
end L3
namespace L2
open PySem PySem.Spec PyProof.Rows
section
variable {X:Cx}
theorem ziK (t:Tok) (l:Addr) (items:Array Value) (n:Nat) (dd:Option Addr) (sl:Array (Option Value)):
  Meets (Builtin.«tuple.__mul__» ⟨[.ref l,.int 1 t],[]⟩) (fun _ R s=>s.heap.get? l=some {cls:= .type "tuple",dict:=dd,data:= .seq items n,slots:=sl}/\
    R (.ok (.ret (.ref l))) s):=
 .of_wp fun prog w A R s h=>by
  obtain ⟨hp,g,d,tk,os⟩:=s;obtain ⟨hl,h⟩:=h
  unfold Builtin.«tuple.__mul__» 
  wp_walk
  exact ⟨_,rfl,h⟩
theorem zk5:OpR X (binaryOp .Mult) (fun x y H Q=> ∃ a xs,x= .ref a/\y= .int 1/\SqT X.K H a xs/\Q (.ref a) H):=by
 intro pins s σ H x y v u Q I rx ry h
 obtain ⟨a,xs,rfl,rfl,hx,q⟩:=h
 cases rx
 obtain ⟨t,rfl⟩:=ry
 obtain ⟨its,r,ht,_⟩:=I.tuple hx
 obtain ⟨⟨cls,dd,data,sl⟩,ho,hc,n,hd⟩:=id ht
 simp only at hc hd
 subst hc hd
 exact wpAny_binaryOp_repeat_ref (T:="tuple") (U:="int") (by decide) ⟨_,ho,rfl⟩ (fun s'=>typeIs_int s' 1 t) zbG F.fills_int_mul F.slot_int_rmul zc0 F.slot_int_index.lookup
  (call_meets F.slot_int_rmul (typeIs_int s 1 t) F.entry_int_rmul (F.args_int_rmul_2 _ _) (zcd 1 t a its.toArray n dd sl)
    ⟨ho,rfl,⟨_,ho,rfl⟩,call_meets F.slot_tuple_mul ⟨_,ho,rfl⟩ F.entry_tuple_mul (F.args_tuple_mul_2 _ _) (ziK t a its.toArray n dd sl) ⟨ho,⟨.ref a,H,I,rfl,q⟩⟩⟩)
end
end L2
namespace L3
open PySem PySem.Spec PyProof.Rows L2
section
variable {X:L2.Cx} {E:XE}
noncomputable def zkX (x y:D):M D:=match x,y with
 | .tup xs,.int k=>if k=1 then pure (.tup xs) else if xs≠[]/\2<=k/\k<1000/\xs.length*k.toNat<=sizeLine then pure (.tup (List.replicate k.toNat xs).flatten) else M.bad
 | _,_=>M.bad
theorem zoC:OpR X (binaryOp .Mult) (zdb X.K E zkX):=by
 refine OpR.imp (zk5.or ziZ) fun x y H Q ⟨ι,h,d1,d2,r1,r2,hr,q⟩=> ?_
 unfold zkX at q
 split at q
 ·simp only [Rel] at r2
  rename_i xs k
  by_cases hk:k=1
  ·subst hk
   rw [qa4 rfl] at q
   have r1':=r1
   obtain ⟨a,vs,e,k1,k2⟩:=zcu r1
   subst e
   exact .inl ⟨a,vs,rfl,r2,k1,Fin.out hr q _ r1'⟩
  ·rw [qa5 hk] at q
   obtain ⟨a,vs,e,k1,k2⟩:=zcu r1
   obtain ⟨⟨c1,c2,c3,c4⟩,q⟩:=Fin.guard q
   refine .inr ⟨a,_,vs,e,r2,k1,fun z=>c1 ?_,c2,c3,by rw [<- k2.length];exact c4,fun p hp=>zmL hr (k2.rep _) q hp⟩
   subst z
   exact List.eq_nil_of_length_eq_zero k2.length
 ·exact qa0 q
end
end L3
namespace L3
open PySem
open Sem (wp)
section
variable {prog:Program} {w:World} {A:Around} {E:Value->Shared->Prop} {s:Shared}
theorem zeY {z TI TO i1 i2 l1 l2:Addr} {k1 k2:Nat} {xs ys:Array Value} {x y a b:Value} {Q:Value->Shared->Prop} (D:ZipApart z TI TO i1 i2 l1 l2)
  (hz:IsZip s.heap z TI TO .none) (hTI:IsPair s.heap TI (.ref i1) (.ref i2)) (hTO:IsPair s.heap TO a b)
  (h1:s.heap.IsTupleIter i1 l1 k1) (h2:s.heap.IsTupleIter i2 l2 k2) (hl1:s.heap.IsTuple l1 xs) (hl2:s.heap.IsTuple l2 ys) (hx:xs[k1]? = some x) (hy:ys[k2]? = some y)
  (hQ: ∀ h',IsZip h' z TI TO (rawInt s.heap.objs.size)->IsPair h' TO x y->h'.IsTupleIter i1 l1 (k1+1)->h'.IsTupleIter i2 l2 (k2+1)->IsPair h' s.heap.objs.size x y->h'.objs.size=s.heap.objs.size+1->
    (∀ c o,c≠z->c≠TO->c≠i1->c≠i2->s.heap.get? c=some o->h'.get? c=some o)->Q (.ref s.heap.objs.size) {s with heap:=h'}):
  wpAny (model prog w) A (Builtin.«zip.__next__» ⟨[.ref z],[]⟩) (fun fin s'=> ∃ v,fin= .done (.ret v)/\Q v s') E s:=by
 show wpAny _ _ (field (.ref z) 2>>=_) _ _ _
 refine qaW (wpAny_field hz rfl (x:= .bool false) rfl ?_)
 show wpAny _ _ (field (.ref z) 3>>=_) _ _ _
 refine qaW (wpAny_field hz rfl (x:= .ref TI) rfl ?_)
 refine qaW (wpAny_seqItems hTI rfl ?_)
 show wpAny _ _ (Builtin.SmallTypes.ownedTupleIsFree (.ref z)>>=_) _ _ _
 refine qaW ?_
 unfold Builtin.SmallTypes.ownedTupleIsFree
 refine qaW (wpAny_field hz rfl (x:= .none) rfl (qaX ?_))
 simp only [if_true]
 refine qaW (wpAny_rule ?_)
 refine qaW (wpAny_field hz rfl (x:= .ref TO) rfl ?_)
 refine qaW (wpAny_setField_rec hz (by simp) fun h₁ hz₁ hs₁=> ?_)
 replace hz₁:IsZip h₁ z TI TO .ellipsis:=hz₁
 refine qaW ?_
 simp only [List.zipIdx_cons,List.zipIdx_nil,List.forIn_cons,List.forIn_nil]
 refine qaW (qaW (wpAny_onRaise ?_))
 show wpAny _ _ (Builtin.SmallTypes.nextOf (.ref i1)>>=_) _ _ _
 refine qaW (zbt (h1.extBut hs₁.extBut D.i1z) (hl1.extBut hs₁.extBut D.l1z) hx fun h₂ h1₂ hs₂=>qaX ?_)
 have hTO₂:IsPair h₂ TO a b:=hs₂.extBut _ _ D.TOi1 (hs₁.extBut _ _ D.TOz hTO)
 refine qaW (wpAny_seqItems hTO₂ rfl ?_)
 refine qaW (wpAny_updateSeq_pair hTO₂ fun h₃ hTO₃ hs₃=> ?_)
 replace hTO₃:IsPair h₃ TO x b:=hTO₃
 refine qaW (wpAny_letGo (qaX ?_))
 refine qaW (qaW (wpAny_onRaise ?_))
 show wpAny _ _ (Builtin.SmallTypes.nextOf (.ref i2)>>=_) _ _ _
 refine qaW (zbt (((h2.extBut hs₁.extBut D.i2z).extBut hs₂.extBut D.i12.symm).extBut hs₃.extBut D.TOi2.symm)
   (((hl2.extBut hs₁.extBut D.l2z).extBut hs₂.extBut D.l2i1).extBut hs₃.extBut D.l2TO) hy fun h₄ h2₄ hs₄=>qaX ?_)
 have hTO₄:IsPair h₄ TO x b:=hs₄.extBut _ _ D.TOi2 hTO₃
 refine qaW (wpAny_seqItems hTO₄ rfl ?_)
 refine qaW (wpAny_updateSeq_pair hTO₄ fun h₅ hTO₅ hs₅=> ?_)
 replace hTO₅:IsPair h₅ TO x y:=hTO₅
 refine qaW (wpAny_letGo (qaX (qaX ?_)))
 refine qaW (wpAny_seqItems hTO₅ rfl ?_)
 refine qaW (wpAny_newTuple ?_)
 have hsz:h₅.objs.size=s.heap.objs.size:=by rw [hs₅.1,hs₄.1,hs₃.1,hs₂.1,hs₁.1]
 have hz₅:IsZip h₅ z TI TO .ellipsis:=hs₅.extBut _ _ D.TOz.symm (hs₄.extBut _ _ D.i2z.symm (hs₃.extBut _ _ D.TOz.symm (hs₂.extBut _ _ D.i1z.symm hz₁)))
 have hk₅: ∀ c o,c≠z->c≠TO->c≠i1->c≠i2->s.heap.get? c=some o->h₅.get? c=some o:=fun c o c1 c2 c3 c4 e=>
  hs₅.extBut _ _ c2 (hs₄.extBut _ _ c4 (hs₃.extBut _ _ c2 (hs₂.extBut _ _ c3 (hs₁.extBut _ _ c1 e))))
 have h1₅:h₅.IsTupleIter i1 l1 (k1+1):=((h1₂.extBut hs₃.extBut D.TOi1.symm).extBut hs₄.extBut D.i12).extBut hs₅.extBut D.TOi1.symm
 have h2₅:h₅.IsTupleIter i2 l2 (k2+1):=h2₄.extBut hs₅.extBut D.TOi2.symm
 have hzlt:z<h₅.objs.size:=qaQ hz₅
 have hTOlt:TO<h₅.objs.size:=qaQ hTO₅
 have hi1lt:i1<h₅.objs.size:=by obtain ⟨_,e,_⟩:=h1₅;exact qaQ e
 have hi2lt:i2<h₅.objs.size:=by obtain ⟨_,e,_⟩:=h2₅;exact qaQ e
 show wpAny _ _ (Builtin.SmallTypes.ownedTupleHandOut (.ref z) (.ref h₅.objs.size)>>=_) _ _ _
 refine qaW ?_
 unfold Builtin.SmallTypes.ownedTupleHandOut
 have hz₆:IsZip (h₅.push {cls:= .type "tuple",data:= .seq #[x,y]}) z TI TO .ellipsis:=qag _ hz₅
 refine qaW (wpAny_setField_rec hz₆ (by simp) fun h₇ hz₇ hs₇=> ?_)
 replace hz₇:IsZip h₇ z TI TO (rawInt h₅.objs.size):=hz₇
 refine wpAny_setField_rec hz₇ (by simp) fun h₈ hz₈ hs₈=> ?_
 replace hz₈:IsZip h₈ z TI TO (rawInt h₅.objs.size):=hz₈
 have up: ∀ c o,c≠z->h₅.get? c=some o->h₈.get? c=some o:=fun c o c1 e=>hs₈.extBut _ _ c1 (hs₇.extBut _ _ c1 (qag _ e))
 have hT₈:IsPair h₈ h₅.objs.size x y:=hs₈.extBut _ _ (Nat.ne_of_gt hzlt) (hs₇.extBut _ _ (Nat.ne_of_gt hzlt) (qar _ rfl))
 have hz8:h₈.objs.size=h₅.objs.size+1:=by rw [hs₈.1,hs₇.1,qaL]
 rw [hsz] at hz₈ hT₈ hz8
 refine qaX ⟨_,rfl,?_⟩
 show Q (.ref h₅.objs.size) _
 rw [hsz]
 exact hQ h₈ hz₈ (up _ _ D.TOz hTO₅) (h1₅.at fun o e=>up _ o D.i1z e) (h2₅.at fun o e=>up _ o D.i2z e) hT₈ hz8 fun c o c1 c2 c3 c4 e=>up c o c1 (hk₅ c o c1 c2 c3 c4 e)
theorem zfn {z TI TO i1 i2 l1 l2:Addr} {k1 k2:Nat} {xs ys:Array Value} {a b:Value} {Q:PySem.Fin->Shared->Prop} (hh:ziC A s.heap) (hf:z∉zcv A/\TO∉zcv A/\i1∉zcv A/\i2∉zcv A) (D:ZipApart z TI TO i1 i2 l1 l2)
  (hz:IsZip s.heap z TI TO .none) (hTI:IsPair s.heap TI (.ref i1) (.ref i2)) (hTO:IsPair s.heap TO a b)
  (h1:s.heap.IsTupleIter i1 l1 k1) (h2:s.heap.IsTupleIter i2 l2 k2) (hl1:s.heap.IsTuple l1 xs) (hl2:s.heap.IsTuple l2 ys) (hend:xs[k1]? = none\/ys[k2]? = none)
  (hE: ∀ h' e,(∀ c o,c≠z->c≠TO->c≠i1->c≠i2->s.heap.get? c=some o->h'.get? c=some o)->(∃ o,h'.get? e=some o/\o.cls= .type "StopIteration")->E (.ref e) {s with heap:=h'}):
  wpAny (model prog w) A (Builtin.«zip.__next__» ⟨[.ref z],[]⟩) Q E s:=by
 show wpAny _ _ (field (.ref z) 2>>=_) _ _ _
 refine qaW (wpAny_field hz rfl (x:= .bool false) rfl ?_)
 show wpAny _ _ (field (.ref z) 3>>=_) _ _ _
 refine qaW (wpAny_field hz rfl (x:= .ref TI) rfl ?_)
 refine qaW (wpAny_seqItems hTI rfl ?_)
 show wpAny _ _ (Builtin.SmallTypes.ownedTupleIsFree (.ref z)>>=_) _ _ _
 refine qaW ?_
 unfold Builtin.SmallTypes.ownedTupleIsFree
 refine qaW (wpAny_field hz rfl (x:= .none) rfl (qaX ?_))
 simp only [if_true]
 refine qaW (wpAny_rule ?_)
 refine qaW (wpAny_field hz rfl (x:= .ref TO) rfl ?_)
 refine qaW (wpAny_setField_rec hz (by simp) fun h₁ hz₁ hs₁=> ?_)
 replace hz₁:IsZip h₁ z TI TO .ellipsis:=hz₁
 refine qaW ?_
 simp only [List.zipIdx_cons,List.zipIdx_nil,List.forIn_cons,List.forIn_nil]
 refine qaW (qaW (wpAny_onRaise ?_))
 show wpAny _ _ (Builtin.SmallTypes.nextOf (.ref i1)>>=_) _ _ _
 cases hx:xs[k1]? with
 | none=>
  refine qaW (zcG (hh.keep fun b hb o e=>hs₁.extBut _ _ (fun z=>hf.1 (z▸hb)) e) (h1.extBut hs₁.extBut D.i1z) (hl1.extBut hs₁.extBut D.l1z) hx fun h₂ e hs₂ he=> ?_)
  obtain ⟨oe,hoe,hce⟩:=he
  have hz₂:IsZip h₂ z TI TO .ellipsis:=hs₂ _ _ D.i1z.symm hz₁
  have hez:e≠z:=fun x=>by subst x;rw [hz₂] at hoe;cases hoe;simp at hce
  refine wpAny_setField_rec hz₂ (by simp) fun h₃ _ hs₃=>hE h₃ e (fun c o c1 _ c3 _ x=>hs₃.extBut _ _ c1 (hs₂ _ _ c3 (hs₁.extBut _ _ c1 x))) ⟨oe,hs₃.extBut _ _ hez hoe,hce⟩
 | some x=>
  have hy:ys[k2]? = none:=by rcases hend with h | h;rw [hx] at h;cases h;exact h
  refine qaW (zbt (h1.extBut hs₁.extBut D.i1z) (hl1.extBut hs₁.extBut D.l1z) hx fun h₂ h1₂ hs₂=>qaX ?_)
  have hTO₂:IsPair h₂ TO a b:=hs₂.extBut _ _ D.TOi1 (hs₁.extBut _ _ D.TOz hTO)
  refine qaW (wpAny_seqItems hTO₂ rfl ?_)
  refine qaW (wpAny_updateSeq_pair hTO₂ fun h₃ hTO₃ hs₃=> ?_)
  refine qaW (wpAny_letGo (qaX ?_))
  refine qaW (qaW (wpAny_onRaise ?_))
  show wpAny _ _ (Builtin.SmallTypes.nextOf (.ref i2)>>=_) _ _ _
  refine qaW (zcG (hh.keep fun b hb o e=>hs₃.extBut _ _ (fun z=>hf.2.1 (z▸hb)) (hs₂.extBut _ _ (fun z=>hf.2.2.1 (z▸hb)) (hs₁.extBut _ _ (fun z=>hf.1 (z▸hb)) e))) (((h2.extBut hs₁.extBut D.i2z).extBut hs₂.extBut D.i12.symm).extBut hs₃.extBut D.TOi2.symm)
    (((hl2.extBut hs₁.extBut D.l2z).extBut hs₂.extBut D.l2i1).extBut hs₃.extBut D.l2TO) hy fun h₄ e hs₄ he=> ?_)
  obtain ⟨oe,hoe,hce⟩:=he
  have hz₄:IsZip h₄ z TI TO .ellipsis:=hs₄ _ _ D.i2z.symm (hs₃.extBut _ _ D.TOz.symm (hs₂.extBut _ _ D.i1z.symm hz₁))
  have hez:e≠z:=fun x=>by subst x;rw [hz₄] at hoe;cases hoe;simp at hce
  refine wpAny_setField_rec hz₄ (by simp) fun h₅ _ hs₅=>hE h₅ e (fun c o c1 c2 c3 c4 x=>hs₅.extBut _ _ c1 (hs₄ _ _ c4 (hs₃.extBut _ _ c2 (hs₂.extBut _ _ c3 (hs₁.extBut _ _ c1 x))))) ⟨oe,hs₅.extBut _ _ hez hoe,hce⟩
theorem zed {z TI TO i1 i2 l1 l2:Addr} {k1 k2:Nat} {xs ys:Array Value} {x y a b:Value} {Q:Option Value->Shared->Prop} (D:ZipApart z TI TO i1 i2 l1 l2)
  (hz:IsZip s.heap z TI TO .none) (hTI:IsPair s.heap TI (.ref i1) (.ref i2)) (hTO:IsPair s.heap TO a b)
  (h1:s.heap.IsTupleIter i1 l1 k1) (h2:s.heap.IsTupleIter i2 l2 k2) (hl1:s.heap.IsTuple l1 xs) (hl2:s.heap.IsTuple l2 ys) (hx:xs[k1]? = some x) (hy:ys[k2]? = some y)
  (hQ: ∀ h',IsZip h' z TI TO (rawInt s.heap.objs.size)->IsPair h' TO x y->h'.IsTupleIter i1 l1 (k1+1)->h'.IsTupleIter i2 l2 (k2+1)->IsPair h' s.heap.objs.size x y->h'.objs.size=s.heap.objs.size+1->
    (∀ c o,c≠z->c≠TO->c≠i1->c≠i2->s.heap.get? c=some o->h'.get? c=some o)->Q (some (.ref s.heap.objs.size)) {s with heap:=h'}):
  wpAny (model prog w) A (pyNext (.ref z)) Q E s:=by
 have hT:s.TypeIs (.ref z) "zip":=⟨_,hz,rfl⟩
 unfold pyNext
 exact qaW (wpAny_attempt (wpAny_callSpecial?_slot (name:=Str.ofString "__next__") hT F.slot_zip_next
   (wpAny_call_entry F.slot_zip_next hT F.entry_zip_next
     (zeY D hz hTI hTO h1 h2 hl1 hl2 hx hy fun h' a1 a2 a3 a4 a5 a6 a7=>qaX (hQ h' a1 a2 a3 a4 a5 a6 a7)) (F.args_zip_next_1 _))))
theorem zep {z TI TO i1 i2 l1 l2:Addr} {k1 k2:Nat} {xs ys:Array Value} {a b:Value} {Q:Option Value->Shared->Prop} (hh:ziC A s.heap) (hf:z∉zcv A/\TO∉zcv A/\i1∉zcv A/\i2∉zcv A) (D:ZipApart z TI TO i1 i2 l1 l2)
  (hz:IsZip s.heap z TI TO .none) (hTI:IsPair s.heap TI (.ref i1) (.ref i2)) (hTO:IsPair s.heap TO a b)
  (h1:s.heap.IsTupleIter i1 l1 k1) (h2:s.heap.IsTupleIter i2 l2 k2) (hl1:s.heap.IsTuple l1 xs) (hl2:s.heap.IsTuple l2 ys) (hend:xs[k1]? = none\/ys[k2]? = none)
  (hQ: ∀ h',(∀ c o,c≠z->c≠TO->c≠i1->c≠i2->s.heap.get? c=some o->h'.get? c=some o)->Q none {s with heap:=h'}):wpAny (model prog w) A (pyNext (.ref z)) Q E s:=by
 have hT:s.TypeIs (.ref z) "zip":=⟨_,hz,rfl⟩
 unfold pyNext
 refine qaW (wpAny_attempt (wpAny_callSpecial?_slot (name:=Str.ofString "__next__") hT F.slot_zip_next
   (wpAny_call_entry F.slot_zip_next hT F.entry_zip_next (zfn (A:=A.in1) hh hf D hz hTI hTO h1 h2 hl1 hl2 hend fun h' e hk he=> ?_) (F.args_zip_next_1 _))))
 obtain ⟨o,ho,hc⟩:=he
 refine qaW (wpAny_isInstance (T:="StopIteration") (b:=true) ⟨o,ho,hc⟩ isSubtype_stop ?_)
 exact qaX (hQ _ hk)
end
noncomputable abbrev zlJ (h:Heap) (l1:Addr):Heap:=h.push {cls:= .type "tuple_iterator",data:= .fields #[.ref l1,.int 0 0]}
noncomputable abbrev zlF (h:Heap) (l1 l2:Addr):Heap:=(zlJ h l1).push {cls:= .type "tuple_iterator",data:= .fields #[.ref l2,.int 0 0]}
noncomputable abbrev zlt (h:Heap) (l1 l2:Addr):Heap:=(zlF h l1 l2).push {cls:= .type "tuple",data:= .seq #[.ref h.objs.size,.ref (zlJ h l1).objs.size]}
noncomputable abbrev zl0 (h:Heap) (l1 l2:Addr):Heap:=(zlt h l1 l2).push {cls:= .type "tuple",data:= .seq #[.none,.none]}
noncomputable abbrev zg6 (h:Heap) (l1 l2:Addr):Heap:=(zl0 h l1 l2).push {cls:= .type "zip",data:= .fields #[.none,.bool false,.bool false,.ref (zlF h l1 l2).objs.size,.ref (zlt h l1 l2).objs.size]}
theorem ze0 (l1 l2:Addr) (xs ys:Array Value):
  Meets (Builtin.«zip.__new__» ⟨[.type "zip",.ref l1,.ref l2],[]⟩) (fun _ R s=>s.heap.IsTuple l1 xs/\s.heap.IsTuple l2 ys/\
    R (.ok (.ret (.ref (zl0 s.heap l1 l2).objs.size))) {s with heap:=zg6 s.heap l1 l2}):=
 .of_wp fun prog w A R s h=>by
  obtain ⟨hp,g,d,tk,os⟩:=s;obtain ⟨hl1,hl2,h⟩:=h
  have hsub:=sub_zip
  have hL1:Heap.IsTuple (Shared.heap ⟨hp,g,d,tk,os⟩) l1 xs:=hl1
  have hL2:Heap.IsTuple (Shared.heap ⟨hp.push {cls:= .type "tuple_iterator",data:= .fields #[.ref l1,.int 0 0]},g,d,tk,os⟩) l2 ys:=Heap.IsTuple.push hl2 _
  wp_walk using wpAny_pyIter_tuple hL1,wpAny_pyIter_tuple hL2
  exact ⟨_,rfl,h⟩
section
variable {prog:Program} {w:World} {A:Around} {E:Value->Shared->Prop} {s:Shared}
theorem ziA {l1 l2:Addr} {xs ys:Array Value} {Q:Value->Shared->Prop} (hl1:s.heap.IsTuple l1 xs) (hl2:s.heap.IsTuple l2 ys)
  (h: ∀ h',IsZip h' (s.heap.objs.size+4) (s.heap.objs.size+2) (s.heap.objs.size+3) .none->IsPair h' (s.heap.objs.size+2) (.ref s.heap.objs.size) (.ref (s.heap.objs.size+1))->
    IsPair h' (s.heap.objs.size+3) .none .none->h'.IsTupleIter s.heap.objs.size l1 0->h'.IsTupleIter (s.heap.objs.size+1) l2 0->h'.objs.size=s.heap.objs.size+5->
    (∀ c o,s.heap.get? c=some o->h'.get? c=some o)->Q (.ref (s.heap.objs.size+4)) {s with heap:=h'}):
  wpAny (model prog w) A (call (.type "zip") [.ref l1,.ref l2]) Q E s:=by
 refine callType_new F.called_zip (by decide) (F.typeCall_zip_2 _ _) (F.newCall_zip_2 _ _) (fun obj=>F.args_object_init_3 obj _ _) F.entry_zip_new
  (ze0 l1 l2 xs ys) ⟨hl1,hl2,?_⟩
 have z1:(zlJ s.heap l1).objs.size=s.heap.objs.size+1:=qaL ..
 have z2:(zlF s.heap l1 l2).objs.size=s.heap.objs.size+2:=by rw [qaL,z1]
 have z3:(zlt s.heap l1 l2).objs.size=s.heap.objs.size+3:=by rw [qaL,z2]
 have z4:(zl0 s.heap l1 l2).objs.size=s.heap.objs.size+4:=by rw [qaL,z3]
 have z5:(zg6 s.heap l1 l2).objs.size=s.heap.objs.size+5:=by rw [qaL,z4]
 have g5:(zg6 s.heap l1 l2).get? (zl0 s.heap l1 l2).objs.size=some _:=qar _ rfl
 have g4:(zg6 s.heap l1 l2).get? (zlt s.heap l1 l2).objs.size=some _:=qag _ (qar _ rfl)
 have g3:(zg6 s.heap l1 l2).get? (zlF s.heap l1 l2).objs.size=some _:=qag _ (qag _ (qar _ rfl))
 have g2:(zg6 s.heap l1 l2).get? (zlJ s.heap l1).objs.size=some _:=qag _ (qag _ (qag _ (qar _ rfl)))
 have g1:(zg6 s.heap l1 l2).get? s.heap.objs.size=some _:=qag _ (qag _ (qag _ (qag _ (qar _ rfl))))
 show _/\_
 rw [z2,z3,z4] at g5
 rw [z1,z2] at g3
 rw [z3] at g4
 rw [z1] at g2
 rw [z4]
 exact ⟨⟨_,g5,rfl⟩,h _ g5 g3 g4 ⟨_,g1,rfl,rfl⟩ ⟨_,g2,rfl,rfl⟩ z5 fun c o x=>
   qag _ (qag _ (qag _ (qag _ (qag _ x))))⟩
end
end L3
namespace L2
open PySem PySem.Spec PyProof.Rows
section
variable {X:Cx} {pins:List (Addr×Obj)} {σ:St} {H:Hp} {s:Shared} {h':Heap}
theorem Inv.turnedL {t':Nat} {ch:List Addr} (I:Inv X pins σ H s) (k: ∀ b o,b∉ch->s.heap.get? b=some o->h'.get? b=some o) (f: ∀ b∈ch,ziS X pins H b):Inv X pins σ H {s with heap:=h',toks:=t'}:=by
 have ne: ∀ b u,H b=some u->b∉ch:=fun b u q z=>by rw [(f b z).1] at q;cases q
 refine I.step (g':=s.gens) (d':=s.drawn) (ch:=ch) (fun b hb=> ?_) (fun b o _ _ hc q _=>k b o hc q) (fun b o _ _ hc q _=>⟨o.slots,k b o hc q⟩) (fun _ _ _ _ n=>n)
  (fun b o hc q=>⟨o,k b o hc q⟩) (fun _ _ q=>q) (fun _ _ _ q=>q) (fun b ps q=>⟨#[],by rw [q];simp⟩) (fun m hm=> ?_) (fun b u q=> ?_) I.bare
 ·obtain ⟨f0,f1,f2,f3,f4,f5⟩:=f b hb
  exact ⟨f3,f1,f4,f5⟩
 ·obtain ⟨o,es,ep,ho,r⟩:=hm
  exact ⟨o,es,ep,k _ o (fun z=>(f _ z).2.1 rfl) ho,r⟩
 ·refine (I.hok b u q).stay (fun c v hc q'=> ?_) (fun _ q=>q) fun _ _ q=>q
  rcases hc with z | z
  ·rw [z];exact k b v (ne b u q) (by rw [<- z];exact q')
  ·exact k c v (ne c _ z) q'
theorem zek {A:Around} {h:Heap} {b:Addr} {o:Obj} (hh:L3.ziC A h) (e:h.get? b=some o) (n: ∀ vs,o.data= .fields vs->vs[2]? ≠ some .none):b∉L3.zcv A:=fun z=>by
 rcases hh with q | ⟨ha,cls,head,q,ob,vs,x1,_,_,x4,x5,_⟩
 ·unfold L3.zcv at z;rw [q] at z;simp at z
 ·unfold L3.zcv at z
  rw [q] at z
  have:b=ha:=by simpa using z
  subst this
  rw [e] at x1
  cases x1
  exact n vs x4 x5
end
noncomputable def Itz (K:W.Frag) (a b:Addr):It:=
 ⟨fun i H=> ∃ xs ys x y,SqT K H a xs/\SqT K H b ys/\xs[i]? = some x/\ys[i]? = some y,
  fun i H x H'=> ∃ T u v,H T=none/\H'=upd H T (.tup [u,v])/\x= .ref T/\(∀ xs,SqT K H a xs->xs[i]? = some u)/\ ∀ ys,SqT K H b ys->ys[i]? = some v,
  fun i H=> ∃ xs ys,SqT K H a xs/\SqT K H b ys/\(xs.length=i\/ys.length=i)⟩
theorem zqt {n a b:Nat} (ha:a<n) (hb:b<n):ZipApart (n+4) (n+2) (n+3) n (n+1) a b:=by
 constructor<;>(show @Ne Nat _ _;omega)
def zsI (z TI TO i1 i2 a b:Addr) (i:Nat) (h:Heap):Prop:=IsZip h z TI TO .none/\IsPair h TI (.ref i1) (.ref i2)/\(∃ u v,IsPair h TO u v)/\h.IsTupleIter i1 a i/\h.IsTupleIter i2 b i
theorem zk6 {P:Program} {w:World} {K:W.Frag} {elts:List Expr} {k:Nat} {pos:Pos} (z TI TO i1 i2 a b:Addr) (D:ZipApart z TI TO i1 i2 a b):zoI P w K (.Tuple elts k pos) (Itz K a b) [z,TI,TO,i1,i2] z (zsI z TI TO i1 i2 a b) where
 mem:=by simp
 obj:=fun i h st c hc=>by
  obtain ⟨hz,hTI,⟨u,v,hTO⟩,⟨o1,ho1,hc1,hd1⟩,o2,ho2,hc2,hd2⟩:=st
  have q:c=z\/c=TI\/c=TO\/c=i1\/c=i2:=by simpa using hc
  rcases q with rfl | rfl | rfl | rfl | rfl
  ·exact ⟨_,hz,fun v z=>by cases z⟩
  ·exact ⟨_,hTI,fun v z=>by cases z⟩
  ·exact ⟨_,hTO,fun v z=>by cases z⟩
  ·exact ⟨o1,ho1,fun v z=>by rw [hd1] at z;cases z⟩
  ·exact ⟨o2,ho2,fun v z=>by rw [hd2] at z;cases z⟩
 keep:=fun i h h' st k=>by
  obtain ⟨hz,hTI,⟨u,v,hTO⟩,h1,h2⟩:=st
  exact ⟨k z (by simp) _ hz,k TI (by simp) _ hTI,⟨u,v,k TO (by simp) _ hTO⟩,h1.at fun o q=>k i1 (by simp) o q,h2.at fun o q=>k i2 (by simp) o q⟩
 item:=by
  intro X hP hw hK i pins s σ H E I hf st hg
  subst hP hw hK
  obtain ⟨xs,ys,x,y,hqx,hqy,hx,hy⟩:=hg
  obtain ⟨itx,rx,px,_⟩:=I.tuple hqx
  obtain ⟨ity,ry,py,_⟩:=I.tuple hqy
  obtain ⟨u,hu,ru⟩:=rx.get hx
  obtain ⟨v,hv,rv⟩:=ry.get hy
  obtain ⟨hz,hTI,⟨c,d,hTO⟩,h1,h2⟩:=st
  refine L3.zed D hz hTI hTO h1 h2 (show s.heap.IsTuple a itx.toArray from px) (show s.heap.IsTuple b ity.toArray from py) (x:=u) (y:=v) (by simpa using hu) (by simpa using hv) fun h' a1 a2 a3 a4 a5 a6 hk=> ?_
  refine ⟨_,rfl,wpAny_letOwnedTupleGo_zip a1 fun h2' b1 hs2=> ?_⟩
  have fresh:=I.hok.fresh (qaV s.heap.objs.size)
  have lt: ∀ {c o},s.heap.get? c=some o->c≠s.heap.objs.size:=fun e=>qaR (qaQ e)
  have lz:=lt hz
  have lTI:=lt hTI
  have lTO:=lt hTO
  have l1:i1≠s.heap.objs.size:=by obtain ⟨_,e,_⟩:=h1;exact lt e
  have l2:i2≠s.heap.objs.size:=by obtain ⟨_,e,_⟩:=h2;exact lt e
  have I1:Inv X pins σ (upd H s.heap.objs.size (.tup [x,y])) {s with heap:=s.heap.push {cls:= .type "tuple",data:= .seq #[u,v]},toks:=s.toks}:=
   I.laid (t':=s.toks) (fun b o q=>qag _ q) (qaV _) (show zbp X.prog X.w _ _ _ (.tup [x,y]) from ⟨by show 2<=sizeLine;decide,[u,v],.cons ru (.cons rv .nil),IsTup.new _ _⟩)
  have fp: ∀ c∈[z,TI,TO,i1,i2],ziS X pins (upd H s.heap.objs.size (.tup [x,y])) c:=fun c hc=>by
   have hcn:c≠s.heap.objs.size:=by
    have q:c=z\/c=TI\/c=TO\/c=i1\/c=i2:=by simpa using hc
    rcases q with rfl | rfl | rfl | rfl | rfl<;>assumption
   exact ⟨by rw [zaw hcn];exact (hf c hc).1,(hf c hc).2⟩
  have I2:Inv X pins σ (upd H s.heap.objs.size (.tup [x,y])) {s with heap:=h',toks:=s.toks}:=I1.turnedL (t':=s.toks) (h':=h') (fun b o hb q=>by
    rcases Heap.get?_push_cases q with ⟨z1,z2⟩ | q'
    · rw [z1,z2];exact a5
    · exact hk b o (fun e=>hb (by simp [e])) (fun e=>hb (by simp [e])) (fun e=>hb (by simp [e])) (fun e=>hb (by simp [e])) q') fp
  have I3:Inv X pins σ (upd H s.heap.objs.size (.tup [x,y])) {s with heap:=h2',toks:=s.toks}:=I2.turnedL (s:={s with heap:=h',toks:=s.toks}) (h':=h2') (t':=s.toks) (ch:=[z]) (fun b o hb q=>(hs2.2 b (fun e=>hb (by simp [e]))).trans q) (fun b hb=>fp b (by simp at hb;simp [hb]))
  refine ⟨.ref s.heap.objs.size,_,I3,rfl,⟨s.heap.objs.size,x,y,fresh,rfl,rfl,fun xs' hx'=>by rw [I.tuple_inj hx' hqx];exact hx,fun ys' hy'=>by rw [I.tuple_inj hy' hqy];exact hy⟩,
    ⟨b1,hs2.extBut _ _ D.TIz (hk _ _ D.TIz D.TITO D.TIi1 D.TIi2 hTI),⟨u,v,hs2.extBut _ _ D.TOz a2⟩,a3.extBut hs2.extBut D.i1z,a4.extBut hs2.extBut D.i2z⟩,fun c hc=>(fp c hc).1⟩
 done:=by
  intro X hP hw hK i pins s σ H E I hf st hg
  subst hP hw hK
  obtain ⟨xs,ys,hqx,hqy,hn⟩:=hg
  obtain ⟨itx,rx,px,_⟩:=I.tuple hqx
  obtain ⟨ity,ry,py,_⟩:=I.tuple hqy
  obtain ⟨hz,hTI,⟨c,d,hTO⟩,h1,h2⟩:=st
  have hnd:itx.toArray[i]? = none\/ity.toArray[i]? = none:=by
   have e1:=rx.length
   have e2:=ry.length
   rcases hn with q | q
   ·left;simp;omega
   ·right;simp;omega
  obtain ⟨o1,ho1,_,hd1⟩:=id h1
  obtain ⟨o2,ho2,_,hd2⟩:=id h2
  refine L3.zep I.hand ⟨zek I.hand hz (fun vs e=>by cases e;simp),zek I.hand hTO (fun vs e=>by cases e),zek I.hand ho1 (fun vs e=>by rw [hd1] at e;cases e;simp),zek I.hand ho2 (fun vs e=>by rw [hd2] at e;cases e;simp)⟩ D hz hTI hTO h1 h2
   (show s.heap.IsTuple a itx.toArray from px) (show s.heap.IsTuple b ity.toArray from py) hnd fun h' hk=>⟨rfl,I.turnedL (t':=s.toks) (ch:=[z,TO,i1,i2]) (fun b o hb q=>hk b o (fun e=>hb (by simp [e])) (fun e=>hb (by simp [e])) (fun e=>hb (by simp [e])) (fun e=>hb (by simp [e])) q) fun b hb=>hf b (by simp at hb ⊢; rcases hb with e | e | e | e<;>simp [e])⟩
 self:=fun _ _ _ _ _ st h=>wpAny_pyIter_zip st.1 h
section
variable {X:Cx} {elts:List Expr} {k:Nat} {tpos:Pos}
noncomputable def zrF (K:W.Frag) (ta:TA):TI:=fun σ H R=>ta σ H fun vs H1=> ∃ a b,vs=[.ref a,.ref b]/\(∃ xs,SqT K H1 a xs)/\(∃ ys,SqT K H1 b ys)/\R (Itz K a b) H1
theorem zqN {l m:Expr} {ta:TA} {p pos:Pos} (hg:Gl X "zip") (hm:X.mg "zip"=none) (ha:PA X [l,m] ta) (hs1:starEach [l,m] X.env=(false,eval l X.env)::starEach [m] X.env:=by rfl) (hs2:starEach [m] X.env=[(false,eval m X.env)]:=by rfl):
  PI X (.Tuple elts k tpos) (.Call (.Name "zip" p) [l,m] [] pos) (zrF X.K ta):=by
 intro pins s σ H R I h
 refine Call_ (zgG I hg hm PyProof.Rows.boot_zip (PyProof.Rows.callWith_type1 (thn (ha pos pins s σ H _ I h) fun us s1 ⟨vs,H1,I1,r1,q1⟩=> ?_) hs1 (by rw [hs2];rfl)))
 obtain ⟨a,b,e,⟨xs,hqx⟩,⟨ys,hqy⟩,q⟩:=q1
 subst e
 cases r1 with
 | cons r rr=>
  cases rr with
  | cons r' rr=>
  cases rr
  cases r
  cases r'
  obtain ⟨itx,rx,px,_⟩:=I1.tuple hqx
  obtain ⟨ity,ry,py,_⟩:=I1.tuple hqy
  have la:a<s1.heap.objs.size:=by obtain ⟨_,e,_⟩:=px;exact qaQ e
  have lb:b<s1.heap.objs.size:=by obtain ⟨_,e,_⟩:=py;exact qaQ e
  refine L3.ziA (show s1.heap.IsTuple a itx.toArray from px) (show s1.heap.IsTuple b ity.toArray from py) fun h' hz hTI hTO h1 h2 hsz kp=> ?_
  refine wpAny_pyIter_zip hz ?_
  refine ⟨s1.heap.objs.size+4,[s1.heap.objs.size+4,s1.heap.objs.size+2,s1.heap.objs.size+3,s1.heap.objs.size,s1.heap.objs.size+1],_,_,H1,rfl,I1.kept (t':=s1.toks) kp,
    zk6 _ _ _ _ _ a b (zqt la lb),⟨hz,hTI,⟨_,_,hTO⟩,h1,h2⟩,fun c hc=> ?_,q⟩
  have q:s1.heap.objs.size<=c:=by
   have z:c=s1.heap.objs.size+4\/c=s1.heap.objs.size+2\/c=s1.heap.objs.size+3\/c=s1.heap.objs.size\/c=s1.heap.objs.size+1:=by simpa using hc
   rcases z with e | e | e | e | e<;>rw [e]
   ·exact Nat.le_add_right _ 4
   ·exact Nat.le_add_right _ 2
   ·exact Nat.le_add_right _ 3
   ·exact qaV _
   ·exact Nat.le_add_right _ 1
  exact I1.fpOk q (I1.hok.fresh q)
end
end L2
namespace L3
open PySem PySem.Spec PyProof.Rows L2
section
variable {X:Cx} {E:XE} {elts:List Expr} {k:Nat} {tpos pos:Pos}
noncomputable def zjJ (ds es:List D):List D:=(ds.zip es).map fun p=> .tup [p.1,p.2]
theorem zln {K:W.Frag} {ι:Io} {H:Hp} {a b:Addr} {vs us:List V} {ds es:List D} (h: ∀ ι' H',Pass ι H ι' H'->SqT K H' a vs) (g: ∀ ι' H',Pass ι H ι' H'->SqT K H' b us) (rl:zaq K ι H ds vs) (rm:zaq K ι H es us):zoM K ι H (Itz K a b) (zjJ ds es) where
 go:=fun ι' H' i s hi=>by
  have hi:i<ds.length/\i<es.length:=by simp [zjJ] at hi;omega
  obtain ⟨v,ev,_⟩:=zaq.get rl (i:=i) (d:=ds[i]) (by simp [hi])
  obtain ⟨u,eu,_⟩:=zaq.get rm (i:=i) (d:=es[i]) (by simp [hi])
  exact ⟨vs,us,v,u,h ι' H' s,g ι' H' s,ev,eu⟩
 yld:=fun ι' H' _ i x H2 s hr hi ⟨T,y,y2,hT,e,e2,hy,hy2⟩=>by
  subst e e2
  have hi:i<ds.length/\i<es.length:=by simp [zjJ] at hi;omega
  obtain ⟨v,ev,rv⟩:=zaq.get rl (i:=i) (d:=ds[i]) (by simp [hi])
  obtain ⟨u,eu,ru⟩:=zaq.get rm (i:=i) (d:=es[i]) (by simp [hi])
  have ey:=hy vs (h ι' H' s)
  rw [ev] at ey
  cases ey
  have ez:=hy2 us (g ι' H' s)
  rw [eu] at ez
  cases ez
  refine ⟨.inr ⟨T,_,hT,rfl⟩,.tup [ds[i],es[i]],by simp [zjJ,List.getElem?_zip_eq_some,hi],?_⟩
  obtain ⟨st,hr2⟩:=zrw.step (.inr ⟨T,[y,y2],hT,rfl⟩) hr
  have rv2:Rel K ι' (upd H' T (.tup [y,y2])) ds[i] y:=(rv.pass s).step st
  have ru2:Rel K ι' (upd H' T (.tup [y,y2])) es[i] y2:=(ru.pass s).step st
  simp only [Rel]
  exact ⟨T,_,rfl,⟨zaU,hr.nin hT⟩,zaq.cons rv2 (zaq.cons ru2 zaq.nil)⟩
 stop:=fun ι' H' s=>⟨vs,us,h ι' H' s,g ι' H' s,by rw [<- rl.length, <-rm.length];simp [zjJ];omega⟩
noncomputable def zrp:List D->M (List D)
 | [.tup ds,.tup es]=>pure (zjJ ds es)
 | _=>M.bad
noncomputable def zjs (fs:FA):FA:=fun sd=>do let ds<-fs sd;zrp ds
theorem zlx {l m:Expr} {fs:FA} {p:Pos} (hm:X.mg "zip"=none) (ha:SA X E [l,m] fs) (hg:Gl X "zip":=by rfl) (hs1:starEach [l,m] X.env=(false,eval l X.env)::starEach [m] X.env:=by rfl) (hs2:starEach [m] X.env=[(false,eval m X.env)]:=by rfl):
  SI X E (.Tuple elts k tpos) (.Call (.Name "zip" p) [l,m] [] pos) (zjs fs):=by
 refine PI.imp (zqN hg hm ha hs1 hs2) fun σ H Q ⟨ι,h,sd,L,hh,q⟩=>⟨ι,h,sd,L,hh,Fin.bind q fun ds h1 ι1 H1 e1 s1 hr1 q1 vs rv=> ?_⟩
 unfold zrp at q1
 split at q1
 ·rename_i ds es
  unfold zaq at rv
  obtain ⟨v,r,e1,r1,rv⟩:=rv
  unfold zaq at rv
  obtain ⟨v',r',e2,r2,rv⟩:=rv
  unfold zaq at rv
  subst rv e2 e1
  obtain ⟨a,vs,e,g1,g2⟩:=zhj r1
  obtain ⟨b,us,e',g3,g4⟩:=zhj r2
  exact ⟨a,b,by rw [e,e'],⟨vs,g1 _ _ (Pass.refl _ _)⟩,⟨us,g3 _ _ (Pass.refl _ _)⟩,Fin.out hr1 q1 _ (zln g1 g3 g2 g4)⟩
 ·exact qa0 q1
end
end L3
namespace L2
open PySem PySem.Spec PyProof.Rows
section
variable {X:Cx}
theorem ziG (t:Tok) (l:Addr) (items:Array Value) (n:Nat) (dd:Option Addr) (sl:Array (Option Value)) (he:items.isEmpty=false):
  Meets (Builtin.«tuple.__mul__» ⟨[.ref l,.int 0 t],[]⟩) (fun _ R s=>s.heap.get? l=some {cls:= .type "tuple",dict:=dd,data:= .seq items n,slots:=sl}/\
    R (.ok (.ret (.ref s.heap.objs.size))) {s with heap:=s.heap.push {cls:= .type "tuple",data:= .seq #[]}}):=
 .of_wp fun prog w A R s h=>by
  obtain ⟨hp,g,d,tk,os⟩:=s;obtain ⟨hl,h⟩:=h
  unfold Builtin.«tuple.__mul__»
  wp_walk
  exact ⟨_,rfl,h⟩
theorem zk3:OpR X (binaryOp .Mult) (fun x y H Q=> ∃ a xs,x= .ref a/\y= .int 0/\SqT X.K H a xs/\xs≠[]/\ ∀ p,H p=none->Q (.ref p) (upd H p (.tup []))):=by
 intro pins s σ H x y v u Q I rx ry h
 obtain ⟨a,xs,rfl,rfl,hx,hne,q⟩:=h
 cases rx
 obtain ⟨t,rfl⟩:=ry
 obtain ⟨its,r,ht,_⟩:=I.tuple hx
 obtain ⟨⟨cls,dd,data,sl⟩,ho,hc,n,hd⟩:=id ht
 simp only at hc hd
 subst hc hd
 have hemp:its.toArray.isEmpty=false:=by
  cases its with
  | nil=>cases r;exact absurd rfl hne
  | cons _ _=>simp
 refine wpAny_binaryOp_repeat_ref (T:="tuple") (U:="int") (by decide) ⟨_,ho,rfl⟩ (fun s'=>typeIs_int s' 0 t) zbG F.fills_int_mul F.slot_int_rmul zc0 F.slot_int_index.lookup
  (call_meets F.slot_int_rmul (typeIs_int s 0 t) F.entry_int_rmul (F.args_int_rmul_2 _ _) (zcd 0 t a its.toArray n dd sl)
    ⟨ho,rfl,⟨_,ho,rfl⟩,call_meets F.slot_tuple_mul ⟨_,ho,rfl⟩ F.entry_tuple_mul (F.args_tuple_mul_2 _ _) (ziG t a its.toArray n dd sl hemp) ⟨ho,?_⟩⟩)
 exact ⟨.ref _,_,I.laid (t':=s.toks) (o:= .tup []) (fun b ob q=>qag _ q) (qaV _) (show zbp X.prog X.w _ _ _ (.tup []) from ⟨by show 0<=sizeLine;decide,[],.nil,IsTup.new _ _⟩),rfl,q _ (I.hok.fresh (qaV _))⟩
end
end L2
namespace L3
open PySem PySem.Spec PyProof.Rows L2
section
variable {X:L2.Cx} {E:XE}
noncomputable def zjc (x y:D):M D:=match x,y with
 | .tup xs,.int k=>if k=0 then (if xs≠[] then pure (.tup []) else M.bad) else zkX (.tup xs) (.int k)
 | _,_=>M.bad
theorem zjL:OpR X (binaryOp .Mult) (zdb X.K E zjc):=by
 refine OpR.imp (zk3.or (zoC (E:=E))) fun x y H Q ⟨ι,h,d1,d2,r1,r2,hr,q⟩=> ?_
 unfold zjc at q
 split at q
 ·rename_i xs k
  by_cases hk:k=0
  ·subst hk
   rw [qa4 rfl] at q
   simp only [Rel] at r2
   obtain ⟨a,vs,e,k1,k2⟩:=zcu r1
   obtain ⟨c1,q⟩:=Fin.guard q
   refine .inl ⟨a,vs,e,r2,k1,fun z=>c1 ?_,fun p hp=>zmL hr zaq.nil q hp⟩
   subst z
   exact List.eq_nil_of_length_eq_zero k2.length
  ·rw [qa5 hk] at q
   exact .inr ⟨ι,h,_,_,r1,r2,hr,q⟩
 ·exact qa0 q
end
open LT
def Gro (h h':Hh):Prop:= ∃ t,h'=h++t
theorem Gro.refl {h:Hh}:Gro h h:=⟨[],by simp⟩
theorem Gro.trans {h h1 h2:Hh} (a:Gro h h1) (b:Gro h1 h2):Gro h h2:=by
 obtain ⟨t,rfl⟩:=a
 obtain ⟨u,rfl⟩:=b
 exact ⟨t++u,by simp⟩
theorem Gro.get {h h':Hh} {n:Nat} {c:C} (g:Gro h h') (e:h[n]? = some c):h'[n]? = some c:=by
 obtain ⟨t,rfl⟩:=g
 rw [qad (qac.mp e).1]
 exact e
theorem Gro.ext {b:Nat} {h h':Hh} (q:Bx b h) (g:Gro h h'):Ext b h h':=by
 obtain ⟨z,e⟩:=q
 exact ⟨⟨z,g.get e⟩,fun n c _ e=>g.get e⟩
def Ev {α:Type} (m:M α) (a:α):Prop:= ∀ h, ∃ h',m h= .ok a h'/\Gro h h'
section
variable {α β:Type} {m:M α} {a:α} {f:α->M β} {b:β} {h:Hh} {P:α->Hh->Prop}
theorem Ev.pure:Ev (Pure.pure a:M α) a:=fun h=>⟨h,rfl,.refl⟩
theorem Ev.of (e:m=Pure.pure a):Ev m a:=e▸ .pure
theorem Ev.bind (x:Ev m a) (y:Ev (f a) b):Ev (m>>=f) b:=fun h=>by
 obtain ⟨h1,e1,g1⟩:=x h
 obtain ⟨h2,e2,g2⟩:=y h1
 refine ⟨h2,?_,g1.trans g2⟩
 show M.bind m f h=_
 unfold M.bind
 rw [e1]
 exact e2
theorem Ev.wp (x:Ev m a) (k: ∀ h',Gro h h'->P a h'):wp m h P:=by
 obtain ⟨h1,e1,g1⟩:=x h
 exact ⟨a,h1,e1,k h1 g1⟩
theorem Ev.of_wp (x: ∀ h,L3.wp m h fun r h'=>r=a/\Gro h h'):Ev m a:=fun h=>by
 obtain ⟨r,h1,e1,rfl,g⟩:=x h
 exact ⟨h1,e1,g⟩
theorem Ev.noX (x:Ev m a):Ev (L3.noX m) a:=fun h=>by
 obtain ⟨h1,e1,g1⟩:=x h
 refine ⟨h1,?_,g1⟩
 unfold L3.noX
 rw [e1]
end
@[simp] theorem zls {α:Type} {a:α}:noX (pure a:M α)=pure a:=rfl
noncomputable def zeA {α:Type} (c:String):M α:=fun h=> .exc c h
@[simp] theorem ziI {α β:Type} {c:String} {f:α->M β}:((zeA c:M α)>>=f)=zeA c:=rfl
@[simp] theorem zl3 {c:String} {sd:Sd}:zhD c sd=zeA c:=rfl
theorem ziX {names:List String} {gb:FS} {F:List D->M D} {sd:Sd} {o:Out} (e:gb sd=pure o):zgW names gb F sd=pure o:=by
 funext h
 unfold zgW
 rw [e]
 rfl
theorem ziu {names:List String} {gb:FS} {F:List D->M D} {sd:Sd} {c:String} {d:D} (e:gb sd=zeA c) (hc:names.contains c=true) (ek:F [.exn c]=pure d):zgW names gb F sd=pure (.rt d):=by
 funext h
 unfold zgW
 rw [e]
 show (if names.contains c=true then (do let d<-noX (F [.exn c]);pure (.rt d):M Out) h else .bad)=_
 rw [qa4 hc,ek]
 rfl
theorem zp8 {n:Nat} {Fs:List (List D->M D)} {fi:FE} {fs:FA} {sd:Sd}:zrW n Fs fi fs sd=(do let i<-fi sd;let F<-zoX Fs i;let ds<-fs sd;zav n F ds):=rfl
noncomputable def tI (xs:List Int):D:= .tup (xs.map D.int)
noncomputable def zdp (o:List Int×Int):D:= .tup [tI o.1,.int o.2]
noncomputable def zcn (m:Int) (os:List (List Int×Int)):D:= .tup [.int m,.tup (os.map zdp)]
structure Stk (m:Int) (os:List (List Int×Int)):Prop where
 m0:1<=m
 m1:m<=10
 len:os.length<=12
 up: ∀ o∈os,o.1.Pairwise (· < ·)
 bd: ∀ o∈os, ∀ x∈o.1,0<=x/\x<m
 ne: ∀ o∈os,o.1≠[]
 pos: ∀ o∈os,0<o.2
theorem Stk.olen {m:Int} {os:List (List Int×Int)} (s:Stk m os): ∀ o∈os,o.1.length<=10:=fun o ho=>by
 have h:=zej (m:=m) (ts:=o.1.map D.int) (l:=0) (zbB.mpr ⟨s.up o ho,fun x hx=>s.bd o ho x hx⟩) (by have:=s.m0;omega)
 rw [qaH] at h
 have:=s.m1
 omega
theorem zjt {fo fe:FE} {sd:Sd}:zoD fo fe sd=(do let x<-fo sd;zdd x;let y<-fe sd;zgX x y):=rfl
theorem zoq {n:Nat}:zdd (.cel n)=(do let _<-zal n;pure ()):=rfl
theorem zk0 {n:Nat} {zs:List D}:zgX (.cel n) (.tup zs)=(do let ds<-zal n;fits (ds.length+zs.length);zbk n (ds++zs);pure .non):=rfl
theorem zqu {xs:List Int} {m:Int} (m0:0<=m) (h:xs.Pairwise (· < ·)) (b: ∀ x∈xs,0<=x/\x<m):(xs.length:Int)<=m:=by
 have:=zej (m:=m) (ts:=xs.map D.int) (l:=0) (zbB.mpr ⟨h,b⟩) m0
 rw [qaH] at this
 omega
theorem zrk: ∀ {xs ys:List Int},xs.Pairwise (· < ·)->ys.Pairwise (· < ·)->(∀ k,k∈xs↔k∈ys)->xs=ys:=by
 intro xs ys hx hy hm
 have nx:xs.Nodup:=hx.imp fun z=>by omega
 have ny:ys.Nodup:=hy.imp fun z=>by omega
 have p:List.Perm xs ys:=(List.perm_ext_iff_of_nodup nx ny).mpr hm
 exact (zeo p (hx.imp fun z=>by omega)).trans (zeo (List.Perm.refl ys) (hy.imp fun z=>by omega)).symm
theorem zmj {x y:D} {a b:PyData} (e1:pd x=some a) (e2:pd y=some b) (h:zgf a b=true):dEq x y=pure (.bl (PyData.eqv a b)):=by
 show ziP false x y=_
 unfold ziP
 rw [e1,e2]
 simp only [h,if_true]
 rfl
theorem znX (xs:List Int):pd (tI xs)=some (.tuple (xs.map PyData.int)):=by unfold tI pd;rw [zdz];rfl
theorem zmP (xs ys:List Int):dEq (tI xs) (tI ys)=pure (.bl (xs==ys)):=by
 rw [zmj (znX xs) (znX ys) (by unfold zgf;simp [PyData.canLay0,zbw,PyData.depth,zcq])]
 simp only [PyData.eqv,zhu]
def gk (d:D):Prop:=kn d=true/\ ∀ ds,d= .tup ds->ds.length<64/\ ∀ x∈ds,kn x=true
theorem zop {os:List (List Int×Int)} {i:Int} (h0:0<=i) (h1:i<os.length):atI (os.map zdp) i=some (zdp (os.getD i.toNat ([],0))):=by
 have hl:i.toNat<os.length:=by omega
 have:=zdR (xs:=os.map zdp) (j:=i.toNat) (v:=zdp (os.getD i.toNat ([],0))) (by simp [hl,List.getD])
 rw [<- this]
 congr 1
 omega
noncomputable def zcJ (os:List (List Int×Int)) (ls:List Int):List (List Int×Int):=ls.map fun i=>os.getD i.toNat ([],0)
theorem zgK {os:List (List Int×Int)} {ls:List Int} (b: ∀ x∈ls,0<=x/\x<os.length): ∀ o∈zcJ os ls,o∈os:=fun o ho=>by
 obtain ⟨i,hi,rfl⟩:=qaU.mp ho
 have:=b i hi
 have hl:i.toNat<os.length:=by omega
 simp [List.getD,hl]
theorem zhq (k:Int) (xs:List Int):zi1 (.int k) (.lst (xs.map D.int))=pure (.bl (!xs.any (· == k))):=by
 show zmV true (.int k) (.lst (xs.map D.int))=_
 unfold zmV
 simp only [pd]
 rw [zdz]
 have c:zlK (.int k) (xs.map PyData.int)=true:=by
  unfold zlK
  simp [PyData.canLay0,zbw,PyData.depth,zcq]
 simp only [c,if_true,zfC]
theorem zgV {xs:List Int} (h:xs.length<64):zdU [.lst (xs.map D.int)]=pure (.lst ((zbu xs).map D.int)):=by
 show (do let ns<-ofO (zd2 (xs.map D.int));if ns.length<64 then pure (.lst ((zbu ns).map D.int)) else M.bad:M D)=_
 rw [zbY]
 show (if xs.length<64 then (pure (.lst ((zbu xs).map D.int)):M D) else M.bad)=_
 rw [qa4 h]
theorem zd0 {xs:List Int} (h:xs.Nodup):(zbu xs).Pairwise (· < ·):=by
 have h1:=zc4 xs
 have h2:(zbu xs).Nodup:=(zay xs).nodup_iff.mpr h
 exact (List.pairwise_and_iff.mpr ⟨h1,h2⟩).imp fun z=>by have:=z.1;have:=z.2;omega
theorem zgS {xs ys:List Int} (h:xs.Nodup) (hm: ∀ k,k∈xs↔k∈ys):zbu xs=zey ys:=zrk (zd0 h) (zfA ys) fun k=>by rw [(zay xs).mem_iff,zc6,hm]
theorem zdt {xs:List Int} {m:Int} (m0:0<=m) (h:xs.Nodup) (b: ∀ x∈xs,0<=x/\x<m):(xs.length:Int)<=m:=by
 rw [<- (zay xs).length_eq]
 exact zqu m0 (zd0 h) fun x hx=>b x ((zay xs).mem_iff.mp hx)
theorem zcj {p:Int->Bool} {k:D->Option D} (e: ∀ i:Int,k (.int i)=if p i=true then some (.int i) else none): ∀ xs:List Int,(xs.map D.int).filterMap k=(xs.filter p).map D.int
 | []=>rfl
 | x::r=>by
  rw [qaM,qat,e,List.filter_cons,zcj e r]
  cases p x<;>simp
theorem zhe {xs:List D} {t:Int} (t0:0<=t) (t1:t<(xs.length:Int)): ∃ d,atI xs t=some d/\d∈xs:=by
 have ht:t.toNat<xs.length:=by omega
 refine ⟨xs[t.toNat],?_,List.getElem_mem ht⟩
 have:=zdR (xs:=xs) (j:=t.toNat) (v:=xs[t.toNat]) (by simp [ht])
 rw [<- this]
 congr 1
 omega
theorem zkx {xs:List D} {t:Int} {h:Hh} {P:D->Hh->Prop} (t0:0<=t) (t1:t<(xs.length:Int)) (k: ∀ d∈xs,P d h):wp (ofO (atI xs t)) h P:=by
 obtain ⟨d,ed,hd⟩:=zhe t0 t1
 rw [ed,zdX,zak]
 exact k d hd
theorem zrY {i j:Int}:znk [.int i,.int j]=pure (.int (if j<i then j else i)):=rfl
theorem zsu {i j:Int}:znZ [.int i,.int j]=pure (.int (if j>i then j else i)):=rfl
theorem zlq (xs:List Int):dNe (tI xs) (.tup [])=pure (.bl (!xs.isEmpty)):=by
 show ziP true _ _=_
 unfold ziP
 rw [znX xs,show pd (.tup [])=some (.tuple []) from rfl]
 have c:zgf (.tuple (xs.map PyData.int)) (.tuple [])=true:=by
  unfold zgf
  simp [PyData.canLay0,PyData.canLayAll0,zbw,PyData.depth,PyData.depthAll,zcq]
 simp only [c,if_true,PyData.eqv]
 cases xs<;>rfl
theorem zf9 (n:Nat):((List.range n).map fun (k:Nat)=>(k:Int)).Pairwise (· < ·):=by
 rw [List.pairwise_map]
 exact List.pairwise_lt_range.imp fun z=>by omega
theorem zdy {n:Nat}: ∀ x∈(List.range n).map fun (k:Nat)=>(k:Int),0<=x/\x<n:=fun x hx=>by
 obtain ⟨k,hk,rfl⟩:=qaU.mp hx
 have:=List.mem_range.mp hk
 omega
def EvX {α:Type} (m:M α) (c:String):Prop:= ∀ h, ∃ h',m h= .exc c h'/\Gro h h'
section
variable {α β:Type} {m:M α} {a:α} {f:α->M β} {c:String}
theorem EvX.raise:EvX (zeA c:M α) c:=fun h=>⟨h,rfl,.refl⟩
theorem EvX.of (e:m=zeA c):EvX m c:=e▸ .raise
theorem EvX.left (x:EvX m c):EvX (m>>=f) c:=fun h=>by
 obtain ⟨h1,e1,g1⟩:=x h
 refine ⟨h1,?_,g1⟩
 show M.bind m f h=_
 unfold M.bind
 rw [e1]
end
theorem zo2 {g:FS} {sd:Sd}:ztw g sd=noX (g sd):=rfl
theorem zp0 {g:FE} {sd:Sd}:zts g sd=noX (g sd):=rfl
theorem zk4 (xs:List D) {k:Int} (h:0<=k):L3.zkh xs none (some k)=xs.take k.toNat:=by
 have e:=HT.zje xs.length xs.length k.toNat
 rw [Int.toNat_of_nonneg h] at e
 unfold L3.zkh
 have e0:HT.sIx xs.length 0 none=0:=rfl
 rw [e0,e]
 simp
theorem zia (xs:List D) {k:Int} (h:0<=k):L3.zkh xs (some k) none=xs.drop k.toNat:=by
 have e:=HT.zje xs.length 0 k.toNat
 rw [Int.toNat_of_nonneg h] at e
 unfold L3.zkh
 have e0:HT.sIx xs.length xs.length none=xs.length:=rfl
 rw [e0,e]
 by_cases hk:k.toNat<=xs.length
 ·rw [Nat.min_eq_left hk,List.take_of_length_le (by rw [List.length_drop];omega)]
 ·rw [Nat.min_eq_right (by omega),List.drop_eq_nil_of_le (show xs.length<=k.toNat by omega)]
  simp
end L3
namespace K32
open PySem PySem.Spec PyProof.Rows L2 L3
noncomputable def zb7:List String:=["NoStock","NoOffer","NoThing","NoCover","NoPaper","NoNumber","NotFull","NotInRow","NoText","NoRow","TooMany"]
noncomputable def G_24:FS:=zat (sIf (zeg dLt (zaf 1) (zaH zem (zab (zaf 0) zan))) (zbO (cOp dIx (zaf 0) (zaf 1))) zfD) (zbO (cOp zcY (cOp ziQ (cK (.int 6151)) (zaf 1)) (cK (.int 29))))
noncomputable def F_24:List D->M D:=zc1 2 G_24
theorem d_24 (x0 x1:D):F_24 [x0,x1]=(do let o<-G_24 [some x0,some x1];zcV o):=rfl
noncomputable def zcZ:FS:=zat (zbA 4 (cOp zlM (cOp zcY (cOp zcY (cOp zcY (cOp ziQ (zaf 4) (cK (.int 48271))) (cOp ziQ (cOp ziQ (cK (.int 7)) (zaf 5)) (zaf 5))) (cOp ziQ (cK (.int 11)) (zaf 1))) (cK (.int 1))) (cK (.int 2147483647)))) (zbA 3 (cOp zcY (cOp ziQ (zaf 3) (cK (.int 2147483647))) (zaf 4)))
noncomputable def G_25:FS:=zat (zbA 2 (zaH (zav 2 F_24) (zab (zaf 0) (zab (zaf 1) zan)))) (zat (sIf (zeg dEq (cOp zlM (zaf 2) (cK (.int 2))) (cK (.int 0))) (zbO (zix (zab (cOp zlC (zaf 2) (cK (.int 2))) zan))) zfD) (zat (zbA 3 (cK (.int 0))) (zat (zbA 4 (cOp zlM (zaf 2) (cK (.int 2147483647)))) (zat (zkL (zgR (zab (cK (.int 24)) zan)) (zaW 5) zcZ) (zbO (zix (zab (zaf 3) zan)))))))
noncomputable def F_25:List D->M D:=zc1 6 G_25
theorem d_25 (x0 x1:D):F_25 [x0,x1]=(do let o<-G_25 [some x0,some x1,none,none,none,none];zcV o):=rfl
noncomputable def G_26:FS:=zat (zbA 2 (cOp zlM (cOp dIx (zaf 0) (cK (.int 0))) (zaf 1))) (zat (zkM (cOp zlC (cOp dIx (zaf 0) (cK (.int 0))) (zaf 1)) (zkZ (zaf 0) (cK (.int 0)))) (zbO (zaf 2)))
noncomputable def F_26:List D->M D:=zc1 3 G_26
theorem d_26 (x0 x1:D):F_26 [x0,x1]=(do let o<-G_26 [some x0,some x1,none];zcV o):=rfl
noncomputable def zbU:FE:=zaf 0
noncomputable def zbZ:FT:=zeg dEq (cOp zsK (cOp zrV (zaf 1) (zaf 0)) (cK (.int 1))) (cK (.int 1))
noncomputable def zbV:FE:=cOp zlM (cOp zcY (zaf 1) (cOp ziQ (zaf 2) (zaf 0))) (zaf 3)
noncomputable def G_30:FS:=zat (zbA 2 (zaH (zav 2 F_26) (zab (zaf 0) (zab (cK (.int 3)) zan)))) (zat (sIf (zeg dEq (zaf 2) (cK (.int 0))) (zat (zbA 3 (cOp zcY (cK (.int 1)) (zaH (zav 2 F_26) (zab (zaf 0) (zab (cOp zpF (cOp zsh (cK (.int 1)) (zaf 1)) (cK (.int 1))) zan))))) (zbO (zaH zcw (zab (zaC (zgR (zab (zaf 1) zan)) (zaW 0) zbZ zbU [none,some 3]) zan)))) zfD) (zat (zkM (zb4 (zab (zaH (zav 2 F_26) (zab (zaf 0) (zab (zaf 1) zan))) (zab (cOp dIx (zfd (zab (cK (.int 1)) (zab (cOp zcY (cK (.int 1)) (zaH (zav 2 F_26) (zab (zaf 0) (zab (cK (.int 3)) zan)))) zan))) (cOp zpF (zaf 2) (cK (.int 1)))) zan))) (zb0 2 (zax (zaW 4) (zax (zaW 5) zbW)))) (zbO (zaH zcw (zab (cUn zc7 (zaC (zgR (zab (cOp zcY (cK (.int 1)) (zaH (zav 2 F_26) (zab (zaf 0) (zab (cK (.int 4)) zan)))) zan)) (zaW 0) (fun _=>pure true) zbV [none,some 4,some 5,some 1])) zan)))))
noncomputable def F_30:List D->M D:=zc1 6 G_30
theorem d_30 (x0 x1:D):F_30 [x0,x1]=(do let o<-G_30 [some x0,some x1,none,none,none,none];zcV o):=rfl
noncomputable def zcz:FE:=zix (zab (zaH (zav 2 F_30) (zab (zaf 1) (zab (zaf 2) zan))) (zab (cOp zcY (cK (.int 1)) (zaH (zav 2 F_26) (zab (zaf 1) (zab (zaf 3) zan)))) zan))
noncomputable def zdA:FE:=zaf 0
noncomputable def zdN:FT:=zeg dIn (zaf 1) (cOp dIx (zaf 0) (cK (.int 0)))
noncomputable def zbl:FS:=sIf (zeg zpU (zaC (iSq (zaf 5)) (zaW 0) zdN zdA [none,some 6]) (zfd zan)) (zat (zbA 7 (cOp dIx (zaf 5) (zaH (zav 2 F_26) (zab (zaf 0) (zab (zaH zem (zab (zaf 5) zan)) zan))))) (zkM (zaH zcw (zab (zaH zdU (zab (cOp zcY (cOp dIx (zaf 7) (cK (.int 0))) (zb4 (zab (zaf 6) zan))) zan)) zan)) (zkZ (zaf 7) (cK (.int 0))))) zfD
noncomputable def zdr:FE:=zb4 (zab (cOp dIx (zaf 0) (cK (.int 0))) (zab (cOp dIx (zaf 0) (cK (.int 1))) zan))
noncomputable def G_31:FS:=zat (zbA 3 (cOp zcY (cK (.int 1)) (zaH (zav 2 F_26) (zab (zaf 0) (zab (zaf 1) zan))))) (zat (zbA 4 (cOp dIx (zfd (zab (cK (.int 3)) (zab (cK (.int 9)) (zab (cK (.int 50)) (zab (cOp zrn (cK (.int 10)) (cK (.int 12))) zan))))) (zaH (zav 2 F_26) (zab (zaf 0) (zab (cK (.int 4)) zan))))) (zat (zbA 5 (zaC (zgR (zab (cOp zcY (cK (.int 1)) (zaH (zav 2 F_26) (zab (zaf 0) (zab (zaf 2) zan)))) zan)) (zaW 0) (fun _=>pure true) zcz [none,some 0,some 3,some 4])) (zat (zkL (zgR (zab (zaf 3) zan)) (zaW 6) zbl) (zbO (zb4 (zab (zaf 3) (zab (zaH zcw (zab (zaC (iSq (zaf 5)) (zaW 0) (fun _=>pure true) zdr [none]) zan)) zan)))))))
noncomputable def F_31:List D->M D:=zc1 8 G_31
theorem d_31 (x0 x1 x2:D):F_31 [x0,x1,x2]=(do let o<-G_31 [some x0,some x1,some x2,none,none,none,none,none];zcV o):=rfl
noncomputable def zcX:FE:=zaf 0
noncomputable def zcM:FT:=zeg zi1 (zaf 0) (zaf 1)
noncomputable def zcN:FS:=zbA 2 (cOp zcY (zaf 2) (zaC (iSq (cOp dIx (cOp dIx (cOp dIx (zaf 0) (cK (.int 1))) (zaf 3)) (cK (.int 0)))) (zaW 0) zcM zcX [none,some 2]))
noncomputable def G_33:FS:=zat (zbA 2 (zfd zan)) (zat (zkL (iSq (zaf 1)) (zaW 3) zcN) (zbO (zaH zcw (zab (zaH zdU (zab (zaf 2) zan)) zan))))
noncomputable def F_33:List D->M D:=zc1 4 G_33
theorem d_33 (x0 x1:D):F_33 [x0,x1]=(do let o<-G_33 [some x0,some x1,none,none];zcV o):=rfl
noncomputable def zbx:FT:=zeg dLt (zaH zem (zab (zaH (zav 2 F_33) (zab (zaf 1) (zab (zaf 3) zan))) zan)) (cOp dIx (zaf 1) (cK (.int 0)))
noncomputable def zbz:FS:=zbA 3 (cOp zcY (zaf 3) (zb4 (zab (zrZ (zaf 2) (zaH (zav 2 F_26) (zab (zaf 0) (zab (zaH zem (zab (zaf 2) zan)) zan)))) zan)))
noncomputable def G_34:FS:=zat (zbA 2 (cUn zg2 (zaH zem (zab (cOp dIx (zaf 1) (cK (.int 1))) zan)))) (zat (zbA 3 (zb4 zan)) (zat (zeR 1000 zbx zbz) (zbO (zaH zcw (zab (zaH zdU (zab (zaf 3) zan)) zan)))))
noncomputable def F_34:List D->M D:=zc1 4 G_34
theorem d_34 (x0 x1:D):F_34 [x0,x1]=(do let o<-G_34 [some x0,some x1,none,none];zcV o):=rfl
noncomputable def zaB:FT:=zeg dGt (zaf 3) (cK (.int 0))
noncomputable def zaG:FS:=zoG 2 3 (zab (zaf 3) (zab (cOp zlM (zaf 2) (zaf 3)) zan))
noncomputable def G_35:FS:=zat (zoG 2 3 (zab (zaH zpH (zab (zaf 0) zan)) (zab (zaH zpH (zab (zaf 1) zan)) zan))) (zat (zeR 20000 zaB zaG) (zbO (zb4 (zab (cOp zev (zaf 0) (zaf 2)) (zab (cOp zev (zaf 1) (zaf 2)) zan)))))
noncomputable def F_35:List D->M D:=zc1 4 G_35
theorem d_35 (x0 x1:D):F_35 [x0,x1]=(do let o<-G_35 [some x0,some x1,none,none];zcV o):=rfl
noncomputable def zbI:FE:=zaH (zav 2 F_34) (zab (zaf 1) (zab (zaf 2) zan))
noncomputable def zbF:FE:=zaf 0
noncomputable def zbH:FT:=zeg dIn (zaf 1) (zaf 0)
noncomputable def zbf:FS:=zmZ (zhf (zaf 3) (zaH (zav 2 F_35) (zab (zaH zem (zab (zaC (iSq (zaf 2)) (zaW 0) zbH zbF [none,some 4]) zan)) (zab (zaH zem (zab (zaf 2) zan)) zan))))
noncomputable def G_39:FS:=zat (zbA 2 (zaC (zgR (zab (cOp zcY (cK (.int 1)) (zaH (zav 2 F_26) (zab (zaf 0) (zab (cK (.int 3)) zan)))) zan)) (zaW 0) (fun _=>pure true) zbI [none,some 0,some 1])) (zat (zbA 3 (zix zan)) (zat (zkL (zgR (zab (zaH zem (zab (cOp dIx (zaf 1) (cK (.int 1))) zan)) zan)) (zaW 4) zbf) (zbO (zaH zcw (zab (zaf 3) zan)))))
noncomputable def F_39:List D->M D:=zc1 5 G_39
theorem d_39 (x0 x1:D):F_39 [x0,x1]=(do let o<-G_39 [some x0,some x1,none,none,none];zcV o):=rfl
noncomputable def G_28:FS:=zat (zbA 1 (zfd (zab (cK .non) (zab (cK (.bl true)) (zab (cK (.int 7)) (zab (cK (.str "")) (zab (cK (.str "0")) (zab (zb4 zan) (zab (zfd zan) (zab (cK .dct) (zab (zb4 (zab (cK (.int 1)) (zab (cK (.int 2)) zan))) (zab (zb4 (zab (cK (.int 0)) zan)) (zab (zb4 (zab (cK (.int 1)) (zab (cK (.int 0)) zan))) (zab (cUn zqy (cK (.int 1))) (zab (zb4 (zab (cK (.int 0)) (zab (cK (.int 1)) zan))) (zab (zfd (zab (zb4 (zab (cK (.int 1)) (zab (cK (.int 0)) (zab (cK (.int 1)) zan)))) zan)) (zab (cK (.bl false)) (zab (zb4 (zab (zb4 (zab (cK (.int 0)) (zab (cK (.int 1)) zan))) zan)) zan)))))))))))))))))) (zbO (cOp dIx (zaf 1) (zaH (zav 2 F_26) (zab (zaf 0) (zab (cK (.int 16)) zan)))))
noncomputable def F_28:List D->M D:=zc1 2 G_28
theorem d_28 (x0:D):F_28 [x0]=(do let o<-G_28 [some x0,none];zcV o):=rfl
noncomputable def G_40:FS:=zat (zbA 2 (zaH (zav 2 F_26) (zab (zaf 0) (zab (zaH zem (zab (zaf 1) zan)) zan)))) (zat (zkM (cOp dIx (zaf 1) (zaf 2)) (zb0 2 (zax (zaW 3) (zax (zaW 4) zbW)))) (zat (zbA 5 (zfd (zab (zb4 (zab (cOp zcY (zaf 3) (cK (.int 1))) (zab (zaf 4) zan))) (zab (zb4 (zab (cOp zc9 (cK (.int 2)) (zaf 3)) (zab (cOp zc9 (cK (.int 2)) (zaf 4)) zan))) (zab (zb4 (zab (cOp zpF (cUn zqy (zaf 3)) (cK (.int 1))) (zab (zaf 4) zan))) (zab (zb4 (zab (zaf 3) (zab (cOp zcY (zaf 4) (cK (.int 1))) zan))) (zab (zb4 (zab (zaf 3) (zab (cK (.int 0)) zan))) (zab (zb4 (zab (cK (.bl true)) (zab (zaf 4) zan))) zan)))))))) (zat (zbA 5 (cOp zcY (zaf 5) (zfd (zab (zb4 (zab (zaf 3) (zab (cK (.bl true)) zan))) (zab (zb4 (zab (zaH znz (zab (zaf 3) zan)) (zab (zaf 4) zan))) (zab (zaf 3) (zab (cK .non) (zab (zfd (zab (zaf 3) (zab (zaf 4) zan))) (zab (zb4 (zab (zaf 3) zan)) (zab (zb4 (zab (cK (.int 0)) (zab (cK (.int 1)) zan))) (zab (zb4 (zab (cK (.int 0)) (zab (cK (.int 2)) zan))) (zab (zb4 (zab (cOp zc9 (zaf 3) (cK (.int 7))) (zab (zaf 4) zan))) zan)))))))))))) (zat (zbA 6 (zfd (zab (cOp zcY (cOp zcY (cSl (zaf 1) zjZ (zjK (zaf 2))) (zb4 (zab (cOp dIx (zaf 5) (zaH (zav 2 F_26) (zab (zaf 0) (zab (cK (.int 15)) zan)))) zan))) (cSl (zaf 1) (zjK (cOp zcY (zaf 2) (cK (.int 1)))) zjZ)) (zab (cSl (zaf 1) (zjK (cK (.int 1))) zjZ) (zab (cOp zcY (zaf 1) (zb4 (zab (zb4 (zab (cK (.int 0)) (zab (cK (.int 1)) zan))) zan))) (zab (zaH zoy (zab (zaf 1) zan)) (zab (zb4 (zab (zaf 1) zan)) (zab (cK .non) zan)))))))) (zbO (cOp dIx (cOp zcY (zaf 6) (zfd (zab (zaH (zav 1 F_28) (zab (zaf 0) zan)) (zab (cUn zrx (zaf 1)) zan)))) (cOp dIx (zfd (zab (cK (.int 0)) (zab (cK (.int 0)) (zab (cK (.int 0)) (zab (cK (.int 0)) (zab (cK (.int 1)) (zab (cK (.int 2)) (zab (cK (.int 3)) (zab (cK (.int 4)) (zab (cK (.int 5)) (zab (cK (.int 6)) (zab (cK (.int 7)) zan)))))))))))) (zaH (zav 2 F_26) (zab (zaf 0) (zab (cK (.int 11)) zan))))))))))
noncomputable def F_40:List D->M D:=zc1 7 G_40
theorem d_40 (x0 x1:D):F_40 [x0,x1]=(do let o<-G_40 [some x0,some x1,none,none,none,none,none];zcV o):=rfl
noncomputable def G_27:FS:=zbO (zkK (cUn (zfR "int") (zaf 0)) (zpZ (cUn (zfR "bool") (zaf 0))))
noncomputable def F_27:List D->M D:=zc1 1 G_27
theorem d_27 (x0:D):F_27 [x0]=(do let o<-G_27 [some x0];zcV o):=rfl
noncomputable def G_36:FS:=zat (sIf (tOr (ze5 (zfQ (cUn (zfR "tuple") (zaf 0)))) (tOr (zeg dNe (zaH zem (zab (zaf 0) zan)) (cK (.int 2))) (tOr (ze5 (zfQ (zaH (zav 1 F_27) (zab (cOp dIx (zaf 0) (cK (.int 0))) zan)))) (ze5 (zfQ (zaH (zav 1 F_27) (zab (cOp dIx (zaf 0) (cK (.int 1))) zan))))))) (zbO (cK (.bl false))) zfD) (zbO (zkK (cOp dGt (cOp dIx (zaf 0) (cK (.int 1))) (cK (.int 0))) (cOp dEq (zaH (zav 2 F_35) (zab (cOp dIx (zaf 0) (cK (.int 0))) (zab (cOp dIx (zaf 0) (cK (.int 1))) zan))) (zaf 0))))
noncomputable def F_36:List D->M D:=zc1 1 G_36
theorem d_36 (x0:D):F_36 [x0]=(do let o<-G_36 [some x0];zcV o):=rfl
noncomputable def zb9:FS:=zkM (zaH (zav 2 F_35) (zab (cOp zcY (cOp zc9 (zaf 1) (cOp dIx (zaf 3) (cK (.int 1)))) (cOp zc9 (cOp dIx (zaf 3) (cK (.int 0))) (zaf 2))) (zab (cOp zc9 (zaf 2) (cOp dIx (zaf 3) (cK (.int 1)))) zan))) (zb0 2 (zax (zaW 1) (zax (zaW 2) zbW)))
noncomputable def G_37:FS:=zat (zkM (zb4 (zab (cK (.int 0)) (zab (cK (.int 1)) zan))) (zb0 2 (zax (zaW 1) (zax (zaW 2) zbW)))) (zat (zkL (iSq (zaf 0)) (zaW 3) zb9) (zbO (zb4 (zab (zaf 1) (zab (zaf 2) zan)))))
noncomputable def F_37:List D->M D:=zc1 4 G_37
theorem d_37 (x0:D):F_37 [x0]=(do let o<-G_37 [some x0,none,none,none];zcV o):=rfl
noncomputable def za4:FE:=zkK (zaH (zav 1 F_36) (zab (zaf 0) zan)) (cOp dGe (cOp dIx (zaf 0) (cK (.int 0))) (cK (.int 0)))
noncomputable def za1:FE:=zaf 0
noncomputable def za2:FT:=zeg dIn (zaf 2) (cOp dIx (zaf 1) (cK (.int 0)))
noncomputable def zaT:FS:=zat (zkM (zaH (zav 1 F_37) (zab (zaC (zjs (zab (zaf 1) (zab (cOp dIx (zaf 0) (cK (.int 1))) zan))) (zb0 2 (zax (zaW 0) (zax (zaW 1) zbW))) za2 za1 [none,none,some 2]) zan)) (zb0 2 (zax (zaW 3) (zax (zaW 4) zbW)))) (sIf (zeg dLt (zaf 3) (zaf 4)) (zbO (cK (.bl false))) zfD)
noncomputable def G_38:FS:=zat (sIf (tOr (ze5 (zfQ (cUn (zfR "tuple") (zaf 1)))) (zeg dNe (zaH zem (zab (zaf 1) zan)) (zaH zem (zab (cOp dIx (zaf 0) (cK (.int 1))) zan)))) (zbO (cK (.bl false))) zfD) (zat (sIf (ze5 (zfQ (zaH zoL (zab (zaC (iSq (zaf 1)) (zaW 0) (fun _=>pure true) za4 [none]) zan)))) (zbO (cK (.bl false))) zfD) (zat (zkL (zgR (zab (cOp dIx (zaf 0) (cK (.int 0))) zan)) (zaW 2) zaT) (zbO (cK (.bl true)))))
noncomputable def F_38:List D->M D:=zc1 5 G_38
theorem d_38 (x0 x1:D):F_38 [x0,x1]=(do let o<-G_38 [some x0,some x1,none,none,none];zcV o):=rfl
noncomputable def G_12:FS:=zbO (zkK (cUn (zfR "int") (zaf 0)) (zpZ (cUn (zfR "bool") (zaf 0))))
noncomputable def F_12:List D->M D:=zc1 1 G_12
theorem d_12 (x0:D):F_12 [x0]=(do let o<-G_12 [some x0];zcV o):=rfl
noncomputable def G_13:FS:=zbO (zkK (cUn (zfR "tuple") (zaf 0)) (cOp dEq (zaH zem (zab (zaf 0) zan)) (cK (.int 2))))
noncomputable def F_13:List D->M D:=zc1 1 G_13
theorem d_13 (x0:D):F_13 [x0]=(do let o<-G_13 [some x0];zcV o):=rfl
noncomputable def zai:FT:=zeg dGt (zaf 3) (cK (.int 0))
noncomputable def zaj:FS:=zat (zbA 4 (cOp zlM (zaf 2) (zaf 3))) (zat (zbA 2 (zaf 3)) (zbA 3 (zaf 4)))
noncomputable def G_15:FS:=zat (zbA 2 (zaf 0)) (zat (zbA 3 (zaf 1)) (zat (zeR 20000 zai zaj) (zbO (zaf 2))))
noncomputable def F_15:List D->M D:=zc1 5 G_15
theorem d_15 (x0 x1:D):F_15 [x0,x1]=(do let o<-G_15 [some x0,some x1,none,none,none];zcV o):=rfl
noncomputable def G_17:FS:=zat (sIf (tOr (ze5 (zfQ (zaH (zav 1 F_13) (zab (zaf 0) zan)))) (tOr (ze5 (zfQ (zaH (zav 1 F_12) (zab (cOp dIx (zaf 0) (cK (.int 0))) zan)))) (ze5 (zfQ (zaH (zav 1 F_12) (zab (cOp dIx (zaf 0) (cK (.int 1))) zan)))))) (zbO (cK (.bl false))) zfD) (zbO (zkK (cOp dGt (cOp dIx (zaf 0) (cK (.int 1))) (cK (.int 0))) (cOp dEq (zaH (zav 2 F_15) (zab (cOp dIx (zaf 0) (cK (.int 0))) (zab (cOp dIx (zaf 0) (cK (.int 1))) zan))) (cK (.int 1)))))
noncomputable def F_17:List D->M D:=zc1 1 G_17
theorem d_17 (x0:D):F_17 [x0]=(do let o<-G_17 [some x0];zcV o):=rfl
noncomputable def G_22:FS:=zbO (zkK (zaH (zav 1 F_17) (zab (zaf 0) zan)) (cOp dGe (cOp dIx (zaf 0) (cK (.int 0))) (cK (.int 0))))
noncomputable def F_22:List D->M D:=zc1 1 G_22
theorem d_22 (x0:D):F_22 [x0]=(do let o<-G_22 [some x0];zcV o):=rfl
noncomputable def zce:FE:=zaH (zav 1 F_22) (zab (zaf 0) zan)
noncomputable def G_21:FS:=zat (sIf (tOr (ze5 (zfQ (cUn (zfR "tuple") (zaf 0)))) (zeg dNe (zaH zem (zab (zaf 0) zan)) (zaf 1))) (zbO (cK (.bl false))) zfD) (zbO (zaH zoL (zab (zaC (iSq (zaf 0)) (zaW 0) (fun _=>pure true) zce [none]) zan)))
noncomputable def F_21:List D->M D:=zc1 2 G_21
theorem d_21 (x0 x1:D):F_21 [x0,x1]=(do let o<-G_21 [some x0,some x1];zcV o):=rfl
noncomputable def G_14:FS:=zat (zbA 2 (zaH (zav 2 F_15) (zab (zaf 0) (zab (zaf 1) zan)))) (zbO (zb4 (zab (cOp zev (zaf 0) (zaf 2)) (zab (cOp zev (zaf 1) (zaf 2)) zan))))
noncomputable def F_14:List D->M D:=zc1 3 G_14
theorem d_14 (x0 x1:D):F_14 [x0,x1]=(do let o<-G_14 [some x0,some x1,none];zcV o):=rfl
noncomputable def zb8:FS:=zat (zbA 1 (cOp zcY (cOp zc9 (zaf 1) (cOp dIx (zaf 3) (cK (.int 1)))) (cOp zc9 (cOp dIx (zaf 3) (cK (.int 0))) (zaf 2)))) (zbA 2 (cOp zc9 (zaf 2) (cOp dIx (zaf 3) (cK (.int 1)))))
noncomputable def G_18:FS:=zat (zbA 1 (cK (.int 0))) (zat (zbA 2 (cK (.int 1))) (zat (zkL (iSq (zaf 0)) (zaW 3) zb8) (zbO (zaH (zav 2 F_14) (zab (zaf 1) (zab (zaf 2) zan))))))
noncomputable def F_18:List D->M D:=zc1 4 G_18
theorem d_18 (x0:D):F_18 [x0]=(do let o<-G_18 [some x0,none,none,none];zcV o):=rfl
noncomputable def G_16:FS:=zbO (cOp dLt (cOp zc9 (cOp dIx (zaf 0) (cK (.int 0))) (cOp dIx (zaf 1) (cK (.int 1)))) (cOp zc9 (cOp dIx (zaf 1) (cK (.int 0))) (cOp dIx (zaf 0) (cK (.int 1)))))
noncomputable def F_16:List D->M D:=zc1 2 G_16
theorem d_16 (x0 x1:D):F_16 [x0,x1]=(do let o<-G_16 [some x0,some x1];zcV o):=rfl
noncomputable def zbR:FE:=zaf 1
noncomputable def zbP:FT:=zeg dIn (zaf 2) (cOp dIx (zaf 0) (cK (.int 0)))
noncomputable def G_23:FS:=zat (zbA 3 (zaH (zav 1 F_18) (zab (zaC (zjs (zab (cOp dIx (zaf 0) (cK (.int 1))) (zab (zaf 2) zan))) (zb0 2 (zax (zaW 0) (zax (zaW 1) zbW))) zbP zbR [none,none,some 1]) zan))) (zbO (zpZ (zaH (zav 2 F_16) (zab (zaf 3) (zab (zb4 (zab (cK (.int 1)) (zab (cK (.int 1)) zan))) zan)))))
noncomputable def F_23:List D->M D:=zc1 4 G_23
theorem d_23 (x0 x1 x2:D):F_23 [x0,x1,x2]=(do let o<-G_23 [some x0,some x1,some x2,none];zcV o):=rfl
noncomputable def zcl:FE:=zaH (zav 3 F_23) (zab (zaf 1) (zab (zaf 0) (zab (zaf 2) zan)))
noncomputable def G_19:FS:=zat (sIf (ze5 (zfQ (zaH (zav 2 F_21) (zab (zaf 1) (zab (zaH zem (zab (cOp dIx (zaf 0) (cK (.int 1))) zan)) zan))))) (zbO (cK (.bl false))) zfD) (zbO (zaH zoL (zab (zaC (zgR (zab (cOp dIx (zaf 0) (cK (.int 0))) zan)) (zaW 0) (fun _=>pure true) zcl [none,some 0,some 1]) zan)))
noncomputable def F_19:List D->M D:=zc1 2 G_19
theorem d_19 (x0 x1:D):F_19 [x0,x1]=(do let o<-G_19 [some x0,some x1];zcV o):=rfl
noncomputable def zfm:FE:=zaH znK (zab (zaf 0) zan)
noncomputable def G_29:FS:=zat (zbA 1 (zfd (zab (cUn (ziO zb7 "NoStock") (zaf 0)) (zab (cUn (ziO zb7 "NoOffer") (zaf 0)) (zab (cUn (ziO zb7 "NoThing") (zaf 0)) (zab (cUn (ziO zb7 "NoCover") (zaf 0)) zan)))))) (zat (zbA 1 (cOp zcY (zaf 1) (zfd (zab (cUn (ziO zb7 "NoPaper") (zaf 0)) (zab (cUn (ziO zb7 "NoNumber") (zaf 0)) (zab (cUn (ziO zb7 "NotFull") (zaf 0)) (zab (cUn (ziO zb7 "NotInRow") (zaf 0)) zan))))))) (zat (zbA 1 (cOp zcY (zaf 1) (zfd (zab (cUn (ziO zb7 "NoText") (zaf 0)) (zab (cUn (ziO zb7 "NoRow") (zaf 0)) (zab (cUn (ziO zb7 "TooMany") (zaf 0)) zan)))))) (zat (sIf (tOr (ze5 (zfQ (cUn (zqd zb7) (zaf 0)))) (zeg dNe (zaH zsU (zab (zaC (iSq (zaf 1)) (zaW 0) (fun _=>pure true) zfm [none]) zan)) (cK (.int 1)))) (zbO (cK (.str "! none of the classes"))) zfD) (zat (zbA 2 (zfd (zab (cK (.str "stock")) (zab (cK (.str "offer")) (zab (cK (.str "thing")) (zab (cK (.str "cover")) (zab (cK (.str "paper")) (zab (cK (.str "number")) (zab (cK (.str "full")) (zab (cK (.str "in row")) (zab (cK (.str "text")) (zab (cK (.str "row")) (zab (cK (.str "many")) zan))))))))))))) (zbO (cOp zcY (cK (.str "! ")) (cOp dIx (zaf 2) (cUn zoW (zaf 1)))))))))
noncomputable def F_29:List D->M D:=zc1 3 G_29
theorem d_29 (x0:D):F_29 [x0]=(do let o<-G_29 [some x0,none,none];zcV o):=rfl
noncomputable def zbJ:FE:=zb4 (zab (cOp zc9 (cOp dIx (zaf 0) (cK (.int 1))) (cOp dIx (zaf 1) (cK (.int 0)))) (zab (cOp dIx (zaf 1) (cK (.int 1))) zan))
noncomputable def G_20:FS:=zat (sIf (ze5 (zfQ (zaH (zav 2 fun ds=>noX (F_19 ds)) (zab (zaf 0) (zab (zaf 1) zan))))) (zhD "NoPaper") zfD) (zbO (zaH (zav 1 fun ds=>noX (F_18 ds)) (zab (zaC (zjs (zab (cOp dIx (zaf 0) (cK (.int 1))) (zab (zaf 1) zan))) (zb0 2 (zax (zaW 0) (zax (zaW 1) zbW))) (fun _=>pure true) zbJ [none,none]) zan)))
noncomputable def F_20:List D->M D:=zc1 2 G_20
theorem d_20 (x0 x1:D):F_20 [x0,x1]=(do let o<-G_20 [some x0,some x1];zcV o):=rfl
noncomputable def G_41:FS:=zgW zb7 (zbO (zaH (zav 2 F_20) (zab (zaf 0) (zab (zaf 1) zan)))) F_29
noncomputable def F_41:List D->M D:=zc1 3 G_41
theorem d_41 (x0 x1:D):F_41 [x0,x1]=(do let o<-G_41 [some x0,some x1,none];zcV o):=rfl
noncomputable def zby:FE:=zaH (zav 2 F_35) (zab (cOp zc9 (cOp dIx (zaf 0) (cK (.int 0))) (cOp dIx (zaf 1) (cK (.int 1)))) (zab (cOp dIx (zaf 0) (cK (.int 1))) zan))
noncomputable def G_42:FS:=zat (zbA 2 (zaH (zav 2 F_38) (zab (zaf 0) (zab (zaf 1) zan)))) (zat (zbA 3 (zaH (zav 2 F_19) (zab (zaf 0) (zab (zaf 1) zan)))) (zat (sIf (tOr (ze5 (zfQ (cUn (zfR "bool") (zaf 3)))) (zeg dNe (zaf 3) (zaf 2))) (zbO (cK (.bl false))) zfD) (zat (zbA 4 (zaH (zav 2 F_41) (zab (zaf 0) (zab (zaf 1) zan)))) (zat (sIf (ze5 (zfQ (zaf 2))) (zbO (cOp dEq (zaf 4) (cK (.str "! paper")))) zfD) (zat (zbA 5 (zaC (zjs (zab (zaf 1) (zab (cOp dIx (zaf 0) (cK (.int 1))) zan))) (zb0 2 (zax (zaW 0) (zax (zaW 1) zbW))) (fun _=>pure true) zby [none,none])) (zbO (zkK (zaH (zav 1 F_36) (zab (zaf 4) zan)) (cOp dEq (zaf 4) (zaH (zav 1 F_37) (zab (zaf 5) zan))))))))))
noncomputable def F_42:List D->M D:=zc1 6 G_42
theorem d_42 (x0 x1:D):F_42 [x0,x1]=(do let o<-G_42 [some x0,some x1,none,none,none,none];zcV o):=rfl
noncomputable def zcb:FE:=zaf 0
noncomputable def zck:FT:=zeg dNe (zaf 0) (zaf 1)
noncomputable def zcf:FE:=zb4 (zab (zaH zcw (zab (zaC (iSq (zaf 0)) (zaW 0) zck zcb [none,some 2]) zan)) (zab (zaf 1) zan))
noncomputable def zcg:FE:=zaf 0
noncomputable def zca:FT:=zeg dNe (cOp dIx (zaf 0) (cK (.int 0))) (zb4 zan)
noncomputable def G_32:FS:=zat (zkM (zaf 1) (zb0 2 (zax (zaW 2) (zax (zaW 3) zbW)))) (zat (zbA 4 (zaH (zav 2 F_26) (zab (zaf 0) (zab (zaf 2) zan)))) (zat (zbA 5 (zaC (iSq (zaf 3)) (zb0 2 (zax (zaW 0) (zax (zaW 1) zbW))) (fun _=>pure true) zcf [none,none,some 4])) (zbO (zb4 (zab (zaf 2) (zab (zaH zcw (zab (zaC (iSq (zaf 5)) (zaW 0) zca zcg [none]) zan)) zan))))))
noncomputable def F_32:List D->M D:=zc1 6 G_32
theorem d_32 (x0 x1:D):F_32 [x0,x1]=(do let o<-G_32 [some x0,some x1,none,none,none,none];zcV o):=rfl
noncomputable def zfv:FE:=zaH (zav 2 F_40) (zab (zaf 1) (zab (zaf 2) zan))
noncomputable def zhb:FE:=zaH (zav 2 F_42) (zab (zaf 1) (zab (zaf 0) zan))
noncomputable def zeq:FS:=zat (zbA 2 (zaH (zav 2 F_25) (zab (zaf 0) (zab (zaf 1) zan)))) (zat (zbA 3 (zaH (zav 3 F_31) (zab (zaf 2) (zab (cK (.int 10)) (zab (cK (.int 12)) zan))))) (zat (zbA 4 (zaH (zav 2 F_39) (zab (zaf 2) (zab (zaf 3) zan)))) (zat (zbA 5 (cOp zcY (zfd (zab (zaf 4) (zab (cOp zjc (zb4 (zab (zb4 (zab (cK (.int 1)) (zab (cK (.int 1)) zan))) zan)) (zaH zem (zab (cOp dIx (zaf 3) (cK (.int 1))) zan))) (zab (zb4 zan) zan)))) (zaC (zgR (zab (cK (.int 4)) zan)) (zaW 0) (fun _=>pure true) zfv [none,some 2,some 4]))) (zat (sIf (tOr (zeg zgj (zaH (zav 2 F_19) (zab (zaf 3) (zab (zaf 4) zan))) (cK (.bl true))) (ze5 (zfQ (zaH zoL (zab (zaC (iSq (zaf 5)) (zaW 0) (fun _=>pure true) zhb [none,some 3]) zan))))) (zbO (cK (.bl false))) zfD) (zat (zbA 6 (zaH (zav 2 F_32) (zab (zaf 2) (zab (zaf 3) zan)))) (sIf (ze5 (zfQ (zaH (zav 2 F_42) (zab (zaf 6) (zab (cOp zjc (zb4 (zab (zb4 (zab (cK (.int 1)) (zab (cK (.int 1)) zan))) zan)) (zaH zem (zab (cOp dIx (zaf 6) (cK (.int 1))) zan))) zan))))) (zbO (cK (.bl false))) zfD))))))
noncomputable def G_43:FS:=zat (zkL (zgR (zab (zaH znZ (zab (cK (.int 1)) (zab (zaH znk (zab (zaH zem (zab (zaf 0) zan)) (zab (cK (.int 4)) zan))) zan))) zan)) (zaW 1) zeq) (zbO (cK (.bl true)))
noncomputable def F_43:List D->M D:=zc1 7 G_43
theorem d_43 (x0:D):F_43 [x0]=(do let o<-G_43 [some x0,none,none,none,none,none,none];zcV o):=rfl
end K32
set_option genInjectivity false
set_option genSizeOf false
set_option genSizeOfSpec false
namespace K32
open PySem PySem.Spec PyProof.Rows L2 L3
noncomputable def top (i:Nat):Stmt:=PySem.Challenge.pw_cheapcovers_k32_sharings_looked_at.main.body.getD i (.Pass ⟨0,0,0,0⟩)
theorem zfb {A:Around} {k:Nat} (hr:zdf k A):A.units+60<cLine:=by have:=hr.units;omega
theorem zsb {A:Around} {k:Nat} (hr:zcP k A):A.units+60<cLine:=by have:=hr.un;omega
theorem zq0 {P:Program} {w:World} {K:W.Frag} {mg:Str->Option Value} {base:Heap} {N:List Str} {qual:Str} {scope:Scope} {f:Addr} {cd:Value} {A:Around} {outer:List Env} {s:Shared} {H:Hp} {E:XK}:zeU (zg9 CX0 P w K mg base N qual scope f cd A outer s H E).nox:=⟨rfl,rfl,rfl⟩
theorem zmQ:bootBuiltins "abs"=some (.builtin "abs"):=by decide +kernel
theorem zhM:bootBuiltins "all"=some (.builtin "all"):=by decide +kernel
theorem zg1:bootBuiltins "bool"=some (.type "bool"):=by decide +kernel
theorem zjb:bootBuiltins "int"=some (.type "int"):=by decide +kernel
theorem zbn:bootBuiltins "len"=some (.builtin "len"):=by decide +kernel
theorem zoA:bootBuiltins "list"=some (.type "list"):=by decide +kernel
theorem zpt:bootBuiltins "max"=some (.builtin "max"):=by decide +kernel
theorem zrc:bootBuiltins "min"=some (.builtin "min"):=by decide +kernel
theorem zeE:bootBuiltins "sorted"=some (.builtin "sorted"):=by decide +kernel
theorem zoQ:bootBuiltins "str"=some (.type "str"):=by decide +kernel
theorem zo8:bootBuiltins "sum"=some (.builtin "sum"):=by decide +kernel
theorem za9:bootBuiltins "tuple"=some (.type "tuple"):=by decide +kernel
noncomputable abbrev s_24:Stmt:=top 28
noncomputable abbrev s_25:Stmt:=top 29
noncomputable abbrev s_26:Stmt:=top 30
noncomputable abbrev s_30:Stmt:=top 34
noncomputable abbrev s_31:Stmt:=top 35
noncomputable abbrev s_33:Stmt:=top 37
noncomputable abbrev s_34:Stmt:=top 38
noncomputable abbrev s_35:Stmt:=top 39
noncomputable abbrev s_39:Stmt:=top 43
noncomputable abbrev s_28:Stmt:=top 32
noncomputable abbrev s_40:Stmt:=top 44
noncomputable abbrev s_27:Stmt:=top 31
noncomputable abbrev s_36:Stmt:=top 40
noncomputable abbrev s_37:Stmt:=top 41
noncomputable abbrev s_38:Stmt:=top 42
noncomputable abbrev s_12:Stmt:=top 14
noncomputable abbrev s_13:Stmt:=top 15
noncomputable abbrev s_15:Stmt:=top 17
noncomputable abbrev s_17:Stmt:=top 19
noncomputable abbrev s_22:Stmt:=top 25
noncomputable abbrev s_21:Stmt:=top 24
noncomputable abbrev s_14:Stmt:=top 16
noncomputable abbrev s_18:Stmt:=top 20
noncomputable abbrev s_16:Stmt:=top 18
noncomputable abbrev s_23:Stmt:=top 26
noncomputable abbrev s_19:Stmt:=top 22
noncomputable abbrev s_29:Stmt:=top 33
noncomputable abbrev s_20:Stmt:=top 23
noncomputable abbrev s_41:Stmt:=top 45
noncomputable abbrev s_42:Stmt:=top 46
noncomputable abbrev s_32:Stmt:=top 36
noncomputable abbrev s_43:Stmt:=top 47
structure Ad where
 a_0:Addr
 a_1:Addr
 a_2:Addr
 a_3:Addr
 a_4:Addr
 a_5:Addr
 a_6:Addr
 a_7:Addr
 a_8:Addr
 a_9:Addr
 a_10:Addr
 a_11:Addr
 a_24:Addr
 d_24:FuncData
 a_25:Addr
 d_25:FuncData
 a_26:Addr
 d_26:FuncData
 a_30:Addr
 d_30:FuncData
 a_31:Addr
 d_31:FuncData
 a_33:Addr
 d_33:FuncData
 a_34:Addr
 d_34:FuncData
 a_35:Addr
 d_35:FuncData
 a_39:Addr
 d_39:FuncData
 a_28:Addr
 d_28:FuncData
 a_40:Addr
 d_40:FuncData
 a_27:Addr
 d_27:FuncData
 a_36:Addr
 d_36:FuncData
 a_37:Addr
 d_37:FuncData
 a_38:Addr
 d_38:FuncData
 a_12:Addr
 d_12:FuncData
 a_13:Addr
 d_13:FuncData
 a_15:Addr
 d_15:FuncData
 a_17:Addr
 d_17:FuncData
 a_22:Addr
 d_22:FuncData
 a_21:Addr
 d_21:FuncData
 a_14:Addr
 d_14:FuncData
 a_18:Addr
 d_18:FuncData
 a_16:Addr
 d_16:FuncData
 a_23:Addr
 d_23:FuncData
 a_19:Addr
 d_19:FuncData
 a_29:Addr
 d_29:FuncData
 a_20:Addr
 d_20:FuncData
 a_41:Addr
 d_41:FuncData
 a_42:Addr
 d_42:FuncData
 a_32:Addr
 d_32:FuncData
 a_43:Addr
 d_43:FuncData
structure Tx (K:W.Frag) (mg:Str->Option Value) (t:Ad):Prop where
 n_ValueError:mg "ValueError"=none
 n_abs:mg "abs"=none
 n_all:mg "all"=none
 n_bool:mg "bool"=none
 n_int:mg "int"=none
 n_isinstance:mg "isinstance"=none
 n_len:mg "len"=none
 n_list:mg "list"=none
 n_max:mg "max"=none
 n_min:mg "min"=none
 n_range:mg "range"=none
 n_set:mg "set"=none
 n_sorted:mg "sorted"=none
 n_str:mg "str"=none
 n_sum:mg "sum"=none
 n_tuple:mg "tuple"=none
 n_zip:mg "zip"=none
 g_0:mg "CoverError"=some (.ref t.a_0)
 g_1:mg "NoStock"=some (.ref t.a_1)
 g_2:mg "NoOffer"=some (.ref t.a_2)
 g_3:mg "NoThing"=some (.ref t.a_3)
 g_4:mg "NoCover"=some (.ref t.a_4)
 g_5:mg "NoPaper"=some (.ref t.a_5)
 g_6:mg "NoNumber"=some (.ref t.a_6)
 g_7:mg "NotFull"=some (.ref t.a_7)
 g_8:mg "NotInRow"=some (.ref t.a_8)
 g_9:mg "NoText"=some (.ref t.a_9)
 g_10:mg "NoRow"=some (.ref t.a_10)
 g_11:mg "TooMany"=some (.ref t.a_11)
 k_1:zbK K "NoStock" t.a_1
 k_2:zbK K "NoOffer" t.a_2
 k_3:zbK K "NoThing" t.a_3
 k_4:zbK K "NoCover" t.a_4
 k_5:zbK K "NoPaper" t.a_5
 k_6:zbK K "NoNumber" t.a_6
 k_7:zbK K "NotFull" t.a_7
 k_8:zbK K "NotInRow" t.a_8
 k_9:zbK K "NoText" t.a_9
 k_10:zbK K "NoRow" t.a_10
 k_11:zbK K "TooMany" t.a_11
 x_exc:zkN K t.a_0 zb7
 m_24:mg "_law_cell"=some (.ref t.a_24)
 F_24:Fun K "_law_cell" "_law_cell" s_24 t.a_24 t.d_24
 b_24:zaM K t.d_24 ["script","k"] []
 m_25:mg "_law_box"=some (.ref t.a_25)
 F_25:Fun K "_law_box" "_law_box" s_25 t.a_25 t.d_25
 b_25:zaM K t.d_25 ["script","k"] []
 m_26:mg "_law_take"=some (.ref t.a_26)
 F_26:Fun K "_law_take" "_law_take" s_26 t.a_26 t.d_26
 b_26:zaM K t.d_26 ["box","many"] []
 m_30:mg "_law_things"=some (.ref t.a_30)
 F_30:Fun K "_law_things" "_law_things" s_30 t.a_30 t.d_30
 b_30:zaM K t.d_30 ["box","many"] []
 m_31:mg "_law_full"=some (.ref t.a_31)
 F_31:Fun K "_law_full" "_law_full" s_31 t.a_31 t.d_31
 b_31:zaM K t.d_31 ["box","most","lots"] []
 m_33:mg "_law_has"=some (.ref t.a_33)
 F_33:Fun K "_law_has" "_law_has" s_33 t.a_33 t.d_33
 b_33:zaM K t.d_33 ["stock","lot"] []
 m_34:mg "_law_cover"=some (.ref t.a_34)
 F_34:Fun K "_law_cover" "_law_cover" s_34 t.a_34 t.d_34
 b_34:zaM K t.d_34 ["box","stock"] []
 m_35:mg "_law_frac"=some (.ref t.a_35)
 F_35:Fun K "_law_frac" "_law_frac" s_35 t.a_35 t.d_35
 b_35:zaM K t.d_35 ["top","bottom"] []
 m_39:mg "_law_sharing"=some (.ref t.a_39)
 F_39:Fun K "_law_sharing" "_law_sharing" s_39 t.a_39 t.d_39
 b_39:zaM K t.d_39 ["box","stock"] []
 m_28:mg "_law_odd"=some (.ref t.a_28)
 F_28:Fun K "_law_odd" "_law_odd" s_28 t.a_28 t.d_28
 b_28:zaM K t.d_28 ["box"] []
 m_40:mg "_law_spoilt"=some (.ref t.a_40)
 F_40:Fun K "_law_spoilt" "_law_spoilt" s_40 t.a_40 t.d_40
 b_40:zaM K t.d_40 ["box","row"] []
 m_27:mg "_law_whole"=some (.ref t.a_27)
 F_27:Fun K "_law_whole" "_law_whole" s_27 t.a_27 t.d_27
 b_27:zaM K t.d_27 ["thing"] []
 m_36:mg "_law_is_frac"=some (.ref t.a_36)
 F_36:Fun K "_law_is_frac" "_law_is_frac" s_36 t.a_36 t.d_36
 b_36:zaM K t.d_36 ["thing"] []
 m_37:mg "_law_sum"=some (.ref t.a_37)
 F_37:Fun K "_law_sum" "_law_sum" s_37 t.a_37 t.d_37
 b_37:zaM K t.d_37 ["some"] []
 m_38:mg "_law_is_sharing"=some (.ref t.a_38)
 F_38:Fun K "_law_is_sharing" "_law_is_sharing" s_38 t.a_38 t.d_38
 b_38:zaM K t.d_38 ["stock","thing"] []
 m_12:mg "is_whole"=some (.ref t.a_12)
 F_12:Fun K "is_whole" "is_whole" s_12 t.a_12 t.d_12
 b_12:zaM K t.d_12 ["thing"] []
 m_13:mg "is_pair"=some (.ref t.a_13)
 F_13:Fun K "is_pair" "is_pair" s_13 t.a_13 t.d_13
 b_13:zaM K t.d_13 ["thing"] []
 m_15:mg "greatest_divisor"=some (.ref t.a_15)
 F_15:Fun K "greatest_divisor" "greatest_divisor" s_15 t.a_15 t.d_15
 b_15:zaM K t.d_15 ["top","bottom"] []
 m_17:mg "is_fraction"=some (.ref t.a_17)
 F_17:Fun K "is_fraction" "is_fraction" s_17 t.a_17 t.d_17
 b_17:zaM K t.d_17 ["thing"] []
 m_22:mg "is_share"=some (.ref t.a_22)
 F_22:Fun K "is_share" "is_share" s_22 t.a_22 t.d_22
 b_22:zaM K t.d_22 ["thing"] []
 m_21:mg "are_shares"=some (.ref t.a_21)
 F_21:Fun K "are_shares" "are_shares" s_21 t.a_21 t.d_21
 b_21:zaM K t.d_21 ["thing","many"] []
 m_14:mg "reduced"=some (.ref t.a_14)
 F_14:Fun K "reduced" "reduced" s_14 t.a_14 t.d_14
 b_14:zaM K t.d_14 ["top","bottom"] []
 m_18:mg "together"=some (.ref t.a_18)
 F_18:Fun K "together" "together" s_18 t.a_18 t.d_18
 b_18:zaM K t.d_18 ["fractions"] []
 m_16:mg "is_less"=some (.ref t.a_16)
 F_16:Fun K "is_less" "is_less" s_16 t.a_16 t.d_16
 b_16:zaM K t.d_16 ["fraction","other"] []
 m_23:mg "is_shared"=some (.ref t.a_23)
 F_23:Fun K "is_shared" "is_shared" s_23 t.a_23 t.d_23
 b_23:zaM K t.d_23 ["stock","thing","shares"] []
 m_19:mg "is_sharing"=some (.ref t.a_19)
 F_19:Fun K "is_sharing" "is_sharing" s_19 t.a_19 t.d_19
 b_19:zaM K t.d_19 ["stock","thing"] []
 m_29:mg "_law_kind"=some (.ref t.a_29)
 F_29:Fun K "_law_kind" "_law_kind" s_29 t.a_29 t.d_29
 b_29:zaM K t.d_29 ["e"] []
 m_20:mg "shared_price"=some (.ref t.a_20)
 F_20:Fun K "shared_price" "shared_price" s_20 t.a_20 t.d_20
 b_20:zaM K t.d_20 ["stock","sharing"] []
 m_41:mg "_law_asked"=some (.ref t.a_41)
 F_41:Fun K "_law_asked" "_law_asked" s_41 t.a_41 t.d_41
 b_41:zaM K t.d_41 ["stock","thing"] []
 m_42:mg "_law_right"=some (.ref t.a_42)
 F_42:Fun K "_law_right" "_law_right" s_42 t.a_42 t.d_42
 b_42:zaM K t.d_42 ["stock","thing"] []
 m_32:mg "_law_holed"=some (.ref t.a_32)
 F_32:Fun K "_law_holed" "_law_holed" s_32 t.a_32 t.d_32
 b_32:zaM K t.d_32 ["box","stock"] []
 m_43:mg "law"=some (.ref t.a_43)
 F_43:Fun K "law" "law" s_43 t.a_43 t.d_43
 b_43:zaM K t.d_43 ["script"] []
section
variable {P:Program} {w:World} {K:W.Frag} {mg:Str->Option Value} {base:Heap} {t:Ad}
theorem sc_24:zas ["script","k"] ["script","k"] (zae s_24):=⟨rfl,rfl,rfl,by decide +kernel,rfl,by decide +kernel,by decide +kernel⟩
theorem ok_24 (T:Tx K mg t):zbr P w K mg base CX0 1 t.a_24 t.d_24 ["script","k"] (zbT K 2 F_24):=by
 refine zbj (k:=0) (G:=G_24) (N:=["script","k"]) (ps:=["script","k"]) (st:=s_24) T.F_24 sc_24 fun cdv A outer s H E hr=> ?_
 refine zah ?_ ?_
 refine zgl ?_ ?_ ?_
 refine zbb ?_ ?_ ?_
 exact zhy
 exact zac 1
 refine zaA (id:="len") ?_ ?_ ?_ ?_
 exact zaF
 exact zbn
 exact T.n_len
 refine zaa ?_ ?_
 exact zac 0
 exact zad
 refine zap ?_
 refine zaS ?_
 refine zbg ?_ ?_
 exact zac 0
 exact zac 1
 exact zbD
 refine zap ?_
 refine zaS ?_
 refine za7 ?_ ?_ ?_
 exact zaz
 refine za7 ?_ ?_ ?_
 exact zdi
 exact zag
 exact zac 1
 exact zag
theorem nd_25:(["script","k","cell","number","mixed","j"]:List Str).Nodup:=by decide +kernel
theorem sc_25:zas ["script","k","cell","number","mixed","j"] ["script","k"] (zae s_25):=⟨rfl,rfl,rfl,by decide +kernel,rfl,by decide +kernel,by decide +kernel⟩
theorem ok_25 (T:Tx K mg t):zbr P w K mg base CX0 2 t.a_25 t.d_25 ["script","k"] (zbT K 2 F_25):=by
 have G_24:=ok_24 (P:=P) (w:=w) (base:=base) T
 refine zbj (k:=1) (G:=G_25) (N:=["script","k","cell","number","mixed","j"]) (ps:=["script","k"]) (st:=s_25) T.F_25 sc_25 fun cdv A outer s H E hr=> ?_
 refine zah ?_ ?_
 refine zaV 2 ?_ ?_
 exact nd_25
 refine zar (k:=1) (g:=t.a_24) (fd:=t.d_24) (ps:=["script","k"]) ?_ ?_ ?_ ?_ ?_ ?_
 exact G_24
 exact (hr.mono (by decide))
 exact T.m_24
 exact T.F_24.kp
 exact T.b_24
 refine zaa ?_ ?_
 exact zac 0
 refine zaa ?_ ?_
 exact zac 1
 exact zad
 refine zah ?_ ?_
 refine zgl ?_ ?_ ?_
 refine zbb ?_ ?_ ?_
 exact (zea (zfb hr))
 refine za7 ?_ ?_ ?_
 exact zdo
 exact zac 2
 exact zag
 exact zag
 refine zap ?_
 refine zaS ?_
 refine zhC ?_
 refine zaa ?_ ?_
 refine za7 ?_ ?_ ?_
 exact zic
 exact zac 2
 exact zag
 exact zad
 exact zbD
 refine zah ?_ ?_
 refine zaV 3 ?_ ?_
 exact nd_25
 exact zag
 refine zah ?_ ?_
 refine zaV 4 ?_ ?_
 exact nd_25
 refine za7 ?_ ?_ ?_
 exact zdo
 exact zac 2
 exact zag
 refine zah ?_ ?_
 refine zgL ?_ ?_ ?_ ?_ ?_
 exact rfl
 exact PassesOwn.never
 refine zeG ?_ ?_
 exact T.n_range
 refine zaa ?_ ?_
 exact zag
 exact zad
 exact zao 5 nd_25
 refine zah ?_ ?_
 refine zaV 4 ?_ ?_
 exact nd_25
 refine za7 ?_ ?_ ?_
 exact zdo
 refine za7 ?_ ?_ ?_
 exact zaz
 refine za7 ?_ ?_ ?_
 exact zaz
 refine za7 ?_ ?_ ?_
 exact zaz
 refine za7 ?_ ?_ ?_
 exact zdi
 exact zac 4
 exact zag
 refine za7 ?_ ?_ ?_
 exact zdi
 refine za7 ?_ ?_ ?_
 exact zdi
 exact zag
 exact zac 5
 exact zac 5
 refine za7 ?_ ?_ ?_
 exact zdi
 exact zag
 exact zac 1
 exact zag
 exact zag
 refine zap ?_
 refine zaV 3 ?_ ?_
 exact nd_25
 refine za7 ?_ ?_ ?_
 exact zaz
 refine za7 ?_ ?_ ?_
 exact zdi
 exact zac 3
 exact zag
 exact zac 4
 refine zap ?_
 refine zaS ?_
 refine zhC ?_
 refine zaa ?_ ?_
 exact zac 3
 exact zad
theorem nd_26:(["box","many","digit"]:List Str).Nodup:=by decide +kernel
theorem sc_26:zas ["box","many","digit"] ["box","many"] (zae s_26):=⟨rfl,rfl,rfl,by decide +kernel,rfl,by decide +kernel,by decide +kernel⟩
theorem ok_26 (T:Tx K mg t):zbr P w K mg base CX0 1 t.a_26 t.d_26 ["box","many"] (zbT K 2 F_26):=by
 refine zbj (k:=0) (G:=G_26) (N:=["box","many","digit"]) (ps:=["box","many"]) (st:=s_26) T.F_26 sc_26 fun cdv A outer s H E hr=> ?_
 refine zah ?_ ?_
 refine zaV 2 ?_ ?_
 exact nd_26
 refine za7 ?_ ?_ ?_
 exact zdo
 refine zbg ?_ ?_
 exact zac 0
 exact zag
 exact zac 1
 refine zah ?_ ?_
 refine zgh ?_ ?_
 refine za7 ?_ ?_ ?_
 exact zic
 refine zbg ?_ ?_
 exact zac 0
 exact zag
 exact zac 1
 refine zmm ?_ ?_
 exact zac 0
 exact zag
 refine zap ?_
 refine zaS ?_
 exact zac 2
theorem nd_30:(["box","many","way","bits","first","step"]:List Str).Nodup:=by decide +kernel
theorem zsv:(["thing","bits"]:List Str).Nodup:=by decide +kernel
theorem zrC:(["k","first","step","many"]:List Str).Nodup:=by decide +kernel
theorem sc_30:zas ["box","many","way","bits","first","step"] ["box","many"] (zae s_30):=⟨rfl,rfl,rfl,by decide +kernel,rfl,by decide +kernel,by decide +kernel⟩
theorem ok_30 (T:Tx K mg t):zbr P w K mg base CX0 2 t.a_30 t.d_30 ["box","many"] (zbT K 2 F_30):=by
 have G_26:=ok_26 (P:=P) (w:=w) (base:=base) T
 refine zbj (k:=1) (G:=G_30) (N:=["box","many","way","bits","first","step"]) (ps:=["box","many"]) (st:=s_30) T.F_30 sc_30 fun cdv A outer s H E hr=> ?_
 refine zah ?_ ?_
 refine zaV 2 ?_ ?_
 exact nd_30
 refine zar (k:=1) (g:=t.a_26) (fd:=t.d_26) (ps:=["box","many"]) ?_ ?_ ?_ ?_ ?_ ?_
 exact G_26
 exact (hr.mono (by decide))
 exact T.m_26
 exact T.F_26.kp
 exact T.b_26
 refine zaa ?_ ?_
 exact zac 0
 refine zaa ?_ ?_
 exact zag
 exact zad
 refine zah ?_ ?_
 refine zgl ?_ ?_ ?_
 refine zbb ?_ ?_ ?_
 exact (zea (zfb hr))
 exact zac 2
 exact zag
 refine zah ?_ ?_
 refine zaV 3 ?_ ?_
 exact nd_30
 refine za7 ?_ ?_ ?_
 exact zaz
 exact zag
 refine zar (k:=1) (g:=t.a_26) (fd:=t.d_26) (ps:=["box","many"]) ?_ ?_ ?_ ?_ ?_ ?_
 exact G_26
 exact (hr.mono (by decide))
 exact T.m_26
 exact T.F_26.kp
 exact T.b_26
 refine zaa ?_ ?_
 exact zac 0
 refine zaa ?_ ?_
 refine za7 ?_ ?_ ?_
 exact zhn
 refine za7 ?_ ?_ ?_
 exact zn0
 exact zag
 exact zac 1
 exact zag
 exact zad
 refine zap ?_
 refine zaS ?_
 refine zbe (T:="tuple") ?_ ?_ ?_ ?_
 exact za3
 exact za9
 exact T.n_tuple
 refine zaa ?_ ?_
 refine zbN (N:=["thing","bits"]) ?_ ?_ ?_ ?_ ?_ ?_ ?_
 exact rfl
 exact (BOk.of (Xn:=(zae s_30).names) (XN:=["box","many","way","bits","first","step"]) rfl rfl rfl (by decide +kernel))
 exact (zaP.name (i:=0) rfl)
 refine zeG ?_ ?_
 exact T.n_range
 refine zaa ?_ ?_
 exact zac 1
 exact zad
 intro _ _ _
 exact zao 0 zsv
 intro _ _ _
 refine zd7 ?_
 refine zbb ?_ ?_ ?_
 exact (zea (zfb hr))
 refine za7 ?_ ?_ ?_
 exact znh
 refine za7 ?_ ?_ ?_
 exact znB
 exact zac 1
 exact zac 0
 exact zag
 exact zag
 intro _ _ _
 exact zac 0
 exact zad
 exact zbD
 refine zah ?_ ?_
 refine zgh ?_ ?_
 refine zaX ?_
 refine zaa ?_ ?_
 refine zar (k:=1) (g:=t.a_26) (fd:=t.d_26) (ps:=["box","many"]) ?_ ?_ ?_ ?_ ?_ ?_
 exact G_26
 exact (hr.mono (by decide))
 exact T.m_26
 exact T.F_26.kp
 exact T.b_26
 refine zaa ?_ ?_
 exact zac 0
 refine zaa ?_ ?_
 exact zac 1
 exact zad
 refine zaa ?_ ?_
 refine zbg ?_ ?_
 refine zcK ?_
 refine zaa ?_ ?_
 exact zag
 refine zaa ?_ ?_
 refine za7 ?_ ?_ ?_
 exact zaz
 exact zag
 refine zar (k:=1) (g:=t.a_26) (fd:=t.d_26) (ps:=["box","many"]) ?_ ?_ ?_ ?_ ?_ ?_
 exact G_26
 exact (hr.mono (by decide))
 exact T.m_26
 exact T.F_26.kp
 exact T.b_26
 refine zaa ?_ ?_
 exact zac 0
 refine zaa ?_ ?_
 exact zag
 exact zad
 exact zad
 refine za7 ?_ ?_ ?_
 exact zhn
 exact zac 2
 exact zag
 exact zad
 refine zcU ?_ ?_
 exact rfl
 refine zaE ?_ ?_
 exact zao 4 nd_30
 refine zaE ?_ ?_
 exact zao 5 nd_30
 exact zb2
 refine zap ?_
 refine zaS ?_
 refine zbe (T:="tuple") ?_ ?_ ?_ ?_
 exact za3
 exact za9
 exact T.n_tuple
 refine zaa ?_ ?_
 refine zi3 ?_ ?_ ?_ ?_
 exact rfl
 exact T.n_sorted
 exact T.n_set
 refine zbN (N:=["k","first","step","many"]) ?_ ?_ ?_ ?_ ?_ ?_ ?_
 exact rfl
 exact (BOk.of (Xn:=(zae s_30).names) (XN:=["box","many","way","bits","first","step"]) rfl rfl rfl (by decide +kernel))
 exact (zaP.name (i:=0) rfl)
 refine zeG ?_ ?_
 exact T.n_range
 refine zaa ?_ ?_
 refine za7 ?_ ?_ ?_
 exact zaz
 exact zag
 refine zar (k:=1) (g:=t.a_26) (fd:=t.d_26) (ps:=["box","many"]) ?_ ?_ ?_ ?_ ?_ ?_
 exact G_26
 exact (hr.mono (by decide))
 exact T.m_26
 exact T.F_26.kp
 exact T.b_26
 refine zaa ?_ ?_
 exact zac 0
 refine zaa ?_ ?_
 exact zag
 exact zad
 exact zad
 intro _ _ _
 exact zao 0 zrC
 intro _ _ _
 exact zcp
 intro _ _ _
 refine za7 ?_ ?_ ?_
 exact zdo
 refine za7 ?_ ?_ ?_
 exact zaz
 exact zac 1
 refine za7 ?_ ?_ ?_
 exact zdi
 exact zac 2
 exact zac 0
 exact zac 3
 exact zad
theorem nd_31:(["box","most","lots","many","far","rows","thing","row"]:List Str).Nodup:=by decide +kernel
theorem zr3:(["k","box","many","far"]:List Str).Nodup:=by decide +kernel
theorem zrS:(["row","thing"]:List Str).Nodup:=by decide +kernel
theorem zqS:(["row"]:List Str).Nodup:=by decide +kernel
theorem sc_31:zas ["box","most","lots","many","far","rows","thing","row"] ["box","most","lots"] (zae s_31):=⟨rfl,rfl,rfl,by decide +kernel,rfl,by decide +kernel,by decide +kernel⟩
theorem ok_31 (T:Tx K mg t):zbr P w K mg base CX0 3 t.a_31 t.d_31 ["box","most","lots"] (zbT K 3 F_31):=by
 have G_26:=ok_26 (P:=P) (w:=w) (base:=base) T
 have G_30:=ok_30 (P:=P) (w:=w) (base:=base) T
 refine zbj (k:=2) (G:=G_31) (N:=["box","most","lots","many","far","rows","thing","row"]) (ps:=["box","most","lots"]) (st:=s_31) T.F_31 sc_31 fun cdv A outer s H E hr=> ?_
 refine zah ?_ ?_
 refine zaV 3 ?_ ?_
 exact nd_31
 refine za7 ?_ ?_ ?_
 exact zaz
 exact zag
 refine zar (k:=1) (g:=t.a_26) (fd:=t.d_26) (ps:=["box","many"]) ?_ ?_ ?_ ?_ ?_ ?_
 exact G_26
 exact (hr.mono (by decide))
 exact T.m_26
 exact T.F_26.kp
 exact T.b_26
 refine zaa ?_ ?_
 exact zac 0
 refine zaa ?_ ?_
 exact zac 1
 exact zad
 refine zah ?_ ?_
 refine zaV 4 ?_ ?_
 exact nd_31
 refine zbg ?_ ?_
 refine zcK ?_
 refine zaa ?_ ?_
 exact zag
 refine zaa ?_ ?_
 exact zag
 refine zaa ?_ ?_
 exact zag
 refine zaa ?_ ?_
 refine za7 ?_ ?_ ?_
 exact zor
 exact zag
 exact zag
 exact zad
 refine zar (k:=1) (g:=t.a_26) (fd:=t.d_26) (ps:=["box","many"]) ?_ ?_ ?_ ?_ ?_ ?_
 exact G_26
 exact (hr.mono (by decide))
 exact T.m_26
 exact T.F_26.kp
 exact T.b_26
 refine zaa ?_ ?_
 exact zac 0
 refine zaa ?_ ?_
 exact zag
 exact zad
 refine zah ?_ ?_
 refine zdK 5 (N:=["k","box","many","far"]) ?_ ?_ ?_ ?_ ?_ ?_ ?_ ?_
 exact rfl
 exact nd_31
 exact (BOk.of (Xn:=(zae s_31).names) (XN:=["box","most","lots","many","far","rows","thing","row"]) rfl rfl rfl (by decide +kernel))
 exact (zaP.name (i:=0) rfl)
 refine zeG ?_ ?_
 exact T.n_range
 refine zaa ?_ ?_
 refine za7 ?_ ?_ ?_
 exact zaz
 exact zag
 refine zar (k:=1) (g:=t.a_26) (fd:=t.d_26) (ps:=["box","many"]) ?_ ?_ ?_ ?_ ?_ ?_
 exact G_26
 exact (hr.mono (by decide))
 exact T.m_26
 exact T.F_26.kp
 exact T.b_26
 refine zaa ?_ ?_
 exact zac 0
 refine zaa ?_ ?_
 exact zac 2
 exact zad
 exact zad
 intro _ _ _
 exact zao 0 zr3
 intro _ _ _
 exact zcp
 intro _ _ _
 refine zhC ?_
 refine zaa ?_ ?_
 refine zar (k:=2) (g:=t.a_30) (fd:=t.d_30) (ps:=["box","many"]) ?_ ?_ ?_ ?_ ?_ ?_
 exact G_30
 exact (hr.mono (by decide))
 exact T.m_30
 exact T.F_30.kp
 exact T.b_30
 refine zaa ?_ ?_
 exact zac 1
 refine zaa ?_ ?_
 exact zac 2
 exact zad
 refine zaa ?_ ?_
 refine za7 ?_ ?_ ?_
 exact zaz
 exact zag
 refine zar (k:=1) (g:=t.a_26) (fd:=t.d_26) (ps:=["box","many"]) ?_ ?_ ?_ ?_ ?_ ?_
 exact G_26
 exact (hr.mono (by decide))
 exact T.m_26
 exact T.F_26.kp
 exact T.b_26
 refine zaa ?_ ?_
 exact zac 1
 refine zaa ?_ ?_
 exact zac 3
 exact zad
 exact zad
 refine zah ?_ ?_
 refine zgL ?_ ?_ ?_ ?_ ?_
 exact rfl
 exact PassesOwn.never
 refine zeG ?_ ?_
 exact T.n_range
 refine zaa ?_ ?_
 exact zac 3
 exact zad
 exact zao 6 nd_31
 refine zap ?_
 refine zgl ?_ ?_ ?_
 refine zbb ?_ ?_ ?_
 exact (zrg (zfb hr))
 refine zbN (N:=["row","thing"]) ?_ ?_ ?_ ?_ ?_ ?_ ?_
 exact rfl
 exact (BOk.of (Xn:=(zae s_31).names) (XN:=["box","most","lots","many","far","rows","thing","row"]) rfl rfl rfl (by decide +kernel))
 exact (zaP.name (i:=0) rfl)
 refine zdC ?_
 exact zac 5
 intro _ _ _
 exact zao 0 zrS
 intro _ _ _
 refine zd7 ?_
 refine zbb ?_ ?_ ?_
 exact (zh6 (zfb hr))
 exact zac 1
 refine zbg ?_ ?_
 exact zac 0
 exact zag
 intro _ _ _
 exact zac 0
 refine zcK ?_
 exact zad
 refine zah ?_ ?_
 refine zaV 7 ?_ ?_
 exact nd_31
 refine zbg ?_ ?_
 exact zac 5
 refine zar (k:=1) (g:=t.a_26) (fd:=t.d_26) (ps:=["box","many"]) ?_ ?_ ?_ ?_ ?_ ?_
 exact G_26
 exact (hr.mono (by decide))
 exact T.m_26
 exact T.F_26.kp
 exact T.b_26
 refine zaa ?_ ?_
 exact zac 0
 refine zaa ?_ ?_
 refine zaA (id:="len") ?_ ?_ ?_ ?_
 exact zaF
 exact zbn
 exact T.n_len
 refine zaa ?_ ?_
 exact zac 5
 exact zad
 exact zad
 refine zap ?_
 refine zgh ?_ ?_
 refine zbe (T:="tuple") ?_ ?_ ?_ ?_
 exact za3
 exact za9
 exact T.n_tuple
 refine zaa ?_ ?_
 refine zaA (id:="sorted") ?_ ?_ ?_ ?_
 exact (zcL rfl)
 exact zeE
 exact T.n_sorted
 refine zaa ?_ ?_
 refine za7 ?_ ?_ ?_
 exact zaz
 refine zbg ?_ ?_
 exact zac 7
 exact zag
 refine zaX ?_
 refine zaa ?_ ?_
 exact zac 6
 exact zad
 exact zad
 exact zad
 refine zmm ?_ ?_
 exact zac 7
 exact zag
 exact zbD
 refine zap ?_
 refine zaS ?_
 refine zaX ?_
 refine zaa ?_ ?_
 exact zac 3
 refine zaa ?_ ?_
 refine zbe (T:="tuple") ?_ ?_ ?_ ?_
 exact za3
 exact za9
 exact T.n_tuple
 refine zaa ?_ ?_
 refine zbN (N:=["row"]) ?_ ?_ ?_ ?_ ?_ ?_ ?_
 exact rfl
 exact (BOk.of (Xn:=(zae s_31).names) (XN:=["box","most","lots","many","far","rows","thing","row"]) rfl rfl rfl (by decide +kernel))
 exact (zaP.name (i:=0) rfl)
 refine zdC ?_
 exact zac 5
 intro _ _ _
 exact zao 0 zqS
 intro _ _ _
 exact zcp
 intro _ _ _
 refine zaX ?_
 refine zaa ?_ ?_
 refine zbg ?_ ?_
 exact zac 0
 exact zag
 refine zaa ?_ ?_
 refine zbg ?_ ?_
 exact zac 0
 exact zag
 exact zad
 exact zad
 exact zad
theorem nd_33:(["stock","lot","found","offer"]:List Str).Nodup:=by decide +kernel
theorem zpf:(["thing","found"]:List Str).Nodup:=by decide +kernel
theorem sc_33:zas ["stock","lot","found","offer"] ["stock","lot"] (zae s_33):=⟨rfl,rfl,rfl,by decide +kernel,rfl,by decide +kernel,by decide +kernel⟩
theorem ok_33 (T:Tx K mg t):zbr P w K mg base CX0 1 t.a_33 t.d_33 ["stock","lot"] (zbT K 2 F_33):=by
 refine zbj (k:=0) (G:=G_33) (N:=["stock","lot","found","offer"]) (ps:=["stock","lot"]) (st:=s_33) T.F_33 sc_33 fun cdv A outer s H E hr=> ?_
 refine zah ?_ ?_
 refine zaV 2 ?_ ?_
 exact nd_33
 refine zcK ?_
 exact zad
 refine zah ?_ ?_
 refine zgL ?_ ?_ ?_ ?_ ?_
 exact rfl
 exact PassesOwn.never
 refine zdC ?_
 exact zac 1
 exact zao 3 nd_33
 refine zap ?_
 refine zaV 2 ?_ ?_
 exact nd_33
 refine za7 ?_ ?_ ?_
 exact zaz
 exact zac 2
 refine zbN (N:=["thing","found"]) ?_ ?_ ?_ ?_ ?_ ?_ ?_
 exact rfl
 exact (BOk.of (Xn:=(zae s_33).names) (XN:=["stock","lot","found","offer"]) rfl rfl rfl (by decide +kernel))
 exact (zaP.name (i:=0) rfl)
 refine zdC ?_
 refine zbg ?_ ?_
 refine zbg ?_ ?_
 refine zbg ?_ ?_
 exact zac 0
 exact zag
 exact zac 3
 exact zag
 intro _ _ _
 exact zao 0 zpf
 intro _ _ _
 refine zd7 ?_
 refine zbb ?_ ?_ ?_
 exact (zkD (zfb hr))
 exact zac 0
 exact zac 1
 intro _ _ _
 exact zac 0
 refine zap ?_
 refine zaS ?_
 refine zbe (T:="tuple") ?_ ?_ ?_ ?_
 exact za3
 exact za9
 exact T.n_tuple
 refine zaa ?_ ?_
 refine zaA (id:="sorted") ?_ ?_ ?_ ?_
 exact (zcL rfl)
 exact zeE
 exact T.n_sorted
 refine zaa ?_ ?_
 exact zac 2
 exact zad
 exact zad
theorem nd_34:(["box","stock","left","found"]:List Str).Nodup:=by decide +kernel
theorem sc_34:zas ["box","stock","left","found"] ["box","stock"] (zae s_34):=⟨rfl,rfl,rfl,by decide +kernel,rfl,by decide +kernel,by decide +kernel⟩
theorem ok_34 (T:Tx K mg t):zbr P w K mg base CX0 2 t.a_34 t.d_34 ["box","stock"] (zbT K 2 F_34):=by
 have G_33:=ok_33 (P:=P) (w:=w) (base:=base) T
 have G_26:=ok_26 (P:=P) (w:=w) (base:=base) T
 refine zbj (k:=1) (G:=G_34) (N:=["box","stock","left","found"]) (ps:=["box","stock"]) (st:=s_34) T.F_34 sc_34 fun cdv A outer s H E hr=> ?_
 refine zah ?_ ?_
 refine zaV 2 ?_ ?_
 exact nd_34
 refine zk9 ?_ ?_ ?_ ?_
 exact rfl
 exact T.n_list
 exact T.n_range
 refine zaA (id:="len") ?_ ?_ ?_ ?_
 exact zaF
 exact zbn
 exact T.n_len
 refine zaa ?_ ?_
 refine zbg ?_ ?_
 exact zac 1
 exact zag
 exact zad
 refine zah ?_ ?_
 refine zaV 3 ?_ ?_
 exact nd_34
 refine zaX ?_
 exact zad
 refine zah ?_ ?_
 refine zgZ 1000 ?_ ?_ ?_
 exact PassesOwn.never
 refine zbb ?_ ?_ ?_
 exact zhy
 refine zaA (id:="len") ?_ ?_ ?_ ?_
 exact zaF
 exact zbn
 exact T.n_len
 refine zaa ?_ ?_
 refine zar (k:=1) (g:=t.a_33) (fd:=t.d_33) (ps:=["stock","lot"]) ?_ ?_ ?_ ?_ ?_ ?_
 exact G_33
 exact (hr.mono (by decide))
 exact T.m_33
 exact T.F_33.kp
 exact T.b_33
 refine zaa ?_ ?_
 exact zac 1
 refine zaa ?_ ?_
 exact zac 3
 exact zad
 exact zad
 refine zbg ?_ ?_
 exact zac 1
 exact zag
 refine zap ?_
 refine zaV 3 ?_ ?_
 exact nd_34
 refine za7 ?_ ?_ ?_
 exact zaz
 exact zac 3
 refine zaX ?_
 refine zaa ?_ ?_
 refine zsn ?_ ?_
 exact zac 2
 refine zar (k:=1) (g:=t.a_26) (fd:=t.d_26) (ps:=["box","many"]) ?_ ?_ ?_ ?_ ?_ ?_
 exact G_26
 exact (hr.mono (by decide))
 exact T.m_26
 exact T.F_26.kp
 exact T.b_26
 refine zaa ?_ ?_
 exact zac 0
 refine zaa ?_ ?_
 refine zaA (id:="len") ?_ ?_ ?_ ?_
 exact zaF
 exact zbn
 exact T.n_len
 refine zaa ?_ ?_
 exact zac 2
 exact zad
 exact zad
 exact zad
 refine zap ?_
 refine zaS ?_
 refine zbe (T:="tuple") ?_ ?_ ?_ ?_
 exact za3
 exact za9
 exact T.n_tuple
 refine zaa ?_ ?_
 refine zaA (id:="sorted") ?_ ?_ ?_ ?_
 exact (zcL rfl)
 exact zeE
 exact T.n_sorted
 refine zaa ?_ ?_
 exact zac 3
 exact zad
 exact zad
theorem nd_35:(["top","bottom","one","other"]:List Str).Nodup:=by decide +kernel
theorem sc_35:zas ["top","bottom","one","other"] ["top","bottom"] (zae s_35):=⟨rfl,rfl,rfl,by decide +kernel,rfl,by decide +kernel,by decide +kernel⟩
theorem ok_35 (T:Tx K mg t):zbr P w K mg base CX0 1 t.a_35 t.d_35 ["top","bottom"] (zbT K 2 F_35):=by
 refine zbj (k:=0) (G:=G_35) (N:=["top","bottom","one","other"]) (ps:=["top","bottom"]) (st:=s_35) T.F_35 sc_35 fun cdv A outer s H E hr=> ?_
 refine zah ?_ ?_
 refine zqC 2 3 ?_ ?_ ?_
 exact rfl
 exact nd_35
 refine zaa ?_ ?_
 refine zaA (id:="abs") ?_ ?_ ?_ ?_
 exact zfX
 exact zmQ
 exact T.n_abs
 refine zaa ?_ ?_
 exact zac 0
 exact zad
 refine zaa ?_ ?_
 refine zaA (id:="abs") ?_ ?_ ?_ ?_
 exact zfX
 exact zmQ
 exact T.n_abs
 refine zaa ?_ ?_
 exact zac 1
 exact zad
 exact zad
 refine zah ?_ ?_
 refine zgZ 20000 ?_ ?_ ?_
 exact PassesOwn.never
 refine zbb ?_ ?_ ?_
 exact zhG
 exact zac 3
 exact zag
 refine zap ?_
 refine zqC 2 3 ?_ ?_ ?_
 exact rfl
 exact nd_35
 refine zaa ?_ ?_
 exact zac 3
 refine zaa ?_ ?_
 refine za7 ?_ ?_ ?_
 exact zdo
 exact zac 2
 exact zac 3
 exact zad
 refine zap ?_
 refine zaS ?_
 refine zaX ?_
 refine zaa ?_ ?_
 refine za7 ?_ ?_ ?_
 exact zei
 exact zac 0
 exact zac 2
 refine zaa ?_ ?_
 refine za7 ?_ ?_ ?_
 exact zei
 exact zac 1
 exact zac 2
 exact zad
theorem nd_39:(["box","stock","covers","found","offer"]:List Str).Nodup:=by decide +kernel
theorem zrl:(["turn","box","stock"]:List Str).Nodup:=by decide +kernel
theorem zo7:(["cover","offer"]:List Str).Nodup:=by decide +kernel
theorem sc_39:zas ["box","stock","covers","found","offer"] ["box","stock"] (zae s_39):=⟨rfl,rfl,rfl,by decide +kernel,rfl,by decide +kernel,by decide +kernel⟩
theorem ok_39 (T:Tx K mg t):zbr P w K mg base CX0 3 t.a_39 t.d_39 ["box","stock"] (zbT K 2 F_39):=by
 have G_26:=ok_26 (P:=P) (w:=w) (base:=base) T
 have G_34:=ok_34 (P:=P) (w:=w) (base:=base) T
 have G_35:=ok_35 (P:=P) (w:=w) (base:=base) T
 refine zbj (k:=2) (G:=G_39) (N:=["box","stock","covers","found","offer"]) (ps:=["box","stock"]) (st:=s_39) T.F_39 sc_39 fun cdv A outer s H E hr=> ?_
 refine zah ?_ ?_
 refine zdK 2 (N:=["turn","box","stock"]) ?_ ?_ ?_ ?_ ?_ ?_ ?_ ?_
 exact rfl
 exact nd_39
 exact (BOk.of (Xn:=(zae s_39).names) (XN:=["box","stock","covers","found","offer"]) rfl rfl rfl (by decide +kernel))
 exact (zaP.name (i:=0) rfl)
 refine zeG ?_ ?_
 exact T.n_range
 refine zaa ?_ ?_
 refine za7 ?_ ?_ ?_
 exact zaz
 exact zag
 refine zar (k:=1) (g:=t.a_26) (fd:=t.d_26) (ps:=["box","many"]) ?_ ?_ ?_ ?_ ?_ ?_
 exact G_26
 exact (hr.mono (by decide))
 exact T.m_26
 exact T.F_26.kp
 exact T.b_26
 refine zaa ?_ ?_
 exact zac 0
 refine zaa ?_ ?_
 exact zag
 exact zad
 exact zad
 intro _ _ _
 exact zao 0 zrl
 intro _ _ _
 exact zcp
 intro _ _ _
 refine zar (k:=2) (g:=t.a_34) (fd:=t.d_34) (ps:=["box","stock"]) ?_ ?_ ?_ ?_ ?_ ?_
 exact G_34
 exact (hr.mono (by decide))
 exact T.m_34
 exact T.F_34.kp
 exact T.b_34
 refine zaa ?_ ?_
 exact zac 1
 refine zaa ?_ ?_
 exact zac 2
 exact zad
 refine zah ?_ ?_
 refine zaV 3 ?_ ?_
 exact nd_39
 refine zhC ?_
 exact zad
 refine zah ?_ ?_
 refine zgL ?_ ?_ ?_ ?_ ?_
 exact rfl
 exact PassesOwn.never
 refine zeG ?_ ?_
 exact T.n_range
 refine zaa ?_ ?_
 refine zaA (id:="len") ?_ ?_ ?_ ?_
 exact zaF
 exact zbn
 exact T.n_len
 refine zaa ?_ ?_
 refine zbg ?_ ?_
 exact zac 1
 exact zag
 exact zad
 exact zad
 exact zao 4 nd_39
 refine zap ?_
 refine zpq ?_
 refine zli ?_ ?_
 exact zac 3
 refine zar (k:=1) (g:=t.a_35) (fd:=t.d_35) (ps:=["top","bottom"]) ?_ ?_ ?_ ?_ ?_ ?_
 exact G_35
 exact (hr.mono (by decide))
 exact T.m_35
 exact T.F_35.kp
 exact T.b_35
 refine zaa ?_ ?_
 refine zaA (id:="len") ?_ ?_ ?_ ?_
 exact zaF
 exact zbn
 exact T.n_len
 refine zaa ?_ ?_
 refine zbN (N:=["cover","offer"]) ?_ ?_ ?_ ?_ ?_ ?_ ?_
 exact rfl
 exact (BOk.of (Xn:=(zae s_39).names) (XN:=["box","stock","covers","found","offer"]) rfl rfl rfl (by decide +kernel))
 exact (zaP.name (i:=0) rfl)
 refine zdC ?_
 exact zac 2
 intro _ _ _
 exact zao 0 zo7
 intro _ _ _
 refine zd7 ?_
 refine zbb ?_ ?_ ?_
 exact (zh6 (zfb hr))
 exact zac 1
 exact zac 0
 intro _ _ _
 exact zac 0
 exact zad
 refine zaa ?_ ?_
 refine zaA (id:="len") ?_ ?_ ?_ ?_
 exact zaF
 exact zbn
 exact T.n_len
 refine zaa ?_ ?_
 exact zac 2
 exact zad
 exact zad
 refine zap ?_
 refine zaS ?_
 refine zbe (T:="tuple") ?_ ?_ ?_ ?_
 exact za3
 exact za9
 exact T.n_tuple
 refine zaa ?_ ?_
 exact zac 3
 exact zad
theorem nd_28:(["box","some"]:List Str).Nodup:=by decide +kernel
theorem sc_28:zas ["box","some"] ["box"] (zae s_28):=⟨rfl,rfl,rfl,by decide +kernel,rfl,by decide +kernel,by decide +kernel⟩
theorem ok_28 (T:Tx K mg t):zbr P w K mg base CX0 2 t.a_28 t.d_28 ["box"] (zbT K 1 F_28):=by
 have G_26:=ok_26 (P:=P) (w:=w) (base:=base) T
 refine zbj (k:=1) (G:=G_28) (N:=["box","some"]) (ps:=["box"]) (st:=s_28) T.F_28 sc_28 fun cdv A outer s H E hr=> ?_
 refine zah ?_ ?_
 refine zaV 1 ?_ ?_
 exact nd_28
 refine zcK ?_
 refine zaa ?_ ?_
 exact znU
 refine zaa ?_ ?_
 exact zfY
 refine zaa ?_ ?_
 exact zag
 refine zaa ?_ ?_
 exact zc8
 refine zaa ?_ ?_
 exact zc8
 refine zaa ?_ ?_
 refine zaX ?_
 exact zad
 refine zaa ?_ ?_
 refine zcK ?_
 exact zad
 refine zaa ?_ ?_
 exact zon
 refine zaa ?_ ?_
 refine zaX ?_
 refine zaa ?_ ?_
 exact zag
 refine zaa ?_ ?_
 exact zag
 exact zad
 refine zaa ?_ ?_
 refine zaX ?_
 refine zaa ?_ ?_
 exact zag
 exact zad
 refine zaa ?_ ?_
 refine zaX ?_
 refine zaa ?_ ?_
 exact zag
 refine zaa ?_ ?_
 exact zag
 exact zad
 refine zaa ?_ ?_
 refine zqU ?_
 exact zag
 refine zaa ?_ ?_
 refine zaX ?_
 refine zaa ?_ ?_
 exact zag
 refine zaa ?_ ?_
 exact zag
 exact zad
 refine zaa ?_ ?_
 refine zcK ?_
 refine zaa ?_ ?_
 refine zaX ?_
 refine zaa ?_ ?_
 exact zag
 refine zaa ?_ ?_
 exact zag
 refine zaa ?_ ?_
 exact zag
 exact zad
 exact zad
 refine zaa ?_ ?_
 exact zfY
 refine zaa ?_ ?_
 refine zaX ?_
 refine zaa ?_ ?_
 refine zaX ?_
 refine zaa ?_ ?_
 exact zag
 refine zaa ?_ ?_
 exact zag
 exact zad
 exact zad
 exact zad
 refine zap ?_
 refine zaS ?_
 refine zbg ?_ ?_
 exact zac 1
 refine zar (k:=1) (g:=t.a_26) (fd:=t.d_26) (ps:=["box","many"]) ?_ ?_ ?_ ?_ ?_ ?_
 exact G_26
 exact (hr.mono (by decide))
 exact T.m_26
 exact T.F_26.kp
 exact T.b_26
 refine zaa ?_ ?_
 exact zac 0
 refine zaa ?_ ?_
 exact zag
 exact zad
theorem nd_40:(["box","row","at","top","bottom","odd","some"]:List Str).Nodup:=by decide +kernel
theorem sc_40:zas ["box","row","at","top","bottom","odd","some"] ["box","row"] (zae s_40):=⟨rfl,rfl,rfl,by decide +kernel,rfl,by decide +kernel,by decide +kernel⟩
theorem ok_40 (T:Tx K mg t):zbr P w K mg base CX0 3 t.a_40 t.d_40 ["box","row"] (zbT K 2 F_40):=by
 have G_26:=ok_26 (P:=P) (w:=w) (base:=base) T
 have G_28:=ok_28 (P:=P) (w:=w) (base:=base) T
 refine zbj (k:=2) (G:=G_40) (N:=["box","row","at","top","bottom","odd","some"]) (ps:=["box","row"]) (st:=s_40) T.F_40 sc_40 fun cdv A outer s H E hr=> ?_
 refine zah ?_ ?_
 refine zaV 2 ?_ ?_
 exact nd_40
 refine zar (k:=1) (g:=t.a_26) (fd:=t.d_26) (ps:=["box","many"]) ?_ ?_ ?_ ?_ ?_ ?_
 exact G_26
 exact (hr.mono (by decide))
 exact T.m_26
 exact T.F_26.kp
 exact T.b_26
 refine zaa ?_ ?_
 exact zac 0
 refine zaa ?_ ?_
 refine zaA (id:="len") ?_ ?_ ?_ ?_
 exact zaF
 exact zbn
 exact T.n_len
 refine zaa ?_ ?_
 exact zac 1
 exact zad
 exact zad
 refine zah ?_ ?_
 refine zgh ?_ ?_
 refine zbg ?_ ?_
 exact zac 1
 exact zac 2
 refine zcU ?_ ?_
 exact rfl
 refine zaE ?_ ?_
 exact zao 3 nd_40
 refine zaE ?_ ?_
 exact zao 4 nd_40
 exact zb2
 refine zah ?_ ?_
 refine zaV 5 ?_ ?_
 exact nd_40
 refine zcK ?_
 refine zaa ?_ ?_
 refine zaX ?_
 refine zaa ?_ ?_
 refine za7 ?_ ?_ ?_
 exact zaz
 exact zac 3
 exact zag
 refine zaa ?_ ?_
 exact zac 4
 exact zad
 refine zaa ?_ ?_
 refine zaX ?_
 refine zaa ?_ ?_
 refine za7 ?_ ?_ ?_
 exact zbq
 exact zag
 exact zac 3
 refine zaa ?_ ?_
 refine za7 ?_ ?_ ?_
 exact zbq
 exact zag
 exact zac 4
 exact zad
 refine zaa ?_ ?_
 refine zaX ?_
 refine zaa ?_ ?_
 refine za7 ?_ ?_ ?_
 exact zhn
 refine zqU ?_
 exact zac 3
 exact zag
 refine zaa ?_ ?_
 exact zac 4
 exact zad
 refine zaa ?_ ?_
 refine zaX ?_
 refine zaa ?_ ?_
 exact zac 3
 refine zaa ?_ ?_
 refine za7 ?_ ?_ ?_
 exact zaz
 exact zac 4
 exact zag
 exact zad
 refine zaa ?_ ?_
 refine zaX ?_
 refine zaa ?_ ?_
 exact zac 3
 refine zaa ?_ ?_
 exact zag
 exact zad
 refine zaa ?_ ?_
 refine zaX ?_
 refine zaa ?_ ?_
 exact zfY
 refine zaa ?_ ?_
 exact zac 4
 exact zad
 exact zad
 refine zah ?_ ?_
 refine zaV 5 ?_ ?_
 exact nd_40
 refine za7 ?_ ?_ ?_
 exact zaz
 exact zac 5
 refine zcK ?_
 refine zaa ?_ ?_
 refine zaX ?_
 refine zaa ?_ ?_
 exact zac 3
 refine zaa ?_ ?_
 exact zfY
 exact zad
 refine zaa ?_ ?_
 refine zaX ?_
 refine zaa ?_ ?_
 refine zbe (T:="str") ?_ ?_ ?_ ?_
 exact zkp
 exact zoQ
 exact T.n_str
 refine zaa ?_ ?_
 exact zac 3
 exact zad
 refine zaa ?_ ?_
 exact zac 4
 exact zad
 refine zaa ?_ ?_
 exact zac 3
 refine zaa ?_ ?_
 exact znU
 refine zaa ?_ ?_
 refine zcK ?_
 refine zaa ?_ ?_
 exact zac 3
 refine zaa ?_ ?_
 exact zac 4
 exact zad
 refine zaa ?_ ?_
 refine zaX ?_
 refine zaa ?_ ?_
 exact zac 3
 exact zad
 refine zaa ?_ ?_
 refine zaX ?_
 refine zaa ?_ ?_
 exact zag
 refine zaa ?_ ?_
 exact zag
 exact zad
 refine zaa ?_ ?_
 refine zaX ?_
 refine zaa ?_ ?_
 exact zag
 refine zaa ?_ ?_
 exact zag
 exact zad
 refine zaa ?_ ?_
 refine zaX ?_
 refine zaa ?_ ?_
 refine za7 ?_ ?_ ?_
 exact zbq
 exact zac 3
 exact zag
 refine zaa ?_ ?_
 exact zac 4
 exact zad
 exact zad
 refine zah ?_ ?_
 refine zaV 6 ?_ ?_
 exact nd_40
 refine zcK ?_
 refine zaa ?_ ?_
 refine za7 ?_ ?_ ?_
 exact zaz
 refine za7 ?_ ?_ ?_
 exact zaz
 refine zfE ?_ ?_ ?_
 exact zac 1
 exact zhg
 refine zhm ?_
 exact zac 2
 refine zaX ?_
 refine zaa ?_ ?_
 refine zbg ?_ ?_
 exact zac 5
 refine zar (k:=1) (g:=t.a_26) (fd:=t.d_26) (ps:=["box","many"]) ?_ ?_ ?_ ?_ ?_ ?_
 exact G_26
 exact (hr.mono (by decide))
 exact T.m_26
 exact T.F_26.kp
 exact T.b_26
 refine zaa ?_ ?_
 exact zac 0
 refine zaa ?_ ?_
 exact zag
 exact zad
 exact zad
 refine zfE ?_ ?_ ?_
 exact zac 1
 refine zhm ?_
 refine za7 ?_ ?_ ?_
 exact zaz
 exact zac 2
 exact zag
 exact zhg
 refine zaa ?_ ?_
 refine zfE ?_ ?_ ?_
 exact zac 1
 refine zhm ?_
 exact zag
 exact zhg
 refine zaa ?_ ?_
 refine za7 ?_ ?_ ?_
 exact zaz
 exact zac 1
 refine zaX ?_
 refine zaa ?_ ?_
 refine zaX ?_
 refine zaa ?_ ?_
 exact zag
 refine zaa ?_ ?_
 exact zag
 exact zad
 exact zad
 refine zaa ?_ ?_
 refine zbe (T:="list") ?_ ?_ ?_ ?_
 exact ziL
 exact zoA
 exact T.n_list
 refine zaa ?_ ?_
 exact zac 1
 exact zad
 refine zaa ?_ ?_
 refine zaX ?_
 refine zaa ?_ ?_
 exact zac 1
 exact zad
 refine zaa ?_ ?_
 exact znU
 exact zad
 refine zap ?_
 refine zaS ?_
 refine zbg ?_ ?_
 refine za7 ?_ ?_ ?_
 exact zaz
 exact zac 6
 refine zcK ?_
 refine zaa ?_ ?_
 refine zar (k:=2) (g:=t.a_28) (fd:=t.d_28) (ps:=["box"]) ?_ ?_ ?_ ?_ ?_ ?_
 exact G_28
 exact (hr.mono (by decide))
 exact T.m_28
 exact T.F_28.kp
 exact T.b_28
 refine zaa ?_ ?_
 exact zac 0
 exact zad
 refine zaa ?_ ?_
 refine zrQ ?_
 exact zac 1
 exact zad
 refine zbg ?_ ?_
 refine zcK ?_
 refine zaa ?_ ?_
 exact zag
 refine zaa ?_ ?_
 exact zag
 refine zaa ?_ ?_
 exact zag
 refine zaa ?_ ?_
 exact zag
 refine zaa ?_ ?_
 exact zag
 refine zaa ?_ ?_
 exact zag
 refine zaa ?_ ?_
 exact zag
 refine zaa ?_ ?_
 exact zag
 refine zaa ?_ ?_
 exact zag
 refine zaa ?_ ?_
 exact zag
 refine zaa ?_ ?_
 exact zag
 exact zad
 refine zar (k:=1) (g:=t.a_26) (fd:=t.d_26) (ps:=["box","many"]) ?_ ?_ ?_ ?_ ?_ ?_
 exact G_26
 exact (hr.mono (by decide))
 exact T.m_26
 exact T.F_26.kp
 exact T.b_26
 refine zaa ?_ ?_
 exact zac 0
 refine zaa ?_ ?_
 exact zag
 exact zad
theorem sc_27:zas ["thing"] ["thing"] (zae s_27):=⟨rfl,rfl,rfl,by decide +kernel,rfl,by decide +kernel,by decide +kernel⟩
theorem ok_27 (T:Tx K mg t):zbr P w K mg base CX0 1 t.a_27 t.d_27 ["thing"] (zbT K 1 F_27):=by
 refine zbj (k:=0) (G:=G_27) (N:=["thing"]) (ps:=["thing"]) (st:=s_27) T.F_27 sc_27 fun cdv A outer s H E hr=> ?_
 refine zap ?_
 refine zaS ?_
 refine zfU ?_ ?_
 refine zfl ?_ ?_ ?_ ?_ ?_
 exact zjV
 exact zjb
 exact T.n_isinstance
 exact T.n_int
 exact zac 0
 refine zgi ?_
 refine znQ ?_
 refine zfl ?_ ?_ ?_ ?_ ?_
 exact zfG
 exact zg1
 exact T.n_isinstance
 exact T.n_bool
 exact zac 0
theorem sc_36:zas ["thing"] ["thing"] (zae s_36):=⟨rfl,rfl,rfl,by decide +kernel,rfl,by decide +kernel,by decide +kernel⟩
theorem ok_36 (T:Tx K mg t):zbr P w K mg base CX0 2 t.a_36 t.d_36 ["thing"] (zbT K 1 F_36):=by
 have G_27:=ok_27 (P:=P) (w:=w) (base:=base) T
 have G_35:=ok_35 (P:=P) (w:=w) (base:=base) T
 refine zbj (k:=1) (G:=G_36) (N:=["thing"]) (ps:=["thing"]) (st:=s_36) T.F_36 sc_36 fun cdv A outer s H E hr=> ?_
 refine zah ?_ ?_
 refine zgl ?_ ?_ ?_
 refine zdn ?_
 refine zeV ?_ ?_
 refine zbL ?_
 refine zbM ?_
 refine zfl ?_ ?_ ?_ ?_ ?_
 exact zdF
 exact za9
 exact T.n_isinstance
 exact T.n_tuple
 exact zac 0
 refine zeV ?_ ?_
 refine zbb ?_ ?_ ?_
 exact (zeH (zfb hr))
 refine zaA (id:="len") ?_ ?_ ?_ ?_
 exact zaF
 exact zbn
 exact T.n_len
 refine zaa ?_ ?_
 exact zac 0
 exact zad
 exact zag
 refine zeV ?_ ?_
 refine zbL ?_
 refine zbM ?_
 refine zar (k:=1) (g:=t.a_27) (fd:=t.d_27) (ps:=["thing"]) ?_ ?_ ?_ ?_ ?_ ?_
 exact G_27
 exact (hr.mono (by decide))
 exact T.m_27
 exact T.F_27.kp
 exact T.b_27
 refine zaa ?_ ?_
 refine zbg ?_ ?_
 exact zac 0
 exact zag
 exact zad
 refine zeu ?_
 refine zbL ?_
 refine zbM ?_
 refine zar (k:=1) (g:=t.a_27) (fd:=t.d_27) (ps:=["thing"]) ?_ ?_ ?_ ?_ ?_ ?_
 exact G_27
 exact (hr.mono (by decide))
 exact T.m_27
 exact T.F_27.kp
 exact T.b_27
 refine zaa ?_ ?_
 refine zbg ?_ ?_
 exact zac 0
 exact zag
 exact zad
 refine zap ?_
 refine zaS ?_
 exact zfY
 exact zbD
 refine zap ?_
 refine zaS ?_
 refine zfU ?_ ?_
 refine zeX ?_ ?_ ?_
 exact zhG
 refine zbg ?_ ?_
 exact zac 0
 exact zag
 exact zag
 refine zgi ?_
 refine zeX ?_ ?_ ?_
 exact (zea (zfb hr))
 refine zar (k:=1) (g:=t.a_35) (fd:=t.d_35) (ps:=["top","bottom"]) ?_ ?_ ?_ ?_ ?_ ?_
 exact G_35
 exact (hr.mono (by decide))
 exact T.m_35
 exact T.F_35.kp
 exact T.b_35
 refine zaa ?_ ?_
 refine zbg ?_ ?_
 exact zac 0
 exact zag
 refine zaa ?_ ?_
 refine zbg ?_ ?_
 exact zac 0
 exact zag
 exact zad
 exact zac 0
theorem nd_37:(["some","top","bottom","one"]:List Str).Nodup:=by decide +kernel
theorem sc_37:zas ["some","top","bottom","one"] ["some"] (zae s_37):=⟨rfl,rfl,rfl,by decide +kernel,rfl,by decide +kernel,by decide +kernel⟩
theorem ok_37 (T:Tx K mg t):zbr P w K mg base CX0 2 t.a_37 t.d_37 ["some"] (zbT K 1 F_37):=by
 have G_35:=ok_35 (P:=P) (w:=w) (base:=base) T
 refine zbj (k:=1) (G:=G_37) (N:=["some","top","bottom","one"]) (ps:=["some"]) (st:=s_37) T.F_37 sc_37 fun cdv A outer s H E hr=> ?_
 refine zah ?_ ?_
 refine zgh ?_ ?_
 refine zaX ?_
 refine zaa ?_ ?_
 exact zag
 refine zaa ?_ ?_
 exact zag
 exact zad
 refine zcU ?_ ?_
 exact rfl
 refine zaE ?_ ?_
 exact zao 1 nd_37
 refine zaE ?_ ?_
 exact zao 2 nd_37
 exact zb2
 refine zah ?_ ?_
 refine zgL ?_ ?_ ?_ ?_ ?_
 exact rfl
 exact PassesOwn.never
 refine zdC ?_
 exact zac 0
 exact zao 3 nd_37
 refine zap ?_
 refine zgh ?_ ?_
 refine zar (k:=1) (g:=t.a_35) (fd:=t.d_35) (ps:=["top","bottom"]) ?_ ?_ ?_ ?_ ?_ ?_
 exact G_35
 exact (hr.mono (by decide))
 exact T.m_35
 exact T.F_35.kp
 exact T.b_35
 refine zaa ?_ ?_
 refine za7 ?_ ?_ ?_
 exact zaz
 refine za7 ?_ ?_ ?_
 exact zbq
 exact zac 1
 refine zbg ?_ ?_
 exact zac 3
 exact zag
 refine za7 ?_ ?_ ?_
 exact zbq
 refine zbg ?_ ?_
 exact zac 3
 exact zag
 exact zac 2
 refine zaa ?_ ?_
 refine za7 ?_ ?_ ?_
 exact zbq
 exact zac 2
 refine zbg ?_ ?_
 exact zac 3
 exact zag
 exact zad
 refine zcU ?_ ?_
 exact rfl
 refine zaE ?_ ?_
 exact zao 1 nd_37
 refine zaE ?_ ?_
 exact zao 2 nd_37
 exact zb2
 refine zap ?_
 refine zaS ?_
 refine zaX ?_
 refine zaa ?_ ?_
 exact zac 1
 refine zaa ?_ ?_
 exact zac 2
 exact zad
theorem nd_38:(["stock","thing","one","top","bottom"]:List Str).Nodup:=by decide +kernel
theorem zqj:(["one"]:List Str).Nodup:=by decide +kernel
theorem zmq:(["share","offer","one"]:List Str).Nodup:=by decide +kernel
theorem sc_38:zas ["stock","thing","one","top","bottom"] ["stock","thing"] (zae s_38):=⟨rfl,rfl,rfl,by decide +kernel,rfl,by decide +kernel,by decide +kernel⟩
theorem ok_38 (T:Tx K mg t):zbr P w K mg base CX0 3 t.a_38 t.d_38 ["stock","thing"] (zbT K 2 F_38):=by
 have G_36:=ok_36 (P:=P) (w:=w) (base:=base) T
 have G_37:=ok_37 (P:=P) (w:=w) (base:=base) T
 refine zbj (k:=2) (G:=G_38) (N:=["stock","thing","one","top","bottom"]) (ps:=["stock","thing"]) (st:=s_38) T.F_38 sc_38 fun cdv A outer s H E hr=> ?_
 refine zah ?_ ?_
 refine zgl ?_ ?_ ?_
 refine zdn ?_
 refine zeV ?_ ?_
 refine zbL ?_
 refine zbM ?_
 refine zfl ?_ ?_ ?_ ?_ ?_
 exact zdF
 exact za9
 exact T.n_isinstance
 exact T.n_tuple
 exact zac 1
 refine zeu ?_
 refine zbb ?_ ?_ ?_
 exact (zeH (zfb hr))
 refine zaA (id:="len") ?_ ?_ ?_ ?_
 exact zaF
 exact zbn
 exact T.n_len
 refine zaa ?_ ?_
 exact zac 1
 exact zad
 refine zaA (id:="len") ?_ ?_ ?_ ?_
 exact zaF
 exact zbn
 exact T.n_len
 refine zaa ?_ ?_
 refine zbg ?_ ?_
 exact zac 0
 exact zag
 exact zad
 refine zap ?_
 refine zaS ?_
 exact zfY
 exact zbD
 refine zah ?_ ?_
 refine zgl ?_ ?_ ?_
 refine zbL ?_
 refine zbM ?_
 refine zaA (id:="all") ?_ ?_ ?_ ?_
 exact (zdG rfl)
 exact zhM
 exact T.n_all
 refine zaa ?_ ?_
 refine zbN (N:=["one"]) ?_ ?_ ?_ ?_ ?_ ?_ ?_
 exact rfl
 exact (BOk.of (Xn:=(zae s_38).names) (XN:=["stock","thing","one","top","bottom"]) rfl rfl rfl (by decide +kernel))
 exact (zaP.name (i:=0) rfl)
 refine zdC ?_
 exact zac 1
 intro _ _ _
 exact zao 0 zqj
 intro _ _ _
 exact zcp
 intro _ _ _
 refine zfU ?_ ?_
 refine zar (k:=2) (g:=t.a_36) (fd:=t.d_36) (ps:=["thing"]) ?_ ?_ ?_ ?_ ?_ ?_
 exact G_36
 exact (hr.mono (by decide))
 exact T.m_36
 exact T.F_36.kp
 exact T.b_36
 refine zaa ?_ ?_
 exact zac 0
 exact zad
 refine zgi ?_
 refine zeX ?_ ?_ ?_
 exact zmN
 refine zbg ?_ ?_
 exact zac 0
 exact zag
 exact zag
 exact zad
 refine zap ?_
 refine zaS ?_
 exact zfY
 exact zbD
 refine zah ?_ ?_
 refine zgL ?_ ?_ ?_ ?_ ?_
 exact rfl
 exact PassesOwn.never
 refine zeG ?_ ?_
 exact T.n_range
 refine zaa ?_ ?_
 refine zbg ?_ ?_
 exact zac 0
 exact zag
 exact zad
 exact zao 2 nd_38
 refine zah ?_ ?_
 refine zgh ?_ ?_
 refine zar (k:=2) (g:=t.a_37) (fd:=t.d_37) (ps:=["some"]) ?_ ?_ ?_ ?_ ?_ ?_
 exact G_37
 exact (hr.mono (by decide))
 exact T.m_37
 exact T.F_37.kp
 exact T.b_37
 refine zaa ?_ ?_
 refine zbN (N:=["share","offer","one"]) ?_ ?_ ?_ ?_ ?_ ?_ ?_
 exact rfl
 exact (BOk.of (Xn:=(zae s_38).names) (XN:=["stock","thing","one","top","bottom"]) rfl rfl rfl (by decide +kernel))
 exact (zaP.tup (zaY.cons (i:=0) rfl (zaY.cons (i:=1) rfl zaY.nil)))
 refine zlx ?_ ?_
 exact T.n_zip
 refine zaa ?_ ?_
 exact zac 1
 refine zaa ?_ ?_
 refine zbg ?_ ?_
 exact zac 0
 exact zag
 exact zad
 intro _ _ _
 refine zcU ?_ ?_
 exact rfl
 refine zaE ?_ ?_
 exact zao 0 zmq
 refine zaE ?_ ?_
 exact zao 1 zmq
 exact zb2
 intro _ _ _
 refine zd7 ?_
 refine zbb ?_ ?_ ?_
 exact (zh6 (zfb hr))
 exact zac 2
 refine zbg ?_ ?_
 exact zac 1
 exact zag
 intro _ _ _
 exact zac 0
 exact zad
 refine zcU ?_ ?_
 exact rfl
 refine zaE ?_ ?_
 exact zao 3 nd_38
 refine zaE ?_ ?_
 exact zao 4 nd_38
 exact zb2
 refine zap ?_
 refine zgl ?_ ?_ ?_
 refine zbb ?_ ?_ ?_
 exact zhy
 exact zac 3
 exact zac 4
 refine zap ?_
 refine zaS ?_
 exact zfY
 exact zbD
 refine zap ?_
 refine zaS ?_
 exact zfY
theorem sc_12:zas ["thing"] ["thing"] (zae s_12):=⟨rfl,rfl,rfl,by decide +kernel,rfl,by decide +kernel,by decide +kernel⟩
theorem ok_12 (T:Tx K mg t):zbr P w K mg base CX0 1 t.a_12 t.d_12 ["thing"] (zbT K 1 F_12):=by
 refine zbj (k:=0) (G:=G_12) (N:=["thing"]) (ps:=["thing"]) (st:=s_12) T.F_12 sc_12 fun cdv A outer s H E hr=> ?_
 refine zap ?_
 refine zaS ?_
 refine zfU ?_ ?_
 refine zfl ?_ ?_ ?_ ?_ ?_
 exact zjV
 exact zjb
 exact T.n_isinstance
 exact T.n_int
 exact zac 0
 refine zgi ?_
 refine znQ ?_
 refine zfl ?_ ?_ ?_ ?_ ?_
 exact zfG
 exact zg1
 exact T.n_isinstance
 exact T.n_bool
 exact zac 0
theorem sc_13:zas ["thing"] ["thing"] (zae s_13):=⟨rfl,rfl,rfl,by decide +kernel,rfl,by decide +kernel,by decide +kernel⟩
theorem ok_13 (T:Tx K mg t):zbr P w K mg base CX0 1 t.a_13 t.d_13 ["thing"] (zbT K 1 F_13):=by
 refine zbj (k:=0) (G:=G_13) (N:=["thing"]) (ps:=["thing"]) (st:=s_13) T.F_13 sc_13 fun cdv A outer s H E hr=> ?_
 refine zap ?_
 refine zaS ?_
 refine zfU ?_ ?_
 refine zfl ?_ ?_ ?_ ?_ ?_
 exact zdF
 exact za9
 exact T.n_isinstance
 exact T.n_tuple
 exact zac 0
 refine zgi ?_
 refine zeX ?_ ?_ ?_
 exact (zea (zfb hr))
 refine zaA (id:="len") ?_ ?_ ?_ ?_
 exact zaF
 exact zbn
 exact T.n_len
 refine zaa ?_ ?_
 exact zac 0
 exact zad
 exact zag
theorem nd_15:(["top","bottom","one","other","rest"]:List Str).Nodup:=by decide +kernel
theorem sc_15:zas ["top","bottom","one","other","rest"] ["top","bottom"] (zae s_15):=⟨rfl,rfl,rfl,by decide +kernel,rfl,by decide +kernel,by decide +kernel⟩
theorem ok_15 (T:Tx K mg t):zbr P w K mg base CX0 1 t.a_15 t.d_15 ["top","bottom"] (zbT K 2 F_15):=by
 refine zbj (k:=0) (G:=G_15) (N:=["top","bottom","one","other","rest"]) (ps:=["top","bottom"]) (st:=s_15) T.F_15 sc_15 fun cdv A outer s H E hr=> ?_
 refine zah ?_ ?_
 refine zaV 2 ?_ ?_
 exact nd_15
 exact zac 0
 refine zah ?_ ?_
 refine zaV 3 ?_ ?_
 exact nd_15
 exact zac 1
 refine zah ?_ ?_
 refine zgZ 20000 ?_ ?_ ?_
 exact PassesOwn.never
 refine zbb ?_ ?_ ?_
 exact zhG
 exact zac 3
 exact zag
 refine zah ?_ ?_
 refine zaV 4 ?_ ?_
 exact nd_15
 refine za7 ?_ ?_ ?_
 exact zdo
 exact zac 2
 exact zac 3
 refine zah ?_ ?_
 refine zaV 2 ?_ ?_
 exact nd_15
 exact zac 3
 refine zap ?_
 refine zaV 3 ?_ ?_
 exact nd_15
 exact zac 4
 refine zap ?_
 refine zaS ?_
 exact zac 2
theorem sc_17:zas ["thing"] ["thing"] (zae s_17):=⟨rfl,rfl,rfl,by decide +kernel,rfl,by decide +kernel,by decide +kernel⟩
theorem ok_17 (T:Tx K mg t):zbr P w K mg base CX0 2 t.a_17 t.d_17 ["thing"] (zbT K 1 F_17):=by
 have G_12:=ok_12 (P:=P) (w:=w) (base:=base) T
 have G_13:=ok_13 (P:=P) (w:=w) (base:=base) T
 have G_15:=ok_15 (P:=P) (w:=w) (base:=base) T
 refine zbj (k:=1) (G:=G_17) (N:=["thing"]) (ps:=["thing"]) (st:=s_17) T.F_17 sc_17 fun cdv A outer s H E hr=> ?_
 refine zah ?_ ?_
 refine zgl ?_ ?_ ?_
 refine zdn ?_
 refine zeV ?_ ?_
 refine zbL ?_
 refine zbM ?_
 refine zar (k:=1) (g:=t.a_13) (fd:=t.d_13) (ps:=["thing"]) ?_ ?_ ?_ ?_ ?_ ?_
 exact G_13
 exact (hr.mono (by decide))
 exact T.m_13
 exact T.F_13.kp
 exact T.b_13
 refine zaa ?_ ?_
 exact zac 0
 exact zad
 refine zeV ?_ ?_
 refine zbL ?_
 refine zbM ?_
 refine zar (k:=1) (g:=t.a_12) (fd:=t.d_12) (ps:=["thing"]) ?_ ?_ ?_ ?_ ?_ ?_
 exact G_12
 exact (hr.mono (by decide))
 exact T.m_12
 exact T.F_12.kp
 exact T.b_12
 refine zaa ?_ ?_
 refine zbg ?_ ?_
 exact zac 0
 exact zag
 exact zad
 refine zeu ?_
 refine zbL ?_
 refine zbM ?_
 refine zar (k:=1) (g:=t.a_12) (fd:=t.d_12) (ps:=["thing"]) ?_ ?_ ?_ ?_ ?_ ?_
 exact G_12
 exact (hr.mono (by decide))
 exact T.m_12
 exact T.F_12.kp
 exact T.b_12
 refine zaa ?_ ?_
 refine zbg ?_ ?_
 exact zac 0
 exact zag
 exact zad
 refine zap ?_
 refine zaS ?_
 exact zfY
 exact zbD
 refine zap ?_
 refine zaS ?_
 refine zfU ?_ ?_
 refine zeX ?_ ?_ ?_
 exact zhG
 refine zbg ?_ ?_
 exact zac 0
 exact zag
 exact zag
 refine zgi ?_
 refine zeX ?_ ?_ ?_
 exact (zea (zfb hr))
 refine zar (k:=1) (g:=t.a_15) (fd:=t.d_15) (ps:=["top","bottom"]) ?_ ?_ ?_ ?_ ?_ ?_
 exact G_15
 exact (hr.mono (by decide))
 exact T.m_15
 exact T.F_15.kp
 exact T.b_15
 refine zaa ?_ ?_
 refine zbg ?_ ?_
 exact zac 0
 exact zag
 refine zaa ?_ ?_
 refine zbg ?_ ?_
 exact zac 0
 exact zag
 exact zad
 exact zag
theorem sc_22:zas ["thing"] ["thing"] (zae s_22):=⟨rfl,rfl,rfl,by decide +kernel,rfl,by decide +kernel,by decide +kernel⟩
theorem ok_22 (T:Tx K mg t):zbr P w K mg base CX0 3 t.a_22 t.d_22 ["thing"] (zbT K 1 F_22):=by
 have G_17:=ok_17 (P:=P) (w:=w) (base:=base) T
 refine zbj (k:=2) (G:=G_22) (N:=["thing"]) (ps:=["thing"]) (st:=s_22) T.F_22 sc_22 fun cdv A outer s H E hr=> ?_
 refine zap ?_
 refine zaS ?_
 refine zfU ?_ ?_
 refine zar (k:=2) (g:=t.a_17) (fd:=t.d_17) (ps:=["thing"]) ?_ ?_ ?_ ?_ ?_ ?_
 exact G_17
 exact (hr.mono (by decide))
 exact T.m_17
 exact T.F_17.kp
 exact T.b_17
 refine zaa ?_ ?_
 exact zac 0
 exact zad
 refine zgi ?_
 refine zeX ?_ ?_ ?_
 exact zmN
 refine zbg ?_ ?_
 exact zac 0
 exact zag
 exact zag
theorem zr1:(["share"]:List Str).Nodup:=by decide +kernel
theorem sc_21:zas ["thing","many"] ["thing","many"] (zae s_21):=⟨rfl,rfl,rfl,by decide +kernel,rfl,by decide +kernel,by decide +kernel⟩
theorem ok_21 (T:Tx K mg t):zbr P w K mg base CX0 4 t.a_21 t.d_21 ["thing","many"] (zbT K 2 F_21):=by
 have G_22:=ok_22 (P:=P) (w:=w) (base:=base) T
 refine zbj (k:=3) (G:=G_21) (N:=["thing","many"]) (ps:=["thing","many"]) (st:=s_21) T.F_21 sc_21 fun cdv A outer s H E hr=> ?_
 refine zah ?_ ?_
 refine zgl ?_ ?_ ?_
 refine zdn ?_
 refine zeV ?_ ?_
 refine zbL ?_
 refine zbM ?_
 refine zfl ?_ ?_ ?_ ?_ ?_
 exact zdF
 exact za9
 exact T.n_isinstance
 exact T.n_tuple
 exact zac 0
 refine zeu ?_
 refine zbb ?_ ?_ ?_
 exact (zeH (zfb hr))
 refine zaA (id:="len") ?_ ?_ ?_ ?_
 exact zaF
 exact zbn
 exact T.n_len
 refine zaa ?_ ?_
 exact zac 0
 exact zad
 exact zac 1
 refine zap ?_
 refine zaS ?_
 exact zfY
 exact zbD
 refine zap ?_
 refine zaS ?_
 refine zaA (id:="all") ?_ ?_ ?_ ?_
 exact (zdG rfl)
 exact zhM
 exact T.n_all
 refine zaa ?_ ?_
 refine zbN (N:=["share"]) ?_ ?_ ?_ ?_ ?_ ?_ ?_
 exact rfl
 exact (BOk.of (Xn:=(zae s_21).names) (XN:=["thing","many"]) rfl rfl rfl (by decide +kernel))
 exact (zaP.name (i:=0) rfl)
 refine zdC ?_
 exact zac 0
 intro _ _ _
 exact zao 0 zr1
 intro _ _ _
 exact zcp
 intro _ _ _
 refine zar (k:=3) (g:=t.a_22) (fd:=t.d_22) (ps:=["thing"]) ?_ ?_ ?_ ?_ ?_ ?_
 exact G_22
 exact (hr.mono (by decide))
 exact T.m_22
 exact T.F_22.kp
 exact T.b_22
 refine zaa ?_ ?_
 exact zac 0
 exact zad
 exact zad
theorem nd_14:(["top","bottom","shared"]:List Str).Nodup:=by decide +kernel
theorem sc_14:zas ["top","bottom","shared"] ["top","bottom"] (zae s_14):=⟨rfl,rfl,rfl,by decide +kernel,rfl,by decide +kernel,by decide +kernel⟩
theorem ok_14 (T:Tx K mg t):zbr P w K mg base CX0 2 t.a_14 t.d_14 ["top","bottom"] (zbT K 2 F_14):=by
 have G_15:=ok_15 (P:=P) (w:=w) (base:=base) T
 refine zbj (k:=1) (G:=G_14) (N:=["top","bottom","shared"]) (ps:=["top","bottom"]) (st:=s_14) T.F_14 sc_14 fun cdv A outer s H E hr=> ?_
 refine zah ?_ ?_
 refine zaV 2 ?_ ?_
 exact nd_14
 refine zar (k:=1) (g:=t.a_15) (fd:=t.d_15) (ps:=["top","bottom"]) ?_ ?_ ?_ ?_ ?_ ?_
 exact G_15
 exact (hr.mono (by decide))
 exact T.m_15
 exact T.F_15.kp
 exact T.b_15
 refine zaa ?_ ?_
 exact zac 0
 refine zaa ?_ ?_
 exact zac 1
 exact zad
 refine zap ?_
 refine zaS ?_
 refine zaX ?_
 refine zaa ?_ ?_
 refine za7 ?_ ?_ ?_
 exact zei
 exact zac 0
 exact zac 2
 refine zaa ?_ ?_
 refine za7 ?_ ?_ ?_
 exact zei
 exact zac 1
 exact zac 2
 exact zad
theorem nd_18:(["fractions","top","bottom","fraction"]:List Str).Nodup:=by decide +kernel
theorem sc_18:zas ["fractions","top","bottom","fraction"] ["fractions"] (zae s_18):=⟨rfl,rfl,rfl,by decide +kernel,rfl,by decide +kernel,by decide +kernel⟩
theorem ok_18 (T:Tx K mg t):zbr P w K mg base CX0 3 t.a_18 t.d_18 ["fractions"] (zbT K 1 F_18):=by
 have G_14:=ok_14 (P:=P) (w:=w) (base:=base) T
 refine zbj (k:=2) (G:=G_18) (N:=["fractions","top","bottom","fraction"]) (ps:=["fractions"]) (st:=s_18) T.F_18 sc_18 fun cdv A outer s H E hr=> ?_
 refine zah ?_ ?_
 refine zaV 1 ?_ ?_
 exact nd_18
 exact zag
 refine zah ?_ ?_
 refine zaV 2 ?_ ?_
 exact nd_18
 exact zag
 refine zah ?_ ?_
 refine zgL ?_ ?_ ?_ ?_ ?_
 exact rfl
 exact PassesOwn.never
 refine zdC ?_
 exact zac 0
 exact zao 3 nd_18
 refine zah ?_ ?_
 refine zaV 1 ?_ ?_
 exact nd_18
 refine za7 ?_ ?_ ?_
 exact zaz
 refine za7 ?_ ?_ ?_
 exact zbq
 exact zac 1
 refine zbg ?_ ?_
 exact zac 3
 exact zag
 refine za7 ?_ ?_ ?_
 exact zbq
 refine zbg ?_ ?_
 exact zac 3
 exact zag
 exact zac 2
 refine zap ?_
 refine zaV 2 ?_ ?_
 exact nd_18
 refine za7 ?_ ?_ ?_
 exact zbq
 exact zac 2
 refine zbg ?_ ?_
 exact zac 3
 exact zag
 refine zap ?_
 refine zaS ?_
 refine zar (k:=2) (g:=t.a_14) (fd:=t.d_14) (ps:=["top","bottom"]) ?_ ?_ ?_ ?_ ?_ ?_
 exact G_14
 exact (hr.mono (by decide))
 exact T.m_14
 exact T.F_14.kp
 exact T.b_14
 refine zaa ?_ ?_
 exact zac 1
 refine zaa ?_ ?_
 exact zac 2
 exact zad
theorem sc_16:zas ["fraction","other"] ["fraction","other"] (zae s_16):=⟨rfl,rfl,rfl,by decide +kernel,rfl,by decide +kernel,by decide +kernel⟩
theorem ok_16 (T:Tx K mg t):zbr P w K mg base CX0 1 t.a_16 t.d_16 ["fraction","other"] (zbT K 2 F_16):=by
 refine zbj (k:=0) (G:=G_16) (N:=["fraction","other"]) (ps:=["fraction","other"]) (st:=s_16) T.F_16 sc_16 fun cdv A outer s H E hr=> ?_
 refine zap ?_
 refine zaS ?_
 refine zeX ?_ ?_ ?_
 exact zhy
 refine za7 ?_ ?_ ?_
 exact zbq
 refine zbg ?_ ?_
 exact zac 0
 exact zag
 refine zbg ?_ ?_
 exact zac 1
 exact zag
 refine za7 ?_ ?_ ?_
 exact zbq
 refine zbg ?_ ?_
 exact zac 1
 exact zag
 refine zbg ?_ ?_
 exact zac 0
 exact zag
theorem nd_23:(["stock","thing","shares","had"]:List Str).Nodup:=by decide +kernel
theorem zp7:(["offer","share","thing"]:List Str).Nodup:=by decide +kernel
theorem sc_23:zas ["stock","thing","shares","had"] ["stock","thing","shares"] (zae s_23):=⟨rfl,rfl,rfl,by decide +kernel,rfl,by decide +kernel,by decide +kernel⟩
theorem ok_23 (T:Tx K mg t):zbr P w K mg base CX0 4 t.a_23 t.d_23 ["stock","thing","shares"] (zbT K 3 F_23):=by
 have G_18:=ok_18 (P:=P) (w:=w) (base:=base) T
 have G_16:=ok_16 (P:=P) (w:=w) (base:=base) T
 refine zbj (k:=3) (G:=G_23) (N:=["stock","thing","shares","had"]) (ps:=["stock","thing","shares"]) (st:=s_23) T.F_23 sc_23 fun cdv A outer s H E hr=> ?_
 refine zah ?_ ?_
 refine zaV 3 ?_ ?_
 exact nd_23
 refine zar (k:=3) (g:=t.a_18) (fd:=t.d_18) (ps:=["fractions"]) ?_ ?_ ?_ ?_ ?_ ?_
 exact G_18
 exact (hr.mono (by decide))
 exact T.m_18
 exact T.F_18.kp
 exact T.b_18
 refine zaa ?_ ?_
 refine zbN (N:=["offer","share","thing"]) ?_ ?_ ?_ ?_ ?_ ?_ ?_
 exact rfl
 exact (BOk.of (Xn:=(zae s_23).names) (XN:=["stock","thing","shares","had"]) rfl rfl rfl (by decide +kernel))
 exact (zaP.tup (zaY.cons (i:=0) rfl (zaY.cons (i:=1) rfl zaY.nil)))
 refine zlx ?_ ?_
 exact T.n_zip
 refine zaa ?_ ?_
 refine zbg ?_ ?_
 exact zac 0
 exact zag
 refine zaa ?_ ?_
 exact zac 2
 exact zad
 intro _ _ _
 refine zcU ?_ ?_
 exact rfl
 refine zaE ?_ ?_
 exact zao 0 zp7
 refine zaE ?_ ?_
 exact zao 1 zp7
 exact zb2
 intro _ _ _
 refine zd7 ?_
 refine zbb ?_ ?_ ?_
 exact (zh6 (zfb hr))
 exact zac 2
 refine zbg ?_ ?_
 exact zac 0
 exact zag
 intro _ _ _
 exact zac 1
 exact zad
 refine zap ?_
 refine zaS ?_
 refine znQ ?_
 refine zar (k:=1) (g:=t.a_16) (fd:=t.d_16) (ps:=["fraction","other"]) ?_ ?_ ?_ ?_ ?_ ?_
 exact G_16
 exact (hr.mono (by decide))
 exact T.m_16
 exact T.F_16.kp
 exact T.b_16
 refine zaa ?_ ?_
 exact zac 3
 refine zaa ?_ ?_
 refine zaX ?_
 refine zaa ?_ ?_
 exact zag
 refine zaa ?_ ?_
 exact zag
 exact zad
 exact zad
theorem zsq:(["number","stock","thing"]:List Str).Nodup:=by decide +kernel
theorem sc_19:zas ["stock","thing"] ["stock","thing"] (zae s_19):=⟨rfl,rfl,rfl,by decide +kernel,rfl,by decide +kernel,by decide +kernel⟩
theorem ok_19 (T:Tx K mg t):zbr P w K mg base CX0 5 t.a_19 t.d_19 ["stock","thing"] (zbT K 2 F_19):=by
 have G_21:=ok_21 (P:=P) (w:=w) (base:=base) T
 have G_23:=ok_23 (P:=P) (w:=w) (base:=base) T
 refine zbj (k:=4) (G:=G_19) (N:=["stock","thing"]) (ps:=["stock","thing"]) (st:=s_19) T.F_19 sc_19 fun cdv A outer s H E hr=> ?_
 refine zah ?_ ?_
 refine zgl ?_ ?_ ?_
 refine zbL ?_
 refine zbM ?_
 refine zar (k:=4) (g:=t.a_21) (fd:=t.d_21) (ps:=["thing","many"]) ?_ ?_ ?_ ?_ ?_ ?_
 exact G_21
 exact (hr.mono (by decide))
 exact T.m_21
 exact T.F_21.kp
 exact T.b_21
 refine zaa ?_ ?_
 exact zac 1
 refine zaa ?_ ?_
 refine zaA (id:="len") ?_ ?_ ?_ ?_
 exact zaF
 exact zbn
 exact T.n_len
 refine zaa ?_ ?_
 refine zbg ?_ ?_
 exact zac 0
 exact zag
 exact zad
 exact zad
 refine zap ?_
 refine zaS ?_
 exact zfY
 exact zbD
 refine zap ?_
 refine zaS ?_
 refine zaA (id:="all") ?_ ?_ ?_ ?_
 exact (zdG rfl)
 exact zhM
 exact T.n_all
 refine zaa ?_ ?_
 refine zbN (N:=["number","stock","thing"]) ?_ ?_ ?_ ?_ ?_ ?_ ?_
 exact rfl
 exact (BOk.of (Xn:=(zae s_19).names) (XN:=["stock","thing"]) rfl rfl rfl (by decide +kernel))
 exact (zaP.name (i:=0) rfl)
 refine zeG ?_ ?_
 exact T.n_range
 refine zaa ?_ ?_
 refine zbg ?_ ?_
 exact zac 0
 exact zag
 exact zad
 intro _ _ _
 exact zao 0 zsq
 intro _ _ _
 exact zcp
 intro _ _ _
 refine zar (k:=4) (g:=t.a_23) (fd:=t.d_23) (ps:=["stock","thing","shares"]) ?_ ?_ ?_ ?_ ?_ ?_
 exact G_23
 exact (hr.mono (by decide))
 exact T.m_23
 exact T.F_23.kp
 exact T.b_23
 refine zaa ?_ ?_
 exact zac 1
 refine zaa ?_ ?_
 exact zac 0
 refine zaa ?_ ?_
 exact zac 2
 exact zad
 exact zad
theorem nd_29:(["e","kinds","words"]:List Str).Nodup:=by decide +kernel
theorem zrA:(["kind"]:List Str).Nodup:=by decide +kernel
theorem sc_29:zas ["e","kinds","words"] ["e"] (zae s_29):=⟨rfl,rfl,rfl,by decide +kernel,rfl,by decide +kernel,by decide +kernel⟩
theorem ok_29 (T:Tx K mg t):FnH P w K mg base  1 t.a_29 t.d_29 ["e"] (zbT K 1 F_29):=by
 refine zqJ (k:=0) (G:=G_29) (N:=["e","kinds","words"]) (ps:=["e"]) (st:=s_29) T.F_29 sc_29 fun cdv A outer s H hr=> ?_
 refine zah ?_ ?_
 refine zaV 1 ?_ ?_
 exact nd_29
 refine zcK ?_
 refine zaa ?_ ?_
 refine zeC (CE:=t.a_0) (CC:=t.a_1) ?_ ?_ ?_ ?_ ?_ ?_
 exact T.x_exc
 exact (by decide +kernel)
 exact T.k_1
 exact T.n_isinstance
 exact T.g_1
 exact zac 0
 refine zaa ?_ ?_
 refine zeC (CE:=t.a_0) (CC:=t.a_2) ?_ ?_ ?_ ?_ ?_ ?_
 exact T.x_exc
 exact (by decide +kernel)
 exact T.k_2
 exact T.n_isinstance
 exact T.g_2
 exact zac 0
 refine zaa ?_ ?_
 refine zeC (CE:=t.a_0) (CC:=t.a_3) ?_ ?_ ?_ ?_ ?_ ?_
 exact T.x_exc
 exact (by decide +kernel)
 exact T.k_3
 exact T.n_isinstance
 exact T.g_3
 exact zac 0
 refine zaa ?_ ?_
 refine zeC (CE:=t.a_0) (CC:=t.a_4) ?_ ?_ ?_ ?_ ?_ ?_
 exact T.x_exc
 exact (by decide +kernel)
 exact T.k_4
 exact T.n_isinstance
 exact T.g_4
 exact zac 0
 exact zad
 refine zah ?_ ?_
 refine zaV 1 ?_ ?_
 exact nd_29
 refine za7 ?_ ?_ ?_
 exact zaz
 exact zac 1
 refine zcK ?_
 refine zaa ?_ ?_
 refine zeC (CE:=t.a_0) (CC:=t.a_5) ?_ ?_ ?_ ?_ ?_ ?_
 exact T.x_exc
 exact (by decide +kernel)
 exact T.k_5
 exact T.n_isinstance
 exact T.g_5
 exact zac 0
 refine zaa ?_ ?_
 refine zeC (CE:=t.a_0) (CC:=t.a_6) ?_ ?_ ?_ ?_ ?_ ?_
 exact T.x_exc
 exact (by decide +kernel)
 exact T.k_6
 exact T.n_isinstance
 exact T.g_6
 exact zac 0
 refine zaa ?_ ?_
 refine zeC (CE:=t.a_0) (CC:=t.a_7) ?_ ?_ ?_ ?_ ?_ ?_
 exact T.x_exc
 exact (by decide +kernel)
 exact T.k_7
 exact T.n_isinstance
 exact T.g_7
 exact zac 0
 refine zaa ?_ ?_
 refine zeC (CE:=t.a_0) (CC:=t.a_8) ?_ ?_ ?_ ?_ ?_ ?_
 exact T.x_exc
 exact (by decide +kernel)
 exact T.k_8
 exact T.n_isinstance
 exact T.g_8
 exact zac 0
 exact zad
 refine zah ?_ ?_
 refine zaV 1 ?_ ?_
 exact nd_29
 refine za7 ?_ ?_ ?_
 exact zaz
 exact zac 1
 refine zcK ?_
 refine zaa ?_ ?_
 refine zeC (CE:=t.a_0) (CC:=t.a_9) ?_ ?_ ?_ ?_ ?_ ?_
 exact T.x_exc
 exact (by decide +kernel)
 exact T.k_9
 exact T.n_isinstance
 exact T.g_9
 exact zac 0
 refine zaa ?_ ?_
 refine zeC (CE:=t.a_0) (CC:=t.a_10) ?_ ?_ ?_ ?_ ?_ ?_
 exact T.x_exc
 exact (by decide +kernel)
 exact T.k_10
 exact T.n_isinstance
 exact T.g_10
 exact zac 0
 refine zaa ?_ ?_
 refine zeC (CE:=t.a_0) (CC:=t.a_11) ?_ ?_ ?_ ?_ ?_ ?_
 exact T.x_exc
 exact (by decide +kernel)
 exact T.k_11
 exact T.n_isinstance
 exact T.g_11
 exact zac 0
 exact zad
 refine zah ?_ ?_
 refine zgl ?_ ?_ ?_
 refine zdn ?_
 refine zeV ?_ ?_
 refine zbL ?_
 refine zbM ?_
 refine zpI (CE:=t.a_0) ?_ ?_ ?_ ?_
 exact T.x_exc
 exact T.n_isinstance
 exact T.n_ValueError
 exact zac 0
 refine zeu ?_
 refine zbb ?_ ?_ ?_
 exact (zeH (zsb hr))
 refine zaA (id:="sum") ?_ ?_ ?_ ?_
 exact ziw
 exact zo8
 exact T.n_sum
 refine zaa ?_ ?_
 refine znI (N:=["kind"]) ?_ ?_ ?_ ?_ ?_ ?_
 exact (BOk.of (Xn:=(zae s_29).names) (XN:=["e","kinds","words"]) rfl rfl rfl (by decide +kernel))
 exact (zaP.name (i:=0) rfl)
 refine zdC ?_
 exact zac 1
 intro _ _ _
 exact zao 0 zrA
 intro _ _ _
 exact zcp
 intro _ _ _
 refine zbe (T:="int") ?_ ?_ ?_ ?_
 exact zit
 exact zjb
 exact T.n_int
 refine zaa ?_ ?_
 exact zac 0
 exact zad
 exact zad
 exact zag
 refine zap ?_
 refine zaS ?_
 exact zc8
 exact zbD
 refine zah ?_ ?_
 refine zaV 2 ?_ ?_
 exact nd_29
 refine zcK ?_
 refine zaa ?_ ?_
 exact zc8
 refine zaa ?_ ?_
 exact zc8
 refine zaa ?_ ?_
 exact zc8
 refine zaa ?_ ?_
 exact zc8
 refine zaa ?_ ?_
 exact zc8
 refine zaa ?_ ?_
 exact zc8
 refine zaa ?_ ?_
 exact zc8
 refine zaa ?_ ?_
 exact zc8
 refine zaa ?_ ?_
 exact zc8
 refine zaa ?_ ?_
 exact zc8
 refine zaa ?_ ?_
 exact zc8
 exact zad
 refine zap ?_
 refine zaS ?_
 refine za7 ?_ ?_ ?_
 exact zaz
 exact zc8
 refine zbg ?_ ?_
 exact zac 2
 refine zn3 ?_
 exact zac 1
theorem zoO:(["offer","share"]:List Str).Nodup:=by decide +kernel
theorem sc_20:zas ["stock","sharing"] ["stock","sharing"] (zae s_20):=⟨rfl,rfl,rfl,by decide +kernel,rfl,by decide +kernel,by decide +kernel⟩
theorem ok_20 (T:Tx K mg t):zbr P w K mg base (CXE P w) 6 t.a_20 t.d_20 ["stock","sharing"] (spE K 2 F_20):=by
 have G_19:=ok_19 (P:=P) (w:=w) (base:=base) T
 have G_18:=ok_18 (P:=P) (w:=w) (base:=base) T
 refine zpw (k:=5) (G:=G_20) (N:=["stock","sharing"]) (ps:=["stock","sharing"]) (st:=s_20) T.F_20 sc_20 fun cdv A outer s H E hr=> ?_
 refine zah ?_ ?_
 refine zgl ?_ ?_ ?_
 refine zbL ?_
 refine zbM ?_
 refine zji (k:=5) (g:=t.a_19) (fd:=t.d_19) (ps:=["stock","thing"]) ?_ ?_ ?_ ?_ ?_ ?_
 exact G_19
 exact (hr.mono (by decide))
 exact T.m_19
 exact T.F_19.kp
 exact T.b_19
 refine zaa ?_ ?_
 exact zac 0
 refine zaa ?_ ?_
 exact zac 1
 exact zad
 refine zap ?_
 exact znd (c:="NoPaper") rfl zlv T.x_exc (by decide +kernel) T.k_5
 exact zbD
 refine zap ?_
 refine zaS ?_
 refine zji (k:=3) (g:=t.a_18) (fd:=t.d_18) (ps:=["fractions"]) ?_ ?_ ?_ ?_ ?_ ?_
 exact G_18
 exact (hr.mono (by decide))
 exact T.m_18
 exact T.F_18.kp
 exact T.b_18
 refine zaa ?_ ?_
 refine zbN (N:=["offer","share"]) ?_ ?_ ?_ ?_ ?_ ?_ ?_
 exact rfl
 exact (BOk.of (Xn:=(zae s_20).names) (XN:=["stock","sharing"]) rfl rfl rfl (by decide +kernel))
 exact (zaP.tup (zaY.cons (i:=0) rfl (zaY.cons (i:=1) rfl zaY.nil)))
 refine zlx ?_ ?_
 exact T.n_zip
 refine zaa ?_ ?_
 refine zbg ?_ ?_
 exact zac 0
 exact zag
 refine zaa ?_ ?_
 exact zac 1
 exact zad
 intro _ _ _
 refine zcU ?_ ?_
 exact rfl
 refine zaE ?_ ?_
 exact zao 0 zoO
 refine zaE ?_ ?_
 exact zao 1 zoO
 exact zb2
 intro _ _ _
 exact zcp
 intro _ _ _
 refine zaX ?_
 refine zaa ?_ ?_
 refine za7 ?_ ?_ ?_
 exact zbq
 refine zbg ?_ ?_
 exact zac 0
 exact zag
 refine zbg ?_ ?_
 exact zac 1
 exact zag
 refine zaa ?_ ?_
 refine zbg ?_ ?_
 exact zac 1
 exact zag
 exact zad
 exact zad
theorem nd_41:(["stock","thing","e"]:List Str).Nodup:=by decide +kernel
theorem sc_41:zas ["stock","thing","e"] ["stock","thing"] (zae s_41):=⟨rfl,rfl,rfl,by decide +kernel,rfl,by decide +kernel,by decide +kernel⟩
theorem ok_41 (T:Tx K mg t):zbr P w K mg base CX0 7 t.a_41 t.d_41 ["stock","thing"] (zbT K 2 F_41):=by
 have G_29:=ok_29 (P:=P) (w:=w) (base:=base) T
 have G_20:=ok_20 (P:=P) (w:=w) (base:=base) T
 refine zbj (k:=6) (G:=G_41) (N:=["stock","thing","e"]) (ps:=["stock","thing"]) (st:=s_41) T.F_41 sc_41 fun cdv A outer s H E hr=> ?_
 refine zap ?_
 refine zqs (CE:=t.a_0) (pe:="e") (k:=1) (fdk:=t.d_29) (fk:=t.a_29) 2 ?_ ?_ ?_ ?_ ?_ ?_ ?_ ?_ ?_ ?_
 exact zq0
 exact nd_41
 exact T.g_0
 exact T.x_exc
 exact G_29
 exact T.b_29
 exact T.m_29
 exact T.F_29.kp
 exact (zcP.of (hr.mono (by decide)))
 intro pn xe E' hx
 refine zap ?_
 refine zaS ?_
 refine zn5 (k:=6) (g:=t.a_20) (fd:=t.d_20) (ps:=["stock","sharing"]) ?_ ?_ ?_ ?_ ?_ ?_ ?_
 exact G_20
 exact hx
 exact (hr.mono (by decide))
 exact T.m_20
 exact T.F_20.kp
 exact T.b_20
 refine zaa ?_ ?_
 exact zac 0
 refine zaa ?_ ?_
 exact zac 1
 exact zad
theorem nd_42:(["stock","thing","due","found","price","every"]:List Str).Nodup:=by decide +kernel
theorem zmI:(["share","offer"]:List Str).Nodup:=by decide +kernel
theorem sc_42:zas ["stock","thing","due","found","price","every"] ["stock","thing"] (zae s_42):=⟨rfl,rfl,rfl,by decide +kernel,rfl,by decide +kernel,by decide +kernel⟩
theorem ok_42 (T:Tx K mg t):zbr P w K mg base CX0 8 t.a_42 t.d_42 ["stock","thing"] (zbT K 2 F_42):=by
 have G_38:=ok_38 (P:=P) (w:=w) (base:=base) T
 have G_19:=ok_19 (P:=P) (w:=w) (base:=base) T
 have G_41:=ok_41 (P:=P) (w:=w) (base:=base) T
 have G_35:=ok_35 (P:=P) (w:=w) (base:=base) T
 have G_37:=ok_37 (P:=P) (w:=w) (base:=base) T
 have G_36:=ok_36 (P:=P) (w:=w) (base:=base) T
 refine zbj (k:=7) (G:=G_42) (N:=["stock","thing","due","found","price","every"]) (ps:=["stock","thing"]) (st:=s_42) T.F_42 sc_42 fun cdv A outer s H E hr=> ?_
 refine zah ?_ ?_
 refine zaV 2 ?_ ?_
 exact nd_42
 refine zar (k:=3) (g:=t.a_38) (fd:=t.d_38) (ps:=["stock","thing"]) ?_ ?_ ?_ ?_ ?_ ?_
 exact G_38
 exact (hr.mono (by decide))
 exact T.m_38
 exact T.F_38.kp
 exact T.b_38
 refine zaa ?_ ?_
 exact zac 0
 refine zaa ?_ ?_
 exact zac 1
 exact zad
 refine zah ?_ ?_
 refine zaV 3 ?_ ?_
 exact nd_42
 refine zar (k:=5) (g:=t.a_19) (fd:=t.d_19) (ps:=["stock","thing"]) ?_ ?_ ?_ ?_ ?_ ?_
 exact G_19
 exact (hr.mono (by decide))
 exact T.m_19
 exact T.F_19.kp
 exact T.b_19
 refine zaa ?_ ?_
 exact zac 0
 refine zaa ?_ ?_
 exact zac 1
 exact zad
 refine zah ?_ ?_
 refine zgl ?_ ?_ ?_
 refine zdn ?_
 refine zeV ?_ ?_
 refine zbL ?_
 refine zbM ?_
 refine zfl ?_ ?_ ?_ ?_ ?_
 exact zfG
 exact zg1
 exact T.n_isinstance
 exact T.n_bool
 exact zac 3
 refine zeu ?_
 refine zbb ?_ ?_ ?_
 exact (zeH (zfb hr))
 exact zac 3
 exact zac 2
 refine zap ?_
 refine zaS ?_
 exact zfY
 exact zbD
 refine zah ?_ ?_
 refine zaV 4 ?_ ?_
 exact nd_42
 refine zar (k:=7) (g:=t.a_41) (fd:=t.d_41) (ps:=["stock","thing"]) ?_ ?_ ?_ ?_ ?_ ?_
 exact G_41
 exact (hr.mono (by decide))
 exact T.m_41
 exact T.F_41.kp
 exact T.b_41
 refine zaa ?_ ?_
 exact zac 0
 refine zaa ?_ ?_
 exact zac 1
 exact zad
 refine zah ?_ ?_
 refine zgl ?_ ?_ ?_
 refine zbL ?_
 refine zbM ?_
 exact zac 2
 refine zap ?_
 refine zaS ?_
 refine zeX ?_ ?_ ?_
 exact (zea (zfb hr))
 exact zac 4
 exact zc8
 exact zbD
 refine zah ?_ ?_
 refine zdK 5 (N:=["share","offer"]) ?_ ?_ ?_ ?_ ?_ ?_ ?_ ?_
 exact rfl
 exact nd_42
 exact (BOk.of (Xn:=(zae s_42).names) (XN:=["stock","thing","due","found","price","every"]) rfl rfl rfl (by decide +kernel))
 exact (zaP.tup (zaY.cons (i:=0) rfl (zaY.cons (i:=1) rfl zaY.nil)))
 refine zlx ?_ ?_
 exact T.n_zip
 refine zaa ?_ ?_
 exact zac 1
 refine zaa ?_ ?_
 refine zbg ?_ ?_
 exact zac 0
 exact zag
 exact zad
 intro _ _ _
 refine zcU ?_ ?_
 exact rfl
 refine zaE ?_ ?_
 exact zao 0 zmI
 refine zaE ?_ ?_
 exact zao 1 zmI
 exact zb2
 intro _ _ _
 exact zcp
 intro _ _ _
 refine zar (k:=1) (g:=t.a_35) (fd:=t.d_35) (ps:=["top","bottom"]) ?_ ?_ ?_ ?_ ?_ ?_
 exact G_35
 exact (hr.mono (by decide))
 exact T.m_35
 exact T.F_35.kp
 exact T.b_35
 refine zaa ?_ ?_
 refine za7 ?_ ?_ ?_
 exact zbq
 refine zbg ?_ ?_
 exact zac 0
 exact zag
 refine zbg ?_ ?_
 exact zac 1
 exact zag
 refine zaa ?_ ?_
 refine zbg ?_ ?_
 exact zac 0
 exact zag
 exact zad
 refine zap ?_
 refine zaS ?_
 refine zfU ?_ ?_
 refine zar (k:=2) (g:=t.a_36) (fd:=t.d_36) (ps:=["thing"]) ?_ ?_ ?_ ?_ ?_ ?_
 exact G_36
 exact (hr.mono (by decide))
 exact T.m_36
 exact T.F_36.kp
 exact T.b_36
 refine zaa ?_ ?_
 exact zac 4
 exact zad
 refine zgi ?_
 refine zeX ?_ ?_ ?_
 exact (zea (zfb hr))
 exact zac 4
 refine zar (k:=2) (g:=t.a_37) (fd:=t.d_37) (ps:=["some"]) ?_ ?_ ?_ ?_ ?_ ?_
 exact G_37
 exact (hr.mono (by decide))
 exact T.m_37
 exact T.F_37.kp
 exact T.b_37
 refine zaa ?_ ?_
 exact zac 5
 exact zad
theorem nd_32:(["box","stock","many","offers","gone","left"]:List Str).Nodup:=by decide +kernel
theorem zmi:(["things","price","gone"]:List Str).Nodup:=by decide +kernel
theorem zo1:(["thing","gone"]:List Str).Nodup:=by decide +kernel
theorem zqM:(["offer"]:List Str).Nodup:=by decide +kernel
theorem sc_32:zas ["box","stock","many","offers","gone","left"] ["box","stock"] (zae s_32):=⟨rfl,rfl,rfl,by decide +kernel,rfl,by decide +kernel,by decide +kernel⟩
theorem ok_32 (T:Tx K mg t):zbr P w K mg base CX0 2 t.a_32 t.d_32 ["box","stock"] (zbT K 2 F_32):=by
 have G_26:=ok_26 (P:=P) (w:=w) (base:=base) T
 refine zbj (k:=1) (G:=G_32) (N:=["box","stock","many","offers","gone","left"]) (ps:=["box","stock"]) (st:=s_32) T.F_32 sc_32 fun cdv A outer s H E hr=> ?_
 refine zah ?_ ?_
 refine zgh ?_ ?_
 exact zac 1
 refine zcU ?_ ?_
 exact rfl
 refine zaE ?_ ?_
 exact zao 2 nd_32
 refine zaE ?_ ?_
 exact zao 3 nd_32
 exact zb2
 refine zah ?_ ?_
 refine zaV 4 ?_ ?_
 exact nd_32
 refine zar (k:=1) (g:=t.a_26) (fd:=t.d_26) (ps:=["box","many"]) ?_ ?_ ?_ ?_ ?_ ?_
 exact G_26
 exact (hr.mono (by decide))
 exact T.m_26
 exact T.F_26.kp
 exact T.b_26
 refine zaa ?_ ?_
 exact zac 0
 refine zaa ?_ ?_
 exact zac 2
 exact zad
 refine zah ?_ ?_
 refine zdK 5 (N:=["things","price","gone"]) ?_ ?_ ?_ ?_ ?_ ?_ ?_ ?_
 exact rfl
 exact nd_32
 exact (BOk.of (Xn:=(zae s_32).names) (XN:=["box","stock","many","offers","gone","left"]) rfl rfl rfl (by decide +kernel))
 exact (zaP.tup (zaY.cons (i:=0) rfl (zaY.cons (i:=1) rfl zaY.nil)))
 refine zdC ?_
 exact zac 3
 intro _ _ _
 refine zcU ?_ ?_
 exact rfl
 refine zaE ?_ ?_
 exact zao 0 zmi
 refine zaE ?_ ?_
 exact zao 1 zmi
 exact zb2
 intro _ _ _
 exact zcp
 intro _ _ _
 refine zaX ?_
 refine zaa ?_ ?_
 refine zbe (T:="tuple") ?_ ?_ ?_ ?_
 exact za3
 exact za9
 exact T.n_tuple
 refine zaa ?_ ?_
 refine zbN (N:=["thing","gone"]) ?_ ?_ ?_ ?_ ?_ ?_ ?_
 exact rfl
 exact (BOk.of (N:=["thing","gone"]) (src:=[none,some 2]) rfl rfl rfl (by rfl))
 exact (zaP.name (i:=0) rfl)
 refine zdC ?_
 exact zac 0
 intro _ _ _
 exact zao 0 zo1
 intro _ _ _
 refine zd7 ?_
 refine zbb ?_ ?_ ?_
 exact (zeH (zfb hr))
 exact zac 0
 exact zac 1
 intro _ _ _
 exact zac 0
 exact zad
 refine zaa ?_ ?_
 exact zac 1
 exact zad
 refine zap ?_
 refine zaS ?_
 refine zaX ?_
 refine zaa ?_ ?_
 exact zac 2
 refine zaa ?_ ?_
 refine zbe (T:="tuple") ?_ ?_ ?_ ?_
 exact za3
 exact za9
 exact T.n_tuple
 refine zaa ?_ ?_
 refine zbN (N:=["offer"]) ?_ ?_ ?_ ?_ ?_ ?_ ?_
 exact rfl
 exact (BOk.of (Xn:=(zae s_32).names) (XN:=["box","stock","many","offers","gone","left"]) rfl rfl rfl (by decide +kernel))
 exact (zaP.name (i:=0) rfl)
 refine zdC ?_
 exact zac 5
 intro _ _ _
 exact zao 0 zqM
 intro _ _ _
 refine zd7 ?_
 refine zbb ?_ ?_ ?_
 exact (zeH (zfb hr))
 refine zbg ?_ ?_
 exact zac 0
 exact zag
 refine zaX ?_
 exact zad
 intro _ _ _
 exact zac 0
 exact zad
 exact zad
theorem nd_43:(["script","k","box","stock","shares","things","holed"]:List Str).Nodup:=by decide +kernel
theorem zrd:(["turn","box","shares"]:List Str).Nodup:=by decide +kernel
theorem zq5:(["thing","stock"]:List Str).Nodup:=by decide +kernel
theorem sc_43:zas ["script","k","box","stock","shares","things","holed"] ["script"] (zae s_43):=⟨rfl,rfl,rfl,by decide +kernel,rfl,by decide +kernel,by decide +kernel⟩
theorem ok_43 (T:Tx K mg t):zbr P w K mg base CX0 9 t.a_43 t.d_43 ["script"] (zbT K 1 F_43):=by
 have G_25:=ok_25 (P:=P) (w:=w) (base:=base) T
 have G_31:=ok_31 (P:=P) (w:=w) (base:=base) T
 have G_39:=ok_39 (P:=P) (w:=w) (base:=base) T
 have G_40:=ok_40 (P:=P) (w:=w) (base:=base) T
 have G_42:=ok_42 (P:=P) (w:=w) (base:=base) T
 have G_19:=ok_19 (P:=P) (w:=w) (base:=base) T
 have G_32:=ok_32 (P:=P) (w:=w) (base:=base) T
 refine zbj (k:=8) (G:=G_43) (N:=["script","k","box","stock","shares","things","holed"]) (ps:=["script"]) (st:=s_43) T.F_43 sc_43 fun cdv A outer s H E hr=> ?_
 refine zah ?_ ?_
 refine zgL ?_ ?_ ?_ ?_ ?_
 exact rfl
 exact PassesOwn.never
 refine zeG ?_ ?_
 exact T.n_range
 refine zaa ?_ ?_
 refine zaA (id:="max") ?_ ?_ ?_ ?_
 exact (zir rfl)
 exact zpt
 exact T.n_max
 refine zaa ?_ ?_
 exact zag
 refine zaa ?_ ?_
 refine zaA (id:="min") ?_ ?_ ?_ ?_
 exact (ziH rfl)
 exact zrc
 exact T.n_min
 refine zaa ?_ ?_
 refine zaA (id:="len") ?_ ?_ ?_ ?_
 exact zaF
 exact zbn
 exact T.n_len
 refine zaa ?_ ?_
 exact zac 0
 exact zad
 refine zaa ?_ ?_
 exact zag
 exact zad
 exact zad
 exact zad
 exact zao 1 nd_43
 refine zah ?_ ?_
 refine zaV 2 ?_ ?_
 exact nd_43
 refine zar (k:=2) (g:=t.a_25) (fd:=t.d_25) (ps:=["script","k"]) ?_ ?_ ?_ ?_ ?_ ?_
 exact G_25
 exact (hr.mono (by decide))
 exact T.m_25
 exact T.F_25.kp
 exact T.b_25
 refine zaa ?_ ?_
 exact zac 0
 refine zaa ?_ ?_
 exact zac 1
 exact zad
 refine zah ?_ ?_
 refine zaV 3 ?_ ?_
 exact nd_43
 refine zar (k:=3) (g:=t.a_31) (fd:=t.d_31) (ps:=["box","most","lots"]) ?_ ?_ ?_ ?_ ?_ ?_
 exact G_31
 exact (hr.mono (by decide))
 exact T.m_31
 exact T.F_31.kp
 exact T.b_31
 refine zaa ?_ ?_
 exact zac 2
 refine zaa ?_ ?_
 exact zag
 refine zaa ?_ ?_
 exact zag
 exact zad
 refine zah ?_ ?_
 refine zaV 4 ?_ ?_
 exact nd_43
 refine zar (k:=3) (g:=t.a_39) (fd:=t.d_39) (ps:=["box","stock"]) ?_ ?_ ?_ ?_ ?_ ?_
 exact G_39
 exact (hr.mono (by decide))
 exact T.m_39
 exact T.F_39.kp
 exact T.b_39
 refine zaa ?_ ?_
 exact zac 2
 refine zaa ?_ ?_
 exact zac 3
 exact zad
 refine zah ?_ ?_
 refine zaV 5 ?_ ?_
 exact nd_43
 refine za7 ?_ ?_ ?_
 exact zaz
 refine zcK ?_
 refine zaa ?_ ?_
 exact zac 4
 refine zaa ?_ ?_
 refine za7 ?_ ?_ ?_
 exact zjL
 refine zaX ?_
 refine zaa ?_ ?_
 refine zaX ?_
 refine zaa ?_ ?_
 exact zag
 refine zaa ?_ ?_
 exact zag
 exact zad
 exact zad
 refine zaA (id:="len") ?_ ?_ ?_ ?_
 exact zaF
 exact zbn
 exact T.n_len
 refine zaa ?_ ?_
 refine zbg ?_ ?_
 exact zac 3
 exact zag
 exact zad
 refine zaa ?_ ?_
 refine zaX ?_
 exact zad
 exact zad
 refine zbN (N:=["turn","box","shares"]) ?_ ?_ ?_ ?_ ?_ ?_ ?_
 exact rfl
 exact (BOk.of (Xn:=(zae s_43).names) (XN:=["script","k","box","stock","shares","things","holed"]) rfl rfl rfl (by decide +kernel))
 exact (zaP.name (i:=0) rfl)
 refine zeG ?_ ?_
 exact T.n_range
 refine zaa ?_ ?_
 exact zag
 exact zad
 intro _ _ _
 exact zao 0 zrd
 intro _ _ _
 exact zcp
 intro _ _ _
 refine zar (k:=3) (g:=t.a_40) (fd:=t.d_40) (ps:=["box","row"]) ?_ ?_ ?_ ?_ ?_ ?_
 exact G_40
 exact (hr.mono (by decide))
 exact T.m_40
 exact T.F_40.kp
 exact T.b_40
 refine zaa ?_ ?_
 exact zac 1
 refine zaa ?_ ?_
 exact zac 2
 exact zad
 refine zah ?_ ?_
 refine zgl ?_ ?_ ?_
 refine zdn ?_
 refine zeV ?_ ?_
 refine zbb ?_ ?_ ?_
 exact zjR
 refine zar (k:=5) (g:=t.a_19) (fd:=t.d_19) (ps:=["stock","thing"]) ?_ ?_ ?_ ?_ ?_ ?_
 exact G_19
 exact (hr.mono (by decide))
 exact T.m_19
 exact T.F_19.kp
 exact T.b_19
 refine zaa ?_ ?_
 exact zac 3
 refine zaa ?_ ?_
 exact zac 4
 exact zad
 exact zfY
 refine zeu ?_
 refine zbL ?_
 refine zbM ?_
 refine zaA (id:="all") ?_ ?_ ?_ ?_
 exact (zdG rfl)
 exact zhM
 exact T.n_all
 refine zaa ?_ ?_
 refine zbN (N:=["thing","stock"]) ?_ ?_ ?_ ?_ ?_ ?_ ?_
 exact rfl
 exact (BOk.of (Xn:=(zae s_43).names) (XN:=["script","k","box","stock","shares","things","holed"]) rfl rfl rfl (by decide +kernel))
 exact (zaP.name (i:=0) rfl)
 refine zdC ?_
 exact zac 5
 intro _ _ _
 exact zao 0 zq5
 intro _ _ _
 exact zcp
 intro _ _ _
 refine zar (k:=8) (g:=t.a_42) (fd:=t.d_42) (ps:=["stock","thing"]) ?_ ?_ ?_ ?_ ?_ ?_
 exact G_42
 exact (hr.mono (by decide))
 exact T.m_42
 exact T.F_42.kp
 exact T.b_42
 refine zaa ?_ ?_
 exact zac 1
 refine zaa ?_ ?_
 exact zac 0
 exact zad
 exact zad
 refine zap ?_
 refine zaS ?_
 exact zfY
 exact zbD
 refine zah ?_ ?_
 refine zaV 6 ?_ ?_
 exact nd_43
 refine zar (k:=2) (g:=t.a_32) (fd:=t.d_32) (ps:=["box","stock"]) ?_ ?_ ?_ ?_ ?_ ?_
 exact G_32
 exact (hr.mono (by decide))
 exact T.m_32
 exact T.F_32.kp
 exact T.b_32
 refine zaa ?_ ?_
 exact zac 2
 refine zaa ?_ ?_
 exact zac 3
 exact zad
 refine zap ?_
 refine zgl ?_ ?_ ?_
 refine zbL ?_
 refine zbM ?_
 refine zar (k:=8) (g:=t.a_42) (fd:=t.d_42) (ps:=["stock","thing"]) ?_ ?_ ?_ ?_ ?_ ?_
 exact G_42
 exact (hr.mono (by decide))
 exact T.m_42
 exact T.F_42.kp
 exact T.b_42
 refine zaa ?_ ?_
 exact zac 6
 refine zaa ?_ ?_
 refine za7 ?_ ?_ ?_
 exact zjL
 refine zaX ?_
 refine zaa ?_ ?_
 refine zaX ?_
 refine zaa ?_ ?_
 exact zag
 refine zaa ?_ ?_
 exact zag
 exact zad
 exact zad
 refine zaA (id:="len") ?_ ?_ ?_ ?_
 exact zaF
 exact zbn
 exact T.n_len
 refine zaa ?_ ?_
 refine zbg ?_ ?_
 exact zac 6
 exact zag
 exact zad
 exact zad
 refine zap ?_
 refine zaS ?_
 exact zfY
 exact zbD
 refine zap ?_
 refine zaS ?_
 exact zfY
end
end K32
set_option exponentiation.threshold 8000
namespace L3
open PySem PySem.Spec PyProof.Rows L2 LT
section
theorem zdW {n:Nat} {tc:FT} {gb:FS} {sd:Sd}:zbs tc gb (n+1) sd=(do let b<-tc sd;if b=true then (do let o<-gb sd;match o with | .nx sd'=>zbs tc gb n sd' | .ct sd'=>zbs tc gb n sd' | .bk sd'=>pure (.nx sd') | .rt d=>pure (.rt d)) else pure (.nx sd)):=rfl
theorem zhY {k:Int} {xs:List Int}:xs.any (· == k)=true↔k∈xs:=by
 rw [List.any_eq_true]
 constructor
 ·rintro ⟨x,hx,e⟩
  rw [beq_iff_eq] at e
  exact e▸hx
 ·intro h
  exact ⟨k,h,by simp⟩
theorem zb5 {α β:Type} {p:α->Bool} {g:α->β}: ∀ xs:List α,xs.filterMap (fun x=>if p x=true then some (g x) else none)=(xs.filter p).map g
 | []=>rfl
 | x::r=>by
  rw [qat,List.filter_cons,zb5 r]
  cases p x<;>simp
theorem zcx {α:Type} {g':α->D} {fi:FA} {g:D->Sd->M Sd} {tc:FT} {te:FE} {src:List (Option Nat)} {sd:Sd} {xs:List α} {k:α->Option D} (hi:fi sd=pure (xs.map g')) (hl:xs.length<=1000) (hf: ∀ x∈xs,zbc g tc te (zau src sd) (g' x)=pure (k x)):zaC fi g tc te src sd=pure (.lst (xs.filterMap k)):=by
 unfold zaC
 rw [hi]
 simp only [pure_bind]
 rw [zaK (by rw [qaH];exact hl)]
 simp only [pure_bind]
 have: ∀ {ys:List α},(∀ x∈ys,zbc g tc te (zau src sd) (g' x)=pure (k x))->zbC (zbc g tc te (zau src sd)) (ys.map g')=pure (ys.filterMap k):=by
  intro ys
  induction ys with
  | nil=>intro _;rfl
  | cons x r ih=>
   intro hf
   rw [qaM,zbC,hf x qau,ih fun y hy=>hf y (qan _ hy)]
   simp only [pure_bind]
   cases e:k x<;>simp [qat,e]
 rw [this hf]
 simp only [pure_bind]
theorem zpp {x y:D} {a b:PyData} (e1:pd x=some a) (e2:pd y=some b) (h:zgf a b=true):dNe x y=pure (.bl (!PyData.eqv a b)):=by
 show ziP true x y=_
 unfold ziP
 rw [e1,e2]
 simp only [h,if_true]
theorem zqk {i j:Nat} {f g:FE} {sd:Sd}:zoG i j (zab f (zab g zan)) sd=(do let x<-f sd;let y<-g sd;pure (.nx ((sd.set i (some x)).set j (some y)))):=by
 unfold zoG
 simp only [zaL,za5,bind_assoc,pure_bind]
noncomputable def bb:Nat:=2^7000
theorem zga {n:Nat} (h:n<=7000):2^n<=bb:=Nat.pow_le_pow_right (by decide) h
theorem zdL {i:Int} {k:Nat} (h0:0<k) (h1:k<=bb):zev (.int i) (.int (k:Int))=pure (.int (i / (k:Int))):=by
 have hb:bb<2^8000:=Nat.pow_lt_pow_right (by decide) (by decide)
 have h2:((k:Int):Int)<2^8000:=by
  have:((k:Nat):Int)<((2^8000:Nat):Int):=Int.ofNat_lt.mpr (Nat.lt_of_le_of_lt h1 hb)
  rw [Int.natCast_pow] at this
  exact this
 unfold zev dII
 simp only
 rw [qa4]
 rw [qaG,qaD,qaD]
 exact ⟨by omega,h2⟩
theorem euc {a b n:Nat} (hb:b≠0) (hab:b<=a) (h:a*b<2^(n+1)):b*(a % b)<2^n:=by
 have hp:0<b:=Nat.pos_of_ne_zero hb
 have h1:=Nat.div_add_mod a b
 have h2:1<=a / b:=(Nat.one_le_div_iff hp).mpr hab
 have h3:=Nat.mod_lt a hp
 have h4:b+a % b<=a:=by
  have:b*1<=b*(a / b):=Nat.mul_le_mul_left b h2
  omega
 have h5:(b+a % b)*b<=a*b:=Nat.mul_le_mul_right b h4
 have h6:b*(a % b)+b*(a % b)<=(b+a % b)*b:=by
  rw [Nat.add_mul,Nat.mul_comm (a % b) b]
  have:b*(a % b)<=b*b:=Nat.mul_le_mul_left b (Nat.le_of_lt h3)
  omega
 rw [Nat.pow_succ] at h
 omega
noncomputable def qD (r:Rat):D:= .tup [.int r.num,.int (r.den:Int)]
theorem znM (a:Int) {b:Nat} (hb:0<b):Nat.gcd b (a % (b:Int)).toNat=Nat.gcd a.natAbs b:=by
 have h0:0<=a % (b:Int):=Int.emod_nonneg _ (by omega)
 have e:(((a % (b:Int)).toNat:Nat):Int)=a % (b:Int):=Int.toNat_of_nonneg h0
 have key: ∀ d:Nat,(d ∣ b/\d ∣ (a % (b:Int)).toNat)↔(d ∣ a.natAbs/\d ∣ b):=fun d=>by
  rw [<- Int.natCast_dvd_natCast (m:=d) (n:=(a % (b:Int)).toNat),e, <-Int.natCast_dvd_natCast (m:=d) (n:=b), <-Int.ofNat_dvd_left (n:=d) (z:=a)]
  constructor
  ·rintro ⟨h1,h2⟩
   refine ⟨?_,h1⟩
   have:=Int.dvd_add (Int.dvd_mul_of_dvd_left (c:=a / (b:Int)) h1) h2
   rwa [Int.mul_ediv_add_emod] at this
  ·rintro ⟨h1,h2⟩
   refine ⟨h2,?_⟩
   rw [Int.emod_def]
   exact Int.dvd_sub h1 (Int.dvd_mul_of_dvd_left h2)
 refine Nat.dvd_antisymm (Nat.dvd_gcd ((key _).mp ⟨Nat.gcd_dvd_left _ _,Nat.gcd_dvd_right _ _⟩).1 (Nat.gcd_dvd_left _ _)) (Nat.dvd_gcd (Nat.gcd_dvd_right _ _) ((key _).mpr ⟨Nat.gcd_dvd_left _ _,Nat.gcd_dvd_right _ _⟩).2)
end
section
noncomputable def pF:D->Bool
 | .tup [.int a,.int b]=>decide (0<b) && (Nat.gcd a.natAbs b.toNat==1)
 | _=>false
noncomputable def pS:D->Bool
 | .tup [.int a,.int b]=>decide (0<b) && (Nat.gcd a.natAbs b.toNat==1) && decide (0<=a)
 | _=>false
def sv (d:D):Prop:=kn d=true/\ ∀ ds,d= .tup ds->(∀ x∈ds,kn x=true)/\ ∀ a b:Int,ds=[.int a,.int b]->b.toNat<bb
theorem zmw {a b:Int} (h:pF (.tup [.int a,.int b])=true): .tup [.int a,.int b]=qD (mkRat a b.toNat)/\(mkRat a b.toNat).num=a/\((mkRat a b.toNat).den:Int)=b:=by
 unfold pF at h
 rw [qaG,qaD,beq_iff_eq] at h
 have e1:(mkRat a b.toNat).num=a:=by
  rw [Rat.num_mkRat,qa5 (by omega),Nat.gcd_comm,h.2]
  simp
 have e2:((mkRat a b.toNat).den:Int)=b:=by
  rw [Rat.den_mkRat,qa5 (by omega),Nat.gcd_comm,h.2,Nat.div_one]
  omega
 exact ⟨by unfold qD;rw [e1,e2],e1,e2⟩
theorem zsW (r:Rat):pF (qD r)=true:=by
 unfold qD pF
 have:=r.den_pos
 rw [qaG,qaD,beq_iff_eq,qaB]
 exact ⟨by omega,r.reduced⟩
end
section
theorem zlV {i j:Int} (h:(zbd i || zbd j || zin i j)=true):zc9 (.int i) (.int j)=pure (.int (i*j)):=by
 show (if (zbd i || zbd j || zin i j)=true then _ else _)=_
 rw [qa4 h]
theorem zj9 {x:Int} {n:Nat} (h:x.natAbs<2^n):Builtin.Int.intBits x<=n:=by
 unfold Builtin.Int.intBits
 split
 ·exact Nat.zero_le _
 ·rename_i c
  have h0:x.natAbs≠0:=fun z=>c (by simp;omega)
  exact (Nat.log2_lt h0).mpr h
theorem zij {a b:Int} (ha:a.natAbs<2^6000) (hb:b.natAbs<2^6000):zc9 (.int a) (.int b)=pure (.int (a*b)):=by
 refine zlV ?_
 have h1:=zj9 ha
 have h2:=zj9 hb
 rw [Bool.or_eq_true]
 right
 unfold zin
 rw [qaD]
 have:(2:Nat)^26=67108864:=by decide
 omega
noncomputable def tt:Nat:=2^1800
noncomputable def pD (p:Int×Nat):D:= .tup [.int p.1,.int (p.2:Int)]
noncomputable def rq (p:Int×Nat):Rat:=mkRat p.1 p.2
noncomputable def nd (r:Rat):Int×Nat:=(r.num,r.den)
noncomputable def dpp (ps:List (Int×Nat)):Nat:=ps.foldr (fun p n=>p.2*n) 1
noncomputable def dp (rs:List Rat):Nat:=rs.foldr (fun r n=>r.den*n) 1
theorem zj0: ∀ rs:List Rat,0<dp rs
 | []=>by decide
 | r::rs=>Nat.mul_pos r.den_pos (zj0 rs)
theorem zhl: ∀ ps:List (Int×Nat),(∀ p∈ps,0<p.2)->0<dpp ps
 | [],_=>by decide
 | p::ps,h=>Nat.mul_pos (h p qau) (zhl ps fun q hq=>h q (qan _ hq))
theorem zka: ∀ rs:List Rat,dpp (rs.map nd)=dp rs
 | []=>rfl
 | r::rs=>by
  show r.den*dpp (rs.map nd)=r.den*dp rs
  rw [zka rs]
theorem zld (rs:List Rat):(rs.map nd).map rq=rs:=by
 rw [qaT]
 conv=>rhs;rw [<- List.map_id rs]
 exact List.map_congr_left fun r _=>Rat.mkRat_self r
theorem zna (rs:List Rat):(rs.map nd).map pD=rs.map qD:=by
 rw [qaT]
 rfl
theorem zgb (a:Int) {b:Nat} (hb:0<b):(mkRat a b).num.natAbs<=a.natAbs:=by
 rw [Rat.num_mkRat,qa5 (by omega)]
 exact Int.natAbs_ediv_le_natAbs _ _
theorem zgm (a:Int) {b:Nat} (hb:0<b):(mkRat a b).den<=b:=by
 rw [Rat.den_mkRat,qa5 (by omega)]
 exact Nat.div_le_self _ _
theorem zgM {a b x y:Nat} (ha:a<=2^x) (hb:b<=2^y):a*b<=2^(x+y):=by
 rw [Nat.pow_add]
 exact Nat.mul_le_mul ha hb
structure Sz (A:Int) (B k:Nat) (rs:List (Int×Nat)):Prop where
 b0:0<B
 b1:B*dpp rs<=2^2000
 a1:A.natAbs<=k*(tt*B)
 k1:k+rs.length<=14
 r1: ∀ r∈rs,r.1.natAbs<=tt
 p0: ∀ r∈rs,0<r.2
theorem Sz.B_le {A:Int} {B k:Nat} {rs:List (Int×Nat)} (z:Sz A B k rs):B<=2^2000:=by
 have h:=z.b1
 have h1:B*1<=B*dpp rs:=Nat.mul_le_mul_left B (zhl rs z.p0)
 omega
theorem Sz.A_le {A:Int} {B k:Nat} {rs:List (Int×Nat)} (z:Sz A B k rs):A.natAbs<=2^3804:=by
 have hB:=z.B_le
 have hk:k<=2^4:=by
  have:=z.k1
  have:(2:Nat)^4=16:=by decide
  omega
 have h1:tt*B<=2^(1800+2000):=zgM (qaV _) hB
 have h2:k*(tt*B)<=2^(4+(1800+2000)):=zgM hk h1
 exact qaS z.a1 h2
theorem Sz.d_le {A:Int} {B k:Nat} {r:Int×Nat} {rs:List (Int×Nat)} (z:Sz A B k (r::rs)):B*r.2<=2^2000/\r.2<=2^2000:=by
 have h:=z.b1
 have h0:=z.b0
 have e:B*dpp (r::rs)=B*r.2*dpp rs:=by
  show B*(r.2*dpp rs)=_
  rw [Nat.mul_assoc]
 rw [e] at h
 have h1:B*r.2*1<=B*r.2*dpp rs:=Nat.mul_le_mul_left _ (zhl rs fun q hq=>z.p0 q (qan _ hq))
 have h2:1*r.2<=B*r.2:=Nat.mul_le_mul_right _ h0
 omega
theorem Sz.next {A:Int} {B k:Nat} {r:Int×Nat} {rs:List (Int×Nat)} (z:Sz A B k (r::rs)):Sz (A*(r.2:Int)+r.1*(B:Int)) (B*r.2) (k+1) rs where
 b0:=Nat.mul_pos z.b0 (z.p0 r qau)
 b1:=by
  have h:=z.b1
  have e:B*dpp (r::rs)=B*r.2*dpp rs:=by
   show B*(r.2*dpp rs)=_
   rw [Nat.mul_assoc]
  rw [<- e]
  exact h
 a1:=by
  have h1:=Int.natAbs_add_le (A*(r.2:Int)) (r.1*(B:Int))
  rw [Int.natAbs_mul,Int.natAbs_mul,Int.natAbs_natCast,Int.natAbs_natCast] at h1
  have h2:A.natAbs*r.2<=k*(tt*B)*r.2:=Nat.mul_le_mul_right _ z.a1
  have h3:r.1.natAbs*B<=tt*B:=Nat.mul_le_mul_right _ (z.r1 r qau)
  have h4:tt*B*1<=tt*B*r.2:=Nat.mul_le_mul_left _ (z.p0 r qau)
  have e1:k*(tt*B)*r.2=k*(tt*(B*r.2)):=by rw [Nat.mul_assoc,Nat.mul_assoc]
  have e2:(k+1)*(tt*(B*r.2))=k*(tt*(B*r.2))+tt*(B*r.2):=by rw [Nat.add_mul,Nat.one_mul]
  have e3:tt*B*r.2=tt*(B*r.2):=Nat.mul_assoc _ _ _
  omega
 k1:=by
  have:=z.k1
  rw [qaE] at this
  omega
 r1:=fun x hx=>z.r1 x (qan _ hx)
 p0:=fun x hx=>z.p0 x (qan _ hx)
theorem zaD {n:Nat} (h:n<6000) {a:Nat} (ha:a<=2^n):a<2^6000:=Nat.lt_of_le_of_lt ha (Nat.pow_lt_pow_right (by decide) h)
theorem zdx {A:Int} {B:Nat} (h0:0<B) {p:Int×Nat} (hp:0<p.2):mkRat A B+rq p=mkRat (A*(p.2:Int)+p.1*(B:Int)) (B*p.2):=by
 exact Rat.mkRat_add_mkRat A p.1 (d₁:=B) (d₂:=p.2) (by omega) (by omega)
end
section
noncomputable def zbQ:D->Rat
 | .tup [.int a,.int b]=>mkRat a b.toNat
 | _=>0
theorem zre {d:D} (h:pS d=true): ∃ a b:Int,d= .tup [.int a,.int b]/\pF d=true/\0<=a/\d=qD (zbQ d):=by
 unfold pS at h
 split at h
 ·rename_i a b
  rw [qaG,qaD] at h
  exact ⟨a,b,rfl,h.1,h.2,(zmw h.1).1⟩
 ·cases h
theorem zmd {d:D} (h:pF d=true): ∃ a b:Int,d= .tup [.int a,.int b]:=by
 unfold pF at h
 split at h
 ·exact ⟨_,_,rfl⟩
 ·cases h
theorem zqV {d:D} (h:pF d=false):pS d=false:=by
 unfold pS
 split
 ·rename_i a b
  have h:(decide (0<b) && (Nat.gcd a.natAbs b.toNat==1))=false:=h
  rw [h]
  rfl
 ·rfl
theorem zoa {a b:Int} (h:pF (.tup [.int a,.int b])=true):pS (.tup [.int a,.int b])=decide (0<=a):=by
 have h:(decide (0<b) && (Nat.gcd a.natAbs b.toNat==1))=true:=h
 show (decide (0<b) && (Nat.gcd a.natAbs b.toNat==1) && decide (0<=a))=_
 rw [h,Bool.true_and]
theorem zeh: ∀ {ds:List D},ds.all pS=true->ds=(ds.map zbQ).map qD
 | [],_=>rfl
 | d::r,h=>by
  rw [List.all_cons,qaG] at h
  obtain ⟨_,_,_,_,_,e⟩:=zre h.1
  rw [qaM,qaM, <-e, <-zeh h.2]
end
section
theorem zmO (b:Bool):dNe (.bl b) (.bl b)=pure (.bl false):=by
 rw [zpp (x:= .bl b) (y:= .bl b) rfl rfl (by unfold zgf;simp [PyData.canLay0,PyData.depth])]
 cases b<;>rfl
theorem zl4 {x:Str} (hx:PyData.strOk x=true):dEq (.str x) (.str x)=pure (.bl true):=by
 rw [zmj (x:= .str x) (y:= .str x) rfl rfl (by unfold zgf;simp [PyData.canLay0,PyData.depth,hx])]
 simp [PyData.eqv]
theorem zm7:PyData.strOk "! paper"=true:=by decide +kernel
theorem zr4 (q:Rat):dEq (qD q) (qD q)=pure (.bl true):=by
 have:=zmP [q.num,(q.den:Int)] [q.num,(q.den:Int)]
 rw [beq_self_eq_true] at this
 exact this
end
section
theorem zpx {fo fe:FE} {sd:Sd}:zrZ fo fe sd=(do let x<-fo sd;zdd x;let y<-fe sd;zeB x y):=rfl
theorem zqr {c:Nat} {h:Hh} {ds:List D} {i:Int} {d:D} {P:D->Hh->Prop} (e:h[c]? = some (.lst ds)) (i0:0<=i) (i1:i<1000) (ed:ds[i.toNat]? = some d) (k:P d (h.set c (.lst (ds.eraseIdx i.toNat)))):wp (zeB (.cel c) (.int i)) h P:=by
 show wp (zal c>>=_) h P
 rw [zam,zcH e]
 rw [qa4 ⟨i0,i1⟩,ed]
 simp only [zam,zhQ,zak]
 exact k
theorem zlp {xs:List Int} {i:Nat} {x:Int} (e:xs[i]? = some x):List.Perm (x::xs.eraseIdx i) xs:=by
 obtain ⟨h,rfl⟩:=qac.mp e
 have e2:xs=xs.take i++xs[i]::xs.drop (i+1):=by simp
 rw [List.eraseIdx_eq_take_drop_succ]
 conv=>rhs;rw [e2]
 exact List.perm_middle.symm
end
section
theorem zfZ: ∀ (a b:List Rat),dp (a++b)=dp a*dp b
 | [],b=>by show dp b=1*dp b;rw [Nat.one_mul]
 | x::a,b=>by
  show x.den*dp (a++b)=x.den*dp a*dp b
  rw [zfZ a b,Nat.mul_assoc]
theorem zpV (a:List Rat):dp a.reverse=dp a:=by
 induction a with
 | nil=>rfl
 | cons x a ih=>
  rw [List.reverse_cons,zfZ,ih]
  show dp a*(x.den*1)=x.den*dp a
  rw [Nat.mul_one,Nat.mul_comm]
structure Od (r:Rat) (d:D):Prop where
 v:sv d
 n:(zbQ d).num.natAbs<=2^1606
 d:(zbQ d).den<=2*r.den
theorem zg5 {r:Rat} {d:D} (v:sv d) (h:zbQ d=0):Od r d:=⟨v,by rw [h];exact Nat.zero_le _,by rw [h];have:=r.den_pos;show 1<=_;omega⟩
theorem zlk {d:D} (k:kn d=true) (h: ∀ ds,d≠ .tup ds):sv d:=⟨k,fun ds e=>absurd e (h ds)⟩
theorem zeQ {x y:D} (kx:kn x=true) (ky:kn y=true) (h: ∀ b,y= .int b->b.toNat<bb):sv (.tup [x,y]):=⟨rfl,fun ds e=>by
  cases e
  refine ⟨fun z hz=> ?_,fun a b e=> ?_⟩
  · simp only [qaP,qaF,or_false] at hz
    rcases hz with rfl | rfl
    · exact kx
    · exact ky
  · simp only [List.cons.injEq,and_true] at e
    exact h b e.2⟩
theorem zcO {r:Rat} {a:Int} {b:Int} (ha:a.natAbs<=2^1606) (hb:b.toNat<=2*r.den) (hr:r.den<=2^1700):Od r (.tup [.int a,.int b]):=by
 have hbb:b.toNat<bb:=by
  have h1:2*r.den<=2^(1+1700):=zgM (by decide) hr
  exact Nat.lt_of_le_of_lt (qaS hb h1) (qaw (Nat.pow_lt_pow_right (by decide) (by decide:1+1700<2001)) (zga (by decide)))
 refine ⟨zeQ rfl rfl fun b' e=>by cases e;exact hbb,?_,?_⟩
 ·show (mkRat a b.toNat).num.natAbs<=_
  by_cases h0:b.toNat=0
  ·rw [h0,Rat.mkRat_zero]
   exact Nat.zero_le _
  ·exact qaS (zgb a (by omega)) ha
 ·show (mkRat a b.toNat).den<=_
  by_cases h0:b.toNat=0
  ·rw [h0,Rat.mkRat_zero]
   have:=r.den_pos
   show 1<=_
   omega
  ·exact qaS (zgm a (by omega)) hb
noncomputable def odL (n d:Int):List D:=[.tup [.int (n+1),.int d],.tup [.int (2*n),.int (2*d)],.tup [.int (-n - 1),.int d],.tup [.int n,.int (d+1)],.tup [.int n,.int 0],.tup [.bl true,.int d],.tup [.int n,.bl true],.tup [.str (toString n),.int d],.int n,.non,.lst [.int n,.int d],.tup [.int n],.tup [.int 0,.int 1],.tup [.int 0,.int 2],.tup [.int (n*7),.int d]]
theorem zpc {r:Rat} (hn:r.num.natAbs<=2^1600) (hr:r.den<=2^1700): ∀ d∈odL r.num (r.den:Int),Od r d:=by
 have hp:=r.den_pos
 have h8:(2:Nat)^1606=64*2^1600:=by
  rw [show (1606:Nat)=6+1600 from rfl,Nat.pow_add]
 have hp2:1<=(2:Nat)^1600:=Nat.one_le_two_pow
 have hdb: ∀ b:Int,D.int (r.den:Int)= .int b->b.toNat<bb:=fun b e=>by
  cases e
  rw [qaB]
  exact Nat.lt_of_le_of_lt hr (qaw (Nat.pow_lt_pow_right (by decide) (by decide:1700<2001)) (zga (by decide)))
 generalize (2:Nat)^1600=T at hn h8 hp2
 intro d hd
 unfold odL at hd
 simp only [qaP,qaF,or_false] at hd
 rcases hd with rfl | rfl | rfl | rfl | rfl | rfl | rfl | rfl | rfl | rfl | rfl | rfl | rfl | rfl | rfl
 ·exact zcO (by omega) (by omega) hr
 ·exact zcO (by omega) (by omega) hr
 ·exact zcO (by omega) (by omega) hr
 ·exact zcO (by omega) (by omega) hr
 ·exact zcO (by omega) (by omega) hr
 ·exact zg5 (zeQ rfl rfl hdb) rfl
 ·exact zg5 (zeQ rfl rfl fun b e=>by cases e) rfl
 ·exact zg5 (zeQ rfl rfl hdb) rfl
 ·exact zg5 (zlk rfl fun ds e=>by cases e) rfl
 ·exact zg5 (zlk rfl fun ds e=>by cases e) rfl
 ·exact zg5 (zlk rfl fun ds e=>by cases e) rfl
 ·refine zg5 ⟨rfl,fun ds e=> ?_⟩ rfl
  cases e
  exact ⟨fun z hz=>by simp only [qaP,qaF,or_false] at hz;subst hz;rfl,fun a b e=>by cases e⟩
 ·exact zcO (by omega) (by omega) hr
 ·exact zcO (by omega) (by omega) hr
 ·exact zcO (by omega) (by omega) hr
theorem zmS: ∀ {rs:List Rat} {r:Rat},r∈rs->r.den<=dp rs
 | x::rs,r,h=>by
  have hp:=zj0 rs
  have hx:=x.den_pos
  show r.den<=x.den*dp rs
  rcases qaP.mp h with rfl | h
  ·have:r.den*1<=r.den*dp rs:=Nat.mul_le_mul_left _ hp
   omega
  ·have h1:=zmS h
   have:1*dp rs<=x.den*dp rs:=Nat.mul_le_mul_right _ hx
   omega
end
end L3
namespace K32
open PySem PySem.Spec PyProof.Rows L2 L3 LT
set_option hygiene false in
local macro_rules | `(tactic| ac_nf0)=> `(tactic| simp only [zbh,zcQ,zhP,zcT,zjf,zjx,znx,zgc,zbo,zaL,za5,zci,zlN,zfe,zaI,zaR,pure_bind,bind_assoc,zgP,zrt,zeW,zrz,List.set,zew,zpN,zpG,zpJ,zrX,zjg,zsJ,zjr,zsz,zf0,zhL,zfF,zdw,zog,zbv,zob,zdc,zsg,zgu,zko,zoT,zdX,zpn,zmt,zr6,zpo,zpE,zf2,zde,zju,zhE,zjY,zgH,zpX,zam,zak,zhT,qaE,qaJ,qaH,Nat.zero_add,Nat.reduceAdd,Nat.reduceLeDiff,zaK,zdp,tI,zjt,zoq,zk0,zp8,zl3,ziI,zls,zr8,zod,znt,zqK,zrJ,zrB,zpA,zmc,zmJ,zqq,zsu,zn7,ztp,if_true,Bool.not_true,Bool.not_false,qax,if_false,qav,List.cons_append,List.nil_append,zo2,zp0])
variable {m:Int} {os:List (List Int×Int)} {i:Nat}
theorem zgg {d:D} (k:kn d=true):F_27 [d]=pure (.bl (isI d)):=by
 rw [d_27]
 simp only [G_27,zcT,zjg,zlN,zaI,pure_bind,bind_assoc,zjQ k,zmR k,zdw,zjr]
 cases d<;>simp [isI]
noncomputable def zgx (m:Int):D->Bool
 | .tup [.tup ts,.int p]=>zdB m 0 ts && decide (0<(ts.length:Int)) && decide (0<p/\p<2^64)
 | _=>false
theorem za8 {h:Hh} {b:Nat} {m:Int} {P:D->Hh->Prop} (q:Bx b h) (h0:0<m) (h1:m<2^64) (k: ∀ t h',0<=t->t<m->Ext b h h'->P (.int t) h'):wp (F_26 [.cel b,.int m]) h P:=by
 obtain ⟨z,e⟩:=id q
 rw [d_26]
 simp only [G_26,zbh,zcQ,zci,zaI,zaR,pure_bind,bind_assoc,zfe,zkY,zam,zcH e,zko,zdX,zak,zcR h0,zgP,List.set,zhP,zh9 h0 h1,zkk,zmh]
 have e2:ixN ([D.int z]:List D).length 0=some 0:=rfl
 simp only [zam,zcH e,e2,zdX,zak,zhQ,zgP,zcT,zaR,zaI,zeW,List.set]
 exact k _ _ (Int.emod_nonneg _ (by omega)) (Int.emod_lt_of_pos _ h0) q.set
theorem zn4 {ns:List Int} {k:Int} (h0:0<=k): ∃ c:Int,F_24 [.scr (ns.map D.int),.int k]=pure (.int c):=by
 rw [d_24]
 simp only [G_24,zbh,zjf,zew,zaR,zaI,pure_bind,bind_assoc,zbo,zaL,za5,zmx,zqI,zdw]
 by_cases hk:k<((ns.map D.int).length:Int)
 ·have hk':k.toNat<ns.length:=by simp at hk;omega
  have ea:atI (ns.map D.int) k=some (.int ns[k.toNat]):=by
   have:=zdR (xs:=ns.map D.int) (j:=k.toNat) (v:= .int ns[k.toNat]) (by simp [hk'])
   rw [<- this]
   congr 1
   omega
  simp only [hk,decide_true,if_true,zcT,zci,zaI,zaR,pure_bind,zrT,ea,zdX,zrt,zeW]
  exact ⟨_,rfl⟩
 ·simp only [hk,decide_false,qax,if_false,zgc,pure_bind,zgP,zcT,zci,zfe,zaR,zaI,zgs (show (-1000000000000000:Int)<6151 by decide) (show (6151:Int)<1000000000000000 by decide),zdc,zeW]
  exact ⟨_,rfl⟩
theorem zhz {s0 s2:Option D} {k:Int} (k0:0<=k) (k5:k<5): ∀ (ds:List D) (n mx:Int) (x5:Option D),(∀ d∈ds, ∃ j:Int,d= .int j/\0<=j/\j<24)->0<=mx->mx<2147483647->
  ∃ (n' mx':Int) (x5':Option D),zba (fun x sd=>do let sd1<-zaW 5 x sd;zcZ sd1) ds [s0,some (.int k),s2,some (.int n),some (.int mx),x5]=pure (.nx [s0,some (.int k),s2,some (.int n'),some (.int mx'),x5'])
 | [],n,mx,x5,_,_,_=>⟨n,mx,x5,rfl⟩
 | d::r,n,mx,x5,hd,m0,m1=>by
  obtain ⟨j,rfl,j0,j1⟩:=hd _ qau
  obtain ⟨n',mx',x5',ih⟩:=zhz k0 k5 r (n*2147483647+(mx*48271+7*j*j+11*k+1) % 2147483647) ((mx*48271+7*j*j+11*k+1) % 2147483647) (some (.int j)) (fun y hy=>hd y (qan _ hy)) (Int.emod_nonneg _ (by decide)) (Int.emod_lt_of_pos _ (by decide))
  refine ⟨n',mx',x5',?_⟩
  rw [zcW, <-ih]
  simp only [zcZ,zde,List.set,pure_bind,bind_assoc,zbh,zcQ,zci,zaR,zaI,zfe,zgs (show -1000000000000000<mx by omega) (show mx<1000000000000000 by omega),zgs (show (-1000000000000000:Int)<7 by decide) (show (7:Int)<1000000000000000 by decide),
    zml (i:=7*j) (show -1000000000000000<j by omega) (show j<1000000000000000 by omega),zgs (show (-1000000000000000:Int)<11 by decide) (show (11:Int)<1000000000000000 by decide),zdc,zcR (show (0:Int)<2147483647 by decide),zgP,zml (i:=n) (show (-1000000000000000:Int)<2147483647 by decide) (show (2147483647:Int)<1000000000000000 by decide)]
theorem zp5 {h:Hh} {ns:List Int} {k:Int} {P:D->Hh->Prop} (k0:0<=k) (k5:k<5) (q: ∀ z:Int,P (.cel h.length) (h++[.lst [.int z]])):wp (F_25 [.scr (ns.map D.int),.int k]) h P:=by
 obtain ⟨c,ec⟩:=zn4 (ns:=ns) k0
 rw [d_25]
 simp only [G_25,zbh,zcQ,zbo,zaL,za5,zaI,zaR,pure_bind,bind_assoc,zbv,ec,zgP,List.set,zjf,zew,zci,zfe,zcR (show (0:Int)<2 by decide),zq3,zdw]
 by_cases hc:(c % 2==0)=true
 ·simp only [hc,if_true,zcT,zfF,zaL,za5,zci,zaR,zaI,zfe,pure_bind,bind_assoc,zh9 (show (0:Int)<2 by decide) (show (2:Int)<2^64 by decide),qaE,qaJ,zaK (show 0+1<=1000 by decide),zam,zhT,zak,zrt,zeW]
  exact q _
 ·obtain ⟨n',mx',x5',el⟩:=zhz (s0:=some (.scr (ns.map D.int))) (s2:=some (.int c)) k0 k5 (zdg 0 24) 0 (c % 2147483647) none (fun d hd=>by
    obtain ⟨i,e,i0,i1⟩:=zfK hd
    exact ⟨i,e,i0,by omega⟩) (Int.emod_nonneg _ (by decide)) (Int.emod_lt_of_pos _ (by decide))
  have er:zkw [.int 24]=pure (zdg 0 24):=zbX (by decide) (by decide)
  simp only [hc,if_false,zgc,pure_bind,zgP,zbh,zcQ,zfe,List.set,zci,zaR,zaI,zcR (show (0:Int)<2147483647 by decide),zjx,zf2,zaL,za5,er,bind_assoc,el,zcT,zfF,qaE,qaJ,zaK (show 0+1<=1000 by decide),zam,zhT,zak,zeW,qax]
  exact q _
theorem zgt {a b:Nat} (h:a<=b):(2:Int)^a<=2^b:=by
 have:(2:Nat)^a<=2^b:=Nat.pow_le_pow_right (by decide) h
 exact_mod_cast this
theorem zht {bits:Int}: ∀ (m:Nat),0<bits->bits<2^m-> ∃ j:Nat,j<m/\(bits / 2^j) % 2=1
 | 0,h0,h1=>by simp at h1;omega
 | m+1,h0,h1=>by
  by_cases c:bits<2^m
  ·obtain ⟨j,a,b⟩:=zht m h0 c
   exact ⟨j,by omega,b⟩
  ·refine ⟨m,by omega,?_⟩
   have hp:(0:Int)<2^m:=Int.pow_pos (by decide)
   have e:bits / 2^m=1:=by
    have h2:(2:Int)^(m+1)=2*2^m:=by rw [Int.pow_succ];omega
    have a1:1<=bits / 2^m:=(Int.le_ediv_iff_mul_le hp).mpr (by omega)
    have a2:bits / 2^m<2:=(Int.ediv_lt_iff_lt_mul hp).mpr (by omega)
    omega
   rw [e]
   decide
noncomputable def zoH (bits:Int) (d:D):Option D:=match d with
 | .int j=>if ((bits / 2^j.toNat) % 2==1)=true then some d else none
 | _=>none
theorem zgI (bits:Int): ∀ xs:List Int,(xs.map D.int).filterMap (zoH bits)=(xs.filter fun j=>(bits / 2^j.toNat) % 2==1).map D.int
 | []=>rfl
 | x::r=>by
  rw [qaM,qat,List.filter_cons,zgI bits r]
  unfold zoH
  dsimp only
  split<;>simp_all
theorem zjk {bits:Int} {m:Nat} (h0:0<bits) (h1:bits<2^m):zdB m 0 ((zdg 0 m).filterMap (zoH bits))=true/\(zdg 0 m).filterMap (zoH bits)≠[]:=by
 rw [zen,zgI]
 constructor
 ·rw [zbB]
  constructor
  ·refine List.Pairwise.filter _ ?_
   rw [List.pairwise_map]
   exact List.pairwise_lt_range.imp fun h=>by omega
  ·intro x hx
   obtain ⟨k,hk,e⟩:=qaU.mp (List.mem_filter.mp hx).1
   have:=List.mem_range.mp hk
   omega
 ·obtain ⟨j,a,b⟩:=zht m h0 h1
  intro z
  have:((j:Int))∈((List.range m).map fun (k:Nat)=>(k:Int)).filter fun j=>(bits / 2^j.toNat) % 2==1:=by
   refine List.mem_filter.mpr ⟨qaU.mpr ⟨j,List.mem_range.mpr a,rfl⟩,?_⟩
   rw [qaB,b]
   rfl
  have z':=List.map_eq_nil_iff.mp z
  rw [z'] at this
  cases this
theorem zjp {h:Hh} {b:Nat} {m:Int} {P:D->Hh->Prop} (q:Bx b h) (h0:1<=m) (h1:m<=10) (k: ∀ ts h',zdB m 0 ts=true->ts≠[]->Ext b h h'->P (.tup ts) h'):wp (F_30 [.cel b,.int m]) h P:=by
 rw [d_30]
 simp only [G_30,zbh,zcQ,zbo,zaL,za5,zaI,zaR,pure_bind,bind_assoc,zbv,zfe,zam]
 refine za8 q (by decide) (by decide) fun way h2 w0 w1 x2=> ?_
 simp only [zak,zam,zgP,List.set,zbh,zjf,zew,zaR,zaI,pure_bind,bind_assoc,zfe,zq3,zdw]
 by_cases hw:(way==0)=true
 ·rw [qa4 hw]
  simp only [zbh,zcQ,zci,zfe,zaR,zaI,pure_bind,bind_assoc,zbo,zaL,za5,zne (show 0<=m by omega) (show m<=1000 by omega),zn7,zbv,zam]
  have hp:(2:Int)<=2^m.toNat:=by
   have:(2:Int)^1<=2^m.toNat:=zgt (by omega)
   simpa using this
  have hp':(2:Int)^m.toNat<=2^10:=zgt (by omega)
  refine za8 x2.1 (by omega) (by omega) fun t h3 t0 t1 x3=> ?_
  have ed:zaC (zgR (zab (zaf 1) zan)) (zaW 0) zbZ zbU [none,some 3] [some (.cel b),some (.int m),some (.int way),some (.int (1+t)),none,none]=pure (.lst ((zdg 0 m.toNat).filterMap (zoH (1+t)))):=by
   refine zct (by simp [zbX (show 0<=m by omega) (show m<1000 by omega)]) (by rw [zdh];omega) fun x hx=> ?_
   obtain ⟨i,rfl,i0,i1⟩:=zfK hx
   have eb:zau [none,some 3] [some (.cel b),some (.int m),some (.int way),some (.int (1+t)),none,none]=[none,some (D.int (1+t))]:=rfl
   rw [eb]
   simp only [zbc,zde,List.set,pure_bind,zbZ,zew,zci,zaR,zaI,zfe,znj i0,zsf,zot,zq3,zdw,zbU,zoH]
   split<;>rfl
  simp only [zak,zam,zgP,List.set,zdc,pure_bind,zcT,zbo,zaL,za5,bind_assoc,ed,zgH,zrt,zeW]
  have hm:((m.toNat:Nat):Int)=m:=Int.toNat_of_nonneg (by omega)
  have:=zjk (bits:=1+t) (m:=m.toNat) (by omega) (by omega)
  rw [hm] at this
  exact k _ _ this.1 this.2 (x2.trans x3)
 ·rw [qa5 hw]
  have hw': ¬way=0:=by simpa using hw
  simp only [zgc,zak,zgP,zbh,zhP,zf0,zaL,za5,zbo,zaI,zaR,pure_bind,bind_assoc,zbv,zam]
  refine za8 x2.1 (by omega) (by omega) fun first h3 f0 f1 x3=> ?_
  simp only [zci,zhL,zaL,za5,zfe,zbo,zaI,zaR,pure_bind,bind_assoc,zbv,zam,zak]
  refine za8 x3.1 (by decide) (by decide) fun t h4 t0 t1 x4=> ?_
  simp only [zdc,pure_bind,zak,zam,qaE,qaJ,zaK (show 0+1+1<=1000 by decide),zaR,zaI,zn7,zgu,bind_assoc]
  obtain ⟨step,es,s0,s1⟩: ∃ s:Int,atI [D.int 1,D.int (1+t)] (way - 1)=some (.int s)/\1<=s/\s<=3:=by
   by_cases c:way=1
   ·subst c
    exact ⟨1,rfl,by decide,by decide⟩
   ·have c:way=2:=by omega
    subst c
    exact ⟨1+t,rfl,by omega,by omega⟩
  simp only [es,zdX,zak,zam,zju,zhE,zde,List.set,pure_bind,zjY,zgP,zcT,zbo,zaL,za5,zlN,bind_assoc]
  unfold zaC
  simp only [zf2,zaL,za5,zci,zfe,zbo,zaI,zaR,pure_bind,bind_assoc,zbv,zam]
  refine za8 x4.1 (by decide) (by decide) fun u h5 u0 u1 x5=> ?_
  have eb:zau [none,some 4,some 5,some 1] [some (.cel b),some (.int m),some (.int way),none,some (.int first),some (.int step)]=[none,some (D.int first),some (.int step),some (.int m)]:=rfl
  have hl:zbC (zbc (zaW 0) (fun _=>pure true) zbV [none,some (D.int first),some (.int step),some (.int m)]) (zdg 0 (1+u).toNat)=pure ((((List.range (1+u).toNat).map fun (k:Nat)=>(first+step*(k:Int)) % m)).map D.int):=by
   rw [zen]
   rw [zdY (k:=fun d=>match d with | .int j=>some (.int ((first+step*j) % m)) | _=>none)]
   ·congr 1
    rw [List.filterMap_map]
    simp [Function.comp_def]
   ·intro x hx
    obtain ⟨j,_,rfl⟩:=qaU.mp hx
    simp only [zbc,zde,List.set,pure_bind,if_true,zbV,zci,zaR,zaI,zgs (show -1000000000000000<step by omega) (show step<1000000000000000 by omega),zdc,zcR (show 0<m by omega)]
  simp only [zdc,pure_bind,zbX (show 0<=1+u by omega) (show 1+u<1000 by omega),zdh,zaK (show (1+u).toNat<=1000 by omega),eb,hl,zak,zam]
  generalize hy:((List.range (1+u).toNat).map fun (k:Nat)=>(first+step*(k:Int)) % m)=ys
  have yl:ys.length=(1+u).toNat:=by rw [<- hy];simp
  have ym: ∀ y∈ys,0<=y/\y<m:=fun y h=>by
   rw [<- hy] at h
   obtain ⟨k,_,rfl⟩:=qaU.mp h
   exact ⟨Int.emod_nonneg _ (by omega),Int.emod_lt_of_pos _ (by omega)⟩
  simp only [zge (show ys.length<64 by omega),zak,zgH,zeW,pure_bind,zam]
  refine k _ _ (zbB.mpr ⟨zfA ys,fun x hx=>ym x (zc6.mp hx)⟩) (fun z=> ?_) (((x2.trans x3).trans x4).trans x5)
  have z':=List.map_eq_nil_iff.mp z
  have hy0: ∃ y,y∈ys:=List.exists_mem_of_length_pos (by omega)
  obtain ⟨y,hy0⟩:=hy0
  have:=zc6.mpr hy0
  rw [z'] at this
  cases this
def Row (m:Int) (h:Hh) (d:D):Prop:= ∃ (n:Nat) (xs:List Int) (p:Int),d= .cel n/\h[n]? = some (.lst [.tup (xs.map D.int),.int p])/\zdB m 0 (xs.map D.int)=true/\xs≠[]/\(0<p/\p<2^64)
theorem Row.ext {m:Int} {b:Nat} {h h':Hh} {d:D} (q:Bx b h) (x:Ext b h h') (r:Row m h d):Row m h' d:=by
 obtain ⟨n,ts,p,e,e2,r⟩:=r
 have hn:n≠b:=fun z=>by
  subst z
  obtain ⟨y,e3⟩:=q
  rw [e3] at e2
  cases e2
 exact ⟨n,ts,p,e,x.2 n _ hn e2,r⟩
theorem zi4 {b:Nat} {m far:Int} (m0:1<=m) (m1:m<=10) (f0:0<far) (f1:far<2^64): ∀ (ds:List D) {h:Hh} {P:List D->Hh->Prop},Bx b h->(∀ rs h',Ext b h h'->rs.length=ds.length->(∀ r∈rs,Row m h' r)->P rs h')->
  wp (zbC (zbc (zaW 0) (fun _=>pure true) zcz [none,some (.cel b),some (.int m),some (.int far)]) ds) h P
 | [],h,P,q,k=>by
  rw [zbC,zak]
  exact k [] h (Ext.refl q) rfl fun r hr=>by cases hr
 | d::r,h,P,q,k=>by
  rw [zbC]
  simp only [zam,zbc,zde,List.set,pure_bind,if_true,zcz,zfF,zaL,za5,zbo,zaR,zaI,bind_assoc,zbv]
  refine zjp q m0 m1 fun ts h2 hr hne x2=> ?_
  simp only [zam,zci,zfe,zbo,zaL,za5,zaR,zaI,pure_bind,bind_assoc,zbv]
  refine za8 x2.1 f0 f1 fun t h3 t0 t1 x3=> ?_
  simp only [zdc,pure_bind,zak,zam,qaE,qaJ,zaK (show 0+1+1<=1000 by decide),zhT]
  have x4:=x3.1.push (c:= .lst [.tup ts,.int (1+t)])
  obtain ⟨xs,rfl⟩:=zgT (zfs hr)
  refine zi4 m0 m1 f0 f1 r x4.1 fun rs h' x5 hl hr'=> ?_
  refine k (.cel h3.length::rs) h' (((x2.trans x3).trans x4).trans x5) (by simp [hl]) fun y hy=> ?_
  rcases qaP.mp hy with rfl | hy
  ·exact Row.ext x4.1 x5 ⟨h3.length,xs,1+t,rfl,by simp,hr,fun z=>hne (by rw [z];rfl),⟨by omega,by omega⟩⟩
  ·exact hr' y hy
noncomputable def zmK (h:Hh) (i:Int) (d:D):Bool:=match d with
 | .cel n=>match h[n]? with
  | some (.lst (.tup ts::_))=>match zd2 ts with
   | some xs=>xs.any (· == i)
   | none=>false
  | _=>false
 | _=>false
noncomputable def zil (h:Hh) (d:D):D:=match d with
 | .cel n=>match h[n]? with
  | some (.lst ds)=> .tup ds
  | _=> .non
 | _=> .non
theorem zmT {m:Int} {h:Hh}: ∀ {rs:List D},(∀ r∈rs,Row m h r)-> ∃ ps,ziT h rs=some ps/\PyData.canLayAll0 ps=true/\ps.length=rs.length
 | [],_=>⟨[],rfl,rfl,rfl⟩
 | d::r,hr=>by
  obtain ⟨n,xs,p,rfl,e,_⟩:=hr d qau
  obtain ⟨ps,e1,e2,e3⟩:=zmT fun y hy=>hr y (qan _ hy)
  refine ⟨.list [.tuple (xs.map .int),.int p]::ps,?_,?_,by simp [e3]⟩
  ·simp only [ziT,pdH,e,pdL,pd,zdz,Option.map,e1]
  ·simp [PyData.canLayAll0,PyData.canLay0,zbw,e2]
theorem znL {m:Int} {h:Hh} {rs:List D} {P:D->Hh->Prop} (hr: ∀ r∈rs,Row m h r) (q:P (.bl rs.isEmpty) h):wp (zpU (.lst rs) (.lst [])) h P:=by
 obtain ⟨ps,e1,e2,e3⟩:=zmT hr
 refine ⟨.bl rs.isEmpty,h,?_,q⟩
 unfold zpU
 have a1:pdH h (.lst rs)=some (.list ps):=by simp only [pdH,e1,Option.map]
 have a2:pdH h (.lst [])=some (.list []):=by simp only [pdH,ziT,Option.map]
 rw [a1,a2]
 have c:zgf (.list ps) (.list [])=true:=by
  unfold zgf
  simp [PyData.canLay0,PyData.canLayAll0,e2,PyData.depth,PyData.depthAll]
 simp only [c,if_true]
 cases ps with
 | nil=>
  cases rs with
  | nil=>rfl
  | cons _ _=>cases e3
 | cons _ _=>
  cases rs with
  | nil=>cases e3
  | cons _ _=>rfl
def Cov (rows:List D) (h:Hh) (j:Int):Prop:= ∃ r∈rows, ∃ (n:Nat) (xs:List Int) (p:Int),r= .cel n/\h[n]? = some (.lst [.tup (xs.map D.int),.int p])/\j∈xs
theorem Cov.ext {b:Nat} {rows:List D} {h h':Hh} {j:Int} (q:Bx b h) (x:Ext b h h') (r:Cov rows h j):Cov rows h' j:=by
 obtain ⟨d,hd,n,ts,p,e,e2,r⟩:=r
 have hn:n≠b:=fun z=>by
  subst z
  obtain ⟨y,e3⟩:=q
  rw [e3] at e2
  cases e2
 exact ⟨d,hd,n,ts,p,e,x.2 n _ hn e2,r⟩
theorem zf7 {b:Nat} {m far:Int} {s1 s2:Option D} {rows:List D} (m0:1<=m) (m1:m<=10) (hne:rows≠[]) (hl:rows.length<=12): ∀ (ds:List D) (dn:List Int) {h:Hh} {x6 x7:Option D} {P:Out->Hh->Prop},Bx b h->(∀ d∈ds, ∃ i:Int,d= .int i/\0<=i/\i<m)->(∀ r∈rows,Row m h r)->(∀ j∈dn,Cov rows h j)->
  (∀ x6' x7' h',Bx b h'->(∀ r∈rows,Row m h' r)->(∀ j,j∈dn\/D.int j∈ds->Cov rows h' j)->P (.nx [some (.cel b),s1,s2,some (.int m),some (.int far),some (.lst rows),x6',x7']) h')->
  wp (zba (fun x sd=>do let sd1<-zaW 6 x sd;zbl sd1) ds [some (.cel b),s1,s2,some (.int m),some (.int far),some (.lst rows),x6,x7]) h P
 | [],dn,h,x6,x7,P,q,_,hr,hc,k=>by
  rw [zfB,zak]
  exact k _ _ h q hr fun j hj=>hc j (hj.elim id fun z=>by cases z)
 | d::r,dn,h,x6,x7,P,q,hd,hr,hc,k=>by
  obtain ⟨i,rfl,i0,i1⟩:=hd _ qau
  have hd':=fun y hy=>hd y (qan _ hy)
  have ih: ∀ {h:Hh} {x6 x7:Option D},Bx b h->(∀ r∈rows,Row m h r)->(∀ j∈i::dn,Cov rows h j)->wp (zba (fun x sd=>do let sd1<-zaW 6 x sd;zbl sd1) r [some (.cel b),s1,s2,some (.int m),some (.int far),some (.lst rows),x6,x7]) h P:=fun q hr hc=>zf7 m0 m1 hne hl r (i::dn) q hd' hr hc fun x6' x7' h' q' hr' hc'=>k x6' x7' h' q' hr' fun j hj=>hc' j (by
    rcases hj with hj | hj
    · exact .inl (qan _ hj)
    · rcases qaP.mp hj with z | z
      · cases z;exact .inl qau
      · exact .inr z)
  rw [zcW]
  generalize zba (fun x sd=>do let sd1<-zaW 6 x sd;zbl sd1) r=rest at ih ⊢
  simp only [zde,List.set,pure_bind,zbl,zjf,zew,zam]
  refine ziF (k:=fun d=>if zmK h i d=true then some d else none) (ds:=rows) (by simp) (by omega) (fun x hx=> ?_) ?_
  ·obtain ⟨n,xs,p,rfl,e,_⟩:=hr x hx
   have eb:zau [none,some 6] [some (.cel b),s1,s2,some (.int m),some (.int far),some (.lst rows),some (.int i),x7]=[none,some (D.int i)]:=rfl
   rw [eb]
   simp only [zbc,zde,List.set,pure_bind,zdN,zew,zaR,zaI,zci,zfe,zkY,bind_assoc,zam,zcH e,zko,zdX,zak,zcB,zdw,zdA,zmK,e,zbY]
   rw [zkt]
   split
   ·simp_all [zak,zaI,zam]
   ·simp_all [zak]
  ·simp only [zhL,za5,pure_bind,qaJ,zaK (show 0<=1000 by decide),zam,zak]
   refine znL (m:=m) (fun y hy=> ?_) ?_
   ·obtain ⟨z,hz,ez⟩:=List.mem_filterMap.mp hy
    split at ez
    ·cases ez;exact hr _ hz
    ·cases ez
   simp only [zdw,zak]
   rw [zkt]
   split
   ·rename_i c
    have none_has: ∀ y∈rows,zmK h i y=false:=fun y hy=>by
     cases z:zmK h i y with
     | false=>rfl
     | true=>
      have:y∈rows.filterMap fun d=>if zmK h i d=true then some d else none:=List.mem_filterMap.mpr ⟨y,hy,by rw [z];rfl⟩
      rw [List.isEmpty_iff.mp c] at this
      cases this
    have hpos:0<rows.length:=List.length_pos_iff.mpr hne
    simp only [zbh,zcQ,zci,zaR,zaI,pure_bind,bind_assoc,zbo,zaL,za5,zmt,zbv,zam]
    refine za8 q (by omega) (by omega) fun t h2 t0 t1 x2=> ?_
    have ht:t.toNat<rows.length:=by omega
    have ea:atI rows t=some rows[t.toNat]:=by
     have:=zdR (xs:=rows) (j:=t.toNat) (v:=rows[t.toNat]) (by simp [ht])
     rw [<- this]
     congr 1
     omega
    have hrow:=hr rows[t.toNat] (List.getElem_mem ht)
    have hno:=none_has rows[t.toNat] (List.getElem_mem ht)
    have hmem:rows[t.toNat]∈rows:=List.getElem_mem ht
    generalize rows[t.toNat]=row at ea hrow hno hmem
    obtain ⟨n,xs,p,rfl,e,hrs,hx0,hp0⟩:=hrow
    have hni:i∉xs:=fun z=>by
     simp only [zmK,e,zbY] at hno
     have:xs.any (· == i)=true:=List.any_eq_true.mpr ⟨i,z,by simp⟩
     rw [this] at hno
     cases hno
    have hnb:n≠b:=fun z=>by
     subst z
     obtain ⟨y,e3⟩:=q
     rw [e3] at e
     cases e
    have e2:=x2.2 n _ hnb e
    obtain ⟨hpw,hbd⟩:=zbB.mp hrs
    have hxl:(xs.length:Int)<=m:=by have:=zej hrs (by omega);simpa using this
    have esn:((xs.map D.int)++[D.int i])=(xs++[i]).map D.int:=by simp
    simp only [zgu,ea,zdX,zak,zgP,List.set,zhP,zbo,zaL,za5,zci,zaR,zaI,zfe,pure_bind,bind_assoc,zkY,zam,zcH e2,zko,zf0,qaE,qaJ,zaK (show 0+1<=1000 by decide),zmc,qaH,
      zaK (show xs.length+(0+1)<=1000 by omega),esn,zfa (show (xs++[i]).length<64 by simp;omega),zgH,zkk,zmh]
    have e3:ixN (0+1+1) 0=some 0:=rfl
    simp only [zam,zcH e2,qaE,qaJ,e3,zdX,zak,zhQ,List.set]
    have hlt:n<h2.length:=(qac.mp e2).1
    refine ih ?_ ?_ ?_
    ·obtain ⟨y,ey⟩:=x2.1
     exact ⟨y,by rw [qao hnb];exact ey⟩
    ·intro y hy
     obtain ⟨n',xs',p',rfl,e',r1,r2,r3⟩:=Row.ext q x2 (hr y hy)
     by_cases hnn:n'=n
     ·subst hnn
      refine ⟨n',zbu (xs++[i]),p,rfl,qai hlt,zbB.mpr ⟨zm0 hpw hni,fun z hz=> ?_⟩,fun z=> ?_,hp0⟩
      ·have:=(zay (xs++[i])).mem_iff.mp hz
       rcases qaK.mp this with w | w
       ·exact hbd z w
       ·simp at w;omega
      ·have:=(zay (xs++[i])).length_eq
       rw [z] at this
       simp at this
     ·exact ⟨n',xs',p',rfl,by rw [qao (Ne.symm hnn)];exact e',r1,r2,r3⟩
    ·intro j hj
     rcases qaP.mp hj with rfl | hj
     ·exact ⟨.cel n,hmem,n,zbu (xs++[j]),p,rfl,qai hlt,(zay (xs++[j])).mem_iff.mpr (by simp)⟩
     ·obtain ⟨y,hy,n',xs',p',rfl,e',hj'⟩:=Cov.ext q x2 (hc j hj)
      by_cases hnn:n'=n
      ·subst hnn
       rw [e2] at e'
       have exs:xs=xs':=by
        have z:xs.map D.int=xs'.map D.int:=by injection (Option.some.inj e') with z;simpa using (List.cons.inj z).1
        exact (List.map_inj_right fun a b h=>by injection h).mp z
       subst exs
       exact ⟨_,hy,n',zbu (xs++[i]),p,rfl,qai hlt,(zay (xs++[i])).mem_iff.mpr (List.mem_append_left _ hj')⟩
      ·exact ⟨_,hy,n',xs',p',rfl,by rw [qao (Ne.symm hnn)];exact e',hj'⟩
   ·rename_i c
    simp only [zgc,zak]
    refine ih q hr fun j hj=> ?_
    rcases qaP.mp hj with rfl | hj
    ·obtain ⟨y,hy⟩:=List.exists_mem_of_ne_nil (rows.filterMap fun d=>if zmK h j d=true then some d else none) (fun z=>c (by rw [z];rfl))
     obtain ⟨z,hz,ez⟩:=List.mem_filterMap.mp hy
     split at ez
     ·rename_i c2
      obtain ⟨n,xs,p,rfl,e,_⟩:=hr z hz
      simp only [zmK,e,zbY] at c2
      obtain ⟨k,hk,ek⟩:=List.any_eq_true.mp c2
      exact ⟨_,hz,n,xs,p,rfl,e,(show k=j by simpa using ek)▸hk⟩
     ·cases ez
    ·exact hc j hj
theorem zow {h:Hh} {b:Nat} {lots:Int} {P:D->Hh->Prop} (z0:1<=lots) (z1:lots<=12) (q:Bx b h) (k: ∀ (m:Int) (os:List D) h',Bx b h'->1<=m->m<=10->1<=os.length->os.length<=12->(∀ o∈os,zgx m o=true)->(∀ i:Int,0<=i->i<m-> ∃ o∈os, ∃ (xs:List Int) (p:Int),o= .tup [.tup (xs.map D.int),.int p]/\i∈xs)->P (.tup [.int m,.tup os]) h'):wp (F_31 [.cel b,.int 10,.int lots]) h P:=by
 rw [d_31]
 simp only [G_31,zbh,zcQ,zci,zfe,zbo,zaL,za5,zaI,zaR,pure_bind,bind_assoc,zbv,zam]
 refine za8 q (by decide) (by decide) fun t h2 t0 t1 x2=> ?_
 simp only [zdc,pure_bind,zak,zgP,List.set,zbh,zcQ,zci,zhL,zaL,za5,zfe,znY,bind_assoc,zam,qaE,qaJ,zaK (show 0+1+1+1+1<=1000 by decide),zbo,zaI,zaR,zbv]
 refine za8 x2.1 (by decide) (by decide) fun f h3 f0 f1 x3=> ?_
 obtain ⟨far,ef,g0,g1⟩: ∃ far:Int,atI [D.int 3,.int 9,.int 50,.int 1000000000000] f=some (.int far)/\0<far/\far<2^64:=by
  have:f=0\/f=1\/f=2\/f=3:=by omega
  rcases this with rfl | rfl | rfl | rfl
  ·exact ⟨3,rfl,by decide,by decide⟩
  ·exact ⟨9,rfl,by decide,by decide⟩
  ·exact ⟨50,rfl,by decide,by decide⟩
  ·exact ⟨1000000000000,rfl,by decide,by decide⟩
 simp only [zgu,ef,zdX,zak,zgP,List.set,zbh,zcQ,zam]
 unfold zaC
 simp only [zf2,zaL,za5,zci,zfe,zbo,zaI,zaR,pure_bind,bind_assoc,zbv,zam]
 refine za8 x3.1 (by omega) (by omega) fun u h4 u0 u1 x4=> ?_
 have eb:zau [none,some 0,some 3,some 4] [some (.cel b),some (.int 10),some (.int lots),some (.int (1+t)),some (.int far),none,none,none]=[none,some (D.cel b),some (.int (1+t)),some (.int far)]:=rfl
 simp only [zdc,pure_bind,zbX (show 0<=1+u by omega) (show 1+u<1000 by omega),zdh,zaK (show (1+u).toNat<=1000 by omega),eb,zam,zak]
 refine zi4 (by omega) (by omega) g0 g1 _ x4.1 fun rows h5 x5 hl hr=> ?_
 rw [zdh] at hl
 simp only [zak,zgP,List.set,zbh,zjx,zf2,zaL,za5,zaR,zaI,pure_bind,zbX (show 0<=1+t by omega) (show 1+t<1000 by omega),zam]
 refine zf7 (by omega) (by omega) (fun z=>by rw [z] at hl;simp at hl;omega) (by omega) _ [] x5.1 (fun d hd=> ?_) hr (fun j hj=>by cases hj) fun x6 x7 h6 q6 hr6 hc6=> ?_
 ·obtain ⟨i,e,i0,i1⟩:=zfK hd
  exact ⟨i,e,i0,by omega⟩
 simp only [zgP,zcT,zf0,zaL,za5,zaR,zaI,pure_bind,bind_assoc,zbo,zam]
 have eb6:zau [none] [some (.cel b),some (.int 10),some (.int lots),some (.int (1+t)),some (.int far),some (.lst rows),x6,x7]=[none]:=rfl
 simp only [zpE,zaR,zaI,pure_bind,zpo,zak,zaK (show rows.length<=1000 by omega),eb6]
 refine zdT (k:=fun d=>some (zil h6 d)) (fun x hx=> ?_) ?_
 ·obtain ⟨n,xs,p,rfl,e,_⟩:=hr6 x hx
  simp only [zbc,zde,List.set,pure_bind,if_true,zdr,zf0,zaL,za5,zci,zaI,zfe,zkY,bind_assoc,zam,zcH e,zko,zoT,zdX,zak,qaE,qaJ,zaK (show 0+1+1<=1000 by decide),zil,e]
  exact ⟨trivial,trivial⟩
 ·simp only [zgH,zak,pure_bind,qaE,qaJ,zaK (show 0+1+1<=1000 by decide),zeW,zam]
  have em:(rows.filterMap fun d=>some (zil h6 d))=rows.map (zil h6):=by simp
  rw [em]
  refine k (1+t) _ h6 q6 (by omega) (by omega) (by simp;omega) (by simp;omega) (fun o ho=> ?_) fun i i0 i1=> ?_
  rotate_left
  ·obtain ⟨r,hr',n,xs,p,rfl,e,hi⟩:=hc6 i (.inr (by rw [zen,qaU];exact ⟨i,qaU.mpr ⟨i.toNat,List.mem_range.mpr (by omega),by omega⟩,rfl⟩))
   exact ⟨_,qaU.mpr ⟨_,hr',rfl⟩,xs,p,by simp only [zil,e],hi⟩
  obtain ⟨r,hr',rfl⟩:=qaU.mp ho
  obtain ⟨n,xs,p,rfl,e,r1,r2,r3⟩:=hr6 r hr'
  have hx:0<(xs.length:Int):=by
   have:=List.length_pos_iff.mpr r2
   omega
  simp only [zil,e,zgx,r1,qaH]
  simp [hx,r3]
  exact ⟨List.length_pos_iff.mpr r2,r3.2⟩
theorem zkA {m:Int} {o:D} (h:zgx m o=true): ∃ (xs:List Int) (p:Int),o=zdp (xs,p)/\(xs.Pairwise (· < ·)/\ ∀ x∈xs,0<=x/\x<m)/\xs≠[]/\(0<p/\p<2^64):=by
 unfold zgx at h
 split at h
 ·rename_i ts p
  simp only [qaG,qaD] at h
  obtain ⟨⟨h1,h2⟩,h3⟩:=h
  obtain ⟨xs,rfl⟩:=zgT (zfs h1)
  exact ⟨xs,p,rfl,zbB.mp h1,fun z=>by rw [z] at h2;simp at h2,h3⟩
 ·cases h
theorem zmz {m:Int} (m0:1<=m) (m1:m<=10): ∀ {ds:List D},ds.length<=12->(∀ o∈ds,zgx m o=true)-> ∃ os,ds=os.map zdp/\Stk m os/\ ∀ o∈os,o.2<2^64
 | [],_,_=>⟨[],rfl,⟨m0,m1,by simp,by simp,by simp,by simp,by simp⟩,by simp⟩
 | d::r,hl,h=>by
  obtain ⟨os,e,s,hP⟩:=zmz m0 m1 (ds:=r) (by simp at hl;omega) fun o ho=>h o (qan _ ho)
  obtain ⟨xs,p,e1,⟨h1,h2⟩,h3,h4,h5⟩:=zkA (h d qau)
  have hlen:((xs,p)::os).length<=12:=by rw [e] at hl;simpa using hl
  refine ⟨(xs,p)::os,by rw [qaM,e,e1],⟨m0,m1,hlen,?_,?_,?_,?_⟩,fun o ho=>by
    rcases qaP.mp ho with rfl | ho
    · exact h5
    · exact hP o ho⟩
  ·intro o ho
   rcases qaP.mp ho with rfl | ho
   ·exact h1
   ·exact s.up o ho
  ·intro o ho
   rcases qaP.mp ho with rfl | ho
   ·exact h2
   ·exact s.bd o ho
  ·intro o ho
   rcases qaP.mp ho with rfl | ho
   ·exact h3
   ·exact s.ne o ho
  ·intro o ho
   rcases qaP.mp ho with rfl | ho
   ·exact h4
   ·exact s.pos o ho
theorem zlR {m:Int} {os:List (List Int×Int)} (s:Stk m os) {h:Hh} {b:Nat} {P:D->Hh->Prop} (q:Bx b h) (k: ∀ os' h',Stk m os'->(∀ o∈os', ∃ o'∈os,o.2=o'.2)->Ext b h h'->P (zcn m os') h'):wp (F_32 [.cel b,zcn m os]) h P:=by
 have m0:=s.m0
 have m1:=s.m1
 have hl:=s.len
 rw [d_32]
 simp only [G_32,zcn]
 ac_nf0
 refine za8 q (by omega) (by omega) fun t h2 t0 t1 x2=> ?_
 ac_nf0
 have e1:zaC (iSq (zaf 3)) (zb0 2 (zax (zaW 0) (zax (zaW 1) zbW))) (fun _=>pure true) zcf [none,none,some 4] [some (.cel b),some (.tup [.int m,.tup (os.map zdp)]),some (.int m),some (.tup (os.map zdp)),some (.int t),none]
   = pure (.lst ((os.map fun o=>(o.1.filter fun x=> !(x==t),o.2)).map zdp)):=by
  rw [zeM (ds:=os.map zdp) (k:=fun d=>match d with | .tup [.tup ts,p]=> .tup [.tup (ts.filter fun d=>match d with | .int x=> !(x==t) | _=>true),p] | d=>d) (by ac_nf0) (by rw [qaH];omega) ?_]
  ·rw [qaT,qaT]
   congr 2
   refine List.map_congr_left fun o _=> ?_
   simp only [Function.comp,zdp,tI]
   congr 2
   rw [List.filter_map]
   rfl
  ·intro x hx
   obtain ⟨o,ho,rfl⟩:=qaU.mp hx
   have eb:zau [none,none,some 4] [some (.cel b),some (.tup [.int m,.tup (os.map zdp)]),some (.int m),some (.tup (os.map zdp)),some (.int t),none]=[none,none,some (.int t)]:=rfl
   rw [eb]
   simp only [zbc,zcf]
   ac_nf0
   have e2:zaC (iSq (zaf 0)) (zaW 0) zck zcb [none,some 2] [some (.tup (o.1.map D.int)),some (.int o.2),some (.int t)]=pure (.lst ((o.1.filter fun x=> !(x==t)).map D.int)):=by
    rw [<- zcj (k:=fun d=>match d with | .int x=>if (!(x==t))=true then some (.int x) else none | d=>none) fun _=>rfl]
    refine zct (by ac_nf0) (by rw [qaH];have:=s.olen o ho;omega) fun x hx=> ?_
    obtain ⟨i,_,rfl⟩:=qaU.mp hx
    have eb:zau [none,some 2] [some (.tup (o.1.map D.int)),some (.int o.2),some (.int t)]=[none,some (.int t)]:=rfl
    rw [eb]
    simp only [zbc,zck,zcb]
    ac_nf0
    rw [zrq]
    ac_nf0
    split<;>rfl
   simp only [if_true,e2]
   ac_nf0
   congr 3
   rw [List.filter_map]
   rfl
 rw [e1]
 ac_nf0
 generalize hos:(os.map fun o=>(o.1.filter fun x=> !(x==t),o.2))=os1
 have e3:zaC (iSq (zaf 5)) (zaW 0) zca zcg [none] [some (.cel b),some (.tup [.int m,.tup (os.map zdp)]),some (.int m),some (.tup (os.map zdp)),some (.int t),some (.lst (os1.map zdp))]
   = pure (.lst ((os1.filter fun o=> !o.1.isEmpty).map zdp)):=by
  have e4:(os1.map zdp).filterMap (fun d=>match d with | .tup [.tup ts,p]=>if (!ts.isEmpty)=true then some (.tup [.tup ts,p]) else none | d=>none)=(os1.filter fun o=> !o.1.isEmpty).map zdp:=by
   clear hos e1
   induction os1 with
   | nil=>rfl
   | cons o r ih=>
    rw [qaM,qat,ih,List.filter_cons]
    simp only [zdp,tI]
    obtain ⟨ts,p⟩:=o
    cases ts<;>simp [zdp,tI]
  rw [<- e4]
  refine zct (by ac_nf0) (by rw [qaH, <-hos,qaH];omega) fun x hx=> ?_
  obtain ⟨o,_,rfl⟩:=qaU.mp hx
  have eb: ∀ sd,zau [none] sd=[none]:=fun _=>rfl
  rw [eb]
  simp only [zbc,zca,zcg]
  ac_nf0
  have e5:=zlq o.1
  unfold tI at e5
  rw [e5]
  ac_nf0
  simp only [List.isEmpty_map]
  split<;>rfl
 rw [e3]
 ac_nf0
 suffices hS:Stk m (os1.filter fun o=> !o.1.isEmpty)/\ ∀ o∈os1.filter fun o=> !o.1.isEmpty, ∃ o'∈os,o.2=o'.2 from k _ h2 hS.1 hS.2 x2
 have hm: ∀ o∈os1.filter fun o=> !o.1.isEmpty, ∃ o'∈os,o=(o'.1.filter fun x=> !(x==t),o'.2)/\o.1≠[]:=fun o ho=>by
  obtain ⟨h1,h2⟩:=List.mem_filter.mp ho
  rw [<- hos] at h1
  obtain ⟨o',h3,rfl⟩:=qaU.mp h1
  exact ⟨o',h3,rfl,by intro e;rw [e] at h2;simp at h2⟩
 refine ⟨?_,fun o ho=> ?_⟩
 rotate_left
 ·obtain ⟨o',h1,rfl,_⟩:=hm o ho
  exact ⟨o',h1,rfl⟩
 refine ⟨m0,m1,?_,fun o ho=> ?_,fun o ho=> ?_,fun o ho=> ?_,fun o ho=> ?_⟩
 ·have:=List.length_filter_le (fun o:List Int×Int=> !o.1.isEmpty) os1
  rw [<- hos,qaH] at this
  rw [<- hos]
  omega
 ·obtain ⟨o',h1,rfl,_⟩:=hm o ho
  exact (s.up o' h1).filter _
 ·obtain ⟨o',h1,rfl,_⟩:=hm o ho
  exact fun x hx=>s.bd o' h1 x (List.mem_filter.mp hx).1
 ·exact (hm o ho).choose_spec.2.2
 ·obtain ⟨o',h1,rfl,_⟩:=hm o ho
  exact s.pos o' h1
theorem zlZ:dIx (zcn m os) (.int 1)=pure (.tup (os.map zdp)):=rfl
theorem zrr:dIx (zcn m os) (.int 0)=pure (.int m):=rfl
theorem zfH (a b:Nat):Nat.gcd a b=Nat.gcd b (a % b):=by rw [Nat.gcd_comm a b,Nat.gcd_rec b a,Nat.gcd_comm]
theorem znR {s0 s1:Option D} {n a:Nat} {x4:Option D}:zbs zai zaj (n+1) [s0,s1,some (.int (a:Int)),some (.int ((0:Nat):Int)),x4]=pure (.nx [s0,s1,some (.int (a:Int)),some (.int 0),x4]):=by
 rw [zdW]
 simp only [zai]
 ac_nf0
 rfl
theorem zny {s0 s1:Option D} {n a b:Nat} {x4:Option D} (hb:b≠0):zbs zai zaj (n+1) [s0,s1,some (.int (a:Int)),some (.int (b:Int)),x4]=zbs zai zaj n [s0,s1,some (.int (b:Int)),some (.int ((a % b:Nat):Int)),some (.int ((a % b:Nat):Int))]:=by
 rw [zdW]
 generalize zbs zai zaj n=rest
 simp only [zai,zaj]
 ac_nf0
 rw [show decide ((0:Int)<(b:Int))=true by rw [qaD];omega]
 ac_nf0
 rw [zcR (by omega)]
 ac_nf0
 rfl
theorem zjo {s0 s1:Option D}: ∀ (k n a b:Nat) (x4:Option D),b<=a->a*b<2^k->k<n-> ∃ y4,zbs zai zaj n [s0,s1,some (.int (a:Int)),some (.int (b:Int)),x4]=pure (.nx [s0,s1,some (.int (Nat.gcd a b:Int)),some (.int 0),y4])
 | k,0,a,b,x4,_,_,h=>by omega
 | k,n+1,a,b,x4,hab,hk,h=>by
  by_cases hb:b=0
  ·subst hb
   exact ⟨x4,by rw [znR,Nat.gcd_zero_right]⟩
  ·cases k with
   | zero=>
    have:1<=a*b:=Nat.mul_pos (by omega) (Nat.pos_of_ne_zero hb)
    omega
   | succ k=>
    obtain ⟨y4,ih⟩:=zjo (s0:=s0) (s1:=s1) k n b (a % b) (some (.int ((a % b:Nat):Int))) (Nat.le_of_lt (Nat.mod_lt a (Nat.pos_of_ne_zero hb))) (euc hb hab hk) (by omega)
    exact ⟨y4,by rw [zny hb,ih,zfH a b]⟩
theorem zoR {b r:Nat} (hb:b<bb) (h:r<=b):b*r<2^14000:=by
 have h1:b*r<=b*b:=Nat.mul_le_mul_left b h
 have h2:b*b<bb*bb:=Nat.mul_lt_mul'' hb hb
 have h3:bb*bb=2^14000:=by
  unfold bb
  rw [<- Nat.pow_add]
 omega
theorem zlY {s0 s1:Option D} {n:Nat} {a:Int} {b:Nat} {x4:Option D} (hb:b≠0):zbs zai zaj (n+1) [s0,s1,some (.int a),some (.int (b:Int)),x4]=zbs zai zaj n [s0,s1,some (.int (b:Int)),some (.int (((a % (b:Int)).toNat:Nat):Int)),some (.int (((a % (b:Int)).toNat:Nat):Int))]:=by
 have e:(((a % (b:Int)).toNat:Nat):Int)=a % (b:Int):=Int.toNat_of_nonneg (Int.emod_nonneg _ (by omega))
 rw [zdW,e]
 generalize zbs zai zaj n=rest
 simp only [zai,zaj]
 ac_nf0
 rw [show decide ((0:Int)<(b:Int))=true by rw [qaD];omega]
 ac_nf0
 rw [zcR (by omega)]
 ac_nf0
theorem zqA (a:Int) {b:Nat} (hb:0<b):(a % (b:Int)).toNat<=b:=by
 have h1:=Int.emod_lt_of_pos a (b:=(b:Int)) (by omega)
 have h0:=Int.emod_nonneg a (b:=(b:Int)) (by omega)
 omega
theorem zps {a:Int} {b:Nat} (h0:0<b) (hb:b<bb):F_15 [.int a,.int (b:Int)]=pure (.int (Nat.gcd a.natAbs b:Int)):=by
 have hr:=zqA a h0
 obtain ⟨y4,ih⟩:=zjo (s0:=some (.int a)) (s1:=some (.int (b:Int))) 14000 19999 b (a % (b:Int)).toNat (some (.int (((a % (b:Int)).toNat:Nat):Int))) hr (zoR hb hr) (by decide)
 have e:zbs zai zaj 20000 [some (.int a),some (.int (b:Int)),some (.int a),some (.int (b:Int)),none]=pure (.nx [some (.int a),some (.int (b:Int)),some (.int (Nat.gcd a.natAbs b:Int)),some (.int 0),y4]):=by
  rw [show (20000:Nat)=19999+1 from rfl,zlY (by omega),ih,znM a h0]
 rw [d_15]
 simp only [G_15]
 ac_nf0
 rw [show zeR 20000 zai zaj [some (.int a),some (.int (b:Int)),some (.int a),some (.int (b:Int)),none]=zbs zai zaj 20000 [some (.int a),some (.int (b:Int)),some (.int a),some (.int (b:Int)),none] from rfl,e]
 ac_nf0
theorem zs2 {a:Int} {b:Nat} (h0:0<b):qD (mkRat a b)= .tup [.int (a / (Nat.gcd a.natAbs b:Int)),.int ((b:Int) / (Nat.gcd a.natAbs b:Int))]:=by
 unfold qD
 rw [Rat.num_mkRat,Rat.den_mkRat,qa5 (by omega),qa5 (by omega),Nat.gcd_comm b,Int.natCast_ediv]
theorem ziv {a:Int} {b:Nat} (h0:0<b) (h1:b<bb):F_14 [.int a,.int (b:Int)]=pure (qD (mkRat a b)):=by
 have g0:=Nat.gcd_pos_of_pos_right a.natAbs h0
 have g1:=Nat.gcd_le_right a.natAbs h0
 rw [zs2 h0,d_14]
 simp only [G_14]
 ac_nf0
 rw [zps h0 h1]
 ac_nf0
 rw [zdL g0 (by omega),zdL g0 (by omega)]
 ac_nf0
theorem znN {s0 s1:Option D} {n a:Nat}:zbs zaB zaG (n+1) [s0,s1,some (.int (a:Int)),some (.int ((0:Nat):Int))]=pure (.nx [s0,s1,some (.int (a:Int)),some (.int 0)]):=by
 rw [zdW]
 simp only [zaB]
 ac_nf0
 rfl
theorem zkd {s0 s1:Option D} {n a b:Nat} (hb:b≠0):zbs zaB zaG (n+1) [s0,s1,some (.int (a:Int)),some (.int (b:Int))]=zbs zaB zaG n [s0,s1,some (.int (b:Int)),some (.int ((a % b:Nat):Int))]:=by
 rw [zdW]
 generalize zbs zaB zaG n=rest
 simp only [zaB,zaG,zoG]
 ac_nf0
 rw [show decide ((0:Int)<(b:Int))=true by rw [qaD];omega]
 ac_nf0
 rw [zcR (by omega)]
 ac_nf0
 rfl
theorem zjU {s0 s1:Option D}: ∀ (k n a b:Nat),b<=a->a*b<2^k->k<n->zbs zaB zaG n [s0,s1,some (.int (a:Int)),some (.int (b:Int))]=pure (.nx [s0,s1,some (.int (Nat.gcd a b:Int)),some (.int 0)])
 | k,0,a,b,_,_,h=>by omega
 | k,n+1,a,b,hab,hk,h=>by
  by_cases hb:b=0
  ·subst hb
   rw [znN,Nat.gcd_zero_right]
  ·cases k with
   | zero=>
    have:1<=a*b:=Nat.mul_pos (by omega) (Nat.pos_of_ne_zero hb)
    omega
   | succ k=>
    have ih:=zjU (s0:=s0) (s1:=s1) k n b (a % b) (Nat.le_of_lt (Nat.mod_lt a (Nat.pos_of_ne_zero hb))) (euc hb hab hk) (by omega)
    rw [zkd hb,ih,zfH a b]
theorem zfI {a:Int} {b:Nat} (h0:0<b) (h1:b<bb):F_35 [.int a,.int (b:Int)]=pure (qD (mkRat a b)):=by
 have g0:=Nat.gcd_pos_of_pos_right a.natAbs h0
 have g1:=Nat.gcd_le_right a.natAbs h0
 have hr:=Nat.le_of_lt (Nat.mod_lt a.natAbs h0)
 have e:zbs zaB zaG 20000 [some (.int a),some (.int (b:Int)),some (.int (a.natAbs:Int)),some (.int (b:Int))]=pure (.nx [some (.int a),some (.int (b:Int)),some (.int (Nat.gcd a.natAbs b:Int)),some (.int 0)]):=by
  rw [show (20000:Nat)=19999+1 from rfl,zkd (by omega),zjU 14000 19999 b (a.natAbs % b) hr (zoR h1 hr) (by decide),zfH a.natAbs b]
 have a1: ∀ z:Int,zpH [.int z]=pure (.int (z.natAbs:Int)):=fun z=>by
  show pure (D.int (if z<0 then -z else z))=_
  congr 2
  split<;>omega
 rw [zs2 h0,d_35]
 simp only [G_35]
 ac_nf0
 rw [zqk]
 ac_nf0
 rw [a1,a1]
 ac_nf0
 rw [Int.natAbs_natCast]
 rw [show zeR 20000 zaB zaG [some (.int a),some (.int (b:Int)),some (.int (a.natAbs:Int)),some (.int (b:Int))]=zbs zaB zaG 20000 [some (.int a),some (.int (b:Int)),some (.int (a.natAbs:Int)),some (.int (b:Int))] from rfl,e]
 ac_nf0
 rw [zdL g0 (by omega),zdL g0 (by omega)]
 ac_nf0
theorem zhI {d:D} (k:kn d=true):F_12 [d]=pure (.bl (isI d)):=by
 rw [d_12]
 simp only [G_12,zcT,zjg,zlN,zaI,pure_bind,bind_assoc,zjQ k,zmR k,zdw,zjr]
 cases d<;>simp [isI]
theorem zgE {d:D} (g:sv d):F_36 [d]=pure (.bl (pF d)):=by
 obtain ⟨k,g⟩:=g
 have et:=zhX k
 rw [d_36]
 simp only [G_36]
 ac_nf0
 rw [et]
 cases d with
 | tup ds=>
  obtain ⟨kd,hb⟩:=g ds rfl
  simp only [isT]
  ac_nf0
  rw [zrq]
  ac_nf0
  match ds,kd,hb with
  | [],_,_=>
   rw [show ((([]:List D).length:Int)==2)=false from rfl]
   ac_nf0
   rfl
  | [x],_,_=>
   rw [show (([x].length:Int)==2)=false from rfl]
   ac_nf0
   cases x<;>rfl
  | x::y::z::r,_,_=>
   rw [show (((x::y::z::r).length:Int)==2)=false by rw [beq_eq_false_iff_ne];simp;omega]
   ac_nf0
   cases x<;>cases y<;>rfl
  | [x,y],kd,hb=>
   have kx:=kd x (by simp)
   have ky:=kd y (by simp)
   rw [show (([x,y].length:Int)==2)=true from rfl]
   ac_nf0
   rw [zgg kx]
   cases x with
   | int a=>
    simp only [isI]
    ac_nf0
    rw [zgg ky]
    cases y with
    | int b=>
     simp only [isI]
     ac_nf0
     have hbb:=hb a b rfl
     by_cases h0:0<b
     ·rw [decide_eq_true h0]
      ac_nf0
      have ef:=zfI (a:=a) (b:=b.toNat) (by omega) hbb
      rw [show ((b.toNat:Nat):Int)=b by omega] at ef
      rw [ef]
      ac_nf0
      have eq:=zmP [(mkRat a b.toNat).num,((mkRat a b.toNat).den:Int)] [a,b]
      rw [show tI [(mkRat a b.toNat).num,((mkRat a b.toNat).den:Int)]=qD (mkRat a b.toNat) from rfl,show tI [a,b]= .tup [.int a,.int b] from rfl] at eq
      rw [eq]
      ac_nf0
      congr 2
      rw [Bool.eq_iff_iff,beq_iff_eq]
      constructor
      ·intro e
       simp only [List.cons.injEq,and_true] at e
       unfold pF
       rw [qaG,qaD,beq_iff_eq]
       refine ⟨h0,?_⟩
       have hr:=(mkRat a b.toNat).reduced
       have e2:(mkRat a b.toNat).den=b.toNat:=by omega
       rw [e.1,e2] at hr
       exact hr
      ·intro h
       obtain ⟨_,e1,e2⟩:=zmw h
       rw [e1,e2]
     ·rw [decide_eq_false h0]
      ac_nf0
      show (pure (D.bl false):M D)=pure (.bl (decide (0<b) && (Nat.gcd a.natAbs b.toNat==1)))
      rw [decide_eq_false h0]
      rfl
    | _=>simp only [isI];ac_nf0;rfl
   | _=>simp only [isI];ac_nf0;cases y<;>rfl
 | _=>simp only [isT];ac_nf0;rfl
theorem zm4 {d:D} (k:kn d=true):F_13 [d]=pure (.bl (match d with | .tup [_,_]=>true | _=>false)):=by
 have et:=zhX k
 rw [d_13]
 simp only [G_13]
 ac_nf0
 rw [et]
 cases d with
 | tup ds=>
  simp only [isT]
  ac_nf0
  rw [zq3]
  ac_nf0
  match ds with
  | []=>rfl
  | [x]=>rfl
  | [x,y]=>rfl
  | x::y::z::r=>
   rw [show (((x::y::z::r).length:Int)==2)=false by rw [beq_eq_false_iff_ne];simp;omega]
 | _=>simp only [isT];ac_nf0
theorem zhd {d:D} (g:sv d):F_17 [d]=pure (.bl (pF d)):=by
 obtain ⟨k,g⟩:=g
 have ep:=zm4 k
 rw [d_17]
 simp only [G_17]
 ac_nf0
 rw [ep]
 cases d with
 | tup ds=>
  obtain ⟨kd,hb⟩:=g ds rfl
  match ds,kd,hb with
  | [],_,_=>ac_nf0;rfl
  | [x],_,_=>ac_nf0;cases x<;>rfl
  | x::y::z::r,_,_=>ac_nf0;cases x<;>cases y<;>rfl
  | [x,y],kd,hb=>
   have kx:=kd x (by simp)
   have ky:=kd y (by simp)
   ac_nf0
   rw [zhI kx]
   cases x with
   | int a=>
    simp only [isI]
    ac_nf0
    rw [zhI ky]
    cases y with
    | int b=>
     simp only [isI]
     ac_nf0
     have hbb:=hb a b rfl
     by_cases h0:0<b
     ·have ef:=zps (a:=a) (b:=b.toNat) (by omega) hbb
      rw [show ((b.toNat:Nat):Int)=b by omega] at ef
      rw [decide_eq_true h0]
      ac_nf0
      rw [ef]
      ac_nf0
      rw [zq3]
      show _=(pure (.bl (decide (0<b) && (Nat.gcd a.natAbs b.toNat==1))):M D)
      rw [decide_eq_true h0,Bool.true_and]
      ac_nf0
      congr 2
      rw [Bool.eq_iff_iff,beq_iff_eq,beq_iff_eq]
      omega
     ·rw [decide_eq_false h0]
      ac_nf0
      show (pure (D.bl false):M D)=pure (.bl (decide (0<b) && (Nat.gcd a.natAbs b.toNat==1)))
      rw [decide_eq_false h0]
      rfl
    | _=>simp only [isI];ac_nf0;rfl
   | _=>simp only [isI];ac_nf0;cases y<;>rfl
 | _=>ac_nf0;rfl
theorem zh5 {s0:Option D}: ∀ (rs:List (Int×Nat)) (A:Int) (B k:Nat) (x3:Option D),Sz A B k rs-> ∃ (A':Int) (B':Nat) (y3:Option D),0<B'/\B'<=2^2000/\mkRat A' B'=(rs.map rq).foldl (· + ·) (mkRat A B)/\zba (fun x sd=>zb8 (List.set sd 3 (some x))) (rs.map pD) [s0,some (.int A),some (.int (B:Int)),x3]=pure (.nx [s0,some (.int A'),some (.int (B':Int)),y3])
 | [],A,B,k,x3,z=>⟨A,B,x3,z.b0,z.B_le,rfl,rfl⟩
 | r::rs,A,B,k,x3,z=>by
  obtain ⟨A',B',y3,h1,h2,h3,ih⟩:=zh5 (s0:=s0) rs _ _ _ (some (pD r)) z.next
  refine ⟨A',B',y3,h1,h2,?_,?_⟩
  ·rw [h3,qaM,List.foldl_cons,zdx z.b0 (z.p0 r qau)]
  ·have hA:=z.A_le
   have hB:=z.B_le
   obtain ⟨d1,d2⟩:=z.d_le
   have hn:=z.r1 r qau
   rw [qaM,zcW, <-ih]
   generalize zba (fun x sd=>zb8 (List.set sd 3 (some x))) (rs.map pD)=rest
   simp only [zb8]
   unfold pD
   ac_nf0
   rw [zij (zaD (by decide) hA) (by rw [Int.natAbs_natCast];exact zaD (by decide) d2),zij (zaD (n:=1800) (by decide) hn) (by rw [Int.natAbs_natCast];exact zaD (by decide) hB)]
   ac_nf0
   rw [zij (by rw [Int.natAbs_natCast];exact zaD (by decide) hB) (by rw [Int.natAbs_natCast];exact zaD (by decide) d2)]
   ac_nf0
   rw [Int.natCast_mul]
noncomputable def qs (rs:List Rat):Rat:=rs.foldl (· + ·) 0
theorem zro:mkRat 0 1=0:=by decide +kernel
theorem zi9 {s0:Option D}: ∀ (rs:List (Int×Nat)) (A:Int) (B k:Nat) (x3:Option D),Sz A B k rs-> ∃ y3,zba (fun x sd=>zb9 (List.set sd 3 (some x))) (rs.map pD) [s0,some (.int (mkRat A B).num),some (.int ((mkRat A B).den:Int)),x3]=pure (.nx [s0,some (.int ((rs.map rq).foldl (· + ·) (mkRat A B)).num),some (.int (((rs.map rq).foldl (· + ·) (mkRat A B)).den:Int)),y3])
 | [],A,B,k,x3,z=>⟨x3,rfl⟩
 | r::rs,A,B,k,x3,z=>by
  obtain ⟨y3,ih⟩:=zi9 (s0:=s0) rs _ _ _ (some (pD r)) z.next
  refine ⟨y3,?_⟩
  have hr0:=z.p0 r qau
  have hA:=qaS (zgb A z.b0) z.A_le
  have hd:=zgm A z.b0
  have hB:=qaS hd z.B_le
  obtain ⟨d1,d2⟩:=z.d_le
  have hn:=z.r1 r qau
  have hdp:=(mkRat A B).den_pos
  have hbb:(mkRat A B).den*r.2<bb:=Nat.lt_of_le_of_lt (qaS (Nat.mul_le_mul_right _ hd) d1) (qaw (Nat.pow_lt_pow_right (by decide) (by decide:2000<2001)) (zga (by decide)))
  have ef:=zfI (a:=(mkRat A B).num*(r.2:Int)+r.1*((mkRat A B).den:Int)) (b:=(mkRat A B).den*r.2) (Nat.mul_pos hdp hr0) hbb
  have er:mkRat ((mkRat A B).num*(r.2:Int)+r.1*((mkRat A B).den:Int)) ((mkRat A B).den*r.2)=mkRat (A*(r.2:Int)+r.1*(B:Int)) (B*r.2):=by
   rw [<- zdx hdp hr0,Rat.mkRat_self,zdx z.b0 hr0]
  rw [er,Int.natCast_mul] at ef
  have e2:((r::rs).map rq).foldl (· + ·) (mkRat A B)=(rs.map rq).foldl (· + ·) (mkRat (A*(r.2:Int)+r.1*(B:Int)) (B*r.2)):=by
   rw [qaM,List.foldl_cons,zdx z.b0 hr0]
  rw [e2,qaM (f:=pD),zcW, <-ih]
  generalize zba (fun x sd=>zb9 (List.set sd 3 (some x))) (rs.map pD)=rest
  generalize mkRat (A*(r.2:Int)+r.1*(B:Int)) (B*r.2)=q at ef
  generalize mkRat A B=p at hA hB ef
  simp only [zb9]
  unfold qD at ef
  unfold pD
  ac_nf0
  rw [zij (zaD (by decide) hA) (by rw [Int.natAbs_natCast];exact zaD (by decide) d2),zij (zaD (n:=1800) (by decide) hn) (by rw [Int.natAbs_natCast];exact zaD (by decide) hB)]
  ac_nf0
  rw [zij (by rw [Int.natAbs_natCast];exact zaD (by decide) hB) (by rw [Int.natAbs_natCast];exact zaD (by decide) d2)]
  ac_nf0
  rw [ef]
  ac_nf0
structure Pz (ps:List (Int×Nat)):Prop where
 dp1:dpp ps<=2^2000
 ln:ps.length<=14
 r1: ∀ r∈ps,r.1.natAbs<=tt
 p0: ∀ r∈ps,0<r.2
theorem Pz.sz {ps:List (Int×Nat)} (z:Pz ps):Sz 0 1 0 ps:=⟨by decide,by rw [Nat.one_mul];exact z.dp1,by simp,by rw [Nat.zero_add];exact z.ln,z.r1,z.p0⟩
theorem zri {ps:List (Int×Nat)} (z:Pz ps) {d:D} (hd:zdM d=pure (ps.map pD)):F_37 [d]=pure (qD (qs (ps.map rq))):=by
 obtain ⟨y3,e⟩:=zi9 (s0:=some d) ps 0 1 0 none z.sz
 rw [zro] at e
 rw [show (0:Rat).num=0 from rfl,show (0:Rat).den=1 from rfl] at e
 rw [d_37]
 simp only [G_37]
 unfold qs
 ac_nf0
 rw [hd]
 ac_nf0
 rw [show D.int ((1:Nat):Int)= .int 1 from rfl] at e
 rw [e]
 ac_nf0
 rfl
theorem zs5 {ps:List (Int×Nat)} (z:Pz ps) {d:D} (hd:zdM d=pure (ps.map pD)):F_18 [d]=pure (qD (qs (ps.map rq))):=by
 obtain ⟨A',B',y3,h1,h2,h3,e⟩:=zh5 (s0:=some d) ps 0 1 0 none z.sz
 rw [zro] at h3
 have hbb:B'<bb:=Nat.lt_of_le_of_lt h2 (qaw (Nat.pow_lt_pow_right (by decide) (by decide:2000<2001)) (zga (by decide)))
 have er:=ziv (a:=A') h1 hbb
 rw [h3] at er
 rw [d_18]
 simp only [G_18]
 ac_nf0
 rw [hd]
 ac_nf0
 rw [show D.int ((1:Nat):Int)= .int 1 from rfl] at e
 rw [e]
 ac_nf0
 rw [er]
 ac_nf0
 rfl
structure Rz (rs:List Rat):Prop where
 dp1:dp rs<=2^2000
 ln:rs.length<=14
 r1: ∀ r∈rs,r.num.natAbs<=2^1700
theorem Rz.pz {rs:List Rat} (z:Rz rs):Pz (rs.map nd):=⟨by rw [zka];exact z.dp1,by rw [qaH];exact z.ln,fun p hp=>by
  obtain ⟨r,hr,rfl⟩:=qaU.mp hp
  exact qaS (z.r1 r hr) (Nat.pow_le_pow_right (by decide) (by decide)),fun p hp=>by
  obtain ⟨r,hr,rfl⟩:=qaU.mp hp
  exact r.den_pos⟩
theorem zoe {rs:List Rat} (z:Rz rs) {d:D} (hd:zdM d=pure (rs.map qD)):F_37 [d]=pure (qD (qs rs)):=by
 have:=zri z.pz (d:=d) (by rw [zna];exact hd)
 rw [zld] at this
 exact this
theorem zrh {rs:List Rat} (z:Rz rs) {d:D} (hd:zdM d=pure (rs.map qD)):F_18 [d]=pure (qD (qs rs)):=by
 have:=zs5 z.pz (d:=d) (by rw [zna];exact hd)
 rw [zld] at this
 exact this
theorem qsP {ps:List (Int×Nat)} (z:Pz ps):(qs (ps.map rq)).num.natAbs<2^6000/\(qs (ps.map rq)).den<2^6000:=by
 have key: ∀ (ps:List (Int×Nat)) (A:Int) (B k:Nat),Sz A B k ps-> ∃ (A':Int) (B':Nat) (k':Nat),Sz A' B' k' []/\mkRat A' B'=(ps.map rq).foldl (· + ·) (mkRat A B):=by
  intro ps
  induction ps with
  | nil=>exact fun A B k z=>⟨A,B,k,z,rfl⟩
  | cons r ps ih=>
   intro A B k z
   obtain ⟨A',B',k',z',e⟩:=ih _ _ _ z.next
   exact ⟨A',B',k',z',by rw [e,qaM,List.foldl_cons,zdx z.b0 (z.p0 r qau)]⟩
 obtain ⟨A',B',k',z',e⟩:=key ps 0 1 0 z.sz
 rw [zro] at e
 unfold qs
 rw [<- e]
 exact ⟨zaD (n:=3804) (by decide) (qaS (zgb A' z'.b0) z'.A_le),zaD (n:=2000) (by decide) (qaS (zgm A' z'.b0) z'.B_le)⟩
theorem zqY {rs:List Rat} (z:Rz rs):(qs rs).num.natAbs<2^6000/\(qs rs).den<2^6000:=by
 have:=qsP z.pz
 rw [zld] at this
 exact this
theorem zjN {a b:List Rat} (h:a.Sublist b):dp a<=dp b:=by
 induction h with
 | slnil=>exact qaV _
 | @cons l1 l2 r _ ih=>
  have h1:1*dp l2<=r.den*dp l2:=Nat.mul_le_mul_right _ r.den_pos
  show dp l1<=r.den*dp l2
  omega
 | @cons_cons l1 l2 r _ ih=>exact Nat.mul_le_mul_left _ ih
theorem ztA {rs:List Rat} {t:Int} (h0:0<=t) (h1:t<(rs.length:Int)):atI (rs.map qD) t=some (qD (rs.getD t.toNat 0)):=by
 have hl:t.toNat<rs.length:=by omega
 have:=zdR (xs:=rs.map qD) (j:=t.toNat) (v:=qD (rs.getD t.toNat 0)) (by simp [List.getD,hl])
 rw [<- this]
 congr 1
 omega
theorem zhx {f g:FE} {sd:Sd}:zjs (zab f (zab g zan)) sd=(do let x<-f sd;let y<-g sd;zrp [x,y]):=by
 unfold zjs
 simp only [zaL,za5,bind_assoc,pure_bind]
theorem zhK {ds es:List D}:zrp [.tup ds,.tup es]=pure (zjJ ds es):=rfl
noncomputable def zO (p:(List Int×Int)×Rat):D:= .tup [zdp p.1,qD p.2]
noncomputable def zR (p:(List Int×Int)×Rat):D:= .tup [qD p.2,zdp p.1]
theorem zpS (os:List (List Int×Int)) (rs:List Rat):zjJ (os.map zdp) (rs.map qD)=(os.zip rs).map zO:=by
 unfold zjJ
 rw [List.zip_map,qaT]
 rfl
theorem znq: ∀ (os:List (List Int×Int)) (rs:List Rat),zjJ (rs.map qD) (os.map zdp)=(os.zip rs).map zR
 | [],rs=>by cases rs<;>rfl
 | _::_,[]=>rfl
 | o::os,r::rs=>by
  have:=znq os rs
  unfold zjJ at this ⊢
  rw [qaM,qaM,List.zip_cons_cons,qaM,this]
  rfl
noncomputable def sl (t:Int) (os:List (List Int×Int)) (rs:List Rat):List Rat:=((os.zip rs).filter fun p=>p.1.1.any (· == t)).map (·.2)
theorem zmM (t:Int) {os:List (List Int×Int)} {rs:List Rat} (h:rs.length=os.length):(sl t os rs).Sublist rs:=by
 unfold sl
 have e:(os.zip rs).map (·.2)=rs:=List.map_snd_zip (by omega)
 conv=>rhs;rw [<- e]
 exact List.filter_sublist.map _
noncomputable def sB (os:List (List Int×Int)) (rs:List Rat) (t:Int):Bool:= !decide ((qs (sl t os rs)).num<((qs (sl t os rs)).den:Int))
theorem Rz.sub {rs xs:List Rat} (z:Rz rs) (h:xs.Sublist rs):Rz xs:=⟨qaS (zjN h) z.dp1,qaS h.length_le z.ln,fun r hr=>z.r1 r (h.subset hr)⟩
theorem zl1 {fi:FA} {src:List (Option Nat)} {sd:Sd} {os:List (List Int×Int)} {rs:List Rat} {t:Int} (hl:os.length<=1000) (hi:fi sd=pure ((os.zip rs).map zO)) (eb:zau src sd=[none,none,some (.int t)]):
  zaC fi (zb0 2 (zax (zaW 0) (zax (zaW 1) zbW))) zbP zbR src sd=pure (.lst ((sl t os rs).map qD)):=by
 have e:(sl t os rs).map qD=(os.zip rs).filterMap fun p=>if p.1.1.any (· == t)=true then some (qD p.2) else none:=by
  rw [zb5 (p:=fun p:(List Int×Int)×Rat=>p.1.1.any (· == t)) (g:=fun p=>qD p.2)]
  unfold sl
  rw [qaT]
  rfl
 rw [e]
 refine zcx (g':=zO) hi (by rw [List.length_zip];omega) fun p hp=> ?_
 rw [eb]
 simp only [zbc,zbP,zbR]
 unfold zO
 generalize qD p.2=q
 cases h:p.1.1.any (· == t) with
 | true=>
  ac_nf0
  rw [zcB,h]
  ac_nf0
 | false=>
  ac_nf0
  rw [zcB,h]
  ac_nf0
theorem zkO {fi:FA} {src:List (Option Nat)} {sd:Sd} {os:List (List Int×Int)} {rs:List Rat} {t:Int} (hl:os.length<=1000) (hi:fi sd=pure ((os.zip rs).map zR)) (eb:zau src sd=[none,none,some (.int t)]):
  zaC fi (zb0 2 (zax (zaW 0) (zax (zaW 1) zbW))) za2 za1 src sd=pure (.lst ((sl t os rs).map qD)):=by
 have e:(sl t os rs).map qD=(os.zip rs).filterMap fun p=>if p.1.1.any (· == t)=true then some (qD p.2) else none:=by
  rw [zb5 (p:=fun p:(List Int×Int)×Rat=>p.1.1.any (· == t)) (g:=fun p=>qD p.2)]
  unfold sl
  rw [qaT]
  rfl
 rw [e]
 refine zcx (g':=zR) hi (by rw [List.length_zip];omega) fun p hp=> ?_
 rw [eb]
 simp only [zbc,za2,za1]
 unfold zR
 generalize qD p.2=q
 cases h:p.1.1.any (· == t) with
 | true=>
  ac_nf0
  rw [zcB,h]
  ac_nf0
 | false=>
  ac_nf0
  rw [zcB,h]
  ac_nf0
theorem zkg {os:List (List Int×Int)} {rs:List Rat} {t:Int} (z:Rz rs) (hl:rs.length=os.length) (hl2:os.length<=1000):F_23 [zcn m os,.int t,.tup (rs.map qD)]=pure (.bl (sB os rs t)):=by
 have zp:=z.sub (zmM t hl)
 obtain ⟨n1,n2⟩:=zqY zp
 have et:=zrh zp (d:= .lst ((sl t os rs).map qD)) rfl
 have ec: ∀ {s3:Option D},zaC (zjs (zab (cOp dIx (zaf 0) (cK (.int 1))) (zab (zaf 2) zan))) (zb0 2 (zax (zaW 0) (zax (zaW 1) zbW))) zbP zbR [none,none,some 1] [some (zcn m os),some (.int t),some (.tup (rs.map qD)),s3]=pure (.lst ((sl t os rs).map qD)):=fun {s3}=>zl1 hl2 (by rw [zhx];ac_nf0;rw [zlZ];ac_nf0;rw [zhK,zpS]) rfl
 have el:F_16 [qD (qs (sl t os rs)),.tup [.int 1,.int 1]]=pure (.bl (decide ((qs (sl t os rs)).num<((qs (sl t os rs)).den:Int)))):=by
  rw [d_16]
  simp only [G_16]
  unfold qD
  ac_nf0
  rw [zij n1 (by decide +kernel),zij (by decide +kernel) (by rw [Int.natAbs_natCast];exact n2)]
  ac_nf0
  simp only [zqI]
  ac_nf0
  rw [Int.mul_one,Int.one_mul]
 rw [d_23]
 simp only [G_23]
 unfold sB
 generalize (sl t os rs).map qD=ps at et ec
 generalize qs (sl t os rs)=q at et el
 ac_nf0
 rw [ec]
 ac_nf0
 rw [et]
 ac_nf0
 rw [el]
 ac_nf0
theorem zjy {rs:List Rat} (z:Rz rs) (hl:rs.length=os.length) (hl2:os.length<=1000): ∀ (ts:List Int) (x2 x3 x4:Option D),
  (ts.all (sB os rs)=true-> ∃ sd,zba (fun x sd=>zaT (List.set sd 2 (some x))) (ts.map D.int) [some (zcn m os),some (.tup (rs.map qD)),x2,x3,x4]=pure (.nx sd))/\
  (ts.all (sB os rs)=false->zba (fun x sd=>zaT (List.set sd 2 (some x))) (ts.map D.int) [some (zcn m os),some (.tup (rs.map qD)),x2,x3,x4]=pure (.rt (.bl false)))
 | [],x2,x3,x4=>⟨fun _=>⟨_,rfl⟩,fun h=>by cases h⟩
 | t::r,x2,x3,x4=>by
  have zp:=z.sub (zmM t hl)
  have ih:=zjy z hl hl2 r (some (.int t)) (some (.int (qs (sl t os rs)).num)) (some (.int ((qs (sl t os rs)).den:Int)))
  have es:=zoe zp (d:= .lst ((sl t os rs).map qD)) rfl
  have ec: ∀ {s3 s4:Option D},zaC (zjs (zab (zaf 1) (zab (cOp dIx (zaf 0) (cK (.int 1))) zan))) (zb0 2 (zax (zaW 0) (zax (zaW 1) zbW))) za2 za1 [none,none,some 2] [some (zcn m os),some (.tup (rs.map qD)),some (.int t),s3,s4]=pure (.lst ((sl t os rs).map qD)):=fun {s3 s4}=>zkO hl2 (by rw [zhx];ac_nf0;rw [zlZ];ac_nf0;rw [zhK,znq]) rfl
  have eb:sB os rs t= !decide ((qs (sl t os rs)).num<((qs (sl t os rs)).den:Int)):=rfl
  rw [List.all_cons,qaM,zcW,eb]
  generalize zba (fun x sd=>zaT (List.set sd 2 (some x))) (r.map D.int)=rest at ih ⊢
  generalize (sl t os rs).map qD=ps at es ec
  generalize qs (sl t os rs)=q at es ih ⊢
  unfold qD at es
  simp only [zaT]
  by_cases hc:q.num<(q.den:Int)
  ·rw [decide_eq_true hc]
   refine ⟨fun h=>(by cases h),fun _=> ?_⟩
   ac_nf0
   rw [ec]
   ac_nf0
   rw [es]
   ac_nf0
   simp only [zqI]
   ac_nf0
   rw [decide_eq_true hc]
   ac_nf0
  ·rw [decide_eq_false hc,Bool.not_false,Bool.true_and]
   ac_nf0
   rw [ec]
   ac_nf0
   rw [es]
   ac_nf0
   simp only [zqI]
   ac_nf0
   rw [decide_eq_false hc]
   ac_nf0
   exact ih
def gt (d:D):Prop:=kn d=true/\ ∀ ds,d= .tup ds->ds.length<=60/\(∀ x∈ds,sv x)/\(ds.all pS=true->Rz (ds.map zbQ))
noncomputable def tsI (m:Int):List Int:=(List.range m.toNat).map fun (k:Nat)=>(k:Int)
theorem zmk (m:Int):zdg 0 m.toNat=(tsI m).map D.int:=by
 unfold zdg tsI
 rw [qaT]
 exact List.map_congr_left fun k _=>by simp
noncomputable def zec (m:Int) (os:List (List Int×Int)):D->Bool
 | .tup ds=>((ds.length:Int)==(os.length:Int)) && ds.all pS && (tsI m).all (sB os (ds.map zbQ))
 | _=>false
theorem zj3 {d:D} (g:sv d):(za4 [some d]:M D)=pure (.bl (pS d)):=by
 have ef:=zgE g
 simp only [za4]
 ac_nf0
 rw [ef]
 ac_nf0
 cases hp:pF d with
 | false=>
  rw [zqV hp]
  ac_nf0
 | true=>
  obtain ⟨a,b,rfl⟩:=zmd hp
  rw [zoa hp]
  ac_nf0
  rw [zs1]
theorem zla {d:D} (g:sv d):F_22 [d]=pure (.bl (pS d)):=by
 have ef:=zhd g
 rw [d_22]
 simp only [G_22]
 ac_nf0
 rw [ef]
 ac_nf0
 cases hp:pF d with
 | false=>
  rw [zqV hp]
  ac_nf0
 | true=>
  obtain ⟨a,b,rfl⟩:=zmd hp
  rw [zoa hp]
  ac_nf0
  rw [zs1]
  ac_nf0
theorem zeJ {fi:FA} {sd:Sd} {te:FE} {ds:List D} (hi:fi sd=pure ds) (hl:ds.length<=60) (he: ∀ x∈ds,te [some x]=pure (.bl (pS x))):zaC fi (zaW 0) (fun _=>pure true) te [none] sd=pure (.lst ((ds.map pS).map D.bl)):=by
 rw [zeM (ds:=ds) (k:=fun d=> .bl (pS d)) hi (by omega) ?_]
 ·rw [qaT]
  rfl
 ·intro x hx
  rw [show zau [none] sd=[none] from rfl]
  simp only [zbc]
  ac_nf0
  rw [he x hx]
  ac_nf0
theorem all_map (ds:List D):((ds.map pS).all id)=ds.all pS:=by
 rw [List.all_map]
 rfl
theorem zkV (s:Stk m os) {d:D} (g:gt d):F_38 [zcn m os,d]=pure (.bl (zec m os d)):=by
 obtain ⟨k,g⟩:=g
 have et:=zhX k
 have ol:=s.len
 have m0:=s.m0
 have m1:=s.m1
 rw [d_38]
 simp only [G_38]
 ac_nf0
 rw [et]
 cases d with
 | tup ds=>
  obtain ⟨hl,hs,hz⟩:=g ds rfl
  simp only [isT]
  ac_nf0
  rw [zlZ]
  ac_nf0
  rw [zrq]
  unfold zec
  cases hm:((ds.length:Int)==(os.length:Int)) with
  | false=>
   ac_nf0
   simp [hm]
  | true=>
   rw [beq_iff_eq] at hm
   have ec: ∀ {s2 s3 s4:Option D},zaC (iSq (zaf 1)) (zaW 0) (fun _=>pure true) za4 [none] [some (zcn m os),some (.tup ds),s2,s3,s4]=pure (.lst ((ds.map pS).map D.bl)):=fun {s2 s3 s4}=>zeJ (by ac_nf0) hl fun x hx=>zj3 (hs x hx)
   ac_nf0
   rw [ec]
   ac_nf0
   rw [zfw,all_map]
   ac_nf0
   cases ha:ds.all pS with
   | false=>
    ac_nf0
    simp
   | true=>
    have z:=hz ha
    have e:=zeh ha
    have hlen:(ds.map zbQ).length=ds.length:=qaH _
    have lb:=zjy (m:=m) (os:=os) z (by omega) (by omega) (tsI m) none none none
    generalize ds.map zbQ=rs at z e lb hlen
    subst e
    ac_nf0
    rw [zrr]
    ac_nf0
    rw [zbX (by omega) (by omega),zmk]
    ac_nf0
    cases hb:(tsI m).all (sB os rs) with
    | true=>
     obtain ⟨sd,el⟩:=lb.1 hb
     rw [el]
     ac_nf0
     rw [qaH] at hm
     simp [hm]
    | false=>
     rw [lb.2 hb]
     ac_nf0
     simp
 | _=>simp only [isT];ac_nf0;rfl
theorem zfM (s:Stk m os) {d:D} (g:gt d):F_19 [zcn m os,d]=pure (.bl (zec m os d)):=by
 have gk:=g
 obtain ⟨k,g⟩:=g
 have et:=zhX k
 have ol:=s.len
 have m0:=s.m0
 have m1:=s.m1
 have ea: ∀ ds,d= .tup ds->F_21 [.tup ds,.int (os.length:Int)]=pure (.bl (((ds.length:Int)==(os.length:Int)) && ds.all pS)):=fun ds e=>by
  subst e
  obtain ⟨hl,hs,hz⟩:=g ds rfl
  have ec:zaC (iSq (zaf 0)) (zaW 0) (fun _=>pure true) zce [none] [some (.tup ds),some (.int (os.length:Int))]=pure (.lst ((ds.map pS).map D.bl)):=zeJ (by ac_nf0) hl fun x hx=>by
   simp only [zce]
   ac_nf0
   rw [zla (hs x hx)]
  rw [d_21]
  simp only [G_21]
  ac_nf0
  rw [et]
  simp only [isT]
  ac_nf0
  rw [zrq]
  cases hm:((ds.length:Int)==(os.length:Int)) with
  | false=>
   ac_nf0
   simp
  | true=>
   ac_nf0
   rw [ec]
   ac_nf0
   rw [zfw,all_map]
   ac_nf0
   simp
 rw [d_19]
 simp only [G_19]
 ac_nf0
 rw [zlZ]
 ac_nf0
 cases d with
 | tup ds=>
  rw [ea ds rfl]
  ac_nf0
  rw [show zec m os (.tup ds)=(((ds.length:Int)==(os.length:Int)) && ds.all pS && (tsI m).all (sB os (ds.map zbQ))) from rfl]
  cases ha:(((ds.length:Int)==(os.length:Int)) && ds.all pS) with
  | false=>
   ac_nf0
   simp
  | true=>
   obtain ⟨hl,hs,hz⟩:=g ds rfl
   rw [qaG,beq_iff_eq] at ha
   have z:=hz ha.2
   have e:=zeh ha.2
   have hlen:(ds.map zbQ).length=ds.length:=qaH _
   have hm:=ha.1
   generalize ds.map zbQ=rs at z e hlen
   subst e
   have ec:zaC (zgR (zab (cOp dIx (zaf 0) (cK (.int 0))) zan)) (zaW 0) (fun _=>pure true) zcl [none,some 0,some 1] [some (zcn m os),some (.tup (rs.map qD))]=pure (.lst (((tsI m).map (sB os rs)).map D.bl)):=by
    rw [qaT,show (tsI m).map (D.bl∘sB os rs)=(tsI m).filterMap fun t=>some (.bl (sB os rs t)) by simp [Function.comp_def]]
    refine zcx (g':=D.int) (by ac_nf0;rw [zrr];ac_nf0;rw [zbX (by omega) (by omega),zmk]) (by unfold tsI;simp;omega) fun t ht=> ?_
    have eb:=zkg (m:=m) (t:=t) z (by rw [qaH] at hm;omega) (by omega:os.length<=1000)
    rw [show zau [none,some 0,some 1] [some (zcn m os),some (.tup (rs.map qD))]=[none,some (zcn m os),some (.tup (rs.map qD))] from rfl]
    simp only [zbc,zcl]
    generalize sB os rs t=bo at eb
    generalize zcn m os=d at eb
    ac_nf0
    rw [eb]
    ac_nf0
   ac_nf0
   rw [ec]
   ac_nf0
   rw [zfw,List.all_map,Bool.true_and]
   rfl
 | _=>
  rw [d_21]
  simp only [G_21]
  ac_nf0
  rw [et]
  simp only [isT]
  ac_nf0
  rfl
theorem zsB:F_29 [.exn "NoPaper"]=pure (.str "! paper"):=by
 funext h
 rfl
theorem zrM {q:Rat} (h:q.den<2^6000):sv (qD q):=⟨rfl,fun ds e=>by
  unfold qD at e
  cases e
  refine ⟨fun x hx=> ?_,fun a b e=> ?_⟩
  · simp only [qaP,qaF,or_false] at hx
    rcases hx with rfl | rfl<;>rfl
  · simp only [List.cons.injEq,D.int.injEq,and_true] at e
    rw [<- e.2,qaB]
    exact qaw h (zga (by decide))⟩
noncomputable def pr (os:List (List Int×Int)) (rs:List Rat):List (Int×Nat):=(os.zip rs).map fun p=>(p.1.2*p.2.num,p.2.den)
theorem zpd: ∀ ps:List (Int×Nat),(∀ p∈ps,0<p.2)->dp (ps.map rq)<=dpp ps
 | [],_=>qaV _
 | p::ps,h=>Nat.mul_le_mul (zgm p.1 (h p qau)) (zpd ps fun q hq=>h q (qan _ hq))
theorem zmo: ∀ (os:List (List Int×Int)) (rs:List Rat),dpp (pr os rs)<=dp rs
 | [],rs=>zj0 rs
 | _::_,[]=>qaV _
 | o::os,r::rs=>Nat.mul_le_mul_left _ (zmo os rs)
theorem zjz {os:List (List Int×Int)} {rs:List Rat} (z:Rz rs) (hp: ∀ o∈os,o.2.natAbs<=2^64): ∀ p∈os.zip rs,p.1.2.natAbs<2^6000/\p.2.num.natAbs<2^6000/\(p.1.2*p.2.num).natAbs<=tt/\p.2.den<bb:=fun p h=>by
 obtain ⟨h1,h2⟩:=List.of_mem_zip (a:=p.1) (b:=p.2) h
 have a1:=hp _ h1
 have a2:=z.r1 _ h2
 refine ⟨zaD (n:=64) (by decide) a1,zaD (n:=1700) (by decide) a2,?_,?_⟩
 ·rw [Int.natAbs_mul]
  have h3:=zgM a1 a2
  exact qaS h3 (Nat.pow_le_pow_right (by decide) (by decide))
 ·have h3:p.2.den<=dp rs:=by
   have:=zjN (List.singleton_sublist.mpr h2)
   have e:dp [p.2]=p.2.den:=Nat.mul_one _
   omega
  exact Nat.lt_of_le_of_lt (qaS h3 z.dp1) (qaw (Nat.pow_lt_pow_right (by decide) (by decide:2000<2001)) (zga (by decide)))
theorem zqZ {os:List (List Int×Int)} {rs:List Rat} (z:Rz rs) (hp: ∀ o∈os,o.2.natAbs<=2^64):Pz (pr os rs) where
 dp1:=qaS (zmo os rs) z.dp1
 ln:=by
  have:=z.ln
  unfold pr
  rw [qaH,List.length_zip]
  omega
 r1:=fun r hr=>by
  obtain ⟨p,h,rfl⟩:=qaU.mp hr
  exact (zjz z hp p h).2.2.1
 p0:=fun r hr=>by
  obtain ⟨p,h,rfl⟩:=qaU.mp hr
  exact p.2.den_pos
theorem zty {os:List (List Int×Int)} {rs:List Rat} (z:Rz rs) (hp: ∀ o∈os,o.2.natAbs<=2^64):Pz (((pr os rs).map rq).map nd) where
 dp1:=by
  have zp:=zqZ z hp
  rw [zka]
  exact qaS (zpd _ zp.p0) zp.dp1
 ln:=by
  rw [qaH,qaH]
  exact (zqZ z hp).ln
 r1:=fun r hr=>by
  obtain ⟨q,h,rfl⟩:=qaU.mp hr
  obtain ⟨p,h',rfl⟩:=qaU.mp h
  have zp:=zqZ z hp
  exact qaS (zgb p.1 (zp.p0 p h')) (zp.r1 p h')
 p0:=fun r hr=>by
  obtain ⟨q,h,rfl⟩:=qaU.mp hr
  exact q.den_pos
theorem zox {fi:FA} {sd:Sd} {os:List (List Int×Int)} {rs:List Rat} (z:Rz rs) (hp: ∀ o∈os,o.2.natAbs<=2^64) (hl:os.length<=1000) (hi:fi sd=pure ((os.zip rs).map zO)) (eb:zau [none,none] sd=[none,none]):
  zaC fi (zb0 2 (zax (zaW 0) (zax (zaW 1) zbW))) (fun _=>pure true) zbJ [none,none] sd=pure (.lst ((pr os rs).map pD)):=by
 have e:(pr os rs).map pD=(os.zip rs).filterMap fun p=>some (pD (p.1.2*p.2.num,p.2.den)):=by
  unfold pr
  rw [qaT]
  simp [Function.comp_def]
 rw [e]
 refine zcx (g':=zO) hi (by rw [List.length_zip];omega) fun p hpp=> ?_
 obtain ⟨a1,a2,_,_⟩:=zjz z hp p hpp
 have em:=zij a1 a2
 rw [eb]
 simp only [zbc,zbJ]
 unfold zO qD pD
 ac_nf0
 rw [em]
 ac_nf0
theorem zn8 {fi:FA} {sd:Sd} {os:List (List Int×Int)} {rs:List Rat} (z:Rz rs) (hp: ∀ o∈os,o.2.natAbs<=2^64) (hl:os.length<=1000) (hi:fi sd=pure ((os.zip rs).map zR)) (eb:zau [none,none] sd=[none,none]):
  zaC fi (zb0 2 (zax (zaW 0) (zax (zaW 1) zbW))) (fun _=>pure true) zby [none,none] sd=pure (.lst (((pr os rs).map rq).map qD)):=by
 have e:((pr os rs).map rq).map qD=(os.zip rs).filterMap fun p=>some (qD (mkRat (p.2.num*p.1.2) p.2.den)):=by
  unfold pr
  rw [qaT,qaT]
  simp only [Function.comp_def,List.filterMap_eq_map']
  refine List.map_congr_left fun p _=> ?_
  unfold rq
  rw [Int.mul_comm]
 rw [e]
 refine zcx (g':=zR) hi (by rw [List.length_zip];omega) fun p hpp=> ?_
 obtain ⟨a1,a2,_,a4⟩:=zjz z hp p hpp
 have em:=zij a2 a1
 have ef:=zfI (a:=p.2.num*p.1.2) p.2.den_pos a4
 rw [eb]
 simp only [zbc,zby]
 unfold zR
 generalize qD (mkRat (p.2.num*p.1.2) p.2.den)=q at ef
 unfold qD
 ac_nf0
 rw [em]
 ac_nf0
 rw [ef]
 ac_nf0
theorem zlb (s:Stk m os) {d:D} (g:gt d) (h:zec m os d=false):F_20 [zcn m os,d]=zeA "NoPaper":=by
 rw [d_20]
 simp only [G_20]
 ac_nf0
 rw [zfM s g,h]
 ac_nf0
theorem zlc {d:D} (g:gt d) (h:zec m os d=true): ∃ rs:List Rat,d= .tup (rs.map qD)/\Rz rs:=by
 unfold zec at h
 split at h
 ·rename_i ds
  rw [qaG,qaG] at h
  exact ⟨ds.map zbQ,by rw [<- zeh h.1.2],(g.2 ds rfl).2.2 h.1.2⟩
 ·cases h
theorem zlW (s:Stk m os) (hp: ∀ o∈os,o.2.natAbs<=2^64) {rs:List Rat} (z:Rz rs) (g:gt (.tup (rs.map qD))) (h:zec m os (.tup (rs.map qD))=true):F_20 [zcn m os,.tup (rs.map qD)]=pure (qD (qs ((pr os rs).map rq))):=by
 have ol:=s.len
 have et:=zs5 (zqZ z hp) (d:= .lst ((pr os rs).map pD)) rfl
 have ec:=zox (fi:=zjs (zab (cOp dIx (zaf 0) (cK (.int 1))) (zab (zaf 1) zan))) (sd:=[some (zcn m os),some (.tup (rs.map qD))]) z hp (by omega) (by rw [zhx];ac_nf0;rw [zlZ];ac_nf0;rw [zhK,zpS]) rfl
 have eb:=zfM s g
 rw [h] at eb
 generalize qD (qs ((pr os rs).map rq))=q at et
 generalize (pr os rs).map pD=ps at et ec
 rw [d_20]
 simp only [G_20]
 ac_nf0
 rw [eb]
 ac_nf0
 rw [ec]
 ac_nf0
 rw [et]
 ac_nf0
theorem zp3 (s:Stk m os) {d:D} (g:gt d) (h:zec m os d=false):F_41 [zcn m os,d]=pure (.str "! paper"):=by
 rw [d_41]
 simp only [G_41]
 rw [ziu (c:="NoPaper") (d:= .str "! paper") ?_ rfl zsB]
 ·ac_nf0
 ·ac_nf0
  rw [zlb s g h]
  rfl
theorem zq8 (s:Stk m os) (hp: ∀ o∈os,o.2.natAbs<=2^64) {rs:List Rat} (z:Rz rs) (g:gt (.tup (rs.map qD))) (h:zec m os (.tup (rs.map qD))=true):F_41 [zcn m os,.tup (rs.map qD)]=pure (qD (qs ((pr os rs).map rq))):=by
 have ew:=zlW s hp z g h
 generalize qD (qs ((pr os rs).map rq))=q at ew
 rw [d_41]
 simp only [G_41]
 rw [ziX (o:= .rt q)]
 ·ac_nf0
 ·ac_nf0
  rw [ew]
  ac_nf0
theorem zhH (s:Stk m os) (hp: ∀ o∈os,o.2.natAbs<=2^64) {d:D} (g:gt d):F_42 [zcn m os,d]=pure (.bl true):=by
 have ol:=s.len
 have e1:=zkV s g
 have e2:=zfM s g
 have e3: ∀ b:Bool,zfR "bool" (.bl b)=pure (.bl true):=fun b=>rfl
 rw [d_42]
 simp only [G_42]
 cases h:zec m os d with
 | false=>
  rw [h] at e1 e2
  have ea:=zp3 s g h
  ac_nf0
  rw [e1]
  ac_nf0
  rw [e2]
  ac_nf0
  rw [e3]
  ac_nf0
  rw [zmO]
  ac_nf0
  rw [ea]
  ac_nf0
  rw [zl4 zm7]
  ac_nf0
 | true=>
  obtain ⟨rs,rfl,z⟩:=zlc g h
  rw [h] at e1 e2
  have ea:=zq8 s hp z g h
  have el:=zri (zty z hp) (d:= .lst (((pr os rs).map rq).map qD)) (by rw [zna];rfl)
  rw [zld] at el
  have ec: ∀ {s2 s3 s4 s5:Option D},zaC (zjs (zab (zaf 1) (zab (cOp dIx (zaf 0) (cK (.int 1))) zan))) (zb0 2 (zax (zaW 0) (zax (zaW 1) zbW))) (fun _=>pure true) zby [none,none] [some (zcn m os),some (.tup (rs.map qD)),s2,s3,s4,s5]=pure (.lst (((pr os rs).map rq).map qD)):=fun {s2 s3 s4 s5}=>zn8 z hp (by omega) (by rw [zhx];ac_nf0;rw [zlZ];ac_nf0;rw [zhK,znq]) rfl
  have ei:=zgE (zrM (qsP (zqZ z hp)).2)
  rw [zsW] at ei
  have eq:=zr4 (qs ((pr os rs).map rq))
  generalize qD (qs ((pr os rs).map rq))=q at ea el ei eq
  generalize ((pr os rs).map rq).map qD=es at el ec
  ac_nf0
  rw [e1]
  ac_nf0
  rw [e2]
  ac_nf0
  rw [e3]
  ac_nf0
  rw [zmO]
  ac_nf0
  rw [ea]
  ac_nf0
  rw [ec]
  ac_nf0
  rw [ei]
  ac_nf0
  rw [el]
  ac_nf0
  rw [eq]
  ac_nf0
theorem zhN (s:Stk m os) {s1:Option D}: ∀ (ls fs:List Int) (x3:Option D),(∀ x∈ls,0<=x/\x<os.length)->fs.Nodup->(∀ x∈fs,0<=x/\x<m)->
  ∃ (gs:List Int) (x3':Option D),zba (fun x sd=>do let sd1<-zaW 3 x sd;zcN sd1) (ls.map D.int) [some (zcn m os),s1,some (.lst (fs.map D.int)),x3]=pure (.nx [some (zcn m os),s1,some (.lst (gs.map D.int)),x3'])/\gs.Nodup/\(∀ x∈gs,0<=x/\x<m)/\ ∀ k,k∈gs↔k∈fs\/k∈(zcJ os ls).flatMap (·.1)
 | [],fs,x3,_,hn,hb=>⟨fs,x3,rfl,hn,hb,fun k=>by simp [zcJ]⟩
 | i::r,fs,x3,hl,hn,hb=>by
  have hi:=hl i qau
  have ho:os.getD i.toNat ([],0)∈os:=by
   have h1:i.toNat<os.length:=by omega
   simp [List.getD,h1]
  generalize eo:os.getD i.toNat ([],0)=o at ho
  have m0:=s.m0
  have m1:=s.m1
  have hnew:(fs++o.1.filter fun t=> !fs.any (· == t)).Nodup:=by
   rw [List.nodup_append]
   refine ⟨hn,((s.up o ho).imp fun z=>by omega).filter _,fun a ha b hb e=> ?_⟩
   subst e
   have:=(List.mem_filter.mp hb).2
   simp at this
   exact this a ha rfl
  have hbn: ∀ x∈fs++o.1.filter fun t=> !fs.any (· == t),0<=x/\x<m:=fun x hx=>(qaK.mp hx).elim (hb x) fun z=>s.bd o ho x (List.mem_filter.mp z).1
  obtain ⟨gs,y3,ih,g1,g2,g3⟩:=zhN s r (fs++o.1.filter fun t=> !fs.any (· == t)) (some (.int i)) (fun x hx=>hl x (qan _ hx)) hnew hbn
  refine ⟨gs,y3,?_,g1,g2,fun k=> ?_⟩
  ·rw [qaM,zcW, <-ih]
   have ec:zaC (iSq (cOp dIx (cOp dIx (cOp dIx (zaf 0) (cK (.int 1))) (zaf 3)) (cK (.int 0)))) (zaW 0) zcM zcX [none,some 2] [some (zcn m os),s1,some (.lst (fs.map D.int)),some (.int i)]=pure (.lst ((o.1.filter fun t=> !fs.any (· == t)).map D.int)):=by
    rw [<- zcj (k:=fun d=>match d with | .int t=>if (!fs.any (· == t))=true then some (.int t) else none | d=>none) fun _=>rfl]
    refine zct ?_ (by rw [qaH];have:=s.olen o ho;omega) ?_
    ·simp only [zcn]
     ac_nf0
     rw [zop hi.1 hi.2,eo]
     ac_nf0
    ·intro x hx
     obtain ⟨t,_,rfl⟩:=qaU.mp hx
     have eb:zau [none,some 2] [some (zcn m os),s1,some (.lst (fs.map D.int)),some (.int i)]=[none,some (.lst (fs.map D.int))]:=rfl
     rw [eb]
     simp only [zbc,zcM,zcX]
     ac_nf0
     rw [zhq]
     ac_nf0
     split<;>rfl
   simp only [zcN]
   ac_nf0
   rw [ec]
   have f1:=zdt (by omega) hnew hbn
   rw [qav] at f1
   have f:=zaK (show fs.length+(o.1.filter fun t=> !fs.any (· == t)).length<=1000 by omega)
   ac_nf0
   simp only [zmJ,qaH,f]
   ac_nf0
   rw [List.map_append]
  ·rw [g3 k]
   have eo2:zcJ os (i::r)=o::zcJ os r:=by unfold zcJ;rw [qaM,eo]
   rw [eo2,List.flatMap_cons,qaK,qaK,List.mem_filter]
   constructor
   ·rintro ((h | h) | h)
    ·exact .inl h
    ·exact .inr (.inl h.1)
    ·exact .inr (.inr h)
   ·rintro (h | h | h)
    ·exact .inl (.inl h)
    ·by_cases c:k∈fs
     ·exact .inl (.inl c)
     ·exact .inl (.inr ⟨h,by simp;exact fun x hx e=>c (e▸hx)⟩)
    ·exact .inr h
theorem zqQ (s:Stk m os) {ls:List Int} (b: ∀ x∈ls,0<=x/\x<os.length):F_33 [zcn m os,tI ls]=pure (tI (zey ((zcJ os ls).flatMap (·.1)))):=by
 obtain ⟨gs,x3,el,g1,g2,g3⟩:=zhN s (s1:=some (tI ls)) ls [] none b .nil (fun x hx=>by cases hx)
 have:=s.m0
 have:=s.m1
 have hl:=zdt (by omega) g1 g2
 rw [d_33]
 simp only [G_33]
 unfold tI at el
 simp only [List.map_nil,zde,pure_bind] at el
 ac_nf0
 rw [el]
 ac_nf0
 rw [zgV (by omega)]
 ac_nf0
 have e3: ∀ k,k∈gs↔k∈(zcJ os ls).flatMap (·.1):=fun k=>by rw [g3 k];simp
 rw [zgS g1 e3]
theorem znA (s:Stk m os) (hf: ∀ i:Int,0<=i->i<m-> ∃ o∈os,i∈o.1) {fs:List Int} (hp:List.Perm fs ((List.range os.length).map fun (k:Nat)=>(k:Int))):((zey ((zcJ os fs).flatMap (·.1))).length:Int)=m:=by
 have m0:=s.m0
 have hb: ∀ x∈fs,0<=x/\x<(os.length:Int):=fun x hx=>zdy x (hp.mem_iff.mp hx)
 have e:zey ((zcJ os fs).flatMap (·.1))=(List.range m.toNat).map fun (k:Nat)=>(k:Int):=by
  refine zrk (zfA _) (zf9 _) fun k=> ?_
  rw [zc6]
  constructor
  ·intro hk
   obtain ⟨o,ho,hk⟩:=List.mem_flatMap.mp hk
   have:=s.bd o (zgK hb o ho) k hk
   exact qaU.mpr ⟨k.toNat,List.mem_range.mpr (by omega),by omega⟩
  ·intro hk
   have hk:=zdy k hk
   obtain ⟨o,ho,hko⟩:=hf k hk.1 (by omega)
   obtain ⟨j,hj,rfl⟩:=List.getElem_of_mem ho
   refine List.mem_flatMap.mpr ⟨os[j],qaU.mpr ⟨(j:Int),hp.mem_iff.mpr (qaU.mpr ⟨j,List.mem_range.mpr hj,rfl⟩),?_⟩,hko⟩
   simp [List.getD,hj]
 rw [e]
 simp
 omega
structure Cv (m:Int) (os:List (List Int×Int)) (ls:List Int):Prop where
 up:ls.Pairwise (· < ·)
 bd: ∀ x∈ls,0<=x/\x<(os.length:Int)
 cv: ∀ t,0<=t->t<m-> ∃ i∈ls,t∈(os.getD i.toNat ([],0)).1
theorem zik (s:Stk m os) {fs:List Int} (hb: ∀ x∈fs,0<=x/\x<(os.length:Int)) (hm:m<=((zey ((zcJ os fs).flatMap (·.1))).length:Int)) (t:Int) (t0:0<=t) (t1:t<m): ∃ i∈fs,t∈(os.getD i.toNat ([],0)).1:=by
 have hnd:(zey ((zcJ os fs).flatMap (·.1))).Nodup:=(zfA _).imp fun z=>by omega
 have hbd: ∀ x∈zey ((zcJ os fs).flatMap (·.1)),0<=x/\x<m:=fun x hx=>by
  rw [zc6] at hx
  obtain ⟨o,ho,hx⟩:=List.mem_flatMap.mp hx
  exact s.bd o (zgK hb o ho) x hx
 have ht:t∈zey ((zcJ os fs).flatMap (·.1)):=by
  by_cases h:t∈zey ((zcJ os fs).flatMap (·.1))
  ·exact h
  ·have:=zdt (m:=m) (by omega) (List.nodup_cons.mpr ⟨h,hnd⟩) (fun x hx=>by
     rcases qaP.mp hx with rfl | hx
     · exact ⟨t0,t1⟩
     · exact hbd x hx)
   rw [qaE] at this
   omega
 rw [zc6] at ht
 obtain ⟨o,ho,ht⟩:=List.mem_flatMap.mp ht
 unfold zcJ at ho
 obtain ⟨i,hi,rfl⟩:=qaU.mp ho
 exact ⟨i,hi,ht⟩
theorem ze4 (s:Stk m os) (hf: ∀ i:Int,0<=i->i<m-> ∃ o∈os,i∈o.1) {b c:Nat} (hbc:c≠b): ∀ (n:Nat) (lf fs:List Int) {h:Hh} {P:Out->Hh->Prop},Bx b h->h[c]? = some (.lst (lf.map D.int))->lf.length<n->
  List.Perm (fs++lf) ((List.range os.length).map fun (k:Nat)=>(k:Int))->
  (∀ fs' x2' h',Bx b h'->fs'.Nodup->(∀ x∈fs',0<=x/\x<(os.length:Int))->m<=((zey ((zcJ os fs').flatMap (·.1))).length:Int)->P (.nx [some (.cel b),some (zcn m os),x2',some (tI fs')]) h')->
  wp (zbs zbx zbz n [some (.cel b),some (zcn m os),some (.cel c),some (tI fs)]) h P
 | 0,lf,fs,h,P,q,ec,hn,hp,k=>by omega
 | n+1,lf,fs,h,P,q,ec,hn,hp,k=>by
  have m0:=s.m0
  have m1:=s.m1
  have ol:=s.len
  have hbs: ∀ x∈fs++lf,0<=x/\x<(os.length:Int):=fun x hx=>zdy x (hp.mem_iff.mp hx)
  have hnd:(fs++lf).Nodup:=hp.nodup_iff.mpr ((zf9 _).imp fun z=>by omega)
  have hb: ∀ x∈fs,0<=x/\x<(os.length:Int):=fun x hx=>hbs x (List.mem_append_left _ hx)
  have hlen:fs.length+lf.length=os.length:=by
   have:=hp.length_eq
   simpa using this
  have e1:=zqQ s hb
  have zrr:dIx (zcn m os) (.int 0)=pure (.int m):=rfl
  have ih:=fun lf' fs' (h':Hh)=>ze4 s hf hbc n lf' fs' (h:=h') (P:=P)
  rw [zdW]
  generalize zbs zbx zbz n=go at ih ⊢
  simp only [zbx]
  simp only [tI] at e1 ih k ⊢
  ac_nf0
  rw [e1]
  ac_nf0
  rw [zrr]
  ac_nf0
  simp only [zqI]
  ac_nf0
  by_cases hc:((zey ((zcJ os fs).flatMap (·.1))).length:Int)<m
  ·have hlf:lf≠[]:=fun z=>by
    subst z
    have:=znA s hf (by simpa using hp)
    omega
   have hpos:0<lf.length:=List.length_pos_iff.mpr hlf
   simp only [hc,decide_true,if_true]
   simp only [zbz]
   ac_nf0
   simp only [zpx]
   ac_nf0
   simp only [zam,zcH ec,zak]
   show wp (zem [.cel c]) h _
   have el:zem [.cel c]=(zal c>>=fun ds=>pure (.int ds.length):M D):=rfl
   rw [el]
   simp only [zam,zcH ec,zak,qaH]
   refine za8 q (by omega) (by omega) fun t h2 t0 t1 x2=> ?_
   have ht:t.toNat<lf.length:=by omega
   have ec2:=x2.2 c _ hbc ec
   have hlt:=(qac.mp ec2).1
   refine zqr ec2 t0 (by omega) (d:= .int lf[t.toNat]) (by simp [ht]) ?_
   have f:=zaK (show fs.length+1<=1000 by omega)
   ac_nf0
   simp only [qaH,f]
   ac_nf0
   have epp:=zlp (xs:=lf) (i:=t.toNat) (x:=lf[t.toNat]) (by simp [ht])
   have:=ih (lf.eraseIdx t.toNat) (fs++[lf[t.toNat]]) (h2.set c (.lst ((lf.map D.int).eraseIdx t.toNat))) ?_ ?_ ?_ ?_ k
   ·simpa using this
   ·obtain ⟨y,ey⟩:=x2.1
    exact ⟨y,by rw [qao hbc];exact ey⟩
   ·rw [qai hlt,List.eraseIdx_eq_take_drop_succ,List.eraseIdx_eq_take_drop_succ,List.map_append,List.map_take,List.map_drop]
   ·rw [List.length_eraseIdx_of_lt ht];omega
   ·refine List.Perm.trans ?_ hp
    rw [List.append_assoc]
    exact List.Perm.append_left _ epp
  ·simp only [hc,decide_false,qax,if_false]
   ac_nf0
   exact k fs _ h q (List.nodup_append.mp hnd).1 hb (by omega)
theorem zkU (s:Stk m os) (hf: ∀ i:Int,0<=i->i<m-> ∃ o∈os,i∈o.1) {h:Hh} {b:Nat} {P:D->Hh->Prop} (q:Bx b h) (k: ∀ ls h',Cv m os ls->Bx b h'->P (tI ls) h'):wp (F_34 [.cel b,zcn m os]) h P:=by
 have ol:=s.len
 have est:dIx (zcn m os) (.int 1)=pure (.tup (os.map zdp)):=rfl
 rw [d_34]
 simp only [G_34]
 ac_nf0
 rw [est]
 ac_nf0
 have er:zg2 (.int (os.length:Int))=zdm (zdg 0 os.length):=by
  show (if 0<=(os.length:Int)/\(os.length:Int)<1000 then _ else _)=_
  rw [qa4 ⟨by omega,by omega⟩,qaB]
 rw [er]
 ac_nf0
 have qb:=q.push (c:= .lst (zdg 0 os.length))
 have hbc:h.length≠b:=fun z=>by
  obtain ⟨y,ey⟩:=q
  have:=(qac.mp ey).1
  omega
 simp only [zeR]
 have cl:=fun (P:Out->Hh->Prop)=>ze4 s hf hbc 1000 ((List.range os.length).map fun (k:Nat)=>(k:Int)) [] (P:=P) qb.1 (by rw [<- zen];simp) (by simp;omega) (by simp)
 simp only [tI,List.map_nil] at cl
 refine cl _ fun fs x2' h' q' hn hb hm=> ?_
 have fl:=zdt (m:=os.length) (by omega) hn hb
 ac_nf0
 rw [zfa (by omega)]
 ac_nf0
 refine k (zbu fs) h' ⟨zd0 hn,fun x hx=>hb x ((zay fs).mem_iff.mp hx),fun t t0 t1=> ?_⟩ q'
 obtain ⟨i,hi,ht⟩:=zik s hb hm t t0 t1
 exact ⟨i,(zay fs).mem_iff.mpr hi,ht⟩
theorem zft: ∀ (xs:List Rat) (a:Rat),xs.foldl (· + ·) a=a+xs.foldl (· + ·) 0
 | [],a=>by rw [List.foldl_nil,List.foldl_nil,Rat.add_zero]
 | x::r,a=>by
  rw [List.foldl_cons,List.foldl_cons,zft r (a+x),zft r (0+x),Rat.zero_add,Rat.add_assoc]
theorem zpl:qs []=0:=rfl
theorem zmY (x:Rat) (r:List Rat):qs (x::r)=x+qs r:=by
 unfold qs
 rw [List.foldl_cons,Rat.zero_add,zft]
noncomputable def wt (t:Int):List (List Int×Int)->(Nat->Nat)->Nat
 | [],_=>0
 | o::os,f=>(if o.1.any (· == t) then f 0 else 0)+wt t os fun i=>f (i+1)
theorem zmH (t:Int): ∀ (os:List (List Int×Int)) (f g:Nat->Nat),wt t os (fun i=>f i+g i)=wt t os f+wt t os g
 | [],_,_=>rfl
 | o::os,f,g=>by
  have:=zmH t os (fun i=>f (i+1)) (fun i=>g (i+1))
  simp only [wt]
  rw [this]
  split<;>omega
theorem zmr (t:Int): ∀ (os:List (List Int×Int)) (f:Nat->Nat) (i:Nat),i<os.length->t∈(os.getD i ([],0)).1->f i<=wt t os f
 | [],_,_,h,_=>by simp at h
 | o::os,f,0,h,ht=>by
  simp only [wt]
  have ht:t∈o.1:=ht
  rw [qa4 (zhY.mpr ht)]
  omega
 | o::os,f,i+1,h,ht=>by
  have:=zmr t os (fun i=>f (i+1)) i (by simpa using h) ht
  simp only [wt]
  omega
theorem zpe (a b:Nat) {n:Nat} (hn:n≠0):mkRat a n+mkRat b n=mkRat ((a+b:Nat):Int) n:=by
 have e:=Rat.mkRat_add_mkRat (a:Int) (b:Int) hn hn
 rw [e, <-Int.add_mul,Rat.mkRat_mul_right hn]
 congr 1
theorem zpu (t:Int) {n:Nat} (hn:n≠0): ∀ (os:List (List Int×Int)) (f:Nat->Nat),qs (sl t os ((List.range os.length).map fun i=>mkRat (f i) n))=mkRat (wt t os f) n
 | [],f=>by
  show qs []=mkRat 0 n
  rw [zpl,Rat.zero_mkRat]
 | o::os,f=>by
  have ih:=zpu t hn os fun i=>f (i+1)
  have e:(List.range (o::os).length).map (fun i=>mkRat (f i) n)=mkRat (f 0) n::(List.range os.length).map fun i=>mkRat (f (i+1)) n:=by
   rw [qaE,List.range_succ_eq_map,qaM,qaT]
   rfl
  rw [e]
  unfold sl at ih ⊢
  rw [List.zip_cons_cons,List.filter_cons]
  simp only [wt]
  cases h:o.1.any (· == t) with
  | true=>
   rw [qa4 rfl,qa4 rfl,qaM,zmY,ih,zpe _ _ hn]
  | false=>
   simp only [qax,if_false,Nat.zero_add]
   exact ih
noncomputable def cnt (cs:List (List Int)) (i:Nat):Nat:=(cs.filter fun c=>c.any (· == (i:Int))).length
theorem zlA (c:List Int) (cs:List (List Int)) (i:Nat):cnt (c::cs) i=(if c.any (· == (i:Int)) then 1 else 0)+cnt cs i:=by
 unfold cnt
 rw [List.filter_cons]
 cases h:c.any (· == (i:Int)) with
 | true=>simp only [if_true,qaE];omega
 | false=>simp only [qax,if_false];omega
theorem zms {t:Int} (t0:0<=t) (t1:t<m): ∀ {cs:List (List Int)},(∀ c∈cs,Cv m os c)->cs.length<=wt t os (cnt cs)
 | [],_=>Nat.zero_le _
 | c::cs,h=>by
  have ih:=zms t0 t1 (cs:=cs) fun d hd=>h d (qan _ hd)
  have g:=h c qau
  obtain ⟨i,hi,ht⟩:=g.cv t t0 t1
  have hb:=g.bd i hi
  have e:cnt (c::cs)=fun (i:Nat)=>(if c.any (· == (i:Int)) then 1 else 0)+cnt cs i:=funext fun i=>zlA c cs i
  rw [e,zmH,qaE]
  have:=zmr t os (fun (i:Nat)=>if c.any (· == (i:Int)) then 1 else 0) i.toNat (by omega) ht
  have e2:c.any (· == ((i.toNat:Nat):Int))=true:=zhY.mpr (by rw [show ((i.toNat:Nat):Int)=i by omega];exact hi)
  simp only [e2,if_true] at this
  omega
noncomputable def shr (os:List (List Int×Int)) (cs:List (List Int)):List Rat:=(List.range os.length).map fun i=>mkRat (cnt cs i) cs.length
theorem zg8 (os:List (List Int×Int)) (cs:List (List Int)):(shr os cs).length=os.length:=by unfold shr;simp
theorem zmX {a n:Nat} (hn:0<n) (h:n<=a):((mkRat a n).den:Int)<=(mkRat a n).num:=by
 rw [Rat.num_mkRat,Rat.den_mkRat,qa5 (by omega),qa5 (by omega),Int.natAbs_natCast, <-Int.natCast_ediv]
 exact Int.ofNat_le.mpr (Nat.div_le_div_right h)
theorem zqp {cs:List (List Int)} (h: ∀ c∈cs,Cv m os c) (hc:0<cs.length) {t:Int} (t0:0<=t) (t1:t<m):sB os (shr os cs) t=true:=by
 unfold sB shr
 rw [zpu t (by omega)]
 have:=zmX hc (zms t0 t1 h)
 rw [decide_eq_false (by omega)]
 rfl
theorem zpB (cs:List (List Int)) (i:Nat):cnt cs i<=cs.length:=List.length_filter_le _ _
theorem zjv {cs:List (List Int)} (h0:0<cs.length) (h3:cs.length<=3): ∀ r∈shr os cs,0<=r.num/\r.num.natAbs<=3/\r.den<=3:=fun r hr=>by
 unfold shr at hr
 obtain ⟨i,_,rfl⟩:=qaU.mp hr
 have h1:=zpB cs i
 have h2:=zgb ((cnt cs i:Nat):Int) h0
 have h4:=zgm ((cnt cs i:Nat):Int) h0
 rw [Int.natAbs_natCast] at h2
 refine ⟨?_,by omega,by omega⟩
 rw [Rat.num_mkRat,qa5 (by omega),Int.natAbs_natCast, <-Int.natCast_ediv]
 exact Int.natCast_nonneg _
theorem zmC: ∀ rs:List Rat,(∀ r∈rs,r.den<=3)->dp rs<=3^rs.length
 | [],_=>qaV _
 | r::rs,h=>by
  show r.den*dp rs<=3^(rs.length+1)
  rw [Nat.pow_succ,Nat.mul_comm (3^rs.length)]
  exact Nat.mul_le_mul (h r qau) (zmC rs fun x hx=>h x (qan _ hx))
theorem zhF (s:Stk m os) (hf: ∀ i:Int,0<=i->i<m-> ∃ o∈os,i∈o.1) {b:Nat}: ∀ (ds:List D) {h:Hh} {P:List D->Hh->Prop},Bx b h->(∀ (cs:List (List Int)) h',cs.length=ds.length->(∀ c∈cs,Cv m os c)->Bx b h'->P (cs.map tI) h')->
  wp (zbC (zbc (zaW 0) (fun _=>pure true) zbI [none,some (.cel b),some (zcn m os)]) ds) h P
 | [],h,P,q,k=>by
  rw [zbC,zak]
  exact k [] h rfl (fun y hy=>by cases hy) q
 | d::r,h,P,q,k=>by
  rw [zbC,zam]
  simp only [zbc,zbI]
  ac_nf0
  refine zkU s hf q fun c h1 g q1=> ?_
  refine zhF s hf r q1 fun cs h2 hl hy q2=> ?_
  exact k (c::cs) h2 (by simp [hl]) (fun w hw=>by
    rcases qaP.mp hw with rfl | hw
    · exact g
    · exact hy w hw) q2
theorem zk7 {cs:List (List Int)} {s0 s1 s3:Option D} {i:Nat} (hl:cs.length<=3):zaC (iSq (zaf 2)) (zaW 0) zbH zbF [none,some 4] [s0,s1,some (.lst (cs.map tI)),s3,some (.int (i:Int))]=pure (.lst ((cs.filter fun c=>c.any (· == (i:Int))).map tI)):=by
 rw [<- zb5 (p:=fun c:List Int=>c.any (· == (i:Int))) (g:=tI)]
 refine zcx (g':=tI) (by ac_nf0) (by omega) fun c hc=> ?_
 rw [show zau [none,some 4] [s0,s1,some (.lst (cs.map tI)),s3,some (.int (i:Int))]=[none,some (.int (i:Int))] from rfl]
 simp only [zbc,zbH,zbF]
 cases h:c.any (· == (i:Int)) with
 | true=>
  ac_nf0
  rw [zcB,h]
  ac_nf0
 | false=>
  ac_nf0
  rw [zcB,h]
  ac_nf0
theorem zja {cs:List (List Int)} (h0:0<cs.length) (h3:cs.length<=3) {b c:Nat} (hbc:c≠b) {s0 s1:Option D}: ∀ (is:List Nat) (rs:List Rat) {h:Hh} {x4:Option D} {P:Out->Hh->Prop},Bx b h->h[c]? = some (.lst (rs.map qD))->rs.length+is.length<=100->
  (∀ y4 h',Bx b h'->h'[c]? = some (.lst ((rs++is.map fun (i:Nat)=>mkRat (cnt cs i) cs.length).map qD))->P (.nx [s0,s1,some (.lst (cs.map tI)),some (.cel c),y4]) h')->
  wp (zba (fun x sd=>zbf (List.set sd 4 (some x))) (is.map fun (i:Nat)=> .int (i:Int)) [s0,s1,some (.lst (cs.map tI)),some (.cel c),x4]) h P
 | [],rs,h,x4,P,q,e,hl,k=>by
  rw [List.map_nil,zfB,zak]
  exact k x4 h q (by simpa using e)
 | i::is,rs,h,x4,P,q,e,hl,k=>by
  have hlt:=(qac.mp e).1
  have hl':rs.length+(is.length+1)<=100:=hl
  have ih:=zja h0 h3 hbc (s0:=s0) (s1:=s1) is (rs++[mkRat (cnt cs i) cs.length]) (h:=h.set c (.lst ((rs++[mkRat (cnt cs i) cs.length]).map qD))) (x4:=some (.int (i:Int))) (P:=P)
   (by obtain ⟨y,ey⟩:=q;exact ⟨y,by rw [qao hbc];exact ey⟩) (by rw [qai hlt]) (by rw [qav,List.length_singleton];omega) (fun y4 h' q' e'=>k y4 h' q' (by rw [e',List.append_assoc];rfl))
  have ec:=zk7 (s0:=s0) (s1:=s1) (s3:=some (.cel c)) (i:=i) h3
  have hbb:cs.length<bb:=qaw (show cs.length<2^2 by omega) (zga (by decide))
  have ef:=zfI (a:=((cnt cs i:Nat):Int)) h0 hbb
  have el:((cs.filter fun c=>c.any (· == (i:Int))).map tI).length=cnt cs i:=by rw [qaH];rfl
  have f1:=zaK (show rs.length+1<=1000 by omega)
  rw [List.map_append] at ih
  rw [qaM,zcW]
  generalize zba (fun x sd=>zbf (List.set sd 4 (some x))) (is.map fun (i:Nat)=> .int (i:Int))=rest at ih ⊢
  generalize (cs.filter fun c=>c.any (· == (i:Int))).map tI=ys at ec el
  have ecl:(cs.map tI).length=cs.length:=qaH _
  generalize cs.map tI=cd at ec ecl ih k ⊢
  generalize mkRat ((cnt cs i:Nat):Int) cs.length=r at ef ih
  rw [List.map_singleton] at ih
  generalize qD r=q1 at ef ih
  simp only [zbf]
  ac_nf0
  simp only [zhf,zdd,zdq,zaR,zaI,pure_bind,bind_assoc,zam,zcH e,zak]
  ac_nf0
  rw [ec]
  ac_nf0
  rw [el,ecl,ef]
  ac_nf0
  simp only [zcH e,zam,zak,qaH,f1,zhQ,pure_bind,zdd,zdq]
  exact ih
theorem zih (s:Stk m os) (hf: ∀ i:Int,0<=i->i<m-> ∃ o∈os,i∈o.1) {h:Hh} {b:Nat} {P:D->Hh->Prop} (q:Bx b h) (k: ∀ cs h',0<cs.length->cs.length<=3->(∀ c∈cs,Cv m os c)->Bx b h'->P (.tup ((shr os cs).map qD)) h'):wp (F_39 [.cel b,zcn m os]) h P:=by
 have ol:=s.len
 rw [d_39]
 simp only [G_39]
 unfold zaC
 ac_nf0
 refine za8 q (by decide) (by decide) fun t h1 t0 t1 x1=> ?_
 ac_nf0
 rw [zbX (by omega) (by omega)]
 ac_nf0
 rw [zdh,zaK (show (1+t).toNat<=1000 by omega)]
 ac_nf0
 refine zhF s hf _ x1.1 fun cs h2 hl hc q2=> ?_
 rw [zdh] at hl
 have h0:0<cs.length:=by omega
 have h3:cs.length<=3:=by omega
 have qb:=q2.push (c:= .lst [])
 have hbc:h2.length≠b:=fun z=>by
  obtain ⟨y,ey⟩:=q2
  have:=(qac.mp ey).1
  omega
 have er:zdg 0 os.length=(List.range os.length).map fun (i:Nat)=> .int (i:Int):=by
  unfold zdg
  exact List.map_congr_left fun k _=>by simp
 have cl:=fun (x4:Option D) (P:Out->Hh->Prop)=>zja h0 h3 hbc (s0:=some (.cel b)) (s1:=some (zcn m os)) (List.range os.length) [] (h:=h2++[.lst []]) (x4:=x4) (P:=P) qb.1 (by simp) (by simp;omega)
 generalize cs.map tI=cd at cl ⊢
 ac_nf0
 rw [zlZ]
 ac_nf0
 rw [zbX (by omega) (by omega),qaB,er]
 ac_nf0
 refine cl _ _ fun y4 h3' q3 e3=> ?_
 ac_nf0
 rw [List.nil_append] at e3
 have et:zcw [.cel h2.length]=(zal h2.length>>=fun ds=>pure (.tup ds):M D):=rfl
 rw [et]
 simp only [zam,zcH e3,zak]
 ac_nf0
 exact k cs h3' h0 h3 hc q3
structure Fz (rs:List Rat):Prop where
 ln:1<=rs.length/\rs.length<=12
 dd:dp rs<=2^1700
 nn: ∀ r∈rs,r.num.natAbs<=2^1600
theorem Fz.den {rs:List Rat} (z:Fz rs) {r:Rat} (hr:r∈rs):r.den<=2^1700:=qaS (zmS hr) z.dd
theorem zoY {rs:List Rat} (z:Fz rs) {r:Rat} (hr:r∈rs):sv (qD r):=zrM (zaD (n:=1700) (by decide) (z.den hr))
theorem znv (r:Rat):zbQ (qD r)=r:=by
 show mkRat r.num ((r.den:Int).toNat)=r
 rw [qaB,Rat.mkRat_self]
theorem zhR (rs:List Rat):(rs.map qD).map zbQ=rs:=by
 rw [qaT]
 conv=>rhs;rw [<- List.map_id rs]
 exact List.map_congr_left fun r _=>znv r
theorem zib {rs:List Rat} (hl:rs.length<=14) (hd:dp rs<=2^1800) (hn: ∀ r∈rs,r.num.natAbs<=2^1606/\r.den<=2^1800):gt (.tup (rs.map qD)):=⟨rfl,fun ds e=>by
  cases e
  refine ⟨by rw [qaH];omega,fun x hx=> ?_,fun _=> ?_⟩
  · obtain ⟨r,hr,rfl⟩:=qaU.mp hx
    exact zrM (zaD (n:=1800) (by decide) (hn r hr).2)
  · rw [zhR]
    exact ⟨qaS hd (Nat.pow_le_pow_right (by decide) (by decide)),hl,fun r hr=>qaS (hn r hr).1 (Nat.pow_le_pow_right (by decide) (by decide))⟩⟩
theorem Fz.sub {rs xs:List Rat} (z:Fz rs) (h:xs.Sublist rs):gt (.tup (xs.map qD)):=zib (by have:=h.length_le;have:=z.ln;omega) (qaS (zjN h) (qaS z.dd (Nat.pow_le_pow_right (by decide) (by decide)))) fun r hr=>⟨qaS (z.nn r (h.subset hr)) (Nat.pow_le_pow_right (by decide) (by decide)),qaS (z.den (h.subset hr)) (Nat.pow_le_pow_right (by decide) (by decide))⟩
theorem zp4 {rs:List Rat} (z:Fz rs) {t:Nat} (ht:t<rs.length) {d:D} (o:Od rs[t] d):gt (.tup ((rs.take t).map qD++d::(rs.drop (t+1)).map qD)):=⟨rfl,fun ds e=>by
  have e:(rs.take t).map qD++d::(rs.drop (t+1)).map qD=ds:=by cases e;rfl
  subst e
  have hl:=z.ln
  have er:rs=rs.take t++rs[t]::rs.drop (t+1):=by simp
  have hd:dp rs=dp (rs.take t)*(rs[t].den*dp (rs.drop (t+1))):=by
    conv=>lhs;rw [er]
    rw [zfZ]
    rfl
  refine ⟨by simp;omega,fun x hx=> ?_,fun _=> ?_⟩
  · rcases qaK.mp hx with h | h
    · obtain ⟨r,hr,rfl⟩:=qaU.mp h
      exact zoY z (List.mem_of_mem_take hr)
    · rcases qaP.mp h with rfl | h
      · exact o.v
      · obtain ⟨r,hr,rfl⟩:=qaU.mp h
        exact zoY z (List.mem_of_mem_drop hr)
  · rw [List.map_append,qaM,zhR,zhR]
    refine ⟨?_,by simp;omega,fun r hr=> ?_⟩
    · rw [zfZ]
      show dp (rs.take t)*((zbQ d).den*dp (rs.drop (t+1)))<=_
      have h1:(zbQ d).den*dp (rs.drop (t+1))<=2*rs[t].den*dp (rs.drop (t+1)):=Nat.mul_le_mul_right _ o.d
      have h2:dp (rs.take t)*((zbQ d).den*dp (rs.drop (t+1)))<=dp (rs.take t)*(2*rs[t].den*dp (rs.drop (t+1))):=Nat.mul_le_mul_left _ h1
      have h3:dp (rs.take t)*(2*rs[t].den*dp (rs.drop (t+1)))=2*dp rs:=by
        rw [hd,Nat.mul_assoc,Nat.mul_left_comm]
      have h4:2*dp rs<=2^(1+1700):=zgM (by decide) z.dd
      have h5:(2:Nat)^(1+1700)<=2^2000:=Nat.pow_le_pow_right (by decide) (by decide)
      omega
    · rcases qaK.mp hr with h | h
      · exact qaS (z.nn r (List.mem_of_mem_take h)) (Nat.pow_le_pow_right (by decide) (by decide))
      · rcases qaP.mp h with rfl | h
        · exact qaS o.n (Nat.pow_le_pow_right (by decide) (by decide))
        · exact qaS (z.nn r (List.mem_of_mem_drop h)) (Nat.pow_le_pow_right (by decide) (by decide))⟩
theorem zjC: ∀ {xs:List Rat},(∀ x∈xs,x=0)->dp xs=1
 | [],_=>rfl
 | x::r,h=>by
  show x.den*dp r=1
  rw [h x qau,zjC fun y hy=>h y (qan _ hy)]
  rfl
theorem zfN {ds:List D} (hl:ds.length<=12) (h: ∀ x∈ds,sv x/\zbQ x=0):gt (.tup ds):=⟨rfl,fun ds' e=>by
  cases e
  have hz: ∀ x∈ds.map zbQ,x=0:=fun x hx=>by
    obtain ⟨d,hd,rfl⟩:=qaU.mp hx
    exact (h d hd).2
  refine ⟨by omega,fun x hx=>(h x hx).1,fun _=>⟨by rw [zjC hz];exact Nat.one_le_two_pow,by rw [qaH];omega,fun r hr=>by rw [hz r hr];exact Nat.zero_le _⟩⟩⟩
theorem zef {d:D} (k:kn d=true) (h: ∀ ds,d≠ .tup ds):gt d:=⟨k,fun ds e=>absurd e (h ds)⟩
theorem zpv (a:Int):sv (.int a)/\zbQ (.int a)=0:=⟨zlk rfl fun ds e=>(by cases e),rfl⟩
theorem zsp:sv (.tup [.int 0,.int 1])/\zbQ (.tup [.int 0,.int 1])=0:=⟨zeQ rfl rfl fun b e=>by cases e;exact qaw (show (1:Int).toNat<2^1 by decide) (zga (by decide)),zro⟩
noncomputable def zru:List D:=[.non,.bl true,.int 7,.str "",.str "0",.tup [],.lst [],.dct,.tup [.int 1,.int 2],.tup [.int 0],.tup [.int 1,.int 0],.int (-1),.tup [.int 0,.int 1],.lst [.tup [.int 1,.int 0,.int 1]],.bl false,.tup [.tup [.int 0,.int 1]]]
theorem znS: ∀ d∈zru,gt d:=by
 intro d hd
 unfold zru at hd
 have hints: ∀ {xs:List Int},xs.length<=12->gt (.tup (xs.map D.int)):=fun {xs} hl=>zfN (by rw [qaH];exact hl) fun x hx=>by
  obtain ⟨a,_,rfl⟩:=qaU.mp hx
  exact zpv a
 simp only [qaP,qaF,or_false] at hd
 rcases hd with rfl | rfl | rfl | rfl | rfl | rfl | rfl | rfl | rfl | rfl | rfl | rfl | rfl | rfl | rfl | rfl
 ·exact zef rfl fun ds e=>by cases e
 ·exact zef rfl fun ds e=>by cases e
 ·exact zef rfl fun ds e=>by cases e
 ·exact zef rfl fun ds e=>by cases e
 ·exact zef rfl fun ds e=>by cases e
 ·exact hints (xs:=[]) (by decide)
 ·exact zef rfl fun ds e=>by cases e
 ·exact zef rfl fun ds e=>by cases e
 ·exact hints (xs:=[1,2]) (by decide)
 ·exact hints (xs:=[0]) (by decide)
 ·exact hints (xs:=[1,0]) (by decide)
 ·exact zef rfl fun ds e=>by cases e
 ·exact hints (xs:=[0,1]) (by decide)
 ·exact zef rfl fun ds e=>by cases e
 ·exact zef rfl fun ds e=>by cases e
 ·refine zfN (by decide) fun x hx=> ?_
  simp only [qaP,qaF,or_false] at hx
  subst hx
  exact zsp
theorem zqz {h:Hh} {b:Nat} {P:D->Hh->Prop} (q:Bx b h) (k: ∀ d h',gt d->Ext b h h'->P d h'):wp (F_28 [.cel b]) h P:=by
 rw [d_28]
 have e:G_28 [some (.cel b),none]=(do let t<-F_26 [.cel b,.int 16];let d<-dIx (.lst zru) t;pure (.rt d)):=by
  simp only [G_28]
  ac_nf0
  try simp only [zpA]
  try ac_nf0
  rfl
 rw [e]
 simp only [bind_assoc,zam]
 refine za8 q (by decide) (by decide) fun t h2 t0 t1 x2=> ?_
 obtain ⟨d,ed,hd⟩:=zhe t0 (show t<(zru.length:Int) from t1)
 simp only [zgu,ed,zdX,zak,zeW]
 exact k _ _ (znS d hd) x2
theorem zp2 {n:Int} (h:n.natAbs<=2^1600):znz [.int n]=pure (.str (toString n)):=by
 show (if n.natAbs.log2<1920 then _ else _)=_
 rw [qa4]
 by_cases h0:n.natAbs=0
 ·rw [h0];decide
 ·exact (Nat.log2_lt h0).mpr (Nat.lt_of_le_of_lt h (Nat.pow_lt_pow_right (by decide) (by decide)))
theorem zjS (rs:List Rat):zbQ (.tup (rs.map qD))=0:=by
 match rs with
 | []=>rfl
 | [_]=>rfl
 | [_,_]=>rfl
 | _::_::_::_=>rfl
theorem zkF {rs:List Rat} (z:Fz rs) {h:Hh} {b:Nat} {P:D->Hh->Prop} (q:Bx b h) (k: ∀ d h',gt d->Ext b h h'->P d h'):wp (F_40 [.cel b,.tup (rs.map qD)]) h P:=by
 obtain ⟨l0,l1⟩:=z.ln
 rw [d_40]
 simp only [G_40]
 ac_nf0
 refine za8 q (by omega) (by omega) fun t h2 t0 t1 x2=> ?_
 have ht:t.toNat<rs.length:=by omega
 have hr:rs.getD t.toNat 0=rs[t.toNat]:=by simp [List.getD,ht]
 have hmem:rs[t.toNat]∈rs:=List.getElem_mem ht
 have hn:=z.nn _ hmem
 have hd:=z.den hmem
 have ho:=zpc hn hd
 have hset:=fun d (o:Od rs[t.toNat] d)=>zp4 z ht o
 have es:=zp2 hn
 have p2:(2:Int).natAbs<2^6000:=zaD (n:=2) (by decide) (by decide)
 have p7:(7:Int).natAbs<2^6000:=zaD (n:=3) (by decide) (by decide)
 have pn:rs[t.toNat].num.natAbs<2^6000:=zaD (n:=1600) (by decide) hn
 have pd:((rs[t.toNat].den:Nat):Int).natAbs<2^6000:=by rw [Int.natAbs_natCast];exact zaD (n:=1700) (by decide) hd
 have e1:=zij p2 pn
 have e2:=zij p2 pd
 have e3:=zij pn p7
 have ea:=ztA (rs:=rs) t0 (by omega)
 rw [hr] at ea
 ac_nf0
 rw [ea]
 generalize rs[t.toNat]=r at hn hd ho es pn pd e1 e2 e3 hset
 rw [show qD r= .tup [.int r.num,.int (r.den:Int)] from rfl]
 ac_nf0
 rw [e1,e2]
 ac_nf0
 rw [es,e3]
 ac_nf0
 simp only [zk4 _ t0,zia _ (show (0:Int)<=1 by decide),zia _ (show 0<=t+1 by omega)]
 refine za8 x2.1 (by decide) (by decide) fun w h3 w0 w1 x3=> ?_
 rw [show [D.tup [D.int (r.num+1),D.int (r.den:Int)],D.tup [D.int (2*r.num),D.int (2*(r.den:Int))],D.tup [D.int (-r.num - 1),D.int (r.den:Int)],D.tup [D.int r.num,D.int ((r.den:Int)+1)],D.tup [D.int r.num,D.int 0],D.tup [D.bl true,D.int (r.den:Int)],D.tup [D.int r.num,D.bl true],D.tup [D.str (Str.ofString (toString r.num)),D.int (r.den:Int)],D.int r.num,D.non,D.lst [D.int r.num,D.int (r.den:Int)],D.tup [D.int r.num],D.tup [D.int 0,D.int 1],D.tup [D.int 0,D.int 2],D.tup [D.int (r.num*7),D.int (r.den:Int)]]=odL r.num (r.den:Int) from rfl]
 rw [zgu]
 refine zkx w0 (by show w<15;exact w1) fun od hod=> ?_
 have g0:=hset od (ho od hod)
 have c1:(List.take t.toNat (rs.map qD)).length<=12:=by rw [List.length_take,qaH];omega
 have c2:(List.drop (t+1).toNat (rs.map qD)).length<=12:=by rw [List.length_drop,qaH];omega
 rw [zaK (show (List.take t.toNat (rs.map qD)).length+1<=1000 by omega),zak,zaK (show (List.take t.toNat (rs.map qD)).length+1+(List.drop (t+1).toNat (rs.map qD)).length<=1000 by omega),zak,zaK (show rs.length+1<=1000 by omega),zak]
 refine zqz x3.1 fun odd h4 go x4=> ?_
 refine za8 x4.1 (by decide) (by decide) fun v h5 v0 v1 x5=> ?_
 rw [zgu]
 have hx:Ext b h h5:=(x2.trans x3).trans (x4.trans x5)
 have hv: ∃ j:Int,0<=j/\j<8/\atI [D.int 0,.int 0,.int 0,.int 0,.int 1,.int 2,.int 3,.int 4,.int 5,.int 6,.int 7] v=some (.int j):=by
  obtain ⟨d,ed,hd⟩:=zhe v0 (show v<(([D.int 0,.int 0,.int 0,.int 0,.int 1,.int 2,.int 3,.int 4,.int 5,.int 6,.int 7]:List D).length:Int) from v1)
  simp only [qaP,qaF,or_false] at hd
  rcases hd with rfl | rfl | rfl | rfl | rfl | rfl | rfl | rfl | rfl | rfl | rfl<;>exact ⟨_,by decide,by decide,ed⟩
 obtain ⟨j,j0,j1,ej⟩:=hv
 rw [ej,zdX,zak,zgu]
 refine zkx j0 (by show j<8;exact j1) fun d hd=> ?_
 refine k d h5 ?_ hx
 simp only [qaP,qaF,or_false] at hd
 rcases hd with rfl | rfl | rfl | rfl | rfl | rfl | rfl | rfl
 ·rw [List.append_assoc, <-List.map_take, <-List.map_drop,show (t+1).toNat=t.toNat+1 by omega]
  exact g0
 ·rw [<- List.map_drop]
  exact z.sub (List.drop_sublist _ _)
 ·rw [show rs.map qD++[D.tup [.int 0,.int 1]]=(rs++[0]).map qD by rw [List.map_append];rfl]
  refine zib (by simp;omega) ?_ fun r hr=> ?_
  ·rw [zfZ]
   show dp rs*(1*1)<=_
   rw [Nat.mul_one]
   exact qaS z.dd (Nat.pow_le_pow_right (by decide) (by decide))
  ·rcases qaK.mp hr with hr | hr
   ·exact ⟨qaS (z.nn r hr) (Nat.pow_le_pow_right (by decide) (by decide)),qaS (z.den hr) (Nat.pow_le_pow_right (by decide) (by decide))⟩
   ·rw [List.mem_singleton.mp hr]
    exact ⟨Nat.zero_le _,Nat.one_le_two_pow⟩
 ·exact zef rfl fun ds e=>by cases e
 ·refine zfN (show 1<=12 by decide) fun x hx=> ?_
  rw [List.mem_singleton.mp hx]
  refine ⟨⟨rfl,fun ds e=> ?_⟩,zjS rs⟩
  cases e
  refine ⟨fun x hx=> ?_,fun a b e=> ?_⟩
  ·obtain ⟨r,_,rfl⟩:=qaU.mp hx
   rfl
  ·have:D.int a∈rs.map qD:=by rw [e];exact qau
   obtain ⟨r,_,hr⟩:=qaU.mp this
   cases hr
 ·exact zef rfl fun ds e=>by cases e
 ·exact go
 ·rw [<- List.map_reverse]
  refine zib (by rw [List.length_reverse];omega) (by rw [zpV];exact qaS z.dd (Nat.pow_le_pow_right (by decide) (by decide))) fun r hr=> ?_
  have hr:=List.mem_reverse.mp hr
  exact ⟨qaS (z.nn r hr) (Nat.pow_le_pow_right (by decide) (by decide)),qaS (z.den hr) (Nat.pow_le_pow_right (by decide) (by decide))⟩
theorem ztC {r:Rat} (h:0<=r):pS (qD r)=true:=by
 have h1:=zsW r
 unfold qD at h1 ⊢
 rw [zoa h1,qaD]
 exact Rat.num_nonneg.mpr h
theorem zh8 {rs:List Rat} (z:Fz rs) {b:Nat}: ∀ (ds:List D) {h:Hh} {P:List D->Hh->Prop},Bx b h->(∀ ys h',ys.length=ds.length->(∀ y∈ys,gt y)->Bx b h'->P ys h')->
  wp (zbC (zbc (zaW 0) (fun _=>pure true) zfv [none,some (.cel b),some (.tup (rs.map qD))]) ds) h P
 | [],h,P,q,k=>by
  rw [zbC,zak]
  exact k [] h rfl (fun y hy=>by cases hy) q
 | d::r,h,P,q,k=>by
  rw [zbC,zam]
  simp only [zbc,zfv]
  ac_nf0
  refine zkF z q fun y h1 g x=> ?_
  refine zh8 z r x.1 fun ys h2 hl hy q2=> ?_
  exact k (y::ys) h2 (by simp [hl]) (fun w hw=>by
    rcases qaP.mp hw with rfl | hw
    · exact g
    · exact hy w hw) q2
theorem zl8 {rs:List Rat} (z:Fz rs) {b:Nat} {s0 s1 s3 s4 s6:Option D} {h:Hh} {P:D->Hh->Prop} (q:Bx b h) (k: ∀ ys h',ys.length=4->(∀ y∈ys,gt y)->Bx b h'->P (.lst ys) h'):
  wp (zaC (zgR (zab (cK (.int 4)) zan)) (zaW 0) (fun _=>pure true) zfv [none,some 2,some 4] [s0,s1,some (.cel b),s3,some (.tup (rs.map qD)),s4,s6]) h P:=by
 unfold zaC
 ac_nf0
 rw [zbX (by decide) (by decide)]
 ac_nf0
 rw [zdh,zaK (show (4:Int).toNat<=1000 by decide)]
 ac_nf0
 refine zh8 z _ q fun ys h2 hl hy q2=> ?_
 exact k ys h2 (by rw [hl];rfl) hy q2
theorem zpQ {cs:List (List Int)} (l0:1<=os.length) (l1:os.length<=12) (h0:0<cs.length) (h3:cs.length<=3):Fz (shr os cs) where
 ln:=by rw [zg8];exact ⟨l0,l1⟩
 dd:=by
  have h1:=zmC (shr os cs) fun r hr=>(zjv h0 h3 r hr).2.2
  rw [zg8] at h1
  have h2:(3:Nat)^os.length<=3^12:=Nat.pow_le_pow_right (by decide) l1
  have h3:(3:Nat)^12<=2^20:=by decide
  have h4:(2:Nat)^20<=2^1700:=Nat.pow_le_pow_right (by decide) (by decide)
  omega
 nn:=fun r hr=>by
  have h1:=(zjv h0 h3 r hr).2.1
  have h2:(2:Nat)^2<=2^1600:=Nat.pow_le_pow_right (by decide) (by decide)
  have h3:(3:Nat)<=2^2:=by decide
  exact qaS h1 (qaS h3 h2)
theorem zk1 {cs:List (List Int)} (h: ∀ c∈cs,Cv m os c) (h0:0<cs.length) (h3:cs.length<=3):zec m os (.tup ((shr os cs).map qD))=true:=by
 show ((((shr os cs).map qD).length:Int)==(os.length:Int) && ((shr os cs).map qD).all pS && (tsI m).all (sB os (((shr os cs).map qD).map zbQ)))=true
 rw [zhR,qaG,qaG,beq_iff_eq,qaH,zg8]
 refine ⟨⟨rfl,List.all_eq_true.mpr fun d hd=> ?_⟩,List.all_eq_true.mpr fun t ht=> ?_⟩
 ·obtain ⟨r,hr,rfl⟩:=qaU.mp hd
  exact ztC (Rat.num_nonneg.mp (zjv h0 h3 r hr).1)
 ·have:=zdy t ht
  exact zqp h h0 this.1 (by omega)
theorem zkE {n:Nat} (h:n<=12):zjc (.tup [.tup [.int 1,.int 1]]) (.int (n:Int))=pure (.tup ((List.replicate n (1:Rat)).map qD)):=by
 show (if (n:Int)=0 then _ else zkX _ _)=_
 by_cases h0:(n:Int)=0
 ·have:n=0:=by omega
  subst this
  rfl
 ·rw [qa5 h0]
  show (if (n:Int)=1 then _ else _)=_
  by_cases h1:(n:Int)=1
  ·have:n=1:=by omega
   subst this
   rfl
  ·rw [qa5 h1,qa4 ⟨by simp,by omega,by omega,by
     have hsl:(sizeLine:Nat)=16777216:=by decide
     show 1*(n:Int).toNat<=_
     omega⟩]
   congr 2
   rw [List.map_replicate]
   refine List.eq_replicate_iff.mpr ⟨by simp,fun x hx=> ?_⟩
   obtain ⟨l,hl,hx⟩:=List.mem_flatten.mp hx
   rw [(List.mem_replicate.mp hl).2] at hx
   rw [List.mem_singleton.mp hx]
   rfl
theorem zmG: ∀ n,dp (List.replicate n (1:Rat))=1
 | 0=>rfl
 | n+1=>by
  show (1:Rat).den*dp (List.replicate n (1:Rat))=1
  rw [zmG n]
  rfl
theorem zmU {n:Nat} (h:n<=12):gt (.tup ((List.replicate n (1:Rat)).map qD)):=zib (by simp;omega) (by rw [zmG];exact Nat.one_le_two_pow) fun r hr=>by
 rw [(List.mem_replicate.mp hr).2]
 exact ⟨Nat.one_le_two_pow,Nat.one_le_two_pow⟩
theorem zmp (s:Stk m os) (hp: ∀ o∈os,o.2<2^64): ∀ o∈os,o.2.natAbs<=2^64:=fun o ho=>by
 have h1:=s.pos o ho
 have h2:=hp o ho
 omega
theorem zhA {ns:List Int}: ∀ (ds:List D) {h:Hh} {x1 x2 x3 x4 x5 x6:Option D},(∀ d∈ds, ∃ i:Int,d= .int i/\0<=i/\i<5)->
  wp (zba (fun x sd=>do let sd1<-zaW 1 x sd;zeq sd1) ds [some (.scr (ns.map D.int)),x1,x2,x3,x4,x5,x6]) h fun o _=> ∃ sd,o= .nx sd
 | [],h,x1,x2,x3,x4,x5,x6,_=>by rw [zfB,zak];exact ⟨_,rfl⟩
 | d::r,h,x1,x2,x3,x4,x5,x6,hd=>by
  obtain ⟨i,rfl,i0,i1⟩:=hd _ qau
  have ih: ∀ {h:Hh} {x1 x2 x3 x4 x5 x6:Option D},wp (zba (fun x sd=>do let sd1<-zaW 1 x sd;zeq sd1) r [some (.scr (ns.map D.int)),x1,x2,x3,x4,x5,x6]) h fun o _=> ∃ sd,o= .nx sd:=zhA r fun y hy=>hd y (qan _ hy)
  rw [zcW]
  generalize zba (fun x sd=>do let sd1<-zaW 1 x sd;zeq sd1) r=rest at ih ⊢
  simp only [zeq]
  ac_nf0
  refine zp5 i0 i1 fun z=> ?_
  have qb:Bx h.length (h++[.lst [.int z]]):=⟨z,by simp⟩
  generalize h.length=b at qb ⊢
  generalize h++[.lst [.int z]]=h1 at qb ⊢
  ac_nf0
  refine zow (by decide) (by decide) qb fun m ods h2 q2 m0 m1 l0 l1 ho hcov=> ?_
  obtain ⟨os,rfl,s,hp⟩:=zmz m0 m1 l1 ho
  rw [qaH] at l0 l1
  have hf: ∀ i:Int,0<=i->i<m-> ∃ o∈os,i∈o.1:=fun i i0 i1=>by
   obtain ⟨o,ho,xs,p,e,hi⟩:=hcov i i0 i1
   obtain ⟨o',ho',rfl⟩:=qaU.mp ho
   refine ⟨o',ho',?_⟩
   unfold zdp tI at e
   simp only [D.tup.injEq,List.cons.injEq,and_true] at e
   have:=(List.map_inj_right (fun a b h=>by cases h;rfl)).mp e.1
   rw [this]
   exact hi
  rw [show D.tup [.int m,.tup (os.map zdp)]=zcn m os from rfl]
  ac_nf0
  refine zih s hf q2 fun cs h3 c0 c3 hcv q3=> ?_
  have fz:=zpQ l0 l1 c0 c3
  have gb:gt (.tup ((shr os cs).map qD)):=fz.sub (List.Sublist.refl _)
  have eb:=zfM s gb
  rw [zk1 hcv c0 c3] at eb
  have go:=zmU l1
  have ge:gt (.tup []):=zfN (show 0<=12 by decide) fun x hx=>by cases hx
  have em:=zkE l1
  ac_nf0
  rw [zlZ]
  ac_nf0
  rw [em]
  ac_nf0
  refine zl8 fz q3 fun ys h4 hl4 hy q4=> ?_
  generalize (List.replicate os.length (1:Rat)).map qD=zs at go
  generalize (shr os cs).map qD=bs at gb eb
  have hall: ∀ d∈(.tup bs:: .tup zs:: .tup []::ys:List D),gt d:=fun d hd=>by
   rcases qaP.mp hd with rfl | hd
   ·exact gb
   ·rcases qaP.mp hd with rfl | hd
    ·exact go
    ·rcases qaP.mp hd with rfl | hd
     ·exact ge
     ·exact hy d hd
  have ec: ∀ {s0 s1 s2 s4 s6:Option D},zaC (iSq (zaf 5)) (zaW 0) (fun _=>pure true) zhb [none,some 3] [s0,s1,s2,some (zcn m os),s4,some (.lst (.tup bs:: .tup zs:: .tup []::ys)),s6]=pure (.lst (((.tup bs:: .tup zs:: .tup []::ys:List D).map fun _=>true).map D.bl)):=fun {s0 s1 s2 s4 s6}=>by
   rw [zeM (ds:=(.tup bs:: .tup zs:: .tup []::ys)) (k:=fun _=> .bl true) (by ac_nf0) (by simp;omega) ?_]
   ·rw [qaT];rfl
   ·intro x hx
    have er:=zhH s (zmp s hp) (hall x hx)
    rw [show zau [none,some 3] [s0,s1,s2,some (zcn m os),s4,some (.lst (.tup bs:: .tup zs:: .tup []::ys)),s6]=[none,some (zcn m os)] from rfl]
    simp only [zbc,zhb]
    ac_nf0
    rw [er]
    ac_nf0
  have et:(((.tup bs:: .tup zs:: .tup []::ys:List D).map fun _=>true).all id)=true:=by simp
  ac_nf0
  rw [hl4]
  ac_nf0
  rw [eb]
  ac_nf0
  rw [show zgj (.bl true) (.bl true)=pure (.bl false) from rfl]
  ac_nf0
  rw [ec,zak,zfw,et]
  ac_nf0
  refine zlR s q4 fun os' h5 s' hp' x5=> ?_
  have l2:=s'.len
  have er:=zhH s' (zmp s' fun o ho=>by obtain ⟨o',h1,e⟩:=hp' o ho;rw [e];exact hp o' h1) (zmU l2)
  have em':=zkE l2
  generalize (List.replicate os'.length (1:Rat)).map qD=zs' at er em'
  ac_nf0
  rw [zlZ]
  ac_nf0
  rw [em']
  ac_nf0
  rw [er]
  ac_nf0
  exact ih
theorem zma: ∀ ns:List Int,ns.length<=63-> ∃ h',F_43 [.scr (ns.map D.int)] []= .ok (.bl true) h':=by
 intro ns _
 have key:wp (F_43 [.scr (ns.map D.int)]) [] fun d _=>d= .bl true:=by
  rw [d_43]
  simp only [G_43]
  ac_nf0
  simp only [zmx]
  ac_nf0
  simp only [zrY]
  ac_nf0
  generalize hn:(if (if (4:Int)<(ns.length:Int) then (4:Int) else (ns.length:Int))>1 then (if (4:Int)<(ns.length:Int) then (4:Int) else (ns.length:Int)) else (1:Int))=n
  have n0:0<=n/\n<=5:=by
   rw [<- hn]
   split<;>split<;>omega
  rw [zbX n0.1 (by omega)]
  ac_nf0
  refine zjG (zhA _ fun d hd=> ?_) ?_
  ·obtain ⟨i,e,i0,i1⟩:=zfK hd
   exact ⟨i,e,i0,by omega⟩
  ·rintro o h' ⟨sd,rfl⟩
   ac_nf0
 obtain ⟨d,h',e,rfl⟩:=key
 exact ⟨h',e⟩
end K32
namespace K32
open PySem PySem.Spec PyProof.Rows L2 L3
theorem zq1 {l:W.OpenLaw} {w:World} {K:W.Frag} {h:Heap} {mg:Str->Option Value} {fa a_0 a_1 a_2 a_3 a_4 a_5 a_6 a_7 a_8 a_9 a_10 a_11 a_24 a_25 a_26 a_30 a_31 a_33 a_34 a_35 a_39 a_28 a_40 a_27 a_36 a_37 a_38 a_12 a_13 a_15 a_17 a_22 a_21 a_14 a_18 a_16 a_23 a_19 a_29 a_20 a_41 a_42 a_32 a_43:Addr} (X:K.In h) (G:h.Ns mainGlobals mg) (hfa:mg "law"=some (.ref fa))
  {od_43 an_43:Option Addr} {sl_43:Array (Option Value)} {oc_43 kV_43 dc_43 pm_43 cd_43 ct_43:Value}
  {d_24 d_25 d_26 d_30 d_31 d_33 d_34 d_35 d_39 d_28 d_40 d_27 d_36 d_37 d_38 d_12 d_13 d_15 d_17 d_22 d_21 d_14 d_18 d_16 d_23 d_19 d_29 d_20 d_41 d_42 d_32:FuncData}
  (f_24:Fd K "_law_cell" s_24 a_24 d_24)
  (f_25:Fd K "_law_box" s_25 a_25 d_25)
  (f_26:Fd K "_law_take" s_26 a_26 d_26)
  (f_30:Fd K "_law_things" s_30 a_30 d_30)
  (f_31:Fd K "_law_full" s_31 a_31 d_31)
  (f_33:Fd K "_law_has" s_33 a_33 d_33)
  (f_34:Fd K "_law_cover" s_34 a_34 d_34)
  (f_35:Fd K "_law_frac" s_35 a_35 d_35)
  (f_39:Fd K "_law_sharing" s_39 a_39 d_39)
  (f_28:Fd K "_law_odd" s_28 a_28 d_28)
  (f_40:Fd K "_law_spoilt" s_40 a_40 d_40)
  (f_27:Fd K "_law_whole" s_27 a_27 d_27)
  (f_36:Fd K "_law_is_frac" s_36 a_36 d_36)
  (f_37:Fd K "_law_sum" s_37 a_37 d_37)
  (f_38:Fd K "_law_is_sharing" s_38 a_38 d_38)
  (f_12:Fd K "is_whole" s_12 a_12 d_12)
  (f_13:Fd K "is_pair" s_13 a_13 d_13)
  (f_15:Fd K "greatest_divisor" s_15 a_15 d_15)
  (f_17:Fd K "is_fraction" s_17 a_17 d_17)
  (f_22:Fd K "is_share" s_22 a_22 d_22)
  (f_21:Fd K "are_shares" s_21 a_21 d_21)
  (f_14:Fd K "reduced" s_14 a_14 d_14)
  (f_18:Fd K "together" s_18 a_18 d_18)
  (f_16:Fd K "is_less" s_16 a_16 d_16)
  (f_23:Fd K "is_shared" s_23 a_23 d_23)
  (f_19:Fd K "is_sharing" s_19 a_19 d_19)
  (f_29:Fd K "_law_kind" s_29 a_29 d_29)
  (f_20:Fd K "shared_price" s_20 a_20 d_20)
  (f_41:Fd K "_law_asked" s_41 a_41 d_41)
  (f_42:Fd K "_law_right" s_42 a_42 d_42)
  (f_32:Fd K "_law_holed" s_32 a_32 d_32)
  (e_43:W.nsIn K mainGlobals "law"=some (some (.ref a_43))) (l_43:K.lookup a_43=some ⟨oc_43,od_43,.func (W.fnOf "law" "law" (zdZ s_43) (zcm s_43) (zae s_43) .none kV_43 dc_43 pm_43 an_43 cd_43 ct_43),sl_43⟩) (c_43:W.codeIn K cd_43 "law"=true) (k_43:W.keepIn K (.ref a_43)=true)
  (e_0:W.nsIn K mainGlobals "CoverError"=some (some (.ref a_0)))
  (e_1:W.nsIn K mainGlobals "NoStock"=some (some (.ref a_1)))
  (e_2:W.nsIn K mainGlobals "NoOffer"=some (some (.ref a_2)))
  (e_3:W.nsIn K mainGlobals "NoThing"=some (some (.ref a_3)))
  (e_4:W.nsIn K mainGlobals "NoCover"=some (some (.ref a_4)))
  (e_5:W.nsIn K mainGlobals "NoPaper"=some (some (.ref a_5)))
  (e_6:W.nsIn K mainGlobals "NoNumber"=some (some (.ref a_6)))
  (e_7:W.nsIn K mainGlobals "NotFull"=some (some (.ref a_7)))
  (e_8:W.nsIn K mainGlobals "NotInRow"=some (some (.ref a_8)))
  (e_9:W.nsIn K mainGlobals "NoText"=some (some (.ref a_9)))
  (e_10:W.nsIn K mainGlobals "NoRow"=some (some (.ref a_10)))
  (e_11:W.nsIn K mainGlobals "TooMany"=some (some (.ref a_11)))
  (z_ValueError:W.nsIn K mainGlobals "ValueError"=some none)
  (z_abs:W.nsIn K mainGlobals "abs"=some none)
  (z_all:W.nsIn K mainGlobals "all"=some none)
  (z_bool:W.nsIn K mainGlobals "bool"=some none)
  (z_int:W.nsIn K mainGlobals "int"=some none)
  (z_isinstance:W.nsIn K mainGlobals "isinstance"=some none)
  (z_len:W.nsIn K mainGlobals "len"=some none)
  (z_list:W.nsIn K mainGlobals "list"=some none)
  (z_max:W.nsIn K mainGlobals "max"=some none)
  (z_min:W.nsIn K mainGlobals "min"=some none)
  (z_range:W.nsIn K mainGlobals "range"=some none)
  (z_set:W.nsIn K mainGlobals "set"=some none)
  (z_sorted:W.nsIn K mainGlobals "sorted"=some none)
  (z_str:W.nsIn K mainGlobals "str"=some none)
  (z_sum:W.nsIn K mainGlobals "sum"=some none)
  (z_tuple:W.nsIn K mainGlobals "tuple"=some none)
  (z_zip:W.nsIn K mainGlobals "zip"=some none)
  (x_tab:zky K a_0 [("NoStock",a_1),("NoOffer",a_2),("NoThing",a_3),("NoCover",a_4),("NoPaper",a_5),("NoNumber",a_6),("NotFull",a_7),("NotInRow",a_8),("NoText",a_9),("NoRow",a_10),("TooMany",a_11)]=true)
  : ∃ fd:FuncData,(∀ (s:Shared) (v:Value),BindsTo s fd ⟨[v],[]⟩ [("script",v)])/\ ∀ base:Heap,K.In base->base.Ns mainGlobals mg->zbr l.prog w K mg base CX0 9 fa fd ["script"] (zbT K 1 F_43):=by
 have e:=hfa.symm.trans (W.mg_of X G e_43)
 cases e
 have F_43:=zaO (st:=s_43) l_43 c_43 k_43
 have b_43:=F_43.binds (ps:=["script"]) fun _ _ _ _ _ _ us hl=>match us,hl with | [_],_=>rfl
 have T:Tx K mg ⟨a_0,a_1,a_2,a_3,a_4,a_5,a_6,a_7,a_8,a_9,a_10,a_11,a_24,_,a_25,_,a_26,_,a_30,_,a_31,_,a_33,_,a_34,_,a_35,_,a_39,_,a_28,_,a_40,_,a_27,_,a_36,_,a_37,_,a_38,_,a_12,_,a_13,_,a_15,_,a_17,_,a_22,_,a_21,_,a_14,_,a_18,_,a_16,_,a_23,_,a_19,_,a_29,_,a_20,_,a_41,_,a_42,_,a_32,_,fa,_⟩:=
  {g_0:=W.mg_of X G e_0,
    g_1:=W.mg_of X G e_1,
    g_2:=W.mg_of X G e_2,
    g_3:=W.mg_of X G e_3,
    g_4:=W.mg_of X G e_4,
    g_5:=W.mg_of X G e_5,
    g_6:=W.mg_of X G e_6,
    g_7:=W.mg_of X G e_7,
    g_8:=W.mg_of X G e_8,
    g_9:=W.mg_of X G e_9,
    g_10:=W.mg_of X G e_10,
    g_11:=W.mg_of X G e_11,
    k_1:=e_1,
    k_2:=e_2,
    k_3:=e_3,
    k_4:=e_4,
    k_5:=e_5,
    k_6:=e_6,
    k_7:=e_7,
    k_8:=e_8,
    k_9:=e_9,
    k_10:=e_10,
    k_11:=e_11,
    x_exc:=zkN.of x_tab,
    n_ValueError:=W.mg_none_of X G z_ValueError,
    n_abs:=W.mg_none_of X G z_abs,
    n_all:=W.mg_none_of X G z_all,
    n_bool:=W.mg_none_of X G z_bool,
    n_int:=W.mg_none_of X G z_int,
    n_isinstance:=W.mg_none_of X G z_isinstance,
    n_len:=W.mg_none_of X G z_len,
    n_list:=W.mg_none_of X G z_list,
    n_max:=W.mg_none_of X G z_max,
    n_min:=W.mg_none_of X G z_min,
    n_range:=W.mg_none_of X G z_range,
    n_set:=W.mg_none_of X G z_set,
    n_sorted:=W.mg_none_of X G z_sorted,
    n_str:=W.mg_none_of X G z_str,
    n_sum:=W.mg_none_of X G z_sum,
    n_tuple:=W.mg_none_of X G z_tuple,
    n_zip:=W.mg_none_of X G z_zip,
    m_24:=W.mg_of X G f_24.e,
    F_24:=f_24.F,
    b_24:=f_24.F.binds (ps:=["script","k"]) fun _ _ _ _ _ _ us hl=>match us,hl with | [_,_],_=>rfl,
    m_25:=W.mg_of X G f_25.e,
    F_25:=f_25.F,
    b_25:=f_25.F.binds (ps:=["script","k"]) fun _ _ _ _ _ _ us hl=>match us,hl with | [_,_],_=>rfl,
    m_26:=W.mg_of X G f_26.e,
    F_26:=f_26.F,
    b_26:=f_26.F.binds (ps:=["box","many"]) fun _ _ _ _ _ _ us hl=>match us,hl with | [_,_],_=>rfl,
    m_30:=W.mg_of X G f_30.e,
    F_30:=f_30.F,
    b_30:=f_30.F.binds (ps:=["box","many"]) fun _ _ _ _ _ _ us hl=>match us,hl with | [_,_],_=>rfl,
    m_31:=W.mg_of X G f_31.e,
    F_31:=f_31.F,
    b_31:=f_31.F.binds (ps:=["box","most","lots"]) fun _ _ _ _ _ _ us hl=>match us,hl with | [_,_,_],_=>rfl,
    m_33:=W.mg_of X G f_33.e,
    F_33:=f_33.F,
    b_33:=f_33.F.binds (ps:=["stock","lot"]) fun _ _ _ _ _ _ us hl=>match us,hl with | [_,_],_=>rfl,
    m_34:=W.mg_of X G f_34.e,
    F_34:=f_34.F,
    b_34:=f_34.F.binds (ps:=["box","stock"]) fun _ _ _ _ _ _ us hl=>match us,hl with | [_,_],_=>rfl,
    m_35:=W.mg_of X G f_35.e,
    F_35:=f_35.F,
    b_35:=f_35.F.binds (ps:=["top","bottom"]) fun _ _ _ _ _ _ us hl=>match us,hl with | [_,_],_=>rfl,
    m_39:=W.mg_of X G f_39.e,
    F_39:=f_39.F,
    b_39:=f_39.F.binds (ps:=["box","stock"]) fun _ _ _ _ _ _ us hl=>match us,hl with | [_,_],_=>rfl,
    m_28:=W.mg_of X G f_28.e,
    F_28:=f_28.F,
    b_28:=f_28.F.binds (ps:=["box"]) fun _ _ _ _ _ _ us hl=>match us,hl with | [_],_=>rfl,
    m_40:=W.mg_of X G f_40.e,
    F_40:=f_40.F,
    b_40:=f_40.F.binds (ps:=["box","row"]) fun _ _ _ _ _ _ us hl=>match us,hl with | [_,_],_=>rfl,
    m_27:=W.mg_of X G f_27.e,
    F_27:=f_27.F,
    b_27:=f_27.F.binds (ps:=["thing"]) fun _ _ _ _ _ _ us hl=>match us,hl with | [_],_=>rfl,
    m_36:=W.mg_of X G f_36.e,
    F_36:=f_36.F,
    b_36:=f_36.F.binds (ps:=["thing"]) fun _ _ _ _ _ _ us hl=>match us,hl with | [_],_=>rfl,
    m_37:=W.mg_of X G f_37.e,
    F_37:=f_37.F,
    b_37:=f_37.F.binds (ps:=["some"]) fun _ _ _ _ _ _ us hl=>match us,hl with | [_],_=>rfl,
    m_38:=W.mg_of X G f_38.e,
    F_38:=f_38.F,
    b_38:=f_38.F.binds (ps:=["stock","thing"]) fun _ _ _ _ _ _ us hl=>match us,hl with | [_,_],_=>rfl,
    m_12:=W.mg_of X G f_12.e,
    F_12:=f_12.F,
    b_12:=f_12.F.binds (ps:=["thing"]) fun _ _ _ _ _ _ us hl=>match us,hl with | [_],_=>rfl,
    m_13:=W.mg_of X G f_13.e,
    F_13:=f_13.F,
    b_13:=f_13.F.binds (ps:=["thing"]) fun _ _ _ _ _ _ us hl=>match us,hl with | [_],_=>rfl,
    m_15:=W.mg_of X G f_15.e,
    F_15:=f_15.F,
    b_15:=f_15.F.binds (ps:=["top","bottom"]) fun _ _ _ _ _ _ us hl=>match us,hl with | [_,_],_=>rfl,
    m_17:=W.mg_of X G f_17.e,
    F_17:=f_17.F,
    b_17:=f_17.F.binds (ps:=["thing"]) fun _ _ _ _ _ _ us hl=>match us,hl with | [_],_=>rfl,
    m_22:=W.mg_of X G f_22.e,
    F_22:=f_22.F,
    b_22:=f_22.F.binds (ps:=["thing"]) fun _ _ _ _ _ _ us hl=>match us,hl with | [_],_=>rfl,
    m_21:=W.mg_of X G f_21.e,
    F_21:=f_21.F,
    b_21:=f_21.F.binds (ps:=["thing","many"]) fun _ _ _ _ _ _ us hl=>match us,hl with | [_,_],_=>rfl,
    m_14:=W.mg_of X G f_14.e,
    F_14:=f_14.F,
    b_14:=f_14.F.binds (ps:=["top","bottom"]) fun _ _ _ _ _ _ us hl=>match us,hl with | [_,_],_=>rfl,
    m_18:=W.mg_of X G f_18.e,
    F_18:=f_18.F,
    b_18:=f_18.F.binds (ps:=["fractions"]) fun _ _ _ _ _ _ us hl=>match us,hl with | [_],_=>rfl,
    m_16:=W.mg_of X G f_16.e,
    F_16:=f_16.F,
    b_16:=f_16.F.binds (ps:=["fraction","other"]) fun _ _ _ _ _ _ us hl=>match us,hl with | [_,_],_=>rfl,
    m_23:=W.mg_of X G f_23.e,
    F_23:=f_23.F,
    b_23:=f_23.F.binds (ps:=["stock","thing","shares"]) fun _ _ _ _ _ _ us hl=>match us,hl with | [_,_,_],_=>rfl,
    m_19:=W.mg_of X G f_19.e,
    F_19:=f_19.F,
    b_19:=f_19.F.binds (ps:=["stock","thing"]) fun _ _ _ _ _ _ us hl=>match us,hl with | [_,_],_=>rfl,
    m_29:=W.mg_of X G f_29.e,
    F_29:=f_29.F,
    b_29:=f_29.F.binds (ps:=["e"]) fun _ _ _ _ _ _ us hl=>match us,hl with | [_],_=>rfl,
    m_20:=W.mg_of X G f_20.e,
    F_20:=f_20.F,
    b_20:=f_20.F.binds (ps:=["stock","sharing"]) fun _ _ _ _ _ _ us hl=>match us,hl with | [_,_],_=>rfl,
    m_41:=W.mg_of X G f_41.e,
    F_41:=f_41.F,
    b_41:=f_41.F.binds (ps:=["stock","thing"]) fun _ _ _ _ _ _ us hl=>match us,hl with | [_,_],_=>rfl,
    m_42:=W.mg_of X G f_42.e,
    F_42:=f_42.F,
    b_42:=f_42.F.binds (ps:=["stock","thing"]) fun _ _ _ _ _ _ us hl=>match us,hl with | [_,_],_=>rfl,
    m_32:=W.mg_of X G f_32.e,
    F_32:=f_32.F,
    b_32:=f_32.F.binds (ps:=["box","stock"]) fun _ _ _ _ _ _ us hl=>match us,hl with | [_,_],_=>rfl,
    m_43:=W.mg_of X G e_43,
    F_43:=F_43,
    b_43:=b_43}
 exact ⟨W.fnOf "law" "law" (zdZ s_43) (zcm s_43) (zae s_43) .none kV_43 dc_43 pm_43 an_43 cd_43 ct_43,fun s v=> .of_eq rfl,fun base _ _=>ok_43 T⟩
theorem zte {l:W.OpenLaw} {q:Program} {loose:List Str} {XP:(Str->Option Value)->Heap->Prop} {YP:World->Heap->Prop} {d:DefRec} {K:Params->W.Frag} (hn:l.most=some 63) (hdf:d.params.defaults=[])
  (hY: ∀ (w:World) (h:Heap),YP w h->(K w.params).In h)
  (F: ∀ (w:World) (mg:Str->Option Value) (fa:Addr) (h:Heap),(K w.params).In h->h.Ns mainGlobals mg->mg d.name=some (.ref fa)->
    ∃ fd:FuncData,(∀ (s:Shared) (u:Value),BindsTo s fd ⟨[u],[]⟩ [("script",u)])/\ ∀ base:Heap,(K w.params).In base->base.Ns mainGlobals mg->zbr l.prog w (K w.params) mg base CX0 9 fa fd ["script"] (zbT (K w.params) 1 F_43))
  (hm: ∀ ns:List Int,ns.length<=63-> ∃ h',F_43 [.scr (ns.map D.int)] []= .ok (.bl true) h'):
  W.WalkO q loose XP YP l.row.toRowW d [] (fun f vs=>PySem.call f vs):=
 L2.znO (n:=63) (k:=9) (x:="script") (CX:=fun _=>CX0) (sp:=fun w=>zbT (K w.params) 1 F_43) hn (by decide) hdf ⟨rfl,by decide,by decide⟩ hY F (fun w H a ns hl _ hS=>zsr hS (hm ns hl)) fun _ _ _ _ _ z=>z
end K32
open PySem PySem.W PyProof.Rows
set_option maxRecDepth 100000 in
set_option maxHeartbeats 0 in
theorem PySem.Challenge.cw_cheapcovers_k32_sharings_looked_at_holds : PySem.Challenge.rw_cheapcovers_k32_sharings_looked_at.Holds := by
 w_on; o_law; k_head; (case hw => w_witness2)
 k_fill
 refine K32.zte (l := PySem.Challenge.rw_cheapcovers_k32_sharings_looked_at) rfl rfl (fun w h Y => W.kIn_of Y) ?F K32.zma
 case F =>
  intro w mg fa h KX G hmg
  refine' K32.zq1 KX G hmg (L3.Fd.mk ?e__law_cell (L2.zaO ?l__law_cell ?c__law_cell ?k__law_cell)) (L3.Fd.mk ?e__law_box (L2.zaO ?l__law_box ?c__law_box ?k__law_box)) (L3.Fd.mk ?e__law_take (L2.zaO ?l__law_take ?c__law_take ?k__law_take)) (L3.Fd.mk ?e__law_things (L2.zaO ?l__law_things ?c__law_things ?k__law_things)) (L3.Fd.mk ?e__law_full (L2.zaO ?l__law_full ?c__law_full ?k__law_full)) (L3.Fd.mk ?e__law_has (L2.zaO ?l__law_has ?c__law_has ?k__law_has)) (L3.Fd.mk ?e__law_cover (L2.zaO ?l__law_cover ?c__law_cover ?k__law_cover)) (L3.Fd.mk ?e__law_frac (L2.zaO ?l__law_frac ?c__law_frac ?k__law_frac)) (L3.Fd.mk ?e__law_sharing (L2.zaO ?l__law_sharing ?c__law_sharing ?k__law_sharing)) (L3.Fd.mk ?e__law_odd (L2.zaO ?l__law_odd ?c__law_odd ?k__law_odd)) (L3.Fd.mk ?e__law_spoilt (L2.zaO ?l__law_spoilt ?c__law_spoilt ?k__law_spoilt)) (L3.Fd.mk ?e__law_whole (L2.zaO ?l__law_whole ?c__law_whole ?k__law_whole)) (L3.Fd.mk ?e__law_is_frac (L2.zaO ?l__law_is_frac ?c__law_is_frac ?k__law_is_frac)) (L3.Fd.mk ?e__law_sum (L2.zaO ?l__law_sum ?c__law_sum ?k__law_sum)) (L3.Fd.mk ?e__law_is_sharing (L2.zaO ?l__law_is_sharing ?c__law_is_sharing ?k__law_is_sharing)) (L3.Fd.mk ?e_is_whole (L2.zaO ?l_is_whole ?c_is_whole ?k_is_whole)) (L3.Fd.mk ?e_is_pair (L2.zaO ?l_is_pair ?c_is_pair ?k_is_pair)) (L3.Fd.mk ?e_greatest_divisor (L2.zaO ?l_greatest_divisor ?c_greatest_divisor ?k_greatest_divisor)) (L3.Fd.mk ?e_is_fraction (L2.zaO ?l_is_fraction ?c_is_fraction ?k_is_fraction)) (L3.Fd.mk ?e_is_share (L2.zaO ?l_is_share ?c_is_share ?k_is_share)) (L3.Fd.mk ?e_are_shares (L2.zaO ?l_are_shares ?c_are_shares ?k_are_shares)) (L3.Fd.mk ?e_reduced (L2.zaO ?l_reduced ?c_reduced ?k_reduced)) (L3.Fd.mk ?e_together (L2.zaO ?l_together ?c_together ?k_together)) (L3.Fd.mk ?e_is_less (L2.zaO ?l_is_less ?c_is_less ?k_is_less)) (L3.Fd.mk ?e_is_shared (L2.zaO ?l_is_shared ?c_is_shared ?k_is_shared)) (L3.Fd.mk ?e_is_sharing (L2.zaO ?l_is_sharing ?c_is_sharing ?k_is_sharing)) (L3.Fd.mk ?e__law_kind (L2.zaO ?l__law_kind ?c__law_kind ?k__law_kind)) (L3.Fd.mk ?e_shared_price (L2.zaO ?l_shared_price ?c_shared_price ?k_shared_price)) (L3.Fd.mk ?e__law_asked (L2.zaO ?l__law_asked ?c__law_asked ?k__law_asked)) (L3.Fd.mk ?e__law_right (L2.zaO ?l__law_right ?c__law_right ?k__law_right)) (L3.Fd.mk ?e__law_holed (L2.zaO ?l__law_holed ?c__law_holed ?k__law_holed)) ?e_law ?l_law ?c_law ?k_law ?e_CoverError ?e_NoStock ?e_NoOffer ?e_NoThing ?e_NoCover ?e_NoPaper ?e_NoNumber ?e_NotFull ?e_NotInRow ?e_NoText ?e_NoRow ?e_TooMany ?z_ValueError ?z_abs ?z_all ?z_bool ?z_int ?z_isinstance ?z_len ?z_list ?z_max ?z_min ?z_range ?z_set ?z_sorted ?z_str ?z_sum ?z_tuple ?z_zip ?x_tab
  (case e__law_cell => k_is)
  (case l__law_cell => k_is)
  (case c__law_cell => k_is)
  (case k__law_cell => k_is)
  (case e__law_box => k_is)
  (case l__law_box => k_is)
  (case c__law_box => k_is)
  (case k__law_box => k_is)
  (case e__law_take => k_is)
  (case l__law_take => k_is)
  (case c__law_take => k_is)
  (case k__law_take => k_is)
  (case e__law_things => k_is)
  (case l__law_things => k_is)
  (case c__law_things => k_is)
  (case k__law_things => k_is)
  (case e__law_full => k_is)
  (case l__law_full => k_is)
  (case c__law_full => k_is)
  (case k__law_full => k_is)
  (case e__law_has => k_is)
  (case l__law_has => k_is)
  (case c__law_has => k_is)
  (case k__law_has => k_is)
  (case e__law_cover => k_is)
  (case l__law_cover => k_is)
  (case c__law_cover => k_is)
  (case k__law_cover => k_is)
  (case e__law_frac => k_is)
  (case l__law_frac => k_is)
  (case c__law_frac => k_is)
  (case k__law_frac => k_is)
  (case e__law_sharing => k_is)
  (case l__law_sharing => k_is)
  (case c__law_sharing => k_is)
  (case k__law_sharing => k_is)
  (case e__law_odd => k_is)
  (case l__law_odd => k_is)
  (case c__law_odd => k_is)
  (case k__law_odd => k_is)
  (case e__law_spoilt => k_is)
  (case l__law_spoilt => k_is)
  (case c__law_spoilt => k_is)
  (case k__law_spoilt => k_is)
  (case e__law_whole => k_is)
  (case l__law_whole => k_is)
  (case c__law_whole => k_is)
  (case k__law_whole => k_is)
  (case e__law_is_frac => k_is)
  (case l__law_is_frac => k_is)
  (case c__law_is_frac => k_is)
  (case k__law_is_frac => k_is)
  (case e__law_sum => k_is)
  (case l__law_sum => k_is)
  (case c__law_sum => k_is)
  (case k__law_sum => k_is)
  (case e__law_is_sharing => k_is)
  (case l__law_is_sharing => k_is)
  (case c__law_is_sharing => k_is)
  (case k__law_is_sharing => k_is)
  (case e_is_whole => k_is)
  (case l_is_whole => k_is)
  (case c_is_whole => k_is)
  (case k_is_whole => k_is)
  (case e_is_pair => k_is)
  (case l_is_pair => k_is)
  (case c_is_pair => k_is)
  (case k_is_pair => k_is)
  (case e_greatest_divisor => k_is)
  (case l_greatest_divisor => k_is)
  (case c_greatest_divisor => k_is)
  (case k_greatest_divisor => k_is)
  (case e_is_fraction => k_is)
  (case l_is_fraction => k_is)
  (case c_is_fraction => k_is)
  (case k_is_fraction => k_is)
  (case e_is_share => k_is)
  (case l_is_share => k_is)
  (case c_is_share => k_is)
  (case k_is_share => k_is)
  (case e_are_shares => k_is)
  (case l_are_shares => k_is)
  (case c_are_shares => k_is)
  (case k_are_shares => k_is)
  (case e_reduced => k_is)
  (case l_reduced => k_is)
  (case c_reduced => k_is)
  (case k_reduced => k_is)
  (case e_together => k_is)
  (case l_together => k_is)
  (case c_together => k_is)
  (case k_together => k_is)
  (case e_is_less => k_is)
  (case l_is_less => k_is)
  (case c_is_less => k_is)
  (case k_is_less => k_is)
  (case e_is_shared => k_is)
  (case l_is_shared => k_is)
  (case c_is_shared => k_is)
  (case k_is_shared => k_is)
  (case e_is_sharing => k_is)
  (case l_is_sharing => k_is)
  (case c_is_sharing => k_is)
  (case k_is_sharing => k_is)
  (case e__law_kind => k_is)
  (case l__law_kind => k_is)
  (case c__law_kind => k_is)
  (case k__law_kind => k_is)
  (case e_shared_price => k_is)
  (case l_shared_price => k_is)
  (case c_shared_price => k_is)
  (case k_shared_price => k_is)
  (case e__law_asked => k_is)
  (case l__law_asked => k_is)
  (case c__law_asked => k_is)
  (case k__law_asked => k_is)
  (case e__law_right => k_is)
  (case l__law_right => k_is)
  (case c__law_right => k_is)
  (case k__law_right => k_is)
  (case e__law_holed => k_is)
  (case l__law_holed => k_is)
  (case c__law_holed => k_is)
  (case k__law_holed => k_is)
  (case e_law => k_is)
  (case l_law => k_is)
  (case c_law => k_is)
  (case k_law => k_is)
  (case e_CoverError => k_is)
  (case e_NoStock => k_is)
  (case e_NoOffer => k_is)
  (case e_NoThing => k_is)
  (case e_NoCover => k_is)
  (case e_NoPaper => k_is)
  (case e_NoNumber => k_is)
  (case e_NotFull => k_is)
  (case e_NotInRow => k_is)
  (case e_NoText => k_is)
  (case e_NoRow => k_is)
  (case e_TooMany => k_is)
  (case z_ValueError => k_is)
  (case z_abs => k_is)
  (case z_all => k_is)
  (case z_bool => k_is)
  (case z_int => k_is)
  (case z_isinstance => k_is)
  (case z_len => k_is)
  (case z_list => k_is)
  (case z_max => k_is)
  (case z_min => k_is)
  (case z_range => k_is)
  (case z_set => k_is)
  (case z_sorted => k_is)
  (case z_str => k_is)
  (case z_sum => k_is)
  (case z_tuple => k_is)
  (case z_zip => k_is)
  (case x_tab => kernel_rfl)
