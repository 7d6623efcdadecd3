import PyProof.Rows.All
import Wide.All
import OpenK.AllK
import Wide.FinOn
import PyProof.EqAt
import PyProof.EqKinds
import PyProof.TupleCall
import PyProof.StationsW
import PyProof.ExcArgs
import PyProof.Seq
import PyProof.TupleIter
import PyProof.RangeIter
import PyProof.WalkInts
import PyProof.SumWalkG
import PyProof.ListRange
import PyProof.Rows.Range3
import OpenK.KDescr
import PyProof.ExcAttrAll.ValueError
import PyProof.Draws
import PyProof.EnumFor
import PyProof.EnumMake
import PyProof.LayNew
import PyProof.Rows.EnumRows
import PyProof.MinMaxWalk
import Lean
import PySem.Challenge.RW_cheapcovers_k66_whole_prices_stay
set_option Elab.async false
set_option linter.all false
set_option maxRecDepth 100000
set_option maxHeartbeats 8000000
set_option compiler.extract_closed false
set_option bootstrap.genMatcherCode false
set_option genSizeOfSpec false
section
open PySem PySem.Spec PyProof PyProof.Rows
abbrev qaa := @List.getElem?_append_right
abbrev qab := @Array.getElem?_eq_some_iff
abbrev qac := @List.getElem?_eq_some_iff
abbrev qad := @List.getElem?_append_left
abbrev qae := @List.drop_eq_getElem_cons
abbrev qaf := @List.getElem?_eq_getElem
abbrev qag := @Heap.get?_push_of_some
abbrev qah := @Heap.get?_update_other
abbrev qai := @List.getElem?_set_self
abbrev qak := @List.mem_append_right
abbrev qal := @Heap.get?_update_self
abbrev qan := @List.mem_cons_of_mem
abbrev qao := @List.getElem?_set_ne
abbrev qap := @Around.under_plainId
abbrev qaq := @List.pairwise_append
abbrev qar := @Heap.get?_push_size
abbrev qas := @Array.length_toList
abbrev qat := @List.filterMap_cons
abbrev qau := @List.mem_cons_self
abbrev qav := @List.length_append
abbrev qaw := @Nat.lt_of_lt_of_le
abbrev qax := @Bool.false_eq_true
abbrev qay := @List.pairwise_cons
abbrev qaA := @List.size_toArray
abbrev qaB := @Int.toNat_natCast
abbrev qaC := @wpAny_newObj_type
abbrev qaD := @decide_eq_true_eq
abbrev qaE := @List.length_cons
abbrev qaF := @List.not_mem_nil
abbrev qaG := @Bool.and_eq_true
abbrev qaH := @List.length_map
abbrev qaI := @List.length_set
abbrev qaJ := @List.length_nil
abbrev qaK := @List.mem_append
abbrev qaL := @Heap.size_push
abbrev qaM := @List.map_cons
abbrev qaN := @Nat.lt_irrefl
abbrev qaO := @wpAny_holding
abbrev qaP := @List.mem_cons
abbrev qaQ := @Heap.lt_size
abbrev qaR := @Nat.ne_of_lt
abbrev qaS := @Nat.le_trans
abbrev qaT := @List.map_map
abbrev qaU := @List.mem_map
abbrev qaV := @Nat.le_refl
abbrev qaW := @wpAny_bind
abbrev qaX := @wpAny_pure
abbrev qaZ := @wpAny_mono
abbrev qa0 := @False.elim
abbrev qa4 := @if_pos
abbrev qa5 := @if_neg
end
noncomputable def PySem.W.Fast.tw6045070955931438385:Nat:=0
noncomputable def PySem.W.Fast.tw13766814195573972902:Nat:=0
noncomputable def PySem.W.Fast.tw12269233302074569103:Nat:=0
noncomputable def PySem.W.Fast.tw12310333703382793302:Nat:=0
noncomputable def PySem.W.Fast.tw1370734319517846059:Nat:=0
noncomputable def PySem.W.Fast.tw10530439162262135399:Nat:=0
noncomputable def PySem.W.Fast.tw1406489361605554327:Nat:=0
noncomputable def PySem.W.Fast.tw7565950425818726485:Nat:=0
noncomputable def PySem.W.Fast.tw6629511885626894049:Nat:=0
noncomputable def PySem.W.Fast.tw6447668910726362273:Nat:=0
noncomputable def PySem.W.Fast.tw14541522233359694707:Nat:=0
noncomputable def PySem.W.Fast.tw5670130010782816936:Nat:=0
noncomputable def PySem.W.Fast.tw13562476578730542232:Nat:=0
noncomputable def PySem.W.Fast.tw9379843702801585089:Nat:=0
noncomputable def PySem.W.Fast.tw6300460754863896596:Nat:=0
noncomputable def PySem.W.Fast.tw5052932783538032023:Nat:=0
namespace L3
open PySem
def zhN (h:Heap) (e:Addr) (cls head:Value):Prop:= ∃ ob vs,h.get? e=some ob/\ob.cls=cls/\ob.dict=none/\ob.data= .fields vs/\vs[2]? = some .none/\vs[1]? = some head
def zt5 (h B:Heap) (e:Addr) (head fl:Value):Prop:= ∃ T ot ts,head= .ref T/\B.get? T=none/\T≠e/\h.get? T=some ot/\ot.data= .fields ts/\ts[3]? = some fl
structure Fly (B:Heap) (l:List Env) (e:Addr) (cls fl:Value) (h:Heap):Prop where
 stays:B.StaysIn h
 new:B.get? e=none
 frames:h.FunFrames B l
 exc: ∃ head,zhN h e cls head/\zt5 h B e head fl
theorem zmG (o:Obj) (f):(o.mapFields f).dict=o.dict:=by
 obtain ⟨c,d,t,z⟩:=o
 cases t<;>rfl
section
variable {M:Model} {A:Around} {E:Value->Shared->Prop} {s:Shared} {B:Heap} {env:Env} {outer l:List Env} {L e:Addr} {cls head fl:Value}
theorem zmT {hd0:Value} {hadNext:Bool} {Q:Unit->Shared->Prop} (hfr:A.frames=some (env::outer)) (hl:s.heap.FunFrames B (env::outer)) (hf:env.frame=some L) (hx:zhN s.heap e cls head)
  (hkb:B.StaysIn s.heap) (hen:B.get? e=none) (q: ∀ h',Fly B (env::outer) e cls (rawInt L) h'->s.heap.UpToSlots h'->Q () {s with heap:=h'}):
  wpAny M A (do let a<-frameOf env;let pl<-entryPlaceOf L hadNext;let b<-EntryCells.newEntry hd0 a .none (rawInt L) .none pl;setField (.ref e) 1 b) Q E s:=by
 obtain ⟨ob,vs,h1,h2,h3,h4,h5,h6⟩:=hx
 have hsz:1<vs.size:=(qab.mp h6).1
 have nfr:e∉(env::outer).filterMap (·.frame):=fun z=>by
  obtain ⟨_,o,ho,hn⟩:=hl.mem z
  rw [h1] at ho
  cases ho
  exact hn vs h4
 refine qaW (wpAny_frameOf_fun hfr hl hf fun g sg=> ?_)
 refine qaW (wpAny_entryPlaceOf fun pl hpl=> ?_)
 unfold EntryCells.newEntry newFields
 refine qaW (qaC ?_ (hpl.sizeOk5 _ _ _ _ _))
 have e1:g.get? e=some ob:=(sg.2.1 e nfr).trans h1
 have kb:B.StaysIn g:=fun b o z=>(sg.2.1 b fun w=>by rw [(hl.mem w).1] at z;cases z).trans (hkb b o z)
 generalize hob:({cls:= .type "traceback",dict:=none,data:= .fields ([hd0,.ref L,.none,rawInt L,.none]++(if pl.isEmpty then List.replicate 6 Value.none else pl)).toArray}:Obj)=tb
 have e2:(g.push tb).get? e=some ob:=qag _ e1
 have ne:g.objs.size≠e:=Nat.ne_of_gt (qaQ e1)
 have d3:=Obj.data_mapFields h4 (·.setIfInBounds 1 (Value.ref g.objs.size))
 have e3:=qal (Obj.mapFields (·.setIfInBounds 1 (Value.ref g.objs.size))) e2 (Obj.isFreed_of_fields d3)
 have ft:tb.isFreed=false:=by rw [<- hob];rfl
 have t3:((g.push tb).update e (Obj.mapFields (·.setIfInBounds 1 (Value.ref g.objs.size)))).get? g.objs.size=some tb:=(qah _ _ (Ne.symm ne)).trans (qar g ft)
 have stay: ∀ b o,b≠e->g.get? b=some o->((g.push tb).update e (Obj.mapFields (·.setIfInBounds 1 (Value.ref g.objs.size)))).get? b=some o:=fun b o hb z=>by
  rw [qah _ _ (Ne.symm hb)]
  exact qag _ z
 have nrec: ∀ b o,s.heap.get? b=some o->(∀ ws,o.data≠ .fields ws)->b≠e:=fun b o z hn w=>by
  rw [w,h1] at z
  cases z
  exact hn vs h4
 have ht: ∃ ts,tb.data= .fields ts/\ts[3]? = some (rawInt L):=⟨_,by rw [<- hob],by rcases hpl with rfl | ⟨_,_,_,_,_,_,_,rfl⟩<;>simp⟩
 obtain ⟨ts,ht1,ht2⟩:=ht
 refine wpAny_setField e2 h4 hsz (q _ ⟨fun b o z=>stay b o (fun w=>by rw [w,hen] at z;cases z) (kb b o z),hen,hl.of_keeps fun b o z hn=> ?_,.ref g.objs.size,⟨_,_,e3,(Obj.cls_mapFields _ _).trans h2,(zmG _ _).trans h3,d3,?_,?_⟩,g.objs.size,tb,ts,rfl,kb.fresh,ne,t3,ht1,ht2⟩ fun b o z hn=> ?_)
 ·obtain ⟨sl,hs⟩:=sg.2.2 b o z
  exact ⟨_,stay b _ (nrec b o z hn) hs,rfl⟩
 ·rw [Array.getElem?_setIfInBounds_ne (by decide)]
  exact h5
 ·simp [hsz]
 ·obtain ⟨sl,hs⟩:=sg.2.2 b o z
  exact ⟨sl,stay b _ (nrec b o z hn) hs⟩
theorem zjv {Q:Unit->Shared->Prop} (hfr:A.frames=some (env::outer)) (hl:s.heap.FunFrames B (env::outer)) (hf:env.frame=some L) (hx:zhN s.heap e cls .none)
  (hkb:B.StaysIn s.heap) (hen:B.get? e=none) (q: ∀ h',Fly B (env::outer) e cls (rawInt L) h'->s.heap.UpToSlots h'->Q () {s with heap:=h'}):wpAny M A (noteFrame (.ref e) env) Q E s:=by
 obtain ⟨ob,vs,h1,h2,h3,h4,h5,h6⟩:=id hx
 unfold noteFrame
 simp only [hf]
 refine qaW (wpAny_field h1 h4 h6 ?_)
 rw [qa5 (by decide)]
 exact zmT hfr hl hf hx hkb hen q
theorem zfB {Q:Unit->Shared->Prop} (y:Fly B l e cls fl s.heap) (q: ∀ h',Fly B l e cls .none h'->(∀ b o,s.heap.get? b=some o->(∀ ws,o.data≠ .fields ws)->h'.get? b=some o)->Q () {s with heap:=h'}):
  wpAny M A (setFlight (.ref e) none) Q E s:=by
 obtain ⟨hkb,hen,hl,hd,⟨ob,vs,h1,h2,h3,h4,h5,h6⟩,T,ot,ts,rfl,t1,t2,t3,t4,t5⟩:=y
 have hsz:=(qab.mp t5).1
 have oth: ∀ b,b≠T->(s.heap.update T (Obj.mapFields (·.setIfInBounds 3 ((none:Option Addr).elim Value.none fun f=>rawInt f)))).get? b=s.heap.get? b:=fun b hb=>qah _ _ (Ne.symm hb)
 have nrec: ∀ b o,s.heap.get? b=some o->(∀ ws,o.data≠ .fields ws)->b≠T:=fun b o z hn w=>by
  rw [w,t3] at z
  cases z
  exact hn ts t4
 unfold setFlight
 refine qaW (wpAny_field h1 h4 h6 ?_)
 rw [qa4 (show (Value.ref T != Value.none)=true by simp)]
 refine wpAny_setField t3 t4 hsz (q _ ⟨fun b o z=>(oth b fun w=>by rw [w,t1] at z;cases z).trans (hkb b o z),hen,hl.of_keeps fun b o z hn=>⟨o,(oth b (nrec b o z hn)).trans z,rfl⟩,
   .ref T,⟨ob,vs,(oth e (Ne.symm t2)).trans h1,h2,h3,h4,h5,h6⟩,T,_,_,rfl,t1,t2,qal _ t3 (Obj.isFreed_of_fields (Obj.data_mapFields t4 _)),Obj.data_mapFields t4 _,by simp [hsz]⟩ fun b o z hn=>(oth b (nrec b o z hn)).trans z)
theorem Fly.tail {h:Heap} (y:Fly B (env::outer) e cls fl h):Fly B outer e cls fl h:=⟨y.stays,y.new,y.frames.2.2,y.exc⟩
theorem zh8 {Q:Unit->Shared->Prop} (hfr:A.frames=some (env::outer)) (hl:s.heap.FunFrames B (env::outer)) (hf:env.frame=some L) (hx:zhN s.heap e cls .none)
  (hkb:B.StaysIn s.heap) (hen:B.get? e=none) (q: ∀ h',Fly B outer e cls .none h'->s.heap.UpToSlots h'->Q () {s with heap:=h'}):wpAny M A (leaving env (.ref e)) Q E s:=by
 unfold leaving
 refine qaW (zjv hfr hl hf hx hkb hen fun h1 y1 u1=> ?_)
 refine zfB (s:={s with heap:=h1}) y1 fun h2 y2 k2=>q h2 y2.tail (u1.trans fun b o z hn=>⟨o.slots,k2 b o z hn⟩)
theorem zmw {h h':Heap} {args:List Value} (x:Heap.MadeExcOf h h' e cls args):zhN h' e cls .none:=by
 obtain ⟨t,h1,_,_⟩:=x.there
 exact ⟨_,_,h1,rfl,rfl,rfl,rfl,rfl⟩
end
theorem zgb:entryFor table "proto.unchain"=some Builtin.«proto.unchain» := entryFor_of_tree (by kernel_rfl)
section
variable {prog:Program} {w:World} {A:Around} {E:Value->Shared->Prop} {s:Shared}
theorem zcG {α:Type} {a h:Addr} {o:Obj} {us:Array Value} {cls head:Value} {Q:α->Shared->Prop} (hh:A.handled=some (.ref h)) (hx:zhN s.heap h cls head) (ho:s.heap.get? a=some o) (hd:o.data= .fields us) (hz:2<us.size) (hne:h≠a)
  (q:E (.ref a) {s with heap:=s.heap.update a (Obj.mapFields (·.setIfInBounds 2 (.ref h)))}):wpAny (model prog w) A (raiseNew (.ref a):Sem α) Q E s:=by
 obtain ⟨ob,vs,h1,h2,h3,h4,h5,h6⟩:=hx
 unfold raiseNew
 refine qaW (wpAny_handled ?_)
 rw [hh]
 dsimp only
 rw [qa4 (show (Value.ref h != Value.ref a)=true by simp [hne])]
 refine qaW (qaO (wpAny_runValue (codeAny_builtin zgb ?_)))
 unfold Builtin.«proto.unchain»
 refine qaW (wpAny_field h1 h4 h5 ?_)
 rw [qa4 (show (Value.none==Value.none)=true from rfl)]
 refine qaW (qaX (qaX ?_))
 refine qaW ?_
 obtain ⟨c,d,dt,sl⟩:=o
 dsimp only at hd
 subst hd
 unfold updateField
 refine qaW (wpAny_load ho ?_)
 dsimp only
 rw [qa4 hz]
 exact wpAny_update ho (wpAny_throw q)
def zjX (A:Around) (h:Heap):Prop:=A.handled=none\/ ∃ a cls head,A.handled=some (.ref a)/\zhN h a cls head
theorem zjd {it l:Addr} {i:Nat} {items:Array Value} {Q:Option Value->Shared->Prop} (hh:zjX A s.heap) (hit:s.heap.IsListIter it l i) (hl:s.heap.IsList l items) (hx:items[i]? = none)
  (k: ∀ h',Heap.ExtBut it s.heap h'->Q none {s with heap:=h'}):wpAny (model prog w) A (pyNext (.ref it)) Q E s:=by
 rcases hh with hh | ⟨ha,cls,head,hh,hX⟩
 ·exact wpAny_pyNext_list_end hh hit hl hx k
 obtain ⟨o,h1,h2,h3⟩:=id hit
 obtain ⟨ol,l1,_,nl,l2⟩:=hl
 unfold pyNext
 refine qaW (wpAny_attempt (wpAny_callSpecial?_slot (name:=Str.ofString "__next__") hit.typeIs slot_listiter_next (wpAny_call_entry slot_listiter_next hit.typeIs entry_listiter_next ?_ (args_listiter_next _))))
 show wpAny _ _ (field (.ref it) 0>>=_) _ _ s
 refine qaW (wpAny_field h1 h3 (x:= .ref l) rfl ?_)
 show wpAny _ _ (if (Value.ref l==Value.none)=true then _ else _) _ _ s
 rw [qa5 (show ¬(Value.ref l==Value.none)=true from nofun)]
 show wpAny _ _ (field (.ref it) 1>>=_) _ _ s
 refine qaW (wpAny_field h1 h3 (x:= .int i 0) rfl ?_)
 show wpAny _ _ (seqItems? (.ref l)>>=_) _ _ s
 refine qaW (wpAny_seqItems l1 l2 ?_)
 simp only [qaB,hx]
 refine qaW (wpAny_rule (qaW (wpAny_setField h1 h3 (by simp) ?_)))
 have nit:ha≠it:=fun z=>by
  subst z
  obtain ⟨ob,vs,x1,_,_,x4,x5,x6⟩:=hX
  rw [h1] at x1
  cases x1
  rw [h3] at x4
  cases x4
  simp at x5
 have hX1:zhN (s.heap.update it (Obj.mapFields (·.setIfInBounds 0 Value.none))) ha cls head:=by
  obtain ⟨ob,vs,x1,x2⟩:=hX
  exact ⟨ob,vs,(qah _ _ (Ne.symm nit)).trans x1,x2⟩
 show wpAny _ _ (newExc (.type "StopIteration") []>>=_) _ _ _
 refine qaW ?_
 simp only [newExc,newTuple]
 refine qaW (qaC ?_ (by size_fits))
 refine qaW (m:=firstArgMember _ _) (wpAny_of_eq (a:=Value.none) (by first | rfl | (simp only [firstArgMember];rfl)) ?_)
 refine qaC ?_ (by size_fits)
 obtain ⟨ob,vs,x1,x2⟩:=hX1
 have y1:=qag {cls:= .type "tuple",dict:=none,data:= .seq [].toArray} x1
 refine zcG (h:=ha) (cls:=cls) (head:=head) hh ⟨ob,vs,qag _ y1,x2⟩ (qar _ rfl) rfl (by simp;omega) (qaR (qaQ y1)) ?_
 refine qaW (wpAny_isInstance (T:="StopIteration") (b:=true) ⟨_,qal _ (qar _ rfl) rfl,rfl⟩ isSubtype_stop ?_)
 refine qaX (k _ fun b o hb z=> ?_)
 have z1:(s.heap.update it (Obj.mapFields (·.setIfInBounds 0 Value.none))).get? b=some o:=(qah _ _ (Ne.symm hb)).trans z
 have z2:=qag {cls:= .type "tuple",dict:=none,data:= .seq [].toArray} z1
 rw [qah _ _ (Nat.ne_of_gt (qaQ z2))]
 exact qag _ z2
theorem zkL {it l:Addr} {i:Nat} {items:Array Value} {Q:Option Value->Shared->Prop} (hh:zjX A s.heap) (hit:s.heap.IsTupleIter it l i) (hl:s.heap.IsTuple l items) (hx:items[i]? = none)
  (k: ∀ h',Heap.ExtBut it s.heap h'->Q none {s with heap:=h'}):wpAny (model prog w) A (pyNext (.ref it)) Q E s:=by
 rcases hh with hh | ⟨ha,cls,head,hh,hX⟩
 ·exact wpAny_pyNext_tuple_end hh hit hl hx k
 obtain ⟨o,h1,h2,h3⟩:=id hit
 obtain ⟨ol,l1,_,nl,l2⟩:=hl
 unfold pyNext
 refine qaW (wpAny_attempt (wpAny_callSpecial?_slot (name:=Str.ofString "__next__") hit.typeIs F.slot_tuple_iterator_next (wpAny_call_entry F.slot_tuple_iterator_next hit.typeIs F.entry_tuple_iterator_next ?_ (F.args_tuple_iterator_next_1 _))))
 show wpAny _ _ (field (.ref it) 0>>=_) _ _ s
 refine qaW (wpAny_field h1 h3 (x:= .ref l) rfl ?_)
 show wpAny _ _ (if (Value.ref l==Value.none)=true then _ else _) _ _ s
 rw [qa5 (show ¬(Value.ref l==Value.none)=true from nofun)]
 show wpAny _ _ (field (.ref it) 1>>=_) _ _ s
 refine qaW (wpAny_field h1 h3 (x:= .int i 0) rfl ?_)
 show wpAny _ _ (seqItems? (.ref l)>>=_) _ _ s
 refine qaW (wpAny_seqItems l1 l2 ?_)
 simp only [qaB,hx]
 refine qaW (wpAny_rule (qaW (wpAny_setField h1 h3 (by simp) ?_)))
 have nit:ha≠it:=fun z=>by
  subst z
  obtain ⟨ob,vs,x1,_,_,x4,x5,x6⟩:=hX
  rw [h1] at x1
  cases x1
  rw [h3] at x4
  cases x4
  simp at x5
 have hX1:zhN (s.heap.update it (Obj.mapFields (·.setIfInBounds 0 Value.none))) ha cls head:=by
  obtain ⟨ob,vs,x1,x2⟩:=hX
  exact ⟨ob,vs,(qah _ _ (Ne.symm nit)).trans x1,x2⟩
 show wpAny _ _ (newExc (.type "StopIteration") []>>=_) _ _ _
 refine qaW ?_
 simp only [newExc,newTuple]
 refine qaW (qaC ?_ (by size_fits))
 refine qaW (m:=firstArgMember _ _) (wpAny_of_eq (a:=Value.none) (by first | rfl | (simp only [firstArgMember];rfl)) ?_)
 refine qaC ?_ (by size_fits)
 obtain ⟨ob,vs,x1,x2⟩:=hX1
 have y1:=qag {cls:= .type "tuple",dict:=none,data:= .seq [].toArray} x1
 refine zcG (h:=ha) (cls:=cls) (head:=head) hh ⟨ob,vs,qag _ y1,x2⟩ (qar _ rfl) rfl (by simp;omega) (qaR (qaQ y1)) ?_
 refine qaW (wpAny_isInstance (T:="StopIteration") (b:=true) ⟨_,qal _ (qar _ rfl) rfl,rfl⟩ isSubtype_stop ?_)
 refine qaX (k _ fun b o hb z=> ?_)
 have z1:(s.heap.update it (Obj.mapFields (·.setIfInBounds 0 Value.none))).get? b=some o:=(qah _ _ (Ne.symm hb)).trans z
 have z2:=qag {cls:= .type "tuple",dict:=none,data:= .seq [].toArray} z1
 rw [qah _ _ (Nat.ne_of_gt (qaQ z2))]
 exact qag _ z2
theorem zhC {it:Addr} {x left step:Int} {Q:Option Value->Shared->Prop} (hh:zjX A s.heap) (hit:IsRangeIter s.heap it x left step) (hleft:left<=0)
  (k: ∀ h',Heap.ExtBut it s.heap h'->Q none {s with heap:=h'}):wpAny (model prog w) A (pyNext (.ref it)) Q E s:=by
 rcases hh with hh | ⟨ha,cls,head,hh,hX⟩
 ·exact wpAny_pyNext_range_end hh hit hleft k
 have hT:s.TypeIs (.ref it) "range_iterator":=⟨_,hit,rfl⟩
 unfold pyNext
 refine qaW (wpAny_attempt (wpAny_callSpecial?_slot (name:=Str.ofString "__next__") hT F.slot_range_iterator_next (wpAny_call_entry F.slot_range_iterator_next hT F.entry_range_iterator_next ?_ (F.args_range_iterator_next_1 _))))
 show wpAny _ _ (field (.ref it) 0>>=_) _ _ s
 refine qaW (wpAny_field hit rfl (x:=rawInt x) rfl ?_)
 show wpAny _ _ (field (.ref it) 1>>=_) _ _ s
 refine qaW (wpAny_field hit rfl (x:=rawInt left) rfl ?_)
 show wpAny _ _ (field (.ref it) 2>>=_) _ _ s
 refine qaW (wpAny_field hit rfl (x:=rawInt step) rfl ?_)
 show wpAny _ _ (if left<=0 then _ else _) _ _ s
 rw [qa4 hleft]
 refine qaW (wpAny_rule (qaW ?_))
 show wpAny _ _ (newExc (.type "StopIteration") []>>=_) _ _ _
 refine qaW ?_
 simp only [newExc,newTuple]
 refine qaW (qaC ?_ (by size_fits))
 refine qaW (m:=firstArgMember _ _) (wpAny_of_eq (a:=Value.none) (by first | rfl | (simp only [firstArgMember];rfl)) ?_)
 refine qaC ?_ (by size_fits)
 obtain ⟨ob,vs,x1,x2⟩:=hX
 have y1:=qag {cls:= .type "tuple",dict:=none,data:= .seq [].toArray} x1
 refine zcG (h:=ha) (cls:=cls) (head:=head) hh ⟨ob,vs,qag _ y1,x2⟩ (qar _ rfl) rfl (by simp;omega) (qaR (qaQ y1)) ?_
 refine qaW (wpAny_isInstance (T:="StopIteration") (b:=true) ⟨_,qal _ (qar _ rfl) rfl,rfl⟩ isSubtype_stop ?_)
 refine qaX (k _ fun b o hb z=> ?_)
 have z2:=qag {cls:= .type "tuple",dict:=none,data:= .seq [].toArray} z
 rw [qah _ _ (Nat.ne_of_gt (qaQ z2))]
 exact qag _ z2
theorem zhN.keep {h h':Heap} {a:Addr} {cls head:Value} (x:zhN h a cls head) (k: ∀ o,h.get? a=some o->h'.get? a=some o):zhN h' a cls head:=by
 obtain ⟨ob,vs,x1,x2⟩:=x
 exact ⟨ob,vs,k _ x1,x2⟩
theorem zji {ha:Addr} {cls head:Value} (hh:A.handled=some (.ref ha)) (I ax:Addr) (hne:ax≠I) (hn2:ha≠I) (items:Array Value):
  Walks prog w A I [I,ax,ha] [I] items.size (fun i v=>items[i]? = some v) (fun i h=>h.IsListIter I ax i/\h.IsList ax items/\zhN h ha cls head) where
 sub:=fun b hb=>by simp at hb;simp [hb]
 frame:=fun _ _ _ st hk=>⟨st.1.at fun o e=>hk I (by simp) o e,st.2.1.at fun o e=>hk ax (by simp) o e,st.2.2.keep fun o e=>hk ha (by simp) o e⟩
 item:=fun i s Q E hi st hQ=>by
  refine wpAny_pyNext_list_item st.1 st.2.1 (x:=items[i]) (by simp [hi]) fun h' hit' hs'=> ?_
  exact hQ _ h' s.toks (by simp [hi]) ⟨hit',st.2.1.extBut hs'.extBut hne,st.2.2.keep fun o e=>hs'.extBut ha o hn2 e⟩ fun b o hb e=>hs'.extBut b o (fun h=>hb (by simp [h])) e
 done:=fun s Q E st hQ=>zjd (.inr ⟨ha,cls,head,hh,st.2.2⟩) st.1 st.2.1 (by simp) fun h' he'=>hQ h' s.toks fun b o hb e=>he' b o (fun h=>hb (by simp [h])) e
 self:=fun _ _ _ _ st hQ=>wpAny_pyIter_listiter st.1 hQ
end
end L3
namespace L2
open PySem PySem.Spec PyProof.Rows
noncomputable abbrev Key:=Sum Int Str
noncomputable def zqx:Key->Value->Bool
 | .inl k,v=>Value.isInt k v
 | .inr x,v=>Value.isStrOf x v
noncomputable def zuw (w:World):Key->Int
 | .inl k=>hashInt k
 | .inr x=>hashStr w x
theorem za4: ∀ {k:Key} {v:Value},zqx k v=true->(∃ i t,k=Sum.inl i/\v=Value.int i t)\/(∃ x t,k=Sum.inr x/\v=Value.str x t)
 | .inl i,v,h=>by
  obtain ⟨t,e⟩:=Value.isInt_shape (k:=i) (v:=v) h
  exact .inl ⟨i,t,rfl,e⟩
 | .inr x,v,h=>by
  obtain ⟨t,e⟩:=Value.isStrOf_shape (x:=x) (v:=v) h
  exact .inr ⟨x,t,rfl,e⟩
theorem zsc (a b:Int):decide ((Sum.inl a:Key)=Sum.inl b)=(a==b):=by
 by_cases e:a=b
 ·subst e;simp
 ·have h: ¬(Sum.inl a:Key)=Sum.inl b:=fun q=>e (Sum.inl.inj q)
  rw [decide_eq_false h]
  exact (beq_eq_false_iff_ne.mpr e).symm
theorem zsi (a b:Str):decide ((Sum.inr a:Key)=Sum.inr b)=decide (a=b):=by
 by_cases e:a=b
 ·subst e;simp
 ·have h: ¬(Sum.inr a:Key)=Sum.inr b:=fun q=>e (Sum.inr.inj q)
  rw [decide_eq_false h,decide_eq_false e]
theorem zrv (a:Int) (b:Str):decide ((Sum.inl a:Key)=Sum.inr b)=false:=decide_eq_false (fun q=>nomatch q)
theorem zqi (a:Str) (b:Int):decide ((Sum.inr a:Key)=Sum.inl b)=false:=decide_eq_false (fun q=>nomatch q)
noncomputable def zh7 (prog:Program) (w:World):PySem.KeyKind prog w Key where
 is:=zqx
 hash:=zuw w
 inj:=fun v a b ha hb=>by
  rcases za4 ha with ⟨i,t,rfl,rfl⟩ | ⟨x,t,rfl,rfl⟩
  ·rcases za4 hb with ⟨j,u,rfl,e⟩ | ⟨y,u,rfl,e⟩
   ·injection e with e1 _;rw [e1]
   ·exact nomatch e
  ·rcases za4 hb with ⟨j,u,rfl,e⟩ | ⟨y,u,rfl,e⟩
   ·exact nomatch e
   ·injection e with e1 _;rw [e1]
 byValue:=fun k v h=>by
  rcases za4 h with ⟨i,t,rfl,rfl⟩ | ⟨x,t,rfl,rfl⟩<;>rfl
 pyHash:=fun hv h=>by
  rcases za4 hv with ⟨i,t,rfl,rfl⟩ | ⟨x,t,rfl,rfl⟩
  ·exact wpAny_pyHash_int h
  ·exact wpAny_pyHash_str h
 eqBool:=fun hu hv h=>by
  rcases za4 hu with ⟨i,t,rfl,rfl⟩ | ⟨x,t,rfl,rfl⟩
  ·rcases za4 hv with ⟨j,u,rfl,rfl⟩ | ⟨y,u,rfl,rfl⟩
   ·rw [zsc] at h;exact wpAny_eqBool_int h
   ·rw [zrv] at h;exact SeqAt.EqAt.int_str i t y u _ _ _ _ h
  ·rcases za4 hv with ⟨j,u,rfl,rfl⟩ | ⟨y,u,rfl,rfl⟩
   ·rw [zqi] at h;exact SeqAt.EqAt.str_int x t j u _ _ _ _ h
   ·rw [zsi] at h;exact wpAny_eqBool_str h
 «strs» := fun k x t v h=>by
  rcases za4 h with ⟨i,u,rfl,e⟩ | ⟨y,u,rfl,e⟩
  ·exact nomatch e
  ·injection e with e1 _
   subst e1
   cases v<;>rfl
inductive V where
 | non | bl (b:Bool) | int (i:Int) | str (x:Str) | byt (b:Array UInt8) | flt (b:UInt64) | ref (a:Addr) | ty (n:String)
 deriving DecidableEq
noncomputable def zb1:V->Value->Prop
 | .non,u=>u=Value.none
 | .bl b,u=>u=Value.bool b
 | .int i,u=> ∃ t,u=Value.int i t
 | .str x,u=> ∃ t,u=Value.str x t
 | .byt b,u=> ∃ t,u=Value.bytes b t
 | .flt b,u=> ∃ t,u=Value.float b t
 | .ref a,u=>u=Value.ref a
 | .ty n,u=>u=Value.type n
noncomputable abbrev za3:List V->List Value->Prop:=Paired zb1
theorem za3.length {xs:List V} {us:List Value} (r:za3 xs us):xs.length=us.length:=Paired.length r
theorem za3.get: ∀ {xs:List V} {us:List Value} {i:Nat} {x:V},za3 xs us->xs[i]? = some x-> ∃ u,us[i]? = some u/\zb1 x u
 | _,_,_,_,.nil,e=>by simp at e
 | _,_,0,_,.cons r _,e=>by simp at e;subst e;exact ⟨_,rfl,r⟩
 | _,_,i+1,x,.cons _ t,e=>by
  obtain ⟨u,h1,h2⟩:=za3.get (i:=i) (x:=x) t (by simpa using e)
  exact ⟨u,by simpa using h1,h2⟩
theorem za3.set {x:V} {u:Value} (r:zb1 x u): ∀ {xs:List V} {us:List Value} (i:Nat),za3 xs us->za3 (xs.set i x) (us.set i u)
 | _,_,_,.nil=> .nil
 | _,_,0,.cons _ t=> .cons r t
 | _,_,i+1,.cons q t=> .cons q (za3.set r i t)
theorem za3.append: ∀ {xs ys:List V} {us ws:List Value},za3 xs us->za3 ys ws->za3 (xs++ys) (us++ws)
 | _,_,_,_,.nil,s=>s
 | _,_,_,_,.cons r t,s=> .cons r (za3.append t s)
theorem za3.take: ∀ {xs:List V} {us:List Value} (n:Nat),za3 xs us->za3 (xs.take n) (us.take n)
 | _,_,0,_=> .nil
 | _,_,_+1,.nil=> .nil
 | _,_,n+1,.cons r t=> .cons r (za3.take n t)
theorem za3.drop: ∀ {xs:List V} {us:List Value} (n:Nat),za3 xs us->za3 (xs.drop n) (us.drop n)
 | _,_,0,r=>r
 | _,_,_+1,.nil=> .nil
 | _,_,n+1,.cons _ t=>za3.drop n t
noncomputable def zsR:Option V->Option Value->Prop
 | some v,some u=>zb1 v u
 | none,none=>True
 | _,_=>False
noncomputable def KV {κ:Type}:List (κ×V)->List (κ×Value)->Prop:=Paired fun (p:κ×V) (q:κ×Value)=>p.1=q.1/\zb1 p.2 q.2
noncomputable def kV:Key->V
 | .inl i=> .int i
 | .inr x=> .str x
inductive HO where
 | lst (xs:List V)
 | tup (xs:List V)
 | dK (kvs:List (Key×V)) | dT (kvs:List (List Key×V))
 | set (S:Int->Bool) (n:Nat)
 | ins (C dx:Addr) (fs:List (Str×V))
 | own (x:Addr)
 | xd (fs:List (Str×V))
 | met (f x:Addr)
 | rng (lo hi:Int)
 | frz (o:Obj) (u:HO)
 | tbl (ps:Array Value)
 | ext (φ:Heap->Prop)
noncomputable abbrev Hp:=Addr->Option HO
noncomputable def upd (H:Hp) (a:Addr) (o:HO):Hp:=fun b=>if b=a then some o else H b
theorem za0 {H:Hp} {a:Addr} {o:HO}:upd H a o a=some o:=by unfold upd;rw [qa4 rfl]
theorem zaC {H:Hp} {a b:Addr} {o:HO} (h:b≠a):upd H a o b=H b:=by unfold upd;rw [qa5 h]
theorem zaV {H:Hp} {a b:Addr} {o:HO} (h:H a=some o) (h':H b=none):a≠b:=by
 intro e;subst e;rw [h] at h';cases h'
section
variable (P:Program) (w:World)
noncomputable def zbF (H:Hp) (h:Heap) (a:Addr):HO->Prop
 | .lst xs=>xs.length<=sizeLine/\ ∃ (its:List Value) (n:Nat),za3 xs its/\h.get? a=some {cls:= .type "list",data:= .seq its.toArray n}
 | .tup xs=>xs.length<=sizeLine/\ ∃ its:List Value,za3 xs its/\IsTup h a its.toArray
 | .dK kvs=>kvs.length<=sizeLine/\(a==sysModules)=false/\ ∃ vs,KV kvs vs/\h.DictOf (zh7 P w) a vs
 | .dT kvs=>kvs.length<=sizeLine/\(a==sysModules)=false/\ ∃ xs:List (List Key×Addr×Value),
   Paired (fun (p:List Key×V) (q:List Key×Addr×Value)=>p.1=q.1/\H q.2.1=some (.tup (p.1.map kV))/\zb1 p.2 q.2.2) kvs xs/\
   ∃ o es ep,h.get? a=some o/\o.ExactDict/\o.data= .dict es ep/\es.toList=xs.map (entryOfKey (tupleKind (zh7 P w)))/\(xs.map (·.1)).Nodup
 | .set S n=>h.SetOf (intKind P w) a S n
 | .ins C dx fs=>H dx=some (.own a)/\fs.length<=1000/\dx≠a/\h.get? a=some (W.instObj C dx)/\
   ∃ mA,h.Ns1 dx mA/\(∀ f,zsR (fs.lookup f) (mA f))/\PySem.Within mA (fs.map (·.1))
 | .own _=> ∃ o,h.get? a=some o
 | .xd fs=> ∃ mA,h.Ns1 a mA/\ ∀ f,zsR (fs.lookup f) (mA f)
 | .rng lo hi=> ∃ t u v,h.get? a=some {cls:= .type "range",data:= .fields #[.int lo t,.int hi u,.int 1 v]}
 | .frz o u=>h.get? a=some o/\zbF H h a u
 | .tbl ps=>h.get? a=some {cls:= .none,data:= .fields ps}
 | .met f x=>h.get? a=some (W.methodObj (.ref f) (.ref x))
 | .ext φ=>φ h/\(∃ o,h.get? a=some o)/\ ∀ h1 h2:Heap,φ h1->(∀ o,h1.get? a=some o->h2.get? a=some o)->φ h2
def HOk (H:Hp) (h:Heap):Prop:= ∀ a o,H a=some o->zbF P w H h a o
end
section
variable {P:Program} {w:World} {H H':Hp} {h h':Heap} {a:Addr} {o:HO}
theorem zbF.lt (x:zbF P w H h a o):a<h.objs.size:=by
 cases o with
 | lst xs=>obtain ⟨_,_,_,_,e⟩:=x;exact qaQ e
 | tup xs=>obtain ⟨_,_,_,p⟩:=x;exact p.lt
 | dK kvs=>obtain ⟨_,_,_,_,o,_,_,e,_⟩:=x;exact qaQ e
 | dT kvs=>obtain ⟨_,_,_,_,o,_,_,e,_⟩:=x;exact qaQ e
 | set S n=>obtain ⟨o,_,_,_,e,_⟩:=x;exact qaQ e
 | ins C dx fs=>obtain ⟨_,_,_,e,_⟩:=x;exact qaQ e
 | own y=>obtain ⟨_,e⟩:=x;exact qaQ e
 | xd fs=>obtain ⟨_,⟨_,_,_,e,_⟩,_⟩:=x;exact qaQ e
 | rng lo hi=>obtain ⟨_,_,_,e⟩:=x;exact qaQ e
 | frz ob u=>obtain ⟨e,_⟩:=x;exact qaQ e
 | tbl ps=>exact qaQ (show h.get? a=some _ from x)
 | met f y=>exact qaQ (show h.get? a=some _ from x)
 | ext φ=>obtain ⟨_,⟨_,e⟩,_⟩:=x;exact qaQ e
theorem Paired.mapP {α β:Type} {F G:α->β->Prop}: ∀ {l₁:List α} {l₂:List β},Paired F l₁ l₂->(∀ a b,F a b->G a b)->Paired G l₁ l₂
 | _,_,.nil,_=> .nil
 | _,_,.cons r t,f=> .cons (f _ _ r) (Paired.mapP t f)
theorem zbF.stay (x:zbF P w H h a o) (k: ∀ b u,(b=a\/H b=some (.own a))->h.get? b=some u->h'.get? b=some u)
  (ho: ∀ b,H b=some (.own a)->H' b=some (.own a)) (ht: ∀ b xs,H b=some (.tup xs)->H' b=some (.tup xs)):zbF P w H' h' a o:=by
 induction o with
 | lst xs=>obtain ⟨z,its,n,r,e⟩:=x;exact ⟨z,its,n,r,k _ _ (.inl rfl) e⟩
 | tup xs=>obtain ⟨z,its,r,ob,e,c⟩:=x;exact ⟨z,its,r,ob,k _ _ (.inl rfl) e,c⟩
 | dK kvs=>obtain ⟨z,y,vs,r,ob,es,ep,e,c⟩:=x;exact ⟨z,y,vs,r,ob,es,ep,k _ _ (.inl rfl) e,c⟩
 | dT kvs=>
  obtain ⟨z,y,xs,r,ob,es,ep,e,c⟩:=x
  exact ⟨z,y,xs,Paired.mapP r fun p q z=>⟨z.1,ht _ _ z.2.1,z.2.2⟩,ob,es,ep,k _ _ (.inl rfl) e,c⟩
 | set S n=>obtain ⟨ob,es,ep,t,e,c⟩:=x;exact ⟨ob,es,ep,t,k _ _ (.inl rfl) e,c⟩
 | ins C dx fs=>
  obtain ⟨d,z,ne,e,mA,⟨od,es,ep,e2,c⟩,r⟩:=x
  exact ⟨ho _ d,z,ne,k _ _ (.inl rfl) e,mA,⟨od,es,ep,k _ _ (.inr d) e2,c⟩,r⟩
 | own y=>obtain ⟨ob,e⟩:=x;exact ⟨ob,k _ _ (.inl rfl) e⟩
 | xd fs=>obtain ⟨mA,⟨od,es,ep,e,c⟩,r⟩:=x;exact ⟨mA,⟨od,es,ep,k _ _ (.inl rfl) e,c⟩,r⟩
 | rng lo hi=>obtain ⟨t,u,v,e⟩:=x;exact ⟨t,u,v,k _ _ (.inl rfl) e⟩
 | frz ob u ih=>obtain ⟨e,q⟩:=x;exact ⟨k _ _ (.inl rfl) e,ih q⟩
 | tbl ps=>
  have e:h.get? a=some {cls:= .none,data:= .fields ps}:=x
  show h'.get? a=some {cls:= .none,data:= .fields ps}
  exact k a _ (.inl rfl) e
 | met f y=>
  have e:h.get? a=some (W.methodObj (.ref f) (.ref y)):=x
  show h'.get? a=some (W.methodObj (.ref f) (.ref y))
  exact k a _ (.inl rfl) e
 | ext φ=>obtain ⟨p,⟨o,e⟩,st⟩:=x;exact ⟨st _ _ p fun o q=>k _ _ (.inl rfl) q,⟨o,k _ _ (.inl rfl) e⟩,st⟩
theorem HOk.lt (x:HOk P w H h) (e:H a=some o):a<h.objs.size:=(x a o e).lt
theorem HOk.fresh (x:HOk P w H h) (e:h.objs.size<=a):H a=none:=by
 cases q:H a with
 | none=>rfl
 | some u=>exact absurd (qaw (x.lt q) e) (qaN _)
theorem HOk.kept (x:HOk P w H h) (k: ∀ b u,h.get? b=some u->h'.get? b=some u):HOk P w H h':=fun a o e=>
 (x a o e).stay (fun b u _ q=>k b u q) (fun _ q=>q) fun _ _ q=>q
theorem HOk.laid (x:HOk P w H h) (k: ∀ b u,h.get? b=some u->h'.get? b=some u) (hp:h.objs.size<=a) (new:zbF P w (upd H a o) h' a o):HOk P w (upd H a o) h':=fun b u e=>by
 have hn:=x.fresh hp
 by_cases hb:b=a
 ·subst hb;rw [za0] at e;cases e;exact new
 ·rw [zaC hb] at e
  exact (x b u e).stay (fun c v _ q=>k c v q) (fun c q=>by rw [zaC (zaV q hn)];exact q) fun c xs q=>by rw [zaC (zaV q hn)];exact q
end
def Rd (H:Hp) (a:Addr) (u:HO):Prop:=H a=some u\/ ∃ o,H a=some (.frz o u)
theorem Rd.of {H:Hp} {a:Addr} {u:HO} (h:H a=some u):Rd H a u:= .inl h
theorem Rd.ok {P:Program} {w:World} {H:Hp} {h:Heap} {a:Addr} {u:HO} (r:Rd H a u) (x:HOk P w H h):zbF P w H h a u:=by
 rcases r with r | ⟨o,r⟩
 ·exact x a u r
 ·obtain ⟨_,q⟩:=x a _ r
  exact q
noncomputable def Mut:Option HO->Prop
 | some (.lst _)=>True
 | some (.dK _)=>True
 | some (.dT _)=>True
 | some (.set _ _)=>True
 | some (.ins _ _ _)=>True
 | some (.ext _)=>True
 | _=>False
section
variable {P:Program} {w:World} {H:Hp} {h h':Heap} {x e:Addr} {o':HO}
theorem HOk.write (ok:HOk P w H h) (mu:Mut (H x)) (he:e=x\/H e=some (.own x)) (k: ∀ b u,b≠e->h.get? b=some u->h'.get? b=some u) (heo: ∃ u,h'.get? e=some u)
  (new:zbF P w (upd H x o') h' x o'):HOk P w (upd H x o') h':=fun b u q=>by
 have nown: ∀ c y,H c=some (.own y)->c≠x:=fun c y r z=>by subst z;rw [r] at mu;exact mu
 have ntup: ∀ c xs,H c=some (.tup xs)->c≠x:=fun c xs r z=>by subst z;rw [r] at mu;exact mu
 by_cases hb:b=x
 ·subst hb;rw [za0] at q;cases q;exact new
 ·rw [zaC hb] at q
  by_cases hbe:b=e
  ·have q':H b=some (.own x):=by
    rcases he with z | z
    ·exact absurd (hbe.trans z) hb
    ·rw [hbe];exact z
   rw [q] at q';cases q'
   obtain ⟨v,hv⟩:=heo
   exact ⟨v,by rw [hbe];exact hv⟩
  ·refine (ok b u q).stay (fun c v hc r=>k c v ?_ r) (fun c r=>by rw [zaC (nown c b r)];exact r) fun c xs r=>by rw [zaC (ntup c xs r)];exact r
   rcases hc with rfl | hc
   ·exact hbe
   ·rintro rfl
    rcases he with z | z
    ·exact nown c b hc z
    ·rw [hc] at z;cases z;exact hb rfl
end
structure Un (fs ex:List Addr) (H H':Hp) (h h':Heap):Prop where
 keep: ∀ b o,h.get? b=some o->H b=none->b∉fs->b∉ex->h'.get? b=some o
 slot: ∀ b o,h.get? b=some o->H b=none->b∈fs->b∉ex-> ∃ sl,h'.get? b=some {o with slots:=sl}
 free: ∀ b o,h.get? b=some o->H b=none->b∉ex->H' b=none
 there: ∀ b o,h.get? b=some o->b∉ex-> ∃ o',h'.get? b=some o'
 tups: ∀ b xs,H b=some (.tup xs)->H' b=some (.tup xs)
 frzs: ∀ b o u,H b=some (.frz o u)->H' b=some (.frz o u)
 tbls: ∀ b ps,H b=some (.tbl ps)-> ∃ more,H' b=some (.tbl (ps++more))
section
variable {fs fs' ex ex':List Addr} {H H1 H2:Hp} {h h1 h2 h':Heap} {a x e:Addr} {o:HO}
theorem Un.any (u:Un fs ex H H1 h h1) {b:Addr} {ob:Obj} (q:h.get? b=some ob) (n:H b=none) (hx:b∉ex): ∃ sl,h1.get? b=some {ob with slots:=sl}:=by
 by_cases hb:b∈fs
 ·exact u.slot b ob q n hb hx
 ·exact ⟨ob.slots,u.keep b ob q n hb hx⟩
theorem Un.trans (a:Un fs ex H H1 h h1) (b:Un fs ex H1 H2 h1 h2):Un fs ex H H2 h h2 where
 keep:=fun c ob q n hc hx=>b.keep c ob (a.keep c ob q n hc hx) (a.free c ob q n hx) hc hx
 slot:=fun c ob q n hc hx=>by
  obtain ⟨sl,e1⟩:=a.slot c ob q n hc hx
  obtain ⟨sl',e2⟩:=b.slot c _ e1 (a.free c ob q n hx) hc hx
  exact ⟨sl',e2⟩
 free:=fun c ob q n hx=>by
  obtain ⟨o',e1⟩:=a.there c ob q hx
  exact b.free c o' e1 (a.free c ob q n hx) hx
 there:=fun c ob q hx=>by
  obtain ⟨o',e1⟩:=a.there c ob q hx
  exact b.there c o' e1 hx
 tups:=fun c xs q=>b.tups c xs (a.tups c xs q)
 frzs:=fun c ob xs q=>b.frzs c ob xs (a.frzs c ob xs q)
 tbls:=fun c ps q=>by
  obtain ⟨m1,e1⟩:=a.tbls c ps q
  obtain ⟨m2,e2⟩:=b.tbls c _ e1
  exact ⟨m1++m2,by rw [e2,Array.append_assoc]⟩
theorem Un.kept (k: ∀ b u,h.get? b=some u->h'.get? b=some u):Un fs ex H H h h':=
 ⟨fun b ob q _ _ _=>k b ob q,fun b ob q _ _ _=>⟨ob.slots,k b ob q⟩,fun _ _ _ n _=>n,fun b ob q _=>⟨ob,k b ob q⟩,fun _ _ q=>q,fun _ _ _ q=>q,fun _ ps q=>⟨#[],by rw [q];simp⟩⟩
theorem Un.refl:Un fs ex H H h h:=Un.kept fun _ _ q=>q
theorem Un.laid (k: ∀ b u,h.get? b=some u->h'.get? b=some u) (hp:h.objs.size<=a) (hn:H a=none):Un fs ex H (upd H a o) h h' where
 keep:=fun b u q _ _ _=>k b u q
 slot:=fun b u q _ _ _=>⟨u.slots,k b u q⟩
 free:=fun b u q n _=>by rw [zaC (qaR (qaw (qaQ q) hp))];exact n
 there:=fun b u q _=>⟨u,k b u q⟩
 tups:=fun b xs q=>by rw [zaC (zaV q hn)];exact q
 frzs:=fun b u xs q=>by rw [zaC (zaV q hn)];exact q
 tbls:=fun b ps q=>⟨#[],by rw [zaC (zaV q hn),q];simp⟩
theorem Un.write (mu:Mut (H x)) (he:e=x\/H e=some (.own x)) (k: ∀ b u,b≠e->h.get? b=some u->h'.get? b=some u) (heo: ∃ u,h'.get? e=some u):Un fs ex H (upd H x o) h h':=by
 have hx: ∀ b,H b=none->b≠x:=fun b n z=>by subst z;rw [n] at mu;exact mu
 have hb: ∀ b,H b=none->b≠e:=fun b n z=>by
  subst z
  rcases he with r | r
  ·exact hx b n r
  ·rw [n] at r;cases r
 have hm: ∀ b u,H b=some u-> ¬Mut (some u)->b≠x:=fun b u q nm z=>by subst z;rw [q] at mu;exact nm mu
 refine ⟨fun b u q n _ _=>k b u (hb b n) q,fun b u q n _ _=>⟨u.slots,k b u (hb b n) q⟩,fun b u q n _=>by rw [zaC (hx b n)];exact n,fun b u q _=> ?_,
   fun b xs q=>by rw [zaC (hm b _ q fun z=>z)];exact q,fun b u xs q=>by rw [zaC (hm b _ q fun z=>z)];exact q,fun b ps q=>⟨#[],by rw [zaC (hm b _ q fun z=>z),q];simp⟩⟩
 by_cases hbe:b=e
 ·subst hbe;exact heo
 ·exact ⟨u,k b u hbe q⟩
theorem Un.mono (u:Un fs ex H H1 h h1) (hs: ∀ b∈fs,b∈fs') (hx: ∀ b∈ex,b∈ex'):Un fs' ex' H H1 h h1:=
 ⟨fun b ob q n hb he=>u.keep b ob q n (fun z=>hb (hs b z)) fun z=>he (hx b z),fun _ _ q n _ he=>u.any q n fun z=>he (hx _ z),fun b ob q n he=>u.free b ob q n fun z=>he (hx b z),fun b ob q he=>u.there b ob q fun z=>he (hx b z),u.tups,u.frzs,u.tbls⟩
end
noncomputable def trk (h:Heap) (H:Hp):List Addr:=(List.range h.objs.size).filter fun a=>(H a).isSome
noncomputable def znc (h:Heap) (H:Hp):Heap:=W.hideAll h (trk h H)
theorem zkI (h:Heap) (H:Hp):(znc h H).objs.size=h.objs.size:=W.hideAll_size _ _
theorem zns {h:Heap} {H:Hp} {b:Addr} {o:Obj} (e:h.get? b=some o) (n:H b=none):(znc h H).get? b=some o:=
 W.hideAll_get _ e fun hm=>by
  have q:(H b).isSome=true:=(List.mem_filter.mp hm).2
  rw [n] at q;simp at q
theorem zps {h:Heap} {H:Hp} {b:Addr} {o:Obj} (e:(znc h H).get? b=some o):h.get? b=some o/\H b=none:=by
 have e':h.get? b=some o:=W.of_hideAll (trk h H) e
 refine ⟨e',?_⟩
 cases q:H b with
 | none=>rfl
 | some x=>
  have hm:b∈trk h H:=List.mem_filter.mpr ⟨List.mem_range.mpr (qaQ e'),by simp [q]⟩
  have z:(znc h H).get? b=none:=W.hideAll_none (trk h H) hm
  rw [z] at e;cases e
noncomputable def zo8 (g h:Heap) (L:Addr):List (Addr×Obj):=(List.range h.objs.size).filterMap fun a=>if a=L\/(g.get? a).isSome=true then none else (h.get? a).map fun o=>(a,o)
noncomputable def zbs (g h:Heap) (L d:Addr):List (Addr×Obj):=(zo8 g h L).filter fun p=>decide (p.1≠d)
structure Mod (K:W.Frag) (mg:Str->Option Value) (base:Heap):Prop where
 kin:K.In base
 glob:base.Ns mainGlobals mg
 blt: ∃ mb,base.Ns builtinsNs mb/\ ∀ x:Str,x≠"__name__"->mb x=bootBuiltins x
 nolimit:base.NoLimit
structure Cx where
 prog:Program
 w:World
 K:W.Frag
 mg:Str->Option Value
 base:Heap
 A:Around
 N:List Str
 s₀:Shared
 H₀:Hp
 env:Env
 outer:List Env
 stack:List Env
 ex:List Addr
 fn:Str->Bool
 calm:Bool
 pn:List (Addr×Obj)
 xe:Value->Shared->Prop
noncomputable def frs (l:List Env):List Addr:=l.filterMap (·.frame)
noncomputable abbrev Cx.fs (X:Cx):List Addr:=frs X.outer
def Vis (sc:Scope) (x:Str):Prop:=sc.names.lookup x=some .local\/sc.names.lookup x=some .cell\/sc.names.lookup x=some .free
def Loc (sc:Scope) (x:Str):Prop:=sc.names.lookup x=some .local\/sc.names.lookup x=some .cell
def zt9 (env:Env) (h:Heap) (m:Str->Option Value) (x:Str) (u:Value):Prop:=
 (env.kindOf x=some .local/\m x=some u)\/((env.kindOf x=some .cell\/env.kindOf x=some .free)/\ ∃ c,env.cells.lookup x=some c/\h.IsCell c (some u))
def zgR (A:Around) (H:Hp):Prop:=A.handled=none\/ ∃ a o cls head vs,A.handled=some (.ref a)/\H a=some (.frz o (.own 0))/\o.cls=cls/\o.dict=none/\o.data= .fields vs/\vs[2]? = some .none/\vs[1]? = some head
structure Cx.Ok (X:Cx):Prop where
 mod:Mod X.K X.mg X.base
 kind:X.env.scope.kind= .function
 glob:X.env.globals=mainGlobals
 blt:X.env.builtins=builtinsNs
 above:X.s₀.heap.objs.size<=X.env.locals
 inj: ∀ x y c,X.env.cells.lookup x=some c->X.env.cells.lookup y=some c->x=y
 has: ∀ x,(X.env.kindOf x=some .cell\/X.env.kindOf x=some .free)-> ∃ c,X.env.cells.lookup x=some c
 cab: ∀ x c,X.fn x=true->X.env.cells.lookup x=some c->X.s₀.heap.objs.size<=c
 hd:X.calm=true->X.A.handled=none
 hx:zgR X.A X.H₀
 frames:X.A.frames=some X.stack
 stk:X.stack=X.outer\/(X.stack=X.env::X.outer/\X.env.frame=some X.env.locals)
 exf: ∀ b∈X.ex,b≠X.env.locals/\ ∀ x c,X.env.cells.lookup x=some c->c≠b
 bs: ∀ b o,X.base.get? b=some o->X.s₀.heap.get? b=some o/\X.H₀ b=none
 bsz:X.base.objs.size<=X.s₀.heap.objs.size
 noex: ∀ b o,X.base.get? b=some o->b∉X.ex
 exfs: ∀ b∈X.ex,b∉X.fs
 funs:X.s₀.heap.FunFrames X.base X.outer
 frf: ∀ b∈X.fs,X.H₀ b=none
structure Inv (X:Cx) (pins:List (Addr×Obj)) (σ:List (Option V)) (H:Hp) (s:Shared):Prop where
 ok:X.Ok
 os:s.os=X.s₀.os
 bare:AllBare s.gens
 base:Un X.fs X.ex X.H₀ H X.s₀.heap s.heap
 loc: ∃ m,s.heap.Ns X.env.locals m/\ ∀ (i:Nat) (x:Str) (v:V),X.N[i]? = some x->σ[i]? = some (some v)->Vis X.env.scope x-> ∃ u,zb1 v u/\zt9 X.env s.heap m x u
 cell: ∀ x c,X.env.cells.lookup x=some c-> ∃ v,s.heap.IsCell c v
 free:H X.env.locals=none
 freeC: ∀ x c,X.env.cells.lookup x=some c->H c=none
 pin: ∀ p∈X.pn++pins,s.heap.get? p.1=some p.2/\H p.1=none/\p.1≠X.env.locals/\p.1∉X.fs/\ ∀ v,p.2.data≠ .cell v
 hok:HOk X.prog X.w H s.heap
 len:σ.length=X.N.length
section
variable {X:Cx} {pins:List (Addr×Obj)} {σ:List (Option V)} {H H':Hp} {s:Shared} {h':Heap}
theorem Cx.Ok.nofr (ok:X.Ok) {b:Addr} {o:Obj} (e:X.base.get? b=some o):b∉X.fs:=fun hb=>by
 have:=(ok.funs.mem hb).1
 rw [e] at this;cases this
theorem Inv.bs (I:Inv X pins σ H s): ∀ b o,X.base.get? b=some o->s.heap.get? b=some o/\H b=none:=fun b o e=>
 ⟨I.base.keep b o (I.ok.bs b o e).1 (I.ok.bs b o e).2 (I.ok.nofr e) (I.ok.noex b o e),I.base.free b o (I.ok.bs b o e).1 (I.ok.bs b o e).2 (I.ok.noex b o e)⟩
theorem Inv.bk (I:Inv X pins σ H s): ∀ b o,X.base.get? b=some o->s.heap.get? b=some o:=fun b o e=>(I.bs b o e).1
theorem Inv.mod (I:Inv X pins σ H s):Mod X.K X.mg X.base:=I.ok.mod
theorem Inv.kIn (I:Inv X pins σ H s):X.K.In s.heap:=I.ok.mod.kin.keeps I.bk
theorem Inv.nolimit (I:Inv X pins σ H s):s.heap.NoLimit:=I.ok.mod.nolimit.keeps I.bk
theorem Inv.fr (I:Inv X pins σ H s): ∃ m,Fr X.base X.env.locals s.heap m:=
 let ⟨m,hn,_⟩:=I.loc
 ⟨m,hn,I.bk,qaS I.ok.bsz I.ok.above⟩
theorem Inv.lt (I:Inv X pins σ H s):X.env.locals<s.heap.objs.size:=let ⟨_,hn,_⟩:=I.loc;hn.lt
theorem Inv.sz (I:Inv X pins σ H s):X.s₀.heap.objs.size<=s.heap.objs.size:=qaS I.ok.above (Nat.le_of_lt I.lt)
theorem Inv.nofs (I:Inv X pins σ H s) {a:Addr} (h:s.heap.objs.size<=a):a∉X.fs:=fun hb=>by
 obtain ⟨_,o,ho,_⟩:=I.ok.funs.mem hb
 exact absurd (qaw (qaQ ho) (qaS I.sz h)) (qaN _)
theorem Inv.cne (I:Inv X pins σ H s): ∀ x c,X.env.cells.lookup x=some c->c≠X.env.locals:=fun x c e z=>by
 obtain ⟨v,o,ho,hd⟩:=I.cell x c e
 obtain ⟨m,⟨o',es,ep,ho',hd',_⟩,_⟩:=I.loc
 rw [z,ho'] at ho;cases ho;rw [hd'] at hd;cases hd
theorem Inv.funs (I:Inv X pins σ H s):s.heap.FunFrames X.base X.outer:=by
 have all: ∀ (l:List Env),(∀ b∈frs l,b∈X.fs)->X.s₀.heap.FunFrames X.base l->s.heap.FunFrames X.base l:=by
  intro l
  induction l with
  | nil=>intro _ _;trivial
  | cons env r ih=>
   intro hs hl
   obtain ⟨hk,⟨L,o,hf,hn,ho,hd⟩,hr⟩:=hl
   have hL:L∈X.fs:=hs L (by unfold frs;rw [qat,hf];exact qau)
   obtain ⟨sl,e⟩:=I.base.slot L o ho (I.ok.frf L hL) hL fun z=>I.ok.exfs L z hL
   exact ⟨hk,⟨L,_,hf,hn,e,hd⟩,ih (fun b hb=>hs b (by unfold frs;rw [qat,hf];exact qan _ hb)) hr⟩
 exact all X.outer (fun _ hb=>hb) I.ok.funs
theorem Inv.stack (I:Inv X pins σ H s):s.heap.FunFrames X.base X.stack:=by
 rcases I.ok.stk with e | ⟨e,hf⟩
 ·rw [e];exact I.funs
 ·rw [e]
  obtain ⟨m,hn,_⟩:=I.loc
  refine .cons (by rw [I.ok.kind];decide) hf hn ?_ I.funs
  exact Heap.get?_none_of_le (qaS I.ok.bsz I.ok.above)
theorem Inv.stkSub (I:Inv X pins σ H s): ∀ b∈frs X.stack,b∈X.env.locals::X.fs:=fun b hb=>by
 rcases I.ok.stk with e | ⟨e,hf⟩
 ·rw [e] at hb;exact qan _ hb
 ·rw [e] at hb
  unfold frs at hb
  rw [qat,hf] at hb
  exact hb
theorem Inv.stkFree (I:Inv X pins σ H s): ∀ b∈frs X.stack,H b=none:=fun b hb=>by
 rcases qaP.mp (I.stkSub b hb) with e | hb
 ·rw [e];exact I.free
 ·obtain ⟨_,o,ho,_⟩:=I.ok.funs.mem hb
  exact I.base.free b o ho (I.ok.frf b hb) fun z=>I.ok.exfs b z hb
theorem Inv.step {g':Array GenState} {t':Nat} {d':Drawn} {ch:List Addr} (I:Inv X pins σ H s)
  (hch: ∀ b∈ch,(b∈X.ex\/X.s₀.heap.objs.size<=b)/\b≠X.env.locals/\(∀ x c,X.env.cells.lookup x=some c->c≠b)/\ ∀ p∈X.pn++pins,p.1≠b)
  (keep: ∀ b o,b≠X.env.locals->b∉X.fs->b∉ch->s.heap.get? b=some o->H b=none->h'.get? b=some o)
  (slot: ∀ b o,b≠X.env.locals->b∈X.fs->b∉ch->s.heap.get? b=some o->H b=none-> ∃ sl,h'.get? b=some {o with slots:=sl}) (free: ∀ b o,b∉ch->s.heap.get? b=some o->H b=none->H' b=none)
  (there: ∀ b o,b∉ch->s.heap.get? b=some o-> ∃ o',h'.get? b=some o')
  (tups: ∀ b xs,H b=some (.tup xs)->H' b=some (.tup xs)) (frzs: ∀ b o u,H b=some (.frz o u)->H' b=some (.frz o u)) (tbls: ∀ b ps,H b=some (.tbl ps)-> ∃ more,H' b=some (.tbl (ps++more)))
  (ns: ∀ m,s.heap.Ns X.env.locals m->h'.Ns X.env.locals m) (hok:HOk X.prog X.w H' h') (hg:AllBare g'):
  Inv X pins σ H' {s with heap:=h',gens:=g',drawn:=d',toks:=t'}:=by
 have neL: ∀ b o,X.s₀.heap.get? b=some o->b≠X.env.locals:=fun b o e=>qaR (qaw (qaQ e) I.ok.above)
 have neC: ∀ b o,X.s₀.heap.get? b=some o->b∉X.ex->b∉ch:=fun b o e hx hb=>by
  rcases (hch b hb).1 with z | z
  ·exact hx z
  ·exact absurd (qaw (qaQ e) z) (qaN _)
 have cellK: ∀ x c,X.env.cells.lookup x=some c-> ∀ v,s.heap.IsCell c v->h'.IsCell c v:=fun x c e v ⟨o,ho,hd⟩=>by
  have nch:c∉ch:=fun z=>(hch c z).2.2.1 x c e rfl
  by_cases hc:c∈X.fs
  ·obtain ⟨sl,q⟩:=slot c o (I.cne x c e) hc nch ho (I.freeC x c e)
   exact ⟨_,q,hd⟩
  ·exact ⟨o,keep c o (I.cne x c e) hc nch ho (I.freeC x c e),hd⟩
 refine ⟨I.ok,I.os,hg,⟨fun b o e n hb hx=> ?_,fun b o e n hb hx=> ?_,fun b o e n hx=> ?_,fun b o e hx=> ?_,fun b xs e=>tups b xs (I.base.tups b xs e),fun b o xs e=>frzs b o xs (I.base.frzs b o xs e),fun b ps e=> ?_⟩,?_,fun x c e=> ?_,?_,fun x c e=> ?_,fun p hp=> ?_,hok,I.len⟩
 ·exact keep b o (neL b o e) hb (neC b o e hx) (I.base.keep b o e n hb hx) (I.base.free b o e n hx)
 ·obtain ⟨sl,e1⟩:=I.base.slot b o e n hb hx
  obtain ⟨sl',e2⟩:=slot b _ (neL b o e) hb (neC b o e hx) e1 (I.base.free b o e n hx)
  exact ⟨sl',e2⟩
 ·obtain ⟨o',e1⟩:=I.base.there b o e hx
  exact free b o' (neC b o e hx) e1 (I.base.free b o e n hx)
 ·obtain ⟨o',e1⟩:=I.base.there b o e hx
  exact there b o' (neC b o e hx) e1
 ·obtain ⟨m1,e1⟩:=I.base.tbls b ps e
  obtain ⟨m2,e2⟩:=tbls b _ e1
  exact ⟨m1++m2,by rw [e2,Array.append_assoc]⟩
 ·obtain ⟨m,hn,hl⟩:=I.loc
  refine ⟨m,ns m hn,fun i x v e1 e2 e3=> ?_⟩
  obtain ⟨u,r,l⟩:=hl i x v e1 e2 e3
  refine ⟨u,r,?_⟩
  rcases l with l | ⟨k,c,e,z⟩
  ·exact .inl l
  ·exact .inr ⟨k,c,e,cellK x c e _ z⟩
 ·obtain ⟨v,z⟩:=I.cell x c e
  exact ⟨v,cellK x c e v z⟩
 ·obtain ⟨m,⟨o,_,_,ho,_⟩,_⟩:=I.loc
  exact free _ o (fun z=>(hch _ z).2.1 rfl) ho I.free
 ·obtain ⟨v,o,ho,hd⟩:=I.cell x c e
  exact free c o (fun z=>(hch c z).2.2.1 x c e rfl) ho (I.freeC x c e)
 ·obtain ⟨e,n,ne,nf,d⟩:=I.pin p hp
  have nch:p.1∉ch:=fun z=>(hch p.1 z).2.2.2 p hp rfl
  exact ⟨keep p.1 p.2 ne nf nch e n,free p.1 p.2 nch e n,ne,nf,d⟩
theorem Inv.un {t':Nat} (I:Inv X pins σ H s) (u:Un X.fs [] H H' s.heap h') (hok:HOk X.prog X.w H' h'):Inv X pins σ H' {s with heap:=h',toks:=t'}:=by
 obtain ⟨m,⟨o,es,ep,ho,r⟩,_⟩:=id I.loc
 obtain ⟨sl,hL⟩:=u.any ho I.free (by simp)
 exact I.step (g':=s.gens) (d':=s.drawn) (ch:=[]) (fun _ z=>nomatch z) (fun b o _ hb _ e n=>u.keep b o e n hb (by simp)) (fun b o _ hb _ e n=>u.slot b o e n hb (by simp)) (fun b o _ e n=>u.free b o e n (by simp)) (fun b o _ e=>u.there b o e (by simp)) u.tups u.frzs u.tbls (fun m' hm=>by
   obtain ⟨o',es',ep',ho',r'⟩:=hm
   rw [ho] at ho';cases ho'
   exact ⟨_,es',ep',hL,r'⟩) hok I.bare
theorem Inv.call {g':Array GenState} {t':Nat} {d':Drawn} {ch:List Addr} (I:Inv X pins σ H s) (u:Un (frs X.stack) ch H H' s.heap h') (hok:HOk X.prog X.w H' h') (hg:AllBare g')
  (hch: ∀ b∈ch,(b∈X.ex\/X.s₀.heap.objs.size<=b)/\b≠X.env.locals/\(∀ x c,X.env.cells.lookup x=some c->c≠b)/\ ∀ p∈X.pn++pins,p.1≠b):
  Inv X pins σ H' {s with heap:=h',gens:=g',drawn:=d',toks:=t'}:=by
 obtain ⟨m,⟨o,es,ep,ho,r⟩,_⟩:=id I.loc
 obtain ⟨sl,hL⟩:=u.any ho I.free fun z=>(hch _ z).2.1 rfl
 exact I.step (ch:=ch) hch (fun b o hL hb hc e n=>u.keep b o e n (fun z=>(qaP.mp (I.stkSub b z)).elim hL hb) hc) (fun b o _ _ hc e n=>u.any e n hc) (fun b o hc e n=>u.free b o e n hc) (fun b o hc e=>u.there b o e hc) u.tups u.frzs u.tbls (fun m' hm=>by
   obtain ⟨o',es',ep',ho',r'⟩:=hm
   rw [ho] at ho';cases ho'
   exact ⟨_,es',ep',hL,r'⟩) hok hg
theorem Inv.turned {t':Nat} {it:Addr} (I:Inv X pins σ H s) (k: ∀ b o,b≠it->s.heap.get? b=some o->h'.get? b=some o) (hn:H it=none) (hL:it≠X.env.locals)
  (h1:it∈X.ex\/X.s₀.heap.objs.size<=it) (h2: ∀ x c,X.env.cells.lookup x=some c->c≠it) (h3: ∀ p∈X.pn++pins,p.1≠it):Inv X pins σ H {s with heap:=h',toks:=t'}:=by
 have nit: ∀ b u,H b=some u->b≠it:=fun b u e z=>by rw [z,hn] at e;cases e
 refine I.step (g':=s.gens) (d':=s.drawn) (ch:=[it]) (fun b hb=> ?_) (fun b o _ _ hc e _=>k b o (fun z=>hc (by simp [z])) e) (fun b o _ _ hc e _=>⟨o.slots,k b o (fun z=>hc (by simp [z])) e⟩) (fun _ _ _ _ n=>n)
  (fun b o hc e=>⟨o,k b o (fun z=>hc (by simp [z])) e⟩) (fun _ _ e=>e) (fun _ _ _ e=>e) (fun b ps e=>⟨#[],by rw [e];simp⟩) (fun m hm=> ?_) (fun b u e=> ?_) I.bare
 ·have e:b=it:=by simpa using hb
  subst e
  exact ⟨h1,hL,h2,h3⟩
 ·obtain ⟨o,es,ep,ho,r⟩:=hm
  exact ⟨o,es,ep,k _ o (Ne.symm hL) ho,r⟩
 ·refine (I.hok b u e).stay (fun c v hc q=>k c v ?_ q) (fun _ q=>q) fun _ _ q=>q
  rcases hc with z | z
  ·rw [z];exact nit b u e
  ·exact nit c _ z
theorem Inv.tok (I:Inv X pins σ H s) (t:Nat):Inv X pins σ H {s with toks:=t}:=I.un (h':=s.heap) (t':=t) Un.refl I.hok
theorem Inv.kept {t':Nat} (I:Inv X pins σ H s) (k: ∀ b u,s.heap.get? b=some u->h'.get? b=some u):Inv X pins σ H {s with heap:=h',toks:=t'}:=I.un (Un.kept k) (I.hok.kept k)
theorem Inv.laid {a:Addr} {o:HO} {t':Nat} (I:Inv X pins σ H s) (k: ∀ b u,s.heap.get? b=some u->h'.get? b=some u) (hp:s.heap.objs.size<=a) (new:zbF X.prog X.w (upd H a o) h' a o):
  Inv X pins σ (upd H a o) {s with heap:=h',toks:=t'}:=I.un (Un.laid k hp (I.hok.fresh hp)) (I.hok.laid k hp new)
theorem Inv.write {x e:Addr} {o:HO} {t':Nat} (I:Inv X pins σ H s) (mu:Mut (H x)) (he:e=x\/H e=some (.own x)) (k: ∀ b u,b≠e->s.heap.get? b=some u->h'.get? b=some u) (heo: ∃ u,h'.get? e=some u)
  (new:zbF X.prog X.w (upd H x o) h' x o):Inv X pins σ (upd H x o) {s with heap:=h',toks:=t'}:=I.un (Un.write mu he k heo) (I.hok.write mu he k heo new)
theorem Inv.pins_of {pins':List (Addr×Obj)} (I:Inv X pins σ H s) (h: ∀ p∈pins',s.heap.get? p.1=some p.2/\H p.1=none/\p.1≠X.env.locals/\p.1∉X.fs/\ ∀ v,p.2.data≠ .cell v):Inv X pins' σ H s:=
 ⟨I.ok,I.os,I.bare,I.base,I.loc,I.cell,I.free,I.freeC,fun p hp=>(qaK.mp hp).elim (fun z=>I.pin p (List.mem_append_left _ z)) (h p),I.hok,I.len⟩
theorem zi6 {N:List Str} (hN:N.Nodup) {i j:Nat} {x:Str} (a:N[i]? = some x) (b:N[j]? = some x):i=j:=by
 obtain ⟨h1,e1⟩:=qac.mp a
 obtain ⟨h2,e2⟩:=qac.mp b
 exact (List.getElem_inj hN).mp (e1.trans e2.symm)
theorem zkX {M:Model} {A:Around} {E:Value->Shared->Prop} {i:Nat} {x:Str} {v:V} {u:Value} {Q:Unit->Shared->Prop} (I:Inv X pins σ H s) (hN:X.N.Nodup) (hi:X.N[i]? = some x) (hx:Loc X.env.scope x) (r:zb1 v u)
  (h: ∀ s',Inv X pins (σ.set i (some v)) H s'->(∃ a,Heap.SameBut a s.heap s'.heap/\(a=X.env.locals\/X.env.cells.lookup x=some a))->Q () s') (hf:X.fn x=true\/X.env.scope.names.lookup x=some .local:=by first | exact .inl rfl | exact .inr rfl | assumption):wpAny M A (storeName X.env x u) Q E s:=by
 obtain ⟨m,hn,hl⟩:=id I.loc
 have hcls:(X.env.scope.kind== .class || (X.env.scope.kind== .module && X.env.locals != X.env.globals))=false:=by rw [I.ok.kind];rfl
 have hiσ:i<σ.length:=by rw [I.len];exact (qac.mp hi).1
 have cne:=I.cne
 have tracked: ∀ {a:Addr} {h':Heap},(∃ o,s.heap.get? a=some o/\H a=none)->Heap.SameBut a s.heap h'->HOk X.prog X.w H h':=fun {a h'} ha hs b ob e=>by
  obtain ⟨_,_,hfree⟩:=ha
  refine (I.hok b ob e).stay (fun c w' hc q=>(hs.2 c ?_).trans q) (fun _ q=>q) fun _ _ q=>q
  rintro rfl
  rcases hc with rfl | hc
  ·rw [hfree] at e;cases e
  ·rw [hfree] at hc;cases hc
 rcases hx with hk | hk
 ·refine wpAny_storeName_local hk hn (fun h' hn' hs=> ?_) hcls
  obtain ⟨oL,_,_,hoL,_⟩:=id hn
  refine h _ ⟨I.ok,I.os,I.bare,⟨fun b o e n hb hx=> ?_,fun b o e n hb hx=> ?_,I.base.free,fun b o e hx=> ?_,I.base.tups,I.base.frzs,I.base.tbls⟩,⟨_,hn',fun j y v' e1 e2 e3=> ?_⟩,fun y c e=> ?_,I.free,I.freeC,fun p hp=> ?_,tracked ⟨oL,hoL,I.free⟩ hs,by simpa using I.len⟩ ⟨_,hs,.inl rfl⟩
  ·exact (hs.2 b (qaR (qaw (qaQ e) I.ok.above))).trans (I.base.keep b o e n hb hx)
  ·obtain ⟨sl,e1⟩:=I.base.slot b o e n hb hx
   exact ⟨sl,(hs.2 b (qaR (qaw (qaQ e) I.ok.above))).trans e1⟩
  ·obtain ⟨o',e1⟩:=I.base.there b o e hx
   exact ⟨o',(hs.2 b (qaR (qaw (qaQ e) I.ok.above))).trans e1⟩
  ·by_cases hj:j=i
   ·subst hj
    rw [hi] at e1;cases e1
    rw [qai hiσ] at e2
    cases e2
    exact ⟨u,r,.inl ⟨hk,by simp⟩⟩
   ·rw [qao (Ne.symm hj)] at e2
    obtain ⟨u',r',q⟩:=hl j y v' e1 e2 e3
    refine ⟨u',r',?_⟩
    rcases q with ⟨k,e⟩ | ⟨k,c,e,z⟩
    ·refine .inl ⟨k,?_⟩
     have:y≠x:=fun e=>hj (zi6 hN e1 (e▸hi))
     simp [this,e]
    ·exact .inr ⟨k,c,e,z.sameBut hs (cne y c e)⟩
  ·obtain ⟨w',z⟩:=I.cell y c e
   exact ⟨w',z.sameBut hs (cne y c e)⟩
  ·obtain ⟨e,n,ne,nf,d⟩:=I.pin p hp
   exact ⟨(hs.2 p.1 ne).trans e,n,ne,nf,d⟩
 ·have hfn:X.fn x=true:=by
   rcases hf with z | z
   ·exact z
   ·rw [z] at hk;cases hk
  obtain ⟨c,hc⟩:=I.ok.has x (.inl hk)
  obtain ⟨w',z⟩:=I.cell x c hc
  refine wpAny_storeName_cell I.ok.kind hk hc z (fun h' hc' hs=> ?_)
  obtain ⟨oc,hoc,hocd⟩:=id z
  refine h {s with heap:=h'} ⟨I.ok,I.os,I.bare,⟨fun b o e n hb hx=> ?_,fun b o e n hb hx=> ?_,I.base.free,fun b o e hx=> ?_,I.base.tups,I.base.frzs,I.base.tbls⟩,⟨m,hn.sameBut hs (Ne.symm (cne x c hc)),fun j y v' e1 e2 e3=> ?_⟩,fun y c' e=> ?_,I.free,I.freeC,fun p hp=> ?_,tracked ⟨oc,hoc,I.freeC x c hc⟩ hs,by simpa using I.len⟩ ⟨c,hs,.inr hc⟩
  ·exact (hs.2 b (qaR (qaw (qaQ e) (I.ok.cab x c hfn hc)))).trans (I.base.keep b o e n hb hx)
  ·obtain ⟨sl,e1⟩:=I.base.slot b o e n hb hx
   exact ⟨sl,(hs.2 b (qaR (qaw (qaQ e) (I.ok.cab x c hfn hc)))).trans e1⟩
  ·obtain ⟨o',e1⟩:=I.base.there b o e hx
   exact ⟨o',(hs.2 b (qaR (qaw (qaQ e) (I.ok.cab x c hfn hc)))).trans e1⟩
  ·by_cases hj:j=i
   ·subst hj
    rw [hi] at e1;cases e1
    rw [qai hiσ] at e2
    cases e2
    exact ⟨u,r,.inr ⟨.inl hk,c,hc,hc'⟩⟩
   ·rw [qao (Ne.symm hj)] at e2
    obtain ⟨u',r',q⟩:=hl j y v' e1 e2 e3
    refine ⟨u',r',?_⟩
    rcases q with q | ⟨k,c',e,z'⟩
    ·exact .inl q
    ·refine .inr ⟨k,c',e,z'.sameBut hs ?_⟩
     rintro rfl
     exact hj (zi6 hN e1 (I.ok.inj _ _ _ e hc▸hi))
  ·by_cases hcc:c'=c
   ·subst hcc;exact ⟨_,hc'⟩
   ·obtain ⟨w2,z2⟩:=I.cell y c' e
    exact ⟨w2,z2.sameBut hs hcc⟩
  ·obtain ⟨e,n,ne,nf,d⟩:=I.pin p hp
   refine ⟨(hs.2 p.1 ?_).trans e,n,ne,nf,d⟩
   intro q
   rw [q,hoc] at e
   have q':oc=p.2:=Option.some.inj e
   exact d w' (by rw [<- q'];exact hocd)
theorem zf1 {M:Model} {A:Around} {E:Value->Shared->Prop} {i:Nat} {x:Str} {v:V} {u:Value} {Q:Unit->Shared->Prop} (I:Inv X pins σ H s) (hN:X.N.Nodup) (hi:X.N[i]? = some x) (hx:Loc X.env.scope x) (r:zb1 v u)
  (h: ∀ s',Inv X pins (σ.set i (some v)) H s'->Q () s') (hf:X.fn x=true\/X.env.scope.names.lookup x=some .local:=by first | exact .inl rfl | exact .inr rfl | assumption):wpAny M A (storeName X.env x u) Q E s:=
 zkX I hN hi hx r (fun s' I' _=>h s' I') hf
theorem Inv.call' {s':Shared} {ch:List Addr} (I:Inv X pins σ H s) (ho:s'.os=s.os) (u:Un (frs X.stack) ch H H' s.heap s'.heap) (hok:HOk X.prog X.w H' s'.heap) (hg:AllBare s'.gens)
  (hch: ∀ b∈ch,(b∈X.ex\/X.s₀.heap.objs.size<=b)/\b≠X.env.locals/\(∀ x c,X.env.cells.lookup x=some c->c≠b)/\ ∀ p∈X.pn++pins,p.1≠b):Inv X pins σ H' s':=by
 obtain ⟨h',g',d',t',o'⟩:=s'
 have e:o'=s.os:=ho
 subst e
 exact I.call (g':=g') (t':=t') (d':=d') u hok hg hch
end
noncomputable abbrev XK:=Value->Option Addr->Hp->Prop
noncomputable abbrev St:=List (Option V)
noncomputable abbrev VK:=V->Hp->Prop
noncomputable abbrev TE:=St->Hp->VK->Prop
noncomputable abbrev TT:=St->Hp->(Bool->Hp->Prop)->Prop
noncomputable abbrev TA:=St->Hp->(List V->Hp->Prop)->Prop
structure zpZ where
 nx:St->Hp->Prop
 rt:VK
 bk:St->Hp->Prop:=fun _ _=>False
 ct:St->Hp->Prop:=fun _ _=>False
noncomputable abbrev TS:=zpZ->St->Hp->Prop
def EP (X:Cx) (pins:List (Addr×Obj)) (σ:St) (Q:VK) (u:Value) (s':Shared):Prop:= ∃ v H',Inv X pins σ H' s'/\zb1 v u/\Q v H'
def TP (X:Cx) (pins:List (Addr×Obj)) (σ:St) (Q:Bool->Hp->Prop) (b:Bool) (s':Shared):Prop:= ∃ H',Inv X pins σ H' s'/\Q b H'
def AP (X:Cx) (pins:List (Addr×Obj)) (σ:St) (Q:List V->Hp->Prop) (us:List Value) (s':Shared):Prop:= ∃ vs H',Inv X pins σ H' s'/\za3 vs us/\Q vs H'
def SP (X:Cx) (pins:List (Addr×Obj)) (D:zpZ) (f:Flow) (s':Shared):Prop:=
 match f with
 | .next=> ∃ σ' H',Inv X pins σ' H' s'/\D.nx σ' H'
 | .brk=> ∃ σ' H',Inv X pins σ' H' s'/\D.bk σ' H'
 | .cont=> ∃ σ' H',Inv X pins σ' H' s'/\D.ct σ' H'
 | .ret u=> ∃ v σ' H',Inv X pins σ' H' s'/\zb1 v u/\D.rt v H'
def PE (X:Cx) (e:Expr) (t:TE):Prop:=
 ∀ (pins:List (Addr×Obj)) (s:Shared) (σ:St) (H:Hp) (Q:VK),Inv X pins σ H s->t σ H Q->wpAny (model X.prog X.w) X.A (eval e X.env) (EP X pins σ Q) X.xe s
def PT (X:Cx) (e:Expr) (t:TT):Prop:=
 ∀ (pins:List (Addr×Obj)) (s:Shared) (σ:St) (H:Hp) (Q:Bool->Hp->Prop),Inv X pins σ H s->t σ H Q->wpAny (model X.prog X.w) X.A (isTrue e X.env (eval e X.env)) (TP X pins σ Q) X.xe s
def PW (X:Cx) (e:Expr) (t:TT):Prop:=
 ∀ (whole:Sem Value) (pins:List (Addr×Obj)) (s:Shared) (σ:St) (H:Hp) (Q:Bool->Hp->Prop),Inv X pins σ H s->t σ H Q->wpAny (model X.prog X.w) X.A (isTrue e X.env whole) (TP X pins σ Q) X.xe s
theorem PW.pt {X:Cx} {e:Expr} {t:TT} (h:PW X e t):PT X e t:=h _
def PA (X:Cx) (es:List Expr) (t:TA):Prop:=
 ∀ (pos:Pos) (pins:List (Addr×Obj)) (s:Shared) (σ:St) (H:Hp) (Q:List V->Hp->Prop),Inv X pins σ H s->t σ H Q->wpAny (model X.prog X.w) X.A (spliced (backTo pos (starEach es X.env))) (AP X pins σ Q) X.xe s
def PS (X:Cx) (st:Stmt) (t:TS):Prop:=
 ∀ (pins:List (Addr×Obj)) (s:Shared) (σ:St) (H:Hp) (D:zpZ),Inv X pins σ H s->t D σ H->wpAny (model X.prog X.w) X.A (exec st X.env) (SP X pins D) X.xe s
def PSs (X:Cx) (st:List Stmt) (t:TS):Prop:=
 ∀ (pins:List (Addr×Obj)) (s:Shared) (σ:St) (H:Hp) (D:zpZ),Inv X pins σ H s->t D σ H->wpAny (model X.prog X.w) X.A (execs st X.env) (SP X pins D) X.xe s
theorem thn {α:Type} {t:Sem α} {Q Q':α->Shared->Prop} {M:Model} {A:Around} {E:Value->Shared->Prop} {s:Shared} (h:wpAny M A t Q E s) (hQ: ∀ a s,Q a s->Q' a s):wpAny M A t Q' E s:=qaZ h hQ fun _ _ x=>x
section
variable {X:Cx}
noncomputable def ztV (i:Nat):TE:=fun σ H Q=> ∃ v,σ[i]? = some (some v)/\Q v H
noncomputable def tC (v:V):TE:=fun _ H Q=>Q v H
theorem zn0 {i:Nat} {x:Str} {pos:Pos} (hN:X.N[i]? = some x) (hv:Vis X.env.scope x) (hd:(x==("__debug__":Str))=false:=by decide) (hcd:(x==("__classdict__":Str))=false:=by decide):PE X (.Name x pos) (ztV i):=by
 intro pins s σ H Q I h
 obtain ⟨v,e,h⟩:=h
 obtain ⟨m,hn,hl⟩:=I.loc
 obtain ⟨u,r,l⟩:=hl i x v hN e hv
 have fin:EP X pins σ Q u s:=⟨v,H,I,r,h⟩
 rcases l with ⟨hk,hm⟩ | ⟨hk,c,hc,hcell⟩
 ·exact wpAny_Name (wpAny_loadName_local I.ok.kind hk hn hm fin) hd
 ·rcases hk with hk | hk
  ·exact wpAny_Name (wpAny_loadName_cell I.ok.kind hk hc hcell fin) hd
  ·exact wpAny_Name (wpAny_loadName_free I.ok.kind hk hc hcell fin hcd) hd
theorem zqG {i j pos}:PE X (.Constant (.int i) j pos) (tC (.int i)):=fun _ _ _ H _ I h=>wpAny_Constant_int ⟨.int i,H,I.tok _,⟨_,rfl⟩,h⟩
theorem ztF {b j pos}:PE X (.Constant (.bool b) j pos) (tC (.bl b)):=fun _ _ _ H _ I h=>Constant_bool ⟨.bl b,H,I,rfl,h⟩
def Gl (X:Cx) (x:Str):Prop:=X.env.kindOf x=some .globalImplicit
theorem zl4 {E:Value->Shared->Prop} {pins:List (Addr×Obj)} {s:Shared} {σ:St} {H:Hp} {x:Str} {u:Value} {pos:Pos} {Q:Value->Shared->Prop} (I:Inv X pins σ H s) (hg:Gl X x) (hm:X.mg x=some u) (h:Q u s)
  (hd:(x==("__debug__":Str))=false:=by decide):wpAny (model X.prog X.w) X.A (eval (.Name x pos) X.env) Q E s:=
 Calls.Name_function_global I.ok.kind hg (Calls.loadGlobal_global (by rw [I.ok.glob];exact I.mod.glob.keeps I.bk) hm h) hd
theorem zer {E:Value->Shared->Prop} {pins:List (Addr×Obj)} {s:Shared} {σ:St} {H:Hp} {x:Str} {u:Value} {pos:Pos} {Q:Value->Shared->Prop} (I:Inv X pins σ H s) (hg:Gl X x) (hm:X.mg x=none) (hv:bootBuiltins x=some u) (h:Q u s)
  (hn:x≠"__name__":=by decide) (hd:(x==("__debug__":Str))=false:=by decide):wpAny (model X.prog X.w) X.A (eval (.Name x pos) X.env) Q E s:=by
 obtain ⟨mb,h1,h2⟩:=I.mod.blt
 exact Calls.Name_function_global I.ok.kind hg (Calls.loadGlobal_builtin (by rw [I.ok.glob];exact I.mod.glob.keeps I.bk) hm (by rw [I.ok.blt];exact h1.keeps I.bk) ((h2 x hn).trans hv) h) hd
theorem zoD {x:Str} {v:V} {u:Value} {pos:Pos} (hg:Gl X x) (hm:X.mg x=some u) (r:zb1 v u) (hd:(x==("__debug__":Str))=false:=by decide):PE X (.Name x pos) (tC v):=
 fun _ _ _ H _ I h=>zl4 I hg hm ⟨v,H,I,r,h⟩ hd
theorem zoV {x:Str} {v:V} {u:Value} {pos:Pos} (hg:Gl X x) (hm:X.mg x=none) (hv:bootBuiltins x=some u) (r:zb1 v u) (hn:x≠"__name__":=by decide) (hd:(x==("__debug__":Str))=false:=by decide):PE X (.Name x pos) (tC v):=
 fun _ _ _ H _ I h=>zer I hg hm hv ⟨v,H,I,r,h⟩ hn hd
noncomputable def t2I (ta tb:TE) (k:Int->Int->Hp->Prop):St->Hp->Prop:=fun σ H=>ta σ H fun x H1=>tb σ H1 fun y H2=> ∃ i j,x= .int i/\y= .int j/\k i j H2
variable {a b:Expr} {ta tb:TE} {pos:Pos}
noncomputable def zcx (p:Int->Int->Bool) (ta tb:TE):TE:=fun σ H Q=>t2I ta tb (fun i j H2=>Q (.bl (p i j)) H2) σ H
noncomputable def tB (t:TE):TT:=fun σ H Q=>t σ H fun x H1=> ∃ c,x= .bl c/\Q c H1
theorem zrQ {e:Expr} {t:TE} (h:PE X e t) (he: ∀ whole,isTrue e X.env whole=(do let v<-whole;standAt e.pos;holding [v] (truthy v)):=by intro _;rfl):PT X e (tB t):=by
 intro pins s σ H Q I hw
 refine isTrue_plain (thn (h pins s σ H _ I hw) fun v s1 ⟨x,H1,I1,r1,q1⟩=> ?_) (he _)
 obtain ⟨d,rfl,q⟩:=q1
 cases r1
 exact wpAny_truthy_bool ⟨H1,I1,q⟩
variable {tA tB':TT} {zbs:List Expr}
noncomputable def zrK (t u:TT):TT:=fun σ H Q=>t σ H fun c H1=>if c=true then u σ H1 Q else Q false H1
noncomputable def tOr (t u:TT):TT:=fun σ H Q=>t σ H fun c H1=>if c=true then Q true H1 else u σ H1 Q
noncomputable def zh2 (t:TT):TT:=fun σ H Q=>t σ H fun c H1=>Q (!c) H1
theorem pw_and1 (ha:PT X a tA):PW X (.BoolOp .And [a] pos) tA:=by
 intro wh pins s σ H Q I h
 refine isTrue_and (thn (ha pins s σ H Q I h) fun c s1 e=> ?_)
 cases c with
 | true=>exact isTrue_and_nil e
 | false=>exact e
theorem pw_or1 (ha:PT X a tA):PW X (.BoolOp .Or [a] pos) tA:=by
 intro wh pins s σ H Q I h
 refine isTrue_or (thn (ha pins s σ H Q I h) fun c s1 e=> ?_)
 cases c with
 | false=>exact isTrue_or_nil e
 | true=>exact e
theorem pw_and (ha:PT X a tA) (hb:PW X (.BoolOp .And (b::zbs) pos) tB'):PW X (.BoolOp .And (a::b::zbs) pos) (zrK tA tB'):=by
 intro wh pins s σ H Q I h
 refine isTrue_and (thn (ha pins s σ H _ I h) fun c s1 ⟨H1,I1,q1⟩=> ?_)
 cases c with
 | true=>exact hb wh pins s1 σ H1 Q I1 q1
 | false=>exact ⟨H1,I1,q1⟩
theorem pw_or (ha:PT X a tA) (hb:PW X (.BoolOp .Or (b::zbs) pos) tB'):PW X (.BoolOp .Or (a::b::zbs) pos) (tOr tA tB'):=by
 intro wh pins s σ H Q I h
 refine isTrue_or (thn (ha pins s σ H _ I h) fun c s1 ⟨H1,I1,q1⟩=> ?_)
 cases c with
 | true=>exact ⟨H1,I1,q1⟩
 | false=>exact hb wh pins s1 σ H1 Q I1 q1
theorem zq8 (ha:PT X a tA):PT X (.UnaryOp .Not a pos) (zh2 tA):=by
 intro pins s σ H Q I h
 exact isTrue_not (ha pins s σ H (fun c H1=>Q (!c) H1) I h)
noncomputable def ztn (ta tb:TE):TE:=fun σ H Q=>ta σ H fun x H1=> ∃ c,x= .bl c/\if c=true then tb σ H1 Q else Q (.bl false) H1
noncomputable def zux (ta tb:TE):TE:=fun σ H Q=>ta σ H fun x H1=> ∃ c,x= .bl c/\if c=true then Q (.bl true) H1 else tb σ H1 Q
noncomputable def zsO (ta:TE):TE:=fun σ H Q=>ta σ H fun x H1=> ∃ c,x= .bl c/\Q (.bl (!c)) H1
theorem zqK {op} {t:TE} (h:PE X a t):PE X (.BoolOp op [a] pos) t:=fun pins s σ H Q I hw=>BoolOp_one (h pins s σ H Q I hw)
theorem zsa (ha:PE X a ta) (hb:PE X (.BoolOp .And (b::zbs) pos) tb):PE X (.BoolOp .And (a::b::zbs) pos) (ztn ta tb):=by
 intro pins s σ H Q I h
 refine BoolOp_and (thn (ha pins s σ H _ I h) fun v s1 ⟨x,H1,I1,r1,q1⟩=> ?_)
 obtain ⟨c,rfl,q1⟩:=q1
 cases r1
 refine wpAny_truthy_bool ?_
 cases c with
 | true=>exact hb pins s1 σ H1 Q I1 q1
 | false=>exact ⟨.bl false,H1,I1,rfl,q1⟩
theorem ztq (ha:PE X a ta) (hb:PE X (.BoolOp .Or (b::zbs) pos) tb):PE X (.BoolOp .Or (a::b::zbs) pos) (zux ta tb):=by
 intro pins s σ H Q I h
 refine BoolOp_or (thn (ha pins s σ H _ I h) fun v s1 ⟨x,H1,I1,r1,q1⟩=> ?_)
 obtain ⟨c,rfl,q1⟩:=q1
 cases r1
 refine wpAny_truthy_bool ?_
 cases c with
 | false=>exact hb pins s1 σ H1 Q I1 q1
 | true=>exact ⟨.bl true,H1,I1,rfl,q1⟩
theorem zqp (ha:PE X a ta):PE X (.UnaryOp .Not a pos) (zsO ta):=by
 intro pins s σ H Q I h
 refine UnaryOp_ (thn (ha pins s σ H _ I h) fun v s1 ⟨x,H1,I1,r1,q1⟩=> ?_)
 obtain ⟨c,rfl,q1⟩:=q1
 cases r1
 exact not_of (wpAny_truthy_bool ⟨.bl (!c),H1,I1,rfl,q1⟩)
end
def SqL (K:W.Frag) (H:Hp) (a:Addr) (xs:List V):Prop:=
 Rd H a (.lst xs)\/
  ∃ (o:Obj) (its:Array Value) (n:Nat),K.lookup a=some o/\o.cls= .type "list"/\o.dict=none/\o.data= .seq its n/\its.size<=sizeLine/\za3 xs its.toList
def SqT (K:W.Frag) (H:Hp) (a:Addr) (xs:List V):Prop:=
 Rd H a (.tup xs)\/
  ∃ (o:Obj) (its:Array Value) (n:Nat),K.lookup a=some o/\o.cls= .type "tuple"/\o.data= .seq its n/\its.size<=sizeLine/\za3 xs its.toList
noncomputable def zt2:Value->Option V
 | .none=>some .non
 | .bool b=>some (.bl b)
 | .int i _=>some (.int i)
 | .str x _=>some (.str x)
 | .bytes b _=>some (.byt b)
 | .float b _=>some (.flt b)
 | .ref a=>some (.ref a)
 | .type n=>some (.ty n)
 | _=>none
theorem zb1.abs {x:V} {u:Value} (r:zb1 x u):zt2 u=some x:=by
 cases x with
 | non=>cases r;rfl
 | bl _=>cases r;rfl
 | int _=>obtain ⟨t,rfl⟩:=r;rfl
 | str _=>obtain ⟨t,rfl⟩:=r;rfl
 | byt _=>obtain ⟨t,rfl⟩:=r;rfl
 | flt _=>obtain ⟨t,rfl⟩:=r;rfl
 | ref _=>cases r;rfl
 | ty _=>cases r;rfl
theorem zb1.inj {x y:V} {u:Value} (r:zb1 x u) (q:zb1 y u):x=y:=Option.some.inj (r.abs.symm.trans q.abs)
theorem za3.inj: ∀ {xs ys:List V} {us:List Value},za3 xs us->za3 ys us->xs=ys
 | _,_,_,.nil,.nil=>rfl
 | _,_,_,.cons r t,.cons r' t'=>by rw [r.inj r',za3.inj t t']
section
variable {X:Cx} {pins:List (Addr×Obj)} {σ:St} {H:Hp} {s:Shared} {a:Addr} {xs ys:List V}
theorem SqL.of {K:W.Frag} (h:H a=some (.lst xs)):SqL K H a xs:= .inl (.inl h)
theorem SqT.of {K:W.Frag} (h:H a=some (.tup xs)):SqT K H a xs:= .inl (.inl h)
theorem Inv.list (I:Inv X pins σ H s) (h:SqL X.K H a xs): ∃ its:List Value,za3 xs its/\PlainL s.heap a its.toArray/\xs.length<=sizeLine:=by
 rcases h with h | ⟨o,its,n,hk,hc,hd,hs,hz,r⟩
 ·obtain ⟨z,its,n,r,e⟩:=h.ok I.hok
  exact ⟨its,r,⟨_,n,e,rfl,rfl,rfl⟩,z⟩
 ·refine ⟨its.toList,r,⟨o,n,I.kIn a o hk,hc,hd,by simpa using hs⟩,?_⟩
  have e:=r.length
  simp only [qas] at e
  omega
theorem Inv.tuple (I:Inv X pins σ H s) (h:SqT X.K H a xs): ∃ its:List Value,za3 xs its/\IsTup s.heap a its.toArray/\xs.length<=sizeLine:=by
 rcases h with h | ⟨o,its,n,hk,hc,hs,hz,r⟩
 ·obtain ⟨z,its,r,p⟩:=h.ok I.hok
  exact ⟨its,r,p,z⟩
 ·refine ⟨its.toList,r,⟨o,I.kIn a o hk,hc,n,by simpa using hs⟩,?_⟩
  have e:=r.length
  simp only [qas] at e
  omega
theorem Inv.list_inj (I:Inv X pins σ H s) (h:SqL X.K H a xs) (h':SqL X.K H a ys):xs=ys:=by
 obtain ⟨its,r,⟨o,n,e,_,_,d⟩,_⟩:=I.list h
 obtain ⟨its',r',⟨o',n',e',_,_,d'⟩,_⟩:=I.list h'
 rw [e] at e';cases e'
 rw [d] at d'
 injection d' with d1 _
 have:its=its':=by simpa using congrArg Array.toList d1
 subst this
 exact r.inj r'
theorem Inv.tuple_inj (I:Inv X pins σ H s) (h:SqT X.K H a xs) (h':SqT X.K H a ys):xs=ys:=by
 obtain ⟨its,r,⟨o,e,_,n,d⟩,_⟩:=I.tuple h
 obtain ⟨its',r',⟨o',e',_,n',d'⟩,_⟩:=I.tuple h'
 rw [e] at e';cases e'
 rw [d] at d'
 injection d' with d1 _
 have:its=its':=by simpa using congrArg Array.toList d1
 subst this
 exact r.inj r'
end
noncomputable abbrev Cx.wish (X:Cx) (E:Value->Shared->Prop):Cx:={X with xe:=E}
noncomputable abbrev Cx.nox (X:Cx):Cx:=X.wish fun _ _=>False
theorem Cx.Ok.wish {X:Cx} (ok:X.Ok) (E:Value->Shared->Prop):(X.wish E).Ok:=
 ⟨ok.mod,ok.kind,ok.glob,ok.blt,ok.above,ok.inj,ok.has,ok.cab,ok.hd,ok.hx,ok.frames,ok.stk,ok.exf,ok.bs,ok.bsz,ok.noex,ok.exfs,ok.funs,ok.frf⟩
theorem Cx.Ok.unwish {X:Cx} {E:Value->Shared->Prop} (ok:(X.wish E).Ok):X.Ok:=
 ⟨ok.mod,ok.kind,ok.glob,ok.blt,ok.above,ok.inj,ok.has,ok.cab,ok.hd,ok.hx,ok.frames,ok.stk,ok.exf,ok.bs,ok.bsz,ok.noex,ok.exfs,ok.funs,ok.frf⟩
section
variable {X:Cx} {pins:List (Addr×Obj)} {σ:St} {H:Hp} {s:Shared} {E:Value->Shared->Prop}
theorem Inv.wish (I:Inv X pins σ H s) (E:Value->Shared->Prop):Inv (X.wish E) pins σ H s:=⟨I.ok.wish E,I.os,I.bare,I.base,I.loc,I.cell,I.free,I.freeC,I.pin,I.hok,I.len⟩
theorem Inv.unwish (I:Inv (X.wish E) pins σ H s):Inv X pins σ H s:=⟨I.ok.unwish,I.os,I.bare,I.base,I.loc,I.cell,I.free,I.freeC,I.pin,I.hok,I.len⟩
theorem SP.unwish {D:zpZ} {f:Flow} {s':Shared} (h:SP (X.wish E) pins D f s'):SP X pins D f s':=by
 cases f with
 | next=>obtain ⟨σ',H',I,q⟩:=h;exact ⟨σ',H',I.unwish,q⟩
 | brk=>obtain ⟨σ',H',I,q⟩:=h;exact ⟨σ',H',I.unwish,q⟩
 | cont=>obtain ⟨σ',H',I,q⟩:=h;exact ⟨σ',H',I.unwish,q⟩
 | ret u=>obtain ⟨v,σ',H',I,r,q⟩:=h;exact ⟨v,σ',H',I.unwish,r,q⟩
theorem PE.nox {e:Expr} {t:TE} (h:PE X.nox e t):PE X e t:=fun pins s σ H Q I hw=>
 qaZ (h pins s σ H Q (I.wish _) hw) (fun _ _ ⟨v,H',I',r,q⟩=>⟨v,H',I'.unwish,r,q⟩) fun _ _ z=>qa0 z
theorem PT.nox {e:Expr} {t:TT} (h:PT X.nox e t):PT X e t:=fun pins s σ H Q I hw=>
 qaZ (h pins s σ H Q (I.wish _) hw) (fun _ _ ⟨H',I',q⟩=>⟨H',I'.unwish,q⟩) fun _ _ z=>qa0 z
theorem PSs.nox {st:List Stmt} {t:TS} (h:PSs X.nox st t):PSs X st t:=fun pins s σ H D I hw=>
 qaZ (h pins s σ H D (I.wish _) hw) (fun _ _ q=>q.unwish) fun _ _ z=>qa0 z
end
section
variable {X:Cx} {st:Stmt} {zbs:List Stmt} {t u:TS} {e:Expr} {te:TE} {pos:Pos}
noncomputable def zsV:TS:=fun D σ H=>D.nx σ H
noncomputable def zul (t u:TS):TS:=fun D σ H=>t {D with nx:=u D} σ H
theorem zpQ:PSs X [] zsV:=fun _ _ σ H _ I h=>wpAny_execs_nil ⟨σ,H,I,h⟩
theorem zna (h1:PS X st t) (h2:PSs X zbs u):PSs X (st::zbs) (zul t u):=by
 intro pins s σ H D I h
 refine wpAny_execs_cons (thn (h1 pins s σ H {D with nx:=u D} I h) fun f s1 q=> ?_)
 cases f with
 | next=>
  obtain ⟨σ',H',I',q⟩:=q
  exact h2 pins s1 σ' H' D I' q
 | ret v=>exact q
 | brk=>exact q
 | cont=>exact q
theorem zpW (h1:PS X st t):PSs X [st] t:=by
 intro pins s σ H D I h
 refine wpAny_execs_cons (thn (h1 pins s σ H D I h) fun f s1 q=> ?_)
 cases f with
 | next=>exact wpAny_execs_nil q
 | ret v=>exact q
 | brk=>exact q
 | cont=>exact q
theorem Inv.quiet {pins:List (Addr×Obj)} {σ:St} {H:Hp} {s:Shared} (I:Inv X pins σ H s):interactive X.env=false:=by simp [interactive,I.ok.kind]
noncomputable def zsH (te:TE):TS:=fun D σ H=>te σ H fun _ H1=>D.nx σ H1
theorem zph (he:PE X e te) (hs:swapsWith e none pos.line X.env=pure false:=by rfl):PS X (.Expr e pos) (zsH te):=by
 intro pins s σ H D I h
 exact wpAny_Expr_any (thn (he pins s σ H _ I h) fun v s1 ⟨x,H1,I1,r1,q1⟩=>⟨σ,H1,I1,q1⟩) I.quiet hs
noncomputable def zt4 (te:TE):TS:=fun D σ H=>te σ H D.rt
theorem zr1 (he:PE X e te):PS X (.Return (some e) pos) (zt4 te):=by
 intro pins s σ H D I h
 exact wpAny_Return_some (thn (he pins s σ H _ I h) fun v s1 ⟨x,H1,I1,r1,q1⟩=>⟨x,σ,H1,I1,r1,q1⟩)
noncomputable def zuq (c:TT) (t u:TS):TS:=fun D σ H=>c σ H fun b H1=>if b=true then t D σ H1 else u D σ H1
theorem zsG {c:Expr} {a b:List Stmt} {tc:TT} (hc:PT X c tc) (ha:PSs X a t) (hb:PSs X b u):PS X (.If c a b pos) (zuq tc t u):=by
 intro pins s σ H D I h
 refine wpAny_If (thn (hc pins s σ H _ I h) fun d s1 ⟨H1,I1,q1⟩=> ?_)
 cases d with
 | true=>exact ha pins s1 σ H1 D I1 q1
 | false=>exact hb pins s1 σ H1 D I1 q1
end
noncomputable abbrev TG:=V->St->Hp->(St->Hp->Prop)->Prop
noncomputable abbrev TGs:=List V->St->Hp->(St->Hp->Prop)->Prop
def PG (X:Cx) (target:Expr) (t:TG):Prop:=
 ∀ (pins:List (Addr×Obj)) (s:Shared) (σ:St) (H:Hp) (v:V) (u:Value) (Q:St->Hp->Prop),Inv X pins σ H s->zb1 v u->t v σ H Q->
  wpAny (model X.prog X.w) X.A (assign target X.env u) (fun _ s'=> ∃ σ' H',Inv X pins σ' H' s'/\Q σ' H') X.xe s
def PGs (X:Cx) (ts:List Expr) (t:TGs):Prop:=
 ∀ (pins:List (Addr×Obj)) (s:Shared) (σ:St) (H:Hp) (vs:List V) (us:List Value) (Q:St->Hp->Prop),Inv X pins σ H s->za3 vs us->t vs σ H Q->
  wpAny (model X.prog X.w) X.A (assignInOrder ((assignEach ts X.env).map (·.2)) us) (fun _ s'=> ∃ σ' H',Inv X pins σ' H' s'/\Q σ' H') X.xe s
noncomputable abbrev zqL:=V->V->V->Hp->(Hp->Prop)->Prop
def zpY (X:Cx) (t:zqL):Prop:=
 ∀ (pins:List (Addr×Obj)) (s:Shared) (σ:St) (H:Hp) (o i v:V) (ov iv u:Value) (Q:Hp->Prop),Inv X pins σ H s->zb1 o ov->zb1 i iv->zb1 v u->t o i v H Q->
  wpAny (model X.prog X.w) X.A (setItem ov iv u) (fun _ s'=> ∃ H',Inv X pins σ H' s'/\Q H') X.xe s
section
variable {X:Cx} {pos:Pos}
noncomputable def zo2 (i:Nat):TG:=fun v σ H Q=>Q (σ.set i (some v)) H
theorem zoR {i:Nat} {x:Str} (hN:X.N.Nodup) (hi:X.N[i]? = some x) (hx:Loc X.env.scope x) (hf:X.fn x=true\/X.env.scope.names.lookup x=some .local:=by first | exact .inl rfl | exact .inr rfl | assumption):PG X (.Name x pos) (zo2 i):=by
 intro pins s σ H v u Q I r h
 exact wpAny_assign_Name (zf1 I hN hi hx r (fun s' I'=>⟨_,H,I',h⟩) hf)
noncomputable def zut:TGs:=fun vs σ H Q=>vs=[]/\Q σ H
noncomputable def zth (t:TG) (u:TGs):TGs:=fun vs σ H Q=> ∃ v r,vs=v::r/\t v σ H fun σ' H'=>u r σ' H' Q
theorem zoe:PGs X [] zut:=by
 intro pins s σ H vs us Q I r h
 obtain ⟨e,h⟩:=h
 subst e
 cases r
 exact assignInOrder_nil ⟨σ,H,I,h⟩
theorem zm7 {e:Expr} {es:List Expr} {t:TG} {u:TGs} (h1:PG X e t) (h2:PGs X es u)
  (hs:(assignEach (e::es) X.env).map (·.2)=assign e X.env::(assignEach es X.env).map (·.2):=by rfl):PGs X (e::es) (zth t u):=by
 intro pins s σ H vs us Q I r h
 obtain ⟨v,vr,e1,h⟩:=h
 subst e1
 cases r with
 | cons r rr=>
  rw [hs]
  refine assignInOrder_cons (thn (h1 pins s σ H _ _ _ I r h) fun _ s1 ⟨σ1,H1,I1,q1⟩=> ?_)
  exact h2 pins s1 σ1 H1 _ _ Q I1 rr q1
noncomputable def zun (K:W.Frag) (n:Nat) (t:TGs):TG:=fun v σ H Q=> ∃ a xs,v= .ref a/\SqT K H a xs/\xs.length=n/\t xs σ H Q
theorem zr6 {es:List Expr} {k:Nat} {t:TGs} {n:Nat} (hc:X.calm=true) (h:PGs X es t)
  (hn:(assignEach es X.env).length=n:=by rfl) (hst:(assignEach es X.env).findIdx? (·.1)=none:=by rfl):PG X (.Tuple es k pos) (zun X.K n t):=by
 intro pins s σ H v u Q I r hw
 obtain ⟨a,xs,e1,hq,hl,hw⟩:=hw
 subst e1
 cases r
 obtain ⟨its,rv,ht,hz⟩:=I.tuple hq
 refine assign_Tuple_tuple (I.ok.hd hc) ht (by simp [hn, <-hl,rv.length]) hst fun h' hx=> ?_
 have I1:Inv X pins σ H {s with heap:=h'}:=I.kept (t':=s.toks) fun b o e=>hx b o (qaR (qaQ e)) e
 exact h pins _ σ H xs _ Q I1 (by simpa using rv) hw
noncomputable def ztR (to ti:TE) (t:zqL):TG:=fun v σ H Q=>to σ H fun o H1=>ti σ H1 fun i H2=>t o i v H2 fun H3=>Q σ H3
theorem zqn {o i:Expr} {to ti:TE} {t:zqL} (ho:PE X o to) (hi:PE X i ti) (hs:zpY X t)
  (ha: ∀ v,assign (.Subscript o i pos) X.env v=(do
    let ov<-holding [v] (eval o X.env)
    let iv<-holding [v,ov] (eval i X.env)
    standAt pos
    holding [v,ov,iv] (setItem ov iv v)
    release [v,ov,iv] []):=by intro _;rfl):PG X (.Subscript o i pos) (ztR to ti t):=by
 intro pins s σ H v u Q I r h
 rw [ha]
 refine qaW (qaO (thn (ho pins s σ H _ I h) fun ov s1 ⟨x,H1,I1,r1,q1⟩=> ?_))
 refine qaW (qaO (thn (hi pins s1 σ H1 _ I1 q1) fun iv s2 ⟨y,H2,I2,r2,q2⟩=> ?_))
 refine qaW (wpAny_standAt (qaW (qaO (thn (hs pins s2 σ H2 x y v ov iv u _ I2 r1 r2 r q2) fun _ s3 ⟨H3,I3,q3⟩=> ?_))))
 exact wpAny_release ⟨σ,H3,I3,q3⟩
noncomputable def zsP (te:TE) (g:TG):TS:=fun D σ H=>te σ H fun x H1=>g x σ H1 D.nx
theorem zqb {tg e:Expr} {te:TE} {g:TG} (he:PE X e te) (hg:PG X tg g) (hs:swapsWithSole [tg] e pos.line X.env=pure false:=by rfl) (hw:swappedStores [tg] e X.env=pure none:=by rfl)
  (h1:(assignEach [tg] X.env).map (·.2)=[assign tg X.env]:=by rfl):PS X (.Assign [tg] e pos) (zsP te g):=by
 intro pins s σ H D I h
 refine wpAny_Assign_stores (thn (he pins s σ H _ I h) fun v s1 ⟨x,H1,I1,r1,q1⟩=> ?_) hs hw
 rw [h1]
 exact thn (hg pins s1 σ H1 x v _ I1 r1 q1) fun _ s2 q=>q
theorem zq3 {i:Nat} {x:Str} {e:Expr} {te:TE} {pos':Pos} (hN:X.N.Nodup) (hi:X.N[i]? = some x) (hx:Loc X.env.scope x) (he:PE X e te) (hs:swapsWith e (some (.Name x pos')) pos.line X.env=pure false:=by rfl) (hf:X.fn x=true\/X.env.scope.names.lookup x=some .local:=by first | exact .inl rfl | exact .inr rfl | assumption):
  PS X (.Assign [.Name x pos'] e pos) (zsP te (zo2 i)):=by
 intro pins s σ H D I h
 refine wpAny_Assign_Name (thn (he pins s σ H _ I h) fun v s1 ⟨y,H1,I1,r1,q1⟩=> ?_) hs
 exact zf1 I1 hN hi hx r1 (fun s2 I2=>⟨_,H1,I2,q1⟩) hf
end
section
variable {X:Cx} {pos:Pos}
noncomputable def zrn (c:TT) (tb:TS):TS:=fun D σ H=> ∃ W:Nat->St->Hp->Prop,(∃ m,W m σ H)/\ ∀ m σ H,W m σ H->
 c σ H fun b H1=>if b=true then ∃ N:St->Hp->Prop,(∀ σ' H',N σ' H'-> ∃ m',m'<m/\W m' σ' H')/\tb {D with nx:=N,ct:=N,bk:=D.nx} σ H1 else D.nx σ H1
theorem zmf {c:Expr} {body:List Stmt} {tc:TT} {tb:TS} (hp:PassesOwn (model X.prog X.w) X.A X.env X.xe) (hc:PT X c tc) (hb:PSs X body tb):PS X (.While c body [] pos) (zrn tc tb):=by
 intro pins s σ H D I h
 obtain ⟨W,⟨m0,w0⟩,turn⟩:=h
 refine wpAny_While (codeAny_whileLoop (fun n s'=> ∃ σ' H',Inv X pins σ' H' s'/\W n σ' H') ?_ m0 ⟨σ,H,I,w0⟩)
 rintro n s1 ⟨σ1,H1,I1,w1⟩
 refine wpAny_passesOwn hp (thn (hc pins s1 σ1 H1 _ I1 (turn n σ1 H1 w1)) fun b s2 ⟨H2,I2,q2⟩=> ?_)
 cases b with
 | true=>
  obtain ⟨N,hN,q2⟩:=q2
  rw [qa4 rfl]
  refine wpAny_passesOwn hp (thn (hb pins s2 σ1 H2 _ I2 q2) fun f s3 q3=> ?_)
  cases f with
  | next=>
   obtain ⟨σ3,H3,I3,n3⟩:=q3
   obtain ⟨m',hm,w3⟩:=hN σ3 H3 n3
   exact ⟨m',hm,σ3,H3,I3,w3⟩
  | cont=>
   obtain ⟨σ3,H3,I3,n3⟩:=q3
   obtain ⟨m',hm,w3⟩:=hN σ3 H3 n3
   exact ⟨m',hm,σ3,H3,I3,w3⟩
  | brk=>exact q3
  | ret v=>exact q3
 | false=>
  rw [qa5 Bool.false_ne_true]
  exact wpAny_execs_nil ⟨σ1,H2,I2,q2⟩
end
structure It where
 go:Nat->Hp->Prop
 yld:Nat->Hp->V->Hp->Prop
 stop:Nat->Hp->Prop
def zhO (X:Cx) (pins:List (Addr×Obj)) (H:Hp) (b:Addr):Prop:=
 H b=none/\b≠X.env.locals/\b∉X.fs/\(b∈X.ex\/X.s₀.heap.objs.size<=b)/\(∀ x c,X.env.cells.lookup x=some c->c≠b)/\ ∀ p∈X.pn++pins,p.1≠b
theorem Inv.fpOk {X:Cx} {pins:List (Addr×Obj)} {σ:St} {H H':Hp} {s:Shared} {b:Addr} (I:Inv X pins σ H s) (hb:s.heap.objs.size<=b) (hn:H' b=none):zhO X pins H' b:=by
 refine ⟨hn,Nat.ne_of_gt (qaw I.lt hb),I.nofs hb,.inr (qaS I.sz hb),fun x c e z=> ?_,fun p hp z=> ?_⟩
 ·obtain ⟨v,q⟩:=I.cell x c e
  exact absurd (qaw q.lt (by rw [z];exact hb)) (qaN _)
 ·exact absurd (qaw (qaQ (I.pin p hp).1) (by rw [z];exact hb)) (qaN _)
structure zn3 (P:Program) (w:World) (K:W.Frag) (tg:Expr) (J:It) (fp:List Addr) (it:Addr) (tn:Nat->Heap->Prop):Prop where
 mem:it∈fp
 obj: ∀ i h,tn i h-> ∀ b∈fp, ∃ o,h.get? b=some o/\ ∀ v,o.data≠ .cell v
 keep: ∀ i h h',tn i h->(∀ b∈fp, ∀ o,h.get? b=some o->h'.get? b=some o)->tn i h'
 item: ∀ (X:Cx),X.prog=P->X.w=w->X.K=K-> ∀ (i:Nat) (pins:List (Addr×Obj)) (s:Shared) (σ:St) (H:Hp) (E:Value->Shared->Prop),Inv X pins σ H s->(∀ b∈fp,zhO X pins H b)->tn i s.heap->J.go i H->
  wpAny (model P w) X.A (pyNext (.ref it)) (fun r s1=> ∃ u,r=some u/\
    wpAny (model P w) X.A (letOwnedTupleGo tg (.ref it) u) (fun _ s2=> ∃ x H',Inv X pins σ H' s2/\zb1 x u/\J.yld i H x H'/\tn (i+1) s2.heap/\ ∀ b∈fp,H' b=none) E s1) E s
 done: ∀ (X:Cx),X.prog=P->X.w=w->X.K=K-> ∀ (i:Nat) (pins:List (Addr×Obj)) (s:Shared) (σ:St) (H:Hp) (E:Value->Shared->Prop),Inv X pins σ H s->(∀ b∈fp,zhO X pins H b)->tn i s.heap->J.stop i H->
  wpAny (model P w) X.A (pyNext (.ref it)) (fun r s1=>r=none/\Inv X pins σ H s1) E s
 self: ∀ (A:Around) (i:Nat) (s:Shared) (Q:Value->Shared->Prop) (E:Value->Shared->Prop),tn i s.heap->Q (.ref it) s->wpAny (model P w) A (pyIter (.ref it)) Q E s
noncomputable abbrev TI:=St->Hp->(It->Hp->Prop)->Prop
def PIE (X:Cx) (pins:List (Addr×Obj)) (σ:St) (tg:Expr) (R:It->Hp->Prop) (itv:Value) (s2:Shared):Prop:=
 ∃ (it:Addr) (fp:List Addr) (tn:Nat->Heap->Prop) (J:It) (H':Hp),itv= .ref it/\Inv X pins σ H' s2/\zn3 X.prog X.w X.K tg J fp it tn/\tn 0 s2.heap/\(∀ b∈fp,zhO X pins H' b)/\R J H'
def PI (X:Cx) (tg iter:Expr) (wi:TI):Prop:=
 ∀ (pins:List (Addr×Obj)) (s:Shared) (σ:St) (H:Hp) (R:It->Hp->Prop),Inv X pins σ H s->wi σ H R->
  wpAny (model X.prog X.w) X.A (eval iter X.env) (fun v s1=>wpAny (model X.prog X.w) X.A (pyIter v) (PIE X pins σ tg R) X.xe s1) X.xe s
theorem zmx {M:Model} {A:Around} {E:Value->Shared->Prop} {s:Shared} {tg:Expr} {it:Addr} {u:Value} {o:Obj} {n:String} {vs:Array Value} {Q:Unit->Shared->Prop} (ho:s.heap.get? it=some o) (hc:o.cls= .type n) (hd:o.data= .fields vs)
  (hn:["enumerate","zip","dict_itemiterator","dict_reverseitemiterator","odict_iterator","itertools.zip_longest","itertools.pairwise"].contains n=false) (hQ:Q () s):wpAny M A (letOwnedTupleGo tg (.ref it) u) Q E s:=by
 unfold letOwnedTupleGo
 cases tg<;>first
  | exact qaX hQ
  | (cases u<;>first
      | exact qaX hQ
      | (refine qaW (wpAny_load ho ?_)
         rw [hc,hd]
         show wpAny M A (if (["enumerate","zip","dict_itemiterator","dict_reverseitemiterator","odict_iterator","itertools.zip_longest","itertools.pairwise"].contains n && vs[0]? == some (rawInt _))=true then _ else _) Q E s
         rw [qa5 (by intro h;rw [hn,Bool.false_and] at h;cases h)]
         exact qaX hQ))
noncomputable def Itl (K:W.Frag) (a:Addr):It:=
 ⟨fun i H=> ∃ xs x,SqL K H a xs/\xs[i]? = some x,fun i H x H'=>H'=H/\ ∀ xs,SqL K H a xs->xs[i]? = some x,fun i H=> ∃ xs,SqL K H a xs/\xs.length<=i⟩
noncomputable def Itt (K:W.Frag) (a:Addr):It:=
 ⟨fun i H=> ∃ xs x,SqT K H a xs/\xs[i]? = some x,fun i H x H'=>H'=H/\ ∀ xs,SqT K H a xs->xs[i]? = some x,fun i H=> ∃ xs,SqT K H a xs/\xs.length<=i⟩
noncomputable def Itr (lo:Int) (n:Nat):It:=⟨fun i _=>i<n,fun i H x H'=>H'=H/\x= .int (lo+i),fun i _=>n<=i⟩
theorem zgR.keep {A:Around} {H H':Hp} (x:zgR A H) (k: ∀ b o u,H b=some (.frz o u)->H' b=some (.frz o u)):zgR A H':=by
 rcases x with x | ⟨a,o,cls,head,vs,x1,x2,x3⟩
 ·exact .inl x
 ·exact .inr ⟨a,o,cls,head,vs,x1,k _ _ _ x2,x3⟩
theorem zgR.at_ {A:Around} {P:Program} {w:World} {H:Hp} {h:Heap} (x:zgR A H) (ok:HOk P w H h):L3.zjX A h:=by
 rcases x with x | ⟨a,o,cls,head,vs,x1,x2,x3⟩
 ·exact .inl x
 ·exact .inr ⟨a,cls,head,x1,o,vs,(ok a _ x2).1,x3⟩
theorem Inv.handA {X:Cx} {pins:List (Addr×Obj)} {σ:St} {H:Hp} {s:Shared} (I:Inv X pins σ H s):zgR X.A H:=I.ok.hx.keep I.base.frzs
theorem Inv.hand {X:Cx} {pins:List (Addr×Obj)} {σ:St} {H:Hp} {s:Shared} (I:Inv X pins σ H s):L3.zjX X.A s.heap:=I.handA.at_ I.hok
theorem zly {P:Program} {w:World} {K:W.Frag} {tg:Expr} (a it:Addr):zn3 P w K tg (Itl K a) [it] it (fun i h=>h.IsListIter it a i) where
 mem:=by simp
 obj:=fun i h st b hb=>by
  have e:b=it:=by simpa using hb
  subst e
  obtain ⟨o,e,c,d⟩:=st
  exact ⟨o,e,fun v z=>by rw [d] at z;cases z⟩
 keep:=fun i h h' st k=>st.at fun o e=>k it (by simp) o e
 item:=by
  intro X hP hw hK i pins s σ H E I hf st hg
  subst hP hw hK
  obtain ⟨xs,x,hq,hx⟩:=hg
  obtain ⟨its,rv,p,hz⟩:=I.list hq
  obtain ⟨u,hu,ru⟩:=rv.get hx
  obtain ⟨f0,f1,f2,f3,f4,f5⟩:=hf it (by simp)
  refine wpAny_pyNext_list_item st p.isList (x:=u) (by simpa using hu) fun h' st' sb=> ?_
  have I1:Inv X pins σ H {s with heap:=h'}:=I.turned (t':=s.toks) (fun b o hb e=>(sb.2 b hb).trans e) f0 f1 f3 f4 f5
  obtain ⟨o,e,c,d⟩:=id st'
  exact ⟨u,rfl,zmx (s:={s with heap:=h'}) e c d (by decide) ⟨x,H,I1,ru,⟨rfl,fun ys hy=>by rw [I.list_inj hy hq];exact hx⟩,st',fun b hb=>(hf b hb).1⟩⟩
 done:=by
  intro X hP hw hK i pins s σ H E I hf st hg
  subst hP hw hK
  obtain ⟨xs,hq,hx⟩:=hg
  obtain ⟨its,rv,p,hz⟩:=I.list hq
  obtain ⟨f0,f1,f2,f3,f4,f5⟩:=hf it (by simp)
  have hl:=rv.length
  exact L3.zjd I.hand st p.isList (by simp;omega) fun h' eb=>⟨rfl,I.turned (t':=s.toks) (fun b o hb e=>eb b o hb e) f0 f1 f3 f4 f5⟩
 self:=fun _ _ _ _ _ st h=>wpAny_pyIter_listiter st h
theorem zjN {P:Program} {w:World} {K:W.Frag} {tg:Expr} (a it:Addr):zn3 P w K tg (Itt K a) [it] it (fun i h=>h.IsTupleIter it a i) where
 mem:=by simp
 obj:=fun i h st b hb=>by
  have e:b=it:=by simpa using hb
  subst e
  obtain ⟨o,e,c,d⟩:=st
  exact ⟨o,e,fun v z=>by rw [d] at z;cases z⟩
 keep:=fun i h h' st k=>st.at fun o e=>k it (by simp) o e
 item:=by
  intro X hP hw hK i pins s σ H E I hf st hg
  subst hP hw hK
  obtain ⟨xs,x,hq,hx⟩:=hg
  obtain ⟨its,rv,p,hz⟩:=I.tuple hq
  obtain ⟨u,hu,ru⟩:=rv.get hx
  obtain ⟨f0,f1,f2,f3,f4,f5⟩:=hf it (by simp)
  refine wpAny_pyNext_tuple_item st (show s.heap.IsTuple a its.toArray from p) (x:=u) (by simpa using hu) fun h' st' sb=> ?_
  have I1:Inv X pins σ H {s with heap:=h'}:=I.turned (t':=s.toks) (fun b o hb e=>(sb.2 b hb).trans e) f0 f1 f3 f4 f5
  obtain ⟨o,e,c,d⟩:=id st'
  exact ⟨u,rfl,zmx (s:={s with heap:=h'}) e c d (by decide) ⟨x,H,I1,ru,⟨rfl,fun ys hy=>by rw [I.tuple_inj hy hq];exact hx⟩,st',fun b hb=>(hf b hb).1⟩⟩
 done:=by
  intro X hP hw hK i pins s σ H E I hf st hg
  subst hP hw hK
  obtain ⟨xs,hq,hx⟩:=hg
  obtain ⟨its,rv,p,hz⟩:=I.tuple hq
  obtain ⟨f0,f1,f2,f3,f4,f5⟩:=hf it (by simp)
  have hl:=rv.length
  exact L3.zkL I.hand st (show s.heap.IsTuple a its.toArray from p) (by simp;omega) fun h' eb=>⟨rfl,I.turned (t':=s.toks) (fun b o hb e=>eb b o hb e) f0 f1 f3 f4 f5⟩
 self:=fun _ _ _ _ _ st h=>wpAny_pyIter_tupleiter st h
theorem zjA {P:Program} {w:World} {K:W.Frag} {tg:Expr} (it:Addr) (lo:Int) (n:Nat):zn3 P w K tg (Itr lo n) [it] it (fun i h=>IsRangeIter h it (lo+(i:Nat)*1) ((n:Int) - (i:Nat)) 1) where
 mem:=by simp
 obj:=fun i h st b hb=>by
  have e:b=it:=by simpa using hb
  subst e
  exact ⟨_,st,fun v z=>by
    have z':Data.fields _=Data.cell v:=z
    cases z'⟩
 keep:=fun i h h' st k=>k it (by simp) _ st
 item:=by
  intro X hP hw hK i pins s σ H E I hf st hg
  subst hP hw hK
  obtain ⟨f0,f1,f2,f3,f4,f5⟩:=hf it (by simp)
  refine wpAny_pyNext_range_item st (by have:i<n:=hg;omega) fun h' st' kk=> ?_
  have e1:lo+(i:Nat)*1+1=lo+((i+1:Nat):Int)*1:=by omega
  have e2:(n:Int) - (i:Nat) - 1=(n:Int) - ((i+1:Nat):Int):=by omega
  rw [e1,e2] at st'
  have I1:Inv X pins σ H {s with heap:=h',toks:=s.toks+1}:=I.turned (fun b o hb e=>(kk.2 b hb).trans e) f0 f1 f3 f4 f5
  refine ⟨_,rfl,zmx (s:={s with heap:=h',toks:=s.toks+1}) (n:="range_iterator") st' rfl rfl (by decide) ⟨.int (lo+i),H,I1,⟨s.toks,?_⟩,⟨rfl,rfl⟩,st',fun b hb=>(hf b hb).1⟩⟩
  rw [Int.mul_one]
 done:=by
  intro X hP hw hK i pins s σ H E I hf st hg
  subst hP hw hK
  obtain ⟨f0,f1,f2,f3,f4,f5⟩:=hf it (by simp)
  exact L3.zhC I.hand st (by have:n<=i:=hg;omega) fun h' eb=>⟨rfl,I.turned (t':=s.toks) (fun b o hb e=>eb b o hb e) f0 f1 f3 f4 f5⟩
 self:=fun _ _ _ _ _ st h=>wpAny_pyIter_rangeiter st h
section
variable {X:Cx} {tg:Expr}
theorem ziV {pins:List (Addr×Obj)} {σ:St} {H:Hp} {s:Shared} {R:It->Hp->Prop} {E:Value->Shared->Prop} {lo hi:Int} {t u v:Tok} {tk:Nat} (I:Inv X pins σ H s) (h1: -(2^62)<=lo) (h2:lo<2^62) (h3: -(2^62)<=hi) (h4:hi<2^62)
  (q:R (Itr lo (hi - lo).toNat) H):wpAny (model X.prog X.w) X.A (pyIter (.ref s.heap.objs.size)) (PIE X pins σ tg R) E {s with heap:=s.heap.push {cls:= .type "range",data:= .fields #[.int lo t,.int hi u,.int 1 v]},toks:=tk}:=by
 refine wpAny_pyIter_range (IsRange.new ..) (small_one h1 h2 h3 h4) ?_
 have I1:Inv X pins σ H {s with heap:=s.heap.push {cls:= .type "range",data:= .fields #[.int lo t,.int hi u,.int 1 v]},toks:=tk}:=I.kept fun b o e=>qag _ e
 refine ⟨(s.heap.push {cls:= .type "range",data:= .fields #[.int lo t,.int hi u,.int 1 v]}).objs.size,[(s.heap.push {cls:= .type "range",data:= .fields #[.int lo t,.int hi u,.int 1 v]}).objs.size],_,_,H,rfl,
   I1.kept (t':=tk) fun b o e=>qag _ e,zjA _ lo (hi - lo).toNat,?_,fun b hb=> ?_,q⟩
 ·have e1:lo+((0:Nat):Int)*1=lo:=by simp
  have e2:(((hi - lo).toNat:Nat):Int) - ((0:Nat):Int)=Builtin.Range.rangeSize lo hi 1:=by rw [rangeSize_one];split<;>omega
  show IsRangeIter _ _ (lo+((0:Nat):Int)*1) ((((hi - lo).toNat:Nat):Int) - ((0:Nat):Int)) 1
  rw [e1,e2]
  exact qar _ rfl
 ·have e:b=(s.heap.push {cls:= .type "range",data:= .fields #[.int lo t,.int hi u,.int 1 v]}).objs.size:=by simpa using hb
  subst e
  exact I1.fpOk (qaV _) (I1.hok.fresh (qaV _))
noncomputable def zsK (ta:TA):TI:=fun σ H R=>ta σ H fun vs H1=> ∃ j:Int,vs=[.int j]/\ -(2^62)<=j/\j<2^62/\R (Itr 0 j.toNat) H1
noncomputable def zrZ (ta:TA):TI:=fun σ H R=>ta σ H fun vs H1=> ∃ i j:Int,vs=[.int i,.int j]/\(-(2^62)<=i/\i<2^62/\ -(2^62)<=j/\j<2^62)/\R (Itr i (j - i).toNat) H1
theorem zkv {a:Expr} {ta:TA} {p pos:Pos} (hg:Gl X "range") (hm:X.mg "range"=none) (ha:PA X [a] ta) (hs:starEach [a] X.env=[(false,eval a X.env)]:=by rfl):PI X tg (.Call (.Name "range" p) [a] [] pos) (zsK ta):=by
 intro pins s σ H R I h
 refine Call_ (zer I hg hm boot_range (PyProof.Rows.callWith_type1 (thn (ha pos pins s σ H _ I h) fun us s1 ⟨vs,H1,I1,r1,q1⟩=> ?_) hs rfl))
 obtain ⟨j,e,q1,q2,q⟩:=q1
 subst e
 cases r1 with
 | cons r rr=>
  cases rr
  obtain ⟨t,rfl⟩:=r
  exact call_range_1 (ziV I1 (by omega) (by omega) q1 q2 (by simpa using q))
theorem zkT {a b:Expr} {ta:TA} {p pos:Pos} (hg:Gl X "range") (hm:X.mg "range"=none) (ha:PA X [a,b] ta) (hs:starEach [a,b] X.env=[(false,eval a X.env),(false,eval b X.env)]:=by rfl) (hs2:starEach [b] X.env=[(false,eval b X.env)]:=by rfl):
  PI X tg (.Call (.Name "range" p) [a,b] [] pos) (zrZ ta):=by
 intro pins s σ H R I h
 refine Call_ (zer I hg hm boot_range (PyProof.Rows.callWith_type1 (thn (ha pos pins s σ H _ I h) fun us s1 ⟨vs,H1,I1,r1,q1⟩=> ?_) (by rw [hs,hs2]) (by rw [hs2];rfl)))
 obtain ⟨i,j,e,⟨q1,q2,q3,q4⟩,q⟩:=q1
 subst e
 cases r1 with
 | cons r rr=>
  cases rr with
  | cons r' rr=>
   cases rr
   obtain ⟨t,rfl⟩:=r
   obtain ⟨t',rfl⟩:=r'
   exact call_range_2 (ziV I1 q1 q2 q3 q4 q)
noncomputable def zuv (wi:TI) (g:TG) (tb:TS):TS:=fun D σ H=>wi σ H fun J H1=> ∃ W:Nat->Nat->St->Hp->Prop,(∃ m,W 0 m σ H1)/\ ∀ i m σ H,W i m σ H->
 (J.stop i H/\D.nx σ H)\/(J.go i H/\ ∃ N:St->Hp->Prop,(∀ σ' H',N σ' H'-> ∃ m',m'<m/\W (i+1) m' σ' H')/\ ∀ x H',J.yld i H x H'->g x σ H' fun σ2 H2=>tb {D with nx:=N,ct:=N,bk:=D.nx} σ2 H2)
noncomputable def zhF (fp:List Addr) (h:Heap):List (Addr×Obj):=fp.filterMap fun b=>(h.get? b).map fun o=>(b,o)
theorem zdm {fp:List Addr} {h:Heap} {b:Addr} {o:Obj} (hb:b∈fp) (e:h.get? b=some o):(b,o)∈zhF fp h:=List.mem_filterMap.mpr ⟨b,hb,by rw [e];rfl⟩
theorem zle {fp:List Addr} {h:Heap} {p:Addr×Obj} (hp:p∈zhF fp h):p.1∈fp/\h.get? p.1=some p.2:=by
 obtain ⟨b,hb,e⟩:=List.mem_filterMap.mp hp
 cases q:h.get? b with
 | none=>rw [q] at e;cases e
 | some o=>
  rw [q] at e
  have e':(b,o)=p:=Option.some.inj e
  subst e'
  exact ⟨hb,q⟩
theorem Inv.pinned {pins:List (Addr×Obj)} {σ:St} {H:Hp} {s:Shared} {fp:List Addr} (I:Inv X pins σ H s) (hf: ∀ b∈fp,zhO X pins H b) (ho: ∀ b∈fp, ∃ o,s.heap.get? b=some o/\ ∀ v,o.data≠ .cell v):Inv X (pins++zhF fp s.heap) σ H s:=
 I.pins_of fun p hp=>(qaK.mp hp).elim (fun z=>I.pin p (qak _ z)) fun z=>by
  obtain ⟨hb,e⟩:=zle z
  obtain ⟨f0,f1,f2,_⟩:=hf p.1 hb
  obtain ⟨o,e',d⟩:=ho p.1 hb
  rw [e] at e';cases e'
  exact ⟨e,f0,f1,f2,d⟩
theorem Inv.unpinned {pins pl:List (Addr×Obj)} {σ:St} {H:Hp} {s:Shared} (I:Inv X (pins++pl) σ H s):Inv X pins σ H s:=I.pins_of fun p hp=>I.pin p (qak _ (List.mem_append_left _ hp))
theorem zqo {iter:Expr} {body:List Stmt} {wi:TI} {g:TG} {tb:TS} {pos:Pos} (hp:PassesOwn (model X.prog X.w) X.A X.env X.xe) (hc:X.calm=true) (hi:PI X tg iter wi) (hg:PG X tg g) (hb:PSs X body tb)
  (hs: ∀ x,foldedSetIterable iter X.env x=pure x:=by intro _;rfl):PS X (.For tg iter body [] pos) (zuv wi g tb):=by
 intro pins s σ H D I h
 refine wpAny_For (thn (hi pins s σ H _ I h) fun v s1 h1=>thn h1 fun itv s2 h2=> ?_) hs
 obtain ⟨it,fp,tn,J,H2,e,I2,T,st2,f2,W,⟨m0,w0⟩,turn⟩:=h2
 subst e
 have stat: ∀ {H':Hp},(∀ b∈fp,H' b=none)-> ∀ b∈fp,zhO X pins H' b:=fun hn b hb=>⟨hn b hb,(f2 b hb).2⟩
 refine codeAny_forLoop_any (fun n s'=> ∃ i σ' H',Inv X pins σ' H' s'/\tn i s'.heap/\(∀ b∈fp,H' b=none)/\W i n σ' H') ?_ m0 ⟨0,σ,H2,I2,st2,fun b hb=>(f2 b hb).1,w0⟩
 rintro n s3 ⟨i,σ3,H3,I3,st3,fr3,w3⟩
 rcases turn i n σ3 H3 w3 with ⟨stop,qn⟩ | ⟨go,N,hN,step⟩
 ·refine wpAny_passesOwn hp (thn (T.done X rfl rfl rfl i pins s3 σ3 H3 X.xe I3 (stat fr3) st3 stop) fun r s4 ⟨hr,I4⟩=> ?_)
  subst hr
  exact wpAny_execs_nil ⟨σ3,H3,I4,qn⟩
 ·refine wpAny_passesOwn hp (thn (T.item X rfl rfl rfl i pins s3 σ3 H3 X.xe I3 (stat fr3) st3 go) fun r s4 ⟨u,hr,h4⟩=> ?_)
  subst hr
  refine wpAny_passesOwn hp (thn h4 fun _ s5 ⟨x,H5,I5,r5,y5,st5,fr5⟩=> ?_)
  have I5':=I5.pinned (stat fr5) (T.obj _ _ st5)
  refine wpAny_passesOwn hp (thn (hg _ s5 σ3 H5 x u _ I5' r5 (step x H5 y5)) fun _ s6 ⟨σ6,H6,I6,q6⟩=> ?_)
  refine wpAny_passesOwn hp (thn (hb _ s6 σ6 H6 _ I6 q6) fun f s7 q7=> ?_)
  have again: ∀ {σ7:St} {H7:Hp},Inv X (pins++zhF fp s5.heap) σ7 H7 s7->N σ7 H7-> ∃ m,m<n/\ ∃ i σ' H',Inv X pins σ' H' s7/\tn i s7.heap/\(∀ b∈fp,H' b=none)/\W i m σ' H':=fun {σ7 H7} I7 n7=>by
   obtain ⟨m',hm,w7⟩:=hN σ7 H7 n7
   refine ⟨m',hm,i+1,σ7,H7,I7.unpinned,T.keep _ _ _ st5 fun b hb o e=>(I7.pin (b,o) (qak _ (qak _ (zdm hb e)))).1,fun b hb=> ?_,w7⟩
   obtain ⟨o,e,d⟩:=T.obj _ _ st5 b hb
   exact (I7.pin (b,o) (qak _ (qak _ (zdm hb e)))).2.1
  cases f with
  | next=>obtain ⟨σ7,H7,I7,n7⟩:=q7;exact again I7 n7
  | cont=>obtain ⟨σ7,H7,I7,n7⟩:=q7;exact again I7 n7
  | brk=>obtain ⟨σ7,H7,I7,q7⟩:=q7;exact ⟨σ7,H7,I7.unpinned,q7⟩
  | ret v=>obtain ⟨x7,σ7,H7,I7,r7,q7⟩:=q7;exact ⟨x7,σ7,H7,I7.unpinned,r7,q7⟩
end
noncomputable abbrev R2:=V->V->Hp->VK->Prop
def OpR (X:Cx) (f:Value->Value->Sem Value) (r:R2):Prop:=
 ∀ (pins:List (Addr×Obj)) (s:Shared) (σ:St) (H:Hp) (x y:V) (v u:Value) (Q:VK),Inv X pins σ H s->zb1 x v->zb1 y u->r x y H Q->
  wpAny (model X.prog X.w) X.A (f v u) (EP X pins σ Q) X.xe s
def UnR (X:Cx) (f:Value->Sem Value) (r:V->Hp->VK->Prop):Prop:=
 ∀ (pins:List (Addr×Obj)) (s:Shared) (σ:St) (H:Hp) (x:V) (v:Value) (Q:VK),Inv X pins σ H s->zb1 x v->r x H Q->
  wpAny (model X.prog X.w) X.A (f v) (EP X pins σ Q) X.xe s
def zaM (X:Cx) (f:Value) (r:List V->Hp->VK->Prop):Prop:=
 ∀ (pins:List (Addr×Obj)) (s:Shared) (σ:St) (H:Hp) (xs:List V) (us:List Value) (Q:VK),Inv X pins σ H s->za3 xs us->r xs H Q->
  wpAny (model X.prog X.w) X.A (call f us) (EP X pins σ Q) X.xe s
def zt3 (X:Cx) (r:V->Hp->(Bool->Hp->Prop)->Prop):Prop:=
 ∀ (pins:List (Addr×Obj)) (s:Shared) (σ:St) (H:Hp) (x:V) (v:Value) (Q:Bool->Hp->Prop),Inv X pins σ H s->zb1 x v->r x H Q->
  wpAny (model X.prog X.w) X.A (truthy v) (TP X pins σ Q) X.xe s
noncomputable def tOp (r:R2) (ta tb:TE):TE:=fun σ H Q=>ta σ H fun x H1=>tb σ H1 fun y H2=>r x y H2 Q
noncomputable def tUn (r:V->Hp->VK->Prop) (ta:TE):TE:=fun σ H Q=>ta σ H fun x H1=>r x H1 Q
noncomputable def rI (C:Int->Int->Prop) (g:Int->Int->V):R2:=fun x y H Q=> ∃ i j,x= .int i/\y= .int j/\C i j/\Q (g i j) H
noncomputable def rI0 (g:Int->Int->V):R2:=fun x y H Q=> ∃ i j,x= .int i/\y= .int j/\Q (g i j) H
noncomputable def rU (g:Int->V):V->Hp->VK->Prop:=fun x H Q=> ∃ i,x= .int i/\Q (g i) H
section
variable {X:Cx} {a b c:Expr} {ta tb tc:TE} {pos:Pos}
theorem ztv (ha:PE X a ta) (hb:PE X b tb) {pins:List (Addr×Obj)} {s:Shared} {σ:St} {H:Hp} {R:V->V->Hp->Prop} (I:Inv X pins σ H s)
  (h:ta σ H fun x H1=>tb σ H1 fun y H2=>R x y H2) {Q:Value->Shared->Prop} {f:Value->Value->Sem Value}
  (hf: ∀ v u s2 x y H2,Inv X pins σ H2 s2->zb1 x v->zb1 y u->R x y H2->wpAny (model X.prog X.w) X.A (f v u) Q X.xe s2):
  wpAny (model X.prog X.w) X.A (eval a X.env) (fun v s₁=>wpAny (model X.prog X.w) X.A (eval b X.env) (fun u s₂=>wpAny (model X.prog X.w) X.A (f v u) Q X.xe s₂) X.xe s₁) X.xe s:=by
 refine thn (ha pins s σ H _ I h) fun v s1 ⟨x,H1,I1,r1,q1⟩=> ?_
 refine thn (hb pins s1 σ H1 _ I1 q1) fun u s2 ⟨y,H2,I2,r2,q2⟩=> ?_
 exact hf v u s2 x y H2 I2 r1 r2 q2
theorem zs9 {op:Operator} {r:R2} (ho:OpR X (binaryOp op) r) (ha:PE X a ta) (hb:PE X b tb):PE X (.BinOp a op b pos) (tOp r ta tb):=by
 intro pins s σ H Q I h
 exact wpAny_BinOp (ztv ha hb I h fun v u s2 x y H2 I2 rx ry q=>ho pins s2 σ H2 x y v u Q I2 rx ry q)
theorem zsX {op:UnaryOp} {r:V->Hp->VK->Prop} (ho:UnR X (unaryOp op) r) (ha:PE X a ta):PE X (.UnaryOp op a pos) (tUn r ta):=by
 intro pins s σ H Q I h
 exact UnaryOp_ (thn (ha pins s σ H _ I h) fun v s1 ⟨x,H1,I1,r1,q1⟩=>ho pins s1 σ H1 x v Q I1 r1 q1)
theorem opI {f:Value->Value->Sem Value} {C:Int->Int->Prop} {g:Int->Int->Int}
  (rule: ∀ (i j:Int) (t u:Tok) (s:Shared) (Q:Value->Shared->Prop) (E:Value->Shared->Prop),C i j->Q (.int (g i j) s.toks) {s with toks:=s.toks+1}->wpAny (model X.prog X.w) X.A (f (.int i t) (.int j u)) Q E s):
  OpR X f (rI C fun i j=> .int (g i j)):=by
 intro pins s σ H x y v u Q I rx ry h
 obtain ⟨i,j,rfl,rfl,hc,q⟩:=h
 obtain ⟨t,rfl⟩:=rx
 obtain ⟨t',rfl⟩:=ry
 exact rule i j t t' s _ _ hc ⟨.int (g i j),H,I.tok _,⟨_,rfl⟩,q⟩
theorem ztN {f:Value->Value->Sem Value} {g:Int->Int->Int}
  (rule: ∀ (i j:Int) (t u:Tok) (s:Shared) (Q:Value->Shared->Prop) (E:Value->Shared->Prop),Q (.int (g i j) s.toks) {s with toks:=s.toks+1}->wpAny (model X.prog X.w) X.A (f (.int i t) (.int j u)) Q E s):
  OpR X f (rI0 fun i j=> .int (g i j)):=by
 intro pins s σ H x y v u Q I rx ry h
 obtain ⟨i,j,rfl,rfl,q⟩:=h
 obtain ⟨t,rfl⟩:=rx
 obtain ⟨t',rfl⟩:=ry
 exact rule i j t t' s _ _ ⟨.int (g i j),H,I.tok _,⟨_,rfl⟩,q⟩
theorem zsl {f:Value->Value->Sem Value} {g:Int->Int->Bool}
  (rule: ∀ (i j:Int) (t u:Tok) (s:Shared) (Q:Value->Shared->Prop) (E:Value->Shared->Prop),Q (.bool (g i j)) s->wpAny (model X.prog X.w) X.A (f (.int i t) (.int j u)) Q E s):
  OpR X f (rI0 fun i j=> .bl (g i j)):=by
 intro pins s σ H x y v u Q I rx ry h
 obtain ⟨i,j,rfl,rfl,q⟩:=h
 obtain ⟨t,rfl⟩:=rx
 obtain ⟨t',rfl⟩:=ry
 exact rule i j t t' s _ _ ⟨.bl (g i j),H,I,rfl,q⟩
def zte (i j:Int):Prop:=0<=j/\j<=1000000/\i.natAbs<2^64
def ztk (i j:Int):Prop:=(-(2^64)<i/\i<2^64)\/(-(2^64)<j/\j<2^64)
theorem ztk.ok {i j:Int} (h:ztk i j):IntMulOk i j:=by
 rcases h with ⟨h1,h2⟩ | ⟨h1,h2⟩
 ·exact .of_left (intBits_le_64 h1 h2)
 ·exact .of_right (intBits_le_64 h1 h2)
theorem zrX:OpR X (binaryOp .Add) (rI0 fun i j=> .int (i+j)):=ztN fun _ _ _ _ _ _ _ q=>add_int q
theorem zqm:OpR X (binaryOp .Sub) (rI0 fun i j=> .int (i - j)):=ztN fun _ _ _ _ _ _ _ q=>sub_int q
theorem zrm:OpR X (binaryOp .Mult) (rI ztk fun i j=> .int (i*j)):=opI fun _ _ _ _ _ _ _ hc q=>mul_int q hc.ok
theorem zrw:OpR X (binaryOp .Mod) (rI (fun _ j=>0<j) fun i j=> .int (i % j)):=opI fun i j _ _ _ _ _ hc q=>by
 have h1:(0:Int)<j:=hc
 exact mod_int' (by omega) (by rw [Int.fmod_eq_emod_of_nonneg i (by omega)];exact q)
theorem zqQ:OpR X (binaryOp .Pow) (rI zte fun i j=> .int (i^j.toNat)):=opI fun _ _ _ _ _ _ _ hc q=>pow_int_small hc.1 hc.2.1 hc.2.2 q
theorem ztm:OpR X (binaryOp .BitOr) (rI0 fun i j=> .int (Builtin.bitOr i j)):=ztN fun _ _ _ _ _ _ _ q=>or_int q
theorem unI {f:Value->Sem Value} {g:Int->Int}
  (rule: ∀ (i:Int) (t:Tok) (s:Shared) (Q:Value->Shared->Prop) (E:Value->Shared->Prop),Q (.int (g i) s.toks) {s with toks:=s.toks+1}->wpAny (model X.prog X.w) X.A (f (.int i t)) Q E s):
  UnR X f (rU fun i=> .int (g i)):=by
 intro pins s σ H x v Q I rx h
 obtain ⟨i,rfl,q⟩:=h
 obtain ⟨t,rfl⟩:=rx
 exact rule i t s _ _ ⟨.int (g i),H,I.tok _,⟨_,rfl⟩,q⟩
theorem zri:UnR X (unaryOp .USub) (rU fun i=> .int (-i)):=unI fun _ _ _ _ _ q=>neg_int q
end
section
variable {X:Cx} {a b c:Expr} {ta tb tc:TE} {pos:Pos}
theorem zqy {pins:List (Addr×Obj)} {σ:St} {H:Hp} {s:Shared} {Q:VK} {k k':Bool} (I:Inv X pins σ H s) (q:Q (.bl k) H) (e:k=k'):EP X pins σ Q (.bool k') s:=by
 subst e
 exact ⟨.bl k,H,I,rfl,q⟩
theorem zta:OpR X (compareOp .Lt) (rI0 fun i j=> .bl (decide (i<j))):=zsl fun _ _ _ _ _ _ _ q=>lt_int q
theorem zsZ:OpR X (compareOp .LtE) (rI0 fun i j=> .bl (decide (i<=j))):=zsl fun _ _ _ _ _ _ _ q=>le_int q
theorem ztI:OpR X (compareOp .Gt) (rI0 fun i j=> .bl (decide (j<i))):=zsl fun _ _ _ _ _ _ _ q=>gt_int q
theorem ztf:OpR X (compareOp .GtE) (rI0 fun i j=> .bl (decide (j<=i))):=zsl fun _ _ _ _ _ _ _ q=>ge_int q
theorem OpR.or {f:Value->Value->Sem Value} {r r':R2} (h:OpR X f r) (h':OpR X f r'):OpR X f (fun x y H Q=>r x y H Q\/r' x y H Q):=by
 intro pins s σ H x y v u Q I rx ry q
 rcases q with q | q
 ·exact h pins s σ H x y v u Q I rx ry q
 ·exact h' pins s σ H x y v u Q I rx ry q
theorem zoI {op:CmpOp} {r:R2} (ho:OpR X (compareOp op) r) (ha:PE X a ta) (hb:PE X b tb) (hm:behindInMarks op b=false):PE X (.Compare a [op] [b] pos) (tOp r ta tb):=by
 intro pins s σ H Q I h
 exact wpAny_Compare1 (ztv ha hb I h fun v u s2 x y H2 I2 rx ry q=>ho pins s2 σ H2 x y v u Q I2 rx ry q) hm
noncomputable def ztH (t:TE):TT:=fun σ H Q=>t σ H fun x H'=> ∃ k,x= .bl k/\Q k H'
theorem zoG {op:CmpOp} {r:R2} (ho:OpR X (compareOp op) r) (ha:PE X a ta) (hb:PE X b tb) (hm:behindInMarks op b=false):PT X (.Compare a [op] [b] pos) (ztH (tOp r ta tb)):=by
 intro pins s σ H Q I h
 refine wpAny_isTrue_Compare1 (thn (ha pins s σ H _ I h) fun v s1 ⟨x,H1,I1,r1,q1⟩=>thn (hb pins s1 σ H1 _ I1 q1) fun u s2 ⟨y,H2,I2,r2,q2⟩=>
   thn (ho pins s2 σ H2 x y v u _ I2 r1 r2 q2) fun c s3 ⟨z,H3,I3,r3,k,e,q3⟩=> ?_) hm
 subst e
 cases r3
 exact wpAny_truthy_bool ⟨H3,I3,q3⟩
def ztS (K:W.Frag) (x:V) (H:Hp) (k:Bool):Prop:=
 match x with
 | .non=>k=false
 | .bl b=>k=b
 | .int i=>k=(i != 0)
 | .str y=>y.length<=sizeLine/\k=((y.length:Int) != 0)
 | .byt y=>y.size<=sizeLine/\k=((y.size:Int) != 0)
 | .ref p=>(∃ xs,SqL K H p xs/\k= !xs.isEmpty)\/(∃ xs,SqT K H p xs/\k= !xs.isEmpty)\/ ∃ kvs,H p=some (.dK kvs)/\k= !kvs.isEmpty
 | _=>False
theorem zjR {κ:Type} {kvs:List (κ×V)} {vs:List (κ×Value)} (r:KV kvs vs):(!vs.isEmpty)= !kvs.isEmpty:=by
 cases r<;>rfl
theorem zfF {xs:List V} {its:List Value} (r:za3 xs its):(!its.toArray.isEmpty)= !xs.isEmpty:=by
 cases r<;>simp
theorem zhq:(sizeLine:Nat)<2^63:=by rw [sizeLine_eq];decide
theorem zrN:zt3 X (fun x H Q=> ∃ k,ztS X.K x H k/\Q k H):=by
 intro pins s σ H x v Q I rx h
 obtain ⟨k,e,q⟩:=h
 have hl:=zhq
 have hs:sizeLine=16777216:=sizeLine_eq
 cases x with
 | non=>
  cases rx
  have e':k=false:=e
  subst e'
  exact truthy_none ⟨H,I,q⟩
 | bl b=>
  cases rx
  have e':k=b:=e
  subst e'
  exact wpAny_truthy_bool ⟨H,I,q⟩
 | int i=>
  obtain ⟨t,rfl⟩:=rx
  have e':k=(i != 0):=e
  subst e'
  exact PySem.P.truthy_int ⟨H,I,q⟩
 | str y=>
  obtain ⟨t,rfl⟩:=rx
  obtain ⟨hy,e'⟩:y.length<=sizeLine/\k=((y.length:Int) != 0):=e
  subst e'
  exact PySem.P.truthy_str (by omega) ⟨H,I.tok _,q⟩
 | byt y=>
  obtain ⟨t,rfl⟩:=rx
  obtain ⟨hy,e'⟩:y.size<=sizeLine/\k=((y.size:Int) != 0):=e
  subst e'
  exact W.truthy_bytes (by omega) ⟨H,I.tok _,q⟩
 | ref p=>
  cases rx
  have e':(∃ xs,SqL X.K H p xs/\k= !xs.isEmpty)\/(∃ xs,SqT X.K H p xs/\k= !xs.isEmpty)\/ ∃ kvs,H p=some (.dK kvs)/\k= !kvs.isEmpty:=e
  rcases e' with ⟨xs,hx,e'⟩ | ⟨xs,hx,e'⟩ | ⟨kvs,hx,e'⟩
  ·subst e'
   obtain ⟨its,r,pl,hz⟩:=I.list hx
   have hlen:=r.length
   exact wpAny_truthy_list pl.isList (by simp only [qaA];omega) ⟨H,I.tok _,by rw [zfF r];exact q⟩
  ·subst e'
   obtain ⟨its,r,pl,hz⟩:=I.tuple hx
   have hlen:=r.length
   exact truthy_tuple pl (by simp only [qaA];omega) ⟨H,I.tok _,by rw [zfF r];exact q⟩
  ·subst e'
   obtain ⟨hz,hS,vs,r,m⟩:kvs.length<=sizeLine/\(p==sysModules)=false/\ ∃ vs,KV kvs vs/\s.heap.DictOf (zh7 X.prog X.w) p vs:=I.hok p _ hx
   have hlen:kvs.length=vs.length:=Paired.length r
   exact wpAny_truthy_dict hS m (by omega) ⟨H,I.tok _,by rw [zjR r];exact q⟩
 | _=>exact (show False from e).elim
theorem zmK (ha:PE X a ta) (he: ∀ whole,isTrue a X.env whole=(do let v<-whole;standAt a.pos;holding [v] (truthy v))):
  PT X a (fun σ H Q=>ta σ H fun x H'=> ∃ k,ztS X.K x H' k/\Q k H'):=by
 intro pins s σ H Q I h
 exact isTrue_plain (thn (ha pins s σ H _ I h) fun v s1 ⟨x,H1,I1,r1,q1⟩=>zrN pins s1 σ H1 x v Q I1 r1 q1) (he _)
theorem zjg:OpR X (binaryOp .Add) (fun x y H Q=> ∃ i j,x= .str i/\y= .str j/\i.length+j.length<=sizeLine/\Q (.str (i++j)) H):=by
 intro pins s σ H x y v u Q I rx ry h
 obtain ⟨i,j,rfl,rfl,hz,q⟩:=h
 obtain ⟨t,rfl⟩:=rx
 obtain ⟨t',rfl⟩:=ry
 exact add_str (fun t' tk=>⟨.str (i++j),H,I.tok _,⟨_,rfl⟩,q⟩) hz
theorem zez {x:V} {us:List Value} (r:za3 [x] us): ∃ u,us=[u]/\zb1 x u:=by
 cases r with
 | cons r1 r2=>cases r2;exact ⟨_,rfl,r1⟩
theorem zpb {x y:V} {us:List Value} (r:za3 [x,y] us): ∃ u w',us=[u,w']/\zb1 x u/\zb1 y w':=by
 cases r with
 | cons r1 r2=>
  cases r2 with
  | cons r3 r4=>cases r4;exact ⟨_,_,rfl,r1,r3⟩
theorem zkl (hc:X.calm=true):zaM X (.builtin "max") (fun xs H Q=> ∃ i j,xs=[.int i,.int j]/\Q (.int (if j>i then j else i)) H):=by
 intro pins s σ H xs us Q I r h
 obtain ⟨i,j,rfl,q⟩:=h
 obtain ⟨u,w',rfl,⟨t,rfl⟩,⟨t',rfl⟩⟩:=zpb r
 refine max_two_ints (I.ok.hd hc) fun h' tk k=>⟨_,H,I.kept k,?_,q⟩
 by_cases hj:j>i
 ·rw [qa4 hj,qa4 hj];exact ⟨_,rfl⟩
 ·rw [qa5 hj,qa5 hj];exact ⟨_,rfl⟩
theorem zkW (hc:X.calm=true):zaM X (.builtin "min") (fun xs H Q=> ∃ i j,xs=[.int i,.int j]/\Q (.int (if j<i then j else i)) H):=by
 intro pins s σ H xs us Q I r h
 obtain ⟨i,j,rfl,q⟩:=h
 obtain ⟨u,w',rfl,⟨t,rfl⟩,⟨t',rfl⟩⟩:=zpb r
 refine min_two_ints (I.ok.hd hc) fun h' tk k=>⟨_,H,I.kept k,?_,q⟩
 by_cases hj:j<i
 ·rw [qa4 hj,qa4 hj];exact ⟨_,rfl⟩
 ·rw [qa5 hj,qa5 hj];exact ⟨_,rfl⟩
end
structure zsT (h:Heap) (x dx C:Addr) (mA:Str->Option Value):Prop where
 obj:h.get? x=some (W.instObj C dx)
 ns:h.Ns1 dx mA
 ne:dx≠x
theorem zlQ {h:Heap} {dx:Addr} {mA:Str->Option Value} (n:h.Ns1 dx mA): ∃ od,h.get? dx=some od/\ ∀ name,W.lookIn name od=some (mA name):=by
 obtain ⟨o,es,ep,ho,hd,hk,_,hm⟩:=n
 refine ⟨o,ho,fun name=> ?_⟩
 have e:=hm name
 unfold nsFind findBy at e
 rw [<- Array.find?_toList] at e
 unfold W.lookIn
 rw [hd]
 dsimp only
 split
 ·rename_i y q
  rw [q] at e
  exact congrArg some e
 ·rename_i q
  rw [q] at e
  have a:es.toList.any (·.refKey)=false:=by
   rw [List.any_eq_false]
   intro y hy
   obtain ⟨z,t,hkey⟩:=hk y (Array.mem_toList_iff.mp hy)
   simp [DictEntry.refKey,hkey]
  have a': ¬es.toList.any (·.refKey)=true:=by rw [a];exact Bool.false_ne_true
  rw [qa5 a']
  exact congrArg some e
theorem zsT.look {h:Heap} {x dx C:Addr} {mA:Str->Option Value} (I:zsT h x dx C mA): ∃ od,W.InstAt h x (W.instObj C dx) C (some od)/\ ∀ name,W.lookIn name od=some (mA name):=
 let ⟨od,ho,hl⟩:=zlQ I.ns
 ⟨od,⟨I.obj,rfl,rfl,ho⟩,hl⟩
section
variable {prog:Program} {w:World} {A:Around} {E:Value->Shared->Prop} {s:Shared} {K:W.Frag} {x dx C f:Addr} {mA:Str->Option Value} {name:Str} {v:Value}
end
section
variable {P:Program} {w:World} {H H':Hp} {h h':Heap} {a C dx:Addr} {fs fs':List (Str×V)}
theorem zoT (hok:HOk P w H h) (e:H a=some (.ins C dx fs)): ∃ mA,zsT h a dx C mA/\(∀ f,zsR (fs.lookup f) (mA f))/\PySem.Within mA (fs.map (·.1))/\fs.length<=1000/\H dx=some (.own a):=by
 obtain ⟨d,z,ne,ob,mA,n,r,q⟩:=(show zbF P w H h a (.ins C dx fs) from hok a _ e)
 exact ⟨mA,⟨ob,n,ne⟩,r,q,z,d⟩
end
structure Cls (K:W.Frag) (C:Addr):Prop where
 pg:W.plainGet K C Str.empty=true
 hd:W.hasDictIn K C=true
 po:W.plainOver K C=true
 sa:W.findIn K (.ref C) "__setattr__"=some (some (.builtin "object.__setattr__"))
theorem Cls.get {K:W.Frag} {C:Addr} (c:Cls K C) (f:Str):W.plainGet K C f=true:=c.pg
structure Con (K:W.Frag) (C:Addr) (f:Str) (v:V) (u:Value):Prop where
 at_:W.findIn K (.ref C) f=some (some u)
 rel:zb1 v u
 get:W.specialIn K u "__get__"=some none
 cp:W.copiedNames.contains f=false
structure zuC (K:W.Frag) (C:Addr) (m:Str) (f:Addr):Prop where
 at_:W.findIn K (.ref C) m=some (some (.ref f))
 fn:W.isFn K (.ref f)=true
 kp:W.keepIn K (.ref f)=true
section
variable {X:Cx} {pins:List (Addr×Obj)} {σ:St} {H:Hp} {s:Shared} {a C dx:Addr} {fs:List (Str×V)} {f:Str} {v:V} {A:Around} {E:Value->Shared->Prop}
theorem Inv.made (I:Inv X pins σ H s):Inv X pins σ (upd (upd H s.heap.objs.size (.own (s.heap.objs.size+1))) (s.heap.objs.size+1) (.ins C s.heap.objs.size []))
  {s with heap:=(s.heap.push W.emptyDict).push (W.instObj C s.heap.objs.size)}:=by
 have e1:(s.heap.push W.emptyDict).get? s.heap.objs.size=some W.emptyDict:=qar s.heap rfl
 have e2:((s.heap.push W.emptyDict).push (W.instObj C s.heap.objs.size)).get? (s.heap.objs.size+1)=some (W.instObj C s.heap.objs.size):=by
  have:=qar (s.heap.push W.emptyDict) (o:=W.instObj C s.heap.objs.size) rfl
  rwa [qaL] at this
 have e3:(s.heap.push W.emptyDict).Ns s.heap.objs.size (fun _=>none):=⟨W.emptyDict, #[],_,e1,rfl,(fun e he=>absurd he (by simp)),fun _=>rfl⟩
 have I1:=I.laid (a:=s.heap.objs.size) (o:= .own (s.heap.objs.size+1)) (h':=s.heap.push W.emptyDict) (t':=s.toks) (fun b u q=>qag _ q) (qaV _) ⟨_,e1⟩
 refine I1.laid (a:=s.heap.objs.size+1) (o:= .ins C s.heap.objs.size []) (t':=s.toks) (fun b u q=>qag _ q) (Nat.le_of_eq (qaL _ _)) ?_
 have ne:s.heap.objs.size≠s.heap.objs.size+1:=qaR (Nat.lt_succ_self _)
 refine ⟨by rw [zaC ne,za0],Nat.zero_le _,ne,e2,fun _=>none,(Heap.Ns1.of_empty e3).at fun o q=>qag _ q,fun _=>True.intro,fun y hy=>absurd rfl hy⟩
end
section
variable {X:Cx} {o e value:Expr} {f:Str} {pos pos' tpos:Pos} {ta tv:TE}
end
section
variable {X:Cx} {pins:List (Addr×Obj)} {σ:St} {H:Hp} {s:Shared} {A:Around} {E:Value->Shared->Prop} {Q:Value->Shared->Prop} {c:Value} {b:Bool}
inductive ziA (K:W.Frag) (H:Hp):V->Value->Prop where
 | non:ziA K H .non (.type "NoneType")
 | bl (x:Bool):ziA K H (.bl x) (.type "bool")
 | int (i:Int):ziA K H (.int i) (.type "int")
 | str (x:Str):ziA K H (.str x) (.type "str")
 | flt (x:UInt64):ziA K H (.flt x) (.type "float")
 | lst {a:Addr} {xs:List V} (e:H a=some (.lst xs)):ziA K H (.ref a) (.type "list")
 | frz {a:Addr} {o:Obj} {xs:List V} (e:H a=some (.frz o (.lst xs))):ziA K H (.ref a) (.type "list")
 | tup {a:Addr} {xs:List V} (e:H a=some (.tup xs)):ziA K H (.ref a) (.type "tuple")
 | dK {a:Addr} {kvs:List (Key×V)} (e:H a=some (.dK kvs)):ziA K H (.ref a) (.type "dict")
 | dT {a:Addr} {kvs:List (List Key×V)} (e:H a=some (.dT kvs)):ziA K H (.ref a) (.type "dict")
 | ins {a C dx:Addr} {fs:List (Str×V)} (e:H a=some (.ins C dx fs)) (cl:Cls K C) (ha:W.findIn K (.ref C) "__class__"=some (some (.builtin "object.__class__")))
   (hn:W.specialIn K (.builtin "object.__class__") "__get__"=some (some (.builtin "getset_descriptor.__get__"))) (htk:W.takesIn K (.builtin "object.__class__")=some true)
   (hm:W.mroIn K C (.type "object")=some true):ziA K H (.ref a) (.ref C)
theorem zka {x:V} {u t:Value} (I:Inv X pins σ H s) (rx:zb1 x u) (ty:ziA X.K H x t) (e:W.kitOne X.K t c=some b) (h: ∀ tk,Q (.bool b) {s with toks:=tk}):
  wpAny (model X.prog X.w) A (call (.builtin "isinstance") [u,c]) Q E s:=by
 cases ty with
 | non=>cases (show u=Value.none from rx);exact W.kia_one W.kitx_none I.kIn True.intro e (fun z=>nomatch z) h
 | bl y=>cases (show u=Value.bool y from rx);exact W.kia_one W.kitx_bool I.kIn True.intro e (fun z=>nomatch z) h
 | int i=>obtain ⟨t,q⟩:=(show ∃ t,u=Value.int i t from rx);cases q;exact W.kia_one W.kitx_int I.kIn True.intro e (fun z=>nomatch z) h
 | str y=>obtain ⟨t,q⟩:=(show ∃ t,u=Value.str y t from rx);cases q;exact W.kia_one W.kitx_str I.kIn True.intro e (fun z=>nomatch z) h
 | flt y=>obtain ⟨t,q⟩:=(show ∃ t,u=Value.float y t from rx);cases q;exact W.kia_one W.kitx_float I.kIn True.intro e (fun z=>nomatch z) h
 | @lst a xs ea=>
  cases (show u=Value.ref a from rx)
  obtain ⟨_,_,n,_,h1⟩:=(show zbF X.prog X.w H s.heap a (.lst xs) from I.hok a _ ea)
  exact W.kia_one W.kitx_list I.kIn ⟨_,h1,rfl⟩ e (fun z=>nomatch z) h
 | @frz a ob xs ea=>
  cases (show u=Value.ref a from rx)
  obtain ⟨_,_,_,n,_,h1⟩:=(show zbF X.prog X.w H s.heap a (.frz ob (.lst xs)) from I.hok a _ ea)
  exact W.kia_one W.kitx_list I.kIn ⟨_,h1,rfl⟩ e (fun z=>nomatch z) h
 | @tup a xs ea=>
  cases (show u=Value.ref a from rx)
  obtain ⟨_,_,_,p⟩:=(show zbF X.prog X.w H s.heap a (.tup xs) from I.hok a _ ea)
  obtain ⟨o,h1,h2,_⟩:=p
  exact W.kia_one W.kitx_tuple I.kIn ⟨o,h1,h2⟩ e (fun z=>nomatch z) h
 | @dK a kvs ea=>
  cases (show u=Value.ref a from rx)
  obtain ⟨_,_,vs,_,p⟩:=(show zbF X.prog X.w H s.heap a (.dK kvs) from I.hok a _ ea)
  obtain ⟨o,es,ep,h1,h2,_⟩:=p
  exact W.kia_one W.kitx_dict I.kIn ⟨o,h1,h2.1⟩ e (fun z=>nomatch z) h
 | @dT a kvs ea=>
  cases (show u=Value.ref a from rx)
  obtain ⟨_,_,xs,_,o,es,ep,h1,h2,_⟩:=(show zbF X.prog X.w H s.heap a (.dT kvs) from I.hok a _ ea)
  exact W.kia_one W.kitx_dict I.kIn ⟨o,h1,h2.1⟩ e (fun z=>nomatch z) h
 | @ins a C dx fs ea cl ha hn htk hm=>
  cases (show u=Value.ref a from rx)
  obtain ⟨mA,O,_⟩:=zoT I.hok ea
  obtain ⟨od,J,_⟩:=O.look
  exact W.kia_one (W.kitx_own (cl.get _) cl.hd ha hn htk hm) I.kIn J e (fun z=>nomatch z) h
end
structure zel (k:Nat) (A:Around):Prop where
 hd:A.handled=none
 dp:A.depth+3*k+5<recursionLimit
 un:A.units+16*k+200<cLine
theorem zel.mono {j k:Nat} {A:Around} (r:zel k A) (h:j<=k):zel j A:=⟨r.hd,by have:=r.dp;omega,by have:=r.un;omega⟩
theorem zel.deeper {k:Nat} {A:Around} (r:zel (k+1) A) (env:Env):zel k (A.deeper env):=
 ⟨r.hd,by have:=r.dp;show A.depth+1+3*k+5<_;omega,by have:=r.un;show A.units+3+16*k+200<_;omega⟩
theorem zel.in1 {k:Nat} {A:Around} (r:zel (k+1) A):zel k A.in1:=
 ⟨r.hd,by have:=r.dp;show A.depth+3*k+5<_;omega,by have:=r.un;show A.units+1+16*k+200<_;omega⟩
theorem zel.depth {k:Nat} {A:Around} (r:zel k A):A.depth<recursionLimit:=by have:=r.dp;omega
theorem zel.units {k:Nat} {A:Around} (r:zel k A):A.units+64<cLine:=by have:=r.un;omega
noncomputable def zuk:TA:=fun _ H Q=>Q [] H
noncomputable def zti (ta:TE) (tr:TA):TA:=fun σ H Q=>ta σ H fun x H1=>tr σ H1 fun xs H2=>Q (x::xs) H2
section
variable {X:Cx} {e:Expr} {es:List Expr} {te:TE} {t:TA} {pos:Pos}
theorem zcZ:PA X [] zuk:=fun _ _ _ _ H Q I h=>Calls.spliced_nil ⟨[],H,I,.nil,h⟩
theorem zbK (ha:PE X e te) (hr:PA X es t) (hs:starEach (e::es) X.env=(false,eval e X.env)::starEach es X.env:=by rfl):PA X (e::es) (zti te t):=by
 intro pos pins s σ H Q I h
 rw [hs]
 show wpAny _ _ (spliced ((false,eval e X.env)::backTo pos (starEach es X.env))) _ _ s
 refine Calls.spliced_cons (thn (ha pins s σ H _ I h) fun u s1 ⟨x,H1,I1,r1,q1⟩=> ?_)
 exact thn (hr pos pins s1 σ H1 _ I1 q1) fun us s2 ⟨xs,H2,I2,r2,q2⟩=>⟨x::xs,H2,I2,.cons r1 r2,q2⟩
noncomputable def zuz (t:TA):TE:=fun σ H Q=>t σ H fun xs H1=>xs.length<=sizeLine/\ ∀ p,H1 p=none->Q (.ref p) (upd H1 p (.tup xs))
noncomputable def zn7 (t:TA):TE:=fun σ H Q=>t σ H fun xs H1=>xs.length<=sizeLine/\ ∀ p,H1 p=none->Q (.ref p) (upd H1 p (.lst xs))
theorem zq2 {x1} (h:PA X es t):PE X (.Tuple es x1 pos) (zuz t):=by
 intro pins s σ H Q I hq
 refine wpAny_Tuple_spliced (thn (h pos pins s σ H _ I hq) fun us s1 ⟨xs,H1,I1,r,z,q⟩=>⟨by rw [<- r.length];exact z,?_⟩)
 have hf:H1 s1.heap.objs.size=none:=I1.hok.fresh (qaV _)
 refine ⟨.ref s1.heap.objs.size,upd H1 s1.heap.objs.size (.tup xs),I1.laid (t':=s1.toks) (fun b u e=>qag _ e) (qaV _) ?_,rfl,q _ hf⟩
 exact ⟨z,us,r,⟨_,qar _ rfl,rfl,_,rfl⟩⟩
theorem znN (h:PA X es t):PE X (.List es pos) (zn7 t):=by
 intro pins s σ H Q I hq
 refine wpAny_List_spliced (thn (h pos pins s σ H _ I hq) fun us s1 ⟨xs,H1,I1,r,z,q⟩=>⟨by rw [<- r.length];exact z,?_⟩)
 have hf:H1 s1.heap.objs.size=none:=I1.hok.fresh (qaV _)
 refine ⟨.ref s1.heap.objs.size,upd H1 s1.heap.objs.size (.lst xs),I1.laid (t':=s1.toks) (fun b u e=>qag _ e) (qaV _) ?_,rfl,q _ hf⟩
 exact ⟨z,us,0,r,qar _ rfl⟩
end
noncomputable abbrev Sp:=List V->Hp->VK->XK->Prop
noncomputable abbrev CXT:=List Env->Hp->Shared->XK->Value->Shared->Prop
structure znS (P:Program) (w:World) (K:W.Frag) (mg:Str->Option Value) (base:Heap) (A:Around) (outer:List Env) (s:Shared) (H:Hp):Prop where
 frames:A.frames=some outer
 mod:Mod K mg base
 bs: ∀ b o,base.get? b=some o->s.heap.get? b=some o/\H b=none
 bsz:base.objs.size<=s.heap.objs.size
 funs:s.heap.FunFrames base outer
 frf: ∀ b∈frs outer,H b=none
 hok:HOk P w H s.heap
 bare:AllBare s.gens
 hand:zgR A H
def CE (outer:List Env) (P:Program) (w:World) (H:Hp) (s:Shared) (Q:VK) (u:Value) (s':Shared):Prop:=
 ∃ v H',s'.os=s.os/\AllBare s'.gens/\Un (frs outer) [] H H' s.heap s'.heap/\HOk P w H' s'.heap/\zb1 v u/\Q v H'
def CR (CX:CXT) (outer:List Env) (P:Program) (w:World) (H:Hp) (s:Shared) (Q:VK) (E:XK) (r:Result) (s':Shared):Prop:=
 match r with
 | .ok (.ret u)=>CE outer P w H s Q u s'
 | .ok _=>False
 | .error e=>CX outer H s E e s'
structure zbn (P:Program) (w:World) (K:W.Frag) (mg:Str->Option Value) (base:Heap) (CX:CXT) (k:Nat) (f:Addr) (fd:FuncData) (ps:List Str) (sp:Sp):Prop where
 len: ∀ vs H Q E,sp vs H Q E->vs.length=ps.length
 run: ∀ (A:Around) (outer:List Env) (s:Shared) (H:Hp) (args:Args) (us:List Value) (vs:List V) (Q:VK) (E:XK),zel k A->znS P w K mg base A outer s H->BindsTo s fd args (ps.zip us)->za3 vs us->sp vs H Q E->
  codeAny (model P w) A (.call (.ref f) args) (CR CX outer P w H s Q E) s
theorem zbn.mono {P:Program} {w:World} {K:W.Frag} {mg:Str->Option Value} {base:Heap} {CX:CXT} {j k:Nat} {f:Addr} {fd:FuncData} {ps:List Str} {sp:Sp} (F:zbn P w K mg base CX j f fd ps sp) (h:j<=k):
  zbn P w K mg base CX k f fd ps sp:=⟨F.len,fun A outer s H args us vs Q E hr=>F.run A outer s H args us vs Q E (hr.mono h)⟩
theorem zbn.imp {P:Program} {w:World} {K:W.Frag} {mg:Str->Option Value} {base:Heap} {CX:CXT} {k:Nat} {f:Addr} {fd:FuncData} {ps:List Str} {sp sp':Sp} (F:zbn P w K mg base CX k f fd ps sp)
  (h: ∀ vs H Q E,sp' vs H Q E->sp vs H Q E):zbn P w K mg base CX k f fd ps sp':=
 ⟨fun vs H Q E q=>F.len vs H Q E (h _ _ _ _ q),fun A outer s H args us vs Q E hr he hb hv hs=>F.run A outer s H args us vs Q E hr he hb hv (h _ _ _ _ hs)⟩
theorem znS.in1 {P:Program} {w:World} {K:W.Frag} {mg:Str->Option Value} {base:Heap} {A:Around} {outer:List Env} {s:Shared} {H:Hp} (e:znS P w K mg base A outer s H):
  znS P w K mg base A.in1 outer s H:=⟨e.frames,e.mod,e.bs,e.bsz,e.funs,e.frf,e.hok,e.bare,e.hand⟩
section
variable {X:Cx} {pins:List (Addr×Obj)} {σ:St} {H:Hp} {s s':Shared}
theorem Inv.env0 (I:Inv X pins σ H s):znS X.prog X.w X.K X.mg X.base X.A X.stack s H:=
 ⟨I.ok.frames,I.ok.mod,I.bs,qaS I.ok.bsz I.sz,I.stack,I.stkFree,I.hok,I.bare,I.handA⟩
theorem Inv.after {Q:VK} {u:Value} (I:Inv X pins σ H s) (h:CE X.stack X.prog X.w H s Q u s'):EP X pins σ Q u s':=by
 obtain ⟨v,H',os,bare,un,hok,r,q⟩:=h
 obtain ⟨hh,g,d,t,os'⟩:=s'
 obtain rfl:os'=s.os:=os
 exact ⟨v,H',I.call (h':=hh) (g':=g) (d':=d) (t':=t) (ch:=[]) un hok bare (fun b z=>absurd z (by simp)),r,q⟩
end
noncomputable def zto (sp:Sp) (dvs:List V) (E:XK) (t:TA):TE:=fun σ H Q=>t σ H fun vs H1=>sp (vs++dvs) H1 Q E
def zaF (K:W.Frag) (fd:FuncData) (ps:List Str) (ds:List Value):Prop:=
 ∀ (s:Shared) (us:List Value),K.In s.heap->(us++ds).length=ps.length->BindsTo s fd ⟨us,[]⟩ (ps.zip (us++ds))
theorem zaF.all {K:W.Frag} {fd:FuncData} {ps:List Str} (h: ∀ us:List Value,us.length=ps.length->bindArgs fd ⟨us,[]⟩=pure (ps.zip us)):zaF K fd ps []:=fun s us _ hl=>by
 rw [List.append_nil] at hl ⊢
 exact .of_eq (h us hl)
def zkk (CX:CXT) (X:Cx) (E:XK):Prop:= ∀ (pins:List (Addr×Obj)) (σ:St) (H:Hp) (s:Shared) (e:Value) (s':Shared),Inv X pins σ H s->CX X.stack H s E e s'->X.xe e s'
section
variable {X:Cx} {CX:CXT} {k:Nat} {f C:Addr} {fd:FuncData} {ps:List Str} {sp:Sp} {dvs:List V} {ds:List Value} {E:XK} {x m:Str} {p pos apos:Pos} {e o:Expr} {es:List Expr} {ta:TE} {t:TA}
theorem zp2 {pins:List (Addr×Obj)} {σ:St} {H:Hp} {s:Shared} {Q:VK} {us:List Value} {vs:List V} (F:zbn X.prog X.w X.K X.mg X.base CX k f fd ps sp) (hr:zel k X.A) (hb:zaF X.K fd ps ds) (hd:za3 dvs ds) (hx:zkk CX X E)
  (I:Inv X pins σ H s) (r:za3 vs us) (h:sp (vs++dvs) H Q E):wpAny (model X.prog X.w) X.A (call (.ref f) us) (EP X pins σ Q) X.xe s:=by
 have r2:za3 (vs++dvs) (us++ds):=r.append hd
 have hl:(us++ds).length=ps.length:=by rw [<- r2.length];exact F.len _ _ _ _ h
 refine wpAny_call (codeAny_mono (F.run X.A X.stack s H ⟨us,[]⟩ (us++ds) (vs++dvs) Q E hr I.env0 (hb s us I.kIn hl) r2 h) fun r s' hq=> ?_)
 cases r with
 | error e=>exact hx pins σ H s e s' I hq
 | ok fl=>
  cases fl with
  | ret u=>exact I.after hq
  | next=>exact qa0 hq
  | brk=>exact qa0 hq
  | cont=>exact qa0 hq
theorem zox (F:zbn X.prog X.w X.K X.mg X.base CX k f fd ps sp) (hr:zel k X.A) (hg:Gl X x) (hm:X.mg x=some (.ref f)) (hk:W.keepIn X.K (.ref f)=true) (hb:zaF X.K fd ps ds) (hd:za3 dvs ds) (hx:zkk CX X E)
  (ha:PA X (e::es) t) (hdb:(x==("__debug__":Str))=false:=by decide) (he:starEach (e::es) X.env=(false,eval e X.env)::starEach es X.env:=by rfl) (hpl:(backTo pos (starEach es X.env)).any (·.1)=false:=by rfl):
  PE X (.Call (.Name x p) (e::es) [] pos) (zto sp dvs E t):=by
 intro pins s σ H Q I h
 refine wpAny_Call_Name_kw (zl4 I hg hm ?_ hdb)
 refine W.callWith_K (h₀:=X.base) I.ok.mod.kin hk (thn (ha pos pins s σ H _ I h) fun us s1 ⟨vs,H1,I1,r,q⟩=>⟨I1.kIn,?_⟩) he hpl
 exact zp2 F hr hb hd hx I1 r q
structure Mk (K:W.Frag) (C f:Addr):Prop where
 makes:W.makesIn K C=true
 init:W.findIn K (.ref C) "__init__"=some (some (.ref f))
 fn:W.isFn K (.ref f)=true
 kp:W.keepIn K (.ref C)=true
end
section
variable {X:Cx} {CX:CXT} {k:Nat} {f C:Addr} {fd:FuncData} {ps ks:List Str} {sp:Sp} {E:XK} {x m:Str} {p pos apos kpos:Pos} {e o:Expr} {es:List Expr} {kws:List Keyword} {te ta:TE} {t tk:TA} {nm:Option Str}
structure ztU (K:W.Frag) (fd:FuncData) (ps ks:List Str) (g:List Value->List Value->List Value) (gV:List V->List V->List V):Prop where
 to: ∀ (s:Shared) (us ws:List Value),K.In s.heap->(g us ws).length=ps.length->BindsTo s fd ⟨us,ks.zip ws⟩ (ps.zip (g us ws))
 rel: ∀ {vs:List V} {us:List Value} {zs:List V} {ws:List Value},za3 vs us->za3 zs ws->za3 (gV vs zs) (g us ws)
variable {g:List Value->List Value->List Value} {gV:List V->List V->List V}
end
structure zam (N P:List Str) (sc:Scope):Prop where
 kind:sc.kind= .function
 co:sc.isCoroutine=false
 gen:sc.isGenerator=false
 nd:N.Nodup
 pre:N.take P.length=P
 par: ∀ x∈P,sc.names.lookup x=some .local\/sc.names.lookup x=some .cell
 nofree: ∀ y∈sc.names,y.2≠ .free
theorem zhp {kindOf:Str->Option NameKind} {x:Str}: ∀ {binds:List (Str×Value)} {m:Str->Option Value},(∀ v,(x,v)∉binds)->bindL kindOf binds m x=m x
 | [],_,_=>rfl
 | (n,v)::r,m,h=>by
  unfold bindL
  rw [zhp fun w hw=>h w (qan _ hw)]
  split
  ·have:x≠n:=by rintro rfl;exact h v qau
   simp [this]
  ·rfl
theorem zhE {kindOf:Str->Option NameKind} {x:Str}: ∀ {binds:List (Str×Value)} {m:Str->Option Value},(∀ v,(x,v)∉binds)->bindC kindOf binds m x=m x
 | [],_,_=>rfl
 | (n,v)::r,m,h=>by
  unfold bindC
  rw [zhE fun w hw=>h w (qan _ hw)]
  split
  ·rfl
  ·have:x≠n:=by rintro rfl;exact h v qau
   simp [this]
theorem zhk {kindOf:Str->Option NameKind} {x:Str} {v:Value}: ∀ {P:List Str} {vs:List Value} {i:Nat} {m:Str->Option Value},P.Nodup->P[i]? = some x->vs[i]? = some v->kindOf x=some .local->
  bindL kindOf (P.zip vs) m x=some v
 | [],_,_,_,_,h,_,_=>by simp at h
 | _::_,[],_,_,_,_,h,_=>by simp at h
 | p::P,w::vs,0,m,nd,h1,h2,hk=>by
  simp at h1 h2;subst h1;subst h2
  show bindL kindOf ((p,w)::P.zip vs) m p=_
  unfold bindL
  rw [zhp fun v hv=>(List.nodup_cons.mp nd).1 (List.of_mem_zip hv).1,qa4 hk]
  simp
 | p::P,w::vs,i+1,m,nd,h1,h2,hk=>by
  show bindL kindOf ((p,w)::P.zip vs) m x=_
  unfold bindL
  exact zhk (i:=i) (List.nodup_cons.mp nd).2 (by simpa using h1) (by simpa using h2) hk
theorem zhd {kindOf:Str->Option NameKind} {x:Str} {v:Value}: ∀ {P:List Str} {vs:List Value} {i:Nat} {m:Str->Option Value},P.Nodup->P[i]? = some x->vs[i]? = some v->kindOf x≠some .local->
  bindC kindOf (P.zip vs) m x=some v
 | [],_,_,_,_,h,_,_=>by simp at h
 | _::_,[],_,_,_,_,h,_=>by simp at h
 | p::P,w::vs,0,m,nd,h1,h2,hk=>by
  simp at h1 h2;subst h1;subst h2
  show bindC kindOf ((p,w)::P.zip vs) m p=_
  unfold bindC
  rw [zhE fun v hv=>(List.nodup_cons.mp nd).1 (List.of_mem_zip hv).1,qa5 hk]
  simp
 | p::P,w::vs,i+1,m,nd,h1,h2,hk=>by
  show bindC kindOf ((p,w)::P.zip vs) m x=_
  unfold bindC
  exact zhd (i:=i) (List.nodup_cons.mp nd).2 (by simpa using h1) (by simpa using h2) hk
noncomputable def zfw (N:List Str) (vs:List V):St:=vs.map some++List.replicate (N.length - vs.length) none
noncomputable def zn9 (CX:CXT) (P:Program) (w:World) (K:W.Frag) (mg:Str->Option Value) (base:Heap) (N:List Str) (qual:Str) (scope:Scope) (f:Addr) (cd:Value) (A:Around) (outer:List Env) (s:Shared) (H:Hp) (E:XK):Cx where
 prog:=P
 w:=w
 K:=K
 mg:=mg
 base:=base
 A:=A.deeper (envOfC qual scope s.heap.objs.size f cd)
 N:=N
 s₀:=s
 H₀:=H
 env:=envOfC qual scope s.heap.objs.size f cd
 outer:=outer
 stack:=envOfC qual scope s.heap.objs.size f cd::outer
 ex:=[]
 calm:=true
 fn:=fun _=>true
 pn:=[]
 xe:=fun e s'=>wpAny (model P w) (A.deeper (envOfC qual scope s.heap.objs.size f cd)) (leaving (envOfC qual scope s.heap.objs.size f cd) e) (fun _ s''=>CX outer H s E e s'') (fun e' s''=>CX outer H s E e' s'') s'
theorem ziZ {sc:Scope} {n:Nat} {x:Str} (h:sc.names.lookup x=some .cell): ∃ c,(cellsFrom n sc.names []).lookup x=some c:=by
 have q:=W.cellsFrom_some sc.names n [] (.inl h)
 exact Option.isSome_iff_exists.mp q
theorem zlG {CX:CXT} {P:Program} {w:World} {K:W.Frag} {mg:Str->Option Value} {base:Heap} {N ps:List Str} {qual:Str} {scope:Scope} {f:Addr} {cd:Value} {A:Around} {outer:List Env} {s s1:Shared} {H:Hp} {E:XK} {us:List Value} {vs:List V}
  (S:zam N ps scope) {cm:Bool} (hd:cm=true->A.handled=none) (e0:znS P w K mg base A outer s H) (hl:vs.length=ps.length) (r:za3 vs us)
  (x:InCallC s s.heap.objs.size (bindL (envOfC qual scope s.heap.objs.size f cd).kindOf (ps.zip us) fun _=>none) (cellsFrom (s.heap.objs.size+1) scope.names []) (bindC (envOfC qual scope s.heap.objs.size f cd).kindOf (ps.zip us) fun _=>none) s1):
  Inv {zn9 CX P w K mg base N qual scope f cd A outer s H E with calm:=cm} [] (zfw N vs) H s1:=by
 have hpl:ps.length<=N.length:=by have:=congrArg List.length S.pre;rw [List.length_take] at this;omega
 obtain ⟨h1,tk,rfl,hk⟩:=x.done
 have noA: ∀ b:Addr,b∉(zn9 CX P w K mg base N qual scope f cd A outer s H E).ex:=fun b z=>absurd (show b∈([]:List Addr) from z) (by simp)
 refine ⟨⟨e0.mod,S.kind,rfl,rfl,qaV _,fun y z c h1 h2=> ?_,fun y hy=> ?_,fun y c _ h=> ?_,hd,e0.hand,Around.frames_deeper e0.frames,.inr ⟨rfl,rfl⟩,fun b z=>absurd z (noA b),e0.bs,e0.bsz,fun b _ _=>noA b,fun b z=>absurd z (noA b),e0.funs,e0.frf⟩,
   rfl,e0.bare,Un.kept hk,⟨_,x.toInCall.ns,fun i y v h1 h2 h3=> ?_⟩,fun y c h=>⟨_,x.cell y c h⟩,e0.hok.fresh (qaV _),fun y c h=> ?_,fun p hp=>absurd (show p∈([]:List (Addr×Obj)) from hp) (by simp),e0.hok.kept hk,?_⟩
 ·exact name_of_addr x.apart (PySem.mem_of_lookup h1) (PySem.mem_of_lookup h2)
 ·have hy:scope.names.lookup y=some .cell\/scope.names.lookup y=some .free:=hy
  rcases hy with hy | hy
  ·exact ziZ hy
  ·exact absurd rfl (S.nofree _ (PySem.mem_of_lookup hy))
 ·exact Nat.le_of_lt (x.above y c (PySem.mem_of_lookup h))
 ·have hi:i<vs.length:=by
   unfold zfw at h2
   by_cases hi:i<vs.length
   ·exact hi
   ·rw [qaa (by simpa using hi)] at h2
    rw [List.getElem?_replicate] at h2
    split at h2<;>cases h2
  have ha:vs[i]? = some v:=by
   unfold zfw at h2
   rw [qad (by simpa using hi),List.getElem?_map] at h2
   cases e:vs[i]? with
   | none=>rw [e] at h2;cases h2
   | some a=>rw [e] at h2;cases h2;rfl
  obtain ⟨u,hu,rv⟩:=r.get ha
  have hp:ps[i]? = some y:=by
   rw [<- S.pre,List.getElem?_take_of_lt (by omega)];exact h1
  have ndP:ps.Nodup:=by rw [<- S.pre];exact S.nd.sublist (List.take_sublist _ _)
  refine ⟨u,rv,?_⟩
  rcases S.par y (List.mem_of_getElem? hp) with k | k
  ·exact .inl ⟨k,zhk ndP hp hu k⟩
  ·obtain ⟨c,e⟩:=ziZ (n:=s.heap.objs.size+1) k
   refine .inr ⟨.inl k,c,e,?_⟩
   have q:=x.cell y c e
   rw [zhd ndP hp hu (by show scope.names.lookup y≠_;rw [k];decide)] at q
   exact q
 ·exact e0.hok.fresh (Nat.le_of_lt (x.above y c (PySem.mem_of_lookup h)))
 ·unfold zfw
  show _=N.length
  rw [qav,qaH,List.length_replicate]
  omega
theorem ztD {CX:CXT} {P:Program} {w:World} {K:W.Frag} {mg:Str->Option Value} {base:Heap} {k:Nat} {f:Addr} {name qual:Str} {params:Arguments} {body:List Stmt} {scope:Scope} {dV kV doc pm cdv ct oc:Value} {an od:Option Addr}
  {osl:Array (Option Value)} {N ps:List Str} {sp:Sp} (lk:K.lookup f=some ⟨oc,od,.func (W.fnOf name qual params body scope dV kV doc pm an cdv ct),osl⟩) (hcd:W.codeIn K cdv qual=true) (S:zam N ps scope)
  (len: ∀ vs H Q E,sp vs H Q E->vs.length=ps.length)
  (hbody: ∀ (A:Around) (outer:List Env) (s:Shared) (H:Hp) (vs:List V) (Q:VK) (E:XK),zel k (A.deeper (envOfC qual scope s.heap.objs.size f cdv))->sp vs H Q E->
    ∃ t,PSs (zn9 CX P w K mg base N qual scope f cdv A outer s H E) body t/\t {nx:=fun _ H'=>Q .non H',rt:=Q} (zfw N vs) H):
  zbn P w K mg base CX (k+1) f (W.fnOf name qual params body scope dV kV doc pm an cdv ct) ps sp:=by
 refine ⟨len,fun A outer s H args us vs Q E hr e0 hb r hsp=> ?_⟩
 have hl:=len _ _ _ _ hsp
 have KX:K.In s.heap:=e0.mod.kin.keeps fun b o e=>(e0.bs b o e).1
 have lim:s.heap.NoLimit:=e0.mod.nolimit.keeps fun b o e=>(e0.bs b o e).1
 have hkind: ∀ y∈ps.zip us,scope.names.lookup y.1=some .local\/(scope.names.lookup y.1=some .cell/\((cellsFrom (s.heap.objs.size+1) scope.names []).lookup y.1).isSome=true):=fun ⟨n,v⟩ hy=>by
  rcases S.par n (List.of_mem_zip hy).1 with q | q
  ·exact .inl q
  ·exact .inr ⟨q,W.cellsFrom_some _ _ _ (.inl q)⟩
 refine codeAny_call_function hr.depth (KX _ _ lk) rfl S.co S.gen rfl (W.codeRec_of KX hcd) (hb _ _ _ _ ?_)
 refine wpAny_newFunctionEnv_cells S.kind hkind fun env he s1 x=> ?_
 subst he
 refine ⟨lim.keeps x.toInCall.keep,codeAny_func ?_⟩
 obtain ⟨t,ht,hq⟩:=hbody A outer s H vs Q E (hr.deeper _) hsp
 have I:Inv (zn9 CX P w K mg base N qual scope f cdv A outer s H E) [] (zfw N vs) H s1:=zlG (cm:=true) S (fun _=>hr.hd) e0 hl r x
 refine qaZ (ht [] s1 (zfw N vs) H _ I hq) (fun fl s' hs=> ?_) fun e s' hs=>hs
 have fin: ∀ {σ':St} {H':Hp} {v:V} {u:Value},Inv (zn9 CX P w K mg base N qual scope f cdv A outer s H E) [] σ' H' s'->zb1 v u->Q v H'->CE outer P w H s Q u s':=
  fun {σ' H' v u} J rv q=>⟨v,H',J.os,J.bare,J.base,J.hok,rv,q⟩
 cases fl with
 | ret u=>
  obtain ⟨v,σ',H',J,rv,q⟩:=hs
  exact fin J rv q
 | next=>
  obtain ⟨σ',H',J,q⟩:=hs
  exact fin (v:=V.non) (u:=Value.none) J rfl q
 | brk=>
  obtain ⟨_,_,_,q⟩:=hs
  exact qa0 q
 | cont=>
  obtain ⟨_,_,_,q⟩:=hs
  exact qa0 q
section
variable {X:Cx} {x:Str} {p pos:Pos} {e:Expr} {es:List Expr} {t:TA} {id T:String} {r:List V->Hp->VK->Prop}
noncomputable def tCB (r:List V->Hp->VK->Prop) (t:TA):TE:=fun σ H Q=>t σ H fun vs H1=>r vs H1 Q
theorem zgg (hc:zaM X (.builtin id) r) (hg:Gl X x) (hm:X.mg x=none) (hv:bootBuiltins x=some (.builtin id)) (ha:PA X (e::es) t) (hn:x≠"__name__":=by decide) (hdb:(x==("__debug__":Str))=false:=by decide)
  (he:starEach (e::es) X.env=(false,eval e X.env)::starEach es X.env:=by rfl) (hpl:(backTo pos (starEach es X.env)).any (·.1)=false:=by rfl):PE X (.Call (.Name x p) (e::es) [] pos) (tCB r t):=by
 intro pins s σ H Q I h
 refine wpAny_Call_Name_kw (zer I hg hm hv ?_ hn hdb)
 exact PyProof.Rows.callWith_builtin1 (thn (ha pos pins s σ H _ I h) fun us s1 ⟨vs,H1,I1,r1,q1⟩=>hc pins s1 σ H1 vs us Q I1 r1 q1) he hpl
theorem zcy (hc:zaM X (.type T) r) (hg:Gl X x) (hm:X.mg x=none) (hv:bootBuiltins x=some (.type T)) (ha:PA X (e::es) t) (hn:x≠"__name__":=by decide) (hdb:(x==("__debug__":Str))=false:=by decide)
  (he:starEach (e::es) X.env=(false,eval e X.env)::starEach es X.env:=by rfl) (hpl:(backTo pos (starEach es X.env)).any (·.1)=false:=by rfl):PE X (.Call (.Name x p) (e::es) [] pos) (tCB r t):=by
 intro pins s σ H Q I h
 refine wpAny_Call_Name_kw (zer I hg hm hv ?_ hn hdb)
 exact PyProof.Rows.callWith_type1 (thn (ha pos pins s σ H _ I h) fun us s1 ⟨vs,H1,I1,r1,q1⟩=>hc pins s1 σ H1 vs us Q I1 r1 q1) he hpl
end
end L2
namespace HT
open PySem PyProof.Rows
noncomputable def zcR:List Int->List Int->Bool
 | [],[]=>false
 | [],_::_=>true
 | _::_,[]=>false
 | x::xs,y::ys=>if x=y then zcR xs ys else decide (x<y)
theorem zen (x y:Int) (xs ys:List Int):zcR (x::xs) (y::ys)=if x=y then zcR xs ys else decide (x<y):=rfl
theorem zf7:zcR [] []=false:=rfl
theorem zfs (y:Int) (ys:List Int):zcR [] (y::ys)=true:=rfl
theorem zfv (x:Int) (xs:List Int):zcR (x::xs) []=false:=rfl
theorem znk (A:Around) (s:Shared) (a:Int) (t:Tok) (c:Int) (u:Tok): ∃ e,SeqAt.EqAt A s (.int a t) (.int c u) e/\(e=true↔a=c):=
 ⟨(a==c),SeqAt.EqAt.int_int a t c u,by simp⟩
theorem zi1 (A:Around) (s:Shared) (a:Int) (t:Tok) (c:Int) (u:Tok) (prog:Program) (w:World) (E:Value->Shared->Prop) (Q:Value->Shared->Prop) (h:Q (.bool (decide (a<c))) s):
  wpAny (model prog w) A (richCompare .Lt (.int a t) (.int c u)) Q E s:=
 (PyProof.Rows.lt_int h:wpAny (model prog w) A (compareOp .Lt (.int a t) (.int c u)) Q E s)
section
open PySem.SeqAt
open PySem.AutoSeq1 (wpAny_loadPart')
open PySem.MeetsSeq PySem.MeetsSeq2 PySem.MeetsSeq3
theorem zga (l b:Addr) (items items2:Array Value) (n n2:Nat) (dd dd2:Option Addr) (sl sl2:Array (Option Value)) (ns ms:List Int) (hi:IntsAre items.toList ns) (hj:IntsAre items2.toList ms):
  Meets (Builtin.«tuple.__lt__» ⟨[.ref l,.ref b],[]⟩)
   (fun _ R s=>s.heap.get? l=some {cls:= .type "tuple",dict:=dd,data:= .seq items n,slots:=sl}/\s.heap.get? b=some {cls:= .type "tuple",dict:=dd2,data:= .seq items2 n2,slots:=sl2}/\
     R (.ok (.ret (.bool (zcR ns ms)))) s):=
 .of_wp fun prog w A R s h=>by
  obtain ⟨hp,g,d,tk,os⟩:=s;obtain ⟨hl,hb,h⟩:=h
  have f2:=AutoSeq1.sub_tuple_tuple
  have z1:items.size=ns.length:=by rw [<- hi.length];simp
  have z2:items2.size=ms.length:=by rw [<- hj.length];simp
  wp_walk using wpAny_loadPart' hl,wpAny_loadPart' hb,wpAny_forIn_list _ (fun zbs b s'=>b.1=none/\s'=⟨hp,g,d,tk,os⟩/\ ∃ (vs ws:List Value) (ns' ms':List Int),zbs=vs.zip ws/\
    IntsAre vs ns'/\IntsAre ws ms'/\ns'.length+items2.size=ms'.length+items.size/\R (.ok (.ret (.bool (zcR ns' ms')))) ⟨hp,g,d,tk,os⟩) _
  case turn=>
   rintro ⟨y,x⟩ zbs b s' ⟨hb',rfl,vs,ws,ns',ms',hz,hvi,hwi,hlen,hR⟩
   cases hvi with
   | nil=>rw [List.zip_nil_left] at hz;cases hz
   | cons a t hvi'=>
    cases hwi with
    | nil=>rw [List.zip_nil_right] at hz;cases hz
    | cons c u hwi'=>
     rw [List.zip_cons_cons] at hz
     injection hz with hyx hrest
     injection hyx with hy hx
     subst hy hx
     rw [zen] at hR
     simp only [qaE] at hlen
     obtain ⟨e,he,hiff⟩:=znk A.in1 ⟨hp,g,d,tk,os⟩ a t c u
     refine qaW (he prog w _ _ ?_)
     cases e with
     | true=>
      rw [qa4 (hiff.mp rfl)] at hR
      wp_walk
      exact ⟨rfl,rfl,_,_,_,_,hrest,hvi',hwi',by omega,hR⟩
     | false=>
      rw [qa5 (fun q=>absurd (hiff.mpr q) Bool.false_ne_true)] at hR
      have hri:=zi1 A.in1 ⟨hp,g,d,tk,os⟩ a t c u prog w
      wp_walk using hri
      exact ⟨_,rfl,by simpa using hR⟩
  case fin=>
   rintro ⟨b1,b2⟩ s' ⟨hb',rfl,vs,ws,ns',ms',hz,hvi,hwi,hlen,hR⟩
   simp only at hb'
   subst hb'
   have hv:zcR ns' ms'=decide (items.size<items2.size):=by
    cases hvi with
    | nil=>
     cases hwi with
     | nil=>
      simp only [qaJ] at hlen
      rw [zf7]
      exact (decide_eq_false (by omega)).symm
     | cons c u hw=>
      simp only [qaJ,qaE] at hlen
      rw [zfs]
      exact (decide_eq_true (by omega)).symm
    | cons a t hv=>
     cases hwi with
     | nil=>
      simp only [qaJ,qaE] at hlen
      rw [zfv]
      exact (decide_eq_false (by omega)).symm
     | cons c u hw=>
      rw [List.zip_cons_cons] at hz
      cases hz
   rw [hv] at hR
   wp_walk
   exact ⟨_,rfl,by simpa [Builtin.Tuple.tupleCompareSizes] using hR⟩
  case h=>
   exact ⟨rfl,rfl,items.toList,items2.toList,ns,ms,rfl,hi,hj,by omega,h⟩
end
section
variable {prog:Program} {w:World} {A:Around} {E:Value->Shared->Prop} {s:Shared}
theorem zjz {l b:Addr} {items items2:Array Value} {ns ms:List Int} {Q:Value->Shared->Prop} (hl:IsTup s.heap l items) (hb:IsTup s.heap b items2) (hi:IntsAre items.toList ns) (hj:IntsAre items2.toList ms)
  (hu:A.units<cLine) (h:Q (.bool (zcR ns ms)) s):wpAny (model prog w) A (compareOp .Lt (.ref l) (.ref b)) Q E s:=by
 obtain ⟨⟨cls,dd,data,sl⟩,ho,hc,n,hd⟩:=id hl
 obtain ⟨⟨cls2,dd2,data2,sl2⟩,ho2,hc2,n2,hd2⟩:=id hb
 simp only at hc hd hc2 hd2
 subst hc hd hc2 hd2
 exact richCompare_meets_room (op:= .Lt) ⟨_,ho,rfl⟩ ⟨_,ho2,rfl⟩ PySem.F.slot_tuple_lt PySem.F.entry_tuple_lt (PySem.F.args_tuple_lt_2 _ _) (zga l b items items2 n n2 dd dd2 sl sl2 ns ms hi hj)
  ⟨ho,ho2,show Value.bool (zcR ns ms)≠Value.notImplemented/\Q (.bool (zcR ns ms)) s from ⟨(fun x=>nomatch x),h⟩⟩ hu
theorem zob {t b:Addr} {vs ws:List Value} {Q:Value->Shared->Prop} (ht:IsTup s.heap t vs.toArray) (hb:IsTup s.heap b ws.toArray) (hv:vs≠[])
  (h1:ws=[]->Q (.ref t) s) (h2:ws≠[]->Q (.ref s.heap.objs.size) {s with heap:=s.heap.push {cls:= .type "tuple",data:= .seq (vs++ws).toArray}})
  (hsz:vs.length+ws.length<=sizeLine):wpAny (model prog w) A (binaryOp .Add (.ref t) (.ref b)) Q E s:=by
 obtain ⟨⟨cls,dd,data,sl⟩,ho,hc,n,hd⟩:=id ht
 obtain ⟨⟨cls2,dd2,data2,sl2⟩,ho2,hc2,n2,hd2⟩:=id hb
 simp only at hc hd hc2 hd2
 subst hc hd hc2 hd2
 have e:vs.toArray++ws.toArray=(vs++ws).toArray:=by simp
 by_cases hw:ws=[]
 ·exact concat_meets ⟨_,ho,rfl⟩ ⟨_,ho2,rfl⟩ noFill_tuple_add seq_tuple_add PySem.F.slot_tuple_add PySem.F.entry_tuple_add (PySem.F.args_tuple_add_2 _ _)
   (tuple_addW1 t b vs.toArray ws.toArray n n2 dd dd2 sl sl2 (by simpa using hv) (by simp [hw])) ⟨ho,ho2,h1 hw⟩
 ·refine concat_meets ⟨_,ho,rfl⟩ ⟨_,ho2,rfl⟩ noFill_tuple_add seq_tuple_add PySem.F.slot_tuple_add PySem.F.entry_tuple_add (PySem.F.args_tuple_add_2 _ _)
   (tuple_addW2 t b vs.toArray ws.toArray n n2 dd dd2 sl sl2 (by simpa using hv) (by simpa using hw) (by rw [qaA,qaA];exact hsz)) ⟨ho,ho2,?_⟩
  rw [e]
  exact h2 hw
noncomputable def sIx (n d:Nat):Option Int->Nat
 | none=>d
 | some v=>if v<0 then (v+(n:Int)).toNat else min v.toNat n
theorem zln (n d k:Nat):sIx n d (some (k:Int))=min k n:=by
 show (if (k:Int)<0 then ((k:Int)+(n:Int)).toNat else min (k:Int).toNat n)=min k n
 rw [qa5 (by omega),qaB]
theorem zra (n d:Nat) (hd:d<=n) (o:Option Int):sIx n d o<=n:=by
 cases o with
 | none=>exact hd
 | some v=>
  show (if v<0 then (v+(n:Int)).toNat else min v.toNat n)<=n
  by_cases hv:v<0
  ·rw [qa4 hv];omega
  ·rw [qa5 hv];exact Nat.min_le_right _ _
theorem zj7 (v:Int) (n d:Nat):(if v<0 then max (v+(n:Int)) 0 else min v (n:Int))=((sIx n d (some v):Nat):Int):=by
 show (if v<0 then max (v+(n:Int)) 0 else min v (n:Int))=(((if v<0 then (v+(n:Int)).toNat else min v.toNat n):Nat):Int)
 by_cases hv:v<0
 ·simp only [qa4 hv];omega
 ·simp only [qa5 hv];omega
theorem zjK (lo hi:Option Int) (n:Nat):Builtin.Slice.sliceAdjust lo hi 1 (n:Int)=(((sIx n 0 lo:Nat):Int),((sIx n n hi:Nat):Int)):=by
 have h1: ¬((1:Int)<0):=by omega
 unfold Builtin.Slice.sliceAdjust
 simp only [h1,if_false]
 refine Prod.ext ?_ ?_
 ·cases lo with
  | none=>rfl
  | some v=>exact zj7 v n 0
 ·cases hi with
  | none=>rfl
  | some v=>exact zj7 v n n
theorem zjr (i j:Nat):Builtin.Slice.slicePlaces (i:Int) (j:Int) 1=j - i:=by
 unfold Builtin.Slice.slicePlaces
 have h1:(1:Int)>0:=by omega
 simp only [h1,if_true,Int.ediv_one]
 split<;>omega
theorem zfQ {v:Value} {o:Option Int} {Q:Option Int->Shared->Prop} (p:IsPart v o) (h:Q o s):wpAny (model prog w) A (Builtin.Slice.slicePartIndex v) Q E s:=by
 cases p with
 | none=>exact slicePart_none h
 | int i t=>exact slicePart_int h
theorem zcX {sl:Addr} {vl vu:Value} {lo hi:Option Int} {n:Nat} {Q:Int×Int×Nat->Shared->Prop} (hs:s.heap.IsSliceOf sl vl vu .none) (pl:IsPart vl lo) (pu:IsPart vu hi)
  (h:Q (((sIx n 0 lo:Nat):Int),1,sIx n n hi - sIx n 0 lo) s):wpAny (model prog w) A (Builtin.Slice.sliceApplied (.ref sl) (pure (n:Int))) Q E s:=by
 obtain ⟨os,hos,hcs,hds⟩:=id hs
 unfold Builtin.Slice.sliceApplied Builtin.Slice.sliceFields
 refine qaW (qaW (wpAny_field hos hds (x:=vl) rfl (qaW (wpAny_field hos hds (x:=vu) rfl (qaW (wpAny_field hos hds (x:= .none) rfl (qaX ?_)))))))
 refine qaW (slicePart_none ?_)
 show wpAny _ _ (if ((1:Int)==0)=true then _ else _) _ _ s
 rw [qa5 (by decide)]
 refine qaW (zfQ pl (qaW (zfQ pu (qaW (qaX ?_)))))
 show wpAny _ _ (match Builtin.Slice.sliceAdjust lo hi 1 (n:Int) with | (lo,hi)=>pure (lo,(1:Int),Builtin.Slice.slicePlaces lo hi 1)) _ _ s
 rw [zjK lo hi n]
 show wpAny _ _ (pure (((sIx n 0 lo:Nat):Int),(1:Int),Builtin.Slice.slicePlaces ((sIx n 0 lo:Nat):Int) ((sIx n n hi:Nat):Int) 1)) _ _ s
 rw [zjr]
 exact qaX h
theorem zm3 (xs:Array Value) (i k:Nat):((List.range k).filterMap fun (m:Nat)=>xs[((i:Int)+(m:Int)*1).toNat]?).toArray=((xs.toList.drop i).take k).toArray:=by
 have e:(fun (m:Nat)=>xs[((i:Int)+(m:Int)*1).toNat]?)=fun m=>xs[i+m]? := by
  funext m
  have:((i:Int)+(m:Int)*1).toNat=i+m:=by omega
  rw [this]
 rw [e]
 have:=pick_run xs i k
 rw [List.filterMap_map] at this
 have e2:((fun x=>xs[x]?)∘fun x=>i+x)=fun m=>xs[i+m]? := rfl
 rw [e2] at this
 rw [this]
theorem zeb {t sl:Addr} {items:Array Value} {vl vu:Value} {lo hi:Option Int} {Q:Value->Shared->Prop} (ht:IsTup s.heap t items) (hs:s.heap.IsSliceOf sl vl vu .none) (pl:IsPart vl lo) (pu:IsPart vu hi)
  (hw: ¬(sIx items.size 0 lo=0/\sIx items.size items.size hi=items.size))
  (h:Q (.ref s.heap.objs.size) {s with heap:=s.heap.push {cls:= .type "tuple",data:= .seq ((items.toList.drop (sIx items.size 0 lo)).take (sIx items.size items.size hi - sIx items.size 0 lo)).toArray}})
  (hsz:items.size<=sizeLine):wpAny (model prog w) A (getItem (.ref t) (.ref sl)) Q E s:=by
 have htake:sizeOk (.seq ((items.toList.drop (sIx items.size 0 lo)).take (sIx items.size items.size hi - sIx items.size 0 lo)).toArray):=by
  show ((items.toList.drop (sIx items.size 0 lo)).take (sIx items.size items.size hi - sIx items.size 0 lo)).toArray.size<=sizeLine
  rw [qaA,List.length_take,List.length_drop,qas]
  omega
 have hj:sIx items.size items.size hi<=items.size:=zra _ _ (qaV _) hi
 obtain ⟨os,hos,hcs,hds⟩:=id hs
 have hTs:s.TypeIs (.ref sl) "slice":=⟨os,hos,hcs⟩
 unfold getItem
 try with_reducible refine qaO ?_
 first | refine qaW (qaX ?_) | skip
 refine qaW (wpAny_sequenceKey ht.typeIs (by decide) ?_)
 refine qaW (wpAny_callSpecial?_slot (name:=Str.ofString "__getitem__") ht.typeIs PyProof.Rows.slot_tuple_getitem
   (wpAny_call_entry PyProof.Rows.slot_tuple_getitem ht.typeIs entry_tuple_getitem ?_ (args_tuple_getitem _ _)))
 show wpAny _ _ (Builtin.Tuple.tupleItemsOf (.ref t)>>=_) _ _ s
 refine qaW (tupleItemsOf_ ht ?_)
 refine qaW (wpAny_typeOf hTs ?_)
 rw [qa4 (by decide)]
 refine qaW (zcX hs pl pu ?_)
 have hno: ¬((((sIx items.size 0 lo:Nat):Int)==0 && (1:Int)==1 && (sIx items.size items.size hi - sIx items.size 0 lo)==items.size)=true):=by
  intro q
  rw [qaG,qaG] at q
  have q1:((sIx items.size 0 lo:Nat):Int)=0:=eq_of_beq q.1.1
  have q2:sIx items.size items.size hi - sIx items.size 0 lo=items.size:=eq_of_beq q.2
  exact hw ⟨by omega,by omega⟩
 show wpAny _ _ (if (((sIx items.size 0 lo:Nat):Int)==0 && (1:Int)==1 && (sIx items.size items.size hi - sIx items.size 0 lo)==items.size)=true then _ else _) _ _ s
 rw [qa5 hno,zm3]
 first
  | exact qaW (m:=Builtin.Tuple.tupleExact _) (qaC (qaX ⟨_,rfl,qaX h⟩) htake)
  | exact qaW (m:=Builtin.Tuple.tupleExact _) (qaC (qaW (qaX (qaX ⟨_,rfl,qaX h⟩))) htake)
  | exact qaW (qaW (m:=Builtin.Tuple.tupleExact _) (qaC (qaX (qaX ⟨_,rfl,qaX h⟩)) htake))
  | exact qaW (qaW (m:=Builtin.Tuple.tupleExact _) (qaC (qaX ⟨_,rfl,qaX h⟩) htake))
end
end HT
namespace L2
open PySem PySem.Spec PyProof.Rows
noncomputable abbrev TO:=St->Hp->(Option Int->Hp->Prop)->Prop
def PO (X:Cx) (e:Option Expr) (t:TO):Prop:=
 ∀ (pins:List (Addr×Obj)) (s:Shared) (σ:St) (H:Hp) (Q:Option Int->Hp->Prop),Inv X pins σ H s->t σ H Q->
  wpAny (model X.prog X.w) X.A (evalPart e X.env) (fun u s'=> ∃ o H',Inv X pins σ H' s'/\IsPart u o/\Q o H') X.xe s
noncomputable def zoa:TO:=fun _ H Q=>Q none H
noncomputable def ztl (t:TE):TO:=fun σ H Q=>t σ H fun x H1=> ∃ i,x= .int i/\Q (some i) H1
theorem zb5 {ns:List Int}: ∀ {us:List Value},za3 (ns.map V.int) us->IntsAre us ns:=by
 induction ns with
 | nil=>intro us r;rw [List.map_nil] at r;cases r;exact .nil
 | cons n ns ih=>
  intro us r
  rw [qaM] at r
  cases r with
  | cons r1 r2=>
   obtain ⟨t,e⟩:=r1
   subst e
   exact .cons n t (ih r2)
section
variable {X:Cx} {e:Expr} {te:TE} {lo hi:Option Expr} {tl th:TO} {pos p2:Pos}
theorem zpz:PO X none zoa:=by
 intro pins s σ H Q I h
 rw [evalPart_none]
 exact qaX ⟨none,H,I,.none,h⟩
theorem zpM (h:PE X e te):PO X (some e) (ztl te):=by
 intro pins s σ H Q I hw
 rw [evalPart_some]
 refine thn (h pins s σ H _ I hw) fun u s1 ⟨x,H1,I1,r1,q1⟩=> ?_
 obtain ⟨i,rfl,q⟩:=q1
 obtain ⟨t,rfl⟩:=r1
 exact ⟨some i,H1,I1,.int i t,q⟩
def SlR (X:Cx) (r:V->Option Int->Option Int->Hp->VK->Prop):Prop:=
 ∀ (pins:List (Addr×Obj)) (s:Shared) (σ:St) (H:Hp) (x:V) (v vl vu:Value) (lo hi:Option Int) (sl:Addr) (Q:VK),Inv X pins σ H s->zb1 x v->s.heap.IsSliceOf sl vl vu .none->IsPart vl lo->IsPart vu hi->r x lo hi H Q->
  ∃ T id,typeLookup (.type T) "__getitem__"=pure (some (.builtin id))/\s.TypeIs v T/\wpAny (model X.prog X.w) X.A (getItem v (.ref sl)) (EP X pins σ Q) X.xe s
theorem SlR.or {r r':V->Option Int->Option Int->Hp->VK->Prop} (h:SlR X r) (h':SlR X r'):SlR X (fun x lo hi H Q=>r x lo hi H Q\/r' x lo hi H Q):=by
 intro pins s σ H x v vl vu lo hi sl Q I rx hs pl pu q
 rcases q with q | q
 ·exact h pins s σ H x v vl vu lo hi sl Q I rx hs pl pu q
 ·exact h' pins s σ H x v vl vu lo hi sl Q I rx hs pl pu q
noncomputable def tSl (r:V->Option Int->Option Int->Hp->VK->Prop) (te:TE) (tl th:TO):TE:=fun σ H Q=>te σ H fun x H1=>tl σ H1 fun l H2=>th σ H2 fun u H3=>r x l u H3 Q
theorem zmg {r:V->Option Int->Option Int->Hp->VK->Prop} (hr:SlR X r) (he:PE X e te) (hl:PO X lo tl) (hu:PO X hi th):PE X (.Subscript e (.Slice lo hi none p2) pos) (tSl r te tl th):=by
 intro pins s σ H Q I h
 refine Subscript_ (thn (he pins s σ H _ I h) fun v s1 ⟨x,H1,I1,r1,q1⟩=> ?_)
 refine wpAny_Slice (thn (hl pins s1 σ H1 _ I1 q1) fun vl s2 ⟨l,H2,I2,pl,q2⟩=>thn (hu pins s2 σ H2 _ I2 q2) fun vu s3 ⟨u,H3,I3,pu,q3⟩=> ?_)
 rw [evalPart_none]
 refine qaX ?_
 have I4:Inv X pins σ H3 {s3 with heap:=s3.heap.push {cls:= .type "slice",data:= .fields #[vl,vu,.none]}}:=I3.kept (t':=s3.toks) fun b ob q=>qag _ q
 obtain ⟨T,id,hT,ht,hg⟩:=hr pins {s3 with heap:=s3.heap.push {cls:= .type "slice",data:= .fields #[vl,vu,.none]}} σ H3 x v vl vu l u s3.heap.objs.size Q I4 r1 (Heap.IsSliceOf.new ..) pl pu q3
 show wpAny (model X.prog X.w) X.A (subscriptTail e (.Slice lo hi none p2) v (.ref s3.heap.objs.size)) (EP X pins σ Q) X.xe {s3 with heap:=s3.heap.push {cls:= .type "slice",data:= .fields #[vl,vu,.none]}}
 exact tail_any (ops:=[.ref s3.heap.objs.size,v]) ht hT hg (by with_unfolding_all rfl)
noncomputable def znE (xs:List V) (lo hi:Option Int):List V:=(xs.drop (HT.sIx xs.length 0 lo)).take (HT.sIx xs.length xs.length hi - HT.sIx xs.length 0 lo)
theorem zfh (xs:List V) (lo hi:Option Int):(znE xs lo hi).length<=xs.length:=by
 unfold znE
 rw [List.length_take,List.length_drop]
 omega
noncomputable def zuA (K:W.Frag):V->Option Int->Option Int->Hp->VK->Prop:=fun x lo hi H Q=> ∃ a xs,x= .ref a/\SqT K H a xs/\
 ¬ (HT.sIx xs.length 0 lo=0/\HT.sIx xs.length xs.length hi=xs.length)/\ ∀ p,H p=none->Q (.ref p) (upd H p (.tup (znE xs lo hi)))
theorem zrD:SlR X (zuA X.K):=by
 intro pins s σ H x v vl vu lo hi sl Q I rx hs pl pu h
 obtain ⟨a,xs,rfl,hx,hw,q⟩:=h
 cases rx
 obtain ⟨its,r,ht,hz⟩:=I.tuple hx
 have hlen:its.toArray.size=xs.length:=by rw [qaA];exact r.length.symm
 refine ⟨"tuple",_,PyProof.Rows.slot_tuple_getitem.lookup,ht.typeIs,?_⟩
 refine HT.zeb ht hs pl pu (by rw [hlen];exact hw) ?_ (by rw [hlen];exact hz)
 rw [hlen]
 refine ⟨.ref s.heap.objs.size,_,I.laid (t':=s.toks) (o:= .tup (znE xs lo hi)) (fun b ob q=>qag _ q) (qaV _) ?_,rfl,q _ (I.hok.fresh (qaV _))⟩
 exact ⟨qaS (zfh xs lo hi) hz,_,(r.drop (HT.sIx xs.length 0 lo)).take (HT.sIx xs.length xs.length hi - HT.sIx xs.length 0 lo),IsTup.new _ _⟩
noncomputable def zsU (K:W.Frag):R2:=fun x y H Q=> ∃ a b xs ys,x= .ref a/\y= .ref b/\SqT K H a xs/\SqT K H b ys/\xs≠[]/\xs.length+ys.length<=sizeLine/\
 (ys=[]->Q (.ref a) H)/\(ys≠[]-> ∀ p,H p=none->Q (.ref p) (upd H p (.tup (xs++ys))))
theorem za3.nil_iff {xs:List V} {us:List Value} (r:za3 xs us):us=[]↔xs=[]:=by
 cases r with
 | nil=>simp
 | cons _ _=>simp
theorem zof:OpR X (binaryOp .Add) (zsU X.K):=by
 intro pins s σ H x y v u Q I rx ry h
 obtain ⟨a,b,xs,ys,rfl,rfl,ha,hb,hx,hz,q1,q2⟩:=h
 cases rx
 cases ry
 obtain ⟨its,r1,p1,_⟩:=I.tuple ha
 obtain ⟨its2,r2,p2,_⟩:=I.tuple hb
 refine HT.zob p1 p2 (fun z=>hx (r1.nil_iff.mp z)) (fun z=>⟨.ref a,H,I,rfl,q1 (r2.nil_iff.mp z)⟩) (fun z=> ?_) (by rw [<- r1.length, <-r2.length];exact hz)
 refine ⟨.ref s.heap.objs.size,_,I.laid (t':=s.toks) (o:= .tup (xs++ys)) (fun b ob q=>qag _ q) (qaV _) ?_,rfl,q2 (fun w=>z (r2.nil_iff.mpr w)) _ (I.hok.fresh (qaV _))⟩
 exact ⟨by rw [qav];exact hz,_,r1.append r2,IsTup.new _ _⟩
end
noncomputable def ixN (n:Nat) (i:Int):Option Nat:=if 0<=i then (if i<n then some i.toNat else none) else if -(n:Int)<=i then some (i+n).toNat else none
noncomputable def atI {α:Type} (xs:List α) (i:Int):Option α:=(ixN xs.length i).bind fun j=>xs[j]?
theorem zkD {n:Nat} {i:Int} {j:Nat} (h:ixN n i=some j):seqIndex? i n=some j/\j<n/\ -(n:Int)<=i/\i<n:=by
 unfold ixN at h
 by_cases h0:0<=i
 ·rw [qa4 h0] at h
  by_cases h1:i<n
  ·rw [qa4 h1] at h
   have e:i.toNat=j:=Option.some.inj h
   exact ⟨by rw [seqIndex_of h0 h1,e],by omega,by omega,h1⟩
  ·rw [qa5 h1] at h;cases h
 ·rw [qa5 h0] at h
  by_cases h1: -(n:Int)<=i
  ·rw [qa4 h1] at h
   have e:(i+n).toNat=j:=Option.some.inj h
   exact ⟨by rw [seqIndex_neg (by omega) h1,e],by omega,h1,by omega⟩
  ·rw [qa5 h1] at h;cases h
theorem zlc {α:Type} {xs:List α} {i:Int} {v:α} (h:atI xs i=some v): ∃ j,seqIndex? i xs.length=some j/\xs[j]? = some v/\j<xs.length/\ -(xs.length:Int)<=i/\i<xs.length:=by
 unfold atI at h
 cases e:ixN xs.length i with
 | none=>rw [e] at h;cases h
 | some j=>
  rw [e] at h
  obtain ⟨h1,h2,h3,h4⟩:=zkD e
  exact ⟨j,h1,h,h2,h3,h4⟩
theorem zdh {α:Type} {xs:List α} {j:Nat} {v:α} (h:xs[j]? = some v):atI xs (j:Int)=some v:=by
 have hj:j<xs.length:=(qac.mp h).1
 have e:ixN xs.length (j:Int)=some j:=by
  unfold ixN
  rw [qa4 (by omega),qa4 (by omega)];simp
 unfold atI;rw [e];exact h
theorem zgA {α:Type} (xs:List α) (v:α):atI (xs++[v]) (-1)=some v:=by
 have hl:(xs++[v]).length=xs.length+1:=by simp
 have e:ixN (xs++[v]).length (-1)=some xs.length:=by
  unfold ixN
  rw [hl,qa5 (by decide),qa4 (by omega)]
  congr 1
  omega
 unfold atI
 rw [e]
 show (xs++[v])[xs.length]? = some v
 simp
def zig (b:Expr):Prop:= ∀ o i,subscripted b false o i=operate [o,i] (getItem o i)
def IxR (X:Cx) (r:R2):Prop:=
 ∀ (value slice:Expr) (pins:List (Addr×Obj)) (s:Shared) (σ:St) (H:Hp) (x y:V) (v u:Value) (Q:VK),Inv X pins σ H s->zb1 x v->zb1 y u->r x y H Q->
  subscripted slice false v u=operate [v,u] (getItem v u)->wpAny (model X.prog X.w) X.A (subscriptTail value slice v u) (EP X pins σ Q) X.xe s
def MtR (X:Cx) (id:String) (r:V->List V->Hp->VK->Prop):Prop:=
 ∀ (pins:List (Addr×Obj)) (s:Shared) (σ:St) (H:Hp) (x:V) (xs:List V) (v:Value) (us:List Value) (Q:VK),Inv X pins σ H s->zb1 x v->za3 xs us->r x xs H Q->
  wpAny (model X.prog X.w) X.A (call (.builtin id) (v::us)) (EP X pins σ Q) X.xe s
section
variable {X:Cx} {a b:Expr} {ta tb:TE} {pos:Pos}
theorem IxR.or {r r':R2} (h:IxR X r) (h':IxR X r'):IxR X (fun x y H Q=>r x y H Q\/r' x y H Q):=by
 intro value slice pins s σ H x y v u Q I rx ry q hs
 rcases q with q | q
 ·exact h value slice pins s σ H x y v u Q I rx ry q hs
 ·exact h' value slice pins s σ H x y v u Q I rx ry q hs
theorem MtR.or {id:String} {r r':V->List V->Hp->VK->Prop} (h:MtR X id r) (h':MtR X id r'):MtR X id (fun x xs H Q=>r x xs H Q\/r' x xs H Q):=by
 intro pins s σ H x xs v us Q I rx rs q
 rcases q with q | q
 ·exact h pins s σ H x xs v us Q I rx rs q
 ·exact h' pins s σ H x xs v us Q I rx rs q
theorem zsS {r:R2} (hr:IxR X r) (ha:PE X a ta) (hb:PE X b tb) (hs:zig b):PE X (.Subscript a b pos) (tOp r ta tb):=by
 intro pins s σ H Q I h
 exact Subscript_ (ztv ha hb I h fun v u s2 x y H2 I2 rx ry q=>hr a b pins s2 σ H2 x y v u Q I2 rx ry q (hs _ _))
noncomputable def zum (K:W.Frag):R2:=fun x y H Q=> ∃ p xs i v,x= .ref p/\y= .int i/\SqL K H p xs/\atI xs i=some v/\Q v H
noncomputable def zuh (K:W.Frag):R2:=fun x y H Q=> ∃ p xs i v,x= .ref p/\y= .int i/\SqT K H p xs/\atI xs i=some v/\Q v H
theorem zo9:IxR X (zum X.K):=by
 intro value slice pins s σ H x y v u Q I rx ry h hs
 obtain ⟨p,xs,i,z,rfl,rfl,hq,he,q⟩:=h
 cases rx
 obtain ⟨t,rfl⟩:=ry
 obtain ⟨its,r,pl,hz⟩:=I.list hq
 obtain ⟨j,h1,h2,h3,h4,h5⟩:=zlc he
 obtain ⟨w,ew,rw'⟩:=r.get h2
 have hl:=r.length
 have hn:=zhq
 have fin:EP X pins σ Q w s:=⟨z,H,I,rw',q⟩
 by_cases h0:0<=i
 ·have hj:i.toNat=j:=by
   rw [seqIndex_of h0 h5] at h1
   exact Option.some.inj h1
  exact item_listR pl.isList h0 (by omega) (by rw [hj];simpa using ew) fin hs
 ·have hj:(i+(its.toArray.size:Int)).toNat=j:=by
   rw [seqIndex_neg (by omega) h4] at h1
   rw [qaA, <-hl]
   exact Option.some.inj h1
  exact subscriptTail_builtinR (x:=w) pl.isList.typeIs slot_list_getitem.lookup
   (wpAny_getItem_list_neg (Q:=fun r s'=>r=w/\EP X pins σ Q r s') pl.isList (by omega) (by rw [qaA]<;>omega) (by omega) (by rw [hj];simpa using ew) ⟨rfl,fin⟩) hs
theorem zrh:IxR X (zuh X.K):=by
 intro value slice pins s σ H x y v u Q I rx ry h hs
 obtain ⟨p,xs,i,z,rfl,rfl,hq,he,q⟩:=h
 cases rx
 obtain ⟨t,rfl⟩:=ry
 obtain ⟨its,r,pl,hz⟩:=I.tuple hq
 obtain ⟨j,h1,h2,h3,h4,h5⟩:=zlc he
 obtain ⟨w,ew,rw'⟩:=r.get h2
 have hl:=r.length
 have hn:=zhq
 have fin:EP X pins σ Q w s:=⟨z,H,I,rw',q⟩
 exact subscriptTail_builtinR (x:=w) pl.typeIs slot_tuple_getitem.lookup
  (getItem_tuple (j:=j) (Q:=fun r s'=>r=w/\EP X pins σ Q r s') pl (by omega) (by omega) (by rw [qaA, <-hl];exact h1) (by simpa using ew) ⟨rfl,fin⟩) hs
theorem zjl (its:List Value) (n j:Nat) (u:Value):Obj.mapSeq (·.setIfInBounds j u) {cls:= .type "list",data:= .seq its.toArray n}={cls:= .type "list",data:= .seq (its.set j u).toArray n}:=by
 simp [Obj.mapSeq]
theorem Inv.lst {pins:List (Addr×Obj)} {σ:St} {H:Hp} {s:Shared} {p:Addr} {xs:List V} (I:Inv X pins σ H s) (h:H p=some (.lst xs)):
  ∃ (its:List Value) (n:Nat),za3 xs its/\s.heap.get? p=some {cls:= .type "list",data:= .seq its.toArray n}/\xs.length<=sizeLine:=by
 obtain ⟨z,its,n,r,e⟩:=I.hok p _ h
 exact ⟨its,n,r,e,z⟩
theorem Inv.lstUpd {pins:List (Addr×Obj)} {σ:St} {H:Hp} {s:Shared} {p:Addr} {xs ys:List V} {its its':List Value} {n n':Nat} {f:Obj->Obj} (I:Inv X pins σ H s) (h:H p=some (.lst xs))
  (ho:s.heap.get? p=some {cls:= .type "list",data:= .seq its.toArray n}) (hf:f {cls:= .type "list",data:= .seq its.toArray n}={cls:= .type "list",data:= .seq its'.toArray n'}) (r:za3 ys its') (hz:ys.length<=sizeLine) (t:Nat):
  Inv X pins σ (upd H p (.lst ys)) {s with heap:=s.heap.update p f,toks:=t}:=by
 have e:(s.heap.update p f).get? p=some {cls:= .type "list",data:= .seq its'.toArray n'}:=by
  rw [qal f ho (by rw [hf]<;>rfl),hf]
 refine I.write (x:=p) (e:=p) (by rw [h];trivial) (.inl rfl) (fun b u hb q=>(qah _ _ (Ne.symm hb)).trans q) ⟨_,e⟩ ?_
 exact ⟨hz,its',n',r,e⟩
noncomputable def zsY:V->V->V->Hp->(Hp->Prop)->Prop:=fun o i v H Q=> ∃ p xs k j,o= .ref p/\i= .int k/\H p=some (.lst xs)/\ixN xs.length k=some j/\Q (upd H p (.lst (xs.set j v)))
theorem zm4:zpY X zsY:=by
 intro pins s σ H o i v ov iv u Q I ro ri rv h
 obtain ⟨p,xs,k,j,rfl,rfl,hp,hj,q⟩:=h
 cases ro
 obtain ⟨t,rfl⟩:=ri
 obtain ⟨its,n,r,ho,hz⟩:=I.lst hp
 obtain ⟨h1,h2,h3,h4⟩:=zkD hj
 have hl:=r.length
 have hn:=zhq
 have I':Inv X pins σ (upd H p (.lst (xs.set j v))) {s with heap:=s.heap.update p (Obj.mapSeq (·.setIfInBounds j u))}:=
  I.lstUpd hp ho (zjl its n j u) (r.set rv j) (by rw [qaI];exact hz) s.toks
 by_cases h0:0<=k
 ·have hk:k.toNat=j:=by
   rw [seqIndex_of h0 h4] at h1
   exact Option.some.inj h1
  exact W.ki_setAt ho h0 (by omega) (by rw [qaA, <-hl];exact h4) (by rw [hk];exact ⟨_,I',q⟩)
 ·have hk:(k+(its.toArray.size:Int)).toNat=j:=by
   rw [seqIndex_neg (by omega) h3] at h1
   rw [qaA, <-hl]
   exact Option.some.inj h1
  exact W.ki_setBack ho (by omega) (by rw [qaA, <-hl];exact h3) (by omega) (by rw [hk];exact ⟨_,I',q⟩)
theorem zhL (lo hi:Option Int) (n:Nat):(sliceBounds lo hi none n).1=((HT.sIx n 0 lo:Nat):Int)/\(sliceBounds lo hi none n).2.1=((HT.sIx n n hi:Nat):Int)/\(sliceBounds lo hi none n).2.2=1:=by
 refine ⟨?_,?_,rfl⟩
 ·cases lo with
  | none=>simp [sliceBounds,HT.sIx]
  | some i=>
   simp only [sliceBounds,HT.sIx,Option.getD_none,show (1:Int)>0 by decide,if_true]
   by_cases h:i<0
   ·simp only [h,if_true]<;>omega
   ·simp only [h,if_false]<;>omega
 ·cases hi with
  | none=>simp [sliceBounds,HT.sIx]
  | some i=>
   simp only [sliceBounds,HT.sIx,Option.getD_none,show (1:Int)>0 by decide,if_true]
   by_cases h:i<0
   ·simp only [h,if_true]<;>omega
   ·simp only [h,if_false]<;>omega
theorem zgn (its:List Value) (lo hi:Option Int):slicePick its.toArray lo hi none=((its.drop (HT.sIx its.length 0 lo)).take (HT.sIx its.length its.length hi - HT.sIx its.length 0 lo)).toArray:=by
 obtain ⟨h1,h2,h3⟩:=zhL lo hi its.toArray.size
 unfold slicePick
 rw [h1,h2,h3]
 simp only [sliceRange_one,pick_run,qaA]<;>rfl
noncomputable def zt8 (K:W.Frag):V->Option Int->Option Int->Hp->VK->Prop:=fun x lo hi H Q=> ∃ a xs,x= .ref a/\SqL K H a xs/\ ∀ p,H p=none->Q (.ref p) (upd H p (.lst (znE xs lo hi)))
theorem zo1:SlR X (zt8 X.K):=by
 intro pins s σ H x v vl vu lo hi sl Q I rx hs pl pu h
 obtain ⟨a,xs,rfl,hx,q⟩:=h
 cases rx
 obtain ⟨its,r,ht,hz⟩:=I.list hx
 have hlen:=r.length
 refine ⟨"list",_,slot_list_getitem.lookup,ht.isList.typeIs,?_⟩
 refine wpAny_getItem_list_slice ht.isList hs pl pu .none (by simp) ?_ (by rw [qaA]<;>omega)
 rw [zgn, <-hlen]
 refine ⟨.ref s.heap.objs.size,_,I.laid (t':=s.toks) (o:= .lst (znE xs lo hi)) (fun b ob q=>qag _ q) (qaV _) ?_,rfl,q _ (I.hok.fresh (qaV _))⟩
 exact ⟨qaS (zfh xs lo hi) hz,_,0,(r.drop (HT.sIx xs.length 0 lo)).take (HT.sIx xs.length xs.length hi - HT.sIx xs.length 0 lo),qar _ rfl⟩
theorem zgV:zaM X (.builtin "len") (fun xs H Q=> ∃ p ys,xs=[.ref p]/\(SqL X.K H p ys\/SqT X.K H p ys)/\Q (.int ys.length) H):=by
 intro pins s σ H xs us Q I r h
 obtain ⟨p,ys,rfl,hq,q⟩:=h
 obtain ⟨u,rfl,rx⟩:=zez r
 cases rx
 have hn:=zhq
 rcases hq with hq | hq
 ·obtain ⟨its,r',pl,hz⟩:=I.list hq
  have hlen:=r'.length
  exact Calls.call_len_list pl.isList (by simp only [qaA]<;>omega) ⟨.int ys.length,H,I.tok _,⟨s.toks+1,by rw [qaA,hlen]⟩,q⟩
 ·obtain ⟨its,r',pl,hz⟩:=I.tuple hq
  have hlen:=r'.length
  exact len_tuple pl (by simp only [qaA]<;>omega) ⟨.int ys.length,H,I.tok _,⟨s.toks+1,by rw [qaA,hlen]⟩,q⟩
theorem zaM.or {f:Value} {r r':List V->Hp->VK->Prop} (h:zaM X f r) (h':zaM X f r'):zaM X f (fun xs H Q=>r xs H Q\/r' xs H Q):=by
 intro pins s σ H xs us Q I rs q
 rcases q with q | q
 ·exact h pins s σ H xs us Q I rs q
 ·exact h' pins s σ H xs us Q I rs q
theorem zeq:zaM X (.type "list") (fun xs H Q=> ∃ p ys,xs=[.ref p]/\(SqL X.K H p ys\/SqT X.K H p ys)/\ ∀ l,H l=none->Q (.ref l) (upd H l (.lst ys))):=by
 intro pins s σ H xs us Q I r h
 obtain ⟨p,ys,rfl,hq,q⟩:=h
 obtain ⟨u,rfl,rx⟩:=zez r
 cases rx
 have fin: ∀ (its:List Value),za3 ys its->ys.length<=sizeLine-> ∀ (h':Heap) (c':Nat),(∀ b o',s.heap.get? b=some o'->h'.get? b=some o')->
   h'.get? s.heap.objs.size=some {cls:= .type "list",dict:=none,data:= .seq its.toArray c',slots:= #[]}->EP X pins σ Q (.ref s.heap.objs.size) {s with heap:=h'}:=fun its r' hz h' c' kp e=>
  ⟨.ref s.heap.objs.size,_,I.laid (t':=s.toks) kp (qaV _) (show zbF X.prog X.w _ h' _ (.lst ys) from ⟨hz,its,c',r',e⟩),rfl,q _ (I.hok.fresh (qaV _))⟩
 rcases hq with hq | hq
 ·obtain ⟨its,r',pl,hz⟩:=I.list hq
  have hlen:=r'.length
  obtain ⟨o,ho,hc,n,hd⟩:=pl.isList
  exact call_list_seq p (.inl rfl) ho hc hd (fun h' c' kp e=>fin its r' hz h' c' kp e) (by simp only [qaA]<;>omega)
 ·obtain ⟨its,r',pl,hz⟩:=I.tuple hq
  have hlen:=r'.length
  obtain ⟨o,ho,hc,n,hd⟩:=pl
  exact call_list_seq p (.inr rfl) ho hc hd (fun h' c' kp e=>fin its r' hz h' c' kp e) (by simp only [qaA]<;>omega)
theorem zgD:zaM X (.type "tuple") (fun xs H Q=> ∃ p ys,xs=[.ref p]/\((SqL X.K H p ys/\ ∀ l,H l=none->Q (.ref l) (upd H l (.tup ys)))\/(SqT X.K H p ys/\Q (.ref p) H))):=by
 intro pins s σ H xs us Q I r h
 obtain ⟨p,ys,rfl,h⟩:=h
 obtain ⟨u,rfl,rx⟩:=zez r
 cases rx
 rcases h with ⟨hq,q⟩ | ⟨hq,q⟩
 ·obtain ⟨its,r',pl,hz⟩:=I.list hq
  have hlen:=r'.length
  refine call_tuple_list pl.isList (fun h' kp=> ?_) (by simp only [qaA]<;>omega)
  have I1:Inv X pins σ H {s with heap:=h'}:=I.kept (t':=s.toks) kp
  have I2:Inv X pins σ (upd H h'.objs.size (.tup ys)) {s with heap:=h'.push {cls:= .type "tuple",data:= .seq its.toArray}}:=
   I1.laid (t':=s.toks) (fun b o e=>qag _ e) (qaV _) (show zbF X.prog X.w _ _ _ (.tup ys) from ⟨hz,its,r',IsTup.new _ _⟩)
  exact ⟨.ref h'.objs.size,_,I2,rfl,q _ (I1.hok.fresh (qaV _))⟩
 ·obtain ⟨its,r',pl,hz⟩:=I.tuple hq
  exact call_tuple_same pl ⟨.ref p,H,I,rfl,q⟩
def tyV (K:W.Frag) (T:String) (x:V) (H:Hp):Prop:=match x with
 | .str _=>T="str"
 | .int _=>T="int"
 | .ref p=>(T="list"/\ ∃ xs,SqL K H p xs)\/(T="tuple"/\ ∃ o,K.lookup p=some o/\o.cls= .type "tuple"/\o.dict=none)\/
   (T="dict"/\((∃ kvs,H p=some (.dK kvs))\/ ∃ kvs,H p=some (.dT kvs)))\/(T="set"/\ ∃ S n,H p=some (.set S n))
 | _=>False
theorem zre {pins:List (Addr×Obj)} {σ:St} {H:Hp} {s:Shared} {T:String} {x:V} {v:Value} (I:Inv X pins σ H s) (r:zb1 x v) (ty:tyV X.K T x H):
  s.TypeIs v T/\ ∀ a,v= .ref a-> ∃ ob,s.heap.get? a=some ob/\ob.dict=none:=by
 cases x with
 | str z=>
  obtain ⟨t,rfl⟩:=r
  cases (show T="str" from ty)
  exact ⟨typeIs_str s z t,fun _ e=>nomatch e⟩
 | int i=>
  obtain ⟨t,rfl⟩:=r
  cases (show T="int" from ty)
  exact ⟨typeIs_int s i t,fun _ e=>nomatch e⟩
 | ref p=>
  cases r
  rcases ty with ⟨rfl,xs,hq⟩ | ⟨rfl,o,hk,hc,hd⟩ | ⟨rfl,hk⟩ | ⟨rfl,S,n,hk⟩
  ·obtain ⟨its,_,pl,_⟩:=I.list hq
   refine ⟨pl.isList.typeIs,fun a e=> ?_⟩
   cases e
   obtain ⟨o,n,e,c,hd,_⟩:=pl
   exact ⟨o,e,hd⟩
  ·refine ⟨⟨o,I.kIn p o hk,hc⟩,fun a e=> ?_⟩
   cases e
   exact ⟨o,I.kIn _ o hk,hd⟩
  ·have z: ∃ o,s.heap.get? p=some o/\o.ExactDict:=by
    rcases hk with ⟨kvs,hk⟩ | ⟨kvs,hk⟩
    ·obtain ⟨_,_,_,_,o,_,_,e,ex,_⟩:=I.hok p _ hk
     exact ⟨o,e,ex⟩
    ·obtain ⟨_,_,_,_,o,_,_,e,ex,_⟩:=I.hok p _ hk
     exact ⟨o,e,ex⟩
   obtain ⟨o,e,ex⟩:=z
   refine ⟨⟨o,e,ex.1⟩,fun a e2=> ?_⟩
   cases e2
   exact ⟨o,e,ex.2.1⟩
  ·obtain ⟨o,_,_,_,e,ex,_⟩:=I.hok p _ hk
   refine ⟨⟨o,e,ex.1⟩,fun a e2=> ?_⟩
   cases e2
   exact ⟨o,e,ex.2.1⟩
 | _=>exact qa0 ty
noncomputable def tBM (K:W.Frag) (T:String) (r:V->List V->Hp->VK->Prop) (to:TE) (t:TA):TE:=fun σ H Q=>to σ H fun x H1=>tyV K T x H1/\t σ H1 fun xs H2=>r x xs H2 Q
variable {o e:Expr} {es:List Expr} {to:TE} {t:TA} {name:Str} {apos cpos:Pos} {T id:String} {r:V->List V->Hp->VK->Prop}
theorem zrq (pa:PlainAttrs T) (slot:Slot T name id) (hty:typeOf (.builtin id)=pure (.type "method_descriptor")) (hm:MtR X id r) (ho:PE X o to) (ha:PA X (e::es) t)
  (hbase:attributeBase o name X.env (eval o X.env)=eval o X.env:=by rfl)
  (hfew:((backTo cpos (starEach (e::es) X.env)).all (fun x=> !x.1) && (backToKw cpos (keywordEach [] X.env)).all (fun x=>x.1.isSome)
    && decide ((e::es).length+([]:List Keyword).length+(if ([]:List Keyword).isEmpty then 0 else 1)<30))=true:=by rfl)
  (hline:(apos.endLine==cpos.line)=true:=by rfl) (hs:starEach (e::es) X.env=(false,eval e X.env)::starEach es X.env:=by rfl) (hplain:(backTo cpos (starEach es X.env)).any (·.1)=false:=by rfl):
  PE X (.Call (.Attribute o name apos) (e::es) [] cpos) (tBM X.K T r to t):=by
 intro pins s σ H Q I h
 refine wpAny_Call_method_late hbase hfew hline rfl (thn (ho pins s σ H _ I h) fun v s1 ⟨x,H1,I1,r1,ty,q1⟩=> ?_)
 obtain ⟨h1,h2⟩:=zre I1 r1 ty
 refine ⟨T,id,pa,slot,hty,h1,h2,?_⟩
 have hA:=ha cpos pins s1 σ H1 _ I1 q1
 rw [hs] at hA ⊢
 refine Calls.callWith_builtin (by show (false || (backTo cpos (starEach es X.env)).any (·.1))=false;rw [hplain]<;>rfl) (Calls.evalArgs_plain ?_)
 exact thn hA fun us s2 ⟨vs,H2,I2,r2,q2⟩=>hm pins s2 σ H2 x vs v us Q I2 r1 r2 q2
end
def MtM (X:Cx) (id:String) (r:V->List V->Hp->VK->Prop):Prop:=
 ∀ (pins:List (Addr×Obj)) (s:Shared) (σ:St) (H:Hp) (x:V) (xs:List V) (v:Value) (us:List Value) (Q:VK),Inv X pins σ H s->zb1 x v->za3 xs us->r x xs H Q->
  wpAny (model X.prog X.w) X.A (call (.builtin id) (v::us)) (EP X pins σ Q) X.xe s
theorem za3.one: ∀ {x:V} {us:List Value},za3 [x] us-> ∃ u,us=[u]/\zb1 x u
 | _,_,.cons r .nil=>⟨_,rfl,r⟩
theorem za3.zero: ∀ {us:List Value},za3 [] us->us=[]
 | _,.nil=>rfl
theorem za3.eraseIdx: ∀ {xs:List V} {us:List Value} (i:Nat),za3 xs us->za3 (xs.eraseIdx i) (us.eraseIdx i)
 | _,_,_,.nil=> .nil
 | _,_,0,.cons _ t=>t
 | _,_,i+1,.cons r t=> .cons r (za3.eraseIdx i t)
theorem za3.reverse {xs:List V} {us:List Value} (h:za3 xs us):za3 xs.reverse us.reverse:=by
 induction h with
 | nil=>exact .nil
 | cons r t ih=>rw [List.reverse_cons,List.reverse_cons];exact za3.append ih (.cons r .nil)
theorem za3.rep {xs:List V} {us:List Value} (h:za3 xs us): ∀ k:Nat,za3 (List.replicate k xs).flatten (List.replicate k us).flatten
 | 0=> .nil
 | k+1=>by
  rw [List.replicate_succ,List.replicate_succ,List.flatten_cons,List.flatten_cons]
  exact za3.append h (za3.rep h k)
theorem zhe (its:List Value): ∀ (k:Nat) (acc:List Value),
  List.foldl (fun x1 x2=>x1++x2) acc.toArray (List.replicate k its.toArray)=(acc++(List.replicate k its).flatten).toArray
 | 0,acc=>by simp
 | k+1,acc=>by
  have e:acc.toArray++its.toArray=(acc++its).toArray:=by simp
  have e2:(acc++its)++(List.replicate k its).flatten=acc++(List.replicate (k+1) its).flatten:=by
   rw [List.replicate_succ,List.flatten_cons,List.append_assoc]
  rw [<- e2, <-zhe its k (acc++its), <-e,List.replicate_succ,List.foldl_cons]
section
variable {X:Cx} {pins:List (Addr×Obj)} {σ:St} {H:Hp} {s:Shared} {l b:Addr} {xs ys zs:List V}
theorem Inv.lset {its its':List Value} {n:Nat} {f:Array Value->Array Value} {t':Nat} (I:Inv X pins σ H s) (hH:H l=some (.lst xs))
  (e:s.heap.get? l=some {cls:= .type "list",data:= .seq its.toArray n}) (hf:f its.toArray=its'.toArray) (hv:za3 ys its') (hz:ys.length<=sizeLine):
  Inv X pins σ (upd H l (.lst ys)) {s with heap:=s.heap.update l (Obj.mapSeq f),toks:=t'}:=by
 have q:=PySem.IsL.update e f
 rw [hf] at q
 refine I.write (x:=l) (e:=l) (by rw [hH];exact trivial) (.inl rfl) (fun b' u hb hu=>(qah s.heap (Obj.mapSeq f) (Ne.symm hb)).trans hu) ⟨_,q⟩ ?_
 exact ⟨hz,its',_,hv,q⟩
theorem Inv.lnew {its:List Value} {t':Nat} (I:Inv X pins σ H s) (hv:za3 ys its) (hz:ys.length<=sizeLine):
  Inv X pins σ (upd H s.heap.objs.size (.lst ys)) {s with heap:=s.heap.push {cls:= .type "list",data:= .seq its.toArray},toks:=t'}:=
 I.laid (fun _ _ q=>qag _ q) (qaV _) ⟨hz,its,0,hv,qar _ rfl⟩
theorem Inv.fresh (I:Inv X pins σ H s):H s.heap.objs.size=none:=I.hok.fresh (qaV _)
theorem Inv.lstM (I:Inv X pins σ H s) (hH:H l=some (.lst xs)):xs.length<=sizeLine/\ ∃ (its:List Value) (n:Nat),za3 xs its/\xs.length=its.length/\s.heap.get? l=some {cls:= .type "list",data:= .seq its.toArray n}:=by
 obtain ⟨z,its,n,r,e⟩:=I.hok l _ hH
 exact ⟨z,its,n,r,r.length,e⟩
theorem zmh {n:Nat} (h:n<=sizeLine):Builtin.List.listTooLong n=false:=by
 unfold Builtin.List.listTooLong
 exact decide_eq_false (by omega)
end
section
variable {X:Cx}
noncomputable def zoP:V->List V->Hp->VK->Prop:=fun x vs H Q=> ∃ l xs y,x= .ref l/\vs=[y]/\H l=some (.lst xs)/\xs.length<sizeLine/\Q .non (upd H l (.lst (xs++[y])))
theorem zhm:MtM X "list.append" zoP:=by
 intro pins s σ H x vs v us Q I rx rv h
 obtain ⟨l,xs,y,rfl,rfl,hH,hz,q⟩:=h
 cases rx
 obtain ⟨u,rfl,ru⟩:=rv.one
 obtain ⟨z,its,n,r,hl,e⟩:=I.lstM hH
 refine call_meets F.slot_list_append ⟨_,e,rfl⟩ F.entry_list_append (F.args_list_append_2 _ _) (PySem.list_append l its.toArray n u (by rw [qaA];omega)) ⟨e,?_⟩
 refine ⟨.non,_,I.lset (its':=its++[u]) hH e (by simp) (r.append (.cons ru .nil)) ?_,rfl,q⟩
 rw [qav,List.length_singleton]
 omega
noncomputable def zud:R2:=fun x y H Q=> ∃ l b xs zs,x= .ref l/\y= .ref b/\H l=some (.lst xs)/\H b=some (.lst zs)/\xs.length+zs.length<=sizeLine/\ ∀ p,H p=none->Q (.ref p) (upd H p (.lst (xs++zs)))
theorem zqE:OpR X (binaryOp .Add) zud:=by
 intro pins s σ H x y v u Q I rx ry h
 obtain ⟨l,b,xs,zs,rfl,rfl,hH,hB,hz,q⟩:=h
 cases rx
 cases ry
 obtain ⟨z,its,n,r,hl,e⟩:=I.lstM hH
 obtain ⟨z2,its2,n2,r2,hl2,e2⟩:=I.lstM hB
 refine PySem.P.add_list e e2 ?_ (by rw [qaA,qaA];omega)
 have ea:its.toArray++its2.toArray=(its++its2).toArray:=by simp
 rw [ea]
 exact ⟨.ref _,_,I.lnew (t':=s.toks) (r.append r2) (by rw [qav];omega),rfl,q _ I.fresh⟩
theorem zo3 {α:Type} (xs:List α) (k:Nat):(List.replicate k xs).flatten.length=k*xs.length:=by
 induction k with
 | zero=>simp
 | succ k ih=>rw [List.replicate_succ,List.flatten_cons,qav,ih,Nat.succ_mul,Nat.add_comm]
end
section
variable {prog:Program} {w:World} {A:Around} {E:Value->Shared->Prop} {s:Shared}
end
section
variable {X:Cx}
end
end L2
namespace Att
open PySem PySem.W PySem.Calls PyProof.Rows
theorem zfl {P:Params} {h:Heap}: ∀ (ns:List Int) (vs:List Value),WellAll P h vs (ns.map WData.int)->IntsAre vs ns:=by
 intro ns
 induction ns with
 | nil=>
  intro vs w
  rw [List.map_nil] at w
  cases w
  exact .nil
 | cons n ns ih=>
  intro vs w
  rw [qaM] at w
  cases w with
  | cons a b=>
   cases a
   exact .cons _ _ (ih _ b)
theorem zkN {l:OpenLaw} {n:Nat} (hn:l.most=some n) {P:Params} {h:Heap} {args:List WData} {vals:List Value}
  (hpre:l.row.toRowW.claim.pre args=true) (hwl:WellAll P h vals args):
  ∃ a vs ns,vals=[Value.ref a]/\args=[WData.list (ns.map WData.int)]/\h.get? a=some {cls:= .type "list",data:= .seq vs.toArray}/\IntsAre vs ns/\ns.length<=n:=by
 have hsh:WShape.hasAll [] args [.list .int]=true:=(pre_splitW hpre).1
 have hc:l.pre.holds [] {args:=args}=true:=(pre_splitW hpre).2
 obtain ⟨d,r,rfl,h1,h2⟩:=hasAllW_cons hsh
 obtain rfl:=hasAllW_nil h2
 obtain ⟨xs,rfl,h3⟩:=hasW_list h1
 obtain ⟨ns,rfl⟩:=items_int h3
 have hlen:ns.length<=n:=by
  unfold OpenLaw.pre at hc
  have h4:(WTm.not (.lt (.lit (.int (n:Int))) (.len (.arg 0)))).holds [] {args:=[.list (ns.map .int)]}=true:=by
   have h4:=(holds_andW hc).1
   rw [hn] at h4
   exact h4
  have h5:=condW_of h4 (w_not (w_lt w_lit (w_len_list (w_arg rfl))))
  rw [qaH] at h5
  refine Nat.le_of_not_lt fun q=> ?_
  have q':(n:Int)<((ns.length:Nat):Int):=by omega
  first
   | (rw [decide_eq_true q'] at h5;exact absurd h5 (by decide))
   | (simp at h5;omega)
 cases hwl with
 | cons w1 w2=>
  cases w2
  cases w1 with
  | list ho hall=>exact ⟨_,_,ns,rfl,rfl,ho,zfl ns _ hall,hlen⟩
theorem zld (l:OpenLaw) (args:List WData):l.row.toRowW.claim.post args (.bool true) args=true:=
 postW_of (r:=l.row.toRowW) (X:=(true==true))
  (show WShape.has [] (.bool true) .bool=true by first | rfl | decide | simp [WShape.has,WShape.arms,WShape.armsAll])
  (show (WTm.eq .res (.lit (.bool true))).value [] {args:=args,res:=some (.bool true),after:=args}=some (.bool (true==true)) from w_eq_bool (w_res rfl) w_lit) rfl
section
variable {prog:Program} {w:World} {A:Around} {E:Value->Shared->Prop} {s:Shared} {K:Frag}
end
end Att
namespace L2
open PySem PySem.Spec PyProof.Rows
theorem zfc: ∀ {vs:List Value} {ns:List Int},IntsAre vs ns->za3 (ns.map V.int) vs
 | _,_,.nil=> .nil
 | _,_,.cons n t h=> .cons ⟨t,rfl⟩ (zfc h)
def zt1 (H:Hp):Prop:= ∀ b,H b=none\/ ∃ o xs,H b=some (.frz o (.lst xs))
theorem zml {P:Program} {w:World} {K:W.Frag} {mg mb:Str->Option Value} {CX:CXT} {k:Nat} {fa a:Addr} {fd:FuncData} {x:Str} {sp:Sp} {s₁:Shared} {vs:List Value} {ns:List Int}
  (KX:K.In s₁.heap) (hns:s₁.heap.Ns mainGlobals mg) (hb:s₁.heap.Ns builtinsNs mb) (hbb: ∀ x:Str,x≠"__name__"->mb x=bootBuiltins x) (hlim:s₁.heap.NoLimit) (hg:s₁.gens= #[])
  (ha:s₁.heap.get? a=some {cls:= .type "list",data:= .seq vs.toArray}) (hi:IntsAre vs ns) (hl:ns.length<=sizeLine) (hr:zel k callerA)
  (F: ∀ base:Heap,K.In base->base.Ns mainGlobals mg->zbn P w K mg base CX k fa fd [x] sp) (hbind: ∀ (s:Shared) (u:Value),BindsTo s fd ⟨[u],[]⟩ [(x,u)])
  (hsp: ∀ H:Hp,zt1 H->SqL K H a (ns.map V.int)->sp [.ref a] H (fun v _=>v= .bl true) fun _ _ _=>False)
  (hCX: ∀ H e s',CX [] H s₁ (fun _ _ _=>False) e s'->False):
  codeAny (model P w) callerA (.call (.ref fa) ⟨[.ref a],[]⟩) (fun r s'=>r= .ok (.ret (.bool true))/\OldK s₁.heap s'.heap/\s'.os=s₁.os/\AllBare s'.gens) s₁:=by
 have rv:=zfc hi
 have lenV:=hi.length
 have core: ∀ H:Hp,zt1 H->SqL K H a (ns.map V.int)->HOk P w H s₁.heap->(∀ b,H b≠none->b=a)->(H a≠none->K.lookup a=none)->
   codeAny (model P w) callerA (.call (.ref fa) ⟨[.ref a],[]⟩) (fun r s'=>r= .ok (.ret (.bool true))/\OldK s₁.heap s'.heap/\s'.os=s₁.os/\AllBare s'.gens) s₁:=by
  intro H hO hS hok hA hK
  have base_of: ∀ {b:Addr} {o:Obj},s₁.heap.get? b=some o->H b=none->(znc s₁.heap H).get? b=some o:=fun e n=>zns e n
  have noA: ∀ {b:Addr} {o:Obj} {es:Array DictEntry} {ep:Nat},s₁.heap.get? b=some o->o.data= .dict es ep->H b=none:=fun {b o es ep} e d=>by
   cases q:H b with
   | none=>rfl
   | some u=>
    have e':b=a:=hA b (by rw [q];simp)
    subst e'
    rw [ha] at e;cases e
    have d':Data.seq vs.toArray _=Data.dict es ep:=d
    cases d'
  have nsK: ∀ {b:Addr} {m:Str->Option Value},s₁.heap.Ns b m->(znc s₁.heap H).Ns b m:=fun {b m} ⟨o,es,ep,e,d,r⟩=>⟨o,es,ep,base_of e (noA e d),d,r⟩
  have hKb:K.In (znc s₁.heap H):=fun b o e=>base_of (KX b o e) (by
    cases q:H b with
    | none=>rfl
    | some u=>
      have e':b=a:=hA b (by rw [q];simp)
      subst e'
      rw [hK (by rw [q];simp)] at e;cases e)
  have hM:Mod K mg (znc s₁.heap H):=⟨hKb,nsK hns,⟨mb,nsK hb,hbb⟩,let ⟨mc,h1,h2⟩:=hlim;⟨mc,nsK h1,h2⟩⟩
  have e0:znS P w K mg (znc s₁.heap H) callerA [] s₁ H:=⟨rfl,hM,fun b o e=>zps e,Nat.le_of_eq (zkI _ _),trivial,fun b hb=>absurd (show b∈([]:List Addr) from hb) (by simp),hok,.of_eq hg,.inl rfl⟩
  refine codeAny_mono ((F _ hKb (nsK hns)).run callerA [] s₁ H ⟨[.ref a],[]⟩ [.ref a] [.ref a] _ _ hr e0 (hbind s₁ (.ref a)) (.cons rfl .nil) (hsp H hO hS)) fun r s' h=> ?_
  cases r with
  | error e=>exact (hCX H e s' h).elim
  | ok fl=>
   cases fl with
   | next=>exact qa0 h
   | brk=>exact qa0 h
   | cont=>exact qa0 h
   | ret u=>
    obtain ⟨v,H',os,bare,un,hok',r',q⟩:=h
    have q':v= .bl true:=q
    subst q'
    obtain rfl:u=Value.bool true:=r'
    refine ⟨rfl,OldK.of_keep fun b o e=> ?_,os,bare⟩
    cases q:H b with
    | none=>exact un.keep b o e q (by intro z;exact absurd (show b∈([]:List Addr) from z) (by simp)) (by simp)
    | some u=>
     rcases hO b with z | ⟨ob,xs,z⟩
     ·rw [q] at z;cases z
     ·have z2:=un.frzs b ob _ z
      obtain ⟨e1,_⟩:=hok b _ z
      obtain ⟨e2,_⟩:=hok' b _ z2
      rw [e] at e1;cases e1
      exact e2
 cases hk:K.lookup a with
 | some o=>
  have e:=KX a o hk
  rw [ha] at e
  cases e
  refine core (fun _=>none) (fun _=> .inl rfl) (.inr ⟨_,vs.toArray,_,hk,rfl,rfl,rfl,by rw [qaA,lenV];exact hl,by simpa using rv⟩) (fun b u z=>by have z':(none:Option HO)=some u:=z;cases z') (fun b z=>absurd rfl z) fun z=>absurd rfl z
 | none=>
  refine core (fun b=>if b=a then some (.frz {cls:= .type "list",data:= .seq vs.toArray} (.lst (ns.map V.int))) else none) (fun b=> ?_) (.inl (.inr ⟨{cls:= .type "list",data:= .seq vs.toArray},qa4 rfl⟩)) (fun b u z=> ?_) (fun b z=> ?_) fun _=>hk
  ·by_cases hb:b=a
   ·exact .inr ⟨_,_,qa4 hb⟩
   ·exact .inl (qa5 hb)
  ·by_cases hb:b=a
   ·have z':=(qa4 hb).symm.trans z
    cases z'
    subst hb
    exact ⟨ha,by rw [qaH];exact hl,vs,_,rv,ha⟩
   ·have z':=(qa5 hb).symm.trans z
    cases z'
  ·by_cases hb:b=a
   ·exact hb
   ·exact absurd (qa5 hb) z
noncomputable def zej (s:Stmt):Arguments:=match s with
 | .FunctionDef _ a _ _ _ _ _ _ _ _=>a
 | _=>{posonlyargs:=[],args:=[],vararg:=none,kwonlyargs:=[],kw_defaults:=[],kwarg:=none,defaults:=[]}
noncomputable def zdb (s:Stmt):List Stmt:=match s with
 | .FunctionDef _ _ b _ _ _ _ _ _ _=>b
 | _=>[]
noncomputable def zae (s:Stmt):Scope:=match s with
 | .FunctionDef _ _ _ _ _ _ sc _ _ _=>sc
 | _=>{kind:= .function,names:=[],isGenerator:=false,isCoroutine:=false}
noncomputable abbrev CX0:CXT:=fun _ _ _ _ _ _=>False
noncomputable abbrev E0:XK:=fun _ _ _=>False
theorem ztG {X:Cx}:zkk CX0 X E0:=fun _ _ _ _ _ _ _ h=>h.elim
structure Fun (K:W.Frag) (x qual:Str) (st:Stmt) (f:Addr) (fd:FuncData):Prop where
 ex: ∃ (oc:Value) (od:Option Addr) (kV doc pm:Value) (an:Option Addr) (cdv ct:Value) (osl:Array (Option Value)),
  fd=W.fnOf x qual (zej st) (zdb st) (zae st) .none kV doc pm an cdv ct/\K.lookup f=some ⟨oc,od,.func fd,osl⟩/\W.codeIn K cdv qual=true
 kp:W.keepIn K (.ref f)=true
section
variable {P:Program} {w:World} {K:W.Frag} {mg:Str->Option Value} {base:Heap}
theorem Fun.ok {x qual:Str} {st:Stmt} {f:Addr} {fd:FuncData} {N ps:List Str} {k:Nat} {sp:Sp} (F:Fun K x qual st f fd) (S:zam N ps (zae st)) (len: ∀ vs H Q E,sp vs H Q E->vs.length=ps.length)
  (hbody: ∀ (cdv:Value) (A:Around) (outer:List Env) (s:Shared) (H:Hp) (vs:List V) (Q:VK) (E:XK),zel k (A.deeper (envOfC qual (zae st) s.heap.objs.size f cdv))->sp vs H Q E->
    ∃ t,PSs (zn9 CX0 P w K mg base N qual (zae st) f cdv A outer s H E).nox (zdb st) t/\t {nx:=fun _ H'=>Q .non H',rt:=Q} (zfw N vs) H):zbn P w K mg base CX0 (k+1) f fd ps sp:=by
 obtain ⟨oc,od,kV,doc,pm,an,cdv,ct,osl,rfl,lk,hcd⟩:=F.ex
 refine ztD lk hcd S len fun A outer s H vs Q E hr hsp=> ?_
 obtain ⟨t,h,q⟩:=hbody cdv A outer s H vs Q E hr hsp
 exact ⟨t,h.nox,q⟩
theorem Fun.binds {x qual:Str} {st:Stmt} {f:Addr} {fd:FuncData} {ps:List Str} (F:Fun K x qual st f fd)
  (h: ∀ (kV doc pm:Value) (an:Option Addr) (cdv ct:Value) (us:List Value),us.length=ps.length->bindArgs (W.fnOf x qual (zej st) (zdb st) (zae st) .none kV doc pm an cdv ct) ⟨us,[]⟩=pure (ps.zip us)):zaF K fd ps []:=by
 obtain ⟨oc,od,kV,doc,pm,an,cdv,ct,osl,rfl,lk,hcd⟩:=F.ex
 exact .all (h kV doc pm an cdv ct)
theorem zav {x qual:Str} {st:Stmt} {f:Addr} {oc:Value} {od an:Option Addr} {osl:Array (Option Value)} {kV doc pm cdv ct:Value} (l:K.lookup f=some ⟨oc,od,.func (W.fnOf x qual (zej st) (zdb st) (zae st) .none kV doc pm an cdv ct),osl⟩)
  (c:W.codeIn K cdv qual=true) (k:W.keepIn K (.ref f)=true):Fun K x qual st f (W.fnOf x qual (zej st) (zdb st) (zae st) .none kV doc pm an cdv ct):=⟨⟨oc,od,kV,doc,pm,an,cdv,ct,osl,rfl,l,c⟩,k⟩
end
section
variable {X:Cx}
theorem pv (i:Nat) {x:Str} {pos:Pos} (hN:X.N[i]? = some x:=by rfl) (hv:Vis X.env.scope x:=by first | exact Or.inl rfl | exact Or.inr (Or.inl rfl) | exact Or.inr (Or.inr rfl)) (hd:(x==("__debug__":Str))=false:=by decide)
  (hcd:(x==("__classdict__":Str))=false:=by decide):PE X (.Name x pos) (ztV i):=zn0 hN hv hd hcd
end
theorem zp0 {A B:Prop} (h:B):if false=true then A else B:=by
 rw [qa5 Bool.false_ne_true]
 exact h
theorem zp1 {A B:Prop} (h:A):if true=true then A else B:=by
 rw [qa4 rfl]
 exact h
def zl9 (H H':Hp):Prop:= ∀ b o,H b=some o->H' b=some o
theorem zl9.refl (H:Hp):zl9 H H:=fun _ _ h=>h
theorem zl9.trans {H H1 H2:Hp} (a:zl9 H H1) (b:zl9 H1 H2):zl9 H H2:=fun c o h=>b c o (a c o h)
theorem zl9.free {H H':Hp} (e:zl9 H H') {l:Addr} (h:H' l=Option.none):H l=Option.none:=by
 cases q:H l with
 | none=>rfl
 | some o=>
  rw [e l o q] at h
  cases h
theorem zl9.seq {K:W.Frag} {H H':Hp} {a:Addr} {xs:List V} (e:zl9 H H') (h:SqL K H a xs):SqL K H' a xs:=by
 rcases h with (h | ⟨o,h⟩) | h
 ·exact .inl (.inl (e _ _ h))
 ·exact .inl (.inr ⟨o,e _ _ h⟩)
 ·exact .inr h
noncomputable def zbv (cells:List (Str×Addr)):List (Str×NameKind)->List (Str×Addr)->List (Str×Addr)
 | [],acc=>acc
 | (n,k)::r,acc=>if k== .free then zbv cells r ((n,(cells.lookup n).getD 0)::acc) else zbv cells r acc
theorem zdQ {scope:Scope} {env:Env} (h: ∀ x∈scope.names,x.2= .free-> ∃ c,env.cells.lookup x.1=some c):closureFor scope env=pure (zbv env.cells scope.names []):=by
 simp only [closureFor]
 generalize hn:scope.names=names at h
 clear hn
 generalize hacc:([]:List (Str×Addr))=acc
 clear hacc
 have key: ∀ (names:List (Str×NameKind)) (acc:List (Str×Addr)),(∀ x∈names,x.2= .free-> ∃ c,env.cells.lookup x.1=some c)->
   (forIn (m:=Sem) names acc fun (x:Str×NameKind) (r:List (Str×Addr))=>(match x with
     | (name,kind)=>if (kind==NameKind.free)=true then do
         let a<-cellOf env name
         pure (ForInStep.yield ((name,a)::r))
       else pure (ForInStep.yield r)))=pure (zbv env.cells names acc):=by
  intro names
  induction names with
  | nil=>intro acc _;rfl
  | cons x r ih=>
   intro acc h
   obtain ⟨n,k⟩:=x
   rw [List.forIn_cons]
   unfold zbv
   by_cases hk:(k==NameKind.free)=true
   ·simp only [hk,if_true]
    obtain ⟨c,hc⟩:=h (n,k) qau (by simpa using hk)
    have e:cellOf env n=pure c:=by unfold cellOf;rw [show env.cells.lookup n=some c from hc]
    rw [e,show (env.cells.lookup n).getD 0=c by rw [show env.cells.lookup n=some c from hc];rfl]
    exact ih _ fun y hy=>h y (qan _ hy)
   ·simp only [hk,if_false]
    exact ih _ fun y hy=>h y (qan _ hy)
 have k:=key names acc h
 refine Eq.trans (congrArg (fun (z:Sem (List (Str×Addr)))=>z>>=fun r=>pure r) k) ?_
 rfl
theorem zeh {cells:List (Str×Addr)}: ∀ {names:List (Str×NameKind)} {acc:List (Str×Addr)} {n:Str} {c:Addr},(n,c)∈zbv cells names acc->
  (n,c)∈acc\/((n,NameKind.free)∈names/\c=(cells.lookup n).getD 0)
 | [],_,_,_,h=> .inl h
 | (y,k)::r,acc,n,c,h=>by
  unfold zbv at h
  by_cases hk:(k==NameKind.free)=true
  ·rw [qa4 hk] at h
   have ek:k= .free:=by simpa using hk
   subst ek
   rcases zeh h with h | ⟨h1,h2⟩
   ·rcases qaP.mp h with e | h
    ·cases e
     exact .inr ⟨qau,rfl⟩
    ·exact .inl h
   ·exact .inr ⟨qan _ h1,h2⟩
  ·rw [qa5 hk] at h
   rcases zeh h with h | ⟨h1,h2⟩
   ·exact .inl h
   ·exact .inr ⟨qan _ h1,h2⟩
theorem zdF {cells:List (Str×Addr)} {x:Str} {c:Addr} (hc:cells.lookup x=some c): ∀ (names:List (Str×NameKind)) (acc:List (Str×Addr)),((x,NameKind.free)∈names\/acc.lookup x=some c)->(zbv cells names acc).lookup x=some c
 | [],acc,h=>h.elim (fun z=>nomatch z) id
 | (y,k)::r,acc,h=>by
  unfold zbv
  by_cases hk:(k==NameKind.free)=true
  ·rw [qa4 hk]
   refine zdF hc r _ ?_
   by_cases hy:x=y
   ·subst hy
    exact .inr (by rw [List.lookup_cons,beq_self_eq_true,hc];rfl)
   ·rcases h with h | h
    ·rcases qaP.mp h with e | h
     ·cases e;exact absurd rfl hy
     ·exact .inl h
    ·refine .inr ?_
     rw [List.lookup_cons,show (x==y)=false by simpa using hy]
     exact h
  ·rw [qa5 hk]
   refine zdF hc r _ ?_
   rcases h with h | h
   ·rcases qaP.mp h with e | h
    ·cases e;exact absurd rfl hk
    ·exact .inl h
   ·exact .inr h
theorem zcP: ∀ {names:List (Str×NameKind)} {n:Nat} {acc:List (Str×Addr)} {x:Str} {c:Addr},(x,c)∈cellsFrom n names acc->(x,c)∈acc\/(n<=c/\(x,NameKind.cell)∈names)
 | [],_,_,_,_,h=> .inl h
 | (y,k)::r,n,acc,x,c,h=>by
  unfold cellsFrom at h
  by_cases hk:(k==NameKind.cell)=true
  ·rw [qa4 hk] at h
   have ek:k= .cell:=by simpa using hk
   subst ek
   rcases zcP h with h | ⟨h,h'⟩
   ·rcases qaP.mp h with e | h
    ·cases e;exact .inr ⟨qaV _,qau⟩
    ·exact .inl h
   ·exact .inr ⟨Nat.le_of_succ_le h,qan _ h'⟩
  ·rw [qa5 hk] at h
   rcases zcP h with h | ⟨h,h'⟩
   ·exact .inl h
   ·exact .inr ⟨h,qan _ h'⟩
theorem zca {x:Str} {c:Addr}: ∀ (names:List (Str×NameKind)) (n:Nat) (acc:List (Str×Addr)),(x,NameKind.cell)∉names->acc.lookup x=some c->(cellsFrom n names acc).lookup x=some c
 | [],_,_,_,h=>h
 | (y,k)::r,n,acc,hn,h=>by
  unfold cellsFrom
  by_cases hk:(k==NameKind.cell)=true
  ·rw [qa4 hk]
   have ek:k= .cell:=by simpa using hk
   subst ek
   refine zca r _ _ (fun z=>hn (qan _ z)) ?_
   have hy:x≠y:=fun e=>hn (by rw [e];exact qau)
   rw [List.lookup_cons,show (x==y)=false by simpa using hy]
   exact h
  ·rw [qa5 hk]
   exact zca r _ _ (fun z=>hn (qan _ z)) h
theorem zb6: ∀ (names:List (Str×NameKind)) (n:Nat) (acc:List (Str×Addr)),(∀ x c,(x,c)∈acc->c<n)->(acc.Pairwise fun x y=>x.2≠y.2)->(cellsFrom n names acc).Pairwise fun x y=>x.2≠y.2
 | [],_,_,_,h=>h
 | (y,k)::r,n,acc,hlt,h=>by
  unfold cellsFrom
  by_cases hk:(k==NameKind.cell)=true
  ·rw [qa4 hk]
   refine zb6 r (n+1) _ (fun x c hm=> ?_) (qay.mpr ⟨fun z hz e=> ?_,h⟩)
   ·rcases qaP.mp hm with e | hm
    ·cases e;exact Nat.lt_succ_self _
    ·exact Nat.lt_succ_of_lt (hlt x c hm)
   ·have:=hlt z.1 z.2 hz
    have e':n=z.2:=e
    exact qaN _ (e'▸this)
  ·rw [qa5 hk]
   exact zb6 r n acc hlt h
noncomputable def zov (env:Env) (scope:Scope) (C:Addr):Env:=
 {scope:=relabel scope env,locals:=C,globals:=env.globals,cells:=cellsFrom (C+1) scope.names (zbv env.cells scope.names []),qual:=env.qual,func:=none,code:=env.code,frame:=env.frame,builtins:=env.builtins}
section
variable {M:Model} {A:Around} {E:Value->Shared->Prop} {s:Shared}
theorem zfy {scope:Scope} {env:Env} {cl:List (Str×Addr)} {Q:Env->Shared->Prop}
  (hQ: ∀ h',(∀ b o,s.heap.get? b=some o->h'.get? b=some o)->h'.Ns s.heap.objs.size (fun _=>none)->(∀ x c,(x,NameKind.cell)∈scope.names->(x,c)∈cellsFrom (s.heap.objs.size+1) scope.names cl->(x,c)∉cl->h'.IsCell c none)->
    Q {scope,locals:=s.heap.objs.size,globals:=env.globals,cells:=cellsFrom (s.heap.objs.size+1) scope.names cl,qual:=env.qual,func:=none,code:=env.code,frame:=env.frame,builtins:=env.builtins} {s with heap:=h'}):
  wpAny M A (newFunctionEnv scope env.globals cl [] env.qual none .none (some env)) Q E s:=by
 simp only [newFunctionEnv,Option.isSome_some,if_true]
 refine qaW (wpAny_alloc ?_)
 refine qaW (wpAny_layCells _ (fun name kind cells=>by cases hkc:kind==NameKind.cell<;>simp [hkc]) _ _ _ _ ?_)
 simp only [List.forIn_nil]
 refine qaW (qaX (qaX ?_))
 rw [show ({s with heap:=s.heap.push {cls:= .type "dict",data:= .dict #[]}}:Shared).heap.objs.size=s.heap.objs.size+1 from qaL ..]
 have key: ∀ (names:List (Str×NameKind)) (h:Heap) (acc:List (Str×Addr)) (x:Str) (c:Addr),(x,c)∈cellsFrom h.objs.size names acc->(x,c)∉acc->(pushCells h names).IsCell c none:=by
  intro names
  induction names with
  | nil=>intro h acc x c hm hn;exact absurd hm hn
  | cons y r ih=>
   intro h acc x c hm hn
   obtain ⟨n,k⟩:=y
   unfold cellsFrom at hm
   unfold pushCells
   by_cases hk:(k==NameKind.cell)=true
   ·rw [qa4 hk] at hm ⊢
    by_cases hin:(x,c)∈((n,h.objs.size)::acc)
    ·rcases qaP.mp hin with e | e
     ·cases e
      exact ⟨_,pushCells_keeps _ _ _ _ (qar _ rfl),rfl⟩
     ·exact absurd e hn
    ·refine ih (h.push {cls:= .type "cell",data:= .cell none}) ((n,h.objs.size)::acc) x c ?_ hin
     rw [qaL]
     exact hm
   ·rw [qa5 hk] at hm ⊢
    exact ih h acc x c hm hn
 refine hQ _ (fun b o e=>pushCells_keeps _ _ b o (qag _ e)) ((Heap.Ns.new s.heap (.type "dict")).keeps (pushCells_keeps _ _)) fun x c _ hm hn=> ?_
 refine key scope.names _ cl x c ?_ hn
 rw [qaL]
 exact hm
end
section
variable {prog:Program} {w:World} {A:Around} {E:Value->Shared->Prop} {R:Result->Shared->Prop} {s:Shared}
theorem zht {elt target iter:Expr} {ifs:List Expr} {scope:Scope} {pos:Pos} {it acc:Value} {env:Env} (I:Nat->Shared->Prop)
  (turn: ∀ n s,I n s->wpAny (model prog w) A (pyNext it) (fun r s₁=>match r with
    | none=>R (.ok .next) s₁
    | some v=>wpAny (model prog w) A (letOwnedTupleGo target it v) (fun _ s₁'=>wpAny (model prog w) A (assign target env v) (fun _ s₂=>
        wpAny (model prog w) A (forIn ifs true fun c r=>if r=true then do let ok<-isTrue c env (eval c env);pure (ForInStep.yield ok) else pure (ForInStep.yield r)) (fun ok s₃=>
          if ok=true then wpAny (model prog w) A (eval elt env) (fun x s₄=>
            wpAny (model prog w) A (call (.builtin "list.append") [acc,x]) (fun _ s₅=> ∃ m,m<n/\I m s₅) (fun _ _=>False) s₄) (fun _ _=>False) s₃
          else ∃ m,m<n/\I m s₃) (fun _ _=>False) s₂) (fun _ _=>False) s₁') (fun _ _=>False) s₁) (fun _ _=>False) s)
  (n:Nat) (h:I n s):
  codeAny (model prog w) A (.compLoop (.ListComp elt [⟨target,iter,ifs,0⟩] scope pos) 0 it acc env) R s:=by
 refine codeAny_loop rfl I (fun n s hI=> ?_) n h
 show wpAny _ A ((compTurn (.ListComp elt [⟨target,iter,ifs,0⟩] scope pos) 0 it acc env).onRaise (fun x=>do noteFrame x env;theTreesLotGoes x)) _ _ s
 refine wpAny_noted ?_
 rw [compTurn_list]
 refine qaW (wpAny_standAt (qaW (qaZ (turn n s hI) (fun r s₁ h₁=> ?_) fun _ _ h'=>h'.elim)))
 cases r with
 | none=>exact qaX h₁
 | some v=>
  refine qaW (qaZ h₁ (fun _ s₁' h₁'=> ?_) fun _ _ h'=>h'.elim)
  refine qaW (qaZ h₁' (fun _ s₂ h₂=>qaW (qaZ h₂ (fun ok s₃ h₃=> ?_) fun _ _ h'=>h'.elim)) fun _ _ h'=>h'.elim)
  cases ok with
  | false=>exact qaX ⟨rfl,h₃⟩
  | true=>
   exact qaW (qaW (qaZ h₃ (fun x s₄ h₄=>qaW (qaZ h₄ (fun _ s₅ h₅=>qaX (qaX ⟨rfl,h₅⟩)) fun _ _ h'=>h'.elim)) fun _ _ h'=>h'.elim))
end
noncomputable abbrev cxB (X:Cx) (scope:Scope) (N:List Str) (s:Shared) (H:Hp) (fp:List Addr):Cx:=
 {prog:=X.prog,w:=X.w,K:=X.K,mg:=X.mg,base:=X.base,A:=X.A,N:=N,s₀:=s,H₀:=H,env:=zov X.env scope s.heap.objs.size,outer:=X.stack,stack:=X.stack,ex:=fp,
   fn:=fun x=>scope.names.lookup x==some .cell,calm:=X.calm,pn:=[],xe:=fun _ _=>False}
noncomputable def znF (Xn:List (Str×NameKind)) (XN:List Str) (names:List (Str×NameKind)) (N:List Str) (src:List (Option Nat)):Bool:=
 decide N.Nodup && decide (names.map (·.1)).Nodup && (src.length==N.length) &&
 names.all (fun x=>x.2 != .local || names.lookup x.1==some .local) &&
 names.all (fun x=>x.2 != .cell || names.lookup x.1==some .cell) &&
 names.all (fun x=>x.2 != .free || Xn.lookup x.1==some .cell || Xn.lookup x.1==some .free) &&
 (N.zip src).all (fun p=>match p.2 with
   | none=>true
   | some i=>XN[i]? == some p.1 && names.lookup p.1==some .free)
structure BOk (X:Cx) (scope:Scope) (N:List Str) (src:List (Option Nat)):Prop where
 kind:scope.kind= .function
 nd:N.Nodup
 keys:(scope.names.map (·.1)).Nodup
 len:src.length=N.length
 locs: ∀ x∈scope.names,x.2= .local->scope.names.lookup x.1=some .local
 cels: ∀ x∈scope.names,x.2= .cell->scope.names.lookup x.1=some .cell
 free: ∀ x∈scope.names,x.2= .free->X.env.kindOf x.1=some .cell\/X.env.kindOf x.1=some .free
 src: ∀ (k i:Nat) (x:Str),src[k]? = some (some i)->N[k]? = some x->X.N[i]? = some x/\scope.names.lookup x=some .free
theorem BOk.of {X:Cx} {scope:Scope} {N:List Str} {src:List (Option Nat)} {Xn:List (Str×NameKind)} {XN:List Str} (hk:scope.kind= .function) (hX:X.env.scope.names=Xn) (hN:X.N=XN)
  (h:znF Xn XN scope.names N src=true):BOk X scope N src:=by
 unfold znF at h
 simp only [qaG,qaD,List.all_eq_true,beq_iff_eq] at h
 obtain ⟨⟨⟨⟨⟨⟨h1,h2⟩,h3⟩,h4⟩,h4'⟩,h5⟩,h6⟩:=h
 refine ⟨hk,h1,h2,h3,fun x hx e=> ?_,fun x hx e=> ?_,fun x hx e=> ?_,fun k i x e1 e2=> ?_⟩
 ·have:=h4 x hx
  rw [e] at this
  simpa using this
 ·have:=h4' x hx
  rw [e] at this
  simpa using this
 ·have:=h5 x hx
  rw [e] at this
  unfold Env.kindOf
  rw [hX]
  simpa using this
 ·have hm:(x,some i)∈N.zip src:=by
   refine List.mem_iff_getElem?.mpr ⟨k,?_⟩
   rw [List.getElem?_zip_eq_some]
   exact ⟨e2,e1⟩
  have:=h6 _ hm
  dsimp only at this
  simp only [qaG,beq_iff_eq] at this
  rw [hN]
  exact this
noncomputable def bStart (src:List (Option Nat)) (σ:St):St:=src.map fun o=>o.bind fun i=>(σ[i]?).join
theorem zfz {scope:Scope} {env:Env} {x:Str}:(relabel scope env).names.lookup x=(scope.names.lookup x).map fun k=>if (k== .free && env.scope.kind== .function && env.kindOf x==some .cell) then .cell else k:=by
 show List.lookup x (scope.names.map _)=_
 induction scope.names with
 | nil=>rfl
 | cons y r ih=>
  obtain ⟨n,k⟩:=y
  rw [qaM]
  dsimp only
  by_cases hx:x=n
  ·subst hx
   by_cases hc:(k==NameKind.free && env.scope.kind== .function && env.kindOf x==some .cell)=true
   ·rw [qa4 hc,List.lookup_cons,List.lookup_cons,beq_self_eq_true]
    dsimp only [Option.map]
    rw [qa4 hc]
   ·rw [qa5 hc,List.lookup_cons,List.lookup_cons,beq_self_eq_true]
    dsimp only [Option.map]
    rw [qa5 hc]
  ·have hb:(x==n)=false:=by simpa using hx
   by_cases hc:(k==NameKind.free && env.scope.kind== .function && env.kindOf n==some .cell)=true
   ·rw [qa4 hc,List.lookup_cons,List.lookup_cons,hb]
    exact ih
   ·rw [qa5 hc,List.lookup_cons,List.lookup_cons,hb]
    exact ih
section
variable {X:Cx} {pins:List (Addr×Obj)} {σ:St} {H:Hp} {s:Shared} {scope:Scope} {N:List Str} {src:List (Option Nat)} {fp:List Addr}
theorem zoO (I:Inv X pins σ H s) (B:BOk X scope N src) {x:Str} {c:Addr} (h:(x,c)∈zbv X.env.cells scope.names []):X.env.cells.lookup x=some c/\(x,NameKind.free)∈scope.names:=by
 rcases zeh h with z | ⟨z,e⟩
 ·exact nomatch z
 ·obtain ⟨c',hc⟩:=I.ok.has x (B.free _ z rfl)
  rw [hc] at e
  exact ⟨by rw [hc,e];rfl,z⟩
theorem zhv {l:List (Str×NameKind)} (h:(l.map (·.1)).Nodup) {x:Str} {j k:NameKind} (a:(x,j)∈l) (b:(x,k)∈l):j=k:=by
 induction l with
 | nil=>exact nomatch a
 | cons y r ih=>
  obtain ⟨h1,h2⟩:=List.nodup_cons.mp (show (y.1::r.map (·.1)).Nodup from h)
  rcases qaP.mp a with e | a<;>rcases qaP.mp b with e' | b
  ·rw [<- e] at e';cases e';rfl
  ·exact absurd (qaU.mpr ⟨_,b,by rw [<- e]⟩) h1
  ·exact absurd (qaU.mpr ⟨_,a,by rw [<- e']⟩) h1
  ·exact ih h2 a b
theorem zei (I:Inv X pins σ H s): ∀ (names:List (Str×NameKind)) (acc:List (Str×Addr)),(∀ x∈names,x.2= .free-> ∃ c,X.env.cells.lookup x.1=some c)->(names.map (·.1)).Nodup->(∀ x c,(x,c)∈acc->X.env.cells.lookup x=some c/\x∉names.map (·.1))->
  (acc.Pairwise fun x y=>x.2≠y.2)->(zbv X.env.cells names acc).Pairwise fun x y=>x.2≠y.2
 | [],_,_,_,_,h=>h
 | (n,k)::r,acc,hf,nd,ha,h=>by
  unfold zbv
  obtain ⟨h1,h2⟩:=List.nodup_cons.mp (show (n::r.map (·.1)).Nodup from nd)
  by_cases hk:(k==NameKind.free)=true
  ·rw [qa4 hk]
   obtain ⟨c,hc⟩:=hf (n,k) qau (by simpa using hk)
   have hc:X.env.cells.lookup n=some c:=hc
   rw [show (X.env.cells.lookup n).getD 0=c by rw [hc];rfl]
   refine zei I r _ (fun x hx=>hf x (qan _ hx)) h2 (fun x c' hm=> ?_) (qay.mpr ⟨fun y hy e=> ?_,h⟩)
   ·rcases qaP.mp hm with e | hm
    ·cases e;exact ⟨hc,h1⟩
    ·exact ⟨(ha x c' hm).1,fun z=>(ha x c' hm).2 (qan _ z)⟩
   ·obtain ⟨q1,q2⟩:=ha y.1 y.2 hy
    have e':c=y.2:=e
    rw [<- e'] at q1
    have:=I.ok.inj _ _ _ hc q1
    exact q2 (by rw [<- this];exact qau)
  ·rw [qa5 hk]
   exact zei I r acc (fun x hx=>hf x (qan _ hx)) h2 (fun x c' hm=>⟨(ha x c' hm).1,fun z=>(ha x c' hm).2 (qan _ z)⟩) h
theorem zkJ (I:Inv X pins σ H s) (B:BOk X scope N src) (hf: ∀ b∈fp,zhO X pins H b) (hfo: ∀ b∈fp, ∃ o,s.heap.get? b=some o) {h':Heap} (hk: ∀ b o,s.heap.get? b=some o->h'.get? b=some o) (hns:h'.Ns s.heap.objs.size (fun _=>none))
  (hce: ∀ x c,(x,NameKind.cell)∈scope.names->(x,c)∈cellsFrom (s.heap.objs.size+1) scope.names (zbv X.env.cells scope.names [])->(x,c)∉zbv X.env.cells scope.names []->h'.IsCell c none):
  Inv (cxB X scope N s H fp) [] (bStart src σ) H {s with heap:=h'}:=by
 have cin: ∀ {x:Str} {c:Addr},(x,c)∈zbv X.env.cells scope.names []->X.env.cells.lookup x=some c/\(x,NameKind.free)∈scope.names:=fun h=>zoO I B h
 have old: ∀ {x:Str} {c:Addr},X.env.cells.lookup x=some c->c<s.heap.objs.size:=fun {x c} h=>(let ⟨_,q⟩:=I.cell x c h;q.lt)
 have all: ∀ {x:Str} {c:Addr},(x,c)∈cellsFrom (s.heap.objs.size+1) scope.names (zbv X.env.cells scope.names [])->(X.env.cells.lookup x=some c/\(x,NameKind.free)∈scope.names)\/(s.heap.objs.size<c/\(x,NameKind.cell)∈scope.names):=fun {x c} h=>by
  rcases zcP h with z | ⟨z,z'⟩
  ·exact .inl (cin z)
  ·exact .inr ⟨z,z'⟩
 have lk: ∀ {x:Str} {c:Addr},(zov X.env scope s.heap.objs.size).cells.lookup x=some c->(x,c)∈cellsFrom (s.heap.objs.size+1) scope.names (zbv X.env.cells scope.names []):=fun h=>PySem.mem_of_lookup h
 have hasF: ∀ x∈scope.names,x.2= .free-> ∃ c,X.env.cells.lookup x.1=some c:=fun x hx e=>I.ok.has x.1 (B.free x hx e)
 have ap:(cellsFrom (s.heap.objs.size+1) scope.names (zbv X.env.cells scope.names [])).Pairwise fun x y=>x.2≠y.2:=
  zb6 _ _ _ (fun x c hm=>Nat.lt_succ_of_lt (old (cin hm).1)) (zei I scope.names [] hasF B.keys (fun _ _ z=>nomatch z) .nil)
 have outer: ∀ {x:Str} {c:Addr},(x,NameKind.free)∈scope.names->X.env.cells.lookup x=some c->(zov X.env scope s.heap.objs.size).cells.lookup x=some c:=fun {x c} h1 h2=>
  zca _ _ _ (fun z=>nomatch zhv B.keys h1 z) (zdF h2 scope.names [] (.inl h1))
 have kinds: ∀ x,(zov X.env scope s.heap.objs.size).kindOf x=(scope.names.lookup x).map fun k=>if (k== .free && X.env.scope.kind== .function && X.env.kindOf x==some .cell) then .cell else k:=fun x=>zfz
 have ckind: ∀ x,((zov X.env scope s.heap.objs.size).kindOf x=some .cell\/(zov X.env scope s.heap.objs.size).kindOf x=some .free)->scope.names.lookup x=some .cell\/scope.names.lookup x=some .free:=fun x h=>by
  rw [kinds x] at h
  cases e:scope.names.lookup x with
  | none=>rw [e] at h;simp at h
  | some k=>
   rw [e] at h
   cases k<;>simp at h ⊢
 refine ⟨⟨I.ok.mod,B.kind,I.ok.glob,I.ok.blt,qaV _,fun x y c h1 h2=>name_of_addr ap (lk h1) (lk h2),fun x hx=> ?_,fun x c hfn hx=> ?_,I.ok.hd,I.handA,I.ok.frames,.inl rfl,fun b hb=> ?_,I.bs,qaS I.ok.bsz I.sz,fun b o e hb=> ?_,fun b hb hb'=> ?_,I.stack,I.stkFree⟩,
   rfl,I.bare,Un.kept hk,⟨_,hns,fun i x v h1 h2 h3=> ?_⟩,fun x c h=> ?_,I.hok.fresh (qaV _),fun x c h=> ?_,fun p hp=>absurd (show p∈([]:List (Addr×Obj)) from hp) (by simp),I.hok.kept hk,?_⟩
 ·-- has
  rcases ckind x hx with h | h
  ·exact Option.isSome_iff_exists.mp (W.cellsFrom_some scope.names _ _ (.inl h))
  ·have hm:=PySem.mem_of_lookup h
   obtain ⟨c,hc⟩:=hasF _ hm rfl
   exact ⟨c,outer hm hc⟩
 ·-- cab
  have hfn:scope.names.lookup x=some .cell:=by simpa using hfn
  rcases all (lk hx) with ⟨_,z⟩ | ⟨z,_⟩
  ·exact absurd (zhv B.keys z (PySem.mem_of_lookup hfn)) (by decide)
  ·exact Nat.le_of_lt z
 ·-- exf
  obtain ⟨o,ho⟩:=hfo b hb
  refine ⟨qaR (qaQ ho),fun x c hx z=> ?_⟩
  rcases all (lk hx) with ⟨q,_⟩ | ⟨q,_⟩
  ·exact (hf b hb).2.2.2.2.1 x c q z
  ·have:=qaQ ho
   rw [<- z] at this
   exact qaN _ (Nat.lt_trans q this)
 ·-- noex
  rcases (hf b hb).2.2.2.1 with z | z
  ·exact I.ok.noex b o e z
  ·exact qaN _ (qaw (qaw (qaQ e) I.ok.bsz) z)
 ·-- exfs
  rcases qaP.mp (I.stkSub b hb') with z | z
  ·exact (hf b hb).2.1 z
  ·exact (hf b hb).2.2.1 z
 ·-- loc
  unfold bStart at h2
  rw [List.getElem?_map] at h2
  cases e:src[i]? with
  | none=>rw [e] at h2;cases h2
  | some o=>
   rw [e] at h2
   cases o with
   | none=>cases h2
   | some j=>
    have h2:(σ[j]?).join=some v:=by simpa using h2
    have e3:σ[j]? = some (some v):=by
     cases q:σ[j]? with
     | none=>rw [q] at h2;cases h2
     | some z=>rw [q] at h2;simp at h2;rw [h2]
    obtain ⟨b1,b2⟩:=B.src i j x e h1
    have hm:=PySem.mem_of_lookup b2
    obtain ⟨m,hn,hl⟩:=I.loc
    have hfr:=B.free _ hm rfl
    obtain ⟨u,r,l⟩:=hl j x v b1 e3 (.inr hfr)
    rcases l with ⟨k,_⟩ | ⟨k,c,hc,q⟩
    ·rcases hfr with z | z<;>(have z':=k.symm.trans z;cases z')
    ·refine ⟨u,r,.inr ⟨?_,c,outer hm hc,q.keeps hk⟩⟩
     rw [kinds x,b2]
     dsimp only [Option.map]
     split
     ·exact .inl rfl
     ·exact .inr rfl
 ·-- cell
  rcases all (lk h) with ⟨q,_⟩ | ⟨q,q'⟩
  ·obtain ⟨v,z⟩:=I.cell x c q
   exact ⟨v,z.keeps hk⟩
  ·exact ⟨none,hce x c q' (lk h) fun z=>absurd (Nat.lt_trans q (old (cin z).1)) (qaN _)⟩
 ·-- freeC
  rcases all (lk h) with ⟨q,_⟩ | ⟨q,q'⟩
  ·exact I.freeC x c q
  ·exact I.hok.fresh (Nat.le_of_lt q)
 ·unfold bStart
  rw [qaH]
  exact B.len
end
def PCs (X:Cx) (ifs:List Expr) (t:TT):Prop:=
 ∀ (pins:List (Addr×Obj)) (s:Shared) (σ:St) (H:Hp) (Q:Bool->Hp->Prop),Inv X pins σ H s->t σ H Q->
  wpAny (model X.prog X.w) X.A (forIn ifs true fun c r=>if r=true then do let ok<-isTrue c X.env (eval c X.env);pure (ForInStep.yield ok) else pure (ForInStep.yield r)) (TP X pins σ Q) X.xe s
noncomputable def zui:TT:=fun _ H Q=>Q true H
theorem zpF {X:Cx}:PCs X [] zui:=fun pins s σ H Q I h=>wpAny_tests_nil ⟨H,I,h⟩
theorem zpc {X:Cx} {c:Expr} {t:TT} (h:PT X c t):PCs X [c] t:=fun pins s σ H Q I hw=>wpAny_tests_one (h pins s σ H Q I hw)
def ztM (J:It) (g:TG) (tc:TT) (te:TE) (σ0:St) (H1:Hp) (D:Addr) (Q:Hp->Prop):Prop:=
 ∃ W:Nat->Nat->St->Hp->Prop,(∃ m,W 0 m σ0 (upd H1 D (.lst [])))/\ ∀ i m σ' H',W i m σ' H'->
  (J.stop i H'/\Q H')\/(J.go i H'/\ ∃ Nn:St->Hp->Prop,(∀ σ2 H2,Nn σ2 H2-> ∃ m',m'<m/\W (i+1) m' σ2 H2)/\ ∀ x H2,J.yld i H' x H2->g x σ' H2 fun σ2 H3=>tc σ2 H3 fun b H4=>
    if b=true then te σ2 H4 fun y H5=> ∃ xs,H5 D=some (.lst xs)/\xs.length<sizeLine/\Nn σ2 (upd H5 D (.lst (xs++[y]))) else Nn σ2 H4)
section
variable {X:Cx} {scope:Scope} {N:List Str} {src:List (Option Nat)} {tg iter elt:Expr} {ifs:List Expr} {pos:Pos}
theorem ziu {pins:List (Addr×Obj)} {σ:St} {H:Hp} {s₂:Shared} {it:Addr} {fp:List Addr} {tn:Nat->Heap->Prop} {J:It} {g:TG} {tc:TT} {te:TE} {Q:Addr->Hp->Prop} {E:Value->Shared->Prop} {RR:Value->Addr->Result->Shared->Prop}
  (B:BOk X scope N src)
  (hg: ∀ s H fp,PG (cxB X scope N s H fp) tg g) (ht: ∀ s H fp,PCs (cxB X scope N s H fp) ifs tc) (he: ∀ s H fp,PE (cxB X scope N s H fp) elt te)
  (I2:Inv X pins σ H s₂) (T:zn3 X.prog X.w X.K tg J fp it tn) (st2:tn 0 s₂.heap) (f2: ∀ b∈fp,zhO X pins H b) (hw: ∀ D,H D=none->ztM J g tc te (bStart src σ) H D (Q D))
  (hRR: ∀ D C H' s' m,Inv X pins σ H' s'->s'.heap.Ns C m->s₂.heap.objs.size<=C->C<s'.heap.objs.size->H' C=none->Q D H'->RR (.ref D) C (.ok .next) s'):
  wpAny (model X.prog X.w) X.A (newList []) (fun acc s₃=>wpAny (model X.prog X.w) X.A (newFunctionEnv scope X.env.globals (zbv X.env.cells scope.names []) [] X.env.qual none .none (some X.env)) (fun cenv s₄=>
    codeAny (model X.prog X.w) X.A (.compStart (.ListComp elt [⟨tg,iter,ifs,0⟩] scope pos) 0 (.ref it) acc {cenv with scope:=relabel scope X.env}) (RR acc cenv.locals) s₄) E s₃) E s₂:=by
 refine qaC (zfy fun h₁ hk₁ hns₁ hce₁=> ?_)
 dsimp only at hk₁ hns₁ hce₁ ⊢
 have hfresh:H s₂.heap.objs.size=none:=I2.hok.fresh (qaV _)
 have I3:Inv X pins σ (upd H s₂.heap.objs.size (.lst [])) {s₂ with heap:=s₂.heap.push {cls:= .type "list",dict:=none,data:= .seq ([]:List Value).toArray}}:=by
  have:=I2.lnew (its:=[]) (ys:=[]) (t':=s₂.toks) .nil (Nat.zero_le _)
  exact this
 obtain ⟨W,⟨m0,w0⟩,turn⟩:=hw _ hfresh
 generalize hD:s₂.heap.objs.size=D at*
 generalize hs3:({s₂ with heap:=s₂.heap.push {cls:= .type "list",dict:=none,data:= .seq ([]:List Value).toArray}}:Shared)=s₃ at*
 have hh3:s₂.heap.push {cls:= .type "list",dict:=none,data:= .seq ([]:List Value).toArray}=s₃.heap:=by rw [<- hs3]
 rw [hh3] at hk₁ hns₁ hce₁ ⊢
 have push3: ∀ b o,s₂.heap.get? b=some o->s₃.heap.get? b=some o:=fun b o e=>by rw [<- hs3];exact qag _ e
 have sz3:s₃.heap.objs.size=D+1:=by rw [<- hs3, <-hD];exact qaL ..
 have fpo: ∀ b∈fp, ∃ o,s₂.heap.get? b=some o/\ ∀ v,o.data≠ .cell v:=T.obj _ _ st2
 have fpD: ∀ b∈fp,b≠D:=fun b hb z=>by
  obtain ⟨o,e,_⟩:=fpo b hb
  have:=qaQ e
  rw [z, <-hD] at this
  exact qaN _ this
 have f3: ∀ b∈fp,zhO X pins (upd H D (.lst [])) b:=fun b hb=>⟨by rw [zaC (fpD b hb)];exact (f2 b hb).1,(f2 b hb).2⟩
 have I4:Inv (cxB X scope N s₃ (upd H D (.lst [])) fp) [] (bStart src σ) (upd H D (.lst [])) {s₃ with heap:=h₁}:=
  zkJ I3 B f3 (fun b hb=>let ⟨o,e,_⟩:=fpo b hb;⟨o,push3 b o e⟩) hk₁ hns₁ hce₁
 have fB: ∀ {H':Hp},(∀ b∈fp,H' b=none)-> ∀ b∈fp,zhO (cxB X scope N s₃ (upd H D (.lst [])) fp) [] H' b:=fun {H'} hn b hb=>
  ⟨hn b hb,(I4.ok.exf b hb).1,I4.ok.exfs b hb,.inl hb,fun x c e=>(I4.ok.exf b hb).2 x c e,fun p hp=>absurd (show p∈([]:List (Addr×Obj)) from hp) (by simp)⟩
 have stat4: ∀ s',s'=({s₃ with heap:=h₁}:Shared)->codeAny (model X.prog X.w) X.A (.compLoop (.ListComp elt [⟨tg,iter,ifs,0⟩] scope pos) 0 (.ref it) (.ref D) (zov X.env scope s₃.heap.objs.size)) (RR (.ref D) s₃.heap.objs.size) s':=by
  intro s' es
  refine zht (fun n s'=> ∃ i σ' H',Inv (cxB X scope N s₃ (upd H D (.lst [])) fp) [] σ' H' s'/\tn i s'.heap/\(∀ b∈fp,H' b=none)/\W i n σ' H') ?_ m0 ⟨0,_,_,by rw [es];exact I4,by rw [es];exact T.keep _ _ _ st2 fun b hb o e=>hk₁ b o (push3 b o e),fun b hb=>(f3 b hb).1,w0⟩
  rintro n s5 ⟨i,σ5,H5,I5,st5,fr5,w5⟩
  rcases turn i n σ5 H5 w5 with ⟨stop,qn⟩ | ⟨go,Nn,hN,step⟩
  ·refine thn (T.done (cxB X scope N s₃ (upd H D (.lst [])) fp) rfl rfl rfl i [] s5 σ5 H5 _ I5 (fB fr5) st5 stop) fun r s6 ⟨hr,I6⟩=> ?_
   subst hr
   obtain ⟨m,hnC,_⟩:=I6.loc
   have un:=I6.base
   have u2:Un (frs X.stack) fp H H5 s₂.heap s6.heap:=by
    refine Un.trans ?_ un
    have:=Un.laid (fs:=frs X.stack) (ex:=fp) (H:=H) (h:=s₂.heap) (h':=s₃.heap) (a:=D) (o:= .lst []) push3 (Nat.le_of_eq hD) hfresh
    exact this
   refine hRR D _ H5 s6 m (I2.call' (ch:=fp) (by rw [I6.os, <-hs3]) u2 I6.hok I6.bare fun b hb=> ?_) hnC (by rw [sz3];exact Nat.le_succ _) hnC.lt I6.free qn
   obtain ⟨q0,q1,q2,q3,q4,q5⟩:=f2 b hb
   exact ⟨q3,q1,q4,q5⟩
  ·refine thn (T.item (cxB X scope N s₃ (upd H D (.lst [])) fp) rfl rfl rfl i [] s5 σ5 H5 _ I5 (fB fr5) st5 go) fun r s6 ⟨u,hr,h6⟩=> ?_
   subst hr
   refine thn h6 fun _ s7 ⟨x,H7,I7,r7,y7,st7,fr7⟩=> ?_
   have I7':=I7.pinned (fB fr7) (T.obj _ _ st7)
   refine thn (hg _ _ _ _ s7 σ5 H7 x u _ I7' r7 (step x H7 y7)) fun _ s8 ⟨σ8,H8,I8,q8⟩=> ?_
   refine thn (ht _ _ _ _ s8 σ8 H8 _ I8 q8) fun ok s9 ⟨H9,I9,q9⟩=> ?_
   have again: ∀ {σ7:St} {Hz:Hp} {sz:Shared},Inv (cxB X scope N s₃ (upd H D (.lst [])) fp) ([]++zhF fp s7.heap) σ7 Hz sz->Nn σ7 Hz-> ∃ m,m<n/\ ∃ i σ' H',Inv (cxB X scope N s₃ (upd H D (.lst [])) fp) [] σ' H' sz/\tn i sz.heap/\(∀ b∈fp,H' b=none)/\W i m σ' H':=fun {σz Hz sz} Iz nz=>by
    obtain ⟨m',hm,wz⟩:=hN _ _ nz
    refine ⟨m',hm,i+1,_,_,Iz.unpinned,T.keep _ _ _ st7 fun b hb o e=>(Iz.pin (b,o) (qak _ (qak _ (zdm hb e)))).1,fun b hb=> ?_,wz⟩
    obtain ⟨o,e,d⟩:=T.obj _ _ st7 b hb
    exact (Iz.pin (b,o) (qak _ (qak _ (zdm hb e)))).2.1
   cases ok with
   | false=>
    rw [qa5 (by decide)] at q9
    rw [qa5 (by decide)]
    exact again I9 q9
   | true=>
    rw [qa4 rfl] at q9
    rw [qa4 rfl]
    refine thn (he _ _ _ _ s9 σ8 H9 _ I9 q9) fun y s10 ⟨yv,H10,I10,ry,xs,e10,z10,q10⟩=> ?_
    refine thn (zhm (X:=cxB X scope N s₃ (upd H D (.lst [])) fp) _ s10 σ8 H10 (.ref D) [yv] (.ref D) [y] (fun _ Hf=>Nn σ8 Hf) I10 rfl (.cons ry .nil) ⟨D,xs,yv,rfl,rfl,e10,z10,q10⟩) fun _ s11 ⟨_,H11,I11,_,q11⟩=> ?_
    exact again I11 q11
 exact codeAny_compStart_list (stat4 _ (by rw [<- hs3])) (T.self _ 0 _ _ _ (T.keep _ _ _ st2 fun b hb o e=>hk₁ b o (push3 b o e)) (stat4 _ (by rw [<- hs3])))
noncomputable def zor (wi:TI) (g:TG) (tc:TT) (te:TE) (src:List (Option Nat)):TE:=fun σ H Q=>wi σ H fun J H1=> ∀ D,H1 D=none->ztM J g tc te (bStart src σ) H1 D fun H'=>Q (.ref D) H'
theorem Inv.letGo {pins:List (Addr×Obj)} {σ:St} {H:Hp} {s:Shared} {C:Addr} {m:Str->Option Value} {h':Heap} (I:Inv X pins σ H s) (hn:s.heap.Ns C m) (hn':H C=none) (hC:X.s₀.heap.objs.size<=C) (hL:C≠X.env.locals) (hp: ∀ p∈X.pn++pins,p.1≠C) (hs:Heap.SameBut C s.heap h'):Inv X pins σ H {s with heap:=h'}:=by
 refine I.turned (t':=s.toks) (it:=C) (fun b o hb e=>(hs.2 b hb).trans e) hn' hL (.inr hC) (fun x c e z=> ?_) hp
 obtain ⟨v,o,ho,hd⟩:=I.cell x c e
 obtain ⟨o',es,ep,ho',hd',_⟩:=hn
 rw [z,ho'] at ho
 cases ho
 rw [hd'] at hd
 cases hd
theorem zpS {wi:TI} {g:TG} {tc:TT} {te:TE} (B:BOk X scope N src) (hi:PI X tg iter wi)
  (hg: ∀ s H fp,PG (cxB X scope N s H fp) tg g) (ht: ∀ s H fp,PCs (cxB X scope N s H fp) ifs tc) (he: ∀ s H fp,PE (cxB X scope N s H fp) elt te)
  (hs: ∀ x,foldedSetIterable iter X.env x=pure x:=by intro _;rfl):PE X (.ListComp elt [⟨tg,iter,ifs,0⟩] scope pos) (zor wi g tc te src):=by
 intro pins s σ H Q I h
 rw [eval_ListComp]
 refine wpAny_comprehension_free (use:=none) rfl hs (zdQ fun x hx e=>I.ok.has x.1 (B.free x hx e)) B.kind B.locs ?_
 refine thn (hi pins s σ H _ I h) fun v s1 h1=>thn h1 fun itv s2 h2=> ?_
 obtain ⟨it,fp,tn,J,H2,e,I2,T,st2,f2,hw⟩:=h2
 subst e
 refine ziu (RR:=fun acc C=>compPost (model X.prog X.w) X.A X.xe none (EP X pins σ Q) acc C) (Q:=fun D H'=>Q (.ref D) H') B hg ht he I2 T st2 f2 hw ?_
 intro D C H' s' m I' hn hC hCs hf q
 refine ⟨m,hn,fun h' hs'=>⟨.ref D,H',I'.letGo hn hf (qaS I2.sz hC) (fun z=> ?_) (fun p hp z=> ?_) hs',rfl,q⟩⟩
 ·exact qaN _ (qaw (z▸I2.lt) hC)
 ·have:=qaQ (I2.pin p hp).1
  rw [z] at this
  exact qaN _ (qaw this hC)
theorem zjP {wi:TI} {g:TG} {tc:TT} {te:TE} {i:Nat} {y:Str} {py spos:Pos} (B:BOk X scope N src) (hi:PI X tg iter wi)
  (hg: ∀ s H fp,PG (cxB X scope N s H fp) tg g) (ht: ∀ s H fp,PCs (cxB X scope N s H fp) ifs tc) (he: ∀ s H fp,PE (cxB X scope N s H fp) elt te)
  (hN:X.N.Nodup) (hy:X.N[i]? = some y) (hx:Loc X.env.scope y) (hsw:swapsWith (.ListComp elt [⟨tg,iter,ifs,0⟩] scope pos) (some (.Name y py)) spos.line X.env=pure true)
  (hf:X.fn y=true\/X.env.scope.names.lookup y=some .local:=by first | exact .inl rfl | exact .inr rfl | assumption)
  (hs: ∀ x,foldedSetIterable iter X.env x=pure x:=by intro _;rfl):PS X (.Assign [.Name y py] (.ListComp elt [⟨tg,iter,ifs,0⟩] scope pos) spos) (zsP (zor wi g tc te src) (zo2 i)):=by
 intro pins s σ H D0 I h
 rw [exec_Assign_Name_used _ _ _ _ hsw]
 refine qaW (wpAny_standAt (qaW ?_))
 show wpAny _ X.A (do let _<-comprehension (.ListComp elt [⟨tg,iter,ifs,0⟩] scope pos) scope X.env _ (newList []) false (eval iter X.env) (some (assign (.Name y py) X.env))) _ _ s
 refine qaW (qaZ (wpAny_comprehension_free (use:=some (assign (.Name y py) X.env)) (Q:=fun _ s'=>SP X pins D0 .next s') rfl hs (zdQ fun x hx e=>I.ok.has x.1 (B.free x hx e)) B.kind B.locs ?_)
   (fun _ s' hq=>qaX (qaX hq)) fun _ _ e=>e)
 refine thn (hi pins s σ H _ I h) fun v s1 h1=>thn h1 fun itv s2 h2=> ?_
 obtain ⟨it,fp,tn,J,H2,e,I2,T,st2,f2,hw⟩:=h2
 subst e
 refine ziu (RR:=fun acc C=>compPost (model X.prog X.w) X.A X.xe (some (assign (.Name y py) X.env)) (fun _ s'=>SP X pins D0 .next s') acc C) (Q:=fun D H'=>D0.nx (σ.set i (some (.ref D))) H') B hg ht he I2 T st2 f2 hw ?_
 intro D C H' s' m I' hn hC hCs hf' q
 show wpAny _ X.A (assign (.Name y py) X.env (.ref D)) _ _ _
 have hCL:C≠X.env.locals:=fun z=>qaN _ (qaw (z▸I2.lt) hC)
 have hCp: ∀ p∈X.pn++pins,p.1≠C:=fun p hp z=>by
  have:=qaQ (I2.pin p hp).1
  rw [z] at this
  exact qaN _ (qaw this hC)
 have hCc: ∀ x c,X.env.cells.lookup x=some c->c≠C:=fun x c e z=>by
  obtain ⟨v,hv⟩:=I2.cell x c e
  exact qaN _ (qaw (z▸hv.lt) hC)
 obtain ⟨oC,es,ep,hoC,hdC,hrest⟩:=hn
 have hCfs:C∉X.fs:=I2.nofs hC
 have Ip:Inv X (pins++[(C,oC)]) σ H' s':=I'.pins_of fun p hp=>by
  rcases qaK.mp hp with z | z
  ·exact I'.pin p (qak _ z)
  ·obtain rfl:p=(C,oC):=by simpa using z
   exact ⟨hoC,hf',hCL,hCfs,fun v z=>by have z':=hdC.symm.trans z;cases z'⟩
 refine wpAny_assign_Name (zf1 Ip hN hy hx (v:= .ref D) rfl (fun s3 I3=> ?_) hf)
 have hC3:=(I3.pin (C,oC) (by simp)).1
 refine ⟨m,⟨oC,es,ep,hC3,hdC,hrest⟩,fun h' hs'=> ?_⟩
 exact ⟨_,H',(I3.unpinned).letGo ⟨oC,es,ep,hC3,hdC,hrest⟩ hf' (qaS I2.sz hC) hCL hCp hs',q⟩
end
end L2
namespace L3
open PySem PySem.Spec PyProof.Rows L2
inductive D where
 | non | bl (b:Bool) | int (i:Int) | str (x:Str) | tup (xs:List D) | lst (xs:List D) | cel (n:Nat) | set (xs:List Int) | dct | fn (a:Addr) | scr (xs:List D) | exn (c:String)
inductive C where
 | lst (xs:List D) | dic (kvs:List (Int×D)) | dead
noncomputable abbrev Hh:=List C
structure Io where
 c:List (Option Addr)
 x:List Addr
def Io.Has (ι:Io) (a:Addr):Prop:=some a∈ι.c\/a∈ι.x
inductive R (α:Type) where
 | ok (a:α) (h:Hh) | exc (c:String) (h:Hh) | bad
noncomputable def M (α:Type):=Hh->R α
@[inline] noncomputable def M.bind {α β:Type} (m:M α) (f:α->M β):M β:=fun h=>match m h with
 | .ok a h'=>f a h'
 | .exc c h'=> .exc c h'
 | .bad=> .bad
@[inline] noncomputable def M.pure {α:Type} (a:α):M α:=fun h=> .ok a h
noncomputable instance:Monad M where
 pure:=M.pure
 bind:=M.bind
noncomputable def M.bad {α:Type}:M α:=fun _=> .bad
def KL (K:W.Frag) (a:Addr) (xs:List V):Prop:=SqL K (fun _=>none) a xs
mutual
noncomputable def Rel (K:W.Frag) (ι:Io) (H:Hp):D->V->Prop
 | .non,v=>v= .non
 | .bl b,v=>v= .bl b
 | .int i,v=>v= .int i
 | .str x,v=>v= .str x
 | .tup ds,v=> ∃ a vs,v= .ref a/\(H a=some (.tup vs)/\ ¬ι.Has a)/\zar K ι H ds vs
 | .lst ds,v=> ∃ a vs,v= .ref a/\(H a=some (.lst vs)/\ ¬ι.Has a)/\zar K ι H ds vs
 | .scr ds,v=> ∃ a vs,v= .ref a/\((Rd H a (.lst vs)/\ ¬ι.Has a)\/KL K a vs)/\zar K ι H ds vs
 | .cel n,v=> ∃ a,v= .ref a/\(ι.c[n]? = some (some a)\/ι.c[n]? = some none)
 | .set xs,v=> ∃ a,v= .ref a/\H a=some (.set (fun k=>xs.any (· == k)) xs.length)/\ ¬ι.Has a
 | .dct,v=> ∃ a,v= .ref a/\H a=some (.dK [])/\ ¬ι.Has a
 | .fn a,v=>v= .ref a
 | .exn c,v=> ∃ a o C head vs,v= .ref a/\(H a=some (.frz o (.own 0))/\ ¬ι.Has a)/\W.nsIn K mainGlobals (c:Str)=some (some (.ref C))/\o.cls= .ref C/\o.dict=none/\o.data= .fields vs/\vs[2]? = some .none/\vs[1]? = some head
noncomputable def zar (K:W.Frag) (ι:Io) (H:Hp):List D->List V->Prop
 | [],vs=>vs=[]
 | d::ds,vs=> ∃ v r,vs=v::r/\Rel K ι H d v/\zar K ι H ds r
end
structure zce (ι:Io) (H:Hp) (ι':Io) (H':Hp):Prop where
 old: ∀ (n:Nat) (o:Option Addr),ι.c[n]? = some o->ι'.c[n]? = some o\/ι'.c[n]? = some none
 new: ∀ a,some a∈ι'.c->some a∈ι.c\/H a=none
 hid:ι'.x=ι.x
 hidk: ∀ a∈ι.x,H' a=H a
 keep: ∀ b o,H b=some o-> ¬ι.Has b->H' b=some o
theorem zce.refl (ι:Io) (H:Hp):zce ι H ι H:=⟨fun _ _ h=> .inl h,fun _ h=> .inl h,rfl,fun _ _=>rfl,fun _ _ h _=>h⟩
theorem zce.nin {ι ι':Io} {H H':Hp} (s:zce ι H ι' H') {a:Addr} {o:HO} (h:H a=some o) (n: ¬ι.Has a): ¬ι'.Has a:=fun z=>by
 rcases z with z | z
 ·rcases s.new a z with z | z
  ·exact n (.inl z)
  ·rw [h] at z;cases z
 ·rw [s.hid] at z;exact n (.inr z)
theorem zce.trans {ι ι1 ι2:Io} {H H1 H2:Hp} (s:zce ι H ι1 H1) (t:zce ι1 H1 ι2 H2):zce ι H ι2 H2 where
 old:=fun n o h=>by
  rcases s.old n o h with h | h
  ·exact t.old n o h
  ·rcases t.old n _ h with h | h<;>exact .inr h
 new:=fun a h=>by
  rcases t.new a h with h | h
  ·exact s.new a h
  ·by_cases z:some a∈ι.c
   ·exact .inl z
   ·refine .inr ?_
    cases q:H a with
    | none=>rfl
    | some o=>
     by_cases z':a∈ι.x
     ·rw [s.hidk a z',q] at h;cases h
     ·rw [s.keep a o q (fun w=>w.elim z z')] at h;cases h
 hid:=t.hid.trans s.hid
 hidk:=fun a h=>(t.hidk a (by rw [s.hid];exact h)).trans (s.hidk a h)
 keep:=fun b o h n=>t.keep b o (s.keep b o h n) (s.nin h n)
theorem zce.rd {ι ι':Io} {H H':Hp} (s:zce ι H ι' H') {a:Addr} {u:HO} (h:Rd H a u) (n: ¬ι.Has a):Rd H' a u/\ ¬ι'.Has a:=by
 rcases h with h | ⟨o,h⟩
 ·exact ⟨.inl (s.keep _ _ h n),s.nin h n⟩
 ·exact ⟨.inr ⟨o,s.keep _ _ h n⟩,s.nin h n⟩
structure Pass (ι:Io) (H:Hp) (ι':Io) (H':Hp):Prop where
 old: ∀ (n:Nat) (o:Option Addr),ι.c[n]? = some o->ι'.c[n]? = some o\/ι'.c[n]? = some none
 keep: ∀ b o,H b=some o-> ¬ι.Has b->H' b=some o/\ ¬ι'.Has b
theorem zce.pass {ι ι':Io} {H H':Hp} (s:zce ι H ι' H'):Pass ι H ι' H':=⟨s.old,fun b o h n=>⟨s.keep b o h n,s.nin h n⟩⟩
theorem Pass.rd {ι ι':Io} {H H':Hp} (s:Pass ι H ι' H') {a:Addr} {u:HO} (h:Rd H a u) (n: ¬ι.Has a):Rd H' a u/\ ¬ι'.Has a:=by
 rcases h with h | ⟨o,h⟩
 ·exact ⟨.inl (s.keep _ _ h n).1,(s.keep _ _ h n).2⟩
 ·exact ⟨.inr ⟨o,(s.keep _ _ h n).1⟩,(s.keep _ _ h n).2⟩
section
variable {K:W.Frag} {ι ι':Io} {H H':Hp}
mutual
theorem Rel.pass (s:Pass ι H ι' H'): ∀ {d:D} {v:V},Rel K ι H d v->Rel K ι' H' d v
 | .non,_,h=>by simpa [Rel] using h
 | .bl _,_,h=>by simpa [Rel] using h
 | .int _,_,h=>by simpa [Rel] using h
 | .str _,_,h=>by simpa [Rel] using h
 | .tup ds,v,h=>by
  simp only [Rel] at h ⊢
  obtain ⟨a,vs,e,h1,h2⟩:=h
  exact ⟨a,vs,e,s.keep _ _ h1.1 h1.2,zar.pass s h2⟩
 | .lst ds,v,h=>by
  simp only [Rel] at h ⊢
  obtain ⟨a,vs,e,h1,h2⟩:=h
  exact ⟨a,vs,e,s.keep _ _ h1.1 h1.2,zar.pass s h2⟩
 | .scr ds,v,h=>by
  simp only [Rel] at h ⊢
  obtain ⟨a,vs,e,h1,h2⟩:=h
  exact ⟨a,vs,e,h1.imp (fun z=>s.rd z.1 z.2) id,zar.pass s h2⟩
 | .cel n,v,h=>by
  simp only [Rel] at h ⊢
  obtain ⟨a,e,h⟩:=h
  refine ⟨a,e,?_⟩
  rcases h with h | h
  ·exact s.old n _ h
  ·rcases s.old n _ h with h | h<;>exact .inr h
 | .set xs,v,h=>by
  simp only [Rel] at h ⊢
  obtain ⟨a,e,h,n⟩:=h
  exact ⟨a,e,(s.keep _ _ h n).1,(s.keep _ _ h n).2⟩
 | .dct,v,h=>by
  simp only [Rel] at h ⊢
  obtain ⟨a,e,h,n⟩:=h
  exact ⟨a,e,(s.keep _ _ h n).1,(s.keep _ _ h n).2⟩
 | .fn _,_,h=>by simpa [Rel] using h
 | .exn _,_,h=>by
  simp only [Rel] at h ⊢
  obtain ⟨a,o,C,head,vs,e,h1,h2⟩:=h
  exact ⟨a,o,C,head,vs,e,s.keep _ _ h1.1 h1.2,h2⟩
theorem zar.pass (s:Pass ι H ι' H'): ∀ {ds:List D} {vs:List V},zar K ι H ds vs->zar K ι' H' ds vs
 | [],_,h=>by simpa [zar] using h
 | d::ds,_,h=>by
  simp only [zar] at h ⊢
  obtain ⟨v,r,e,h1,h2⟩:=h
  exact ⟨v,r,e,Rel.pass s h1,zar.pass s h2⟩
end
theorem Rel.step (s:zce ι H ι' H') {d:D} {v:V} (h:Rel K ι H d v):Rel K ι' H' d v:=h.pass s.pass
theorem zar.step (s:zce ι H ι' H') {ds:List D} {vs:List V} (h:zar K ι H ds vs):zar K ι' H' ds vs:=h.pass s.pass
theorem zar.nil:zar K ι H [] []:=by simp [zar]
theorem zar.cons {d:D} {ds:List D} {v:V} {vs:List V} (h:Rel K ι H d v) (t:zar K ι H ds vs):zar K ι H (d::ds) (v::vs):=by simp only [zar];exact ⟨v,vs,rfl,h,t⟩
theorem zar.length: ∀ {ds:List D} {vs:List V},zar K ι H ds vs->ds.length=vs.length
 | [],_,h=>by simp only [zar] at h;subst h;rfl
 | d::ds,_,h=>by
  simp only [zar] at h
  obtain ⟨v,r,rfl,_,h⟩:=h
  simp [zar.length h]
theorem zar.get: ∀ {ds:List D} {vs:List V} {i:Nat} {d:D},zar K ι H ds vs->ds[i]? = some d-> ∃ v,vs[i]? = some v/\Rel K ι H d v
 | [],_,_,_,_,e=>by simp at e
 | d::ds,_,i,x,h,e=>by
  simp only [zar] at h
  obtain ⟨v,r,rfl,h1,h2⟩:=h
  cases i with
  | zero=>simp at e;subst e;exact ⟨v,rfl,h1⟩
  | succ i=>simp at e;simpa using zar.get h2 e
theorem zar.getV: ∀ {ds:List D} {vs:List V} {i:Nat} {v:V},zar K ι H ds vs->vs[i]? = some v-> ∃ d,ds[i]? = some d/\Rel K ι H d v
 | [],_,_,_,h,e=>by simp only [zar] at h;subst h;simp at e
 | d::ds,_,i,x,h,e=>by
  simp only [zar] at h
  obtain ⟨v,r,rfl,h1,h2⟩:=h
  cases i with
  | zero=>simp at e;subst e;exact ⟨d,rfl,h1⟩
  | succ i=>simp at e;simpa using zar.getV h2 e
theorem zar.append: ∀ {ds es:List D} {vs ws:List V},zar K ι H ds vs->zar K ι H es ws->zar K ι H (ds++es) (vs++ws)
 | [],_,_,_,h,t=>by simp only [zar] at h;subst h;exact t
 | d::ds,es,_,ws,h,t=>by
  simp only [zar] at h
  obtain ⟨v,r,rfl,h1,h2⟩:=h
  exact zar.cons h1 (zar.append h2 t)
theorem zar.take: ∀ {ds:List D} {vs:List V} (n:Nat),zar K ι H ds vs->zar K ι H (ds.take n) (vs.take n)
 | _,_,0,_=>by simpa using zar.nil
 | [],_,n+1,h=>by simp only [zar] at h;subst h;exact zar.nil
 | d::ds,_,n+1,h=>by
  simp only [zar] at h
  obtain ⟨v,r,rfl,h1,h2⟩:=h
  exact zar.cons h1 (zar.take n h2)
theorem zar.drop: ∀ {ds:List D} {vs:List V} (n:Nat),zar K ι H ds vs->zar K ι H (ds.drop n) (vs.drop n)
 | _,_,0,h=>h
 | [],_,n+1,h=>by simp only [zar] at h;subst h;exact zar.nil
 | d::ds,_,n+1,h=>by
  simp only [zar] at h
  obtain ⟨v,r,rfl,h1,h2⟩:=h
  exact zar.drop n h2
theorem zar.reverse {ds:List D} {vs:List V} (h:zar K ι H ds vs):zar K ι H ds.reverse vs.reverse:=by
 induction ds generalizing vs with
 | nil=>simp only [zar] at h;subst h;exact zar.nil
 | cons d ds ih=>
  simp only [zar] at h
  obtain ⟨v,r,rfl,h1,h2⟩:=h
  rw [List.reverse_cons,List.reverse_cons]
  exact zar.append (ih h2) (zar.cons h1 zar.nil)
theorem zar.set {d:D} {v:V} (hd:Rel K ι H d v): ∀ {ds:List D} {vs:List V} (i:Nat),zar K ι H ds vs->zar K ι H (ds.set i d) (vs.set i v)
 | [],_,_,h=>by simp only [zar] at h;subst h;exact zar.nil
 | x::ds,_,i,h=>by
  simp only [zar] at h
  obtain ⟨w,r,rfl,h1,h2⟩:=h
  cases i with
  | zero=>exact zar.cons hd h2
  | succ i=>exact zar.cons h1 (zar.set hd i h2)
theorem zcA: ∀ {is:List Int} {vs:List V},zar K ι H (is.map D.int) vs↔vs=is.map V.int
 | [],vs=>by simp [zar]
 | i::is,vs=>by
  simp only [qaM,zar]
  constructor
  ·rintro ⟨v,r,rfl,h1,h2⟩
   simp only [Rel] at h1
   rw [h1,zcA.mp h2]
  ·rintro rfl
   exact ⟨_,_,rfl,by simp [Rel],zcA.mpr rfl⟩
noncomputable def CO (K:W.Frag) (ι:Io) (H:Hp):C->HO->Prop
 | .lst ds,o=> ∃ vs,o= .lst vs/\zar K ι H ds vs
 | .dic kvs,o=> ∃ vs,o= .dK vs/\Paired (fun (p:Int×D) (q:Key×V)=>q.1= .inl p.1/\Rel K ι H p.2 q.2) kvs vs
 | .dead,_=>False
theorem CO.pass {c:C} {o:HO} (s:Pass ι H ι' H') (h:CO K ι H c o):CO K ι' H' c o:=by
 cases c with
 | lst ds=>obtain ⟨vs,e,r⟩:=h;exact ⟨vs,e,r.pass s⟩
 | dic kvs=>
  obtain ⟨vs,e,r⟩:=h
  refine ⟨vs,e,?_⟩
  clear e
  induction r with
  | nil=>exact .nil
  | cons a t ih=>exact .cons ⟨a.1,a.2.pass s⟩ ih
 | dead=>exact h
structure zbf (K:W.Frag) (ι:Io) (H:Hp) (h:Hh):Prop where
 len:h.length=ι.c.length
 inj: ∀ (m n:Nat) (a:Addr),ι.c[m]? = some (some a)->ι.c[n]? = some (some a)->m=n
 at_: ∀ (n:Nat) (a:Addr) (c:C),ι.c[n]? = some (some a)->h[n]? = some c-> ∃ o,H a=some o/\CO K ι H c o
 dead: ∀ (n:Nat),ι.c[n]? = some none->h[n]? = some .dead
 hidt: ∀ a∈ι.x,(∃ o,H a=some o)/\some a∉ι.c
noncomputable abbrev Sd:=List (Option D)
def zcH (K:W.Frag) (ι:Io) (H:Hp) (sd:Sd) (σ:L2.St):Prop:=sd.length=σ.length/\ ∀ (i:Nat) (d:D),sd[i]? = some (some d)-> ∃ v,σ[i]? = some (some v)/\Rel K ι H d v
theorem zcH.pass {sd:Sd} {σ:L2.St} (s:Pass ι H ι' H') (h:zcH K ι H sd σ):zcH K ι' H' sd σ:=⟨h.1,fun i d e=>let ⟨v,h1,h2⟩:=h.2 i d e;⟨v,h1,h2.pass s⟩⟩
theorem zcH.step {sd:Sd} {σ:L2.St} (s:zce ι H ι' H') (h:zcH K ι H sd σ):zcH K ι' H' sd σ:=⟨h.1,fun i d e=>let ⟨v,h1,h2⟩:=h.2 i d e;⟨v,h1,h2.step s⟩⟩
theorem zcH.set {sd:Sd} {σ:L2.St} {d:D} {v:V} (h:zcH K ι H sd σ) (r:Rel K ι H d v) (i:Nat):zcH K ι H (sd.set i (some d)) (σ.set i (some v)):=by
 refine ⟨by rw [qaI,qaI];exact h.1,fun j d' e=> ?_⟩
 by_cases hij:i=j
 ·subst hij
  by_cases hl:i<sd.length
  ·rw [qai hl] at e
   cases e
   exact ⟨v,by rw [qai (by rw [<- h.1];exact hl)],r⟩
  ·rw [List.getElem?_eq_none (by rw [qaI];omega)] at e
   cases e
 ·rw [qao hij] at e ⊢
  exact h.2 j d' e
theorem zcH.skip {sd:Sd} {σ:L2.St} {o:Option V} (h:zcH K ι H sd σ) (i:Nat) (hn:sd[i]? = some none):zcH K ι H sd (σ.set i o):=by
 refine ⟨by rw [qaI];exact h.1,fun j d' e=> ?_⟩
 by_cases hij:i=j
 ·subst hij;rw [hn] at e;cases e
 ·rw [qao hij];exact h.2 j d' e
end
noncomputable abbrev St:=L2.St
noncomputable abbrev XE:=String->Hp->Prop
def Fin {α:Type} (K:W.Frag) (E:XE) (ι:Io) (H:Hp) (r:R α) (P:α->Io->Hp->Prop):Prop:=match r with
 | .ok a h'=> ∀ ι' H',zce ι H ι' H'->zbf K ι' H' h'->P a ι' H'
 | .exc c h'=> ∀ ι' H',zce ι H ι' H'->zbf K ι' H' h'->E c H'
 | .bad=>False
section
variable {α β:Type} {K:W.Frag} {E:XE} {ι ι':Io} {H H':Hp}
theorem Fin.step {r:R α} {P:α->Io->Hp->Prop} (s:zce ι H ι' H') (h:Fin K E ι H r P):Fin K E ι' H' r P:=by
 cases r with
 | ok a h'=>exact fun ι2 H2 t hr=>h ι2 H2 (s.trans t) hr
 | exc c h'=>exact fun ι2 H2 t hr=>h ι2 H2 (s.trans t) hr
 | bad=>exact h
theorem Fin.mono {r:R α} {P P':α->Io->Hp->Prop} (h:Fin K E ι H r P) (m: ∀ a ι' H',P a ι' H'->P' a ι' H'):Fin K E ι H r P':=by
 cases r with
 | ok a h'=>exact fun ι2 H2 t hr=>m _ _ _ (h ι2 H2 t hr)
 | exc c h'=>exact h
 | bad=>exact h
theorem Fin.bind {m:M α} {f:α->M β} {h:Hh} {P:β->Io->Hp->Prop} {P':α->Io->Hp->Prop} (q:Fin K E ι H ((m>>=f) h) P)
  (k: ∀ a h' ι' H',m h= .ok a h'->zce ι H ι' H'->zbf K ι' H' h'->Fin K E ι' H' (f a h') P->P' a ι' H'):Fin K E ι H (m h) P':=by
 have q':Fin K E ι H (M.bind m f h) P:=q
 unfold M.bind at q'
 cases e:m h with
 | ok a h'=>
  rw [e] at q'
  intro ι' H' s hr
  exact k a h' ι' H' e s hr (Fin.step s q')
 | exc c h'=>rw [e] at q';exact q'
 | bad=>rw [e] at q';exact q'
theorem Fin.out {a:α} {h:Hh} {P:α->Io->Hp->Prop} (hr:zbf K ι H h) (q:Fin K E ι H ((pure a:M α) h) P):P a ι H:=q ι H (zce.refl _ _) hr
end
noncomputable def zjJ (K:W.Frag) (E:XE) (f:Sd->M D):TE:=fun σ H Q=> ∃ ι h sd,zcH K ι H sd σ/\zbf K ι H h/\Fin K E ι H (f sd h) fun d ι' H'=> ∀ v,Rel K ι' H' d v->Q v H'
noncomputable def zgJ (K:W.Frag) (E:XE) (f:Sd->M Bool):TT:=fun σ H Q=> ∃ ι h sd,zcH K ι H sd σ/\zbf K ι H h/\Fin K E ι H (f sd h) fun b ι' H'=>Q b H'
noncomputable def ztX (K:W.Frag) (E:XE) (f:Sd->M (List D)):TA:=fun σ H Q=> ∃ ι h sd,zcH K ι H sd σ/\zbf K ι H h/\Fin K E ι H (f sd h) fun ds ι' H'=> ∀ vs,zar K ι' H' ds vs->Q vs H'
noncomputable abbrev SE (X:Cx) (E:XE) (e:Expr) (f:Sd->M D):Prop:=PE X e (zjJ X.K E f)
noncomputable abbrev ST (X:Cx) (E:XE) (e:Expr) (f:Sd->M Bool):Prop:=PT X e (zgJ X.K E f)
noncomputable abbrev SA (X:Cx) (E:XE) (es:List Expr) (f:Sd->M (List D)):Prop:=PA X es (ztX X.K E f)
noncomputable def zd7 (K:W.Frag) (E:XE) (F:D->D->M D):R2:=fun x y H Q=> ∃ ι h d1 d2,Rel K ι H d1 x/\Rel K ι H d2 y/\zbf K ι H h/\Fin K E ι H (F d1 d2 h) fun d ι' H'=> ∀ v,Rel K ι' H' d v->Q v H'
noncomputable def zhX (K:W.Frag) (E:XE) (F:List D->M D):List V->Hp->VK->Prop:=fun xs H Q=> ∃ ι h ds,zar K ι H ds xs/\zbf K ι H h/\Fin K E ι H (F ds h) fun d ι' H'=> ∀ v,Rel K ι' H' d v->Q v H'
theorem PE.imp {X:Cx} {e:Expr} {t t':TE} (h:PE X e t) (m: ∀ σ H Q,t' σ H Q->t σ H Q):PE X e t':=fun pins s σ H Q I q=>h pins s σ H Q I (m _ _ _ q)
theorem PT.imp {X:Cx} {e:Expr} {t t':TT} (h:PT X e t) (m: ∀ σ H Q,t' σ H Q->t σ H Q):PT X e t':=fun pins s σ H Q I q=>h pins s σ H Q I (m _ _ _ q)
theorem PA.imp {X:Cx} {e:List Expr} {t t':TA} (h:PA X e t) (m: ∀ σ H Q,t' σ H Q->t σ H Q):PA X e t':=fun pos pins s σ H Q I q=>h pos pins s σ H Q I (m _ _ _ q)
theorem OpR.imp {X:Cx} {f:Value->Value->Sem Value} {r r':R2} (h:OpR X f r) (m: ∀ x y H Q,r' x y H Q->r x y H Q):OpR X f r':=fun pins s σ H x y v u Q I rx ry q=>h pins s σ H x y v u Q I rx ry (m _ _ _ _ q)
theorem zaM.imp {X:Cx} {f:Value} {r r':List V->Hp->VK->Prop} (h:zaM X f r) (m: ∀ xs H Q,r' xs H Q->r xs H Q):zaM X f r':=by
 intro pins s σ H xs us Q I rx q
 exact h pins s σ H xs us Q I rx (m _ _ _ q)
theorem IxR.imp {X:Cx} {r r':R2} (h:IxR X r) (m: ∀ x y H Q,r' x y H Q->r x y H Q):IxR X r':=by
 intro value slice pins s σ H x y v u Q I rx ry q hs
 exact h value slice pins s σ H x y v u Q I rx ry (m _ _ _ _ q) hs
theorem MtM.imp {X:Cx} {id:String} {r r':V->List V->Hp->VK->Prop} (h:MtM X id r) (m: ∀ x xs H Q,r' x xs H Q->r x xs H Q):MtM X id r':=fun pins s σ H x xs v us Q I rx rs q=>h pins s σ H x xs v us Q I rx rs (m _ _ _ _ q)
theorem SlR.imp {X:Cx} {r r':V->Option Int->Option Int->Hp->VK->Prop} (h:SlR X r) (m: ∀ x l u H Q,r' x l u H Q->r x l u H Q):SlR X r':=fun pins s σ H x v vl vu lo hi sl Q I rx hs pl pu q=>h pins s σ H x v vl vu lo hi sl Q I rx hs pl pu (m _ _ _ _ _ q)
theorem zpY.imp {X:Cx} {r r':zqL} (h:zpY X r) (m: ∀ o i v H Q,r' o i v H Q->r o i v H Q):zpY X r':=fun pins s σ H o i v ov iv u Q I ro ri rv q=>h pins s σ H o i v ov iv u Q I ro ri rv (m _ _ _ _ _ q)
theorem PI.imp {X:Cx} {tg iter:Expr} {t t':TI} (h:PI X tg iter t) (m: ∀ σ H Q,t' σ H Q->t σ H Q):PI X tg iter t':=fun pins s σ H Q I q=>h pins s σ H Q I (m _ _ _ q)
theorem PG.imp {X:Cx} {tg:Expr} {t t':TG} (h:PG X tg t) (m: ∀ v σ H Q,t' v σ H Q->t v σ H Q):PG X tg t':=fun pins s σ H v u Q I r q=>h pins s σ H v u Q I r (m _ _ _ _ q)
theorem PS.imp {X:Cx} {st:Stmt} {t t':TS} (h:PS X st t) (m: ∀ D σ H,t' D σ H->t D σ H):PS X st t':=fun pins s σ H D I q=>h pins s σ H D I (m _ _ _ q)
theorem PSs.imp {X:Cx} {st:List Stmt} {t t':TS} (h:PSs X st t) (m: ∀ D σ H,t' D σ H->t D σ H):PSs X st t':=fun pins s σ H D I q=>h pins s σ H D I (m _ _ _ q)
section
variable {X:Cx} {E:XE} {a b e:Expr} {es:List Expr} {pos:Pos} {fa fb:Sd->M D}
theorem te2 {K:W.Frag} {F:D->D->M D} {r:R2} (hr: ∀ x y H Q,zd7 K E F x y H Q->r x y H Q) (σ:St) (H:Hp) (Q:VK) (q:zjJ K E (fun sd=>do let x<-fa sd;let y<-fb sd;F x y) σ H Q):tOp r (zjJ K E fa) (zjJ K E fb) σ H Q:=by
 obtain ⟨ι,h,sd,L,hh,q⟩:=q
 refine ⟨ι,h,sd,L,hh,Fin.bind q fun d1 h1 ι1 H1 e1 s1 hr1 q1 v r1=> ?_⟩
 refine ⟨ι1,h1,sd,L.step s1,hr1,Fin.bind q1 fun d2 h2 ι2 H2 e2 s2 hr2 q2 w r2=> ?_⟩
 exact hr _ _ _ _ ⟨ι2,h2,d1,d2,r1.step s2,r2,hr2,q2⟩
theorem zs2 {op:Operator} {F:D->D->M D} (ho:OpR X (binaryOp op) (zd7 X.K E F)) (ha:SE X E a fa) (hb:SE X E b fb):SE X E (.BinOp a op b pos) (fun sd=>do let x<-fa sd;let y<-fb sd;F x y):=
 PE.imp (zs9 ho ha hb) (te2 fun _ _ _ _ q=>q)
theorem zp9 {op:CmpOp} {F:D->D->M D} (ho:OpR X (compareOp op) (zd7 X.K E F)) (ha:SE X E a fa) (hb:SE X E b fb) (hm:behindInMarks op b=false):SE X E (.Compare a [op] [b] pos) (fun sd=>do let x<-fa sd;let y<-fb sd;F x y):=
 PE.imp (zoI ho ha hb hm) (te2 fun _ _ _ _ q=>q)
theorem zs8 {F:D->D->M D} (ho:IxR X (zd7 X.K E F)) (ha:SE X E a fa) (hb:SE X E b fb) (hs:zig b):SE X E (.Subscript a b pos) (fun sd=>do let x<-fa sd;let y<-fb sd;F x y):=
 PE.imp (zsS ho ha hb hs) (te2 fun _ _ _ _ q=>q)
noncomputable def zc2:D->M Bool
 | .bl b=>pure b
 | _=>M.bad
theorem zfb {K:W.Frag} {f:Sd->M D} (σ:St) (H:Hp) (Q:Bool->Hp->Prop) (q:zgJ K E (fun sd=>do let x<-f sd;zc2 x) σ H Q):(zjJ K E f) σ H fun x H1=> ∃ c,x= .bl c/\Q c H1:=by
 obtain ⟨ι,h,sd,L,hh,q⟩:=q
 refine ⟨ι,h,sd,L,hh,Fin.bind q fun d1 h1 ι1 H1 e1 s1 hr1 q2 v r1=> ?_⟩
 cases d1 with
 | bl b=>simp only [Rel] at r1;exact ⟨b,r1,Fin.out hr1 q2⟩
 | _=>exact qa0 q2
theorem zrf {op:CmpOp} {F:D->D->M D} (ho:OpR X (compareOp op) (zd7 X.K E F)) (ha:SE X E a fa) (hb:SE X E b fb) (hm:behindInMarks op b=false):
  ST X E (.Compare a [op] [b] pos) (fun sd=>do let z<-(do let x<-fa sd;let y<-fb sd;F x y);zc2 z):=by
 refine PT.imp (zoG ho ha hb hm) fun σ H Q q=> ?_
 have q1:=zfb (f:=fun sd=>do let x<-fa sd;let y<-fb sd;F x y) σ H Q q
 exact te2 (fun _ _ _ _ q=>q) σ H _ q1
theorem zqO {f:Sd->M D} (h:SE X E e f) (he: ∀ whole,isTrue e X.env whole=(do let v<-whole;standAt e.pos;holding [v] (truthy v)):=by intro _;rfl):ST X E e (fun sd=>do let x<-f sd;zc2 x):=
 PT.imp (zrQ h he) fun σ H Q q=>zfb σ H Q q
theorem zrL {t:Sd->M Bool} (ha:ST X E a t):ST X E (.UnaryOp .Not a pos) (fun sd=>do let c<-t sd;pure (!c)):=by
 refine PT.imp (zq8 ha) fun σ H Q ⟨ι,h,sd,L,hh,q⟩=>⟨ι,h,sd,L,hh,Fin.bind q fun c h1 ι1 H1 e1 s1 hr1 q1=> ?_⟩
 exact Fin.out hr1 q1
theorem zpC {t:Sd->M Bool} (ha:ST X E a t):PW X (.BoolOp .And [a] pos) (zgJ X.K E t):=pw_and1 ha
theorem zqa {t:Sd->M Bool} (ha:ST X E a t):PW X (.BoolOp .Or [a] pos) (zgJ X.K E t):=pw_or1 ha
theorem PW.imp {t t':TT} (h:PW X e t) (m: ∀ σ H Q,t' σ H Q->t σ H Q):PW X e t':=fun whole pins s σ H Q I q=>h whole pins s σ H Q I (m _ _ _ q)
theorem zqf {zbs:List Expr} {t u:Sd->M Bool} (ha:ST X E a t) (hb:PW X (.BoolOp .And (b::zbs) pos) (zgJ X.K E u)):PW X (.BoolOp .And (a::b::zbs) pos) (zgJ X.K E fun sd=>do let c<-t sd;if c=true then u sd else pure false):=by
 refine PW.imp (pw_and ha hb) fun σ H Q ⟨ι,h,sd,L,hh,q⟩=>⟨ι,h,sd,L,hh,Fin.bind q fun c h1 ι1 H1 e1 s1 hr1 q1=> ?_⟩
 cases c with
 | true=>exact zp1 ⟨ι1,h1,sd,L.step s1,hr1,q1⟩
 | false=>exact zp0 (Fin.out hr1 q1)
theorem zsN {zbs:List Expr} {t u:Sd->M Bool} (ha:ST X E a t) (hb:PW X (.BoolOp .Or (b::zbs) pos) (zgJ X.K E u)):PW X (.BoolOp .Or (a::b::zbs) pos) (zgJ X.K E fun sd=>do let c<-t sd;if c=true then pure true else u sd):=by
 refine PW.imp (pw_or ha hb) fun σ H Q ⟨ι,h,sd,L,hh,q⟩=>⟨ι,h,sd,L,hh,Fin.bind q fun c h1 ι1 H1 e1 s1 hr1 q1=> ?_⟩
 cases c with
 | false=>exact zp0 ⟨ι1,h1,sd,L.step s1,hr1,q1⟩
 | true=>exact zp1 (Fin.out hr1 q1)
theorem zpH {op:BoolOp} {vs:List Expr} {t:Sd->M Bool} (h:PW X (.BoolOp op vs pos) (zgJ X.K E t)):ST X E (.BoolOp op vs pos) t:=h.pt
theorem zq5 {op:BoolOp} (h:SE X E a fa):SE X E (.BoolOp op [a] pos) fa:=zqK h
theorem zr5 {zbs:List Expr} (ha:SE X E a fa) (hb:SE X E (.BoolOp .And (b::zbs) pos) fb):SE X E (.BoolOp .And (a::b::zbs) pos) (fun sd=>do let c<-(do let x<-fa sd;zc2 x);if c=true then fb sd else pure (.bl false)):=by
 refine PE.imp (zsa ha hb) fun σ H Q ⟨ι,h,sd,L,hh,q⟩=> ?_
 have q1:=zfb (K:=X.K) (E:=E) (f:=fa) σ H (fun c H1=>if c=true then zjJ X.K E fb σ H1 Q else Q (.bl false) H1) ⟨ι,h,sd,L,hh,Fin.bind q fun c h1 ι1 H1 e1 s1 hr1 q1=> ?_⟩
 ·exact q1
 ·cases c with
  | true=>exact zp1 ⟨ι1,h1,sd,L.step s1,hr1,q1⟩
  | false=>exact zp0 (Fin.out hr1 q1 _ (by simp [Rel]))
theorem zs6 {zbs:List Expr} (ha:SE X E a fa) (hb:SE X E (.BoolOp .Or (b::zbs) pos) fb):SE X E (.BoolOp .Or (a::b::zbs) pos) (fun sd=>do let c<-(do let x<-fa sd;zc2 x);if c=true then pure (.bl true) else fb sd):=by
 refine PE.imp (ztq ha hb) fun σ H Q ⟨ι,h,sd,L,hh,q⟩=> ?_
 have q1:=zfb (K:=X.K) (E:=E) (f:=fa) σ H (fun c H1=>if c=true then Q (.bl true) H1 else zjJ X.K E fb σ H1 Q) ⟨ι,h,sd,L,hh,Fin.bind q fun c h1 ι1 H1 e1 s1 hr1 q1=> ?_⟩
 ·exact q1
 ·cases c with
  | false=>exact zp0 ⟨ι1,h1,sd,L.step s1,hr1,q1⟩
  | true=>exact zp1 (Fin.out hr1 q1 _ (by simp [Rel]))
theorem zrR (ha:SE X E a fa):SE X E (.UnaryOp .Not a pos) (fun sd=>do let c<-(do let x<-fa sd;zc2 x);pure (.bl (!c))):=by
 refine PE.imp (zqp ha) fun σ H Q ⟨ι,h,sd,L,hh,q⟩=> ?_
 have q1:=zfb (K:=X.K) (E:=E) (f:=fa) σ H (fun c H1=>Q (.bl (!c)) H1) ⟨ι,h,sd,L,hh,Fin.bind q fun c h1 ι1 H1 e1 s1 hr1 q1=> ?_⟩
 ·exact q1
 ·exact Fin.out hr1 q1 _ (by simp [Rel])
noncomputable def zaf (i:Nat):Sd->M D:=fun sd=>match sd[i]? with
 | some (some d)=>pure d
 | _=>M.bad
theorem zq4 (i:Nat) {x:Str} (hN:X.N[i]? = some x) (hv:Vis X.env.scope x) (hd:(x==("__debug__":Str))=false:=by decide) (hcd:(x==("__classdict__":Str))=false:=by decide):SE X E (.Name x pos) (zaf i):=by
 refine PE.imp (zn0 hN hv hd hcd) fun σ H Q ⟨ι,h,sd,L,hh,q⟩=> ?_
 unfold zaf at q
 cases e:sd[i]? with
 | none=>rw [e] at q;exact qa0 q
 | some o=>
  rw [e] at q
  cases o with
  | none=>exact qa0 q
  | some d=>
   obtain ⟨v,e1,r⟩:=L.2 i d e
   exact ⟨v,e1,Fin.out hh q v r⟩
theorem zgt {K:W.Frag} {d:D} {v:V} (r: ∀ ι H,Rel K ι H d v) (σ:St) (H:Hp) (Q:VK) (q:zjJ K E (fun _=>pure d) σ H Q):tC v σ H Q:=by
 obtain ⟨ι,h,sd,L,hh,q⟩:=q
 exact Fin.out hh q v (r _ _)
theorem zqg {i:Int} {j:Nat}:SE X E (.Constant (.int i) j pos) (fun _=>pure (.int i)):=PE.imp zqG (zgt fun _ _=>by simp [Rel])
theorem zsW {i:Bool} {j:Nat}:SE X E (.Constant (.bool i) j pos) (fun _=>pure (.bl i)):=PE.imp ztF (zgt fun _ _=>by simp [Rel])
theorem zmy {x:Str} {i:Int} {t:Tok} (hg:Gl X x) (hm:X.mg x=some (.int i t)) (hd:(x==("__debug__":Str))=false:=by decide):SE X E (.Name x pos) (fun _=>pure (.int i)):=PE.imp (zoD (v:= .int i) hg hm ⟨t,rfl⟩ hd) (zgt fun _ _=>by simp [Rel])
theorem zsj:SA X E [] (fun _=>pure []):=PA.imp zcZ fun σ H Q ⟨ι,h,sd,L,hh,q⟩=>Fin.out hh q [] zar.nil
theorem zpf {fs:Sd->M (List D)} (ha:SE X E e fa) (hr:SA X E es fs) (hs:starEach (e::es) X.env=(false,eval e X.env)::starEach es X.env:=by rfl):SA X E (e::es) (fun sd=>do let x<-fa sd;let r<-fs sd;pure (x::r)):=by
 refine PA.imp (zbK ha hr hs) fun σ H Q ⟨ι,h,sd,L,hh,q⟩=>⟨ι,h,sd,L,hh,Fin.bind q fun d h1 ι1 H1 e1 s1 hr1 q1 v rv=> ?_⟩
 refine ⟨ι1,h1,sd,L.step s1,hr1,Fin.bind q1 fun ds h2 ι2 H2 e2 s2 hr2 q2 vs rvs=> ?_⟩
 exact Fin.out hr2 q2 _ (zar.cons (rv.step s2) rvs)
end
theorem zbf.nin {K:W.Frag} {ι:Io} {H:Hp} {h:Hh} (hr:zbf K ι H h) {p:Addr} (hp:H p=none): ¬ι.Has p:=fun z=>by
 rcases z with z | z
 ·obtain ⟨n,hn⟩:=List.mem_iff_getElem?.mp z
  have hl:n<h.length:=by rw [hr.len];exact (qac.mp hn).1
  obtain ⟨o,e,_⟩:=hr.at_ n p h[n] hn (by simp [hl])
  rw [hp] at e
  cases e
 ·obtain ⟨⟨o,e⟩,_⟩:=hr.hidt p z
  rw [hp] at e
  cases e
theorem zbf.laidS {K:W.Frag} {ι:Io} {H:Hp} {h:Hh} (hr:zbf K ι H h) {p:Addr} {o:HO} (hp:H p=none):zce ι H ι (upd H p o):=
 ⟨fun _ _ h=> .inl h,fun _ h=> .inl h,rfl,fun a ha=>zaC fun z=>hr.nin hp (.inr (z▸ha)),fun b o' h _=>by rw [zaC (zaV h hp)];exact h⟩
theorem zbf.laid {K:W.Frag} {ι:Io} {H:Hp} {h:Hh} {p:Addr} {o:HO} (hr:zbf K ι H h) (hp:H p=none):zbf K ι (upd H p o) h:=
 ⟨hr.len,hr.inj,fun n a c hn hc=>by
   obtain ⟨o',e2,e3⟩:=hr.at_ n a c hn hc
   exact ⟨o',by rw [zaC (zaV e2 hp)];exact e2,e3.pass (hr.laidS hp).pass⟩,hr.dead,fun a ha=>⟨by rw [zaC (show a≠p from fun z=>hr.nin hp (.inr (z▸ha)))];exact (hr.hidt a ha).1,(hr.hidt a ha).2⟩⟩
noncomputable def fits (n:Nat):M Unit:=if n<=sizeLine then pure () else M.bad
theorem Fin.fits {α:Type} {K:W.Frag} {E:XE} {ι:Io} {H:Hp} {n:Nat} {f:M α} {h:Hh} {P:α->Io->Hp->Prop} (q:Fin K E ι H ((do L3.fits n;f) h) P):n<=sizeLine/\Fin K E ι H (f h) P:=by
 have q':Fin K E ι H (M.bind (L3.fits n) (fun _=>f) h) P:=q
 unfold M.bind L3.fits at q'
 by_cases hn:n<=sizeLine
 ·rw [qa4 hn] at q'
  exact ⟨hn,q'⟩
 ·rw [qa5 hn] at q'
  exact qa0 q'
section
variable {X:Cx} {E:XE} {es:List Expr} {pos:Pos} {fs:Sd->M (List D)}
theorem zoo {K:W.Frag} {ι:Io} {H:Hp} {h:Hh} {ds:List D} {vs:List V} {Q:VK} (hr:zbf K ι H h) (rl:zar K ι H ds vs) (q:Fin K E ι H ((pure (.tup ds):M D) h) fun d ι' H'=> ∀ v,Rel K ι' H' d v->Q v H') {p:Addr} (hp:H p=none):Q (.ref p) (upd H p (.tup vs)):=
 q ι _ (hr.laidS hp) (hr.laid hp) _ (by
   simp only [Rel]
   exact ⟨p,vs,rfl,⟨za0,hr.nin hp⟩,rl.step (hr.laidS hp)⟩)
theorem zpG {K:W.Frag} {ι:Io} {H:Hp} {h:Hh} {ds:List D} {vs:List V} {Q:VK} (hr:zbf K ι H h) (rl:zar K ι H ds vs) (q:Fin K E ι H ((pure (.lst ds):M D) h) fun d ι' H'=> ∀ v,Rel K ι' H' d v->Q v H') {p:Addr} (hp:H p=none):Q (.ref p) (upd H p (.lst vs)):=
 q ι _ (hr.laidS hp) (hr.laid hp) _ (by
   simp only [Rel]
   exact ⟨p,vs,rfl,⟨za0,hr.nin hp⟩,rl.step (hr.laidS hp)⟩)
noncomputable def zdD (ds:List D):M D:=fun h=> .ok (.cel h.length) (h++[.lst ds])
theorem ztd {K:W.Frag} {ι:Io} {H:Hp} {h:Hh} {c0:C} {o0:HO} {Q:VK} (hr:zbf K ι H h) (co:CO K ι H c0 o0) (q:Fin K E ι H (.ok (.cel h.length) (h++[c0])) fun d ι' H'=> ∀ v,Rel K ι' H' d v->Q v H') {p:Addr} (hp:H p=none):Q (.ref p) (upd H p o0):=by
 have hlen:=hr.len
 have nh:=hr.nin hp
 have st:zce ι H ⟨ι.c++[some p],ι.x⟩ (upd H p o0):=by
  refine ⟨fun n o h=> .inl ?_,fun a h=> ?_,rfl,fun a ha=>zaC fun z=>nh (.inr (z▸ha)),fun b o' h _=>by rw [zaC (zaV h hp)];exact h⟩
  ·show (ι.c++[some p])[n]? = _
   rw [qad (qac.mp h).1];exact h
  ·rcases qaK.mp h with h | h
   ·exact .inl h
   ·simp at h;subst h;exact .inr hp
 have at_: ∀ (n:Nat) (a:Addr),(ι.c++[some p])[n]? = some (some a)->(ι.c[n]? = some (some a))\/(n=ι.c.length/\a=p):=fun n a h=>by
  by_cases hl:n<ι.c.length
  ·rw [qad hl] at h;exact .inl h
  ·rw [qaa (by omega)] at h
   have:n - ι.c.length=0:=by
    cases z:n - ι.c.length with
    | zero=>rfl
    | succ k=>rw [z] at h;simp at h
   rw [this] at h
   simp at h
   exact .inr ⟨by omega,h.symm⟩
 refine q _ _ st ⟨?_,fun m n a h1 h2=> ?_,fun n a c h1 h2=> ?_,fun n h1=> ?_,fun a ha=>⟨?_,fun z=> ?_⟩⟩ _ ?_
 ·show (h++[c0]).length=(ι.c++[some p]).length
  rw [qav,qav,hlen];rfl
 ·rcases at_ m a h1 with z1 | ⟨z1,z1'⟩<;>rcases at_ n a h2 with z2 | ⟨z2,z2'⟩
  ·exact hr.inj m n a z1 z2
  ·subst z2';exact absurd (.inl (List.mem_of_getElem? z1)) nh
  ·subst z1';exact absurd (.inl (List.mem_of_getElem? z2)) nh
  ·rw [z1,z2]
 ·rcases at_ n a h1 with z1 | ⟨z1,z1'⟩
  ·rw [qad (by rw [hlen];exact (qac.mp z1).1)] at h2
   obtain ⟨o',e2,e3⟩:=hr.at_ n a c z1 h2
   exact ⟨o',by rw [zaC (zaV e2 hp)];exact e2,e3.pass st.pass⟩
  ·subst z1 z1'
   rw [<- hlen,qaa (qaV _)] at h2
   simp at h2
   subst h2
   exact ⟨o0,za0,co.pass st.pass⟩
 ·have h1:(ι.c++[some p])[n]? = some none:=h1
  by_cases hl:n<ι.c.length
  ·rw [qad hl] at h1
   rw [qad (by rw [hlen];exact hl)]
   exact hr.dead n h1
  ·rw [qaa (by omega)] at h1
   cases z:n - ι.c.length with
   | zero=>rw [z] at h1;simp at h1
   | succ k=>rw [z] at h1;simp at h1
 ·rw [zaC (show a≠p from fun z=>nh (.inr (z▸ha)))]
  exact (hr.hidt a ha).1
 ·rcases qaK.mp z with z | z
  ·exact (hr.hidt a ha).2 z
  ·simp at z;subst z;exact nh (.inr ha)
 ·simp only [Rel]
  refine ⟨p,rfl,.inl ?_⟩
  show (ι.c++[some p])[h.length]? = _
  rw [hlen,qaa (qaV _)]
  simp
theorem ztZ {K:W.Frag} {ι:Io} {H:Hp} {h:Hh} {ds:List D} {vs:List V} {Q:VK} (hr:zbf K ι H h) (rl:zar K ι H ds vs) (q:Fin K E ι H (zdD ds h) fun d ι' H'=> ∀ v,Rel K ι' H' d v->Q v H') {p:Addr} (hp:H p=none):Q (.ref p) (upd H p (.lst vs)):=
 ztd hr (c0:= .lst ds) ⟨vs,rfl,rl⟩ q hp
theorem zrS {x1} (h:SA X E es fs):SE X E (.Tuple es x1 pos) (fun sd=>do let ds<-fs sd;fits ds.length;pure (.tup ds)):=by
 refine PE.imp (zq2 h) fun σ H Q ⟨ι,h,sd,L,hh,q⟩=>⟨ι,h,sd,L,hh,Fin.bind q fun ds h1 ι1 H1 e1 s1 hr1 q1 vs rvs=> ?_⟩
 obtain ⟨z,q2⟩:=Fin.fits q1
 exact ⟨by rw [<- rvs.length];exact z,fun p hp=>zoo hr1 rvs q2 hp⟩
theorem zrH (h:SA X E es fs):SE X E (.List es pos) (fun sd=>do let ds<-fs sd;fits ds.length;pure (.lst ds)):=by
 refine PE.imp (znN h) fun σ H Q ⟨ι,h,sd,L,hh,q⟩=>⟨ι,h,sd,L,hh,Fin.bind q fun ds h1 ι1 H1 e1 s1 hr1 q1 vs rvs=> ?_⟩
 obtain ⟨z,q2⟩:=Fin.fits q1
 exact ⟨by rw [<- rvs.length];exact z,fun p hp=>zpG hr1 rvs q2 hp⟩
theorem zoU (h:SA X E es fs):SE X E (.List es pos) (fun sd=>do let ds<-fs sd;fits ds.length;zdD ds):=by
 refine PE.imp (znN h) fun σ H Q ⟨ι,h,sd,L,hh,q⟩=>⟨ι,h,sd,L,hh,Fin.bind q fun ds h1 ι1 H1 e1 s1 hr1 q1 vs rvs=> ?_⟩
 obtain ⟨z,q2⟩:=Fin.fits q1
 exact ⟨by rw [<- rvs.length];exact z,fun p hp=>ztZ hr1 rvs q2 hp⟩
end
inductive Out where
 | nx (sd:Sd) | rt (d:D) | bk (sd:Sd) | ct (sd:Sd)
noncomputable def zgX (K:W.Frag) (D0:zpZ):Out->Io->Hp->Prop
 | .nx sd',ι',H'=> ∀ σ',zcH K ι' H' sd' σ'->D0.nx σ' H'
 | .rt d,ι',H'=> ∀ v,Rel K ι' H' d v->D0.rt v H'
 | .bk sd',ι',H'=> ∀ σ',zcH K ι' H' sd' σ'->D0.bk σ' H'
 | .ct sd',ι',H'=> ∀ σ',zcH K ι' H' sd' σ'->D0.ct σ' H'
noncomputable def ztY (K:W.Frag) (E:XE) (G:Sd->M Out):TS:=fun D0 σ H=> ∃ ι h sd,zcH K ι H sd σ/\zbf K ι H h/\Fin K E ι H (G sd h) (zgX K D0)
noncomputable abbrev SS (X:Cx) (E:XE) (st:Stmt) (G:Sd->M Out):Prop:=PS X st (ztY X.K E G)
noncomputable abbrev SSs (X:Cx) (E:XE) (st:List Stmt) (G:Sd->M Out):Prop:=PSs X st (ztY X.K E G)
noncomputable def zdH (o:Out) (g:Sd->M Out):M Out:=match o with
 | .nx sd=>g sd
 | o=>pure o
section
variable {X:Cx} {E:XE} {pos:Pos}
theorem zrC:SSs X E [] (fun sd=>pure (.nx sd)):=PSs.imp zpQ fun D0 σ H ⟨ι,h,sd,L,hh,q⟩=>Fin.out hh q σ L
theorem zoX {st:Stmt} {zbs:List Stmt} {g g':Sd->M Out} (h1:SS X E st g) (h2:SSs X E zbs g'):SSs X E (st::zbs) (fun sd=>do let o<-g sd;zdH o g'):=by
 refine PSs.imp (zna h1 h2) fun D0 σ H ⟨ι,h,sd,L,hh,q⟩=>⟨ι,h,sd,L,hh,Fin.bind q fun o h1 ι1 H1 e1 s1 hr1 q1=> ?_⟩
 cases o with
 | nx sd'=>exact fun σ' L'=>⟨ι1,h1,sd',L',hr1,q1⟩
 | rt d=>exact Fin.out (E:=E) (P:=zgX X.K D0) hr1 q1
 | bk sd'=>exact Fin.out (E:=E) (P:=zgX X.K D0) hr1 q1
 | ct sd'=>exact Fin.out (E:=E) (P:=zgX X.K D0) hr1 q1
theorem zrd {st:Stmt} {g:Sd->M Out} (h1:SS X E st g):SSs X E [st] g:=zpW h1
theorem zrb {e:Expr} {f:Sd->M D} (he:SE X E e f) (hs:swapsWith e none pos.line X.env=pure false:=by rfl):SS X E (.Expr e pos) (fun sd=>do let _<-f sd;pure (.nx sd)):=by
 refine PS.imp (zph he hs) fun D0 σ H ⟨ι,h,sd,L,hh,q⟩=>⟨ι,h,sd,L,hh,Fin.bind q fun d h1 ι1 H1 e1 s1 hr1 q1 v rv=> ?_⟩
 exact Fin.out hr1 q1 σ (L.step s1)
theorem ztp {e:Expr} {f:Sd->M D} (he:SE X E e f):SS X E (.Return (some e) pos) (fun sd=>do let d<-f sd;pure (.rt d)):=by
 refine PS.imp (zr1 he) fun D0 σ H ⟨ι,h,sd,L,hh,q⟩=>⟨ι,h,sd,L,hh,Fin.bind q fun d h1 ι1 H1 e1 s1 hr1 q1 v rv=> ?_⟩
 exact Fin.out hr1 q1 v rv
theorem zug {c:Expr} {a b:List Stmt} {t:Sd->M Bool} {g g':Sd->M Out} (hc:ST X E c t) (ha:SSs X E a g) (hb:SSs X E b g'):SS X E (.If c a b pos) (fun sd=>do let c<-t sd;if c=true then g sd else g' sd):=by
 refine PS.imp (zsG hc ha hb) fun D0 σ H ⟨ι,h,sd,L,hh,q⟩=>⟨ι,h,sd,L,hh,Fin.bind q fun c h1 ι1 H1 e1 s1 hr1 q1=> ?_⟩
 cases c with
 | true=>exact zp1 ⟨ι1,h1,sd,L.step s1,hr1,q1⟩
 | false=>exact zp0 ⟨ι1,h1,sd,L.step s1,hr1,q1⟩
noncomputable def zsC (K:W.Frag) (E:XE) (g:D->Sd->M Sd):TG:=fun v σ H Q=> ∃ ι h sd d,zcH K ι H sd σ/\zbf K ι H h/\Rel K ι H d v/\Fin K E ι H (g d sd h) fun sd' ι' H'=> ∀ σ',zcH K ι' H' sd' σ'->Q σ' H'
noncomputable def zs5 (K:W.Frag) (E:XE) (g:List D->Sd->M Sd):TGs:=fun vs σ H Q=> ∃ ι h sd ds,zcH K ι H sd σ/\zbf K ι H h/\zar K ι H ds vs/\Fin K E ι H (g ds sd h) fun sd' ι' H'=> ∀ σ',zcH K ι' H' sd' σ'->Q σ' H'
noncomputable abbrev SG (X:Cx) (E:XE) (tg:Expr) (g:D->Sd->M Sd):Prop:=PG X tg (zsC X.K E g)
noncomputable abbrev SGs (X:Cx) (E:XE) (tgs:List Expr) (g:List D->Sd->M Sd):Prop:=PGs X tgs (zs5 X.K E g)
noncomputable def zaB (i:Nat):D->Sd->M Sd:=fun d sd=>pure (sd.set i (some d))
theorem zpa (i:Nat) {x:Str} (hN:X.N.Nodup) (hi:X.N[i]? = some x) (hx:Loc X.env.scope x) (hf:X.fn x=true\/X.env.scope.names.lookup x=some .local):SG X E (.Name x pos) (zaB i):=by
 refine PG.imp (zoR hN hi hx hf) fun v σ H Q ⟨ι,h,sd,d,L,hh,r,q⟩=> ?_
 exact Fin.out hh q _ (L.set r i)
theorem PGs.imp {tgs:List Expr} {t t':TGs} (h:PGs X tgs t) (m: ∀ v σ H Q,t' v σ H Q->t v σ H Q):PGs X tgs t':=fun pins s σ H v u Q I r q=>h pins s σ H v u Q I r (m _ _ _ _ q)
noncomputable def zcg:List D->Sd->M Sd:=fun ds sd=>match ds with | []=>pure sd | _=>M.bad
noncomputable def zaz (g:D->Sd->M Sd) (gs:List D->Sd->M Sd):List D->Sd->M Sd:=fun ds sd=>match ds with
 | []=>M.bad
 | d::r=>do let sd1<-g d sd;gs r sd1
theorem zpw:SGs X E [] zcg:=by
 refine PGs.imp zoe fun v σ H Q ⟨ι,h,sd,ds,L,hh,r,q⟩=> ?_
 cases ds with
 | nil=>simp only [zar] at r;exact ⟨r,Fin.out hh q _ L⟩
 | cons d r=>exact qa0 q
theorem zmN {e:Expr} {es:List Expr} {g:D->Sd->M Sd} {gs:List D->Sd->M Sd} (h1:SG X E e g) (h2:SGs X E es gs)
  (hs:(assignEach (e::es) X.env).map (·.2)=assign e X.env::(assignEach es X.env).map (·.2):=by rfl):SGs X E (e::es) (zaz g gs):=by
 refine PGs.imp (zm7 h1 h2 hs) fun v σ H Q ⟨ι,h,sd,ds,L,hh,r,q⟩=> ?_
 cases ds with
 | nil=>exact qa0 q
 | cons d ds=>
  simp only [zar] at r
  obtain ⟨v1,vr,rfl,r1,r2⟩:=r
  refine ⟨v1,vr,rfl,ι,h,sd,d,L,hh,r1,Fin.bind q fun sd1 h1 ι1 H1 e1 s1 hr1 q1 σ1 L1=> ?_⟩
  exact ⟨ι1,h1,sd1,ds,L1,hr1,r2.step s1,q1⟩
noncomputable def zch (n:Nat) (gs:List D->Sd->M Sd):D->Sd->M Sd:=fun d sd=>match d with
 | .tup ds=>if ds.length=n then gs ds sd else M.bad
 | _=>M.bad
theorem zc0 {K:W.Frag} {ι:Io} {H:Hp} {ds:List D} {v:V} (h:Rel K ι H (.tup ds) v): ∃ a vs,v= .ref a/\SqT K H a vs/\zar K ι H ds vs:=by
 simp only [Rel] at h
 obtain ⟨a,vs,e,h1,h2⟩:=h
 exact ⟨a,vs,e,.inl (.inl h1.1),h2⟩
theorem zlW {K:W.Frag} {ι:Io} {H:Hp} {ds:List D} {v:V} (h:Rel K ι H (.scr ds) v): ∃ a vs,v= .ref a/\SqL K H a vs/\zar K ι H ds vs:=by
 simp only [Rel] at h
 obtain ⟨a,vs,e,h1,h2⟩:=h
 refine ⟨a,vs,e,?_,h2⟩
 rcases h1 with h1 | h1
 ·exact .inl h1.1
 ·rcases h1 with h1 | h1
  ·rcases h1 with h1 | ⟨o,h1⟩<;>cases h1
  ·exact .inr h1
theorem ze9 {K:W.Frag} {ι:Io} {H:Hp} {ds:List D} {v:V} (h:Rel K ι H (.lst ds) v): ∃ a vs,v= .ref a/\SqL K H a vs/\zar K ι H ds vs:=by
 simp only [Rel] at h
 obtain ⟨a,vs,e,h1,h2⟩:=h
 exact ⟨a,vs,e,.inl (.inl h1.1),h2⟩
theorem zrj {es:List Expr} {k:Nat} {gs:List D->Sd->M Sd} {n:Nat} (hc:X.calm=true) (h:SGs X E es gs)
  (hn:(assignEach es X.env).length=n:=by rfl) (hst:(assignEach es X.env).findIdx? (·.1)=none:=by rfl):SG X E (.Tuple es k pos) (zch n gs):=by
 refine PG.imp (zr6 hc h hn hst) fun v σ H Q ⟨ι,h,sd,d,L,hh,r,q⟩=> ?_
 cases d with
 | tup ds=>
  obtain ⟨a,vs,e,h1,h2⟩:=zc0 r
  have q:Fin X.K E ι H ((if ds.length=n then gs ds sd else M.bad) h) _:=q
  by_cases hl:ds.length=n
  ·rw [qa4 hl] at q
   exact ⟨a,vs,e,h1,by rw [<- h2.length];exact hl,ι,h,sd,ds,L,hh,h2,q⟩
  ·rw [qa5 hl] at q
   exact qa0 q
 | _=>exact qa0 q
theorem ztE {tg e:Expr} {f:Sd->M D} {g:D->Sd->M Sd} (he:SE X E e f) (hg:SG X E tg g) (hs:swapsWithSole [tg] e pos.line X.env=pure false:=by rfl) (hw:swappedStores [tg] e X.env=pure none:=by rfl)
  (h1:(assignEach [tg] X.env).map (·.2)=[assign tg X.env]:=by rfl):SS X E (.Assign [tg] e pos) (fun sd=>do let d<-f sd;let sd'<-g d sd;pure (.nx sd')):=by
 refine PS.imp (zqb he hg hs hw h1) fun D0 σ H ⟨ι,h,sd,L,hh,q⟩=>⟨ι,h,sd,L,hh,Fin.bind q fun d h1 ι1 H1 e1 s1 hr1 q1 v rv=> ?_⟩
 exact ⟨ι1,h1,sd,d,L.step s1,hr1,rv,Fin.bind q1 fun sd' h2 ι2 H2 e2 s2 hr2 q2=>Fin.out hr2 q2⟩
theorem zsD (i:Nat) {x:Str} {e:Expr} {f:Sd->M D} {pos':Pos} (hN:X.N.Nodup) (hi:X.N[i]? = some x) (hx:Loc X.env.scope x) (hf:X.fn x=true\/X.env.scope.names.lookup x=some .local) (he:SE X E e f) (hs:swapsWith e (some (.Name x pos')) pos.line X.env=pure false:=by rfl):
  SS X E (.Assign [.Name x pos'] e pos) (fun sd=>do let d<-f sd;pure (.nx (sd.set i (some d)))):=by
 refine PS.imp (zq3 hN hi hx he hs hf) fun D0 σ H ⟨ι,h,sd,L,hh,q⟩=>⟨ι,h,sd,L,hh,Fin.bind q fun d h1 ι1 H1 e1 s1 hr1 q1 v rv=> ?_⟩
 exact Fin.out hr1 q1 _ ((L.step s1).set rv i)
def zr8 (H H2:Hp):Prop:=H2=H\/ ∃ q vs,H q=none/\H2=upd H q (.tup vs)
theorem zr8.step {K:W.Frag} {ι:Io} {H H2:Hp} {h:Hh} (g:zr8 H H2) (hr:zbf K ι H h):zce ι H ι H2/\zbf K ι H2 h:=by
 rcases g with e | ⟨q,vs,hq,e⟩
 ·subst e;exact ⟨zce.refl _ _,hr⟩
 ·subst e;exact ⟨hr.laidS hq,hr.laid hq⟩
structure zn5 (K:W.Frag) (ι:Io) (H:Hp) (J:It) (ds:List D):Prop where
 go: ∀ ι' H' (i:Nat),Pass ι H ι' H'->i<ds.length->J.go i H'
 yld: ∀ ι' H' h (i:Nat) x H2,Pass ι H ι' H'->zbf K ι' H' h->i<ds.length->J.yld i H' x H2->zr8 H' H2/\ ∃ d,ds[i]? = some d/\Rel K ι' H2 d x
 stop: ∀ ι' H',Pass ι H ι' H'->J.stop ds.length H'
noncomputable def ztQ (K:W.Frag) (E:XE) (f:Sd->M (List D)):TI:=fun σ H Q=> ∃ ι h sd,zcH K ι H sd σ/\zbf K ι H h/\Fin K E ι H (f sd h) fun ds ι' H'=> ∀ J,zn5 K ι' H' J ds->Q J H'
noncomputable abbrev SI (X:Cx) (E:XE) (tg iter:Expr) (f:Sd->M (List D)):Prop:=PI X tg iter (ztQ X.K E f)
noncomputable def zfd:D->M (List D)
 | .tup ds=>pure ds
 | .lst ds=>pure ds
 | _=>M.bad
theorem znh {K:W.Frag} {ι:Io} {H:Hp} {a:Addr} {vs:List V} {ds:List D} (h: ∀ ι' H',Pass ι H ι' H'->SqT K H' a vs) (rl:zar K ι H ds vs):zn5 K ι H (Itt K a) ds where
 go:=fun ι' H' i s hi=>⟨vs,vs[i]'(by rw [<- rl.length];exact hi),h ι' H' s,by simp⟩
 yld:=fun ι' H' _ i x H2 s _ hi ⟨e,y⟩=>by
  subst e
  have hx:=y vs (h ι' _ s)
  obtain ⟨d,e1,e2⟩:=rl.getV hx
  exact ⟨.inl rfl,d,e1,e2.pass s⟩
 stop:=fun ι' H' s=>⟨vs,h ι' H' s,by rw [rl.length];exact qaV _⟩
theorem zmk {K:W.Frag} {ι:Io} {H:Hp} {a:Addr} {vs:List V} {ds:List D} (h: ∀ ι' H',Pass ι H ι' H'->SqL K H' a vs) (rl:zar K ι H ds vs):zn5 K ι H (Itl K a) ds where
 go:=fun ι' H' i s hi=>⟨vs,vs[i]'(by rw [<- rl.length];exact hi),h ι' H' s,by simp⟩
 yld:=fun ι' H' _ i x H2 s _ hi ⟨e,y⟩=>by
  subst e
  have hx:=y vs (h ι' _ s)
  obtain ⟨d,e1,e2⟩:=rl.getV hx
  exact ⟨.inl rfl,d,e1,e2.pass s⟩
 stop:=fun ι' H' s=>⟨vs,h ι' H' s,by rw [rl.length];exact qaV _⟩
theorem Pass.refl (ι:Io) (H:Hp):Pass ι H ι H:=(zce.refl ι H).pass
theorem zkm {K:W.Frag} {ι:Io} {H:Hp} {ds:List D} {v:V} (h:Rel K ι H (.tup ds) v): ∃ a vs,v= .ref a/\(∀ ι' H',Pass ι H ι' H'->SqT K H' a vs)/\zar K ι H ds vs:=by
 simp only [Rel] at h
 obtain ⟨a,vs,e,h1,h2⟩:=h
 exact ⟨a,vs,e,fun ι' H' s=> .inl (.inl (s.keep _ _ h1.1 h1.2).1),h2⟩
theorem zlb {K:W.Frag} {ι:Io} {H:Hp} {ds:List D} {v:V} (h:Rel K ι H (.lst ds) v): ∃ a vs,v= .ref a/\(∀ ι' H',Pass ι H ι' H'->SqL K H' a vs)/\zar K ι H ds vs:=by
 simp only [Rel] at h
 obtain ⟨a,vs,e,h1,h2⟩:=h
 exact ⟨a,vs,e,fun ι' H' s=> .inl (.inl (s.keep _ _ h1.1 h1.2).1),h2⟩
end
end L3
namespace L2
open PySem PySem.Spec PyProof.Rows
noncomputable def zuo (K:W.Frag) (tl:TE):TI:=fun σ H R=>tl σ H fun x H1=> ∃ a,x= .ref a/\(((∃ xs,SqL K H1 a xs)/\R (Itl K a) H1)\/((∃ xs,SqT K H1 a xs)/\R (Itt K a) H1))
theorem zr0 {X:Cx} {tg:Expr} {l:Expr} {tl:TE} (hl:PE X l tl):PI X tg l (zuo X.K tl):=by
 intro pins s σ H R I h
 refine thn (hl pins s σ H _ I h) fun v s1 ⟨x,H1,I1,r1,q1⟩=> ?_
 obtain ⟨a,e,⟨⟨xs,hq⟩,q⟩ | ⟨⟨xs,hq⟩,q⟩⟩:=q1
 ·subst e
  cases r1
  obtain ⟨its,rv,p,hz⟩:=I1.list hq
  refine wpAny_pyIter_list p.isList ?_
  refine ⟨s1.heap.objs.size,[s1.heap.objs.size],_,_,H1,rfl,I1.kept (t':=s1.toks) fun b o e=>qag _ e,zly a _,⟨_,qar _ rfl,rfl,rfl⟩,fun b hb=> ?_,q⟩
  have e:b=s1.heap.objs.size:=by simpa using hb
  subst e
  exact I1.fpOk (qaV _) (I1.hok.fresh (qaV _))
 ·subst e
  cases r1
  obtain ⟨its,rv,p,hz⟩:=I1.tuple hq
  refine wpAny_pyIter_tuple (show s1.heap.IsTuple a its.toArray from p) ?_
  refine ⟨s1.heap.objs.size,[s1.heap.objs.size],_,_,H1,rfl,I1.kept (t':=s1.toks) fun b o e=>qag _ e,zjN a _,⟨_,qar _ rfl,rfl,rfl⟩,fun b hb=> ?_,q⟩
  have e:b=s1.heap.objs.size:=by simpa using hb
  subst e
  exact I1.fpOk (qaV _) (I1.hok.fresh (qaV _))
end L2
namespace L3
open PySem PySem.Spec PyProof.Rows L2
section
variable {X:Cx} {E:XE} {pos:Pos}
theorem zrG {tg e:Expr} {f:Sd->M D} (he:SE X E e f):SI X E tg e (fun sd=>do let d<-f sd;zfd d):=by
 refine PI.imp (zr0 he) fun σ H Q ⟨ι,h,sd,L,hh,q⟩=>⟨ι,h,sd,L,hh,Fin.bind q fun d h1 ι1 H1 e1 s1 hr1 q1 v rv=> ?_⟩
 cases d with
 | lst ds=>
  obtain ⟨a,vs,e,h1',h2⟩:=zlb rv
  exact ⟨a,e,.inl ⟨⟨vs,h1' _ _ (Pass.refl _ _)⟩,Fin.out hr1 q1 _ (zmk h1' h2)⟩⟩
 | tup ds=>
  obtain ⟨a,vs,e,h1',h2⟩:=zkm rv
  exact ⟨a,e,.inr ⟨⟨vs,h1' _ _ (Pass.refl _ _)⟩,Fin.out hr1 q1 _ (znh h1' h2)⟩⟩
 | _=>exact qa0 q1
noncomputable def zdk (lo:Int) (n:Nat):List D:=(List.range n).map fun (k:Nat)=>D.int (lo+(k:Int))
theorem zii {K:W.Frag} {ι:Io} {H:Hp} {lo:Int} {n:Nat}:zn5 K ι H (Itr lo n) (zdk lo n) where
 go:=fun ι' H' i s hi=>by show i<n;simpa [zdk] using hi
 yld:=fun ι' H' _ i x H2 s _ hi ⟨e,y⟩=>by
  subst e y
  have hi:i<n:=by simpa [zdk] using hi
  refine ⟨.inl rfl,.int (lo+i),?_,by simp [Rel]⟩
  simp [zdk,hi]
 stop:=fun ι' H' s=>by
  show n<=(zdk lo n).length
  simp [zdk]
noncomputable def zbB (j:Int):Bool:=decide (-(2^62)<=j) && decide (j<2^62)
noncomputable def zk3:List D->M (List D)
 | [.int j]=>if zbB j=true then pure (zdk 0 j.toNat) else M.bad
 | _=>M.bad
noncomputable def zlo:List D->M (List D)
 | [.int i,.int j]=>if zbB i=true/\zbB j=true then pure (zdk i (j - i).toNat) else M.bad
 | _=>M.bad
theorem zbM {j:Int} (h:zbB j=true): -(2^62)<=j/\j<2^62:=by
 unfold zbB at h
 simpa using h
theorem zoZ {tg a:Expr} {p:Pos} {fs:Sd->M (List D)} (hg:Gl X "range") (hm:X.mg "range"=none) (ha:SA X E [a] fs) (hs:starEach [a] X.env=[(false,eval a X.env)]:=by rfl):
  SI X E tg (.Call (.Name "range" p) [a] [] pos) (fun sd=>do let ds<-fs sd;zk3 ds):=by
 refine PI.imp (zkv hg hm ha hs) fun σ H Q ⟨ι,h,sd,L,hh,q⟩=>⟨ι,h,sd,L,hh,Fin.bind q fun ds h1 ι1 H1 e1 s1 hr1 q1 vs rv=> ?_⟩
 match ds,rv,q1 with
 | [.int j],rv,q1=>
  simp only [zar,Rel] at rv
  obtain ⟨v,r,rfl,rfl,rfl⟩:=rv
  have q1:Fin X.K E ι1 H1 ((if zbB j=true then (pure (zdk 0 j.toNat):M (List D)) else M.bad) h1) _:=q1
  by_cases hj:zbB j=true
  ·rw [qa4 hj] at q1
   exact ⟨j,rfl,(zbM hj).1,(zbM hj).2,Fin.out hr1 q1 _ zii⟩
  ·rw [qa5 hj] at q1
   exact qa0 q1
 | [],_,q1=>exact qa0 q1
 | .non::_,_,q1=>exact qa0 q1
 | .bl _::_,_,q1=>exact qa0 q1
 | .str _::_,_,q1=>exact qa0 q1
 | .tup _::_,_,q1=>exact qa0 q1
 | .lst _::_,_,q1=>exact qa0 q1
 | .cel _::_,_,q1=>exact qa0 q1
 | .set _::_,_,q1=>exact qa0 q1
 | .dct::_,_,q1=>exact qa0 q1
 | .fn _::_,_,q1=>exact qa0 q1
 | .scr _::_,_,q1=>exact qa0 q1
 | .exn _::_,_,q1=>exact qa0 q1
 | .int _::_::_,_,q1=>exact qa0 q1
theorem zoK {tg a b:Expr} {p:Pos} {fs:Sd->M (List D)} (hp:PI X tg (.Call (.Name "range" p) [a,b] [] pos) (zrZ (ztX X.K E fs))):
  SI X E tg (.Call (.Name "range" p) [a,b] [] pos) (fun sd=>do let ds<-fs sd;zlo ds):=by
 refine PI.imp hp fun σ H Q ⟨ι,h,sd,L,hh,q⟩=>⟨ι,h,sd,L,hh,Fin.bind q fun ds h1 ι1 H1 e1 s1 hr1 q1 vs rv=> ?_⟩
 unfold zlo at q1
 split at q1
 ·rename_i i j
  simp only [zar,Rel] at rv
  obtain ⟨v,r,rfl,rfl,v',r',rfl,rfl,rfl⟩:=rv
  by_cases hj:zbB i=true/\zbB j=true
  ·rw [qa4 hj] at q1
   exact ⟨i,j,rfl,⟨(zbM hj.1).1,(zbM hj.1).2,(zbM hj.2).1,(zbM hj.2).2⟩,Fin.out hr1 q1 _ zii⟩
  ·rw [qa5 hj] at q1
   exact qa0 q1
 ·exact qa0 q1
noncomputable def za9 (body:D->Sd->M Out):List D->Sd->M Out
 | [],sd=>pure (.nx sd)
 | x::r,sd=>do
  let o<-body x sd
  match o with
  | .nx sd'=>za9 body r sd'
  | .ct sd'=>za9 body r sd'
  | .bk sd'=>pure (.nx sd')
  | .rt d=>pure (.rt d)
theorem zsL {tg iter:Expr} {body:List Stmt} {fi:Sd->M (List D)} {g:D->Sd->M Sd} {gb:Sd->M Out} (hc:X.calm=true) (hp:PassesOwn (model X.prog X.w) X.A X.env X.xe) (hi:SI X E tg iter fi) (hg:SG X E tg g) (hb:SSs X E body gb)
  (hs: ∀ x,foldedSetIterable iter X.env x=pure x:=by intro _;rfl):SS X E (.For tg iter body [] pos) (fun sd=>do let ds<-fi sd;za9 (fun x sd=>do let sd1<-g x sd;gb sd1) ds sd):=by
 refine PS.imp (zqo hp hc hi hg hb hs) fun D0 σ H ⟨ι,h,sd,L,hh,q⟩=>⟨ι,h,sd,L,hh,Fin.bind q fun ds h1 ι1 H1 e1 s1 hr1 q1 J ok=> ?_⟩
 refine ⟨fun i m σ' H'=>m=ds.length - i/\i<=ds.length/\ ∃ ι' h' sd',zce ι1 H1 ι' H'/\zcH X.K ι' H' sd' σ'/\zbf X.K ι' H' h'/\Fin X.K E ι' H' (za9 (fun x sd=>do let sd1<-g x sd;gb sd1) (ds.drop i) sd' h') (zgX X.K D0),
   ⟨_,rfl,Nat.zero_le _,ι1,h1,sd,zce.refl _ _,L.step s1,hr1,by simpa using q1⟩,?_⟩
 rintro i m σ2 H2 ⟨rfl,hi2,ι2,h2,sd2,s2,L2,hr2,q2⟩
 by_cases hlt:i<ds.length
 ·right
  refine ⟨ok.go ι2 H2 i s2.pass hlt,fun σ' H'=>i+1<=ds.length/\ ∃ ι' h' sd',zce ι1 H1 ι' H'/\zcH X.K ι' H' sd' σ'/\zbf X.K ι' H' h'/\Fin X.K E ι' H' (za9 (fun x sd=>do let sd1<-g x sd;gb sd1) (ds.drop (i+1)) sd' h') (zgX X.K D0),
    fun σ' H' p=>⟨ds.length - (i+1),by omega,rfl,p.1,p.2⟩,fun x H3 y=> ?_⟩
  obtain ⟨gr,d,ed,rd⟩:=ok.yld ι2 H2 h2 i x H3 s2.pass hr2 hlt y
  obtain ⟨s3,hr3⟩:=gr.step hr2
  have edr:ds.drop i=d::ds.drop (i+1):=by
   rw [qae hlt]
   rw [qaf hlt] at ed
   rw [Option.some.inj ed]
  rw [edr] at q2
  have q3:Fin X.K E ι2 H3 (za9 (fun x sd=>do let sd1<-g x sd;gb sd1) (d::ds.drop (i+1)) sd2 h2) (zgX X.K D0):=Fin.step s3 q2
  refine ⟨ι2,h2,sd2,d,L2.step s3,hr3,rd,?_⟩
  have q5:Fin X.K E ι2 H3 ((g d sd2>>=fun sd1=>(gb sd1>>=fun o=>(match o with
    | .nx sd'=>za9 (fun x sd=>do let sd1<-g x sd;gb sd1) (ds.drop (i+1)) sd'
    | .ct sd'=>za9 (fun x sd=>do let sd1<-g x sd;gb sd1) (ds.drop (i+1)) sd'
    | .bk sd'=>pure (.nx sd')
    | .rt d=>pure (.rt d):M Out))) h2) (zgX X.K D0):=by
   have e:(za9 (fun x sd=>do let sd1<-g x sd;gb sd1) (d::ds.drop (i+1)) sd2 h2)=((g d sd2>>=fun sd1=>(gb sd1>>=fun o=>(match o with
     | .nx sd'=>za9 (fun x sd=>do let sd1<-g x sd;gb sd1) (ds.drop (i+1)) sd'
     | .ct sd'=>za9 (fun x sd=>do let sd1<-g x sd;gb sd1) (ds.drop (i+1)) sd'
     | .bk sd'=>pure (.nx sd')
     | .rt d=>pure (.rt d):M Out))) h2):=by
    show M.bind (M.bind (g d sd2) gb) _ h2=M.bind (g d sd2) _ h2
    unfold M.bind
    cases g d sd2 h2<;>rfl
   rw [<- e]
   exact q3
  refine Fin.bind q5 fun sd6 h6 ι6 H6 e6 s6 hr6 q6 σ6 L6=> ?_
  refine ⟨ι6,h6,sd6,L6,hr6,Fin.bind q6 fun o h7 ι7 H7 e7 s7 hr7 q7=> ?_⟩
  have st7:zce ι1 H1 ι7 H7:=((s2.trans s3).trans s6).trans s7
  cases o with
  | nx sd'=>exact fun σ' L'=>⟨hlt,ι7,h7,sd',st7,L',hr7,q7⟩
  | ct sd'=>exact fun σ' L'=>⟨hlt,ι7,h7,sd',st7,L',hr7,q7⟩
  | bk sd'=>exact fun σ' L'=>Fin.out (E:=E) (P:=zgX X.K D0) hr7 q7 σ' L'
  | rt d=>exact fun v rv=>Fin.out (E:=E) (P:=zgX X.K D0) hr7 q7 v rv
 ·left
  have e:i=ds.length:=by omega
  subst e
  refine ⟨ok.stop ι2 H2 s2.pass,?_⟩
  rw [List.drop_length] at q2
  exact Fin.out (E:=E) (P:=zgX X.K D0) hr2 q2 σ2 L2
noncomputable def zdq (f:D->M (Option D)):List D->M (List D)
 | []=>pure []
 | x::r=>do
  let o<-f x
  let ys<-zdq f r
  pure (match o with | some y=>y::ys | none=>ys)
noncomputable def zbe (g:D->Sd->M Sd) (tc:Sd->M Bool) (te:Sd->M D) (sd:Sd) (x:D):M (Option D):=do
 let sd1<-g x sd
 let c<-tc sd1
 if c=true then do
  let y<-te sd1
  pure (some y)
 else pure none
end
noncomputable def Io.hide (ι:Io) (p:Addr):Io:=⟨ι.c,p::ι.x⟩
noncomputable def Io.show (ι:Io):Io:=⟨ι.c,ι.x.tail⟩
theorem zmz {ι:Io} {a:Addr} (h:ι.show.Has a):ι.Has a:=h.imp id List.mem_of_mem_tail
section
variable {K:W.Frag} {ι ι':Io} {H H':Hp} {p:Addr} {o:HO} {h:Hh}
theorem zgO (hp:H p=none):Pass ι H (ι.hide p) (upd H p o):=⟨fun _ _ z=> .inl z,fun b o' hb n=>⟨by rw [zaC (zaV hb hp)];exact hb,fun z=>by
  rcases z with z | z
  · exact n (.inl z)
  · rcases qaP.mp z with z | z
    · rw [z,hp] at hb;cases hb
    · exact n (.inr z)⟩⟩
theorem zhI:Pass ι H ι.show H:=⟨fun _ _ z=> .inl z,fun b o' hb n=>⟨hb,fun z=>n (zmz z)⟩⟩
theorem zgz (hp:p∈ι.x):Pass ι H ι (upd H p o):=⟨fun _ _ z=> .inl z,fun b o' hb n=>⟨by rw [zaC (show b≠p from fun z=>n (.inr (z▸hp)))];exact hb,n⟩⟩
theorem zbf.hide (hr:zbf K ι H h) (hp:H p=none):zbf K (ι.hide p) (upd H p o) h:=
 ⟨hr.len,hr.inj,fun n a c h1 h2=>by
   obtain ⟨o',e2,e3⟩:=hr.at_ n a c h1 h2
   exact ⟨o',by rw [zaC (zaV e2 hp)];exact e2,e3.pass (zgO hp)⟩,hr.dead,fun a ha=>by
   rcases qaP.mp ha with z | z
   · subst z;exact ⟨⟨o,za0⟩,fun z=>hr.nin hp (.inl z)⟩
   · refine ⟨?_,(hr.hidt a z).2⟩
     rw [zaC (show a≠p from fun w=>hr.nin hp (.inr (w▸z)))]
     exact (hr.hidt a z).1⟩
theorem zbf.hid (hr:zbf K ι H h) (hp:p∈ι.x):zbf K ι (upd H p o) h:=
 ⟨hr.len,hr.inj,fun n a c h1 h2=>by
   obtain ⟨o',e2,e3⟩:=hr.at_ n a c h1 h2
   have ne:a≠p:=fun z=>(hr.hidt p hp).2 (z▸List.mem_of_getElem? h1)
   exact ⟨o',by rw [zaC ne];exact e2,e3.pass (zgz hp)⟩,hr.dead,fun a ha=>by
   refine ⟨?_,(hr.hidt a ha).2⟩
   by_cases z:a=p
   · subst z;exact ⟨o,za0⟩
   · rw [zaC z];exact (hr.hidt a ha).1⟩
theorem zbf.show (hr:zbf K ι H h):zbf K ι.show H h:=
 ⟨hr.len,hr.inj,fun n a c h1 h2=>by
   obtain ⟨o',e2,e3⟩:=hr.at_ n a c h1 h2
   exact ⟨o',e2,e3.pass zhI⟩,hr.dead,fun a ha=>hr.hidt a (List.mem_of_mem_tail ha)⟩
theorem zli {ι1 ι2:Io} {H1 H2:Hp} (hp:H p=none) (hpx:p∉ι.x) (hx:ι1.x=p::ι.x) (s:zce ι H ι1.show H1) (t:zce ι1 H1 ι2 H2):zce ι H ι2.show (upd H2 p o) where
 old:=fun n q h=>by
  rcases s.old n q h with h | h
  ·exact t.old n q h
  ·rcases t.old n _ h with h | h<;>exact .inr h
 new:=fun a h=>by
  rcases t.new a h with h | h
  ·exact s.new a h
  ·by_cases z:some a∈ι.c
   ·exact .inl z
   ·refine .inr ?_
    cases q:H a with
    | none=>rfl
    | some o=>
     by_cases z':a∈ι.x
     ·rw [s.hidk a z',q] at h;cases h
     ·rw [s.keep a o q (fun w=>w.elim z z')] at h;cases h
 hid:=by
  show ι2.x.tail=ι.x
  rw [t.hid,hx]
  rfl
 hidk:=fun a ha=>by
  have z:a≠p:=fun z=>hpx (z▸ha)
  rw [zaC z,t.hidk a (by rw [hx];exact qan _ ha)]
  exact s.hidk a ha
 keep:=fun b q hb n=>by
  have ne:b≠p:=zaV hb hp
  rw [zaC ne]
  refine t.keep b q (s.keep b q hb n) fun z=> ?_
  rcases z with z | z
  ·rcases s.new b z with z | z
   ·exact n (.inl z)
   ·rw [hb] at z;cases z
  ·rw [hx] at z
   rcases qaP.mp z with z | z
   ·exact ne z
   ·exact n (.inr z)
theorem zce.shown {ι2:Io} {H2:Hp} {r:List Addr} (hx:ι.x=p::r) (t:zce ι H ι2 H2):zce ι.show H ι2.show H2 where
 old:=t.old
 new:=t.new
 hid:=by show ι2.x.tail=ι.x.tail;rw [t.hid]
 hidk:=fun a ha=>t.hidk a (List.mem_of_mem_tail ha)
 keep:=fun b q hb n=>by
  by_cases z:b=p
  ·subst z
   rw [t.hidk b (by rw [hx];exact qau)]
   exact hb
  ·refine t.keep b q hb fun w=> ?_
   rcases w with w | w
   ·exact n (.inl w)
   ·rw [hx] at w
    rcases qaP.mp w with w | w
    ·exact z w
    ·exact n (.inr (by show b∈ι.x.tail;rw [hx];exact w))
theorem Fin.bindB {α β:Type} {E:XE} {m:M α} {f:α->M β} {P:β->Io->Hp->Prop} {P':α->Io->Hp->Prop} {ιb:Io} {Hb:Hp} (q:Fin K E ιb Hb ((m>>=f) h) P)
  (conv: ∀ ι' H' h',zce ι H ι' H'->zbf K ι' H' h'-> ∃ ι'',zce ιb Hb ι'' H'/\zbf K ι'' H' h')
  (k: ∀ a h' ι' H',m h= .ok a h'->zce ι H ι' H'->zbf K ι' H' h'->Fin K E ιb Hb (f a h') P->P' a ι' H'):Fin K E ι H (m h) P':=by
 have q':Fin K E ιb Hb (M.bind m f h) P:=q
 unfold M.bind at q'
 cases e:m h with
 | ok a h'=>
  rw [e] at q'
  intro ι' H' s hr
  exact k a h' ι' H' e s hr q'
 | exc c h'=>
  rw [e] at q'
  intro ι' H' s hr
  obtain ⟨ι'',s2,hr2⟩:=conv ι' H' h' s hr
  exact q' _ _ s2 hr2
 | bad=>rw [e] at q';exact q'
end
noncomputable instance:LawfulMonad M:=LawfulMonad.mk' M
 (id_map:=fun x=>by
   funext h
   show M.bind x (fun a=>M.pure (id a)) h=x h
   unfold M.bind M.pure
   cases x h<;>rfl)
 (pure_bind:=fun x f=>rfl)
 (bind_assoc:=fun x f g=>by
   funext h
   show M.bind (M.bind x f) g h=M.bind x (fun a=>M.bind (f a) g) h
   unfold M.bind
   cases x h<;>rfl)
noncomputable def zaq (src:List (Option Nat)) (sd:Sd):Sd:=src.map fun o=>o.bind fun i=>(sd[i]?).join
theorem zcH.bStart {K:W.Frag} {ι:Io} {H:Hp} {sd:Sd} {σ:L2.St} {src:List (Option Nat)} (h:zcH K ι H sd σ):zcH K ι H (zaq src sd) (bStart src σ):=by
 refine ⟨by unfold zaq L2.bStart;rw [qaH,qaH],fun i d e=> ?_⟩
 unfold zaq at e
 unfold L2.bStart
 rw [List.getElem?_map] at e ⊢
 cases z:src[i]? with
 | none=>rw [z] at e;cases e
 | some o=>
  rw [z] at e
  cases o with
  | none=>cases e
  | some j=>
   have e:(sd[j]?).join=some d:=by simpa using e
   cases w:sd[j]? with
   | none=>rw [w] at e;cases e
   | some q=>
    rw [w] at e
    have e:q=some d:=by simpa using e
    subst e
    obtain ⟨v,h1,h2⟩:=h.2 j d w
    exact ⟨v,by simp [h1],h2⟩
def zaH (g:D->Sd->M Sd) (src:List (Option Nat)):Prop:= ∀ x sd h sd1 h1,sd.length=src.length->(∀ (i:Nat),src[i]? = some none->sd[i]? = some none)->g x sd h= .ok sd1 h1->sd1.length=sd.length/\ ∀ (i:Nat) d,src[i]? ≠ some none->sd[i]? = some (some d)->sd1[i]? = some (some d)
def zbW (g:List D->Sd->M Sd) (src:List (Option Nat)):Prop:= ∀ x sd h sd1 h1,g x sd h= .ok sd1 h1->sd1.length=sd.length/\ ∀ (i:Nat) d,src[i]? ≠ some none->sd[i]? = some (some d)->sd1[i]? = some (some d)
theorem zkB {i:Nat} {src:List (Option Nat)} (h:src[i]? = some none): ∀ x sd h sd1 h1,zaB i x sd h= .ok sd1 h1->sd1.length=sd.length/\ ∀ (j:Nat) d,src[j]? ≠ some none->sd[j]? = some (some d)->sd1[j]? = some (some d):=fun x sd h0 sd1 h1 e=>by
 have e:R.ok (sd.set i (some x)) h0= .ok sd1 h1:=e
 cases e
 refine ⟨qaI,fun j d hj e=> ?_⟩
 rw [qao (show i≠j from fun z=>hj (z▸h))]
 exact e
theorem zaH.name {i:Nat} {src:List (Option Nat)} (h:src[i]? = some none):zaH (zaB i) src:=fun x sd h0 sd1 h1 _ _ e=>zkB h x sd h0 sd1 h1 e
theorem zbW.nil {src:List (Option Nat)}:zbW zcg src:=fun x sd h sd1 h1 e=>by
 cases x with
 | nil=>
  have e:R.ok sd h= .ok sd1 h1:=e
  cases e
  exact ⟨rfl,fun _ _ _ z=>z⟩
 | cons _ _=>cases (show R.bad=R.ok sd1 h1 from e)
theorem zbW.cons {i:Nat} {gs:List D->Sd->M Sd} {src:List (Option Nat)} (h:src[i]? = some none) (t:zbW gs src):zbW (zaz (zaB i) gs) src:=fun x sd h0 sd1 h1 e=>by
 cases x with
 | nil=>cases (show R.bad=R.ok sd1 h1 from e)
 | cons d r=>
  have e:gs r (sd.set i (some d)) h0= .ok sd1 h1:=e
  obtain ⟨e1,e2⟩:=t r _ h0 sd1 h1 e
  refine ⟨by rw [e1,qaI],fun j d' hj z=>e2 j d' hj ?_⟩
  rw [qao (show i≠j from fun z=>hj (z▸h))]
  exact z
theorem zaH.tup {n:Nat} {gs:List D->Sd->M Sd} {src:List (Option Nat)} (t:zbW gs src):zaH (zch n gs) src:=fun x sd h0 sd1 h1 _ _ e=>by
 cases x with
 | tup ds=>
  have e:(if ds.length=n then gs ds sd else M.bad) h0= .ok sd1 h1:=e
  by_cases hl:ds.length=n
  ·rw [qa4 hl] at e;exact t _ _ _ _ _ e
  ·rw [qa5 hl] at e;cases (show R.bad=R.ok sd1 h1 from e)
 | _=>cases (show R.bad=R.ok sd1 h1 from e)
section
variable {X:Cx} {E:XE} {scope:Scope} {N:List Str} {src:List (Option Nat)} {tg iter elt:Expr} {ifs:List Expr} {pos:Pos}
noncomputable abbrev SCs (X:Cx) (E:XE) (ifs:List Expr) (t:Sd->M Bool):Prop:=PCs X ifs (zgJ X.K E t)
theorem zqj:SCs X E [] (fun _=>pure true):=fun pins s σ H Q I ⟨ι,h,sd,L,hh,q⟩=>zpF pins s σ H Q I (Fin.out hh q)
theorem zqA {c:Expr} {t:Sd->M Bool} (h:ST X E c t):SCs X E [c] t:=zpc h
theorem blk {K:W.Frag} {g:D->Sd->M Sd} {tc:Sd->M Bool} {te:Sd->M D} {J:It} {ds:List D} {ι:Io} {H:Hp} {h:Hh} {sd:Sd} {σ:L2.St} {Q:VK} {p:Addr} (hk:zaH g src) (L:zcH K ι H sd σ) (hr:zbf K ι H h) (ok:zn5 K ι H J ds) (hz:ds.length<=sizeLine)
  (q:Fin K E ι H ((do let ys<-zdq (zbe g tc te (zaq src sd)) ds;pure (D.lst ys)) h) fun d ι' H'=> ∀ v,Rel K ι' H' d v->Q v H') (hp:H p=none):
  ztM J (zsC K E g) (zgJ K E tc) (zjJ K E te) (bStart src σ) H p fun H'=>Q (.ref p) H':=by
 generalize hP:(fun (d:D) (ι':Io) (H':Hp)=> ∀ v,Rel K ι' H' d v->Q v H')=P at q
 generalize hf:zbe g tc te (zaq src sd)=f at q
 have hpx:p∉ι.x:=fun z=>hr.nin hp (.inr z)
 have h0len:(zaq src sd).length=src.length:=by unfold zaq;rw [qaH]
 have h0non: ∀ (i:Nat),src[i]? = some none->(zaq src sd)[i]? = some none:=fun i e=>by unfold zaq;rw [List.getElem?_map,e];rfl
 refine ⟨fun i m σ' H'=>m=ds.length - i/\i<=ds.length/\ ∃ ι' h' done vs,ι'.x=p::ι.x/\zce ι H ι'.show H'/\zcH K ι' H' (zaq src sd) σ'/\zbf K ι' H' h'/\H' p=some (.lst vs)/\zar K ι' H' done vs/\done.length<=i/\
     Fin K E ι H ((do let ys<-zdq f (ds.drop i);pure (D.lst (done++ys))) h') P,
   ⟨_,rfl,Nat.zero_le _,ι.hide p,h,[],[],rfl,?_,L.bStart.pass (zgO hp),hr.hide hp,za0,zar.nil,qaV _,?_⟩,?_⟩
 ·have:=hr.laidS (o:= .lst []) hp
  exact ⟨this.old,this.new,this.hid,this.hidk,this.keep⟩
 ·simpa using q
 rintro i m σ2 H2 ⟨rfl,hi2,ι2,h2,done,vs,hx2,s2,L2,hr2,e2,rl2,dl2,q2⟩
 have ps2:Pass ι H ι2 H2:=⟨s2.old,fun b o hb n=>⟨s2.keep b o hb n,fun z=>by
   rcases z with z | z
   · exact s2.nin hb n (.inl z)
   · rw [hx2] at z
     rcases qaP.mp z with z | z
     · rw [z,hp] at hb;cases hb
     · exact n (.inr z)⟩⟩
 have hp2:p∈ι2.x:=by rw [hx2];exact qau
 have base: ∀ {ι':Io} {H':Hp},zce ι2 H2 ι' H'->zce ι H ι'.show H':=fun t=>s2.trans (t.shown hx2)
 by_cases hlt:i<ds.length
 ·right
  refine ⟨ok.go ι2 H2 i ps2 hlt,fun σ' H'=>i+1<=ds.length/\ ∃ ι' h' done vs,ι'.x=p::ι.x/\zce ι H ι'.show H'/\zcH K ι' H' (zaq src sd) σ'/\zbf K ι' H' h'/\H' p=some (.lst vs)/\zar K ι' H' done vs/\done.length<=i+1/\
    Fin K E ι H ((do let ys<-zdq f (ds.drop (i+1));pure (D.lst (done++ys))) h') P,fun σ' H' z=>⟨ds.length - (i+1),by omega,rfl,z.1,z.2⟩,fun x H3 y=> ?_⟩
  obtain ⟨gr,d,ed,rd⟩:=ok.yld ι2 H2 h2 i x H3 ps2 hr2 hlt y
  obtain ⟨s3,hr3⟩:=gr.step hr2
  have edr:ds.drop i=d::ds.drop (i+1):=by
   rw [qae hlt]
   rw [qaf hlt] at ed
   rw [Option.some.inj ed]
  rw [edr] at q2
  have q3:=q2
  have st3:zce ι2 H2 ι2 H3:=s3
  have e3:H3 p=some (.lst vs):=by rw [s3.hidk p hp2];exact e2
  have eq1:(do let ys<-zdq f (d::ds.drop (i+1));pure (D.lst (done++ys)):M D)=(g d (zaq src sd)>>=fun sd1=>tc sd1>>=fun c=>if c=true then (te sd1>>=fun y=>zdq f (ds.drop (i+1))>>=fun ys=>pure (D.lst (done++[y]++ys))) else (zdq f (ds.drop (i+1))>>=fun ys=>pure (D.lst (done++ys)))):=by
   rw [zdq]
   rw [<- hf]
   simp only [zbe,bind_assoc]
   refine congrArg _ (funext fun sd1=> ?_)
   refine congrArg _ (funext fun c=> ?_)
   cases c with
   | true=>simp only [if_true,bind_assoc,pure_bind,List.append_assoc,List.cons_append,List.nil_append]
   | false=>simp only [qax,if_false,pure_bind]
  rw [eq1] at q3
  refine ⟨ι2,h2,zaq src sd,d,L2.step s3,hr3,rd,?_⟩
  refine Fin.bindB q3 (fun ι' H' h' s hr'=>⟨ι'.show,base (s3.trans s),hr'.show⟩) fun sd4 h4 ι4 H4 e4 s4 hr4 q4 σ4 L4=> ?_
  have hx4:ι4.x=p::ι.x:=by rw [s4.hid];exact hx2
  obtain ⟨k1,k2⟩:=hk d _ h2 sd4 h4 h0len h0non e4
  refine ⟨ι4,h4,sd4,L4,hr4,Fin.bindB q4 (fun ι' H' h' s hr'=>⟨ι'.show,base ((s3.trans s4).trans s),hr'.show⟩) fun c h5 ι5 H5 e5 s5 hr5 q5=> ?_⟩
  have hx5:ι5.x=p::ι.x:=by rw [s5.hid];exact hx4
  have sub: ∀ {ι':Io} {H':Hp},zcH K ι' H' sd4 σ4->zcH K ι' H' (zaq src sd) σ4:=fun {ι' H'} z=>⟨by rw [<- k1];exact z.1,fun j d' e=>z.2 j d' (k2 j d' (fun w=>by rw [h0non j w] at e;cases e) e)⟩
  have st5:zce ι2 H2 ι5 H5:=(s3.trans s4).trans s5
  cases c with
  | false=>
   exact zp0 ⟨hlt,ι5,h5,done,vs,hx5,base st5,sub (L4.step s5),hr5,by rw [st5.hidk p hp2];exact e2,rl2.step st5,Nat.le_succ_of_le dl2,q5⟩
  | true=>
   refine zp1 ⟨ι5,h5,sd4,L4.step s5,hr5,Fin.bindB q5 (fun ι' H' h' s hr'=>⟨ι'.show,base (st5.trans s),hr'.show⟩) fun yd h6 ι6 H6 e6 s6 hr6 q6 y ry=> ?_⟩
   have st6:zce ι2 H2 ι6 H6:=st5.trans s6
   have hx6:ι6.x=p::ι.x:=by rw [s6.hid];exact hx5
   have hp6:p∈ι6.x:=by rw [hx6];exact qau
   have e6':H6 p=some (.lst vs):=by rw [st6.hidk p hp2];exact e2
   refine ⟨vs,e6',by rw [<- rl2.length];omega,hlt,ι6,h6,done++[yd],vs++[y],hx6,zli hp hpx hx2 s2 st6,?_,hr6.hid hp6,za0,?_,?_,?_⟩
   ·exact ((sub (L4.step s5)).step s6).pass (zgz hp6)
   ·exact ((rl2.step st6).append (zar.cons ry zar.nil)).pass (zgz hp6)
   ·rw [qav,List.length_singleton];omega
   ·exact q6
 ·left
  have e:i=ds.length:=by omega
  subst e
  refine ⟨ok.stop ι2 H2 ps2,?_⟩
  rw [List.drop_length] at q2
  have q3:P (.lst done) ι2.show H2:=by
   have:Fin K E ι H ((pure (D.lst (done++[])):M D) h2) P:=q2
   rw [List.append_nil] at this
   exact this _ _ s2 hr2.show
  rw [<- hP] at q3
  refine q3 (.ref p) ?_
  simp only [Rel]
  refine ⟨p,vs,rfl,⟨e2,fun z=> ?_⟩,rl2.pass zhI⟩
  rcases z with z | z
  ·exact (hr2.hidt p (by rw [hx2];exact qau)).2 z
  ·exact hpx (by have z:p∈ι2.x.tail:=z;rw [hx2] at z;exact z)
noncomputable def zaw (fi:Sd->M (List D)) (g:D->Sd->M Sd) (tc:Sd->M Bool) (te:Sd->M D) (src:List (Option Nat)):Sd->M D:=fun sd=>do
 let ds<-fi sd
 fits ds.length
 let ys<-zdq (zbe g tc te (zaq src sd)) ds
 pure (D.lst ys)
theorem zlE {K:W.Frag} {fi:Sd->M (List D)} {g:D->Sd->M Sd} {tc:Sd->M Bool} {te:Sd->M D} (hk:zaH g src) (σ:L2.St) (H:Hp) (Q:VK) (q:zjJ K E (zaw fi g tc te src) σ H Q):
  zor (ztQ K E fi) (zsC K E g) (zgJ K E tc) (zjJ K E te) src σ H Q:=by
 obtain ⟨ι,h,sd,L,hh,q⟩:=q
 refine ⟨ι,h,sd,L,hh,Fin.bind q fun ds h1 ι1 H1 e1 s1 hr1 q1 J ok p hp=> ?_⟩
 obtain ⟨z,q2⟩:=Fin.fits q1
 exact blk hk (L.step s1) hr1 ok z q2 hp
theorem zpK {fi:Sd->M (List D)} {g:D->Sd->M Sd} {tc:Sd->M Bool} {te:Sd->M D} (B:BOk X scope N src) (hk:zaH g src) (hi:SI X E tg iter fi)
  (hg: ∀ s H fp,SG (cxB X scope N s H fp) E tg g) (ht: ∀ s H fp,SCs (cxB X scope N s H fp) E ifs tc) (he: ∀ s H fp,SE (cxB X scope N s H fp) E elt te)
  (hs: ∀ x,foldedSetIterable iter X.env x=pure x:=by intro _;rfl):SE X E (.ListComp elt [⟨tg,iter,ifs,0⟩] scope pos) (zaw fi g tc te src):=
 PE.imp (zpS B hi hg ht he hs) (zlE hk)
theorem zls {fi:Sd->M (List D)} {g:D->Sd->M Sd} {tc:Sd->M Bool} {te:Sd->M D} (i:Nat) {y:Str} {py spos:Pos} (B:BOk X scope N src) (hk:zaH g src) (hi:SI X E tg iter fi)
  (hg: ∀ s H fp,SG (cxB X scope N s H fp) E tg g) (ht: ∀ s H fp,SCs (cxB X scope N s H fp) E ifs tc) (he: ∀ s H fp,SE (cxB X scope N s H fp) E elt te)
  (hN:X.N.Nodup) (hy:X.N[i]? = some y) (hx:Loc X.env.scope y) (hf:X.fn y=true\/X.env.scope.names.lookup y=some .local) (hsw:swapsWith (.ListComp elt [⟨tg,iter,ifs,0⟩] scope pos) (some (.Name y py)) spos.line X.env=pure true)
  (hs: ∀ x,foldedSetIterable iter X.env x=pure x:=by intro _;rfl):SS X E (.Assign [.Name y py] (.ListComp elt [⟨tg,iter,ifs,0⟩] scope pos) spos) (fun sd=>do let d<-zaw fi g tc te src sd;pure (.nx (sd.set i (some d)))):=by
 refine PS.imp (zjP B hi hg ht he hN hy hx hsw hf hs) fun D0 σ H ⟨ι,h,sd,L,hh,q⟩=>zlE hk σ H _ ⟨ι,h,sd,L,hh,Fin.bind q fun d h1 ι1 H1 e1 s1 hr1 q1 v rv=> ?_⟩
 exact Fin.out (E:=E) (P:=zgX X.K D0) hr1 q1 _ ((L.step s1).set rv i)
end
section
variable {K:W.Frag} {ι:Io} {H:Hp} {h:Hh} {n:Nat} {a:Addr}
theorem zfm {o:HO} (hn:ι.c[n]? = some (some a)):Pass ι H ι (upd H a o):=⟨fun _ _ z=> .inl z,fun b o' hb nb=>⟨by rw [zaC (show b≠a from fun z=>nb (.inl (z▸List.mem_of_getElem? hn)))];exact hb,nb⟩⟩
theorem zbf.cellS {o:HO} (hr:zbf K ι H h) (hn:ι.c[n]? = some (some a)):zce ι H ι (upd H a o):=
 ⟨fun _ _ z=> .inl z,fun _ z=> .inl z,rfl,fun b hb=>zaC fun z=>(hr.hidt b hb).2 (z▸List.mem_of_getElem? hn),fun b o' hb nb=>((zfm hn).keep b o' hb nb).1⟩
theorem zbf.cellO {c':C} {o':HO} (hr:zbf K ι H h) (hn:ι.c[n]? = some (some a)) (co:CO K ι H c' o'):zbf K ι (upd H a o') (h.set n c'):=by
 refine ⟨by rw [qaI];exact hr.len,hr.inj,fun m b c hm hc=> ?_,fun m hm=> ?_,fun b hb=>⟨?_,(hr.hidt b hb).2⟩⟩
 ·by_cases e:n=m
  ·subst e
   rw [hn] at hm
   cases hm
   rw [qai (by rw [hr.len];exact (qac.mp hn).1)] at hc
   cases hc
   exact ⟨o',za0,co.pass (zfm hn)⟩
  ·rw [qao e] at hc
   obtain ⟨o2,e2,e3⟩:=hr.at_ m b c hm hc
   have ne:b≠a:=fun z=>by subst z;exact e (hr.inj n m b hn hm)
   exact ⟨o2,by rw [zaC ne];exact e2,e3.pass (zfm hn)⟩
 ·have e:n≠m:=fun z=>by subst z;rw [hn] at hm;cases hm
  rw [qao e]
  exact hr.dead m hm
 ·rw [zaC (show b≠a from fun z=>(hr.hidt b hb).2 (z▸List.mem_of_getElem? hn))]
  exact (hr.hidt b hb).1
theorem zbf.cell {ds':List D} {vs':List V} (hr:zbf K ι H h) (hn:ι.c[n]? = some (some a)) (rl:zar K ι H ds' vs'):zbf K ι (upd H a (.lst vs')) (h.set n (.lst ds')):=hr.cellO hn ⟨vs',rfl,rl⟩
theorem zbf.read {ds:List D} {v:V} (hr:zbf K ι H h) (r:Rel K ι H (.cel n) v) (e:h[n]? = some (.lst ds)): ∃ a vs,v= .ref a/\ι.c[n]? = some (some a)/\H a=some (.lst vs)/\zar K ι H ds vs:=by
 simp only [Rel] at r
 obtain ⟨a,e1,r | r⟩:=r
 ·obtain ⟨o,e3,vs,rfl,e4⟩:=hr.at_ n a _ r e
  exact ⟨a,vs,e1,r,e3,e4⟩
 ·rw [hr.dead n r] at e
  cases e
end
noncomputable def zao (n:Nat):M (List D):=fun h=>match h[n]? with
 | some (.lst ds)=> .ok ds h
 | _=> .bad
noncomputable def zbL (n:Nat) (ds:List D):M Unit:=fun h=> .ok () (h.set n (.lst ds))
theorem zcD {n:Nat} {h h':Hh} {ds:List D} (e:zao n h= .ok ds h'):h'=h/\h[n]? = some (.lst ds):=by
 unfold zao at e
 cases z:h[n]? with
 | none=>rw [z] at e;cases e
 | some c=>
  rw [z] at e
  cases c with
  | lst xs=>cases e;exact ⟨rfl,rfl⟩
  | dic _=>cases e
  | dead=>cases e
noncomputable def ofO {α:Type}:Option α->M α
 | some a=>pure a
 | none=>M.bad
noncomputable def dIx:D->D->M D:=fun x y=>match x,y with
 | .tup ds,.int i=>ofO (atI ds i)
 | .lst ds,.int i=>ofO (atI ds i)
 | .scr ds,.int i=>ofO (atI ds i)
 | .cel n,.int i=>do let ds<-zao n;ofO (atI ds i)
 | _,_=>M.bad
theorem zgm {K:W.Frag} {ι:Io} {H:Hp} {ds:List D} {vs:List V} {i:Int} {d:D} (rl:zar K ι H ds vs) (e:atI ds i=some d): ∃ v,atI vs i=some v/\Rel K ι H d v:=by
 unfold atI at e ⊢
 rw [<- rl.length]
 cases z:ixN ds.length i with
 | none=>rw [z] at e;cases e
 | some j=>
  rw [z] at e
  have e:ds[j]? = some d:=e
  exact rl.get e
section
variable {X:Cx} {E:XE}
theorem Fin.ofO {α:Type} {K:W.Frag} {ι:Io} {H:Hp} {h:Hh} {o:Option α} {P:α->Io->Hp->Prop} (hr:zbf K ι H h) (q:Fin K E ι H (L3.ofO o h) P): ∃ a,o=some a/\P a ι H:=by
 cases o with
 | none=>exact qa0 q
 | some a=>exact ⟨a,rfl,Fin.out hr q⟩
theorem zup:IxR X (zd7 X.K E dIx):=by
 refine IxR.imp (zo9.or zrh) fun x y H Q ⟨ι,h,d1,d2,r1,r2,hr,q⟩=> ?_
 cases d2 with
 | int i=>
  simp only [Rel] at r2
  cases d1 with
  | tup ds=>
   obtain ⟨a,vs,e,h1,h2⟩:=zc0 r1
   obtain ⟨d,e1,q⟩:=Fin.ofO hr q
   obtain ⟨v,e2,rv⟩:=zgm h2 e1
   exact .inr ⟨a,vs,i,v,e,r2,h1,e2,q v rv⟩
  | lst ds=>
   obtain ⟨a,vs,e,h1,h2⟩:=ze9 r1
   obtain ⟨d,e1,q⟩:=Fin.ofO hr q
   obtain ⟨v,e2,rv⟩:=zgm h2 e1
   exact .inl ⟨a,vs,i,v,e,r2,h1,e2,q v rv⟩
  | scr ds=>
   obtain ⟨a,vs,e,h1,h2⟩:=zlW r1
   obtain ⟨d,e1,q⟩:=Fin.ofO hr q
   obtain ⟨v,e2,rv⟩:=zgm h2 e1
   exact .inl ⟨a,vs,i,v,e,r2,h1,e2,q v rv⟩
  | cel n=>
   have q:Fin X.K E ι H ((zao n>>=fun ds=>L3.ofO (atI ds i)) h) _:=q
   have q':Fin X.K E ι H (M.bind (zao n) (fun ds=>L3.ofO (atI ds i)) h) _:=q
   unfold M.bind at q'
   cases z:zao n h with
   | bad=>rw [z] at q';exact qa0 q'
   | exc c h'=>unfold zao at z;split at z<;>cases z
   | ok ds h'=>
    rw [z] at q'
    obtain ⟨rfl,z2⟩:=zcD z
    obtain ⟨a,vs,e,hn,hH,rl⟩:=hr.read r1 z2
    obtain ⟨d,e1,q⟩:=Fin.ofO hr q'
    obtain ⟨v,e2,rv⟩:=zgm rl e1
    exact .inl ⟨a,vs,i,v,e,r2,SqL.of hH,e2,q v rv⟩
  | _=>exact qa0 q
 | _=>cases d1<;>exact qa0 q
noncomputable def zlq (o i d:D):M Unit:=match o,i with
 | .cel n,.int k=>do
  let ds<-zao n
  let j<-ofO (ixN ds.length k)
  zbL n (ds.set j d)
 | _,_=>M.bad
theorem zr3 {o i:Expr} {pos:Pos} {fo fi:Sd->M D} (hp: ∀ {t:zqL},zpY X t->PG X (.Subscript o i pos) (ztR (zjJ X.K E fo) (zjJ X.K E fi) t)):
  SG X E (.Subscript o i pos) (fun d sd=>do let x<-fo sd;let y<-fi sd;zlq x y d;pure sd):=by
 refine PG.imp (hp zm4) fun v σ H Q ⟨ι,h,sd,d,L,hr,rd,q⟩=>⟨ι,h,sd,L,hr,Fin.bind q fun x h1 ι1 H1 e1 s1 hr1 q1 xv rx=> ?_⟩
 refine ⟨ι1,h1,sd,L.step s1,hr1,Fin.bind q1 fun y h2 ι2 H2 e2 s2 hr2 q2 yv ry=> ?_⟩
 cases x with
 | cel n=>
  cases y with
  | int k=>
   have rx2:=rx.step s2
   have q3:Fin X.K E ι2 H2 ((zao n>>=fun ds=>(ofO (ixN ds.length k)>>=fun j=>zbL n (ds.set j d)>>=fun _=>pure sd)) h2) (fun sd' ι' H'=> ∀ σ',zcH X.K ι' H' sd' σ'->Q σ' H'):=by
    have e:(do zlq (.cel n) (.int k) d;pure sd:M Sd)=(zao n>>=fun ds=>(ofO (ixN ds.length k)>>=fun j=>zbL n (ds.set j d)>>=fun _=>pure sd)):=by
     show ((zao n>>=fun ds=>(ofO (ixN ds.length k)>>=fun j=>zbL n (ds.set j d)))>>=fun _=>pure sd)=_
     simp only [bind_assoc]
    rw [<- e]
    exact q2
   have q':Fin X.K E ι2 H2 (M.bind (zao n) (fun ds=>(ofO (ixN ds.length k)>>=fun j=>zbL n (ds.set j d)>>=fun _=>pure sd)) h2) _:=q3
   unfold M.bind at q'
   cases z:zao n h2 with
   | bad=>rw [z] at q';exact qa0 q'
   | exc c h'=>unfold zao at z;split at z<;>cases z
   | ok ds h'=>
    rw [z] at q'
    obtain ⟨rfl,z2⟩:=zcD z
    obtain ⟨a,vs,e,hn,hH,rl⟩:=hr2.read rx2 z2
    simp only [Rel] at ry
    have q4:Fin X.K E ι2 H2 (M.bind (ofO (ixN ds.length k)) (fun j=>zbL n (ds.set j d)>>=fun _=>pure sd) h') _:=q'
    unfold M.bind at q4
    cases z3:ixN ds.length k with
    | none=>rw [z3] at q4;exact qa0 q4
    | some j=>
     rw [z3] at q4
     have q5:Fin X.K E ι2 H2 (R.ok sd (h'.set n (.lst (ds.set j d)))) (fun sd' ι' H'=> ∀ σ',zcH X.K ι' H' sd' σ'->Q σ' H'):=q4
     refine ⟨a,vs,k,j,e,ry,hH,by rw [<- rl.length];exact z3,?_⟩
     have rd2:=(rd.step s1).step s2
     exact q5 ι2 _ (hr2.cellS hn) (hr2.cell hn (rl.set rd2 j)) σ (((L.step s1).step s2).step (hr2.cellS hn))
  | _=>exact qa0 q2
 | _=>cases y<;>exact qa0 q2
end
noncomputable abbrev E0x:XE:=fun _ _=>False
noncomputable def zbH (K:W.Frag) (n:Nat) (F:List D->M D):Sp:=fun vs H Q _=>vs.length=n/\ ∃ ι h ds,zar K ι H ds vs/\zbf K ι H h/\Fin K E0x ι H (F ds h) fun d ι' H'=> ∀ v,Rel K ι' H' d v->Q v H'
noncomputable def zi3 (n:Nat) (ds:List D):Sd:=ds.map some++List.replicate (n - ds.length) none
noncomputable def zbT:Out->M D
 | .nx _=>pure .non
 | .rt d=>pure d
 | _=>M.bad
noncomputable def zb2 (n:Nat) (G:Sd->M Out) (ds:List D):M D:=do let o<-G (zi3 n ds);zbT o
theorem zjt {K:W.Frag} {ι:Io} {H:Hp} {ds:List D} {vs:List V} {N:List Str} (h:zar K ι H ds vs):zcH K ι H (zi3 N.length ds) (L2.zfw N vs):=by
 have hl:=h.length
 unfold zi3 L2.zfw
 refine ⟨by simp [hl],fun i d e=> ?_⟩
 by_cases hi:i<ds.length
 ·rw [qad (by simpa using hi),List.getElem?_map] at e
  cases z:ds[i]? with
  | none=>rw [z] at e;cases e
  | some d'=>
   rw [z] at e
   cases e
   obtain ⟨v,h1,h2⟩:=h.get z
   exact ⟨v,by rw [qad (by rw [qaH, <-hl];exact hi),List.getElem?_map,h1];rfl,h2⟩
 ·rw [qaa (by simpa using hi),List.getElem?_replicate] at e
  split at e<;>cases e
section
variable {P:Program} {w:World} {K:W.Frag} {mg:Str->Option Value} {base:Heap}
theorem zaS {x qual:Str} {st:Stmt} {f:Addr} {fd:FuncData} {N ps:List Str} {k:Nat} {G:Sd->M Out} (F:Fun K x qual st f fd) (S:zam N ps (zae st))
  (hb: ∀ (cdv:Value) (A:Around) (outer:List Env) (s:Shared) (H:Hp) (E:XK),zel k (A.deeper (envOfC qual (zae st) s.heap.objs.size f cdv))->SSs (zn9 CX0 P w K mg base N qual (zae st) f cdv A outer s H E).nox E0x (zdb st) G):
  zbn P w K mg base CX0 (k+1) f fd ps (zbH K ps.length (zb2 N.length G)):=by
 refine F.ok S (fun vs H Q E h=>h.1) fun cdv A outer s H vs Q E hr ⟨hl,ι,h,ds,rl,hh,q⟩=>⟨_,hb cdv A outer s H E hr,ι,h,zi3 N.length ds,zjt rl,hh,?_⟩
 refine Fin.bind q fun o h1 ι1 H1 e1 s1 hr1 q1=> ?_
 cases o with
 | nx sd=>exact fun σ' _=>Fin.out hr1 q1 _ (by simp [Rel])
 | rt d=>exact fun v rv=>Fin.out hr1 q1 v rv
 | bk sd=>exact qa0 q1
 | ct sd=>exact qa0 q1
end
section
variable {X:Cx} {e:Expr} {es:List Expr} {pos p:Pos}
noncomputable def zal (n:Nat) (F:List D->M D) (ds:List D):M D:=if ds.length=n then F ds else M.bad
theorem zpR {k:Nat} {f:Addr} {fd:FuncData} {ps:List Str} {n:Nat} {F:List D->M D} {fs:Sd->M (List D)} {x:Str} (G:zbn X.prog X.w X.K X.mg X.base CX0 k f fd ps (zbH X.K n F)) (hr:zel k X.A) (hg:Gl X x) (hm:X.mg x=some (.ref f)) (hk:W.keepIn X.K (.ref f)=true) (hb:zaF X.K fd ps [])
  (ha:SA X E0x (e::es) fs) (hdb:(x==("__debug__":Str))=false:=by decide) (he:starEach (e::es) X.env=(false,eval e X.env)::starEach es X.env:=by rfl) (hpl:(backTo pos (starEach es X.env)).any (·.1)=false:=by rfl):
  SE X E0x (.Call (.Name x p) (e::es) [] pos) (fun sd=>do let ds<-fs sd;zal n F ds):=by
 refine PE.imp (zox G hr hg hm hk hb (dvs:=[]) .nil (E:=fun _ _ _=>False) ztG ha hdb he hpl) fun σ H Q ⟨ι,h,sd,L,hh,q⟩=>⟨ι,h,sd,L,hh,Fin.bind q fun ds h1 ι1 H1 e1 s1 hr1 q1 vs rv=> ?_⟩
 show zbH X.K n F (vs++[]) H1 Q _
 rw [List.append_nil]
 unfold zal at q1
 by_cases hl:ds.length=n
 ·rw [qa4 hl] at q1
  exact ⟨by rw [<- rv.length];exact hl,ι1,h1,ds,rv,hr1,q1⟩
 ·rw [qa5 hl] at q1
  exact qa0 q1
end
section
variable {X:Cx} {E:XE}
theorem Fin.guard {α:Type} {K:W.Frag} {ι:Io} {H:Hp} {h:Hh} {c:Prop} [Decidable c] {f:M α} {P:α->Io->Hp->Prop} (q:Fin K E ι H ((if c then f else M.bad) h) P):c/\Fin K E ι H (f h) P:=by
 by_cases hc:c
 ·rw [qa4 hc] at q;exact ⟨hc,q⟩
 ·rw [qa5 hc] at q;exact qa0 q
theorem zmL:OpR X (binaryOp .Add) (fun x y H Q=> ∃ a b ys,x= .ref a/\y= .ref b/\SqT X.K H a []/\SqT X.K H b ys/\Q (.ref b) H):=by
 intro pins s σ H x y v u Q I rx ry h
 obtain ⟨a,b,ys,rfl,rfl,ha,hb,q⟩:=h
 cases rx
 cases ry
 obtain ⟨its,r1,p1,_⟩:=I.tuple ha
 obtain ⟨its2,r2,p2,_⟩:=I.tuple hb
 cases r1
 obtain ⟨⟨cls,dd,data,sl⟩,ho,hc,n,hd⟩:=id p1
 obtain ⟨⟨cls2,dd2,data2,sl2⟩,ho2,hc2,n2,hd2⟩:=id p2
 simp only at hc hd hc2 hd2
 subst hc hd hc2 hd2
 exact concat_meets ⟨_,ho,rfl⟩ ⟨_,ho2,rfl⟩ noFill_tuple_add seq_tuple_add PySem.F.slot_tuple_add PySem.F.entry_tuple_add (PySem.F.args_tuple_add_2 _ _)
   (tuple_addW0 a b _ _ n n2 dd dd2 sl sl2 (by simp)) ⟨ho,ho2,⟨.ref b,H,I,rfl,q⟩⟩
noncomputable def zdJ (x y:D):M D:=match x,y with
 | .int i,.int j=>pure (.int (i+j))
 | .tup xs,.tup ys=>do fits (xs.length+ys.length);pure (.tup (xs++ys))
 | .lst xs,.lst ys=>do fits (xs.length+ys.length);pure (.lst (xs++ys))
 | .str x,.str y=>do fits (x.length+y.length);pure (.str (x++y))
 | _,_=>M.bad
theorem zaN:OpR X (binaryOp .Add) (zd7 X.K E zdJ):=by
 refine OpR.imp (zrX.or (zmL.or (zof.or (zqE.or zjg)))) fun x y H Q ⟨ι,h,d1,d2,r1,r2,hr,q⟩=> ?_
 unfold zdJ at q
 split at q
 ·simp only [Rel] at r1 r2
  exact .inl ⟨_,_,r1,r2,Fin.out hr q _ (by simp [Rel])⟩
 ·rename_i xs ys
  right
  obtain ⟨a,vs,e,h1,h2⟩:=zc0 r1
  obtain ⟨b,ws,e',h1',h2'⟩:=zc0 r2
  obtain ⟨z,q⟩:=Fin.fits q
  cases xs with
  | nil=>
   simp only [zar] at h2
   subst h2
   exact .inl ⟨a,b,ws,e,e',h1,h1',Fin.out hr q _ (by rw [<- e'];exact r2)⟩
  | cons x0 xr=>
   refine .inr (.inl ⟨a,b,vs,ws,e,e',h1,h1',fun z=> ?_,by rw [<- h2.length, <-h2'.length];exact z,fun z=> ?_,fun z p hp=>zoo hr (h2.append h2') q hp⟩)
   ·subst z
    have:=h2.length
    cases this
   ·subst z
    have:=h2'.length
    cases ys with
    | nil=>rw [List.append_nil] at q;exact Fin.out hr q _ (by rw [<- e];exact r1)
    | cons _ _=>cases this
 ·rename_i xs ys
  right;right;right;left
  simp only [Rel] at r1 r2
  obtain ⟨a,vs,e,h1,h2⟩:=r1
  obtain ⟨b,ws,e',h1',h2'⟩:=r2
  obtain ⟨z,q⟩:=Fin.fits q
  exact ⟨a,b,vs,ws,e,e',h1.1,h1'.1,by rw [<- h2.length, <-h2'.length];exact z,fun p hp=>zpG hr (h2.append h2') q hp⟩
 ·simp only [Rel] at r1 r2
  obtain ⟨z,q⟩:=Fin.fits q
  exact .inr (.inr (.inr (.inr ⟨_,_,r1,r2,z,Fin.out hr q _ (by simp [Rel])⟩)))
 ·exact qa0 q
noncomputable def dII (C:Int->Int->Bool) (g:Int->Int->D) (x y:D):M D:=match x,y with
 | .int i,.int j=>if C i j=true then pure (g i j) else M.bad
 | _,_=>M.bad
theorem zmo {f:Value->Value->Sem Value} {C:Int->Int->Bool} {C':Int->Int->Prop} {g:Int->Int->V} {g':Int->Int->D} (ho:OpR X f (rI C' g)) (hc: ∀ i j,C i j=true->C' i j) (hg: ∀ i j ι H,Rel X.K ι H (g' i j) (g i j)):OpR X f (zd7 X.K E (dII C g')):=by
 refine OpR.imp ho fun x y H Q ⟨ι,h,d1,d2,r1,r2,hr,q⟩=> ?_
 unfold dII at q
 split at q
 ·simp only [Rel] at r1 r2
  obtain ⟨c,q⟩:=Fin.guard q
  exact ⟨_,_,r1,r2,hc _ _ c,Fin.out hr q _ (hg _ _ _ _)⟩
 ·exact qa0 q
theorem zfW {f:Value->Value->Sem Value} {g:Int->Int->V} {g':Int->Int->D} (ho:OpR X f (rI0 g)) (hg: ∀ i j ι H,Rel X.K ι H (g' i j) (g i j)):OpR X f (zd7 X.K E (dII (fun _ _=>true) g')):=by
 refine OpR.imp ho fun x y H Q ⟨ι,h,d1,d2,r1,r2,hr,q⟩=> ?_
 unfold dII at q
 split at q
 ·simp only [Rel] at r1 r2
  obtain ⟨c,q⟩:=Fin.guard q
  exact ⟨_,_,r1,r2,Fin.out hr q _ (hg _ _ _ _)⟩
 ·exact qa0 q
noncomputable def zo6:=dII (fun _ _=>true) fun i j=> .int (i - j)
theorem zgp:OpR X (binaryOp .Sub) (zd7 X.K E zo6):=zfW zqm fun _ _ _ _=>by simp [Rel]
noncomputable def zba (i:Int):Bool:=decide (-(2^64)<i) && decide (i<2^64)
theorem zcO {i:Int} (h:zba i=true): -(2^64)<i/\i<2^64:=by unfold zba at h;simpa using h
theorem zms:OpR X (binaryOp .FloorDiv) (rI (fun _ j=>0<j/\j<2^64) fun i j=> .int (i / j)):=opI fun i j _ _ _ _ _ hc q=>by
 refine floordiv_int (by omega) (by rw [Int.fdiv_eq_ediv_of_nonneg _ (by omega)];exact q) (.inl (PyProof.noPylong_of_log2 ?_))
 have h1:j.natAbs<2^64:=by omega
 have h0:j.natAbs≠0:=by omega
 exact Nat.lt_trans ((Nat.log2_lt h0).mpr h1) (by decide)
noncomputable def zpk:=dII (fun _ j=>decide (0<j) && decide (j<2^64)) fun i j=> .int (i / j)
theorem znj:OpR X (binaryOp .FloorDiv) (zd7 X.K E zpk):=zmo zms (fun i j h=>by simpa using h) fun _ _ _ _=>by simp [Rel]
noncomputable def zqv:=dII (fun _ j=>decide (0<j)) fun i j=> .int (i % j)
theorem zif:OpR X (binaryOp .Mod) (zd7 X.K E zqv):=zmo zrw (fun i j h=>by simpa using h) fun _ _ _ _=>by simp [Rel]
noncomputable def ztr (i j:Int):Bool:=decide (0<=j) && decide (j<=1000000) && decide (i.natAbs<2^64)
noncomputable def zsu:=dII ztr fun i j=> .int (i^j.toNat)
theorem zmM {i j:Int} (h:ztr i j=true):zte i j:=by unfold ztr at h;simpa [zte,and_assoc] using h
theorem zpj:OpR X (binaryOp .Pow) (zd7 X.K E zsu):=zmo zqQ (fun _ _=>zmM) fun _ _ _ _=>by simp [Rel]
noncomputable def zue:=dII (fun _ _=>true) fun i j=> .int (Builtin.bitAnd i j)
noncomputable def dOr:=dII (fun _ _=>true) fun i j=> .int (Builtin.bitOr i j)
theorem zqR:OpR X (binaryOp .BitOr) (zd7 X.K E dOr):=zfW ztm fun _ _ _ _=>by simp [Rel]
noncomputable def dLt:=dII (fun _ _=>true) fun i j=> .bl (decide (i<j))
theorem zg4:OpR X (compareOp .Lt) (zd7 X.K E dLt):=zfW zta fun _ _ _ _=>by simp [Rel]
noncomputable def dLe:=dII (fun _ _=>true) fun i j=> .bl (decide (i<=j))
theorem znT:OpR X (compareOp .LtE) (zd7 X.K E dLe):=zfW zsZ fun _ _ _ _=>by simp [Rel]
noncomputable def dGt:=dII (fun _ _=>true) fun i j=> .bl (decide (j<i))
theorem zi0:OpR X (compareOp .Gt) (zd7 X.K E dGt):=zfW ztI fun _ _ _ _=>by simp [Rel]
noncomputable def dGe:=dII (fun _ _=>true) fun i j=> .bl (decide (j<=i))
theorem zqV:OpR X (compareOp .GtE) (zd7 X.K E dGe):=zfW ztf fun _ _ _ _=>by simp [Rel]
noncomputable def znJ:D->M D
 | .int i=>pure (.int (-i))
 | _=>M.bad
theorem zrJ {a:Expr} {pos:Pos} {fa:Sd->M D} (ha:SE X E a fa):SE X E (.UnaryOp .USub a pos) (fun sd=>do let x<-fa sd;znJ x):=by
 refine PE.imp (zsX zri ha) fun σ H Q ⟨ι,h,sd,L,hh,q⟩=>⟨ι,h,sd,L,hh,Fin.bind q fun d h1 ι1 H1 e1 s1 hr1 q1 v rv=> ?_⟩
 cases d with
 | int i=>simp only [Rel] at rv;exact ⟨i,rv,Fin.out hr1 q1 _ (by simp [Rel])⟩
 | _=>exact qa0 q1
mutual
noncomputable def pd:D->Option PyData
 | .non=>some .none
 | .bl b=>some (.bool b)
 | .int i=>some (.int i)
 | .str x=>some (.str x)
 | .tup xs=>(pdL xs).map .tuple
 | .lst xs=>(pdL xs).map .list
 | .scr xs=>(pdL xs).map .list
 | _=>none
noncomputable def pdL:List D->Option (List PyData)
 | []=>some []
 | x::xs=>match pd x,pdL xs with
  | some a,some r=>some (a::r)
  | _,_=>none
end
mutual
theorem ze3 {pins:List (Addr×Obj)} {σ:L2.St} {H:Hp} {s:Shared} {ι:Io} (I:Inv X pins σ H s): ∀ {d:D} {v:V} {u:Value} {p:PyData},Rel X.K ι H d v->zb1 v u->pd d=some p-> ∃ as,Reads s.heap u p as
 | .non,v,u,p,r,ru,e=>by simp only [Rel] at r;subst r;cases ru;cases e;exact ⟨_,.none⟩
 | .bl b,v,u,p,r,ru,e=>by simp only [Rel] at r;subst r;cases ru;cases e;exact ⟨_,.bool _⟩
 | .int i,v,u,p,r,ru,e=>by simp only [Rel] at r;subst r;obtain ⟨t,rfl⟩:=ru;cases e;exact ⟨_,.int _ _⟩
 | .str i,v,u,p,r,ru,e=>by simp only [Rel] at r;subst r;obtain ⟨t,rfl⟩:=ru;cases e;exact ⟨_,.str _ _⟩
 | .tup ds,v,u,p,r,ru,e=>by
  obtain ⟨a,vs,rfl,h1,h2⟩:=zc0 r
  cases ru
  obtain ⟨its,rv,pl,_⟩:=I.tuple h1
  obtain ⟨o,ho,hc,n,hd⟩:=pl
  unfold pd at e
  cases z:pdL ds with
  | none=>rw [z] at e;cases e
  | some ps=>
   rw [z] at e;cases e
   obtain ⟨as,q⟩:=zhb I h2 rv z
   exact ⟨_,.tuple ho hc hd (by simpa using q)⟩
 | .lst ds,v,u,p,r,ru,e=>by
  obtain ⟨a,vs,rfl,h1,h2⟩:=ze9 r
  cases ru
  obtain ⟨its,rv,pl,_⟩:=I.list h1
  obtain ⟨o,ho,hc,n,hd⟩:=pl.isList
  unfold pd at e
  cases z:pdL ds with
  | none=>rw [z] at e;cases e
  | some ps=>
   rw [z] at e;cases e
   obtain ⟨as,q⟩:=zhb I h2 rv z
   exact ⟨_,.list ho hc hd (by simpa using q)⟩
 | .scr ds,v,u,p,r,ru,e=>by
  obtain ⟨a,vs,rfl,h1,h2⟩:=zlW r
  cases ru
  obtain ⟨its,rv,pl,_⟩:=I.list h1
  obtain ⟨o,ho,hc,n,hd⟩:=pl.isList
  unfold pd at e
  cases z:pdL ds with
  | none=>rw [z] at e;cases e
  | some ps=>
   rw [z] at e;cases e
   obtain ⟨as,q⟩:=zhb I h2 rv z
   exact ⟨_,.list ho hc hd (by simpa using q)⟩
 | .cel n,_,_,_,_,_,e=>by cases e
 | .set xs,_,_,_,_,_,e=>by cases e
 | .dct,_,_,_,_,_,e=>by cases e
 | .fn _,_,_,_,_,_,e=>by cases e
 | .exn _,_,_,_,_,_,e=>by cases e
theorem zhb {pins:List (Addr×Obj)} {σ:L2.St} {H:Hp} {s:Shared} {ι:Io} (I:Inv X pins σ H s): ∀ {ds:List D} {vs:List V} {us:List Value} {ps:List PyData},zar X.K ι H ds vs->za3 vs us->pdL ds=some ps-> ∃ as,ReadsAll s.heap us ps as
 | [],vs,us,ps,r,ru,e=>by simp only [zar] at r;subst r;cases ru;cases e;exact ⟨_,.nil⟩
 | d::ds,vs,us,ps,r,ru,e=>by
  simp only [zar] at r
  obtain ⟨v,vr,rfl,r1,r2⟩:=r
  cases ru with
  | cons ru1 ru2=>
   unfold pdL at e
   cases z:pd d with
   | none=>rw [z] at e;cases e
   | some a=>
    cases z2:pdL ds with
    | none=>rw [z,z2] at e;cases e
    | some b=>
     rw [z,z2] at e
     cases e
     obtain ⟨as,q1⟩:=ze3 I r1 ru1 z
     obtain ⟨bs,q2⟩:=zhb I r2 ru2 z2
     exact ⟨_,.cons q1 q2⟩
end
noncomputable def zgo (a b:PyData):Bool:=a.canLay0 && b.canLay0 && decide (min a.depth b.depth<=60)
noncomputable def zj1 (neg:Bool) (x y:D):M D:=match pd x,pd y with
 | some a,some b=>if zgo a b=true then pure (.bl (if neg then !PyData.eqv a b else PyData.eqv a b)) else M.bad
 | _,_=>M.bad
noncomputable def dEq:=zj1 false
noncomputable def dNe:=zj1 true
theorem ziy {a b:PyData} (h:zgo a b=true):a.canLay0=true/\b.canLay0=true/\min a.depth b.depth<=60:=by unfold zgo at h;simpa [and_assoc] using h
theorem ziv {K:W.Frag} {ι:Io} {H:Hp} {h:Hh} {neg:Bool} {x y:D} {P:D->Io->Hp->Prop} (q:Fin K E ι H (zj1 neg x y h) P): ∃ a b,pd x=some a/\pd y=some b/\zgo a b=true/\Fin K E ι H ((pure (.bl (if neg then !PyData.eqv a b else PyData.eqv a b)):M D) h) P:=by
 unfold zj1 at q
 cases e1:pd x with
 | none=>rw [e1] at q;exact qa0 q
 | some a=>
  cases e2:pd y with
  | none=>rw [e1,e2] at q;exact qa0 q
  | some b=>
   rw [e1,e2] at q
   obtain ⟨c,q⟩:=Fin.guard q
   exact ⟨a,b,rfl,rfl,c,q⟩
theorem zdv (hu:X.A.units+60<cLine):OpR X (compareOp .Eq) (zd7 X.K E dEq):=by
 intro pins s σ H x y v u Q I rx ry ⟨ι,h,d1,d2,r1,r2,hr,q⟩
 obtain ⟨a,b,e1,e2,c,q2⟩:=ziv q
 obtain ⟨c1,c2,c3⟩:=ziy c
 obtain ⟨as,ra⟩:=ze3 I r1 rx e1
 obtain ⟨bs,rb⟩:=ze3 I r2 ry e2
 exact SeqAt.compareEq_reads ra rb c1 c2 (by omega) ⟨.bl _,H,I,rfl,Fin.out hr q2 (.bl _) (by simp [Rel])⟩
theorem zcV (hu:X.A.units+60<cLine):OpR X (compareOp .NotEq) (zd7 X.K E dNe):=by
 intro pins s σ H x y v u Q I rx ry ⟨ι,h,d1,d2,r1,r2,hr,q⟩
 obtain ⟨a,b,e1,e2,c,q2⟩:=ziv q
 obtain ⟨c1,c2,c3⟩:=ziy c
 obtain ⟨as,ra⟩:=ze3 I r1 rx e1
 obtain ⟨bs,rb⟩:=ze3 I r2 ry e2
 exact SeqAt.compareNe_reads ra rb c1 c2 (by omega) ⟨.bl _,H,I,rfl,Fin.out hr q2 (.bl _) (by simp [Rel])⟩
noncomputable def zjI (a:PyData) (xs:List PyData):Bool:=a.canLay0 && PyData.canLayAll0 xs && decide (min (PyData.depthAll xs) a.depth<=50)
theorem ziB {a:PyData} {xs:List PyData} (h:zjI a xs=true):a.canLay0=true/\PyData.canLayAll0 xs=true/\min (PyData.depthAll xs) a.depth<=50:=by unfold zjI at h;simpa [and_assoc] using h
noncomputable def zj5 (neg:Bool) (x c:D):M D:=match pd x,c with
 | some a,.tup ds=>match pdL ds with
  | some xs=>if zjI a xs=true then pure (.bl (if neg then !xs.any (fun y=>PyData.eqv y a) else xs.any fun y=>PyData.eqv y a)) else M.bad
  | none=>M.bad
 | some a,.lst ds=>match pdL ds with
  | some xs=>if zjI a xs=true then pure (.bl (if neg then !xs.any (fun y=>PyData.eqv y a) else xs.any fun y=>PyData.eqv y a)) else M.bad
  | none=>M.bad
 | _,_=>M.bad
noncomputable def dIn:=zj5 false
noncomputable def zfj:=zj5 true
theorem zik {K:W.Frag} {ι:Io} {H:Hp} {h:Hh} {neg:Bool} {x c:D} {P:D->Io->Hp->Prop} (q:Fin K E ι H (zj5 neg x c h) P): ∃ a ds xs,pd x=some a/\pdL ds=some xs/\(c= .tup ds\/c= .lst ds)/\zjI a xs=true/\
  Fin K E ι H ((pure (.bl (if neg then !xs.any (fun y=>PyData.eqv y a) else xs.any fun y=>PyData.eqv y a)):M D) h) P:=by
 unfold zj5 at q
 cases e1:pd x with
 | none=>rw [e1] at q;exact qa0 q
 | some a=>
  rw [e1] at q
  cases c with
  | tup ds=>
   dsimp only at q
   cases e2:pdL ds with
   | none=>rw [e2] at q;exact qa0 q
   | some xs=>
    rw [e2] at q
    obtain ⟨c,q⟩:=Fin.guard q
    exact ⟨a,ds,xs,rfl,e2,.inl rfl,c,q⟩
  | lst ds=>
   dsimp only at q
   cases e2:pdL ds with
   | none=>rw [e2] at q;exact qa0 q
   | some xs=>
    rw [e2] at q
    obtain ⟨c,q⟩:=Fin.guard q
    exact ⟨a,ds,xs,rfl,e2,.inr rfl,c,q⟩
  | _=>exact qa0 q
theorem zgW (hu:X.A.units+60<cLine):OpR X (compareOp .In) (zd7 X.K E dIn):=by
 intro pins s σ H x y v u Q I rx ry ⟨ι,h,d1,d2,r1,r2,hr,q⟩
 obtain ⟨a,ds,xs,e1,e2,ec,c,q2⟩:=zik q
 obtain ⟨c1,c2,c3⟩:=ziB c
 obtain ⟨as,ra⟩:=ze3 I r1 rx e1
 rcases ec with rfl | rfl
 ·obtain ⟨bs,rb⟩:=ze3 I r2 ry (p:= .tuple xs) (by unfold pd;rw [e2];rfl)
  exact SeqAt.in_tuple_reads rb ra c2 c1 (by omega) ⟨.bl _,H,I,rfl,Fin.out hr q2 (.bl _) (by simp [Rel])⟩
 ·obtain ⟨bs,rb⟩:=ze3 I r2 ry (p:= .list xs) (by unfold pd;rw [e2];rfl)
  exact SeqAt.in_list_reads rb ra c2 c1 (by omega) ⟨.bl _,H,I,rfl,Fin.out hr q2 (.bl _) (by simp [Rel])⟩
theorem zfe (hu:X.A.units+60<cLine):OpR X (compareOp .NotIn) (zd7 X.K E zfj):=by
 intro pins s σ H x y v u Q I rx ry ⟨ι,h,d1,d2,r1,r2,hr,q⟩
 obtain ⟨a,ds,xs,e1,e2,ec,c,q2⟩:=zik q
 obtain ⟨c1,c2,c3⟩:=ziB c
 obtain ⟨as,ra⟩:=ze3 I r1 rx e1
 rcases ec with rfl | rfl
 ·obtain ⟨bs,rb⟩:=ze3 I r2 ry (p:= .tuple xs) (by unfold pd;rw [e2];rfl)
  exact SeqAt.notIn_tuple_reads rb ra c2 c1 (by omega) ⟨.bl _,H,I,rfl,Fin.out hr q2 (.bl _) (by simp [Rel])⟩
 ·obtain ⟨bs,rb⟩:=ze3 I r2 ry (p:= .list xs) (by unfold pd;rw [e2];rfl)
  exact SeqAt.notIn_list_reads rb ra c2 c1 (by omega) ⟨.bl _,H,I,rfl,Fin.out hr q2 (.bl _) (by simp [Rel])⟩
end
end L3
namespace HT
open PySem PySem.Spec PyProof.Rows L2
section
variable {prog:Program} {w:World} {A:Around} {E:Value->Shared->Prop} {s:Shared}
theorem zdC {t sl:Addr} {items:Array Value} {vl vu:Value} {lo hi:Option Int} {Q:Value->Shared->Prop} (ht:IsTup s.heap t items) (hs:s.heap.IsSliceOf sl vl vu .none) (pl:IsPart vl lo) (pu:IsPart vu hi)
  (hw:sIx items.size 0 lo=0/\sIx items.size items.size hi=items.size) (h:Q (.ref t) s):wpAny (model prog w) A (getItem (.ref t) (.ref sl)) Q E s:=by
 obtain ⟨os,hos,hcs,hds⟩:=id hs
 have hTs:s.TypeIs (.ref sl) "slice":=⟨os,hos,hcs⟩
 unfold getItem
 try with_reducible refine qaO ?_
 first | refine qaW (qaX ?_) | skip
 refine qaW (wpAny_sequenceKey ht.typeIs (by decide) ?_)
 refine qaW (wpAny_callSpecial?_slot (name:=Str.ofString "__getitem__") ht.typeIs PyProof.Rows.slot_tuple_getitem
   (wpAny_call_entry PyProof.Rows.slot_tuple_getitem ht.typeIs entry_tuple_getitem ?_ (args_tuple_getitem _ _)))
 show wpAny _ _ (Builtin.Tuple.tupleItemsOf (.ref t)>>=_) _ _ s
 refine qaW (tupleItemsOf_ ht ?_)
 refine qaW (wpAny_typeOf hTs ?_)
 rw [qa4 (by decide)]
 refine qaW (zcX hs pl pu ?_)
 show wpAny _ _ (if (((sIx items.size 0 lo:Nat):Int)==0 && (1:Int)==1 && (sIx items.size items.size hi - sIx items.size 0 lo)==items.size)=true then _ else _) _ _ s
 rw [hw.1,hw.2,qa4 (by simp)]
 refine qaW (m:=Builtin.Tuple.tupleIsExact _) (qaW (wpAny_typeOf ht.typeIs (qaX ?_)))
 rw [qa4 (by decide)]
 refine qaW (wpAny_rule ?_)
 exact qaX ⟨_,rfl,qaX h⟩
end
end HT
namespace L2
open PySem PySem.Spec PyProof.Rows
section
variable {X:Cx} {e:Expr} {te:TE} {pos p2:Pos}
theorem zog:SlR X (fun x lo hi H Q=> ∃ a xs,x= .ref a/\SqT X.K H a xs/\(HT.sIx xs.length 0 lo=0/\HT.sIx xs.length xs.length hi=xs.length)/\Q (.ref a) H):=by
 intro pins s σ H x v vl vu lo hi sl Q I rx hs pl pu h
 obtain ⟨a,xs,rfl,hx,hw,q⟩:=h
 cases rx
 obtain ⟨its,r,ht,hz⟩:=I.tuple hx
 have hlen:its.toArray.size=xs.length:=by rw [qaA];exact r.length.symm
 refine ⟨"tuple",_,PyProof.Rows.slot_tuple_getitem.lookup,ht.typeIs,?_⟩
 exact HT.zdC ht hs pl pu (by rw [hlen];exact hw) ⟨.ref a,H,I,rfl,q⟩
theorem zeC:fillsNumberSlot (.type "tuple") "mul"=pure false:=
 PySem.fillsNumberSlot_seq (id:="tuple.__mul__") (r:=some (.builtin "tuple.__rmul__")) F.slot_tuple_mul.lookup (by decide +kernel) F.slot_tuple_rmul.lookup (by decide +kernel)
theorem zhr:seqRepeat? (.type "tuple")=pure (some (.builtin "tuple.__mul__")):=by
 unfold seqRepeat?
 rw [PySem.seqSlot_of (T:="tuple") (name:="__mul__") (id:="tuple.__mul__") F.slot_tuple_mul.lookup (by decide +kernel),PySem.seqSlot_of (T:="tuple") (name:="__rmul__") (id:="tuple.__rmul__") F.slot_tuple_rmul.lookup (by decide +kernel)]
 rfl
theorem zft (k:Int) (t:Tok) (l:Addr) (items:Array Value) (n:Nat) (dd:Option Addr) (sl:Array (Option Value)):
  Meets (Builtin.«int.__rmul__» ⟨[.int k t,.ref l],[]⟩) (fun _ R s=>s.heap.get? l=some {cls:= .type "tuple",dict:=dd,data:= .seq items n,slots:=sl}/\R (.ok (.ret Value.notImplemented)) s):=
 .of_wp fun prog w A R s h=>by obtain ⟨hp,g,d,tk,os⟩:=s;obtain ⟨hl,h⟩:=h;wp_walk;exact ⟨_,rfl,h⟩
theorem zk2 (k:Int) (t:Tok) (l:Addr) (items:Array Value) (n:Nat) (dd:Option Addr) (sl:Array (Option Value)) (hne:items.isEmpty=false) (hk:2<=k) (hk2:k<1000) (hz:items.size*k.toNat<=sizeLine):
  Meets (Builtin.«tuple.__mul__» ⟨[.ref l,.int k t],[]⟩) (fun _ R s=>s.heap.get? l=some {cls:= .type "tuple",dict:=dd,data:= .seq items n,slots:=sl}/\
    R (.ok (.ret (.ref s.heap.objs.size))) {s with heap:=s.heap.push {cls:= .type "tuple",data:= .seq ((List.replicate k.toNat items).foldl (· ++ ·) #[])}}):=
 .of_wp fun prog w A R s h=>by
  obtain ⟨hp,g,d,tk,os⟩:=s;obtain ⟨hl,h⟩:=h
  unfold Builtin.«tuple.__mul__» 
  wp_walk
  have hk63: ¬(decide (k< -2^63) || decide (k>=2^63))=true:=by
   rw [Bool.or_eq_true,qaD,qaD]
   omega
  rw [qa5 hk63]
  dsimp only
  have ht:IsTup hp l items:=⟨_,hl,rfl,_,rfl⟩
  refine qaW (tupleItemsOf_ ht ?_)
  have h1: ¬(items.isEmpty || k==1)=true:=by
   rw [hne,Bool.false_or,beq_iff_eq]
   omega
  rw [qa5 h1]
  have h2: ¬(decide (k<=0) || items.isEmpty)=true:=by
   rw [hne,Bool.or_false,qaD]
   omega
  rw [qa5 h2]
  have hk0:((k.toNat:Nat):Int)=k:=Int.toNat_of_nonneg (by omega)
  have hm:((items.size:Nat):Int)*k=((items.size*k.toNat:Nat):Int):=by rw [Int.natCast_mul,hk0]
  have hsl:(sizeLine:Nat)=16777216:=by decide
  have h3: ¬((items.size:Int)*k>(2^63 - 1) / 8):=by
   rw [hm]
   omega
  rw [qa5 h3]
  have h4: ¬Builtin.Tuple.tupleTooMany ((items.size:Int)*k)=true:=by
   unfold Builtin.Tuple.tupleTooMany
   rw [hm,qaD]
   omega
  rw [qa5 h4]
  have hsz:sizeOk (.seq (List.foldl (fun x1 x2=>x1++x2) #[] (List.replicate k.toNat items))):=by
   show (List.foldl (fun x1 x2=>x1++x2) #[] (List.replicate k.toNat items)).size<=sizeLine
   have e: ∀ (m:Nat) (acc:Array Value),(List.foldl (fun x1 x2=>x1++x2) acc (List.replicate m items)).size=acc.size+m*items.size:=by
    intro m
    induction m with
    | zero=>intro acc;simp
    | succ m ih=>intro acc;rw [List.replicate_succ,List.foldl_cons,ih,Array.size_append,Nat.succ_mul];omega
   rw [e,Nat.mul_comm]
   simpa using hz
  exact qaW (m:=Builtin.Tuple.tupleExact _) (qaC (qaX ⟨_,rfl,h⟩) hsz)
theorem zpT:OpR X (binaryOp .Mult) (fun x y H Q=> ∃ a k xs,x= .ref a/\y= .int k/\SqT X.K H a xs/\xs≠[]/\2<=k/\k<1000/\xs.length*k.toNat<=sizeLine/\ ∀ p,H p=none->Q (.ref p) (upd H p (.tup (List.replicate k.toNat xs).flatten))):=by
 intro pins s σ H x y v u Q I rx ry h
 obtain ⟨a,k,xs,rfl,rfl,hx,hne,h1,h2,hz,q⟩:=h
 cases rx
 obtain ⟨t,rfl⟩:=ry
 obtain ⟨its,r,ht,_⟩:=I.tuple hx
 have hl:=r.length
 obtain ⟨⟨cls,dd,data,sl⟩,ho,hc,n,hd⟩:=id ht
 simp only at hc hd
 subst hc hd
 have hemp:its.toArray.isEmpty=false:=by
  cases its with
  | nil=>cases r;exact absurd rfl hne
  | cons _ _=>simp
 refine wpAny_binaryOp_repeat_ref (T:="tuple") (U:="int") (by decide) ⟨_,ho,rfl⟩ (fun s'=>typeIs_int s' k t) zeC F.fills_int_mul F.slot_int_rmul zhr F.slot_int_index.lookup
  (call_meets F.slot_int_rmul (typeIs_int s k t) F.entry_int_rmul (F.args_int_rmul_2 _ _) (zft k t a its.toArray n dd sl)
    ⟨ho,rfl,⟨_,ho,rfl⟩,call_meets F.slot_tuple_mul ⟨_,ho,rfl⟩ F.entry_tuple_mul (F.args_tuple_mul_2 _ _) (zk2 k t a its.toArray n dd sl hemp h1 h2 (by rw [qaA, <-hl];exact hz)) ⟨ho,?_⟩⟩)
 have hnew:List.foldl (fun x1 x2=>x1++x2) #[] (List.replicate k.toNat its.toArray)=(List.replicate k.toNat its).flatten.toArray:=by
  have:=zhe its k.toNat []
  rw [List.nil_append] at this
  exact this
 rw [hnew]
 refine ⟨.ref _,_,I.laid (t':=s.toks) (o:= .tup (List.replicate k.toNat xs).flatten) (fun b ob q=>qag _ q) (qaV _) ?_,rfl,q _ (I.hok.fresh (qaV _))⟩
 exact ⟨by rw [zo3,Nat.mul_comm];exact hz,_,r.rep k.toNat,IsTup.new _ _⟩
end
end L2
namespace LT
open PySem PySem.Spec PyProof.Rows
noncomputable abbrev Up (xs:Array Nat):Prop:=xs.toList.Pairwise (· < ·)
theorem Up.lt {xs:Array Nat} (h:Up xs) {i j:Nat} {a b:Nat} (hi:xs[i]? = some a) (hj:xs[j]? = some b) (hij:i<j):a<b:=by
 have hi':xs.toList[i]? = some a:=by simpa using hi
 have hj':xs.toList[j]? = some b:=by simpa using hj
 obtain ⟨h1,e1⟩:=qac.mp hi'
 obtain ⟨h2,e2⟩:=qac.mp hj'
 have:=List.pairwise_iff_getElem.mp h i j h1 h2 hij
 rw [e1,e2] at this
 exact this
theorem zgf {xs:Array Nat} (h:Up xs) (j:Nat): ∀ (fuel lo hi:Nat),hi - lo<=fuel->lo<=hi->hi<=xs.size->(∀ i a,i<lo->xs[i]? = some a->a<j)->(∀ i a,hi<=i->xs[i]? = some a->j<=a)->
  let r:=SetTable.below.go xs j fuel lo hi
  r<=xs.size/\(∀ i a,i<r->xs[i]? = some a->a<j)/\(∀ i a,r<=i->xs[i]? = some a->j<=a)
 | 0,lo,hi,hf,hl,hs,h1,h2=>by
  have e:lo=hi:=by omega
  subst e
  exact ⟨hs,h1,h2⟩
 | fuel+1,lo,hi,hf,hl,hs,h1,h2=>by
  unfold SetTable.below.go
  by_cases hlt:lo<hi
  ·rw [qa4 hlt]
   have hm:(lo+hi) / 2<xs.size:=by omega
   have em:xs[(lo+hi) / 2]? = some xs[(lo+hi) / 2]:=by simp [hm]
   have eg:xs.getD ((lo+hi) / 2) j=xs[(lo+hi) / 2]:=by simp [Array.getD,hm]
   dsimp only
   by_cases hc:xs.getD ((lo+hi) / 2) j<j
   ·rw [qa4 hc]
    refine zgf h j fuel _ hi (by omega) (by omega) hs (fun i a hi' e=> ?_) h2
    rw [eg] at hc
    by_cases z:i=(lo+hi) / 2
    ·subst z;rw [em] at e;cases e;exact hc
    ·exact Nat.lt_trans (h.lt e em (by omega)) hc
   ·rw [qa5 hc]
    refine zgf h j fuel lo _ (by omega) (by omega) (by omega) h1 fun i a hi' e=> ?_
    rw [eg] at hc
    by_cases z:i=(lo+hi) / 2
    ·subst z;rw [em] at e;cases e;omega
    ·have:=h.lt em e (by omega)
     omega
  ·rw [qa5 hlt]
   have e:lo=hi:=by omega
   subst e
   exact ⟨hs,h1,h2⟩
theorem zgC {xs:Array Nat} (h:Up xs) (j:Nat):SetTable.below xs j<=xs.size/\(∀ i a,i<SetTable.below xs j->xs[i]? = some a->a<j)/\(∀ i a,SetTable.below xs j<=i->xs[i]? = some a->j<=a):=
 zgf h j xs.size 0 xs.size (by omega) (Nat.zero_le _) (qaV _) (fun _ _ z=>absurd z (Nat.not_lt_zero _)) fun i a z e=>by
  have:=(qab.mp e).1
  omega
theorem zfC {xs:Array Nat} (h:Up xs) {k a:Nat} (e:xs[k]? = some a):SetTable.below xs (a+1)=k+1:=by
 obtain ⟨h1,h2,h3⟩:=zgC h (a+1)
 by_cases c:SetTable.below xs (a+1)<=k
 ·have:=h3 k a c e
  omega
 ·by_cases c2:k+1<SetTable.below xs (a+1)
  ·have hl:k+1<xs.size:=by omega
   have e2:xs[k+1]? = some xs[k+1]:=by simp [hl]
   have a1:=h2 (k+1) _ c2 e2
   have a2:=h.lt e e2 (by omega)
   omega
  ·omega
theorem zfG {xs:Array Nat} (h:Up xs):SetTable.below xs 0=0:=by
 obtain ⟨h1,h2,h3⟩:=zgC h 0
 by_cases c:SetTable.below xs 0=0
 ·exact c
 ·have hl:0<xs.size:=by omega
  exact absurd (h2 0 _ (by omega) (show xs[0]? = some xs[0] by simp [hl])) (Nat.not_lt_zero _)
theorem zks {xs:Array Nat} (h:Up xs) {j:Nat} (hn:xs[SetTable.below xs j]? ≠ some j):Up (SetTable.insertAt xs (SetTable.below xs j) j):=by
 obtain ⟨h1,h2,h3⟩:=zgC h j
 show (SetTable.insertAt xs (SetTable.below xs j) j).toList.Pairwise (· < ·)
 rw [SetTable.toList_insertAt]
 rw [qaq]
 have hsplit:xs.toList.take (SetTable.below xs j)++xs.toList.drop (SetTable.below xs j)=xs.toList:=List.take_append_drop ..
 have hp:(xs.toList.take (SetTable.below xs j)++xs.toList.drop (SetTable.below xs j)).Pairwise (· < ·):=by rw [hsplit];exact h
 obtain ⟨p1,p2,p3⟩:=qaq.mp hp
 have tk: ∀ a∈xs.toList.take (SetTable.below xs j),a<j:=fun a ha=>by
  obtain ⟨i,hi⟩:=List.mem_iff_getElem?.mp ha
  rw [List.getElem?_take] at hi
  split at hi
  ·rename_i hlt
   exact h2 i a hlt (by simpa using hi)
  ·cases hi
 have dr: ∀ a∈xs.toList.drop (SetTable.below xs j),j<a:=fun a ha=>by
  obtain ⟨i,hi⟩:=List.mem_iff_getElem?.mp ha
  rw [List.getElem?_drop] at hi
  have hi':xs[SetTable.below xs j+i]? = some a:=by simpa using hi
  have a1:=h3 _ a (by omega) hi'
  rcases Nat.lt_or_eq_of_le a1 with z | z
  ·exact z
  ·subst z
   exfalso
   cases i with
   | zero=>exact hn hi'
   | succ i=>
    have hl:=(qab.mp hi').1
    have e0:xs[SetTable.below xs j]? = some xs[SetTable.below xs j]:=by
     have:SetTable.below xs j<xs.size:=by omega
     simp [this]
    have b1:=h3 _ _ (qaV _) e0
    have b2:=h.lt e0 hi' (by omega)
    omega
 refine ⟨p1,qay.mpr ⟨dr,p2⟩,fun a ha b hb=> ?_⟩
 rcases qaP.mp hb with z | z
 ·rw [z];exact tk a ha
 ·exact p3 a ha b z
structure zh5 (t:SetTable) (led:Bool):Prop where
 up:Up t.place
 nod:t.dummies= #[]
 led:t.led=led
theorem ziY {j:Nat}:SetTable.has #[] j=false:=by
 unfold SetTable.has
 simp
theorem zl7 {t:SetTable} {led:Bool} (g:zh5 t led) {j:Nat} (h:t.slot j= .empty):t.place[SetTable.below t.place j]? ≠ some j:=fun e=>by
 unfold SetTable.slot at h
 dsimp only at h
 rw [e] at h
 simp at h
theorem ziK {t:SetTable} {led:Bool} (g:zh5 t led) (f:Nat->Int) (h:Int): ∀ (fuel:Nat) (p:SetTable.Probe) (j:Nat) (d:Option Nat),p.dummy=none->SetTable.probe.go t f h fuel p=some (.empty j d)->t.slot j= .empty/\d=none
 | 0,_,_,_,_,e=>by cases e
 | fuel+1,p,j,d,hp,e=>by
  unfold SetTable.probe.go at e
  have adv: ∀ q:SetTable.Probe,q.dummy=none->(t.advance q).dummy=none:=fun q hq=>by
   unfold SetTable.advance
   split<;>exact hq
  split at e
  ·rename_i hs
   cases e
   exact ⟨hs,hp⟩
  ·rename_i hs
   exfalso
   unfold SetTable.slot at hs
   dsimp only at hs
   rw [g.nod,ziY] at hs
   split at hs<;>simp at hs
  ·split at e
   ·cases e
   ·exact ziK g f h fuel _ j d (adv p hp) e
theorem zgd {t:SetTable} {led:Bool} (g:zh5 t led) {h:Int} {j:Nat} {b:Bool} (e:t.freeSlot h=some (j,b)):t.place[SetTable.below t.place j]? ≠ some j:=by
 unfold SetTable.freeSlot at e
 split at e
 ·rename_i j' d' hpr
  obtain ⟨h1,h2⟩:=ziK g _ _ _ _ _ _ rfl hpr
  subst h2
  cases e
  exact zl7 g h1
 ·cases e
theorem zmi (n:Nat):Up (Array.range n):=by
 show (Array.range n).toList.Pairwise (· < ·)
 rw [Array.toList_range]
 exact List.pairwise_lt_range
theorem zcj {t:SetTable} {led:Bool} (g:zh5 t led) (n:Nat):zh5 (t.standIn n) led:=⟨zmi n,rfl,g.led⟩
theorem zhP {t:SetTable} {led:Bool} (g:zh5 t led) (es:Array (Int×Value)) (h:Int) (x:Value):zh5 (layNew t es h x).2.1 led:=by
 unfold layNew
 split
 ·rename_i slot wasDummy e
  have g2:zh5 (t.put slot).1 led:=by
   refine ⟨zks g.up (zgd g e),?_,g.led⟩
   show (if SetTable.has t.dummies slot then _ else t.dummies)= #[]
   rw [g.nod,ziY]
   rfl
  show zh5 ((t.put slot).1.orStandIn _) led
  unfold SetTable.orStandIn
  split
  ·exact g2
  ·exact zcj g2 _
 ·exact zcj g _
theorem zll {mask finger moves:Nat} {led plain:Bool} {hs:Array Int} {t:SetTable} {o:Array Nat} (e:SetTable.laid mask finger moves led plain hs=some (t,o)):zh5 t led:=by
 unfold SetTable.laid at e
 cases z:SetTable.layClean mask hs with
 | none=>rw [z] at e;cases e
 | some owner=>
  rw [z] at e
  have e:some (({mask,place:=(((List.range (mask+1)).filterMap fun j=>(owner.getD j none).map (j, ·)).map (·.1)).toArray,dummies:= #[],finger,led,moves,plain}:SetTable),_)=some (t,o):=e
  cases e
  refine ⟨?_,rfl,rfl⟩
  show (((List.range (mask+1)).filterMap fun j=>(owner.getD j none).map (j, ·)).map (·.1)).toArray.toList.Pairwise (· < ·)
  rw [List.toList_toArray,List.map_filterMap]
  have sub:List.Sublist ((List.range (mask+1)).filterMap fun j=>((owner.getD j none).map (j, ·)).map (·.1)) (List.range (mask+1)):=by
   generalize List.range (mask+1)=l
   induction l with
   | nil=>exact .slnil
   | cons a r ih=>
    rw [qat]
    cases q:owner.getD a none with
    | none=>exact ih.cons a
    | some v=>exact ih.cons₂ a
  exact List.pairwise_lt_range.sublist sub
theorem zgk {t:SetTable} {led:Bool} (g:zh5 t led) (es:Array (Int×Value)) (wanted:Nat):zh5 (relayAll t es wanted).2.1 led:=by
 unfold relayAll
 split
 ·rename_i t' order e
  have g2:zh5 t' t.led:=zll e
  rw [g.led] at g2
  dsimp only
  split
  ·exact g2
  ·exact zcj g _
 ·exact zcj g _
noncomputable def zcL (w:World):Bool:= !w.params.followText "set-order"
def zgL (prog:Program) (w:World) (h:Heap) (a:Addr) (S:Int->Bool) (n:Nat):Prop:=
 ∃ ob es ep tb,(h.get? a=some ob/\ob.ExactSet/\ob.data= .set es ep tb)/\ElemsOf (intKind prog w) es.toList/\(∀ k,S k=true↔ ∃ e∈es.toList,(intKind prog w).is k e.2=true)/\
  (es.size<scanBound/\tb.fits es.size=true/\es.size=n)/\zh5 tb (zcL w)
theorem zgL.move {prog:Program} {w:World} {h h':Heap} {a:Addr} {S S':Int->Bool} {n n':Nat} (g:zgL prog w h a S n) (k: ∀ ob,h.get? a=some ob->h'.get? a=some ob) (e: ∀ k,S k=S' k) (en:n=n'):zgL prog w h' a S' n':=by
 obtain ⟨ob,es,ep,tb,⟨h1,h2,h3⟩,h4,h5,⟨h6,h7,h8⟩,h9⟩:=g
 exact ⟨ob,es,ep,tb,⟨k ob h1,h2,h3⟩,h4,fun z=>by rw [<- e z];exact h5 z,⟨h6,h7,h8.trans en⟩,h9⟩
section
variable {prog:Program} {w:World} {A:Around} {E:Value->Shared->Prop} {s:Shared}
theorem stored {a:Addr} {ob:Obj} {es es':Array (Int×Value)} {ep:Nat} {tb tb':SetTable} {S:Int->Bool} {R:Unit->Shared->Prop} (ho:s.heap.get? a=some ob) (hx:ob.ExactSet) (hd:ob.data= .set es ep tb)
  (hE:ElemsOf (intKind prog w) es'.toList) (hS: ∀ k,S k=true↔ ∃ e∈es'.toList,(intKind prog w).is k e.2=true) (hb:es'.size<scanBound) (hf:tb'.fits es'.size=true) (hg:zh5 tb' (zcL w))
  (q: ∀ h',Heap.SameBut a s.heap h'->h'.get? a=some {ob with data:= .set es' (ep+1) tb'}->zgL prog w h' a S es'.size->R () {s with heap:=h'}):wpAny (model prog w) A (storeSet a es' tb') R E s:=by
 have put:=putSet_of es' tb' hd
 have at1:(s.heap.update a (Obj.putSet es' tb')).get? a=some {ob with data:= .set es' (ep+1) tb'}:=by
  have z:=qal (Obj.putSet es' tb') ho (by rw [put];rfl)
  rwa [put] at z
 exact wpAny_storeSet_of ho hd (q _ (Heap.SameBut.update ..) at1 ⟨_,es',ep+1,tb',⟨at1,hx,rfl⟩,hE,hS,⟨hb,hf,rfl⟩,hg⟩) (fits_of_scanBound hb)
theorem zt7 {a:Addr} {S:Int->Bool} {n:Nat} {k:Int} {t:Tok} {Q:Bool->Shared->Prop} (g:zgL prog w s.heap a S n) (room:n+1<scanBound)
  (q: ∀ h' b,Heap.SameBut a s.heap h'->zgL prog w h' a (fun z=>S z || decide (z=k)) (if S k then n else n+1)->Q b {s with heap:=h'}):
  wpAny (model prog w) A (setAddHashed a (.int k t) ((intKind prog w).hash k)) Q E s:=by
 have kis:(intKind prog w).is k (.int k t)=true:=intKind_is _ _ _ _
 obtain ⟨ob,es,ep,tb,⟨h1,h2,h3⟩,h4,h5,⟨h6,h7,h8⟩,h9⟩:=g
 have scn:(Value.int k t).scannable=true:=rfl
 unfold setAddHashed setAddHashedIn
 refine qaO (qaW (wpAny_setState_of h1 h3 h7 ?_))
 dsimp only
 rw [qa4 (byScan_of scn h6 h4)]
 refine qaW ?_
 unfold setAddByScan
 refine qaW (wpAny_rule (qaW (wpAny_setScan_of kis h1 h3 h7 h4 ?_)))
 cases fi:List.findIdx? (fun e=>(intKind prog w).is k e.2) es.toList with
 | some j=>
  obtain ⟨lj,pj,_⟩:=List.findIdx?_eq_some_iff_getElem.mp fi
  have inS:S k=true:=(h5 k).mpr ⟨_,List.getElem_mem lj,pj⟩
  refine qaX (qaX ?_)
  have z:=q s.heap false (Heap.SameBut.refl ..) ⟨ob,es,ep,tb,⟨h1,h2,h3⟩,h4,fun y=> ?_,⟨h6,h7,by rw [inS];exact h8⟩,h9⟩
  ·exact z
  ·rw [<- h5 y,Bool.or_eq_true,qaD]
   exact ⟨fun c=>c.elim id fun c=>by rw [c];exact inS,.inl⟩
 | none=>
  have noS:S k=false:=by
   rw [<- Bool.not_eq_true,h5 k]
   rintro ⟨e,he,pe⟩
   have:=List.findIdx?_eq_none_iff.mp fi e he
   rw [pe] at this
   cases this
  have L1:=layNew_perm tb es ((intKind prog w).hash k) (.int k t)
  have L2:=layNew_fits tb es ((intKind prog w).hash k) (.int k t)
  have L3:=zhP h9 es ((intKind prog w).hash k) (.int k t)
  generalize hl:layNew tb es ((intKind prog w).hash k) (.int k t)=ln at L1 L2 L3 ⊢
  obtain ⟨es1,tb1,wd,gv⟩:=ln
  dsimp only at L1 L2 L3 ⊢
  rw [Array.toList_push] at L1
  have E1:ElemsOf (intKind prog w) es1.toList:=(h4.push kis scn).perm L1
  have M1: ∀ y,(S y || decide (y=k))=true↔ ∃ e∈es1.toList,(intKind prog w).is y e.2=true:=mem_push_iff kis h5 L1
  have Z1:es1.size=n+1:=by
   have z:=L1.length_eq
   rw [qav,qas,qas] at z
   rw [z,h8];rfl
  have B1:es1.size<scanBound:=by rw [Z1];exact room
  have quiet: ∀ (b:Bool) (s1:Shared) (R:Unit->Shared->Prop),R () s1->wpAny (model prog w) A (match b with | true=>rule "set.scan.the-table-gave-way" | false=>pure ()) R E s1:=fun b s1 R z=>by
   cases b
   ·exact qaX z
   ·exact wpAny_rule z
  have fin: ∀ (s1:Shared) (h':Heap),s1={s with heap:=h'}->Heap.SameBut a s.heap h'->zgL prog w h' a (fun y=>S y || decide (y=k)) es1.size->Q true s1:=fun s1 h' e1 sb gg=>by
   subst e1
   have z:=q h' true sb
   rw [noS] at z
   exact z (by rw [Z1] at gg;exact gg)
  refine qaW (quiet _ _ _ ?_)
  have tail: ∀ (gw:Bool->Sem Unit),(∀ (b:Bool) (s1:Shared) (R:Unit->Shared->Prop),R () s1->wpAny (model prog w) A (gw b) R E s1)->wpAny (model prog w) A (do
      storeSet a es1 tb1
      if (!wd && tb1.tooFull)=true then do
        gw (relayAll tb1 es1 (SetTable.grown es1.size)).2.2
        storeSet a (relayAll tb1 es1 (SetTable.grown es1.size)).1 (relayAll tb1 es1 (SetTable.grown es1.size)).2.1
        pure (some true)
      else pure (some true)) (fun r s'=>wpAny (model prog w) A (match r with | some b=>pure b | none=>setAddHashedIn a (.int k t) ((intKind prog w).hash k) 99999) Q E s') E s:=by
   intro gw hgw
   refine qaW (stored h1 h2 h3 E1 M1 B1 L2 L3 fun h' sb at1 gg=> ?_)
   by_cases full:(!wd && tb1.tooFull)=true
   ·rw [qa4 full]
    have P2:=relayAll_perm tb1 es1 (SetTable.grown es1.size)
    have F2:=relayAll_fits tb1 es1 (SetTable.grown es1.size)
    have G2:=zgk L3 es1 (SetTable.grown es1.size)
    generalize relayAll tb1 es1 (SetTable.grown es1.size)=rl at P2 F2 G2 ⊢
    obtain ⟨es2,tb2,gv2⟩:=rl
    dsimp only at P2 F2 G2 ⊢
    have Z2:es2.size=es1.size:=by
     have z:=P2.length_eq
     rwa [qas,qas] at z
    refine qaW (hgw _ _ _ (qaW (stored (s:={s with heap:=h'}) (S:=fun y=>S y || decide (y=k)) at1 h2 rfl (E1.perm P2) (fun y=>(M1 y).trans ?_) (by rw [Z2];exact B1) F2 G2 fun h'' sb2 _ gg2=> ?_)))
    ·exact ⟨fun ⟨e,he,pe⟩=>⟨e,P2.mem_iff.mpr he,pe⟩,fun ⟨e,he,pe⟩=>⟨e,P2.mem_iff.mp he,pe⟩⟩
    ·exact qaX (qaX (fin _ h'' rfl (sb.trans sb2) (by rw [Z2] at gg2;exact gg2)))
   ·rw [qa5 full]
    exact qaX (qaX (fin _ h' rfl sb gg))
  split
  ·rw [hashByValue_scannable 8 scn]
   refine qaW (qaX ?_)
   exact tail _ fun b s1 R z=>by cases b<;>first | exact qaX z | exact wpAny_rule z
  ·refine qaW (qaX ?_)
   exact tail _ fun b s1 R z=>by cases b<;>first | exact qaX z | exact wpAny_rule z
end
section
variable {prog:Program} {w:World} {A:Around} {R:Result->Shared->Prop} {it:Addr} {fp wr:List Addr} {G:Array GenState->Array GenState->Prop} {n:Nat} {P:Nat->Value->Prop} {St:Nat->Shared->Prop}
theorem zt0 (W:WalksS prog w A.in1 it fp wr G n P St) (a:Addr) (ha:a∉fp) (val:Nat->Int) (hval: ∀ i v,P i v-> ∃ t,v= .int (val i) t) (room:n+1<scanBound):
  ∀ (left i:Nat) (s:Shared),n - i=left->i<=n->St i s->zgL prog w s.heap a (fun z=>(firstMet val i).any (· == z)) (firstMet val i).length->
   (∀ s',Moved (a::wr) G s s'->zgL prog w s'.heap a (fun z=>(firstMet val n).any (· == z)) (firstMet val n).length->R (.ok (.ret .none)) s')->
   codeAny (model prog w) A (.builtin "set.update.loop" ⟨[.ref a,.ref it],[]⟩) R s:=by
 have awr:a∉wr:=fun z=>ha (W.sub _ z)
 have more: ∀ b∈wr,b∈a::wr:=fun b z=> .tail _ z
 intro left
 induction left with
 | zero=>
  intro i s hleft hin st g q
  obtain rfl:i=n:=by omega
  refine codeAny_builtin F.entry_set_update_loop ?_
  rw [qap F.plain_set_update_loop _]
  show wpAny _ _ (pyNext (.ref it)>>=_) _ _ _
  refine qaW (W.done s _ _ st fun s' mv=> ?_)
  exact qaX (q s' (mv.mono more) (g.move (fun ob e=>mv.heap a ob awr e) (fun _=>rfl) rfl))
 | succ left ih=>
  intro i s hleft hin st g q
  have hi:i<n:=by omega
  refine codeAny_builtin F.entry_set_update_loop ?_
  rw [qap F.plain_set_update_loop _]
  show wpAny _ _ (pyNext (.ref it)>>=_) _ _ _
  refine qaW (W.item i s _ _ hi st fun v s1 pv st1 mv=> ?_)
  obtain ⟨t,rfl⟩:=hval i v pv
  have g1:zgL prog w s1.heap a (fun z=>(firstMet val i).any (· == z)) (firstMet val i).length:=g.move (fun ob e=>mv.heap a ob awr e) (fun _=>rfl) rfl
  show wpAny _ _ (holding [Value.int (val i) t] (setAdd a (.int (val i) t))>>=_) _ _ _
  refine qaW (qaO ?_)
  unfold setAdd
  refine qaO (qaW ((intKind prog w).pyHash (k:=val i) (intKind_is _ _ _ _) ?_))
  have few:=firstMet_length_le val i
  refine zt7 (s:={s1 with toks:=s1.toks+1}) g1 (by omega) fun h2 b sb g2=> ?_
  have g3:zgL prog w h2 a (fun z=>(firstMet val (i+1)).any (· == z)) (firstMet val (i+1)).length:=
   g2.move (fun _ e=>e) (fun z=>by rw [firstMet_succ,step_any]) (by rw [firstMet_succ,step_length])
  have off: ∀ b,b≠a->h2.get? b=s1.heap.get? b:=fun b hb=>sb.2 b hb
  refine qaX ⟨plainId_quiet F.plain_set_update_loop _,ih (i+1) _ (by omega) hi (W.frame _ s1 _ _ st1 (Nat.le_succ _) fun b hb ob e=> ?_) g3 fun s3 mv3 g4=> ?_⟩
  ·rw [off b fun z=>ha (z▸hb)]
   exact e
  ·refine q s3 (.trans W.gtrans ((mv.mono more).then_heap (Nat.le_succ _) fun b ob hb e=> ?_) mv3) g4
   rw [off b fun z=>hb (z▸ .head _)]
   exact e
end
section
variable {prog:Program} {w:World} {A:Around} {E:Value->Shared->Prop} {s:Shared}
theorem znQ (h:Heap):zgL prog w (h.push {cls:= .type "set",dict:=none,data:= .set #[] 0 (.fresh 0 0 (zcL w))}) h.objs.size (fun _=>false) 0:=
 ⟨_, #[],0,_,⟨qar _ rfl,⟨rfl,rfl,rfl⟩,rfl⟩,fun e he=>by simp at he,fun k=>by simp,⟨by decide,rfl,rfl⟩,⟨List.Pairwise.nil,rfl,rfl⟩⟩
theorem zuf (x:Value) {Q:Value->Shared->Prop} (q:Q (.ref s.heap.objs.size) {s with heap:=s.heap.push {cls:= .type "set",dict:=none,data:= .set #[] 0 (.fresh 0 0 (zcL w))}}):
  codeAny (model prog w) A (.call (.builtin "set.__new__") ⟨[.type "set",x],[]⟩) (wants Q E) s:=by
 refine codeAny_of_tree ?_
 show wpAny _ _ (do checkBuiltinCall "set.__new__" ⟨[.type "set",x],[]⟩;again (.builtin "set.__new__" ⟨[.type "set",x],[]⟩)) _ _ _
 refine qaW (wpAny_of_eq (F.newCall_set_1 x) (qaX ⟨plainId_quiet F.plain_set_new _,codeAny_builtin F.entry_set_new ?_⟩))
 rw [qap F.plain_set_new _]
 unfold Builtin.«set.__new__» Builtin.Frozenset.newClass
 have self:=sub_set_self
 obtain ⟨hp,gs,dr,tk,os⟩:=s
 dsimp only
 wp_walk
 refine wpAny_askSetting (qaX ?_)
 dsimp only
 simp only [newObj]
 exact qaW (wpAny_alloc (qaX (qaX q)))
theorem ztW {l:Addr} {T:String} {items:Array Value} {ns:List Int} {Q:Value->Shared->Prop} (hh:A.handled=none) (hT:(T="list"/\s.heap.IsList l items)\/(T="tuple"/\s.heap.IsTuple l items)) (hi:IntsAre items.toList ns) (room:items.size+1<scanBound)
  (q: ∀ (h':Heap) (tk:Nat),zgL prog w h' s.heap.objs.size (fun z=>(firstMet (fun i=>ns.getD i 0) items.size).any (· == z)) (firstMet (fun i=>ns.getD i 0) items.size).length->(∀ b ob,s.heap.get? b=some ob->h'.get? b=some ob)->
    Q (.ref s.heap.objs.size) {s with heap:=h',toks:=tk}):wpAny (model prog w) A (call (.type "set") [.ref l]) Q E s:=by
 obtain ⟨c,tl,hmro⟩:=F.called_set.mro
 have hmade:=F.called_set.made
 have hsub:=F.called_set.sub
 refine wpAny_call (codeAny_of_tree ?_)
 show wpAny _ _ (callAny (.type "set") _) _ _ _
 refine qaX ⟨Code.quiet_builtin _ (by decide +kernel),codeAny_builtin F.entry_type_call ?_⟩
 rw [Around.under_plain (weight_type_call_type "set" [.ref l] []) rfl]
 have hnt:=F.called_set.notType
 have hcc:=F.called_set.canCreate
 have htc:=F.typeCall_set_1 (.ref l)
 repeat' (first | assumption | wp_step)
 refine codeAny_mono (zuf (.ref l) (E:=E) (Q:=fun v s1=>v= .ref s.heap.objs.size/\s1={s with heap:=s.heap.push {cls:= .type "set",dict:=none,data:= .set #[] 0 (.fresh 0 0 (zcL w))}}) ⟨rfl,rfl⟩) fun r s1 hr=> ?_
 cases r with
 | error e=>exact hr
 | ok fl=>
  cases fl with
  | ret v=>
   obtain ⟨rfl,rfl⟩:=hr
   have laid:(s.heap.push {cls:= .type "set",dict:=none,data:= .set #[] 0 (.fresh 0 0 (zcL w))}).get? s.heap.objs.size=some {cls:= .type "set",dict:=none,data:= .set #[] 0 (.fresh 0 0 (zcL w))}:=qar _ rfl
   have isSet:Shared.TypeIs {s with heap:=s.heap.push {cls:= .type "set",dict:=none,data:= .set #[] 0 (.fresh 0 0 (zcL w))}} (.ref s.heap.objs.size) "set":=⟨_,laid,rfl⟩
   have hli:=F.called_set.init.lookup
   have hbi:=F.called_set.init.bind (.ref s.heap.objs.size)
   repeat' (first | assumption | wp_step)
   refine codeAny_mono (codeAny_call_builtin (R:=wants (fun z s2=>z= .none/\ ∃ h' tk,s2={s with heap:=h',toks:=tk}/\
       zgL prog w h' s.heap.objs.size (fun z=>(firstMet (fun i=>ns.getD i 0) items.size).any (· == z)) (firstMet (fun i=>ns.getD i 0) items.size).length/\(∀ b ob,s.heap.get? b=some ob->h'.get? b=some ob)) E) F.called_set.init.plain F.entry_set_init (check_set_init_1 isSet ?_)) fun r2 s2 hr2=> ?_
   ·have keepL: ∀ ob,s.heap.get? l=some ob->(s.heap.push {cls:= .type "set",dict:=none,data:= .set #[] 0 (.fresh 0 0 (zcL w))}).get? l=some ob:=fun ob e=>qag _ e
    have hval: ∀ (i:Nat) (v:Value),items[i]? = some v-> ∃ t,v= .int ((fun i=>ns.getD i 0) i) t:=fun i v hv=>IntsAre.int_at hi i v (by rw [Array.getElem?_toList];exact hv)
    have hh3:A.in1.in1.in1.handled=none:=by simp [hh]
    have done1: ∀ (l0:Addr) (h0:Heap) (s':Shared),l0=s.heap.objs.size->Moved [l0,(s.heap.push {cls:= .type "set",dict:=none,data:= .set #[] 0 (.fresh 0 0 (zcL w))}).objs.size] (fun a b=>b=a) {s with heap:=h0} s'->(∀ b ob,s.heap.get? b=some ob->h0.get? b=some ob)->
      (∀ b ob,s.heap.get? b=some ob->s'.heap.get? b=some ob)/\s'={s with heap:=s'.heap,toks:=s'.toks}:=fun l0 h0 s' e0 mv k0=>by
     refine ⟨fun b ob e=>mv.heap b ob (fun z=> ?_) (k0 b ob e),?_⟩
     ·have lt:=qaQ e
      rw [qaL,e0] at z
      simp only [qaP,qaF,or_false] at z
      rcases z with z | z
      ·exact qaN _ (z▸lt)
      ·exact qaN _ (Nat.lt_of_succ_lt (z▸lt))
     ·obtain ⟨h',g',d',tk',os'⟩:=s'
      have eg:g'=s.gens:=mv.gens
      have ed:d'=s.drawn:=mv.drawn
      have eo:os'=s.os:=mv.os
      subst eg ed eo
      rfl
    unfold Builtin.«set.__init__» noKeywords Builtin.Frozenset.updateFrom
    generalize hPI:pyIter=PI
    rcases hT with ⟨rfl,hl⟩ | ⟨rfl,hl⟩
    ·obtain ⟨⟨ocl,odi,oda,osl⟩,hol,hcl,nl,hdl⟩:=hl
     simp only at hcl hdl
     subst hcl hdl
     have hol':=keepL _ hol
     have f1:=F.sub_list_set
     have f2:=F.sub_list_frozenset
     have f3:(Value.type "list"==Value.type "dict")=false:=by decide
     wp_walk
     subst hPI
     have hl1:(s.heap.push {cls:= .type "set",dict:=none,data:= .set #[] 0 (.fresh 0 0 (zcL w))}).IsList l items:=⟨_,hol',rfl,nl,rfl⟩
     refine wpAny_pyIter_list hl1 ?_
     refine qaW (wpAny_runValue ?_)
     have ltl:l<s.heap.objs.size:=qaQ hol
     have szp:(s.heap.push {cls:= .type "set",dict:=none,data:= .set #[] 0 (.fresh 0 0 (zcL w))}).objs.size=s.heap.objs.size+1:=qaL ..
     have ne1:l≠(s.heap.push {cls:= .type "set",dict:=none,data:= .set #[] 0 (.fresh 0 0 (zcL w))}).objs.size:=by rw [szp];exact qaR (Nat.lt_succ_of_lt ltl)
     have ne2:s.heap.objs.size∉[(s.heap.push {cls:= .type "set",dict:=none,data:= .set #[] 0 (.fresh 0 0 (zcL w))}).objs.size,l]:=by
      rw [szp]
      simp only [qaP,qaF,or_false]
      rintro (z | z)
      ·exact Nat.succ_ne_self _ z.symm
      ·exact qaN _ (z▸ltl)
     refine zt0 ((Walks.list hh3 _ l ne1 items).toS) s.heap.objs.size ne2 (fun i=>ns.getD i 0) hval room _ 0 _ rfl (Nat.zero_le _) ⟨⟨_,qar _ rfl,rfl,rfl⟩,hl1.push _⟩ ?g0 fun s' mv gg=> ?_
     case g0=>exact (znQ s.heap).move (fun ob e=>qag _ e) (fun _=>rfl) rfl
     obtain ⟨k1,k2⟩:=done1 _ _ s' rfl mv fun b ob e=>qag _ (qag _ e)
     exact qaX (qaX ⟨rfl,s'.heap,s'.toks,k2,gg,k1⟩)
    ·obtain ⟨⟨ocl,odi,oda,osl⟩,hol,hcl,nl,hdl⟩:=hl
     simp only at hcl hdl
     subst hcl hdl
     have hol':=keepL _ hol
     have f1:=F.sub_tuple_set
     have f2:=F.sub_tuple_frozenset
     have f3:(Value.type "tuple"==Value.type "dict")=false:=by decide
     wp_walk
     subst hPI
     have hl1:(s.heap.push {cls:= .type "set",dict:=none,data:= .set #[] 0 (.fresh 0 0 (zcL w))}).IsTuple l items:=⟨_,hol',rfl,nl,rfl⟩
     refine wpAny_pyIter_tuple hl1 ?_
     refine qaW (wpAny_runValue ?_)
     have ltl:l<s.heap.objs.size:=qaQ hol
     have szp:(s.heap.push {cls:= .type "set",dict:=none,data:= .set #[] 0 (.fresh 0 0 (zcL w))}).objs.size=s.heap.objs.size+1:=qaL ..
     have ne1:l≠(s.heap.push {cls:= .type "set",dict:=none,data:= .set #[] 0 (.fresh 0 0 (zcL w))}).objs.size:=by rw [szp];exact qaR (Nat.lt_succ_of_lt ltl)
     have ne2:s.heap.objs.size∉[(s.heap.push {cls:= .type "set",dict:=none,data:= .set #[] 0 (.fresh 0 0 (zcL w))}).objs.size,l]:=by
      rw [szp]
      simp only [qaP,qaF,or_false]
      rintro (z | z)
      ·exact Nat.succ_ne_self _ z.symm
      ·exact qaN _ (z▸ltl)
     refine zt0 ((Walks.tuple hh3 _ l ne1 items).toS) s.heap.objs.size ne2 (fun i=>ns.getD i 0) hval room _ 0 _ rfl (Nat.zero_le _) ⟨⟨_,qar _ rfl,rfl,rfl⟩,⟨_,qag _ hol',rfl,nl,rfl⟩⟩ ?g0 fun s' mv gg=> ?_
     case g0=>exact (znQ s.heap).move (fun ob e=>qag _ e) (fun _=>rfl) rfl
     obtain ⟨k1,k2⟩:=done1 _ _ s' rfl mv fun b ob e=>qag _ (qag _ e)
     exact qaX (qaX ⟨rfl,s'.heap,s'.toks,k2,gg,k1⟩)
   ·cases r2 with
    | error e=>exact hr2
    | ok fl2=>
     cases fl2 with
     | ret z=>
      obtain ⟨rfl,h',tk,rfl,gg,k1⟩:=hr2
      repeat' (first | assumption | wp_step)
      exact q _ _ gg k1
     | _=>exact hr2.elim
  | _=>exact hr.elim
end
theorem zaO:Slot "set_iterator" "__next__" "set_iterator.__next__":= .of (owner:="set_iterator") (n:="__next__") (by rw [typeLookup_type,builtinLookup_eq_fast];kernel_rfl) (by decide +kernel) (by decide +kernel) (by decide +kernel) (by first | exact .inl (by decide +kernel) | exact .inr (by decide +kernel)) (by rw [isSubtype_type];kernel_rfl)
theorem zdT:Slot "set_iterator" "__iter__" "set_iterator.__iter__":= .of (owner:="set_iterator") (n:="__iter__") (by rw [typeLookup_type,builtinLookup_eq_fast];kernel_rfl) (by decide +kernel) (by decide +kernel) (by decide +kernel) (by first | exact .inl (by decide +kernel) | exact .inr (by decide +kernel)) (by rw [isSubtype_type];kernel_rfl)
theorem zcr:entryFor table "set_iterator.__next__"=some Builtin.«set_iterator.__next__» := entryFor_of_tree (by kernel_rfl)
theorem zfx:entryFor table "set_iterator.__iter__"=some Builtin.«dict_keyiterator.__iter__» := entryFor_alias (id':="dict_keyiterator.__iter__") (by kernel_rfl) rfl (by decide +kernel) (by kernel_rfl)
theorem zcJ (a:Value):argsOk "set_iterator.__next__" ⟨[a],[]⟩:=by unfold argsOk;kernel_rfl
theorem zgu (a:Value):argsOk "set_iterator.__iter__" ⟨[a],[]⟩:=by unfold argsOk;kernel_rfl
theorem zfr:entryFor table "set.__iter__"=some Builtin.«frozenset.__iter__» := entryFor_alias (id':="frozenset.__iter__") (by kernel_rfl) rfl (by decide +kernel) (by kernel_rfl)
def SIt (h:Heap) (it a:Addr) (first:Value) (i n ep:Nat):Prop:=h.get? it=some {cls:= .type "set_iterator",dict:=none,data:= .fields #[first,.int i 0,.ref a,.int n 0,.int ep 0],slots:= #[]}
structure zij (h:Heap) (a:Addr) (es:Array (Int×Value)) (ep:Nat) (tb:SetTable):Prop where
 at_: ∃ ob,h.get? a=some ob/\ob.ExactSet/\ob.data= .set es ep tb
 fits:tb.fits es.size=true
section
variable {prog:Program} {w:World} {A:Around} {E:Value->Shared->Prop} {s:Shared}
theorem zlF {it a:Addr} {first:Value} {i n ep:Nat} {es:Array (Int×Value)} {tb:SetTable} {Q:Option Value->Shared->Prop} (hI:SIt s.heap it a first i n ep) (hS:zij s.heap a es ep tb) (hn:es.size=n) (slot:Nat) (hf:first= .int slot 0)
  (q:wpAny (model prog w) A.in1 (do
    match<-setNext a slot i ep with
    | some (x,next)=>
      setField (.ref it) 0 (rawInt next)
      setField (.ref it) 1 (rawInt ((i:Int)+1))
      ret x
    | none=>setField (.ref it) 2 .none;raiseNew (<- newExc (.type "StopIteration") [])) (fun f s'=> ∃ v,f= .done (.ret v)/\Q (some v) s') (fun e s'=>wpAny (model prog w) A (do if<-isInstance e (.type "StopIteration") then pure none else throw e) Q E s') s):
  wpAny (model prog w) A (pyNext (.ref it)) Q E s:=by
 obtain ⟨ob,ho,hx,hd⟩:=hS.at_
 subst hf
 have tI:s.TypeIs (.ref it) "set_iterator":=⟨_,hI,rfl⟩
 unfold pyNext
 refine qaW (wpAny_attempt (wpAny_callSpecial?_slot (name:=Str.ofString "__next__") tI zaO (wpAny_call_entry zaO tI zcr ?_ (zcJ _))))
 unfold Builtin.«set_iterator.__next__»
 refine qaW (m:=slotArgs "__next__" 0 _) (qaX ?_)
 refine qaW (m:=fieldsOf (.ref it)) ?_
 unfold fieldsOf
 refine qaW (wpAny_load hI (qaX ?_))
 refine qaW (wpAny_setEntries_of ho hd hS.fits ?_)
 have same: ¬(((es.size:Nat):Int) != (n:Int))=true:=by rw [hn];simp
 rw [qa5 same]
 exact qaZ q (fun f s' ⟨v,e,z⟩=>⟨v,e,qaX z⟩) fun e s' z=>z
theorem zki {it:Addr} {r:Shared->Prop} {Q:Option Value->Shared->Prop} (hh:A.handled=none) (q: ∀ h',(∀ b ob,s.heap.get? b=some ob->h'.get? b=some ob)->Q none {s with heap:=h'}):
  wpAny (model prog w) A.in1 (do raiseNew (<- newExc (.type "StopIteration") []):Sem PySem.Fin) (fun f s'=> ∃ v,f= .done (.ret v)/\Q (some v) s') (fun e s'=>wpAny (model prog w) A (do if<-isInstance e (.type "StopIteration") then pure none else throw e) Q E s') s:=by
 refine qaW ?_
 simp only [newExc,newTuple]
 refine qaW (qaC ?_ (by size_fits))
 refine qaW (m:=firstArgMember _ _) (wpAny_of_eq (a:=Value.none) (by first | rfl | (simp only [firstArgMember];rfl)) ?_)
 refine qaC ?_ (by size_fits)
 simp only [raiseNew]
 refine qaW (wpAny_handled ?_)
 rw [show A.in1.handled=none from hh]
 refine qaW (qaX (wpAny_throw ?_))
 refine qaW (wpAny_isInstance (T:="StopIteration") (b:=true) ⟨_,qar _ rfl,rfl⟩ isSubtype_stop ?_)
 exact qaX (q _ fun b ob e=>qag _ (qag _ e))
theorem SIt.set {h h':Heap} {it a:Addr} {first:Value} {i n ep:Nat} (x:SIt h it a first i n ep):it<h.objs.size:=qaQ x
theorem zfK {es:Array (Int×Value)} {tb:SetTable} (hf:tb.fits es.size=true):tb.place.size=es.size:=by
 unfold SetTable.fits at hf
 simp only [qaG,beq_iff_eq] at hf
 exact hf.1
theorem zdS {a:Addr} {ep i slot:Nat} {es:Array (Int×Value)} {tb:SetTable} {R:Option (Value×Nat)->Shared->Prop} (hS:zij s.heap a es ep tb) (led:tb.led=true) (bt:w.params.followText "set-order"=false) (pl:(!tb.plain && decide (es.size>1))=false)
  (q:R (match es[SetTable.below tb.place slot]?, tb.place[SetTable.below tb.place slot]? with | some (_,x),some j=>some (x,j+1) | _,_=>none) s):wpAny (model prog w) A (setNext a slot i ep) R E s:=by
 obtain ⟨ob,ho,hx,hd⟩:=hS.at_
 unfold setNext
 refine qaW (wpAny_setState_of ho hd hS.fits ?_)
 dsimp only
 unfold setsByText
 refine qaW (qaW (wpAny_askSetting (qaX ?_)))
 dsimp only
 rw [show (model prog w).w.params.followText "set-order"=false from bt]
 simp only [qax,if_false]
 show wpAny _ _ (if (!tb.plain && decide (es.size>1))=true then _ else _) _ _ _
 rw [qa5 (by rw [pl];exact Bool.false_ne_true)]
 refine qaW ?_
 show wpAny _ _ (if (!tb.led && !es.isEmpty)=true then _ else _) _ _ _
 rw [qa5 (by rw [led];exact Bool.false_ne_true)]
 exact qaX (qaX q)
theorem zew {a:Addr} {ep i slot:Nat} {es:Array (Int×Value)} {tb:SetTable} {R:Option (Value×Nat)->Shared->Prop} (hS:zij s.heap a es ep tb) (bt:w.params.followText "set-order"=true)
  (q:R (((pickOrder (w.params.setOrder a ep) es)[i]?).map fun e=>(e.2,slot)) s):wpAny (model prog w) A (setNext a slot i ep) R E s:=by
 obtain ⟨ob,ho,hx,hd⟩:=hS.at_
 unfold setNext
 refine qaW (wpAny_setState_of ho hd hS.fits ?_)
 dsimp only
 unfold setsByText
 refine qaW (qaW (wpAny_askSetting (qaX ?_)))
 dsimp only
 rw [show (model prog w).w.params.followText "set-order"=true from bt]
 simp only [if_true]
 rw [qa5 (by simp)]
 refine qaW ?_
 unfold setWalk
 refine qaW (wpAny_setState_of ho hd hS.fits ?_)
 dsimp only
 unfold setsByText
 refine qaW (qaW (wpAny_askSetting (qaX ?_)))
 dsimp only
 rw [show (model prog w).w.params.followText "set-order"=true from bt]
 simp only [if_true]
 refine qaW (wpAny_askSetting (qaX (qaX q)))
theorem zlh {it a:Addr} {n ep i slot nx:Nat} {x:Value} {es:Array (Int×Value)} {tb:SetTable} {Q:Option Value->Shared->Prop} (hI:SIt s.heap it a (.int slot 0) i n ep) (hS:zij s.heap a es ep tb) (hn:es.size=n)
  (st: ∀ (R:Option (Value×Nat)->Shared->Prop) (E':Value->Shared->Prop),R (some (x,nx)) s->wpAny (model prog w) A.in1 (setNext a slot i ep) R E' s)
  (q: ∀ h',SIt h' it a (.int nx 0) (i+1) n ep->Heap.SameBut it s.heap h'->Q (some x) {s with heap:=h'}):wpAny (model prog w) A (pyNext (.ref it)) Q E s:=by
 refine zlF hI hS hn slot rfl (qaW (st _ _ ?_))
 dsimp only
 refine qaW (wpAny_setField_rec hI (by simp) fun h1 a1 sb1=> ?_)
 refine qaW (wpAny_setField_rec (s:={s with heap:=h1}) a1 (by simp) fun h2 a2 sb2=> ?_)
 refine qaX ⟨x,rfl,q h2 ?_ (sb1.trans sb2)⟩
 unfold SIt
 rw [a2]
 simp [rawInt]
theorem znB {it a:Addr} {n ep i slot:Nat} {es:Array (Int×Value)} {tb:SetTable} {Q:Option Value->Shared->Prop} (hh:A.handled=none) (hI:SIt s.heap it a (.int slot 0) i n ep) (hS:zij s.heap a es ep tb) (hn:es.size=n)
  (st: ∀ (R:Option (Value×Nat)->Shared->Prop) (E':Value->Shared->Prop),R none s->wpAny (model prog w) A.in1 (setNext a slot i ep) R E' s)
  (q: ∀ h',(∀ b ob,b≠it->s.heap.get? b=some ob->h'.get? b=some ob)->Q none {s with heap:=h'}):wpAny (model prog w) A (pyNext (.ref it)) Q E s:=by
 refine zlF hI hS hn slot rfl (qaW (st _ _ ?_))
 dsimp only
 refine qaW (wpAny_setField_rec hI (by simp) fun h1 a1 sb1=> ?_)
 exact zki (r:=fun _=>True) (it:=it) (s:={s with heap:=h1}) hh fun h' k=>q h' fun b ob hb e=>k b ob ((sb1.2 b hb).trans e)
end
theorem zdn {α:Type}: ∀ {l:List α} {i:Nat} {x:α},l[i]? = some x->List.Perm l (x::l.eraseIdx i)
 | [],_,_,e=>by simp at e
 | a::r,0,x,e=>by simp at e;subst e;exact .rfl
 | a::r,i+1,x,e=>by
  have e:r[i]? = some x:=by simpa using e
  exact ((zdn e).cons a).trans (.swap x a _)
theorem zev {α:Type} {l:List α} {i:Nat} {x:α} (e:l[i]? = some x):(l.eraseIdx i).length+1=l.length:=by
 have:=(zdn e).length_eq
 rw [qaE] at this
 exact this.symm
theorem zhz {α:Type} (nx:Nat->Nat): ∀ (fuel k:Nat) (left:List α) (out:Array α),left.length=fuel->List.Perm (pickOrder.go nx fuel k left out).toList (out.toList++left)
 | 0,k,left,out,h=>by
  have:left=[]:=List.length_eq_zero_iff.mp h
  subst this
  simp [pickOrder.go]
 | fuel+1,k,left,out,h=>by
  unfold pickOrder.go
  have hl:nx k % left.length<left.length:=Nat.mod_lt _ (by omega)
  have e:left[nx k % left.length]? = some left[nx k % left.length]:=by simp [hl]
  rw [e]
  dsimp only
  have hz:=zev e
  refine (zhz nx fuel (k+1) _ _ (by omega)).trans ?_
  rw [Array.toList_push,List.append_assoc]
  exact List.Perm.append_left _ (zdn e).symm
theorem zcu {α:Type} (nx:Nat->Nat) (xs:Array α):List.Perm (pickOrder nx xs).toList xs.toList:=by
 have:=zhz nx xs.size 0 xs.toList #[] (by simp)
 simpa [pickOrder] using this
section
variable {prog:Program} {w:World} {A:Around} {E:Value->Shared->Prop} {s:Shared}
theorem zjG {src:Source} {n:Nat} {Q:Nat->Shared->Prop} (hn:n≠0) (q: ∀ k d,k<n->Q k {s with drawn:=d}):wpAny (model prog w) A (choose src n) Q E s:=fun Γ p hΓ=>⟨hn,q _ _ (Nat.mod_lt _ (Nat.pos_of_ne_zero hn))⟩
theorem zep {α:Type}: ∀ (fuel:Nat) (xs:List α) (s:Shared) (Q:List α->Shared->Prop),xs.length<=fuel->(∀ ys d,List.Perm ys xs->Q ys {s with drawn:=d})->wpAny (model prog w) A (drawOrder fuel xs) Q E s
 | 0,xs,s,Q,h,q=>by
  have:xs=[]:=List.length_eq_zero_iff.mp (by omega)
  subst this
  unfold drawOrder
  exact qaX (q [] s.drawn .rfl)
 | fuel+1,[],s,Q,h,q=>by
  unfold drawOrder
  exact qaX (q [] s.drawn .rfl)
 | fuel+1,x::r,s,Q,h,q=>by
  unfold drawOrder
  refine qaW (zjG (by simp) fun k d hk=> ?_)
  have e:(x::r)[k]? = some (x::r)[k]:=by simp [hk]
  rw [e]
  dsimp only
  have hz:=zev e
  refine qaW (zep fuel ((x::r).eraseIdx k) {s with drawn:=d} _ (by omega) fun ys d' p=>qaX ?_)
  exact q _ d' ((p.cons _).trans (zdn e).symm)
theorem zjD {it a tp:Addr} {n ep i p:Nat} {x:Value} {es:Array (Int×Value)} {tb:SetTable} {ps:Array Value} {Q:Option Value->Shared->Prop} (hI:SIt s.heap it a (.ref tp) i n ep) (hS:zij s.heap a es ep tb) (hn:es.size=n)
  (hT:s.heap.get? tp=some {cls:= .type "tuple",data:= .seq ps}) (hp:ps[i]? = some (.int (p:Nat) 0)) (he:(es[p]?).map (·.2)=some x)
  (q: ∀ h',SIt h' it a (.ref tp) (i+1) n ep->Heap.SameBut it s.heap h'->Q (some x) {s with heap:=h'}):wpAny (model prog w) A (pyNext (.ref it)) Q E s:=by
 obtain ⟨ob,ho,hx,hd⟩:=hS.at_
 have tI:s.TypeIs (.ref it) "set_iterator":=⟨_,hI,rfl⟩
 unfold pyNext
 refine qaW (wpAny_attempt (wpAny_callSpecial?_slot (name:=Str.ofString "__next__") tI zaO (wpAny_call_entry zaO tI zcr ?_ (zcJ _))))
 unfold Builtin.«set_iterator.__next__»
 refine qaW (m:=slotArgs "__next__" 0 _) (qaX ?_)
 refine qaW (m:=fieldsOf (.ref it)) ?_
 unfold fieldsOf
 refine qaW (wpAny_load hI (qaX ?_))
 refine qaW (wpAny_setEntries_of ho hd hS.fits ?_)
 have same: ¬(((es.size:Nat):Int) != (n:Int))=true:=by rw [hn];simp
 rw [qa5 same]
 refine qaW (m:=seqItems? (.ref tp)) ?_
 unfold seqItems?
 refine qaW (wpAny_load hT (qaX ?_))
 dsimp only
 rw [show ((i:Nat):Int).toNat=i from qaB i,hp]
 dsimp only
 refine qaW (m:=setNextDrawn a _ _) ?_
 unfold setNextDrawn
 refine qaW (wpAny_setState_of ho hd hS.fits ?_)
 dsimp only
 rw [show ((ep:Nat):Int).toNat=ep from qaB ep,show ((p:Nat):Int).toNat=p from qaB p,qa5 (by simp)]
 cases ee:es[p]? with
 | none=>rw [ee] at he;cases he
 | some e=>
  rw [ee] at he
  cases he
  dsimp only
  refine qaX ?_
  refine qaW (wpAny_setField_rec hI (by simp) fun h2 a2 sb2=> ?_)
  refine qaX ⟨_,rfl,qaX (q h2 ?_ sb2)⟩
  unfold SIt
  rw [a2]
  simp [rawInt]
theorem zk4 {it a tp:Addr} {n ep i:Nat} {es:Array (Int×Value)} {tb:SetTable} {ps:Array Value} {Q:Option Value->Shared->Prop} (hh:A.handled=none) (hI:SIt s.heap it a (.ref tp) i n ep) (hS:zij s.heap a es ep tb) (hn:es.size=n)
  (hT:s.heap.get? tp=some {cls:= .type "tuple",data:= .seq ps}) (hp:ps[i]? = none)
  (q: ∀ h',(∀ b ob,b≠it->s.heap.get? b=some ob->h'.get? b=some ob)->Q none {s with heap:=h'}):wpAny (model prog w) A (pyNext (.ref it)) Q E s:=by
 obtain ⟨ob,ho,hx,hd⟩:=hS.at_
 have tI:s.TypeIs (.ref it) "set_iterator":=⟨_,hI,rfl⟩
 unfold pyNext
 refine qaW (wpAny_attempt (wpAny_callSpecial?_slot (name:=Str.ofString "__next__") tI zaO (wpAny_call_entry zaO tI zcr ?_ (zcJ _))))
 unfold Builtin.«set_iterator.__next__»
 refine qaW (m:=slotArgs "__next__" 0 _) (qaX ?_)
 refine qaW (m:=fieldsOf (.ref it)) ?_
 unfold fieldsOf
 refine qaW (wpAny_load hI (qaX ?_))
 refine qaW (wpAny_setEntries_of ho hd hS.fits ?_)
 have same: ¬(((es.size:Nat):Int) != (n:Int))=true:=by rw [hn];simp
 rw [qa5 same]
 refine qaW (m:=seqItems? (.ref tp)) ?_
 unfold seqItems?
 refine qaW (wpAny_load hT (qaX ?_))
 dsimp only
 rw [show ((i:Nat):Int).toNat=i from qaB i,hp]
 dsimp only
 refine qaW (wpAny_setField_rec hI (by simp) fun h1 a1 sb1=> ?_)
 refine qaW (wpAny_setField_rec (s:={s with heap:=h1}) a1 (by simp) fun h2 a2 sb2=> ?_)
 refine qaZ (zki (Q:=Q) (E:=E) (r:=fun _=>True) (it:=it) (s:={s with heap:=h2}) hh fun h' k=>q h' fun b ob hb e=>k b ob ((sb2.2 b hb).trans ((sb1.2 b hb).trans e))) (fun f s' ⟨v,e,z⟩=>⟨v,e,qaX z⟩) fun e s' z=>z
theorem zeQ {it a:Addr} {first:Value} {i n ep:Nat} {Q:Value->Shared->Prop} (hI:SIt s.heap it a first i n ep) (q:Q (.ref it) s):wpAny (model prog w) A (pyIter (.ref it)) Q E s:=by
 have tI:s.TypeIs (.ref it) "set_iterator":=⟨_,hI,rfl⟩
 refine wpAny_pyIter_slot tI zdT (wpAny_call_entry zdT tI zfx ?_ (zgu _))
 show wpAny _ _ (ret (.ref it)) _ _ _
 exact qaX ⟨_,rfl,"set_iterator",_,tI,zaO.lookup,q⟩
theorem zij.keep {h h':Heap} {a:Addr} {es:Array (Int×Value)} {ep:Nat} {tb:SetTable} (x:zij h a es ep tb) (k: ∀ ob,h.get? a=some ob->h'.get? a=some ob):zij h' a es ep tb:=
 ⟨let ⟨ob,h1,h2⟩:=x.at_;⟨ob,k ob h1,h2⟩,x.fits⟩
noncomputable def zho (tb:SetTable):Nat->Nat
 | 0=>0
 | i+1=>tb.place.getD i 0+1
theorem zjf (hh:A.handled=none) {it a:Addr} {ep:Nat} {es:Array (Int×Value)} {tb:SetTable} (hne:a≠it) (up:Up tb.place) (led:tb.led=true) (bt:w.params.followText "set-order"=false) (pl:(!tb.plain && decide (es.size>1))=false) (hf:tb.fits es.size=true):
  Walks prog w A it [it,a] [it] es.size (fun i v=> ∃ e,es.toList[i]? = some e/\v=e.2) (fun i h=>SIt h it a (.int (zho tb i:Nat) 0) i es.size ep/\zij h a es ep tb) where
 sub:=fun b hb=>by simp at hb;simp [hb]
 frame:=fun i h h' st k=>⟨k it (by simp) _ st.1,st.2.keep fun ob e=>k a (by simp) ob e⟩
 item:=fun i s Q E hi st q=>by
  have pz:=zfK hf
  have hi2:i<tb.place.size:=by omega
  have bl:SetTable.below tb.place (zho tb i)=i:=by
   cases i with
   | zero=>exact zfG up
   | succ i=>
    have hi3:i<tb.place.size:=by omega
    have e:tb.place[i]? = some (tb.place.getD i 0):=by simp [hi3,Array.getD]
    exact zfC up e
  have ep':tb.place.getD i 0=tb.place[i]:=by simp [hi2,Array.getD]
  refine zlh (nx:=zho tb (i+1)) (x:=es[i].2) st.1 st.2 rfl (fun R E' r=>zdS st.2 led bt pl ?_) fun h' a1 sb=> ?_
  ·rw [bl]
   have e1:es[i]? = some es[i]:=by simp [hi]
   have e2:tb.place[i]? = some tb.place[i]:=by simp [hi2]
   rw [e1,e2]
   show R (some (es[i].2,tb.place[i]+1)) s
   have e3:zho tb (i+1)=tb.place[i]+1:=by show tb.place.getD i 0+1=_;rw [ep']
   rw [<- e3]
   exact r
  ·exact q _ h' s.toks ⟨es[i],by simp [hi],rfl⟩ ⟨a1,st.2.keep fun ob e=>(sb.2 a hne).trans e⟩ fun b ob hb e=>(sb.2 b fun z=>hb (by simp [z])).trans e
 done:=fun s Q E st q=>by
  have pz:=zfK hf
  have bl:SetTable.below tb.place (zho tb es.size)=es.size:=by
   cases hz:es.size with
   | zero=>exact zfG up
   | succ i=>
    have hi3:i<tb.place.size:=by omega
    have e:tb.place[i]? = some (tb.place.getD i 0):=by simp [hi3,Array.getD]
    exact zfC up e
  refine znB hh st.1 st.2 rfl (fun R E' r=>zdS st.2 led bt pl ?_) fun h' k=>q h' s.toks fun b ob hb e=>k b ob (fun z=>hb (by simp [z])) e
  rw [bl]
  have e1:es[es.size]? = none:=by simp
  rw [e1]
  exact r
 self:=fun i s Q E st q=>zeQ st.1 q
theorem zlJ (hh:A.handled=none) {it a:Addr} {ep:Nat} {es:Array (Int×Value)} {tb:SetTable} (hne:a≠it) (bt:w.params.followText "set-order"=true) (hf:tb.fits es.size=true):
  Walks prog w A it [it,a] [it] es.size (fun i v=> ∃ e,(pickOrder (w.params.setOrder a ep) es).toList[i]? = some e/\v=e.2) (fun i h=>SIt h it a (.int (0:Nat) 0) i es.size ep/\zij h a es ep tb) where
 sub:=fun b hb=>by simp at hb;simp [hb]
 frame:=fun i h h' st k=>⟨k it (by simp) _ st.1,st.2.keep fun ob e=>k a (by simp) ob e⟩
 item:=fun i s Q E hi st q=>by
  have pz:(pickOrder (w.params.setOrder a ep) es).size=es.size:=by
   have:=(zcu (w.params.setOrder a ep) es).length_eq
   simpa using this
  have hi2:i<(pickOrder (w.params.setOrder a ep) es).size:=by omega
  refine zlh (nx:=0) (x:=(pickOrder (w.params.setOrder a ep) es)[i].2) st.1 st.2 rfl (fun R E' r=>zew st.2 bt ?_) fun h' a1 sb=> ?_
  ·have e1:(pickOrder (w.params.setOrder a ep) es)[i]? = some (pickOrder (w.params.setOrder a ep) es)[i]:=by simp [hi2]
   rw [e1]
   exact r
  ·exact q _ h' s.toks ⟨(pickOrder (w.params.setOrder a ep) es)[i],by simp [hi2],rfl⟩ ⟨a1,st.2.keep fun ob e=>(sb.2 a hne).trans e⟩ fun b ob hb e=>(sb.2 b fun z=>hb (by simp [z])).trans e
 done:=fun s Q E st q=>by
  have pz:(pickOrder (w.params.setOrder a ep) es).size=es.size:=by
   have:=(zcu (w.params.setOrder a ep) es).length_eq
   simpa using this
  refine znB hh st.1 st.2 rfl (fun R E' r=>zew st.2 bt ?_) fun h' k=>q h' s.toks fun b ob hb e=>k b ob (fun z=>hb (by simp [z])) e
  have e1:(pickOrder (w.params.setOrder a ep) es)[es.size]? = none:=by simp [pz]
  rw [e1]
  exact r
 self:=fun i s Q E st q=>zeQ st.1 q
theorem zjQ (hh:A.handled=none) {it a tp:Addr} {ep:Nat} {es:Array (Int×Value)} {tb:SetTable} {ys:List Nat} (hne:a≠it) (hne2:tp≠it) (hp:List.Perm ys (List.range es.size)):
  Walks prog w A it [it,a,tp] [it] es.size (fun i v=> ∃ e,(ys.filterMap (es[·]?))[i]? = some e/\v=e.2) (fun i h=>SIt h it a (.ref tp) i es.size ep/\zij h a es ep tb/\h.get? tp=some {cls:= .type "tuple",data:= .seq (ys.map fun (i:Nat)=>rawInt i).toArray}) where
 sub:=fun b hb=>by simp at hb;simp [hb]
 frame:=fun i h h' st k=>⟨k it (by simp) _ st.1,st.2.1.keep fun ob e=>k a (by simp) ob e,k tp (by simp) _ st.2.2⟩
 item:=fun i s Q E hi st q=>by
  have hl:ys.length=es.size:=by simpa using hp.length_eq
  have hi2:i<ys.length:=by omega
  have lt: ∀ y∈ys,y<es.size:=fun y hy=>by simpa using hp.mem_iff.mp hy
  have lti:=lt _ (List.getElem_mem hi2)
  have fm: ∀ (zs:List Nat),(∀ y∈zs,y<es.size)-> ∀ (j:Nat) (y:Nat),zs[j]? = some y->(zs.filterMap (es[·]?))[j]? = es[y]? := by
   intro zs
   induction zs with
   | nil=>intro _ j y e;simp at e
   | cons z r ih=>
    intro hz j y e
    have lz:=hz z (.head _)
    rw [List.filterMap_cons_some (b:=es[z]) (by simp [lz])]
    cases j with
    | zero=>simp at e;subst e;simp [lz]
    | succ j=>simpa using ih (fun y hy=>hz y (.tail _ hy)) j y (by simpa using e)
  refine zjD (p:=ys[i]) (x:=es[ys[i]].2) st.1 st.2.1 rfl st.2.2 (by simp [hi2,rawInt]) (by simp [lti]) fun h' a1 sb=> ?_
  refine q _ h' s.toks ⟨es[ys[i]],?_,rfl⟩ ⟨a1,st.2.1.keep fun ob e=>(sb.2 a hne).trans e,(sb.2 tp hne2).trans st.2.2⟩ fun b ob hb e=>(sb.2 b fun z=>hb (by simp [z])).trans e
  rw [fm ys lt i ys[i] (by simp [hi2])]
  simp [lti]
 done:=fun s Q E st q=>by
  have hl:ys.length=es.size:=by simpa using hp.length_eq
  exact zk4 hh st.1 st.2.1 rfl st.2.2 (by simp [hl]) fun h' k=>q h' s.toks fun b ob hb e=>k b ob (fun z=>hb (by simp [z])) e
 self:=fun i s Q E st q=>zeQ st.1 q
end
section
variable {prog:Program} {w:World} {A:Around} {E:Value->Shared->Prop} {s:Shared}
structure zoN (prog:Program) (w:World) (a it:Addr) (es:Array (Int×Value)) (ord:List (Int×Value)) (fp:List Addr) (St:Nat->Heap->Prop):Prop where
 walks: ∀ A:Around,A.handled=none->Walks prog w A it fp [it] es.size (fun i v=> ∃ e,ord[i]? = some e/\v=e.2) St
 perm:List.Perm ord es.toList
 mem:it∈fp
theorem zs1 {a:Addr} {S:Int->Bool} {n:Nat} {Q:Value->Shared->Prop} (g:zgL prog w s.heap a S n)
  (q: ∀ it es ep tb ord fp St h' d,(∃ ob,s.heap.get? a=some ob/\ob.ExactSet/\ob.data= .set es ep tb)->zoN prog w a it es ord fp St->St 0 h'->s.heap.objs.size<=it->(∀ b ob,s.heap.get? b=some ob->h'.get? b=some ob)->(∀ b∈fp,b=a\/s.heap.objs.size<=b)->es.size<scanBound->
    Q (.ref it) {s with heap:=h',drawn:=d}):wpAny (model prog w) A (pyIter (.ref a)) Q E s:=by
 obtain ⟨ob,es,ep,tb,⟨h1,h2,h3⟩,h4,h5,⟨h6,h7,h8⟩,h9⟩:=g
 have tS:s.TypeIs (.ref a) "set":=⟨ob,h1,h2.1⟩
 have lta:a<s.heap.objs.size:=qaQ h1
 refine wpAny_pyIter_slot tS F.slot_set_iter (wpAny_call_entry F.slot_set_iter tS zfr ?_ (F.args_set_iter_1 _))
 unfold Builtin.«frozenset.__iter__»
 refine qaW (m:=Builtin.Frozenset.slot0 "__iter__" _) (qaX ?_)
 refine qaW (m:=Builtin.Frozenset.sizeOf a) ?_
 unfold Builtin.Frozenset.sizeOf
 refine qaW (wpAny_setEntries_of h1 h3 h7 (qaX ?_))
 refine qaW (m:=setDrawn a) ?_
 unfold setDrawn
 refine qaW (wpAny_setState_of h1 h3 h7 ?_)
 dsimp only
 unfold setsByText
 refine qaW (qaW (wpAny_askSetting (qaX (qaX ?_))))
 dsimp only
 have sobj: ∀ {h':Heap},(∀ b ob,s.heap.get? b=some ob->h'.get? b=some ob)->zij h' a es ep tb:=fun k=>⟨⟨ob,k _ _ h1,h2,h3⟩,h7⟩
 by_cases dr:(!(model prog w).w.params.followText "set-order" && (!tb.plain && decide (es.size>1)))=true
 ·show wpAny _ _ (if (!(model prog w).w.params.followText "set-order" && (!tb.plain && decide (es.size>1)))=true then _ else _) _ _ _
  rw [qa4 dr]
  refine qaW (zep es.size (List.range es.size) s _ (by simp) fun ys d hp=> ?_)
  have hl:ys.length=es.size:=by simpa using hp.length_eq
  have small:es.size<=sizeLine:=fits_of_scanBound h6
  refine qaW ?_
  unfold newTuple
  refine qaC ?_ (by show (ys.map fun (i:Nat)=>rawInt i).toArray.size<=sizeLine;simp [hl];exact small)
  unfold setEpoch
  refine qaW (qaW (wpAny_setState_of (s:={s with heap:=_,drawn:=d}) (qag _ h1) h3 h7 (qaX ?_)))
  dsimp only
  refine qaW (qaC (qaX ⟨_,rfl,"set_iterator",_,⟨_,qar _ rfl,rfl⟩,zaO.lookup,?_⟩))
  have z1:(s.heap.push {cls:= .type "tuple",dict:=none,data:= .seq (ys.map fun (i:Nat)=>rawInt i).toArray}).objs.size=s.heap.objs.size+1:=qaL ..
  have kp: ∀ (o2:Obj) b ob,s.heap.get? b=some ob->((s.heap.push {cls:= .type "tuple",dict:=none,data:= .seq (ys.map fun (i:Nat)=>rawInt i).toArray}).push o2).get? b=some ob:=fun o2 b ob e=>qag _ (qag _ e)
  refine q _ es ep tb (ys.filterMap (es[·]?)) [(s.heap.push {cls:= .type "tuple",dict:=none,data:= .seq (ys.map fun (i:Nat)=>rawInt i).toArray}).objs.size,a,s.heap.objs.size] _ _ d ⟨ob,h1,h2,h3⟩ ⟨fun A' hA=>zjQ (tb:=tb) (ep:=ep) hA ?_ ?_ hp,?_,.head _⟩ ⟨?_,sobj (kp _),?_⟩ ?_ (kp _) (fun b hb=> ?_) h6
  ·rw [z1];exact qaR (Nat.lt_succ_of_lt lta)
  ·rw [z1];exact qaR (Nat.lt_succ_self _)
  ·refine (hp.filterMap _).trans ?_
   rw [filterMap_getElem?_range]
  ·exact qar _ rfl
  ·exact qag _ (qar _ rfl)
  ·rw [z1];exact Nat.le_succ _
  ·simp only [qaP,qaF,or_false] at hb
   rcases hb with z | z | z
   ·right;rw [z,z1];exact Nat.le_succ _
   ·exact .inl z
   ·right;rw [z];exact qaV _
 ·show wpAny _ _ (if (!(model prog w).w.params.followText "set-order" && (!tb.plain && decide (es.size>1)))=true then _ else _) _ _ _
  rw [qa5 dr]
  refine qaW (qaX ?_)
  unfold setEpoch
  refine qaW (qaW (wpAny_setState_of h1 h3 h7 (qaX ?_)))
  dsimp only
  refine qaW (qaC (qaX ⟨_,rfl,"set_iterator",_,⟨_,qar _ rfl,rfl⟩,zaO.lookup,?_⟩))
  have kp: ∀ (o2:Obj) b ob,s.heap.get? b=some ob->(s.heap.push o2).get? b=some ob:=fun o2 b ob e=>qag _ e
  have fpl: ∀ b∈[s.heap.objs.size,a],b=a\/s.heap.objs.size<=b:=fun b hb=>by
   simp only [qaP,qaF,or_false] at hb
   rcases hb with z | z
   ·right;rw [z];exact qaV _
   ·exact .inl z
  cases bt:w.params.followText "set-order" with
  | true=>
   exact q _ es ep tb _ [s.heap.objs.size,a] _ _ s.drawn ⟨ob,h1,h2,h3⟩ ⟨fun A' hA=>zlJ (tb:=tb) (ep:=ep) hA (qaR lta) bt h7,zcu _ _,.head _⟩ ⟨qar _ rfl,sobj (kp _)⟩ (qaV _) (kp _) fpl h6
  | false=>
   have pl:(!tb.plain && decide (es.size>1))=false:=by
    rw [show (model prog w).w.params.followText "set-order"=false from bt] at dr
    simpa using dr
   have led:tb.led=true:=by
    rw [h9.led]
    unfold zcL
    rw [bt]
    rfl
   exact q _ es ep tb _ [s.heap.objs.size,a] _ _ s.drawn ⟨ob,h1,h2,h3⟩ ⟨fun A' hA=>zjf (tb:=tb) (ep:=ep) hA (qaR lta) h9.up led bt pl h7,.rfl,.head _⟩ ⟨qar _ rfl,sobj (kp _)⟩ (qaV _) (kp _) fpl h6
theorem zme {a:Addr} {S:Int->Bool} {n:Nat} {Q:List Value->Shared->Prop} (hh:A.handled=none) (g:zgL prog w s.heap a S n)
  (q: ∀ vs s' es ep tb,(∃ ob,s.heap.get? a=some ob/\ob.ExactSet/\ob.data= .set es ep tb)->List.Perm vs (es.toList.map (·.2))->(∀ b ob,s.heap.get? b=some ob->s'.heap.get? b=some ob)->s'.gens=s.gens->s'.os=s.os->Q vs s'):wpAny (model prog w) A (collect (.ref a)) Q E s:=by
 have tS: ∀ {h':Heap} {s':Shared},s'.heap=h'->(∀ b ob,s.heap.get? b=some ob->h'.get? b=some ob)->s'.TypeIs (.ref a) "set":=fun {h' s'} e k=>by
  obtain ⟨ob,es,ep,tb,⟨h1,h2,h3⟩,_⟩:=g
  exact ⟨ob,by rw [e];exact k _ _ h1,h2.1⟩
 have lta:a<s.heap.objs.size:=by
  obtain ⟨ob,es,ep,tb,⟨h1,h2,h3⟩,_⟩:=g
  exact qaQ h1
 unfold collect
 refine qaW (wpAny_runValue (codeAny_builtin F.entry_proto_collect ?_))
 rw [qap F.plain_proto_collect _]
 show wpAny _ _ (newList []>>=fun l=>again (.builtin "list.__iadd__" ⟨[l,.ref a],[]⟩)) _ _ _
 refine qaW (qaC (qaX ⟨plainId_quiet F.plain_list_iadd _,codeAny_builtin F.entry_list_iadd ?_⟩))
 rw [qap F.plain_list_iadd _]
 show wpAny _ _ (Builtin.List.listExtendWith (.ref s.heap.objs.size) (.ref a) (.ref s.heap.objs.size)) _ _ _
 unfold Builtin.List.listExtendWith
 have k1: ∀ b ob,s.heap.get? b=some ob->(s.heap.push {cls:= .type "list",data:= .seq ([]:List Value).toArray}).get? b=some ob:=fun b ob e=>qag _ e
 refine qaW (wpAny_typeOf (tS rfl k1) ?_)
 have nsame:Builtin.List.listSameRef (.ref s.heap.objs.size) (.ref a)=false:=by
  simp only [Builtin.List.listSameRef,beq_eq_false_iff_ne]
  exact fun z=>qaN _ (z▸lta)
 have nl:(Value.type "set"==Value.type "list")=false:=by decide
 have nt:(Value.type "set"==Value.type "tuple")=false:=by decide
 simp only [nsame,nl,nt,Bool.or_false,qax,if_false]
 refine qaW (zs1 (g.move (fun ob e=>k1 _ _ e) (fun _=>rfl) rfl) fun it es ep tb ord fp St h2 d hob W st0 lit k2 fpl few=> ?_)
 refine qaW (qaO ?_)
 unfold Builtin.List.listLengthHint
 have k12: ∀ b ob,s.heap.get? b=some ob->h2.get? b=some ob:=fun b ob e=>k2 b ob (k1 b ob e)
 refine qaW (wpAny_specialOf (tS rfl k12) F.slot_set_len.lookup ?_)
 have sp:splitId "set.__len__"=some ("set","__len__"):=by decide +kernel
 dsimp only
 rw [sp]
 dsimp only
 refine qaW (wpAny_isInstance (tS rfl k12) sub_set_self ?_)
 rw [qa5 (by decide)]
 rw [qa4 (by decide +kernel)]
 refine qaW (wpAny_typeOf (tS rfl k12) (qaX ?_))
 rw [qa4 (by decide +kernel)]
 refine qaW (wpAny_rule ?_)
 have l2:h2.get? s.heap.objs.size=some {cls:= .type "list",data:= .seq ([]:List Value).toArray}:=k2 _ _ (qar _ rfl)
 refine qaW ?_
 unfold Builtin.List.listTouch
 show wpAny _ _ (updateSeq s.heap.objs.size (·.push .none)>>=fun _=>updateSeq s.heap.objs.size (·.pop)) _ _ _
 refine qaW (wpAny_updateSeq l2 rfl ?_)
 have l3:=qal (Obj.mapSeq (·.push Value.none)) l2 rfl
 refine wpAny_updateSeq l3 rfl ?_
 have l4:=qal (Obj.mapSeq (·.pop)) l3 rfl
 have oth: ∀ b ob,b≠s.heap.objs.size->h2.get? b=some ob->((h2.update s.heap.objs.size (Obj.mapSeq (·.push Value.none))).update s.heap.objs.size (Obj.mapSeq (·.pop))).get? b=some ob:=fun b ob hb e=>
  (qah _ _ (Ne.symm hb)).trans ((qah _ _ (Ne.symm hb)).trans e)
 have nfp:s.heap.objs.size∉fp:=fun z=>by
  rcases fpl _ z with z | z
  ·exact qaN _ (z▸lta)
  ·rw [show ({s with heap:=s.heap.push {cls:= .type "list",data:= .seq ([]:List Value).toArray}}:Shared).heap.objs.size=s.heap.objs.size+1 from qaL ..] at z
   exact qaN _ z
 have fin: ∀ (s':Shared) (vs:Array Value) (c:Nat),(∀ b ob,s.heap.get? b=some ob->s'.heap.get? b=some ob)->s'.gens=s.gens->s'.os=s.os->s'.heap.get? s.heap.objs.size=some {cls:= .type "list",dict:=none,data:= .seq vs c,slots:= #[]}->ItemsOf (fun i v=> ∃ e,ord[i]? = some e/\v=e.2) vs es.size->
   wpAny (model prog w) A (load s.heap.objs.size>>=fun o=>match o.data with | .seq xs _=>pure xs.toList | _=>unsupported "internal:collect") Q E s':=fun s' vs c k g1 g2 e it1=>by
  refine qaW (wpAny_load e (qaX (q vs.toList s' es ep tb ?_ ?_ k g1 g2)))
  ·obtain ⟨ob,o1,o2⟩:=hob
   obtain ⟨ob',es',ep',tb',⟨p1,p2,p3⟩,_⟩:=g
   have:=k1 _ _ p1
   rw [o1] at this
   cases this
   exact ⟨ob,p1,o2⟩
  ·have hl:ord.length=es.size:=by simpa using W.perm.length_eq
   have e2:vs.toList=ord.map (·.2):=by
    apply List.ext_getElem?
    intro i
    by_cases hi:i<es.size
    ·have hv0:i<vs.size:=by rw [it1.1];exact hi
     have hv:vs[i]? = some vs[i]:=by simp [hv0]
     obtain ⟨e,e1,e2⟩:=it1.2 i _ hv
     rw [List.getElem?_map,e1,Array.getElem?_toList,hv,e2]
     rfl
    ·rw [List.getElem?_eq_none (by simp [it1.1];omega),List.getElem?_eq_none (by simp [hl];omega)]
   rw [e2]
   exact W.perm.map _
 have Wk:=(W.walks A.in1 hh).toS
 refine qaX ⟨plainId_quiet F.plain_extend_loop _,codeAny_extend_loopS Wk ?_ _ nfp _ es.size 0 _ _ _ rfl (Nat.zero_le _) ?_ l4 (ItemsOf.nil _) fun s' vs c mv e it1=> ?_⟩
 ·exact fits_of_scanBound few
 ·exact (W.walks A.in1 hh).frame 0 h2 _ st0 fun b hb ob e=>oth b ob (fun z=>nfp (z▸hb)) e
 ·refine fin s' vs c (fun b ob e'=>mv.heap b ob ?_ (oth b ob ?_ (k12 b ob e'))) mv.gens mv.os e it1
  ·intro z
   rcases qaP.mp z with z | z
   ·exact qaN _ (z▸qaQ e')
   ·simp only [qaP,qaF,or_false] at z
    have:=qaQ e'
    rw [z] at this
    exact qaN _ (qaw this (qaS (by rw [qaL];exact Nat.le_succ _) lit))
  ·exact fun z=>qaN _ (z▸qaQ e')
end
noncomputable def znG (x:Int):List Int->List Int
 | []=>[x]
 | y::r=>if x<=y then x::y::r else y::znG x r
noncomputable def zc1:List Int->List Int
 | []=>[]
 | x::r=>znG x (zc1 r)
theorem ze5 (x:Int): ∀ l:List Int,List.Perm (znG x l) (x::l)
 | []=> .rfl
 | y::r=>by
  unfold znG
  split
  ·exact .rfl
  ·exact ((ze5 x r).cons y).trans (.swap x y r)
theorem zmA {x z:Int} {l:List Int}:z∈znG x l↔z=x\/z∈l:=by rw [(ze5 x l).mem_iff,qaP]
theorem zlB (x:Int): ∀ l:List Int,l.Pairwise (· <= ·)->(znG x l).Pairwise (· <= ·)
 | [],_=>by unfold znG;simp
 | y::r,h=>by
  obtain ⟨h1,h2⟩:=qay.mp h
  unfold znG
  split
  ·rename_i hxy
   refine qay.mpr ⟨fun z hz=> ?_,h⟩
   rcases qaP.mp hz with e | hz
   ·rw [e];exact hxy
   ·exact Int.le_trans hxy (h1 z hz)
  ·rename_i hxy
   refine qay.mpr ⟨fun z hz=> ?_,zlB x r h2⟩
   rcases zmA.mp hz with e | hz
   ·rw [e];omega
   ·exact h1 z hz
theorem za1: ∀ l:List Int,List.Perm (zc1 l) l
 | []=> .rfl
 | x::r=>(ze5 x _).trans ((za1 r).cons x)
theorem zd3: ∀ l:List Int,(zc1 l).Pairwise (· <= ·)
 | []=> .nil
 | x::r=>zlB x _ (zd3 r)
theorem zeF {a b:List Int} (hp:a.Perm b) (h:a.Pairwise (· <= ·)):a=zc1 b:=W.ksm_same (hp.trans (za1 b).symm) h (zd3 b)
noncomputable def zgN (ns:List Int):List Int:=zc1 (ns.foldl step_dedup [])
theorem zla (ns:List Int): ∀ (acc:List Int) (k:Int),(ns.foldl step_dedup acc).any (· == k)=(acc.any (· == k) || ns.any (· == k)):=by
 induction ns with
 | nil=>intro acc k;simp
 | cons x r ih=>
  intro acc k
  rw [List.foldl_cons,ih,step_any]
  simp only [List.any_cons]
  have:(x==k)=decide (k=x):=by
   by_cases h:k=x
   ·subst h;simp
   ·have h': ¬x=k:=fun e=>h e.symm
    simp [h,h']
  rw [this,Bool.or_assoc]
theorem zkC {ns:List Int} {k:Int}:k∈ns.foldl step_dedup []↔k∈ns:=by
 have:=zla ns [] k
 simp only [List.any_nil,Bool.false_or] at this
 have e: ∀ l:List Int,k∈l↔(l.any fun x=>x==k)=true:=fun l=>by
  rw [List.any_eq_true]
  constructor
  ·exact fun h=>⟨k,h,by simp⟩
  ·rintro ⟨x,h,c⟩
   have c:x=k:=by simpa using c
   rw [<- c]
   exact h
 rw [e,e,this]
theorem zeX (ns:List Int): ∀ acc:List Int,acc.Nodup->(ns.foldl step_dedup acc).Nodup:=by
 induction ns with
 | nil=>intro acc h;exact h
 | cons x r ih=>
  intro acc h
  refine ih _ ?_
  unfold step_dedup
  split
  ·exact h
  ·rename_i hx
   rw [List.nodup_append]
   refine ⟨h,by simp,fun a ha b hb=> ?_⟩
   simp only [List.mem_singleton] at hb
   subst hb
   intro e
   subst e
   exact hx (List.any_eq_true.mpr ⟨a,ha,by simp⟩)
theorem zcI {ns:List Int} {k:Int}:k∈zgN ns↔k∈ns:=by unfold zgN;rw [(za1 _).mem_iff,zkC]
theorem zfk (ns:List Int):(zgN ns).Pairwise (· < ·):=by
 have h1:=zd3 (ns.foldl step_dedup [])
 have h2:(zgN ns).Nodup:=(za1 _).nodup_iff.mpr (zeX ns [] List.nodup_nil)
 exact (List.Pairwise.and h1 h2).imp fun ⟨a,b⟩=>by omega
theorem zhV (ns:List Int):firstMet (fun i=>ns.getD i 0) ns.length=ns.foldl step_dedup []:=by
 unfold firstMet
 congr 1
 apply List.ext_getElem?
 intro i
 by_cases hi:i<ns.length
 ·simp [hi,List.getD]
 ·rw [List.getElem?_eq_none (by simp;omega),List.getElem?_eq_none (by omega)]
theorem zfp: ∀ {fm ms:List Int},fm.Nodup->(∀ k,k∈fm->k∈ms)->ms.length<=fm.length->List.Perm ms fm
 | [],ms,_,_,h=>by
  have:ms=[]:=List.length_eq_zero_iff.mp (by simpa using h)
  subst this
  exact .rfl
 | x::r,ms,nd,hm,h=>by
  obtain ⟨n1,n2⟩:=List.nodup_cons.mp nd
  have hx:=hm x (.head _)
  have p:=List.perm_cons_erase hx
  have hl:=p.length_eq
  rw [qaE] at hl h
  refine p.trans ((zfp n2 (fun k hk=> ?_) (by omega)).cons x)
  have hne:k≠x:=fun e=>n1 (e▸hk)
  rcases qaP.mp (p.mem_iff.mp (hm k (.tail _ hk))) with e | e
  ·exact absurd e hne
  ·exact e
section
variable {prog:Program} {w:World} {A:Around} {E:Value->Shared->Prop} {s:Shared}
theorem zha {l l':List Value} {ns:List Int} (p:List.Perm l l') (h:IntsAre l' ns): ∃ ms,IntsAre l ms/\List.Perm ms ns:=by
 induction p generalizing ns with
 | nil=>exact ⟨ns,h,.rfl⟩
 | cons x _ ih=>
  cases h with
  | cons n t h=>
   obtain ⟨ms,h1,h2⟩:=ih h
   exact ⟨n::ms,.cons n t h1,h2.cons n⟩
 | swap x y l=>
  cases h with
  | cons n t h=>
   cases h with
   | cons n' t' h=>exact ⟨n'::n::_,.cons n' t' (.cons n t h),.swap _ _ _⟩
 | trans _ _ ih1 ih2=>
  obtain ⟨ms,h1,h2⟩:=ih2 h
  obtain ⟨ms',h3,h4⟩:=ih1 h1
  exact ⟨ms',h3,h4.trans h2⟩
theorem zfN: ∀ {es:List (Int×Value)},ElemsOf (intKind prog w) es-> ∃ ms,IntsAre (es.map (·.2)) ms/\ ∀ k,k∈ms↔ ∃ e∈es,(intKind prog w).is k e.2=true
 | [],_=>⟨[],.nil,fun k=>by simp⟩
 | e::r,h=>by
  obtain ⟨ms,h1,h2⟩:=zfN (ElemsOf.tail h)
  obtain ⟨⟨k,hk,_⟩,_⟩:=ElemsOf.head h
  obtain ⟨t,ht⟩:=Value.isInt_shape (k:=k) (v:=e.2) hk
  refine ⟨k::ms,by rw [qaM,ht];exact .cons k t h1,fun z=> ?_⟩
  rw [qaP,h2 z]
  constructor
  ·rintro (c | ⟨e',c1,c2⟩)
   ·exact ⟨e,.head _,by rw [c];exact hk⟩
   ·exact ⟨e',.tail _ c1,c2⟩
  ·rintro ⟨e',c1,c2⟩
   rcases qaP.mp c1 with c | c
   ·subst c;exact .inl ((intKind prog w).inj _ _ _ c2 hk)
   ·exact .inr ⟨e',c,c2⟩
theorem zeO {x:Value} {Q:Value->Shared->Prop} (hc: ∀ E':Value->Shared->Prop,wpAny (model prog w) A.in1 (collect x) (fun vs s1=> ∃ ns,IntsAre vs ns/\vs.length<64/\ ∀ out e h',IntsAre out (zc1 ns)->(∀ b ob,s1.heap.get? b=some ob->h'.get? b=some ob)->
      h'.get? s1.heap.objs.size=some (seqObj "list" out.toArray e)->Q (.ref s1.heap.objs.size) {s1 with heap:=h'}) E' s):wpAny (model prog w) A (call (.builtin "sorted") [x]) Q E s:=by
 refine Calls.call_function_entry kind_sorted plain_sorted entry_sorted (args_sorted1 _) ?_
 unfold Builtin.«sorted»
 refine qaW (m:=checkCount "sorted" 1 1 _) (qaX ?_)
 refine qaW (m:=collect x) (qaZ (hc _) (fun vs s1 ⟨ns,hI,h64,q⟩=> ?_) fun _ _ z=>z)
 have small:vs.length<=sizeLine:=qaS (Nat.le_of_lt h64) (by decide)
 refine qaW (wpAny_newList ?_ small)
 have at0:(s1.heap.push {cls:= .type "list",data:= .seq vs.toArray}).get? s1.heap.objs.size=some (seqObj "list" vs.toArray 0):=qar _ rfl
 refine qaW (qaO (wpAny_call_entry slot_list_sort ⟨_,at0,rfl⟩ entry_list_sort (list_sort_tree (s:={s1 with heap:=s1.heap.push {cls:= .type "list",data:= .seq vs.toArray}}) at0 hI h64 fun out ns' a1 a2 a3=>⟨_,rfl,?_⟩) (args_list_sort _)))
 obtain ⟨e,he⟩:=sortedHeap_at (out:=out) at0
 refine qaX ⟨_,rfl,q out.toList e _ ?_ (fun b ob eb=> ?_) (by simpa using he)⟩
 ·rw [<- zeF a2 a3];exact a1
 ·have lt:=qaQ eb
  rw [sortedHeap_old (qaR lt) (by rw [qaL];exact Nat.lt_succ_of_lt lt)]
  exact qag _ eb
theorem zhY {l:Addr} {vs:List Value} {Q:List Value->Shared->Prop} (hl:s.heap.IsTuple l vs.toArray) (small:vs.length<=sizeLine)
  (q: ∀ h',(∀ b ob,s.heap.get? b=some ob->h'.get? b=some ob)->Q vs {s with heap:=h'}):wpAny (model prog w) A (collect (.ref l)) Q E s:=by
 obtain ⟨ob,ho,hc,n,hd⟩:=id hl
 unfold collect
 refine qaW (wpAny_runValue (codeAny_builtin F.entry_proto_collect ?_))
 rw [qap F.plain_proto_collect _]
 show wpAny _ _ (newList []>>=fun d=>again (.builtin "list.__iadd__" ⟨[d,.ref l],[]⟩)) _ _ _
 refine qaW (qaC (qaX ⟨plainId_quiet F.plain_list_iadd _,codeAny_builtin F.entry_list_iadd ?_⟩))
 rw [qap F.plain_list_iadd _]
 show wpAny _ _ (Builtin.List.listExtendWith (.ref s.heap.objs.size) (.ref l) (.ref s.heap.objs.size)) _ _ _
 unfold Builtin.List.listExtendWith
 have ho':(s.heap.push {cls:= .type "list",data:= .seq ([]:List Value).toArray}).get? l=some ob:=qag _ ho
 have d0:(s.heap.push {cls:= .type "list",data:= .seq ([]:List Value).toArray}).get? s.heap.objs.size=some (seqObj "list" #[] 0):=qar _ rfl
 refine qaW (wpAny_typeOf (T:="tuple") ⟨ob,ho',hc⟩ ?_)
 rw [qa4 (by simp)]
 refine qaW (listItems_at ho' hd ?_)
 refine qaW (listItems_at d0 rfl ?_)
 rw [qa5 (by simp)]
 refine qaW (listUpdate_at (xs:= #[]) (n:=0) d0 rfl ?_ (Nat.zero_le _) (by show (#[]++vs.toArray).size<=sizeLine+1;simp;omega))
 refine qaX ?_
 show wpAny _ _ (load s.heap.objs.size>>=fun o=>match o.data with | .seq xs _=>pure xs.toList | _=>unsupported "internal:collect") _ _ _
 refine qaW (wpAny_load (get?_update_seq d0 _) ?_)
 have z:=q ((s.heap.push {cls:= .type "list",data:= .seq ([]:List Value).toArray}).update s.heap.objs.size (Obj.mapSeq fun x=>x++vs.toArray)) fun b ob e=>(qah _ _ (fun z=>qaN _ (z▸qaQ e))).trans (qag _ e)
 show wpAny _ _ (pure ((#[]:Array Value)++vs.toArray).toList) _ _ _
 rw [show ((#[]:Array Value)++vs.toArray).toList=vs by simp]
 exact qaX z
end
end LT
namespace L2
open PySem PySem.Spec PyProof.Rows LT
section
variable {X:Cx}
noncomputable def zkb (P:Program) (w:World) (p:Addr) (ns:List Int):HO:= .ext fun h=>zgL P w h p (fun z=>(ns.foldl step_dedup []).any (· == z)) (ns.foldl step_dedup []).length
theorem zlL (hc:X.calm=true):zaM X (.type "set") (fun xs H Q=> ∃ (a:Addr) (ns:List Int),xs=[.ref a]/\(SqL X.K H a (ns.map V.int)\/SqT X.K H a (ns.map V.int))/\ns.length<4000/\ ∀ p,H p=none->Q (.ref p) (upd H p (zkb X.prog X.w p ns))):=by
 intro pins s σ H xs us Q I r h
 obtain ⟨a,ns,rfl,hq,hl,q⟩:=h
 obtain ⟨u,rfl,rx⟩:=zez r
 cases rx
 have fin: ∀ (items:Array Value),items.size=ns.length-> ∀ (h':Heap) (tk:Nat),zgL X.prog X.w h' s.heap.objs.size (fun z=>(firstMet (fun i=>ns.getD i 0) items.size).any (· == z)) (firstMet (fun i=>ns.getD i 0) items.size).length->(∀ b ob,s.heap.get? b=some ob->h'.get? b=some ob)->
   EP X pins σ Q (.ref s.heap.objs.size) {s with heap:=h',toks:=tk}:=fun items hz h' tk g k=>by
  rw [hz,zhV] at g
  refine ⟨.ref s.heap.objs.size,_,I.laid (t':=tk) (o:=zkb X.prog X.w s.heap.objs.size ns) k (qaV _) ⟨g,?_,fun h1 h2 z e=>z.move e (fun _=>rfl) rfl⟩,rfl,q _ (I.hok.fresh (qaV _))⟩
  obtain ⟨ob,es,ep,tb,⟨h1,_⟩,_⟩:=g
  exact ⟨ob,h1⟩
 have room:ns.length+1<scanBound:=by
  have:scanBound=4096:=rfl
  omega
 rcases hq with hq | hq
 ·obtain ⟨its,r',pl,_⟩:=I.list hq
  have hz:its.toArray.size=ns.length:=by rw [qaA, <-r'.length,qaH]
  exact ztW (I.ok.hd hc) (.inl ⟨rfl,pl.isList⟩) (by simpa using zb5 r') (by rw [hz];exact room) fun h' tk g k=>fin _ hz h' tk g k
 ·obtain ⟨its,r',pl,_⟩:=I.tuple hq
  have hz:its.toArray.size=ns.length:=by rw [qaA, <-r'.length,qaH]
  exact ztW (I.ok.hd hc) (.inr ⟨rfl,pl⟩) (by simpa using zb5 r') (by rw [hz];exact room) fun h' tk g k=>fin _ hz h' tk g k
theorem Inv.grown {pins:List (Addr×Obj)} {σ:St} {H:Hp} {s s':Shared} (I:Inv X pins σ H s) (ho:s'.os=s.os) (hg:s'.gens=s.gens) (k: ∀ b ob,s.heap.get? b=some ob->s'.heap.get? b=some ob):Inv X pins σ H s':=
 I.call' (ch:=[]) ho (Un.kept k) (I.hok.kept k) (by rw [hg];exact I.bare) fun b z=>nomatch z
theorem zmc {out:List Value} {ms:List Int} (h:IntsAre out ms):za3 (ms.map V.int) out:=zfc h
theorem zex (hc:X.calm=true):zaM X (.builtin "sorted") (fun xs H Q=> ∃ (p:Addr) (ns:List Int),xs=[.ref p]/\((((ns.foldl step_dedup []).length<64/\H p=some (zkb X.prog X.w p ns))/\ ∀ l,H l=none->Q (.ref l) (upd H l (.lst ((zgN ns).map V.int))))\/
    ((ns.length<64/\(SqL X.K H p (ns.map V.int)\/SqT X.K H p (ns.map V.int)))/\ ∀ l,H l=none->Q (.ref l) (upd H l (.lst ((zc1 ns).map V.int)))))):=by
 intro pins s σ H xs us Q I r h
 obtain ⟨p,ns,rfl,h⟩:=h
 obtain ⟨u,rfl,rx⟩:=zez r
 cases rx
 have fin: ∀ (s1:Shared) (ms:List Int),ms.length<=64->(∀ b ob,s.heap.get? b=some ob->s1.heap.get? b=some ob)->s1.gens=s.gens->s1.os=s.os->(∀ l,H l=none->Q (.ref l) (upd H l (.lst ((zc1 ms).map V.int))))-> ∀ out e h',IntsAre out (zc1 ms)->(∀ b ob,s1.heap.get? b=some ob->h'.get? b=some ob)->
   h'.get? s1.heap.objs.size=some (seqObj "list" out.toArray e)->EP X pins σ Q (.ref s1.heap.objs.size) {s1 with heap:=h'}:=fun s1 ms hm k g1 o1 q out e h' hi k2 e2=>by
  have I1:=I.grown o1 g1 k
  refine ⟨.ref s1.heap.objs.size,_,I1.laid (t':=s1.toks) (o:= .lst ((zc1 ms).map V.int)) k2 (qaV _) ⟨?_,out,e,zmc hi,e2⟩,rfl,q _ (I1.hok.fresh (qaV _))⟩
  rw [qaH,(za1 ms).length_eq]
  exact qaS hm (by decide)
 rcases h with ⟨⟨hl,hs⟩,q⟩ | ⟨⟨hl,hq⟩,q⟩
 ·obtain ⟨g,_⟩:=(show zbF X.prog X.w H s.heap p (zkb X.prog X.w p ns) from I.hok p _ hs)
  refine zeO fun E'=>zme (show X.A.in1.handled=none from I.ok.hd hc) g fun vs s1 es ep tb hob pv k g1 o1=> ?_
  obtain ⟨ob',es',ep',tb',⟨a1,a2,a3⟩,h4,h5,⟨h6,h7,h8⟩,h9⟩:=g
  obtain ⟨ob,b1,b2,b3⟩:=hob
  rw [a1] at b1
  cases b1
  rw [a3] at b3
  cases b3
  obtain ⟨ms,m1,m2⟩:=zfN h4
  obtain ⟨ms',m3,m4⟩:=zha pv m1
  have len:ms.length=(ns.foldl step_dedup []).length:=by
   rw [<- m1.length,qaH,qas]
   exact h8
  have pm:List.Perm ms (ns.foldl step_dedup []):=zfp (zeX ns [] List.nodup_nil) (fun z hz=>by
    rw [m2 z, <-h5 z]
    exact List.any_eq_true.mpr ⟨z,hz,by simp⟩) (Nat.le_of_eq len)
  have es1:zc1 ms'=zgN ns:=by
   unfold zgN
   exact zeF ((za1 ms').trans (m4.trans pm)) (zd3 ms')
  have lm:ms'.length<64:=by
   rw [m4.length_eq,len]
   exact hl
  refine ⟨ms',m3,by rw [m3.length];omega,fun out e h' hi k2 e2=> ?_⟩
  exact fin s1 ms' (by omega) k g1 o1 (by rw [es1];exact q) out e h' hi k2 e2
 ·rcases hq with hq | hq
  ·obtain ⟨its,r',pl,hz⟩:=I.list hq
   have hi:=zb5 r'
   have lz:its.length=ns.length:=by rw [<- r'.length,qaH]
   refine zeO fun E'=>collect_list pl.isList ?_ (by rw [lz, <-qaH (f:=V.int)];exact hz)
   refine ⟨ns,hi,by omega,fun out e h' hi2 k2 e2=> ?_⟩
   refine fin {s with heap:=(s.heap.push (seqObj "list" #[] 0)).update s.heap.objs.size (Obj.mapSeq fun x=>x++its.toArray)} ns (by omega) (fun b ob eb=> ?_) rfl rfl q out e h' hi2 k2 e2
   exact (qah _ _ (fun z=>qaN _ (z▸qaQ eb))).trans (qag _ eb)
  ·obtain ⟨its,r',pl,hz⟩:=I.tuple hq
   have hi:=zb5 r'
   have lz:its.length=ns.length:=by rw [<- r'.length,qaH]
   refine zeO fun E'=>zhY pl (by rw [lz, <-qaH (f:=V.int)];exact hz) fun h1 k1=> ?_
   refine ⟨ns,hi,by omega,fun out e h' hi2 k2 e2=> ?_⟩
   exact fin {s with heap:=h1} ns (by omega) k1 rfl rfl q out e h' hi2 k2 e2
theorem zl5 (hc:X.calm=true):zaM X (.builtin "all") (fun xs H Q=> ∃ (a:Addr) (bs:List Bool),xs=[.ref a]/\SqL X.K H a (bs.map V.bl)/\Q (.bl (bs.all id)) H):=by
 intro pins s σ H xs us Q I r h
 obtain ⟨a,bs,rfl,hq,q⟩:=h
 obtain ⟨u,rfl,rx⟩:=zez r
 cases rx
 obtain ⟨its,r',pl,hz⟩:=I.list hq
 have hlt:a<s.heap.objs.size:=by obtain ⟨_,e,_⟩:=pl.isList;exact qaQ e
 refine call_all_walk (wpAny_pyIter_list pl.isList ?_)
 refine ⟨s.heap.objs.size,[s.heap.objs.size,a],[s.heap.objs.size],its.toArray.size,_,_,fun i=>(bs[i]?).getD true,rfl,Walks.list (A:=X.A.in1) (I.ok.hd hc) _ a (qaR hlt) its.toArray,⟨⟨_,qar _ rfl,rfl,rfl⟩,pl.isList.push _⟩,fun i v s' Q' E' hP hQ=> ?_,fun h' tk hk=> ?_⟩
 ·have hv:its[i]? = some v:=by simpa using hP
  obtain ⟨hi,_⟩:=qac.mp hv
  have hlen:bs.length=its.length:=by rw [<- r'.length,qaH]
  have hb:(bs.map V.bl)[i]? = some (V.bl bs[i]):=by simp [hlen,hi]
  obtain ⟨u',hu,ru⟩:=r'.get hb
  rw [hv] at hu
  cases hu
  cases ru
  have e:(bs[i]?).getD true=bs[i]:=by simp [hlen,hi]
  have hQ:Q' ((bs[i]?).getD true) s':=hQ
  rw [e] at hQ
  exact wpAny_truthy_bool hQ
 ·have e:((List.range its.toArray.size).all fun i=>(bs[i]?).getD true)=bs.all id:=by
   have hlen:bs.length=its.length:=by rw [<- r'.length,qaH]
   rw [qaA, <-hlen]
   rw [Bool.eq_iff_iff,List.all_eq_true,List.all_eq_true]
   constructor
   ·intro h x hx
    obtain ⟨i,hi⟩:=List.mem_iff_getElem?.mp hx
    have hl:=(qac.mp hi).1
    have:=h i (by simpa using hl)
    rw [hi] at this
    exact this
   ·intro h i hi
    have hl:i<bs.length:=by simpa using hi
    have e1:bs[i]? = some bs[i]:=by simp [hl]
    rw [e1]
    exact h _ (List.getElem_mem hl)
  rw [e]
  refine ⟨.bl _,H,I.grown (s':={s with heap:=h',toks:=tk}) rfl rfl fun b ob eb=>hk b ob (fun z=> ?_) (qag _ eb),rfl,q⟩
  simp only [qaP,qaF,or_false] at z
  exact qaN _ (z▸qaQ eb)
theorem zkw (hc:X.calm=true):zaM X (.builtin "sum") (fun xs H Q=> ∃ (a:Addr) (ns:List Int),xs=[.ref a]/\SqL X.K H a (ns.map V.int)/\Q (.int ns.sum) H):=by
 intro pins s σ H xs us Q I r h
 obtain ⟨a,ns,rfl,hq,q⟩:=h
 obtain ⟨u,rfl,rx⟩:=zez r
 cases rx
 obtain ⟨its,r',pl,hz⟩:=I.list hq
 have hi:=zb5 r'
 obtain ⟨ys,hy⟩:=hi.allInts.items
 have hl:s.heap.IsList a (intItems ys):=hy▸pl.isList
 refine sum_intListG (I.ok.hd hc) hl fun h' tk t' hk=> ?_
 have e1:ns=ys.toList.map (·.1):=by
  rw [<- nums_intItems, <-hy]
  exact (show numsOf its.toArray.toList=ns from hi.numsOf).symm
 have e2:preSum (numAt ys) ys.size=ns.sum:=by rw [preSum_eq,List.take_of_length_le (by simp),e1]
 rw [e2]
 exact ⟨.int ns.sum,H,I.grown (s':={s with heap:=h',toks:=tk}) rfl rfl hk,⟨t',rfl⟩,q⟩
end
end L2
namespace L3
open PySem PySem.Spec PyProof.Rows L2 LT
section
variable {X:Cx} {E:XE} {e:Expr} {es:List Expr} {pos p:Pos} {fs:Sd->M (List D)} {x:Str}
theorem zmV {id:String} {F:List D->M D} (hc:zaM X (.builtin id) (zhX X.K E F)) (hg:Gl X x) (hm:X.mg x=none) (hv:bootBuiltins x=some (.builtin id)) (ha:SA X E (e::es) fs) (hn:x≠"__name__":=by decide) (hdb:(x==("__debug__":Str))=false:=by decide)
  (he:starEach (e::es) X.env=(false,eval e X.env)::starEach es X.env:=by rfl) (hpl:(backTo pos (starEach es X.env)).any (·.1)=false:=by rfl):SE X E (.Call (.Name x p) (e::es) [] pos) (fun sd=>do let ds<-fs sd;F ds):=
 PE.imp (zgg hc hg hm hv ha hn hdb he hpl) fun σ H Q ⟨ι,h,sd,L,hh,q⟩=>⟨ι,h,sd,L,hh,Fin.bind q fun ds h1 ι1 H1 e1 s1 hr1 q1 vs rv=>⟨ι1,h1,ds,rv,hr1,q1⟩⟩
theorem zlv {T:String} {F:List D->M D} (hc:zaM X (.type T) (zhX X.K E F)) (hg:Gl X x) (hm:X.mg x=none) (hv:bootBuiltins x=some (.type T)) (ha:SA X E (e::es) fs) (hn:x≠"__name__":=by decide) (hdb:(x==("__debug__":Str))=false:=by decide)
  (he:starEach (e::es) X.env=(false,eval e X.env)::starEach es X.env:=by rfl) (hpl:(backTo pos (starEach es X.env)).any (·.1)=false:=by rfl):SE X E (.Call (.Name x p) (e::es) [] pos) (fun sd=>do let ds<-fs sd;F ds):=
 PE.imp (zcy hc hg hm hv ha hn hdb he hpl) fun σ H Q ⟨ι,h,sd,L,hh,q⟩=>⟨ι,h,sd,L,hh,Fin.bind q fun ds h1 ι1 H1 e1 s1 hr1 q1 vs rv=>⟨ι1,h1,ds,rv,hr1,q1⟩⟩
noncomputable def zj0:D->M (List D)
 | .tup ds=>pure ds
 | .lst ds=>pure ds
 | .scr ds=>pure ds
 | .cel n=>zao n
 | _=>M.bad
theorem zcn {K:W.Frag} {ι:Io} {H:Hp} {h:Hh} {d:D} {v:V} {α:Type} {f:List D->M α} {P:α->Io->Hp->Prop} (hr:zbf K ι H h) (r:Rel K ι H d v) (q:Fin K E ι H ((do let ds<-zj0 d;f ds) h) P):
  ∃ a vs ds,v= .ref a/\((SqL K H a vs/\ ∀ ts,d≠ .tup ts)\/(SqT K H a vs/\d= .tup ds))/\zar K ι H ds vs/\Fin K E ι H (f ds h) P:=by
 cases d with
 | tup ds=>
  obtain ⟨a,vs,e,h1,h2⟩:=zc0 r
  exact ⟨a,vs,ds,e,.inr ⟨h1,rfl⟩,h2,q⟩
 | lst ds=>
  obtain ⟨a,vs,e,h1,h2⟩:=ze9 r
  exact ⟨a,vs,ds,e,.inl ⟨h1,fun _ z=>by cases z⟩,h2,q⟩
 | scr ds=>
  obtain ⟨a,vs,e,h1,h2⟩:=zlW r
  exact ⟨a,vs,ds,e,.inl ⟨h1,fun _ z=>by cases z⟩,h2,q⟩
 | cel n=>
  have q':Fin K E ι H (M.bind (zao n) f h) P:=q
  unfold M.bind at q'
  cases z:zao n h with
  | bad=>rw [z] at q';exact qa0 q'
  | exc c h'=>unfold zao at z;split at z<;>cases z
  | ok ds h'=>
   rw [z] at q'
   obtain ⟨rfl,z2⟩:=zcD z
   obtain ⟨a,vs,e,hn,hH,rl⟩:=hr.read r z2
   exact ⟨a,vs,ds,e,.inl ⟨SqL.of hH,fun _ z=>by cases z⟩,rl,q'⟩
 | _=>exact qa0 q
theorem zjp {K:W.Frag} {H:Hp} {a:Addr} {vs:List V} {d:D} {ds:List D} (h:(SqL K H a vs/\ ∀ ts,d≠ .tup ts)\/(SqT K H a vs/\d= .tup ds)):SqL K H a vs\/SqT K H a vs:=h.imp And.left And.left
theorem zty {K:W.Frag} {ι:Io} {H:Hp} {d:D} {xs:List V} (h:zar K ι H [d] xs): ∃ v,xs=[v]/\Rel K ι H d v:=by
 simp only [zar] at h
 obtain ⟨v,r,rfl,h1,rfl⟩:=h
 exact ⟨v,rfl,h1⟩
noncomputable def zmW {α:Type} (f:D->M α):List D->M α
 | [d]=>f d
 | _=>M.bad
theorem zcl {α:Type} {K:W.Frag} {ι:Io} {H:Hp} {h:Hh} {f:D->M α} {ds:List D} {xs:List V} {P:α->Io->Hp->Prop} (rl:zar K ι H ds xs) (q:Fin K E ι H (zmW f ds h) P): ∃ d v,xs=[v]/\Rel K ι H d v/\Fin K E ι H (f d h) P:=by
 match ds,rl,q with
 | [d],rl,q=>
  obtain ⟨v,e,r⟩:=zty rl
  exact ⟨d,v,e,r,q⟩
 | [],_,q=>exact qa0 q
 | _::_::_,_,q=>exact qa0 q
noncomputable def zdz:List D->M D:=zmW fun d=>do let ds<-zj0 d;pure (.int ds.length)
theorem zax:zaM X (.builtin "len") (zhX X.K E zdz):=by
 refine zaM.imp zgV fun xs H Q ⟨ι,h,ds,rl,hr,q⟩=> ?_
 obtain ⟨d,v,e,r,q⟩:=zcl rl q
 obtain ⟨a,vs,ds',e',hs,rl',q⟩:=zcn hr r q
 exact ⟨a,vs,by rw [e,e'],zjp hs,Fin.out hr q _ (by rw [rl'.length];simp [Rel])⟩
noncomputable def zbS:List D->M D:=zmW fun d=>do let ds<-zj0 d;pure (.tup ds)
theorem zaK:zaM X (.type "tuple") (zhX X.K E zbS):=by
 refine zaM.imp zgD fun xs H Q ⟨ι,h,ds,rl,hr,q⟩=> ?_
 obtain ⟨d,v,e,r,q⟩:=zcl rl q
 obtain ⟨a,vs,ds',e',hs,rl',q⟩:=zcn hr r q
 refine ⟨a,vs,by rw [e,e'],?_⟩
 rcases hs with ⟨hs,_⟩ | ⟨hs,hd⟩
 ·exact .inl ⟨hs,fun l hl=>zoo hr rl' q hl⟩
 ·exact .inr ⟨hs,Fin.out hr q _ (by rw [<- e', <-hd];exact r)⟩
noncomputable def zjk:List D->M D:=zmW fun d=>do let ds<-zj0 d;pure (.lst ds)
theorem zdp:zaM X (.type "list") (zhX X.K E zjk):=by
 refine zaM.imp zeq fun xs H Q ⟨ι,h,ds,rl,hr,q⟩=> ?_
 obtain ⟨d,v,e,r,q⟩:=zcl rl q
 obtain ⟨a,vs,ds',e',hs,rl',q⟩:=zcn hr r q
 exact ⟨a,vs,by rw [e,e'],zjp hs,fun l hl=>zpG hr rl' q hl⟩
noncomputable def two2 (g:Int->Int->Int):List D->M D
 | [.int i,.int j]=>pure (.int (g i j))
 | _=>M.bad
theorem two2_inv {K:W.Frag} {ι:Io} {H:Hp} {h:Hh} {g:Int->Int->Int} {ds:List D} {xs:List V} {P:D->Io->Hp->Prop} (hr:zbf K ι H h) (rl:zar K ι H ds xs) (q:Fin K E ι H (two2 g ds h) P): ∃ i j,xs=[.int i,.int j]/\P (.int (g i j)) ι H:=by
 unfold two2 at q
 split at q
 ·simp only [zar,Rel] at rl
  obtain ⟨v,r,rfl,rfl,v',r',rfl,rfl,rfl⟩:=rl
  exact ⟨_,_,rfl,Fin.out hr q⟩
 ·exact qa0 q
noncomputable def zkF:=two2 fun i j=>if j>i then j else i
noncomputable def zpI:=two2 fun i j=>if j<i then j else i
theorem zfI (hc:X.calm=true):zaM X (.builtin "max") (zhX X.K E zkF):=by
 refine zaM.imp (zkl hc) fun xs H Q ⟨ι,h,ds,rl,hr,q⟩=> ?_
 obtain ⟨i,j,e,q⟩:=two2_inv hr rl q
 exact ⟨i,j,e,q _ (by simp [Rel])⟩
theorem zjq (hc:X.calm=true):zaM X (.builtin "min") (zhX X.K E zpI):=by
 refine zaM.imp (zkW hc) fun xs H Q ⟨ι,h,ds,rl,hr,q⟩=> ?_
 obtain ⟨i,j,e,q⟩:=two2_inv hr rl q
 exact ⟨i,j,e,q _ (by simp [Rel])⟩
noncomputable def znX:List D->Option (List Bool)
 | []=>some []
 | .bl b::r=>(znX r).map (b:: ·)
 | _=>none
noncomputable def zd5:List D->Option (List Int)
 | []=>some []
 | .int i::r=>(zd5 r).map (i:: ·)
 | _=>none
theorem zi5 {K:W.Frag} {ι:Io} {H:Hp}: ∀ {ds:List D} {vs:List V} {bs:List Bool},zar K ι H ds vs->znX ds=some bs->vs=bs.map V.bl
 | [],_,_,h,e=>by simp only [zar] at h;subst h;cases e;rfl
 | d::ds,_,bs,h,e=>by
  simp only [zar] at h
  obtain ⟨v,r,rfl,h1,h2⟩:=h
  cases d with
  | bl b=>
   unfold znX at e
   cases z:znX ds with
   | none=>rw [z] at e;cases e
   | some cs=>
    rw [z] at e
    cases e
    simp only [Rel] at h1
    rw [h1,zi5 h2 z]
    rfl
  | _=>cases e
theorem zdd {K:W.Frag} {ι:Io} {H:Hp}: ∀ {ds:List D} {vs:List V} {bs:List Int},zar K ι H ds vs->zd5 ds=some bs->vs=bs.map V.int
 | [],_,_,h,e=>by simp only [zar] at h;subst h;cases e;rfl
 | d::ds,_,bs,h,e=>by
  simp only [zar] at h
  obtain ⟨v,r,rfl,h1,h2⟩:=h
  cases d with
  | int b=>
   unfold zd5 at e
   cases z:zd5 ds with
   | none=>rw [z] at e;cases e
   | some cs=>
    rw [z] at e
    cases e
    simp only [Rel] at h1
    rw [h1,zdd h2 z]
    rfl
  | _=>cases e
theorem Fin.ofOb {α β:Type} {K:W.Frag} {ι:Io} {H:Hp} {h:Hh} {o:Option α} {f:α->M β} {P:β->Io->Hp->Prop} (q:Fin K E ι H ((do let a<-L3.ofO o;f a) h) P): ∃ a,o=some a/\Fin K E ι H (f a h) P:=by
 cases o with
 | none=>exact qa0 q
 | some a=>exact ⟨a,rfl,q⟩
noncomputable def zso:List D->M D:=zmW fun d=>match d with
 | .lst ds=>do let bs<-ofO (znX ds);pure (.bl (bs.all id))
 | _=>M.bad
theorem zhh (hc:X.calm=true):zaM X (.builtin "all") (zhX X.K E zso):=by
 refine zaM.imp (zl5 hc) fun xs H Q ⟨ι,h,ds,rl,hr,q⟩=> ?_
 obtain ⟨d,v,e,r,q⟩:=zcl rl q
 cases d with
 | lst ds=>
  obtain ⟨a,vs,e',h1,h2⟩:=ze9 r
  obtain ⟨bs,eb,q⟩:=Fin.ofOb q
  have:=zi5 h2 eb
  subst this
  exact ⟨a,bs,by rw [e,e'],h1,Fin.out hr q _ (by simp [Rel])⟩
 | _=>exact qa0 q
noncomputable def ztj:List D->M D:=zmW fun d=>match d with
 | .lst ds=>do let bs<-ofO (zd5 ds);pure (.int bs.sum)
 | _=>M.bad
theorem zlA (hc:X.calm=true):zaM X (.builtin "sum") (zhX X.K E ztj):=by
 refine zaM.imp (zkw hc) fun xs H Q ⟨ι,h,ds,rl,hr,q⟩=> ?_
 obtain ⟨d,v,e,r,q⟩:=zcl rl q
 cases d with
 | lst ds=>
  obtain ⟨a,vs,e',h1,h2⟩:=ze9 r
  obtain ⟨bs,eb,q⟩:=Fin.ofOb q
  have:=zdd h2 eb
  subst this
  exact ⟨a,bs,by rw [e,e'],h1,Fin.out hr q _ (by simp [Rel])⟩
 | _=>exact qa0 q
noncomputable def zgw:List D->M D:=zmW fun d=>do
 let ds<-zj0 d
 let ns<-ofO (zd5 ds)
 if ns.length<64 then pure (.lst ((zc1 ns).map D.int)) else M.bad
theorem zeu (hc:X.calm=true):zaM X (.builtin "sorted") (zhX X.K E zgw):=by
 refine zaM.imp (zex hc) fun xs H Q ⟨ι,h,ds,rl,hr,q⟩=> ?_
 obtain ⟨d,v,e,r,q⟩:=zcl rl q
 obtain ⟨a,vs,ds',e',hs,rl',q⟩:=zcn hr r q
 obtain ⟨ns,en,q⟩:=Fin.ofOb q
 have:=zdd rl' en
 subst this
 obtain ⟨hl,q⟩:=Fin.guard q
 exact ⟨a,ns,by rw [e,e'],.inr ⟨⟨hl,zjp hs⟩,fun l hl=>zpG hr (zcA.mpr rfl) q hl⟩⟩
noncomputable def zdP (d:D):M D:=do
 let ds<-zj0 d
 let ns<-ofO (zd5 ds)
 if (ns.foldl step_dedup []).length<64/\ns.length<4000 then pure (.lst ((zgN ns).map D.int)) else M.bad
theorem zjY {p1 p2 pos2:Pos} {f:Sd->M D} (hc:X.calm=true) (hg1:Gl X "sorted") (hm1:X.mg "sorted"=none) (hg2:Gl X "set") (hm2:X.mg "set"=none) (he:SE X E e f)
  (h1:starEach [.Call (.Name "set" p2) [e] [] pos2] X.env=[(false,eval (.Call (.Name "set" p2) [e] [] pos2) X.env)]:=by rfl) (h2:starEach [e] X.env=[(false,eval e X.env)]:=by rfl):
  SE X E (.Call (.Name "sorted" p1) [.Call (.Name "set" p2) [e] [] pos2] [] pos) (fun sd=>do let d<-f sd;zdP d):=by
 refine PE.imp (zgg (zex hc) hg1 hm1 boot_sorted (zbK (zcy (zlL hc) hg2 hm2 PyProof.Rows.boot_set (zbK he zcZ h2) (he:=h2)) zcZ h1) (he:=h1)) fun σ H Q ⟨ι,h,sd,L,hh,q⟩=>⟨ι,h,sd,L,hh,Fin.bind q fun d h1 ι1 H1 e1 s1 hr1 q1 v rv=> ?_⟩
 obtain ⟨a,vs,ds',e',hs,rl',q2⟩:=zcn hr1 rv q1
 obtain ⟨ns,en,q3⟩:=Fin.ofOb q2
 have:=zdd rl' en
 subst this
 obtain ⟨hl,q4⟩:=Fin.guard q3
 refine ⟨a,ns,by rw [e'],zjp hs,hl.2,fun p hp=> ?_⟩
 have hr2:zbf X.K ι1 (upd H1 p (zkb X.prog X.w p ns)) h1:=hr1.laid hp
 exact ⟨p,ns,rfl,.inl ⟨⟨hl.1,za0⟩,fun l hl'=>zpG hr2 (zcA.mpr rfl) (Fin.step (hr1.laidS hp) q4) hl'⟩⟩
end
noncomputable def tyD:D->M String
 | .non=>pure "NoneType"
 | .bl _=>pure "bool"
 | .int _=>pure "int"
 | .str _=>pure "str"
 | .tup _=>pure "tuple"
 | .lst _=>pure "list"
 | .dct=>pure "dict"
 | .cel n=>do let _<-zao n;pure "list"
 | _=>M.bad
noncomputable def zlI:List String:=["NoneType","bool","int","str","tuple","list","dict"]
noncomputable def isB (T t:String):Bool:=t==T || (t=="bool" && T=="int")
noncomputable def zjS (T:String) (d:D):M D:=do let t<-tyD d;pure (.bl (isB T t))
def zjo (T:String):Prop:= ∀ (K:W.Frag), ∀ t∈zlI,W.kitOne K (.type t) (.type T)=some (isB T t)
noncomputable def ztO (t T:String):Option Bool:=if ((Value.type t)==(Value.type T))=true then some true else if W.kitMeta T=true then (fastBuiltinMro t).map (·.contains (Value.type T)) else none
theorem zge {T:String} (h:(zlI.all fun t=>ztO t T==some (isB T t))=true):zjo T:=fun K t ht=>by
 have:=List.all_eq_true.mp h t ht
 have e:W.kitOne K (.type t) (.type T)=ztO t T:=rfl
 rw [e]
 exact beq_iff_eq.mp this
theorem zoi:zjo "int":=zge (by decide +kernel)
theorem zmn:zjo "bool":=zge (by decide +kernel)
theorem zfq:zjo "tuple":=zge (by decide +kernel)
section
variable {X:Cx} {E:XE} {α:Type}
theorem zpr {K:W.Frag} {ι:Io} {H:Hp} {h:Hh} {d:D} {v:V} {f:String->M α} {P:α->Io->Hp->Prop} (hr:zbf K ι H h) (r:Rel K ι H d v) (q:Fin K E ι H ((do let t<-tyD d;f t) h) P):
  ∃ t,t∈zlI/\ziA K H v (.type t)/\Fin K E ι H (f t h) P:=by
 cases d with
 | non=>simp only [Rel] at r;subst r;exact ⟨_,by decide,.non,q⟩
 | bl b=>simp only [Rel] at r;subst r;exact ⟨_,by decide,.bl b,q⟩
 | int b=>simp only [Rel] at r;subst r;exact ⟨_,by decide,.int b,q⟩
 | str b=>simp only [Rel] at r;subst r;exact ⟨_,by decide,.str b,q⟩
 | tup ds=>
  simp only [Rel] at r
  obtain ⟨a,vs,e,h1,h2⟩:=r
  subst e
  exact ⟨_,by decide,.tup h1.1,q⟩
 | lst ds=>
  simp only [Rel] at r
  obtain ⟨a,vs,e,h1,h2⟩:=r
  subst e
  exact ⟨_,by decide,.lst h1.1,q⟩
 | dct=>
  simp only [Rel] at r
  obtain ⟨a,e,h1,h2⟩:=r
  subst e
  exact ⟨_,by decide,.dK h1,q⟩
 | cel n=>
  have q':Fin K E ι H (M.bind (zao n) (fun _=>f "list") h) P:=by
   have e:(do let t<-tyD (.cel n);f t:M α)=(zao n>>=fun _=>f "list"):=by
    show ((zao n>>=fun _=>pure "list")>>=f)=_
    simp only [bind_assoc,pure_bind]
   rw [e] at q
   exact q
  unfold M.bind at q'
  cases z:zao n h with
  | bad=>rw [z] at q';exact qa0 q'
  | exc c h'=>unfold zao at z;split at z<;>cases z
  | ok ds h'=>
   rw [z] at q'
   obtain ⟨rfl,z2⟩:=zcD z
   obtain ⟨a,vs,e,hn,hH,rl⟩:=hr.read r z2
   subst e
   exact ⟨_,by decide,.lst hH,q'⟩
 | _=>exact qa0 q
theorem zmP:zaM X (.builtin "isinstance") (fun xs H Q=> ∃ x t T b,xs=[x,.ty T]/\ziA X.K H x t/\W.kitOne X.K t (.type T)=some b/\Q (.bl b) H):=by
 intro pins s σ H xs us Q I r h
 obtain ⟨x,t,T,b,rfl,ty,e,q⟩:=h
 cases r with
 | cons r1 r2=>
  cases r2 with
  | cons r3 r4=>
   cases r4
   cases r3
   exact zka I r1 ty e fun tk=>⟨.bl b,H,I.tok tk,rfl,q⟩
theorem zqs {a:Expr} {x:Str} {T:String} {p1 p2 pos:Pos} {fa:Sd->M D} (hk:zjo T) (hg:Gl X "isinstance") (hm:X.mg "isinstance"=none) (hgT:Gl X x) (hmT:X.mg x=none) (hvT:bootBuiltins x=some (.type T)) (ha:SE X E a fa)
  (hn:x≠"__name__":=by decide) (hd:(x==("__debug__":Str))=false:=by decide)
  (h1:starEach [a,.Name x p2] X.env=(false,eval a X.env)::starEach [.Name x p2] X.env:=by rfl) (h2:starEach [.Name x p2] X.env=[(false,eval (.Name x p2) X.env)]:=by rfl)
  (hpl:(backTo pos (starEach [.Name x p2] X.env)).any (·.1)=false:=by rfl):
  SE X E (.Call (.Name "isinstance" p1) [a,.Name x p2] [] pos) (fun sd=>do let d<-fa sd;zjS T d):=by
 refine PE.imp (zgg zmP hg hm PyProof.Rows.boot_isinstance (zbK ha (zbK (zoV (v:= .ty T) hgT hmT hvT rfl hn hd) zcZ h2) h1) (he:=h1) (hpl:=hpl)) fun σ H Q ⟨ι,h,sd,L,hh,q⟩=>⟨ι,h,sd,L,hh,Fin.bind q fun d h1 ι1 H1 e1 s1 hr1 q1 v rv=> ?_⟩
 obtain ⟨t,ht,ty,q2⟩:=zpr hr1 rv q1
 exact ⟨v,.type t,T,isB T t,rfl,ty,hk X.K t ht,Fin.out hr1 q2 _ (by simp [Rel])⟩
noncomputable def zfX:D->D->M D
 | .bl a,.bl b=>pure (.bl (a != b))
 | _,_=>M.bad
theorem zfo:OpR X (compareOp .IsNot) (zd7 X.K E zfX):=by
 intro pins s σ H x y v u Q I rx ry ⟨ι,h,d1,d2,r1,r2,hr,q⟩
 unfold zfX at q
 split at q
 ·simp only [Rel] at r1 r2
  subst r1 r2
  cases rx
  cases ry
  exact isnot_bool (zqy I (Fin.out hr q _ (by simp [Rel])) rfl)
 ·exact qa0 q
noncomputable def zj2 (xs:List D) (lo hi:Option Int):List D:=(xs.drop (HT.sIx xs.length 0 lo)).take (HT.sIx xs.length xs.length hi - HT.sIx xs.length 0 lo)
noncomputable def dSl (d:D) (lo hi:Option Int):M D:=match d with
 | .tup ds=>pure (.tup (zj2 ds lo hi))
 | .lst ds=>pure (.lst (zj2 ds lo hi))
 | _=>M.bad
noncomputable def zuu (K:W.Frag) (E:XE) (f:Sd->M (Option Int)):TO:=fun σ H Q=> ∃ ι h sd,zcH K ι H sd σ/\zbf K ι H h/\Fin K E ι H (f sd h) fun o ι' H'=>Q o H'
noncomputable abbrev SO (X:Cx) (E:XE) (e:Option Expr) (f:Sd->M (Option Int)):Prop:=PO X e (zuu X.K E f)
theorem PO.imp {e:Option Expr} {t t':TO} (h:PO X e t) (m: ∀ σ H Q,t' σ H Q->t σ H Q):PO X e t':=fun pins s σ H Q I q=>h pins s σ H Q I (m _ _ _ q)
noncomputable def zgZ:Sd->M (Option Int):=fun _=>pure none
noncomputable def zou:D->M (Option Int)
 | .int i=>pure (some i)
 | _=>M.bad
noncomputable def zhH (f:Sd->M D):Sd->M (Option Int):=fun sd=>do let d<-f sd;zou d
theorem zea:SO X E none zgZ:=PO.imp zpz fun σ H Q ⟨ι,h,sd,L,hh,q⟩=>Fin.out hh q
theorem zee {e:Expr} {f:Sd->M D} (h:SE X E e f):SO X E (some e) (zhH f):=by
 refine PO.imp (zpM h) fun σ H Q ⟨ι,h,sd,L,hh,q⟩=>⟨ι,h,sd,L,hh,Fin.bind q fun d h1 ι1 H1 e1 s1 hr1 q1 v rv=> ?_⟩
 cases d with
 | int i=>simp only [Rel] at rv;exact ⟨i,rv,Fin.out hr1 q1⟩
 | _=>exact qa0 q1
noncomputable def cSl (f:Sd->M D) (lo hi:Sd->M (Option Int)):Sd->M D:=fun sd=>do let d<-f sd;let l<-lo sd;let u<-hi sd;dSl d l u
theorem zdl {e:Expr} {lo hi:Option Expr} {p2 pos:Pos} {f:Sd->M D} {fl fh:Sd->M (Option Int)} (he:SE X E e f) (hl:SO X E lo fl) (hu:SO X E hi fh):SE X E (.Subscript e (.Slice lo hi none p2) pos) (cSl f fl fh):=by
 refine PE.imp (zmg (zog.or (zrD.or zo1)) he hl hu) fun σ H Q ⟨ι,h,sd,L,hh,q⟩=>⟨ι,h,sd,L,hh,Fin.bind q fun d h1 ι1 H1 e1 s1 hr1 q1 v rv=> ?_⟩
 refine ⟨ι1,h1,sd,L.step s1,hr1,Fin.bind q1 fun l h2 ι2 H2 e2 s2 hr2 q2=> ?_⟩
 refine ⟨ι2,h2,sd,(L.step s1).step s2,hr2,Fin.bind q2 fun u h3 ι3 H3 e3 s3 hr3 q3=> ?_⟩
 have rv3:=(rv.step s2).step s3
 cases d with
 | tup ds=>
  obtain ⟨a,vs,e,k1,k2⟩:=zc0 rv3
  by_cases hw:HT.sIx vs.length 0 l=0/\HT.sIx vs.length vs.length u=vs.length
  ·refine .inl ⟨a,vs,e,k1,hw,?_⟩
   have ec:zj2 ds l u=ds:=by
    unfold zj2
    rw [k2.length,hw.1,hw.2, <-k2.length]
    simp
   refine Fin.out hr3 q3 _ ?_
   rw [ec, <-e]
   exact rv3
  ·refine .inr (.inl ⟨a,vs,e,k1,hw,fun p hp=>zoo hr3 ?_ q3 hp⟩)
   unfold zj2 znE
   rw [k2.length]
   exact zar.take _ (zar.drop _ k2)
 | lst ds=>
  obtain ⟨a,vs,e,k1,k2⟩:=ze9 rv3
  refine .inr (.inr ⟨a,vs,e,k1,fun p hp=>zpG hr3 ?_ q3 hp⟩)
  unfold zj2 znE
  rw [k2.length]
  exact zar.take _ (zar.drop _ k2)
 | _=>exact qa0 q3
noncomputable def zuj:D->M D
 | .tup ds=>pure (.tup ds.reverse)
 | _=>M.bad
noncomputable def zoy (x y:D):M D:=match x,y with
 | .int i,.int j=>if (zba i || zba j)=true then pure (.int (i*j)) else M.bad
 | .tup xs,.int k=>if xs≠[]/\2<=k/\k<1000/\xs.length*k.toNat<=sizeLine then pure (.tup (List.replicate k.toNat xs).flatten) else M.bad
 | _,_=>M.bad
theorem zar.rep {K:W.Frag} {ι:Io} {H:Hp} {ds:List D} {vs:List V} (h:zar K ι H ds vs): ∀ n,zar K ι H (List.replicate n ds).flatten (List.replicate n vs).flatten
 | 0=>zar.nil
 | n+1=>by
  rw [List.replicate_succ,List.replicate_succ,List.flatten_cons,List.flatten_cons]
  exact zar.append h (zar.rep h n)
theorem zkA:OpR X (binaryOp .Mult) (zd7 X.K E zoy):=by
 refine OpR.imp (zrm.or zpT) fun x y H Q ⟨ι,h,d1,d2,r1,r2,hr,q⟩=> ?_
 unfold zoy at q
 split at q
 ·simp only [Rel] at r1 r2
  obtain ⟨c,q⟩:=Fin.guard q
  refine .inl ⟨_,_,r1,r2,?_,Fin.out hr q _ (by simp [Rel])⟩
  rcases (Bool.or_eq_true _ _).mp c with z | z
  ·exact .inl (zcO z)
  ·exact .inr (zcO z)
 ·simp only [Rel] at r2
  obtain ⟨a,vs,e,k1,k2⟩:=zc0 r1
  obtain ⟨⟨c1,c2,c3,c4⟩,q⟩:=Fin.guard q
  refine .inr ⟨a,_,vs,e,r2,k1,fun z=>c1 ?_,c2,c3,by rw [<- k2.length];exact c4,fun p hp=>zoo hr (k2.rep _) q hp⟩
  subst z
  exact List.eq_nil_of_length_eq_zero k2.length
 ·exact qa0 q
mutual
noncomputable def pdH (h:Hh):D->Option PyData
 | .non=>some .none
 | .bl b=>some (.bool b)
 | .int i=>some (.int i)
 | .str x=>some (.str x)
 | .tup xs=>(zni h xs).map .tuple
 | .lst xs=>(zni h xs).map .list
 | .cel n=>match h[n]? with
  | some (.lst ds)=>(pdL ds).map .list
  | _=>none
 | _=>none
noncomputable def zni (h:Hh):List D->Option (List PyData)
 | []=>some []
 | x::xs=>match pdH h x,zni h xs with
  | some a,some r=>some (a::r)
  | _,_=>none
end
mutual
theorem zrI {pins:List (Addr×Obj)} {σ:L2.St} {H:Hp} {s:Shared} {ι:Io} {h:Hh} (I:Inv X pins σ H s) (hr:zbf X.K ι H h): ∀ {d:D} {v:V} {u:Value} {p:PyData},Rel X.K ι H d v->zb1 v u->pdH h d=some p-> ∃ as,Reads s.heap u p as
 | .non,v,u,p,r,ru,e=>by simp only [Rel] at r;subst r;cases ru;simp only [pdH] at e;cases e;exact ⟨_,.none⟩
 | .bl b,v,u,p,r,ru,e=>by simp only [Rel] at r;subst r;cases ru;simp only [pdH] at e;cases e;exact ⟨_,.bool _⟩
 | .int i,v,u,p,r,ru,e=>by simp only [Rel] at r;subst r;obtain ⟨t,rfl⟩:=ru;simp only [pdH] at e;cases e;exact ⟨_,.int _ _⟩
 | .str i,v,u,p,r,ru,e=>by simp only [Rel] at r;subst r;obtain ⟨t,rfl⟩:=ru;simp only [pdH] at e;cases e;exact ⟨_,.str _ _⟩
 | .tup ds,v,u,p,r,ru,e=>by
  obtain ⟨a,vs,rfl,h1,h2⟩:=zc0 r
  cases ru
  obtain ⟨its,rv,pl,_⟩:=I.tuple h1
  obtain ⟨o,ho,hc,n,hd⟩:=pl
  simp only [pdH] at e
  cases z:zni h ds with
  | none=>rw [z] at e;cases e
  | some ps=>
   rw [z] at e;cases e
   obtain ⟨as,q⟩:=zhT I hr h2 rv z
   exact ⟨_,.tuple ho hc hd (by simpa using q)⟩
 | .lst ds,v,u,p,r,ru,e=>by
  obtain ⟨a,vs,rfl,h1,h2⟩:=ze9 r
  cases ru
  obtain ⟨its,rv,pl,_⟩:=I.list h1
  obtain ⟨o,ho,hc,n,hd⟩:=pl.isList
  simp only [pdH] at e
  cases z:zni h ds with
  | none=>rw [z] at e;cases e
  | some ps=>
   rw [z] at e;cases e
   obtain ⟨as,q⟩:=zhT I hr h2 rv z
   exact ⟨_,.list ho hc hd (by simpa using q)⟩
 | .cel m,v,u,p,r,ru,e=>by
  simp only [pdH] at e
  cases z0:h[m]? with
  | none=>rw [z0] at e;cases e
  | some c=>
   rw [z0] at e
   cases c with
   | dead=>cases e
   | dic _=>cases e
   | lst ds=>
    obtain ⟨a,vs,rfl,hn,hH,rl⟩:=hr.read r z0
    cases ru
    obtain ⟨its,rv,pl,_⟩:=I.list (SqL.of hH)
    obtain ⟨o,ho,hc,n,hd⟩:=pl.isList
    cases z:pdL ds with
    | none=>simp only [z] at e;cases e
    | some ps=>
     simp only [z] at e;cases e
     obtain ⟨as,q⟩:=zhb I rl rv z
     exact ⟨_,.list ho hc hd (by simpa using q)⟩
 | .scr ds,_,_,_,_,_,e=>by simp only [pdH] at e;cases e
 | .set xs,_,_,_,_,_,e=>by simp only [pdH] at e;cases e
 | .dct,_,_,_,_,_,e=>by simp only [pdH] at e;cases e
 | .fn _,_,_,_,_,_,e=>by simp only [pdH] at e;cases e
 | .exn _,_,_,_,_,_,e=>by simp only [pdH] at e;cases e
theorem zhT {pins:List (Addr×Obj)} {σ:L2.St} {H:Hp} {s:Shared} {ι:Io} {h:Hh} (I:Inv X pins σ H s) (hr:zbf X.K ι H h): ∀ {ds:List D} {vs:List V} {us:List Value} {ps:List PyData},zar X.K ι H ds vs->za3 vs us->zni h ds=some ps-> ∃ as,ReadsAll s.heap us ps as
 | [],vs,us,ps,r,ru,e=>by simp only [zar] at r;subst r;cases ru;simp only [zni] at e;cases e;exact ⟨_,.nil⟩
 | d::ds,vs,us,ps,r,ru,e=>by
  simp only [zar] at r
  obtain ⟨v,vr,rfl,r1,r2⟩:=r
  cases ru with
  | cons ru1 ru2=>
   simp only [zni] at e
   cases z:pdH h d with
   | none=>rw [z] at e;cases e
   | some a=>
    cases z2:zni h ds with
    | none=>rw [z,z2] at e;cases e
    | some b=>
     rw [z,z2] at e
     cases e
     obtain ⟨as,q1⟩:=zrI I hr r1 ru1 z
     obtain ⟨bs,q2⟩:=zhT I hr r2 ru2 z2
     exact ⟨_,.cons q1 q2⟩
end
end
noncomputable abbrev FE:=Sd->M D
noncomputable abbrev FT:=Sd->M Bool
noncomputable abbrev FA:=Sd->M (List D)
noncomputable abbrev FS:=Sd->M Out
noncomputable def cOp (F:D->D->M D) (a b:FE):FE:=fun sd=>do let x<-a sd;let y<-b sd;F x y
noncomputable def cUn (F:D->M D) (a:FE):FE:=fun sd=>do let x<-a sd;F x
noncomputable def zat (F:List D->M D) (a:FA):FE:=fun sd=>do let ds<-a sd;F ds
noncomputable def zcx (F:D->D->M D) (a b:FE):FT:=fun sd=>do let z<-(do let x<-a sd;let y<-b sd;F x y);zc2 z
noncomputable def zir (a:FE):FT:=fun sd=>do let x<-a sd;zc2 x
noncomputable def zh2 (t:FT):FT:=fun sd=>do let c<-t sd;pure (!c)
noncomputable def zrK (t u:FT):FT:=fun sd=>do let c<-t sd;if c=true then u sd else pure false
noncomputable def tOr (t u:FT):FT:=fun sd=>do let c<-t sd;if c=true then pure true else u sd
noncomputable def zl8 (a b:FE):FE:=fun sd=>do let c<-(do let x<-a sd;zc2 x);if c=true then b sd else pure (.bl false)
noncomputable def cOr (a b:FE):FE:=fun sd=>do let c<-(do let x<-a sd;zc2 x);if c=true then pure (.bl true) else b sd
noncomputable def zsr (a:FE):FE:=fun sd=>do let c<-(do let x<-a sd;zc2 x);pure (.bl (!c))
noncomputable def cIf (t:FT) (a b:FE):FE:=fun sd=>do let c<-t sd;if c=true then a sd else b sd
noncomputable def cK (d:D):FE:=fun _=>pure d
noncomputable def zan:FA:=fun _=>pure []
noncomputable def zac (a:FE) (r:FA):FA:=fun sd=>do let x<-a sd;let r<-r sd;pure (x::r)
noncomputable def zeH (fs:FA):FE:=fun sd=>do let ds<-fs sd;fits ds.length;pure (.tup ds)
noncomputable def zlx (fs:FA):FE:=fun sd=>do let ds<-fs sd;fits ds.length;pure (.lst ds)
noncomputable def zgQ (fs:FA):FE:=fun sd=>do let ds<-fs sd;fits ds.length;zdD ds
noncomputable def zeA:FS:=fun sd=>pure (.nx sd)
noncomputable def zap (g g':FS):FS:=fun sd=>do let o<-g sd;zdH o g'
noncomputable def zbx (i:Nat) (f:FE):FS:=fun sd=>do let d<-f sd;pure (.nx (sd.set i (some d)))
noncomputable def zby (f:FE):FS:=fun sd=>do let d<-f sd;pure (.rt d)
noncomputable def sIf (t:FT) (g g':FS):FS:=fun sd=>do let c<-t sd;if c=true then g sd else g' sd
noncomputable def zj4 (fi:FA) (g:D->Sd->M Sd) (gb:FS):FS:=fun sd=>do let ds<-fi sd;za9 (fun x sd=>do let sd1<-g x sd;gb sd1) ds sd
noncomputable def znK (f:FE) (g:D->Sd->M Sd):FS:=fun sd=>do let d<-f sd;let sd'<-g d sd;pure (.nx sd')
noncomputable def zed (f:FE):FS:=fun sd=>do let _<-f sd;pure (.nx sd)
noncomputable def iSq (f:FE):FA:=fun sd=>do let d<-f sd;zfd d
noncomputable def zgK (fs:FA):FA:=fun sd=>do let ds<-fs sd;zk3 ds
noncomputable def zod (fo fi:FE):D->Sd->M Sd:=fun d sd=>do let x<-fo sd;let y<-fi sd;zlq x y d;pure sd
section
variable {X:Cx} {E:XE} {a b e c:Expr} {es:List Expr} {pos p p1 p2:Pos} {fa fb f:FE} {fs:FA} {x:Str}
theorem zab (i:Nat) (hN:X.N[i]? = some x:=by rfl) (hv:Vis X.env.scope x:=by first | exact Or.inl rfl | exact Or.inr (Or.inl rfl) | exact Or.inr (Or.inr rfl)) (hd:(x==("__debug__":Str))=false:=by decide) (hcd:(x==("__classdict__":Str))=false:=by decide):SE X E (.Name x pos) (zaf i):=zq4 i hN hv hd hcd
theorem zai {i:Int} {j:Nat}:SE X E (.Constant (.int i) j pos) (cK (.int i)):=zqg
theorem zgM {i:Bool} {j:Nat}:SE X E (.Constant (.bool i) j pos) (cK (.bl i)):=zsW
theorem zkZ {i:Int} (hm: ∃ t,X.mg x=some (.int i t)) (hg:Gl X x:=by rfl) (hd:(x==("__debug__":Str))=false:=by decide):SE X E (.Name x pos) (cK (.int i)):=by
 obtain ⟨t,hm⟩:=hm
 exact zmy hg hm hd
theorem zcz {op:Operator} {F:D->D->M D} (ho:OpR X (binaryOp op) (zd7 X.K E F)) (ha:SE X E a fa) (hb:SE X E b fb):SE X E (.BinOp a op b pos) (cOp F fa fb):=zs2 ho ha hb
theorem zhg {op:CmpOp} {F:D->D->M D} (ho:OpR X (compareOp op) (zd7 X.K E F)) (ha:SE X E a fa) (hb:SE X E b fb) (hm:behindInMarks op b=false:=by rfl):SE X E (.Compare a [op] [b] pos) (cOp F fa fb):=zp9 ho ha hb hm
theorem zaG {op:CmpOp} {F:D->D->M D} (ho:OpR X (compareOp op) (zd7 X.K E F)) (ha:SE X E a fa) (hb:SE X E b fb) (hm:behindInMarks op b=false:=by rfl):ST X E (.Compare a [op] [b] pos) (zcx F fa fb):=zrf ho ha hb hm
theorem zaX (ha:SE X E a fa) (hb:SE X E b fb) (hs:zig b:=by intro _ _;rfl):SE X E (.Subscript a b pos) (cOp dIx fa fb):=zs8 zup ha hb hs
theorem zkz (ha:SE X E a fa):SE X E (.UnaryOp .USub a pos) (cUn znJ fa):=zrJ ha
theorem zq9 (ha:SE X E a fa):SE X E (.UnaryOp .Not a pos) (zsr fa):=zrR ha
theorem zic {op:BoolOp} (h:SE X E a fa):SE X E (.BoolOp op [a] pos) fa:=zq5 h
theorem zhB {zbs:List Expr} (ha:SE X E a fa) (hb:SE X E (.BoolOp .And (b::zbs) pos) fb):SE X E (.BoolOp .And (a::b::zbs) pos) (zl8 fa fb):=zr5 ha hb
theorem zuB {zbs:List Expr} (ha:SE X E a fa) (hb:SE X E (.BoolOp .Or (b::zbs) pos) fb):SE X E (.BoolOp .Or (a::b::zbs) pos) (cOr fa fb):=zs6 ha hb
theorem zcW (h:SE X E e f) (he: ∀ whole,isTrue e X.env whole=(do let v<-whole;standAt e.pos;holding [v] (truthy v)):=by intro _;rfl):ST X E e (zir f):=zqO h he
theorem zc9 {t:FT} (ha:ST X E a t):ST X E (.UnaryOp .Not a pos) (zh2 t):=zrL ha
theorem zoE {t:FT} (ha:ST X E a t):PW X (.BoolOp .And [a] pos) (zgJ X.K E t):=zpC ha
theorem zdu {t:FT} (ha:ST X E a t):PW X (.BoolOp .Or [a] pos) (zgJ X.K E t):=zqa ha
theorem zrl {zbs:List Expr} {t u:FT} (ha:ST X E a t) (hb:PW X (.BoolOp .And (b::zbs) pos) (zgJ X.K E u)):PW X (.BoolOp .And (a::b::zbs) pos) (zgJ X.K E (zrK t u)):=zqf ha hb
theorem zdM {zbs:List Expr} {t u:FT} (ha:ST X E a t) (hb:PW X (.BoolOp .Or (b::zbs) pos) (zgJ X.K E u)):PW X (.BoolOp .Or (a::b::zbs) pos) (zgJ X.K E (tOr t u)):=zsN ha hb
theorem zcc {op:BoolOp} {vs:List Expr} {t:FT} (h:PW X (.BoolOp op vs pos) (zgJ X.K E t)):ST X E (.BoolOp op vs pos) t:=zpH h
theorem zlt {env:Env} (h: ∀ v p,e≠ .Starred v p):starEach (e::es) env=(false,eval e env)::starEach es env:=by
 cases e<;>first | rfl | exact absurd rfl (h _ _)
theorem zad:SA X E [] zan:=zsj
theorem zaa (ha:SE X E e fa) (hr:SA X E es fs) (hs:starEach (e::es) X.env=(false,eval e X.env)::starEach es X.env:=by exact zlt (fun _ _ z=>nomatch z)):SA X E (e::es) (zac fa fs):=zpf ha hr hs
theorem zcF {k} (h:SA X E es fs):SE X E (.Tuple es k pos) (zeH fs):=zrS h
theorem zgy (h:SA X E es fs):SE X E (.List es pos) (zlx fs):=zrH h
theorem zfJ (h:SA X E es fs):SE X E (.List es pos) (zgQ fs):=zoU h
theorem zay {id:String} {F:List D->M D} (hc:zaM X (.builtin id) (zhX X.K E F)) (hv:bootBuiltins x=some (.builtin id)) (hm:X.mg x=none) (ha:SA X E (e::es) fs) (hg:Gl X x:=by rfl) (hn:x≠"__name__":=by decide) (hdb:(x==("__debug__":Str))=false:=by decide)
  (he:starEach (e::es) X.env=(false,eval e X.env)::starEach es X.env:=by rfl) (hpl:(backTo pos (starEach es X.env)).any (·.1)=false:=by rfl):SE X E (.Call (.Name x p) (e::es) [] pos) (zat F fs):=zmV hc hg hm hv ha hn hdb he hpl
theorem zaW {T:String} {F:List D->M D} (hc:zaM X (.type T) (zhX X.K E F)) (hv:bootBuiltins x=some (.type T)) (hm:X.mg x=none) (ha:SA X E (e::es) fs) (hg:Gl X x:=by rfl) (hn:x≠"__name__":=by decide) (hdb:(x==("__debug__":Str))=false:=by decide)
  (he:starEach (e::es) X.env=(false,eval e X.env)::starEach es X.env:=by rfl) (hpl:(backTo pos (starEach es X.env)).any (·.1)=false:=by rfl):SE X E (.Call (.Name x p) (e::es) [] pos) (zat F fs):=zlv hc hg hm hv ha hn hdb he hpl
theorem zkG {T:String} (hk:zjo T) (hvT:bootBuiltins x=some (.type T)) (hm:X.mg "isinstance"=none) (hmT:X.mg x=none) (ha:SE X E a fa) (hg:Gl X "isinstance":=by rfl) (hgT:Gl X x:=by rfl)
  (hn:x≠"__name__":=by decide) (hd:(x==("__debug__":Str))=false:=by decide)
  (h1:starEach [a,.Name x p2] X.env=(false,eval a X.env)::starEach [.Name x p2] X.env:=by rfl) (h2:starEach [.Name x p2] X.env=[(false,eval (.Name x p2) X.env)]:=by rfl)
  (hpl:(backTo pos (starEach [.Name x p2] X.env)).any (·.1)=false:=by rfl):SE X E (.Call (.Name "isinstance" p1) [a,.Name x p2] [] pos) (cUn (zjS T) fa):=zqs hk hg hm hgT hmT hvT ha hn hd h1 h2 hpl
theorem zkQ {pos2:Pos} (hc:X.calm=true) (hm1:X.mg "sorted"=none) (hm2:X.mg "set"=none) (he:SE X E e f) (hg1:Gl X "sorted":=by rfl) (hg2:Gl X "set":=by rfl)
  (h1:starEach [.Call (.Name "set" p2) [e] [] pos2] X.env=[(false,eval (.Call (.Name "set" p2) [e] [] pos2) X.env)]:=by rfl) (h2:starEach [e] X.env=[(false,eval e X.env)]:=by rfl):
  SE X E (.Call (.Name "sorted" p1) [.Call (.Name "set" p2) [e] [] pos2] [] pos) (cUn zdP f):=zjY hc hg1 hm1 hg2 hm2 he h1 h2
theorem zah {k:Nat} {g:Addr} {fd:FuncData} {ps:List Str} {n:Nat} {F:List D->M D} (G:zbn X.prog X.w X.K X.mg X.base CX0 k g fd ps (zbH X.K n F)) (hr:zel k X.A) (hm:X.mg x=some (.ref g)) (hk:W.keepIn X.K (.ref g)=true) (hb:zaF X.K fd ps [])
  (ha:SA X E0x (e::es) fs) (hg:Gl X x:=by rfl) (hdb:(x==("__debug__":Str))=false:=by decide) (he:starEach (e::es) X.env=(false,eval e X.env)::starEach es X.env:=by rfl) (hpl:(backTo pos (starEach es X.env)).any (·.1)=false:=by rfl):
  SE X E0x (.Call (.Name x p) (e::es) [] pos) (zat (zal n F) fs):=zpR G hr hg hm hk hb ha hdb he hpl
theorem zbg:SSs X E [] zeA:=zrC
theorem zaj {st:Stmt} {g:FS} (h1:SS X E st g):SSs X E [st] g:=zrd h1
theorem zag {st:Stmt} {zbs:List Stmt} {g g':FS} (h1:SS X E st g) (h2:SSs X E zbs g'):SSs X E (st::zbs) (zap g g'):=zoX h1 h2
theorem zaD (he:SE X E e f):SS X E (.Return (some e) pos) (zby f):=ztp he
theorem ze2 {ys ns:List Stmt} {t:FT} {g g':FS} (hc:ST X E c t) (ha:SSs X E ys g) (hb:SSs X E ns g'):SS X E (.If c ys ns pos) (sIf t g g'):=zug hc ha hb
theorem zda (he:SE X E e f) (hs:swapsWith e none pos.line X.env=pure false:=by rfl):SS X E (.Expr e pos) (zed f):=zrb he hs
theorem zaI (i:Nat) (hN:X.N.Nodup) (he:SE X E e f) (hi:X.N[i]? = some x:=by rfl) (hx:Loc X.env.scope x:=by first | exact Or.inl rfl | exact Or.inr rfl) (hf:X.fn x=true\/X.env.scope.names.lookup x=some .local:=by first | exact Or.inl rfl | exact Or.inr rfl)
  (hs:swapsWith e (some (.Name x p)) pos.line X.env=pure false:=by rfl):SS X E (.Assign [.Name x p] e pos) (zbx i f):=zsD i hN hi hx hf he hs
theorem zjL {tg:Expr} {g:D->Sd->M Sd} (he:SE X E e f) (hg:SG X E tg g) (hs:swapsWithSole [tg] e pos.line X.env=pure false:=by rfl) (hw:swappedStores [tg] e X.env=pure none:=by rfl)
  (h1:(assignEach [tg] X.env).map (·.2)=[assign tg X.env]:=by rfl):SS X E (.Assign [tg] e pos) (znK f g):=ztE he hg hs hw h1
theorem zak (i:Nat) (hN:X.N.Nodup) (hi:X.N[i]? = some x:=by rfl) (hx:Loc X.env.scope x:=by first | exact Or.inl rfl | exact Or.inr rfl) (hf:X.fn x=true\/X.env.scope.names.lookup x=some .local:=by first | exact Or.inl rfl | exact Or.inr rfl):SG X E (.Name x pos) (zaB i):=zpa i hN hi hx hf
theorem zcU:SGs X E [] zcg:=zpw
theorem zaP {g:D->Sd->M Sd} {gs:List D->Sd->M Sd} (h1:SG X E e g) (h2:SGs X E es gs) (hs:(assignEach (e::es) X.env).map (·.2)=assign e X.env::(assignEach es X.env).map (·.2):=by rfl):SGs X E (e::es) (zaz g gs):=zmN h1 h2 hs
theorem zdR {k n:Nat} {gs:List D->Sd->M Sd} (hc:X.calm=true) (h:SGs X E es gs) (hn:(assignEach es X.env).length=n:=by rfl) (hst:(assignEach es X.env).findIdx? (·.1)=none:=by rfl):SG X E (.Tuple es k pos) (zch n gs):=zrj hc h hn hst
theorem zq1 (ho:SE X E a fa) (hi:SE X E b fb) (ha: ∀ v,assign (.Subscript a b pos) X.env v=(do
      let ov<-holding [v] (eval a X.env)
      let iv<-holding [v,ov] (eval b X.env)
      standAt pos
      holding [v,ov,iv] (setItem ov iv v)
      release [v,ov,iv] []):=by intro _;rfl):SG X E (.Subscript a b pos) (zod fa fb):=zr3 fun hs=>zqn ho hi hs ha
theorem zcf {tg:Expr} (he:SE X E e f):SI X E tg e (iSq f):=zrG he
theorem zeW {tg:Expr} (hm:X.mg "range"=none) (ha:SA X E [a] fs) (hg:Gl X "range":=by rfl) (hs:starEach [a] X.env=[(false,eval a X.env)]:=by rfl):SI X E tg (.Call (.Name "range" p) [a] [] pos) (zgK fs):=zoZ hg hm ha hs
theorem zfu {tg iter:Expr} {body:List Stmt} {fi:FA} {g:D->Sd->M Sd} {gb:FS} (hc:X.calm=true) (hp:PassesOwn (model X.prog X.w) X.A X.env X.xe) (hi:SI X E tg iter fi) (hg:SG X E tg g) (hb:SSs X E body gb)
  (hs: ∀ x,foldedSetIterable iter X.env x=pure x:=by intro _;rfl):SS X E (.For tg iter body [] pos) (zj4 fi g gb):=zsL hc hp hi hg hb hs
theorem zb0:SCs X E [] (fun _=>pure true):=zqj
theorem zdj {t:FT} (h:ST X E c t):SCs X E [c] t:=zqA h
theorem zbk {scope:Scope} {N:List Str} {src:List (Option Nat)} {tg iter elt:Expr} {ifs:List Expr} {fi:FA} {g:D->Sd->M Sd} {tc:FT} {te:FE} (hc:X.calm=true) (B:BOk X scope N src) (hk:zaH g src) (hi:SI X E tg iter fi)
  (hg: ∀ s H fp,SG (cxB X scope N s H fp) E tg g) (ht: ∀ s H fp,SCs (cxB X scope N s H fp) E ifs tc) (he: ∀ s H fp,SE (cxB X scope N s H fp) E elt te)
  (hs: ∀ x,foldedSetIterable iter X.env x=pure x:=by intro _;rfl):SE X E (.ListComp elt [⟨tg,iter,ifs,0⟩] scope pos) (zaw fi g tc te src):=zpK B hk hi hg ht he hs
theorem zdc {scope:Scope} {N:List Str} {src:List (Option Nat)} {tg iter elt:Expr} {ifs:List Expr} {fi:FA} {g:D->Sd->M Sd} {tc:FT} {te:FE} (i:Nat) {y:Str} {py spos:Pos} (hc:X.calm=true) (hN:X.N.Nodup) (B:BOk X scope N src) (hk:zaH g src) (hi:SI X E tg iter fi)
  (hg: ∀ s H fp,SG (cxB X scope N s H fp) E tg g) (ht: ∀ s H fp,SCs (cxB X scope N s H fp) E ifs tc) (he: ∀ s H fp,SE (cxB X scope N s H fp) E elt te)
  (hy:X.N[i]? = some y:=by rfl) (hx:Loc X.env.scope y:=by first | exact Or.inl rfl | exact Or.inr rfl) (hf:X.fn y=true\/X.env.scope.names.lookup y=some .local:=by first | exact Or.inl rfl | exact Or.inr rfl) (hsw:swapsWith (.ListComp elt [⟨tg,iter,ifs,0⟩] scope pos) (some (.Name y py)) spos.line X.env=pure true:=by rfl)
  (hs: ∀ x,foldedSetIterable iter X.env x=pure x:=by intro _;rfl):SS X E (.Assign [.Name y py] (.ListComp elt [⟨tg,iter,ifs,0⟩] scope pos) spos) (zbx i (zaw fi g tc te src)):=zls i B hk hi hg ht he hN hy hx hf hsw hs
end
theorem zbf.empty {K:W.Frag} {H:Hp}:zbf K ⟨[],[]⟩ H []:=⟨rfl,fun m n a h=>by simp at h,fun n a c h=>by simp at h,fun n h=>by simp at h,fun a h=>by cases h⟩
theorem zs4 {K:W.Frag} {F:List D->M D} {H:Hp} {a:Addr} {ns:List Int} (hS:SqL K H a (ns.map V.int)) (hm: ∃ h',F [.scr (ns.map D.int)] []= .ok (.bl true) h'):zbH K 1 F [.ref a] H (fun v _=>v= .bl true) fun _ _ _=>False:=by
 obtain ⟨h',e⟩:=hm
 refine ⟨rfl,⟨[],[]⟩,[],[.scr (ns.map D.int)],zar.cons ?_ zar.nil,zbf.empty,?_⟩
 ·simp only [Rel]
  refine ⟨a,ns.map V.int,rfl,?_,zcA.mpr rfl⟩
  rcases hS with h | h
  ·exact .inl ⟨h,fun z=>by rcases z with z | z<;>cases z⟩
  ·exact .inr (.inr h)
 ·rw [e]
  intro ι1 H1 s hr v rv
  simpa [Rel] using rv
section
variable {sd:Sd} {a b:FE} {fs:FA} {t u:FT} {g g':FS} {F:D->D->M D}
@[simp] theorem zeE:cOp F a b sd=(do let x<-a sd;let y<-b sd;F x y):=rfl
@[simp] theorem zpP {F:D->M D}:cUn F a sd=(do let x<-a sd;F x):=rfl
@[simp] theorem zbZ {F:List D->M D}:zat F fs sd=(do let ds<-fs sd;F ds):=rfl
@[simp] theorem zfY:zcx F a b sd=(do let z<-(do let x<-a sd;let y<-b sd;F x y);zc2 z):=rfl
@[simp] theorem ziS:zir a sd=(do let x<-a sd;zc2 x):=rfl
@[simp] theorem zis:zh2 t sd=(do let c<-t sd;pure (!c)):=rfl
@[simp] theorem zsg:zrK t u sd=(do let c<-t sd;if c=true then u sd else pure false):=rfl
@[simp] theorem zpn:tOr t u sd=(do let c<-t sd;if c=true then pure true else u sd):=rfl
@[simp] theorem zn1:zl8 a b sd=(do let c<-(do let x<-a sd;zc2 x);if c=true then b sd else pure (.bl false)):=rfl
@[simp] theorem ztt:cOr a b sd=(do let c<-(do let x<-a sd;zc2 x);if c=true then pure (.bl true) else b sd):=rfl
@[simp] theorem znY:zsr a sd=(do let c<-(do let x<-a sd;zc2 x);pure (.bl (!c))):=rfl
@[simp] theorem zsB:cIf t a b sd=(do let c<-t sd;if c=true then a sd else b sd):=rfl
@[simp] theorem zhx {d:D}:cK d sd=pure d:=rfl
@[simp] theorem zbw:zan sd=pure []:=rfl
@[simp] theorem za5:zac a fs sd=(do let x<-a sd;let r<-fs sd;pure (x::r)):=rfl
@[simp] theorem zlY:zeH fs sd=(do let ds<-fs sd;fits ds.length;pure (.tup ds)):=rfl
@[simp] theorem ziw:zlx fs sd=(do let ds<-fs sd;fits ds.length;pure (.lst ds)):=rfl
@[simp] theorem zgG:zgQ fs sd=(do let ds<-fs sd;fits ds.length;zdD ds):=rfl
@[simp] theorem zeV:zeA sd=pure (.nx sd):=rfl
@[simp] theorem zbp:zap g g' sd=(do let o<-g sd;zdH o g'):=rfl
@[simp] theorem zcY {i:Nat}:zbx i a sd=(do let d<-a sd;pure (.nx (sd.set i (some d)))):=rfl
@[simp] theorem zcd:zby a sd=(do let d<-a sd;pure (.rt d)):=rfl
@[simp] theorem zh1:sIf t g g' sd=(do let c<-t sd;if c=true then g sd else g' sd):=rfl
@[simp] theorem ziR {fi:FA} {gt:D->Sd->M Sd}:zj4 fi gt g sd=(do let ds<-fi sd;za9 (fun x sd=>do let sd1<-gt x sd;g sd1) ds sd):=rfl
@[simp] theorem znt {gt:D->Sd->M Sd}:znK a gt sd=(do let d<-a sd;let sd'<-gt d sd;pure (.nx sd')):=rfl
@[simp] theorem zh6:zed a sd=(do let _<-a sd;pure (.nx sd)):=rfl
@[simp] theorem zsh:iSq a sd=(do let d<-a sd;zfd d):=rfl
@[simp] theorem ziW:zgK fs sd=(do let ds<-fs sd;zk3 ds):=rfl
@[simp] theorem zpp {d:D}:zod a b d sd=(do let x<-a sd;let y<-b sd;zlq x y d;pure sd):=rfl
@[simp] theorem zdX {i:Nat} {d:D}:zaB i d sd=pure (sd.set i (some d)):=rfl
@[simp] theorem ziG:zdH (.nx sd) g=g sd:=rfl
@[simp] theorem ztB {d:D}:zdH (.rt d) g=pure (.rt d):=rfl
@[simp] theorem zuD:zdH (.bk sd) g=pure (.bk sd):=rfl
@[simp] theorem zuE:zdH (.ct sd) g=pure (.ct sd):=rfl
@[simp] theorem ztL:zbT (.nx sd)=pure .non:=rfl
@[simp] theorem zhy {d:D}:zbT (.rt d)=pure d:=rfl
@[simp] theorem zd6 {c:Bool}:zc2 (.bl c)=pure c:=rfl
@[simp] theorem zsw {lo hi:Sd->M (Option Int)}:cSl a lo hi sd=(do let d<-a sd;let l<-lo sd;let u<-hi sd;dSl d l u):=rfl
@[simp] theorem zoq:zgZ sd=pure none:=rfl
@[simp] theorem zo0:zhH a sd=(do let d<-a sd;zou d):=rfl
@[simp] theorem zrP {i:Int}:zou (.int i)=pure (some i):=rfl
@[simp] theorem ztK {ds:List D} {lo hi:Option Int}:dSl (.tup ds) lo hi=pure (.tup (zj2 ds lo hi)):=rfl
@[simp] theorem zsM {ds:List D}:zuj (.tup ds)=pure (.tup ds.reverse):=rfl
@[simp] theorem zs3 {i:Int}:znJ (.int i)=pure (.int (-i)):=rfl
@[simp] theorem zeT {i j:Int}:zdJ (.int i) (.int j)=pure (.int (i+j)):=rfl
@[simp] theorem zrt {xs ys:List D}:zdJ (.tup xs) (.tup ys)=(do fits (xs.length+ys.length);pure (.tup (xs++ys))):=rfl
@[simp] theorem znw {xs ys:List D}:zdJ (.lst xs) (.lst ys)=(do fits (xs.length+ys.length);pure (.lst (xs++ys))):=rfl
@[simp] theorem zsA {i j:Int}:zo6 (.int i) (.int j)=pure (.int (i - j)):=rfl
@[simp] theorem zub {i j:Int}:zue (.int i) (.int j)=pure (.int (Builtin.bitAnd i j)):=rfl
@[simp] theorem zq6 {i j:Int}:dLt (.int i) (.int j)=pure (.bl (decide (i<j))):=rfl
@[simp] theorem ztP {i j:Int}:dLe (.int i) (.int j)=pure (.bl (decide (i<=j))):=rfl
@[simp] theorem zua {i j:Int}:dGt (.int i) (.int j)=pure (.bl (decide (j<i))):=rfl
@[simp] theorem zt6 {i j:Int}:dGe (.int i) (.int j)=pure (.bl (decide (j<=i))):=rfl
@[simp] theorem zhQ {i j:Bool}:zfX (.bl i) (.bl j)=pure (.bl (i != j)):=rfl
@[simp] theorem zqq {ds:List D}:zdz [.tup ds]=pure (.int ds.length):=rfl
@[simp] theorem zqP {ds:List D}:zdz [.lst ds]=pure (.int ds.length):=rfl
@[simp] theorem znO {ds:List D}:zdz [.scr ds]=pure (.int ds.length):=rfl
@[simp] theorem zse {ds:List D}:zbS [.tup ds]=pure (.tup ds):=rfl
@[simp] theorem zn6 {ds:List D}:zbS [.lst ds]=pure (.tup ds):=rfl
@[simp] theorem zr9 {ds:List D}:zjk [.tup ds]=pure (.lst ds):=rfl
@[simp] theorem zrW {ds:List D}:zfd (.tup ds)=pure ds:=rfl
@[simp] theorem zsF {ds:List D}:zfd (.lst ds)=pure ds:=rfl
@[simp] theorem zhS {F:List D->M D} {x:D}:zal 1 F [x]=F [x]:=rfl
@[simp] theorem zct {F:List D->M D} {x y:D}:zal 2 F [x,y]=F [x,y]:=rfl
@[simp] theorem zpi {F:List D->M D} {x y z:D}:zal 3 F [x,y,z]=F [x,y,z]:=rfl
@[simp] theorem zdY {body:D->Sd->M Out}:za9 body [] sd=pure (.nx sd):=rfl
theorem zb8 {body:D->Sd->M Out} {x:D} {r:List D}:za9 body (x::r) sd=(do let o<-body x sd;match o with | .nx sd'=>za9 body r sd' | .ct sd'=>za9 body r sd' | .bk sd'=>pure (.nx sd') | .rt d=>pure (.rt d)):=rfl
@[simp] theorem zlC {gs:List D->Sd->M Sd} {x y:D}:zch 2 gs (.tup [x,y]) sd=gs [x,y] sd:=rfl
@[simp] theorem zlr:zcg [] sd=pure sd:=rfl
@[simp] theorem ziU {gt:D->Sd->M Sd} {gs:List D->Sd->M Sd} {x:D} {r:List D}:zaz gt gs (x::r) sd=(do let sd1<-gt x sd;gs r sd1):=rfl
@[simp] theorem zrg {n:Nat} {k:Int} {d:D}:zlq (.cel n) (.int k) d=(do let ds<-zao n;let j<-ofO (ixN ds.length k);zbL n (ds.set j d)):=rfl
@[simp] theorem ztA {ds:List D} {i:Int}:dIx (.tup ds) (.int i)=ofO (atI ds i):=rfl
@[simp] theorem zqJ {ds:List D} {i:Int}:dIx (.lst ds) (.int i)=ofO (atI ds i):=rfl
@[simp] theorem zsQ {ds:List D} {i:Int}:dIx (.scr ds) (.int i)=ofO (atI ds i):=rfl
@[simp] theorem zmb {n:Nat} {i:Int}:dIx (.cel n) (.int i)=(do let ds<-zao n;ofO (atI ds i)):=rfl
@[simp] theorem zjj {α:Type} {x:α}:ofO (some x)=pure x:=rfl
@[simp] theorem zqr {x:D} {r:List D}:atI (x::r) 0=some x:=by unfold atI ixN;simp
@[simp] theorem zsv {x y:D} {r:List D}:atI (x::y::r) 1=some y:=by
 have:=zdh (xs:=x::y::r) (j:=1) (v:=y) rfl
 simpa using this
end
theorem zaQ {n:Nat} (h:n<=1000):fits n=pure ():=by
 unfold fits
 rw [qa4 (qaS h (by decide))]
theorem ziE {i j:Int} (h:(zba i || zba j)=true):zoy (.int i) (.int j)=pure (.int (i*j)):=by
 show (if (zba i || zba j)=true then _ else _)=_
 rw [qa4 h]
theorem zeG {i:Int} (h: -1000000000000000<i) (h':i<1000000000000000):zba i=true:=by unfold zba;simp;omega
theorem zsf {i j:Int} (h: -1000000000000000<i) (h':i<1000000000000000):zoy (.int i) (.int j)=pure (.int (i*j)):=ziE (by rw [zeG h h'];rfl)
theorem zqH {i j:Int} (h: -1000000000000000<j) (h':j<1000000000000000):zoy (.int i) (.int j)=pure (.int (i*j)):=ziE (by rw [zeG h h'];simp)
theorem zh4 {i j:Int} (h:0<j):zqv (.int i) (.int j)=pure (.int (i % j)):=by
 show (if (decide (0<j))=true then _ else _)=_
 rw [qa4 (by simpa using h)]
theorem zmE {i j:Int} (h:0<j) (h':j<2^64):zpk (.int i) (.int j)=pure (.int (i / j)):=by
 show (if (decide (0<j) && decide (j<2^64))=true then _ else _)=_
 rw [qa4 (by rw [qaG];exact ⟨by simpa using h,by simpa using h'⟩)]
theorem zoS {i j:Int}:dEq (.int i) (.int j)=pure (.bl (i==j)):=by
 unfold dEq zj1
 simp only [pd]
 rw [qa4 (show zgo (.int i) (.int j)=true from rfl)]
 rfl
theorem zst {i j:Int}:dNe (.int i) (.int j)=pure (.bl (!(i==j))):=by
 unfold dNe zj1
 simp only [pd]
 rw [qa4 (show zgo (.int i) (.int j)=true from rfl)]
 rfl
def wp {α:Type} (m:M α) (h:Hh) (P:α->Hh->Prop):Prop:= ∃ a h',m h= .ok a h'/\P a h'
section
variable {α β:Type} {h:Hh} {P P':α->Hh->Prop}
theorem zas {a:α}:wp (pure a:M α) h P↔P a h:=⟨fun ⟨b,h',e,q⟩=>by cases (show R.ok a h=R.ok b h' from e);exact q,fun q=>⟨a,h,rfl,q⟩⟩
theorem zaA {m:M β} {f:β->M α}:wp (m>>=f) h P↔wp m h fun b h'=>wp (f b) h' P:=by
 constructor
 ·rintro ⟨a,h',e,q⟩
  have e:M.bind m f h= .ok a h':=e
  unfold M.bind at e
  cases z:m h with
  | ok b h1=>rw [z] at e;exact ⟨b,h1,z,a,h',e,q⟩
  | exc c h1=>rw [z] at e;cases e
  | bad=>rw [z] at e;cases e
 ·rintro ⟨b,h1,e,a,h',e2,q⟩
  refine ⟨a,h',?_,q⟩
  show M.bind m f h=_
  unfold M.bind
  rw [e]
  exact e2
theorem zd9 {m:M α} (q:wp m h P) (k: ∀ a h',P a h'->P' a h'):wp m h P':=by
 obtain ⟨a,h',e,q⟩:=q
 exact ⟨a,h',e,k _ _ q⟩
theorem zbR {n:Nat} {ds:List D} {P:List D->Hh->Prop} (e:h[n]? = some (.lst ds)):wp (zao n) h P↔P ds h:=by
 unfold wp zao
 rw [e]
 exact ⟨fun ⟨b,h',e,q⟩=>by cases e;exact q,fun q=>⟨_,_,rfl,q⟩⟩
theorem zfZ {n:Nat} {ds:List D} {P:Unit->Hh->Prop}:wp (zbL n ds) h P↔P () (h.set n (.lst ds)):=⟨fun ⟨b,h',e,q⟩=>by cases (show R.ok () (h.set n (.lst ds))=R.ok b h' from e);exact q,fun q=>⟨_,_,rfl,q⟩⟩
theorem ziM {ds:List D} {P:D->Hh->Prop}:wp (zdD ds) h P↔P (.cel h.length) (h++[.lst ds]):=⟨fun ⟨b,h',e,q⟩=>by cases (show R.ok (D.cel h.length) (h++[C.lst ds])=R.ok b h' from e);exact q,fun q=>⟨_,_,rfl,q⟩⟩
end
theorem zfU {f:D->M (Option D)} {k:D->Option D}: ∀ {ds:List D},(∀ x∈ds,f x=pure (k x))->zdq f ds=pure (ds.filterMap k)
 | [],_=>rfl
 | x::r,hf=>by
  rw [zdq,hf x qau,zfU fun y hy=>hf y (qan _ hy)]
  simp only [pure_bind]
  cases e:k x<;>simp [qat,e]
theorem zjE {fi:FA} {g:D->Sd->M Sd} {tc:FT} {te:FE} {src:List (Option Nat)} {sd:Sd} {ds:List D} {k:D->Option D} (hi:fi sd=pure ds) (hl:ds.length<=1000) (hf: ∀ x∈ds,zbe g tc te (zaq src sd) x=pure (k x)):zaw fi g tc te src sd=pure (.lst (ds.filterMap k)):=by
 unfold zaw
 rw [hi]
 simp only [pure_bind]
 rw [zaQ hl]
 simp only [pure_bind]
 rw [zfU hf]
 simp only [pure_bind]
theorem zk9 {fi:FA} {g:D->Sd->M Sd} {tc:FT} {te:FE} {src:List (Option Nat)} {sd:Sd} {ds:List D} {k:D->D} (hi:fi sd=pure ds) (hl:ds.length<=1000) (hf: ∀ x∈ds,zbe g tc te (zaq src sd) x=pure (some (k x))):zaw fi g tc te src sd=pure (.lst (ds.map k)):=by
 rw [zjE (k:=fun x=>some (k x)) hi hl hf]
 simp
theorem ziI: ∀ bs:List Bool,znX (bs.map D.bl)=some bs
 | []=>rfl
 | b::r=>by rw [qaM,znX,ziI r];rfl
theorem zc3: ∀ bs:List Int,zd5 (bs.map D.int)=some bs
 | []=>rfl
 | b::r=>by rw [qaM,zd5,zc3 r];rfl
theorem zkp (bs:List Bool):zso [.lst (bs.map D.bl)]=pure (.bl (bs.all id)):=by
 show (do let bs<-ofO (znX (bs.map D.bl));pure (.bl (bs.all id)):M D)=_
 rw [ziI]
 rfl
noncomputable def kn:D->Bool
 | .non | .bl _ | .int _ | .str _ | .tup _ | .lst _ | .dct=>true
 | _=>false
noncomputable def isT:D->Bool
 | .tup _=>true
 | _=>false
noncomputable def isI:D->Bool
 | .int _=>true
 | _=>false
theorem ziC {d:D} (k:kn d=true):zjS "tuple" d=pure (.bl (isT d)):=by
 cases d<;>simp [kn] at k<;>simp [zjS,tyD,isB,isT]
theorem zn8 {d:D} (k:kn d=true):zjS "int" d=pure (.bl (isI d || (match d with | .bl _=>true | _=>false))):=by
 cases d<;>simp [kn] at k<;>simp [zjS,tyD,isB,isI]
theorem zq0 {d:D} (k:kn d=true):zjS "bool" d=pure (.bl (match d with | .bl _=>true | _=>false)):=by
 cases d<;>simp [kn] at k<;>simp [zjS,tyD,isB,isI]
mutual
noncomputable def zj8:D->Bool
 | .non | .bl _ | .int _=>true
 | .str x=>PyData.strOk x
 | .tup ds=>decide (ds.length<64) && zid ds
 | .lst ds=>decide (ds.length<64) && zid ds
 | _=>false
noncomputable def zid:List D->Bool
 | []=>true
 | d::r=>zj8 d && zid r
end
mutual
theorem zo7: ∀ {d:D},zj8 d=true-> ∃ p,pd d=some p/\p.canLay0=true
 | .non,_=>⟨.none,rfl,rfl⟩
 | .bl b,_=>⟨.bool b,rfl,rfl⟩
 | .int i,_=>⟨.int i,rfl,rfl⟩
 | .str x,g=>⟨.str x,rfl,by simpa [zj8,PyData.canLay0] using g⟩
 | .tup ds,g=>by
  have g2:zid ds=true:=by simp [zj8] at g;exact g.2
  obtain ⟨ps,e,c⟩:=zgr g2
  exact ⟨.tuple ps,by unfold pd;rw [e];rfl,c⟩
 | .lst ds,g=>by
  have g2:zid ds=true:=by simp [zj8] at g;exact g.2
  obtain ⟨ps,e,c⟩:=zgr g2
  exact ⟨.list ps,by unfold pd;rw [e];rfl,c⟩
 | .cel _,g=>by simp [zj8] at g
 | .set _,g=>by simp [zj8] at g
 | .dct,g=>by simp [zj8] at g
 | .fn _,g=>by simp [zj8] at g
 | .scr _,g=>by simp [zj8] at g
 | .exn _,g=>by simp [zj8] at g
theorem zgr: ∀ {ds:List D},zid ds=true-> ∃ ps,pdL ds=some ps/\PyData.canLayAll0 ps=true
 | [],_=>⟨[],rfl,rfl⟩
 | d::r,g=>by
  simp [zid] at g
  obtain ⟨p,e,c⟩:=zo7 g.1
  obtain ⟨ps,e2,c2⟩:=zgr g.2
  exact ⟨p::ps,by unfold pdL;rw [e,e2],by simp [PyData.canLayAll0,c,c2]⟩
end
theorem zbj: ∀ xs:List Int,pdL (xs.map D.int)=some (xs.map PyData.int)
 | []=>rfl
 | x::r=>by rw [qaM,pdL,zbj r];rfl
theorem zaL: ∀ xs:List Int,PyData.canLayAll0 (xs.map PyData.int)=true
 | []=>rfl
 | x::r=>by simp [PyData.canLayAll0,PyData.canLay0,zaL r]
theorem zaU: ∀ xs:List Int,PyData.depthAll (xs.map PyData.int)=0
 | []=>rfl
 | x::r=>by simp [PyData.depthAll,PyData.depth,zaU r]
theorem zcN: ∀ xs ys:List Int,PyData.eqvAll (xs.map PyData.int) (ys.map PyData.int)=(xs==ys)
 | [],[]=>rfl
 | [],_::_=>rfl
 | _::_,[]=>rfl
 | x::xs,y::ys=>by
  simp only [qaM,PyData.eqvAll,PyData.eqv,zcN xs ys]
  rfl
theorem zd1 (k:Int): ∀ xs:List Int,((xs.map PyData.int).any fun y=>PyData.eqv y (.int k))=xs.any (· == k)
 | []=>rfl
 | x::r=>by simp only [qaM,List.any_cons,zd1 k r];rfl
theorem zd0 (k:Int) (xs:List Int):dIn (.int k) (.tup (xs.map D.int))=pure (.bl (xs.any (· == k))):=by
 show zj5 false (.int k) (.tup (xs.map D.int))=_
 unfold zj5
 simp only [pd]
 rw [zbj]
 have c:zjI (.int k) (xs.map PyData.int)=true:=by
  unfold zjI
  simp [PyData.canLay0,zaL,PyData.depth,zaU]
 simp only [c,if_true,zd1]
 rfl
end L3
namespace L2
open PySem PySem.Spec PyProof.Rows LT
section
variable {X:Cx}
theorem zg2:zaM X (.builtin "divmod") (fun xs H Q=> ∃ i j:Int,xs=[.int i,.int j]/\0<j/\j<2^100/\ ∀ p,H p=none->Q (.ref p) (upd H p (.tup [.int (i / j),.int (i % j)]))):=by
 intro pins s σ H xs us Q I r h
 obtain ⟨i,j,rfl,h0,h1,q⟩:=h
 cases r with
 | cons r1 r2=>
  cases r2 with
  | cons r3 r4=>
   cases r4
   obtain ⟨t,rfl⟩:=r1
   obtain ⟨u,rfl⟩:=r3
   refine divmod_int (by omega) ?_ (.inl (PyProof.noPylong_of_log2 ?_))
   ·refine ⟨.ref s.heap.objs.size,_,I.laid (t':=s.toks+1+1) (o:= .tup [.int (i / j),.int (i % j)]) (fun b ob q=>qag _ q) (qaV _) ?_,rfl,q _ (I.hok.fresh (qaV _))⟩
    refine ⟨by show 2<=sizeLine;decide,[.int (i.fdiv j) s.toks,.int (i.fmod j) (s.toks+1)],.cons ⟨s.toks,by rw [Int.fdiv_eq_ediv_of_nonneg _ (by omega)]⟩ (.cons ⟨s.toks+1,by rw [Int.fmod_eq_emod_of_nonneg _ (by omega)]⟩ .nil),IsTup.new _ _⟩
   ·have h1:j.natAbs<2^100:=by omega
    have h0:j.natAbs≠0:=by omega
    exact Nat.lt_trans ((Nat.log2_lt h0).mpr h1) (by decide)
end
end L2
namespace L3
open PySem PySem.Spec PyProof.Rows L2 LT
section
variable {X:Cx} {E:XE} {a b c o e:Expr} {pos apos cpos:Pos} {fa fb fc fo fe:FE}
noncomputable def zeN:List D->M D
 | [.int i,.int j]=>if 0<j/\j<2^100 then pure (.tup [.int (i / j),.int (i % j)]) else M.bad
 | _=>M.bad
theorem zhu:zaM X (.builtin "divmod") (zhX X.K E zeN):=by
 refine zaM.imp zg2 fun xs H Q ⟨ι,h,ds,rl,hr,q⟩=> ?_
 unfold zeN at q
 split at q
 ·simp only [zar,Rel] at rl
  obtain ⟨v,r,rfl,rfl,v',r',rfl,rfl,rfl⟩:=rl
  obtain ⟨⟨c1,c2⟩,q⟩:=Fin.guard q
  refine ⟨_,_,rfl,c1,c2,fun p hp=>zoo hr ?_ q hp⟩
  exact zar.cons (by simp [Rel]) (zar.cons (by simp [Rel]) zar.nil)
 ·exact qa0 q
noncomputable def zdU:D->M Unit
 | .cel n=>do let _<-zao n;pure ()
 | _=>M.bad
noncomputable def zco (x y:D):M D:=match x with
 | .cel n=>do
  let ds<-zao n
  fits (ds.length+1)
  zbL n (ds++[y])
  pure .non
 | _=>M.bad
noncomputable def zb9 (fo fe:FE):FE:=fun sd=>do
 let x<-fo sd
 zdU x
 let y<-fe sd
 zco x y
theorem zgE {α:Type} {K:W.Frag} {ι:Io} {H:Hp} {h:Hh} {n:Nat} {f:List D->M α} {P:α->Io->Hp->Prop} (q:Fin K E ι H ((zao n>>=f) h) P): ∃ ds,h[n]? = some (.lst ds)/\Fin K E ι H (f ds h) P:=by
 have q':Fin K E ι H (M.bind (zao n) f h) P:=q
 unfold M.bind at q'
 cases z:zao n h with
 | bad=>rw [z] at q';exact qa0 q'
 | exc c h'=>unfold zao at z;split at z<;>cases z
 | ok ds h'=>
  rw [z] at q'
  obtain ⟨rfl,z2⟩:=zcD z
  exact ⟨ds,z2,q'⟩
theorem zeI (ho:SE X E o fo) (he:SE X E e fe)
  (hbase:attributeBase o "append" X.env (eval o X.env)=eval o X.env:=by rfl)
  (hfew:((backTo cpos (starEach [e] X.env)).all (fun x=> !x.1) && (backToKw cpos (keywordEach [] X.env)).all (fun x=>x.1.isSome)
    && decide (([e]:List Expr).length+([]:List Keyword).length+(if ([]:List Keyword).isEmpty then 0 else 1)<30))=true:=by rfl)
  (hline:(apos.endLine==cpos.line)=true:=by rfl) (hs:starEach [e] X.env=(false,eval e X.env)::starEach [] X.env:=by rfl) (hplain:(backTo cpos (starEach [] X.env)).any (·.1)=false:=by rfl):
  SE X E (.Call (.Attribute o "append" apos) [e] [] cpos) (zb9 fo fe):=by
 refine PE.imp (zrq PySem.F.plainAttrs_list PySem.F.slot_list_append PySem.F.type_list_append zhm ho (zbK he zcZ hs) hbase hfew hline hs hplain) fun σ H Q ⟨ι,h,sd,L,hh,q⟩=>⟨ι,h,sd,L,hh,Fin.bind q fun d h1 ι1 H1 e1 s1 hr1 q1 v rv=> ?_⟩
 cases d with
 | cel n=>
  have q2:Fin X.K E ι1 H1 ((zao n>>=fun _=>fe sd>>=fun y=>zco (.cel n) y) h1) (fun d ι' H'=> ∀ v,Rel X.K ι' H' d v->Q v H'):=by
   have ee:(zdU (.cel n)>>=fun _=>fe sd>>=fun y=>zco (.cel n) y:M D)=(zao n>>=fun _=>fe sd>>=fun y=>zco (.cel n) y):=by
    show ((zao n>>=fun _=>pure ())>>=fun _=>fe sd>>=fun y=>zco (.cel n) y)=_
    simp only [bind_assoc,pure_bind]
   rw [<- ee]
   exact q1
  obtain ⟨ds,e2,q3⟩:=zgE q2
  obtain ⟨a,vs,rfl,hn,hH,rl⟩:=hr1.read rv e2
  refine ⟨.inl ⟨rfl,vs,SqL.of hH⟩,ι1,h1,sd,L.step s1,hr1,Fin.bind q3 fun y h3 ι3 H3 e3 s3 hr3 q4 w rw'=> ?_⟩
  have rv3:=rv.step s3
  have q5:Fin X.K E ι3 H3 ((zao n>>=fun ds=>fits (ds.length+1)>>=fun _=>zbL n (ds++[y])>>=fun _=>pure D.non) h3) (fun d ι' H'=> ∀ v,Rel X.K ι' H' d v->Q v H'):=q4
  obtain ⟨ds3,e4,q6⟩:=zgE q5
  obtain ⟨a3,vs3,ea,hn3,hH3,rl3⟩:=hr3.read rv3 e4
  cases ea
  obtain ⟨z,q7⟩:=Fin.fits q6
  refine ⟨a,vs3,w,rfl,rfl,hH3,by rw [<- rl3.length];omega,?_⟩
  have q8:Fin X.K E ι3 H3 (R.ok D.non (h3.set n (.lst (ds3++[y])))) (fun d ι' H'=> ∀ v,Rel X.K ι' H' d v->Q v H'):=q7
  exact q8 ι3 _ (hr3.cellS hn3) (hr3.cell hn3 (rl3.append (zar.cons rw' zar.nil))) _ (by simp [Rel])
 | _=>exact qa0 q1
end
end L3
namespace Att
open PySem PySem.W PySem.Calls PyProof.Rows
theorem zfS: ∀ {ns:List Int} {i:Int},i∈ns->Builtin.Int.intBits i<=WData.weightAll (ns.map WData.int)
 | n::r,i,h=>by
  rw [qaM,WData.weightAll]
  rcases qaP.mp h with e | e
  ·subst e
   have:WData.weight (.int i)=Builtin.Int.intBits i:=by simp only [WData.weight,Builtin.Int.intBits]
   omega
  ·have:=zfS e
   omega
theorem zpe {ns:List Int} (h:WData.layableAll [WData.list (ns.map WData.int)]=true): ∀ i∈ns,Builtin.Int.intBits i<=2^20:=by
 intro i hi
 have h2:WData.weight (WData.list (ns.map WData.int))<=2^20:=by
  simp only [WData.layableAll,List.all_cons,List.all_nil,Bool.and_true,WData.layable,qaG,qaD] at h
  exact h.2
 have h3:WData.weight (WData.list (ns.map WData.int))=WData.weightAll (ns.map WData.int):=by simp only [WData.weight]
 have:=zfS hi
 omega
theorem zhc {l:OpenLaw} {n:Nat} {q:Program} {loose:List Str} {XP:(Str->Option Value)->Heap->Prop} {YP:World->Heap->Prop} {d:DefRec}
  (hn:l.most=some n) (hdf:d.params.defaults=[])
  (call: ∀ (w:World) (s₀ s₁:Shared) (mg mb:Str->Option Value) (fa:Addr) (o:Obj) (pm cd doc:Value) (a:Addr) (vs:List Value) (ns:List Int),
    Ground q loose [] XP w s₀ mg mb s₁.heap->YP w s₁.heap->
    s₁.heap.get? fa=some o->o.data= .func (docDef d.name d.params d.body d.scope pm cd doc)->s₁.heap.CodeRec cd d.name->mg d.name=some (.ref fa)->
    s₁.heap.get? a=some {cls:= .type "list",data:= .seq vs.toArray}->IntsAre vs ns->ns.length<=n->(∀ i∈ns,Builtin.Int.intBits i<=2^20)->s₁.gens= #[]->
    codeAny (model l.prog w) callerA (.call (.ref fa) ⟨[.ref a],[]⟩) (fun r s'=>r= .ok (.ret (.bool true))/\OldK s₁.heap s'.heap/\s'.os=s₁.os/\AllBare s'.gens) s₁):
  WalkO q loose XP YP l.row.toRowW d [] (fun f vs=>PySem.call f vs):=by
 intro w s₀ s₁ mg mb G Y fa o pm cd doc dV kV ho hd hcd hD hmg hg args vals as hpre hlay hrd hwl hlo
 obtain rfl:dV= .none:=Dflts.none hD hdf
 obtain rfl:kV= .none:=Dflts.noKw hD
 obtain ⟨a,vs,ns,rfl,rfl,hobj,hints,hlen⟩:=zkN hn hpre hwl
 refine enter_call (codeAny_mono (call w s₀ s₁ mg mb fa o pm cd doc a vs ns G Y ho (fd_plain hd) hcd hmg hobj hints hlen (zpe hlay) hg) fun r s' hq=> ?_)
 obtain ⟨rfl,h2,h3,h4⟩:=hq
 exact ⟨.inl ⟨.bool true,.bool true,[],rfl,fun _=>rfl,.bool true,zld l _,fun _=>⟨List.Pairwise.nil,fun _ hm=>(nomatch hm)⟩⟩,h2,h3,h4⟩
end Att
namespace L2
open PySem PySem.Spec PyProof.Rows
theorem zmJ {l:W.OpenLaw} {n k:Nat} {q:Program} {loose:List Str} {XP:(Str->Option Value)->Heap->Prop} {YP:World->Heap->Prop} {d:DefRec} {K:Params->W.Frag} {CX:World->CXT} {sp:World->Sp} {x:Str}
  (hn:l.most=some n) (hn2:n<=sizeLine) (hdf:d.params.defaults=[]) (hr:zel k callerA)
  (hY: ∀ (w:World) (h:Heap),YP w h->(K w.params).In h)
  (F: ∀ (w:World) (mg:Str->Option Value) (fa:Addr) (h:Heap),(K w.params).In h->h.Ns mainGlobals mg->mg d.name=some (.ref fa)->
    ∃ fd:FuncData,(∀ (s:Shared) (u:Value),BindsTo s fd ⟨[u],[]⟩ [(x,u)])/\
      ∀ base:Heap,(K w.params).In base->base.Ns mainGlobals mg->zbn l.prog w (K w.params) mg base (CX w) k fa fd [x] (sp w))
  (hsp: ∀ (w:World) (H:Hp) (a:Addr) (ns:List Int),ns.length<=n->(∀ i∈ns,Builtin.Int.intBits i<=2^20)->SqL (K w.params) H a (ns.map V.int)->sp w [.ref a] H (fun v _=>v= .bl true) fun _ _ _=>False)
  (hCX: ∀ (w:World) (H:Hp) (s:Shared) (e:Value) (s':Shared),CX w [] H s (fun _ _ _=>False) e s'->False):
  W.WalkO q loose XP YP l.row.toRowW d [] (fun f vs=>PySem.call f vs):=by
 refine Att.zhc hn hdf fun w s₀ s₁ mg mb fa o pm cd doc a vs ns G Y ho hd hcd hmg hobj hints hlen hbits hg=> ?_
 have KX:=hY w _ Y
 obtain ⟨fd,hb,hF⟩:=F w mg fa _ KX G.T.g hmg
 exact zml KX G.T.g G.T.b G.T.builtins G.T.nolimit hg hobj hints (qaS hlen hn2) hr hF hb (fun H hO hS=>hsp w H a ns hlen hbits hS) fun H e s'=>hCX w H s₁ e s'
end L2
namespace L3
open PySem PySem.Spec PyProof.Rows L2 LT
section
variable {X:Cx} {E:XE}
noncomputable def zgS (i j:Int):Bool:=decide (Builtin.Int.intBits i+Builtin.Int.intBits j<=2^26)
theorem zj9 {i j:Int} (h:zgS i j=true):IntMulOk i j:=by
 unfold zgS at h
 rw [qaD] at h
 unfold IntMulOk
 intro z
 rw [qaG] at z
 have z2:=z.2
 unfold Builtin.Int.intTooBig at z2
 have hb:bitsLine=2^27:=rfl
 rw [qaD,hb] at z2
 omega
theorem zoj:OpR X (binaryOp .Mult) (rI (fun i j=>IntMulOk i j) fun i j=> .int (i*j)):=opI fun _ _ _ _ _ _ _ hc q=>mul_int q hc
noncomputable def zgl:=dII (fun i j=>zba i || zba j || zgS i j) fun i j=> .int (i*j)
theorem zfn:OpR X (binaryOp .Mult) (zd7 X.K E zgl):=zmo (zoj) (fun i j h=>by
  rw [Bool.or_eq_true] at h
  rcases h with h | h
  · rcases (Bool.or_eq_true _ _).mp h with z | z
    · have:=zcO z
      exact IntMulOk.of_left (intBits_le_64 this.1 this.2)
    · have:=zcO z
      exact IntMulOk.of_right (intBits_le_64 this.1 this.2)
  · exact zj9 h) fun _ _ _ _=>by simp [Rel]
end
end L3
namespace PySem
open Sem (wp)
open AutoSeq1 (wpAny_loadPart')
section
variable {prog:Program} {w:World} {A:Around} {E:Value->Shared->Prop} {s:Shared}
theorem zgq {Q:List Value->Shared->Prop} {r:Addr} {a b c:Int} {t u v:Tok} {n:Nat} (hh:A.handled=none) (hr:IsRange s.heap r a b c t u v) (hsmall:Builtin.Range.small a b c=true)
  (hn:Builtin.Range.rangeSize a b c=n) (hlen:n<=2^24)
  (hQ: ∀ h' tk acc,(∀ b o,s.heap.get? b=some o->h'.get? b=some o)->ItemsOf (fun i v=> ∃ t,v= .int (a+i*c) t) acc n->Q acc.toList {s with heap:=h',toks:=tk}):
  wpAny (model prog w) A (collect (.ref r)) Q E s:=by
 unfold collect
 refine qaW (wpAny_runValue (codeAny_builtin F.entry_proto_collect ?_))
 rw [qap F.plain_proto_collect _]
 show wpAny _ A.in1 (newList []>>=fun l=>again (.builtin "list.__iadd__" ⟨[l,.ref r],[]⟩)) _ _ s
 refine qaW (qaC ?_)
 refine qaX ⟨plainId_quiet F.plain_list_iadd _,codeAny_builtin F.entry_list_iadd ?_⟩
 rw [qap F.plain_list_iadd _]
 show wpAny _ A.in1 (Builtin.List.listExtendWith (.ref s.heap.objs.size) (.ref r) (.ref s.heap.objs.size)) _ _ _
 have hS:(s.heap.push {cls:= .type "list",data:= .seq ([]:List Value).toArray}).get? s.heap.objs.size=some {cls:= .type "list",data:= .seq #[] 0}:=qar _ rfl
 have zsE: ∀ (h':Heap) (tk:Nat) (acc:Array Value) (c':Nat),(∀ b o,b≠s.heap.objs.size->(s.heap.push {cls:= .type "list",data:= .seq ([]:List Value).toArray}).get? b=some o->h'.get? b=some o)->h'.get? s.heap.objs.size=some {cls:= .type "list",dict:=none,data:= .seq acc c',slots:= #[]}->
   ItemsOf (fun i v=> ∃ t,v= .int (a+i*c) t) acc n->wpAny (model prog w) A (match Value.ref s.heap.objs.size with
   | Value.ref a=>do
     match (<- load a).data with
       | Data.seq xs _=>pure xs.toList
       | _=>unsupported "internal:collect"
   | _=>unsupported "internal:collect") Q E {s with heap:=h',toks:=tk}:=fun h' tk acc c' hk hS' hacc=>by
  show wpAny _ A (load s.heap.objs.size>>=_) _ _ _
  refine qaW (wpAny_load hS' ?_)
  refine qaX ?_
  exact hQ h' tk acc (fun b o e=>hk b o (qaR (qaQ e)) (qag _ e)) hacc
 refine qaZ (wpAny_extend_range (A:=A) (s:={s with heap:=s.heap.push {cls:= .type "list",data:= .seq ([]:List Value).toArray}}) (R:=fun res s'=>res= .ok (.ret (.ref s.heap.objs.size))/\ ∃ (h':Heap) (tk:Nat) (acc:Array Value) (c':Nat),s'={s with heap:=h',toks:=tk}/\
     (∀ b o,b≠s.heap.objs.size->(s.heap.push {cls:= .type "list",data:= .seq ([]:List Value).toArray}).get? b=some o->h'.get? b=some o)/\h'.get? s.heap.objs.size=some {cls:= .type "list",dict:=none,data:= .seq acc c',slots:= #[]}/\ItemsOf (fun i v=> ∃ t,v= .int (a+i*c) t) acc n)
   hh (qag _ hr) hsmall hn hlen s.heap.objs.size (.ref s.heap.objs.size) 0 hS fun h' tk acc c' hk hS' hacc=>⟨rfl,h',tk,acc,c',rfl,hk,hS',hacc⟩) (fun fin s' h=> ?_) (fun e s' h=> ?_)
 ·cases fin with
  | done f=>
   obtain ⟨e,h',tk,acc,c',rfl,hk,hS',hacc⟩:=h
   cases e
   exact zsE h' tk acc c' hk hS' hacc
  | again c'=>exact ⟨h.1,codeAny_mono h.2 fun r s'' hr=>by obtain ⟨rfl,h',tk,acc,c',rfl,hk,hS',hacc⟩:=hr;exact zsE h' tk acc c' hk hS' hacc⟩
 ·exact absurd h.1 (by simp)
end
theorem zdf (l:Addr) (a b c:Int) (t u v:Tok) (n:Nat) (hsmall:Builtin.Range.small a b c=true) (hn:Builtin.Range.rangeSize a b c=n) (hlen:n<=2^24):
  Meets (Builtin.«tuple.__new__» ⟨[.type "tuple",.ref l],[]⟩)
   (fun A R s=>A.in1.handled=none/\IsRange s.heap l a b c t u v/\ ∀ (h':Heap) (tk:Nat) (acc:Array Value),(∀ b o',s.heap.get? b=some o'->h'.get? b=some o')->ItemsOf (fun i v=> ∃ t,v= .int (a+i*c) t) acc n->R (.ok (.ret (.ref h'.objs.size))) {s with heap:=h'.push {cls:= .type "tuple",data:= .seq acc},toks:=tk}):=
 .of_wp fun prog w A R s h=>by
  obtain ⟨hp,g,d,tk,os⟩:=s;obtain ⟨hh,ht,h⟩:=h
  have hsub:=sub_tuple_self
  have hinit:=init_tuple_lookup
  have hmh:=madeHere_tuple
  have hT:Shared.TypeIs ⟨hp,g,d,tk,os⟩ (.ref l) "range":=⟨_,ht,rfl⟩
  wp_walk using wpAny_loadPart' ht,wpAny_typeOf hT,zgq hh ht hsmall hn hlen
  intro h' tk' acc hk hacc
  show wpAny _ _ (Builtin.Tuple.tupleExact acc.toList.toArray>>=fun v=>ret v) _ _ _
  unfold Builtin.Tuple.tupleExact
  have hsz:acc.size<=sizeLine:=by
   have:acc.size=n:=hacc.1
   have:sizeLine=2^24:=rfl
   omega
  refine qaW (qaC ?_ (by show acc.toList.toArray.size<=sizeLine;simpa using hsz))
  refine qaX ⟨_,rfl,?_⟩
  have e:acc.toList.toArray=acc:=by simp
  rw [e]
  exact h h' tk' acc hk hacc
end PySem
namespace L2
open PySem PySem.Spec PyProof.Rows LT
theorem zdA: ∀ (ns:List Int) (us:List Value),ns.length=us.length->(∀ (j:Nat) u,us[j]? = some u-> ∃ t,u=Value.int (ns.getD j 0) t)->za3 (ns.map V.int) us
 | [],[],_,_=> .nil
 | [],_::_,h,_=>by cases h
 | _::_,[],h,_=>by cases h
 | n::ns,u::us,h,hg=>by
  refine .cons ?_ (zdA ns us (by simpa using h) fun j w e=> ?_)
  ·obtain ⟨t,e⟩:=hg 0 u rfl
   exact ⟨t,by simpa using e⟩
  ·obtain ⟨t,e⟩:=hg (j+1) w (by simpa using e)
   exact ⟨t,by simpa using e⟩
section
variable {X:Cx}
theorem ze7:zaM X (.type "range") (fun xs H Q=> ∃ j:Int,xs=[.int j]/\ ∀ p,H p=none->Q (.ref p) (upd H p (.rng 0 j))):=by
 intro pins s σ H xs us Q I r h
 obtain ⟨j,rfl,q⟩:=h
 obtain ⟨u,rfl,rx⟩:=zez r
 obtain ⟨t,rfl⟩:=rx
 refine call_range_1 ?_
 exact ⟨.ref s.heap.objs.size,_,I.laid (t':=s.toks+1+1) (o:= .rng 0 j) (fun b ob q=>qag _ q) (qaV _) ⟨_,_,_,qar _ rfl⟩,rfl,q _ (I.hok.fresh (qaV _))⟩
theorem zjb {j:Int} (h0:0<=j):Builtin.Range.rangeSize 0 j 1=(j.toNat:Int):=by
 unfold Builtin.Range.rangeSize
 rw [qa4 (by decide)]
 split
 ·rw [Int.ediv_one];omega
 ·omega
theorem zf6 (hc:X.calm=true):zaM X (.type "tuple") (fun xs H Q=> ∃ (p:Addr) (j:Int),xs=[.ref p]/\H p=some (.rng 0 j)/\0<=j/\j<1000/\ ∀ l,H l=none->Q (.ref l) (upd H l (.tup (((List.range j.toNat).map fun (k:Nat)=>(k:Int)).map V.int)))):=by
 intro pins s σ H xs us Q I r h
 obtain ⟨p,j,rfl,hp,h0,h1,q⟩:=h
 obtain ⟨u,rfl,rx⟩:=zez r
 cases rx
 obtain ⟨t,u',v,hr⟩:=(show zbF X.prog X.w H s.heap p (.rng 0 j) from I.hok p _ hp)
 refine callType_new F.called_tuple (by decide) (F.typeCall_tuple_1 _) (F.newCall_tuple_1 _) (fun obj=>F.args_object_init_2 obj _) F.entry_tuple_new
  (zdf p 0 j 1 t u' v j.toNat (small_one (by omega) (by omega) (by omega) (by omega)) (zjb h0) (by omega)) ⟨show X.A.in1.in1.handled=none from I.ok.hd hc,hr,fun h' tk acc hk hacc=>⟨⟨_,qar _ rfl,rfl⟩,?_⟩⟩
 have I1:Inv X pins σ H {s with heap:=h',toks:=tk}:=I.kept (t':=tk) hk
 have hl:acc.toList.length=j.toNat:=by rw [qas];exact hacc.1
 have I2:=I1.laid (t':=tk) (h':=h'.push {cls:= .type "tuple",data:= .seq acc}) (a:=h'.objs.size) (o:= .tup (((List.range j.toNat).map fun (k:Nat)=>(k:Int)).map V.int)) (fun b o e=>qag _ e) (qaV _)
  ⟨by rw [qaH,qaH,List.length_range];exact qaS (show j.toNat<=1000 by omega) (by decide),acc.toList,zdA _ _ (by rw [qaH,List.length_range,hl]) (fun k w e=> ?_),by simpa using IsTup.new _ _⟩
 ·exact ⟨.ref h'.objs.size,_,I2,rfl,q _ (I1.hok.fresh (qaV _))⟩
 ·have hk':k<j.toNat:=by rw [<- hl];exact (qac.mp e).1
  obtain ⟨t,et⟩:=hacc.2 k w (by simpa using e)
  refine ⟨t,?_⟩
  rw [et]
  simp [hk']
end
end L2
namespace L3
open PySem PySem.Spec PyProof.Rows L2 LT
section
variable {X:Cx} {E:XE} {e:Expr} {f:FE}
noncomputable def zf2:D->M D
 | .int j=>if 0<=j/\j<1000 then pure (.tup (zdk 0 j.toNat)) else M.bad
 | _=>M.bad
theorem zio {K:W.Frag} {ι:Io} {H:Hp} {n:Nat}:zar K ι H (zdk 0 n) (((List.range n).map fun (k:Nat)=>(k:Int)).map V.int):=by
 have:zdk 0 n=((List.range n).map fun (k:Nat)=>(k:Int)).map D.int:=by unfold zdk;simp
 rw [this]
 exact zcA.mpr rfl
theorem ziP {p1 p2 pos pos2:Pos} (hc:X.calm=true) (hm1:X.mg "tuple"=none) (hm2:X.mg "range"=none) (he:SE X E e f) (hg1:Gl X "tuple":=by rfl) (hg2:Gl X "range":=by rfl)
  (h1:starEach [.Call (.Name "range" p2) [e] [] pos2] X.env=[(false,eval (.Call (.Name "range" p2) [e] [] pos2) X.env)]:=by rfl) (h2:starEach [e] X.env=[(false,eval e X.env)]:=by rfl):
  SE X E (.Call (.Name "tuple" p1) [.Call (.Name "range" p2) [e] [] pos2] [] pos) (cUn zf2 f):=by
 refine PE.imp (zcy (zf6 hc) hg1 hm1 PyProof.Rows.boot_tuple (zbK (zcy ze7 hg2 hm2 boot_range (zbK he zcZ h2) (he:=h2)) zcZ h1) (he:=h1)) fun σ H Q ⟨ι,h,sd,L,hh,q⟩=>⟨ι,h,sd,L,hh,Fin.bind q fun d h1 ι1 H1 e1 s1 hr1 q1 v rv=> ?_⟩
 cases d with
 | int j=>
  simp only [Rel] at rv
  obtain ⟨⟨c1,c2⟩,q2⟩:=Fin.guard q1
  refine ⟨j,by rw [rv],fun p hp=> ?_⟩
  have hr2:zbf X.K ι1 (upd H1 p (.rng 0 j)) h1:=hr1.laid hp
  exact ⟨p,j,rfl,za0,c1,c2,fun l hl=>zoo hr2 zio (Fin.step (hr1.laidS hp) q2) hl⟩
 | _=>exact qa0 q1
end
@[simp] theorem za2 {d:D} {r:Sd}:zaf 0 (some d::r)=pure d:=rfl
@[simp] theorem zbm {n:Nat} {x:Option D} {r:Sd}:zaf (n+1) (x::r)=zaf n r:=rfl
noncomputable def zcC (m:Int):Int->List D->Bool
 | _,[]=>true
 | l,.int i::r=>decide (l<=i) && decide (i<m) && zcC m (i+1) r
 | _,_::_=>false
theorem zcE {m:Int}: ∀ {xs:List Int} {l:Int},zcC m l (xs.map D.int)=true↔xs.Pairwise (· < ·)/\ ∀ x∈xs,l<=x/\x<m
 | [],l=>by simp [zcC]
 | x::r,l=>by
  rw [qaM,zcC,qaG,qaG,zcE (xs:=r) (l:=x+1),qay]
  simp only [qaD,qaP,forall_eq_or_imp]
  constructor
  ·rintro ⟨⟨h1,h2⟩,h3,h4⟩
   refine ⟨⟨fun y hy=> ?_,h3⟩,⟨h1,h2⟩,fun y hy=> ?_⟩
   ·have:=(h4 y hy).1;omega
   ·have:=h4 y hy;omega
  ·rintro ⟨⟨h1,h2⟩,⟨h3,h4⟩,h5⟩
   refine ⟨⟨h3,h4⟩,h2,fun y hy=> ?_⟩
   have a1:=h1 y hy
   have a2:=h5 y hy
   omega
theorem zf4 {m:Int}: ∀ {ts:List D} {l:Int},zcC m l ts=true->l<=m->(ts.length:Int)<=m - l
 | [],l,_,h=>by simp;omega
 | d::r,l,h,hl=>by
  cases d<;>first
   | (simp [zcC] at h;done)
   | (rename_i i
      rw [zcC,qaG,qaG,qaD,qaD] at h
      have:=zf4 h.2 (by omega)
      simp
      omega)
def Bx (b:Nat) (h:Hh):Prop:= ∃ z:Int,h[b]? = some (.lst [.int z])
def Ext (b:Nat) (h h':Hh):Prop:=Bx b h'/\ ∀ (n:Nat) (c:C),n≠b->h[n]? = some c->h'[n]? = some c
theorem Ext.refl {b:Nat} {h:Hh} (q:Bx b h):Ext b h h:=⟨q,fun _ _ _ e=>e⟩
theorem Ext.trans {b:Nat} {h h1 h2:Hh} (p:Ext b h h1) (q:Ext b h1 h2):Ext b h h2:=⟨q.1,fun n c hn e=>q.2 n c hn (p.2 n c hn e)⟩
theorem Bx.set {b:Nat} {h:Hh} {z:Int} (q:Bx b h):Ext b h (h.set b (.lst [.int z])):=by
 obtain ⟨y,e⟩:=q
 have hl:=(qac.mp e).1
 exact ⟨⟨z,qai hl⟩,fun n c hn e=>by rw [qao (Ne.symm hn)];exact e⟩
theorem Bx.push {b:Nat} {h:Hh} {c:C} (q:Bx b h):Ext b h (h++[c]):=by
 obtain ⟨y,e⟩:=q
 have hl:=(qac.mp e).1
 refine ⟨⟨y,by rw [qad hl];exact e⟩,fun n c' hn e=> ?_⟩
 rw [qad (qac.mp e).1]
 exact e
theorem zb7 {j:Int} (h0:0<=j) (h:j<1000):zk3 [.int j]=pure (zdk 0 j.toNat):=by
 show (if zbB j=true then _ else _)=_
 rw [qa4 (by unfold zbB;simp;omega)]
theorem zkE {n:Nat} {d:D} (h:d∈zdk 0 n): ∃ i:Int,d= .int i/\0<=i/\i<n:=by
 unfold zdk at h
 obtain ⟨k,hk,e⟩:=qaU.mp h
 have:=List.mem_range.mp hk
 exact ⟨0+(k:Int),e.symm,by omega,by omega⟩
theorem zkn {n:Nat}:(zdk 0 n).length=n:=by unfold zdk;simp
theorem zbN (n:Nat):zdk 0 n=((List.range n).map fun (k:Nat)=>(k:Int)).map D.int:=by unfold zdk;simp
theorem zkY {α:Type} {c:Prop} [Decidable c] {a b:M α} {h:Hh} {P:α->Hh->Prop}:wp (if c then a else b) h P↔if c then wp a h P else wp b h P:=by split<;>exact Iff.rfl
end L3
namespace L2
open PySem PySem.Spec PyProof.Rows L3
theorem zbF.there {P:Program} {w:World} {H:Hp} {h:Heap} {a:Addr} {o:HO} (x:zbF P w H h a o): ∃ ob,h.get? a=some ob:=by
 cases o with
 | lst xs=>obtain ⟨_,_,_,_,e⟩:=x;exact ⟨_,e⟩
 | tup xs=>obtain ⟨_,_,_,ob,e,_⟩:=x;exact ⟨ob,e⟩
 | dK kvs=>obtain ⟨_,_,_,_,ob,_,_,e,_⟩:=x;exact ⟨ob,e⟩
 | dT kvs=>obtain ⟨_,_,_,_,ob,_,_,e,_⟩:=x;exact ⟨ob,e⟩
 | set S n=>obtain ⟨ob,_,_,_,e,_⟩:=x;exact ⟨ob,e⟩
 | ins C dx fs=>obtain ⟨_,_,_,e,_⟩:=x;exact ⟨_,e⟩
 | own y=>exact x
 | xd fs=>obtain ⟨_,⟨ob,_,_,e,_⟩,_⟩:=x;exact ⟨ob,e⟩
 | rng lo hi=>obtain ⟨_,_,_,e⟩:=x;exact ⟨_,e⟩
 | frz ob u=>exact ⟨ob,x.1⟩
 | tbl ps=>exact ⟨_,x⟩
 | met f y=>exact ⟨_,x⟩
 | ext φ=>exact x.2.1
structure HS (H H':Hp) (h:Heap):Prop where
 free: ∀ b o,h.get? b=some o->H b=none->H' b=none
 tups: ∀ b xs,H b=some (.tup xs)->H' b=some (.tup xs)
 frzs: ∀ b o u,H b=some (.frz o u)->H' b=some (.frz o u)
 tbls: ∀ b ps,H b=some (.tbl ps)-> ∃ more,H' b=some (.tbl (ps++more))
structure FlB (P:Program) (w:World) (l:List Env) (H:Hp) (h:Heap) (H':Hp) (B:Heap):Prop where
 old: ∀ b o,h.get? b=some o->b∉frs l-> ∃ o',B.get? b=some o'/\(H b=none->o'=o)
 trk: ∀ b u,H' b=some u-> ∃ o,B.get? b=some o
 ok:HOk P w H' B
structure Fl (P:Program) (w:World) (l:List Env) (H:Hp) (s:Shared) (a C:Addr) (fl:Value) (H':Hp) (s':Shared):Prop where
 os:s'.os=s.os
 bare:AllBare s'.gens
 base: ∃ B:Heap,Fly B l a (.ref C) fl s'.heap/\FlB P w l H s.heap H' B
 slot: ∀ b o,s.heap.get? b=some o->H b=none->b∈frs l-> ∃ sl,s'.heap.get? b=some {o with slots:=sl}
 hs:HS H H' s.heap
section
variable {P:Program} {w:World} {l:List Env} {H H':Hp} {s s':Shared} {a C:Addr} {fl:Value}
theorem Fl.un (y:Fl P w l H s a C fl H' s'):Un (frs l) [] H H' s.heap s'.heap:=by
 obtain ⟨B,y1,y2⟩:=y.base
 refine ⟨fun b o e n hb _=> ?_,fun b o e n hb _=>y.slot b o e n hb,fun b o e n _=>y.hs.free b o e n,fun b o e _=> ?_,y.hs.tups,y.hs.frzs,y.hs.tbls⟩
 ·obtain ⟨o',e',q⟩:=y2.old b o e hb
  rw [<- q n]
  exact y1.stays b o' e'
 ·by_cases hb:b∈frs l
  ·obtain ⟨_,o',e',_⟩:=y1.frames.mem hb
   exact ⟨o',e'⟩
  ·obtain ⟨o',e',_⟩:=y2.old b o e hb
   exact ⟨o',y1.stays b o' e'⟩
theorem Fl.hok (y:Fl P w l H s a C fl H' s'):HOk P w H' s'.heap:=by
 obtain ⟨B,y1,y2⟩:=y.base
 exact y2.ok.kept y1.stays
theorem Fl.exc (y:Fl P w l H s a C fl H' s'): ∃ head,zhN s'.heap a (.ref C) head:=by
 obtain ⟨B,y1,y2⟩:=y.base
 obtain ⟨hd,z,_⟩:=y1.exc
 exact ⟨hd,z⟩
theorem Fl.fresh (y:Fl P w l H s a C fl H' s'):s.heap.get? a=none/\H' a=none/\a∉frs l:=by
 obtain ⟨B,y1,y2⟩:=y.base
 have nf:a∉frs l:=fun z=>by
  obtain ⟨_,o,e,n⟩:=y1.frames.mem z
  obtain ⟨_,⟨ob,vs,e2,_,_,d,_⟩,_⟩:=y1.exc
  rw [e] at e2
  cases e2
  exact n vs d
 refine ⟨?_,?_,nf⟩
 ·cases q:s.heap.get? a with
  | none=>rfl
  | some o=>
   obtain ⟨o',e,_⟩:=y2.old a o q nf
   rw [y1.new] at e
   cases e
 ·cases q:H' a with
  | none=>rfl
  | some u=>
   obtain ⟨o',e⟩:=y2.trk a u q
   rw [y1.new] at e
   cases e
theorem Fl.mv {B h':Heap} {fl':Value} (os:s'.os=s.os) (bare:AllBare s'.gens) (slot: ∀ b o,s.heap.get? b=some o->H b=none->b∈frs l-> ∃ sl,s'.heap.get? b=some {o with slots:=sl}) (hs:HS H H' s.heap)
  (fr:s'.heap.FunFrames B l) (z:Fly B l a (.ref C) fl' h') (y:FlB P w l H s.heap H' B) (u:s'.heap.UpToSlots h'):Fl P w l H s a C fl' H' {s' with heap:=h'}:=by
 refine ⟨os,bare,⟨B,z,y⟩,fun b o e n hb=> ?_,hs⟩
 obtain ⟨sl,e2⟩:=slot b o e n hb
 obtain ⟨_,o2,e3,n3⟩:=fr.mem hb
 rw [e2] at e3
 cases e3
 obtain ⟨sl',e4⟩:=u b _ e2 n3
 exact ⟨sl',e4⟩
section
variable {M:Model} {A:Around} {E:Value->Shared->Prop} {env:Env} {outer:List Env} {L:Addr} {Q:Unit->Shared->Prop}
theorem Fl.off (y:Fl P w l H s a C fl H' s') (k: ∀ h',Fl P w l H s a C .none H' {s' with heap:=h'}->Q () {s' with heap:=h'}):wpAny M A (setFlight (.ref a) none) Q E s':=by
 obtain ⟨B,y1,y2⟩:=y.base
 exact zfB y1 fun h' z u=>k h' (Fl.mv y.os y.bare y.slot y.hs y1.frames z y2 fun b o e n=>⟨o.slots,u b o e n⟩)
end
end
structure zo5 (X:Cx):Prop where
 stk:X.stack=X.env::X.outer
 frm:X.env.frame=some X.env.locals
 ex:X.ex=[]
theorem zo5.frs {X:Cx} (z:zo5 X):frs X.stack=X.env.locals::frs X.outer:=by
 rw [z.stk]
 unfold L2.frs
 rw [qat,z.frm]
section
variable {X:Cx} {pins:List (Addr×Obj)} {σ:St} {H H':Hp} {s s':Shared} {a C:Addr} {M:Model} {E:Value->Shared->Prop} {Q:Unit->Shared->Prop}
theorem Inv.below (I:Inv X pins σ H s) {b:Addr} {o:Obj} (e:X.s₀.heap.get? b=some o):b≠X.env.locals:=qaR (qaw (qaQ e) I.ok.above)
theorem Fl.made {h':Heap} {vs:List Value} (z:zo5 X) (I:Inv X pins σ H s) (m:Heap.MadeExcOf s.heap h' a (.ref C) vs) (k: ∀ s2,Fl X.prog X.w X.outer X.H₀ X.s₀ a C .none H s2->Q () s2):wpAny M X.A (leaving X.env (.ref a)) Q E {s with heap:=h'}:=by
 have nex: ∀ b,b∉X.ex:=fun b h=>by rw [z.ex] at h;cases h
 have hfr:=I.ok.frames
 have hl:=I.stack
 have hin: ∀ env∈X.stack, ∀ b,env.frame=some b->b∈frs X.stack:=fun env he b hb=>List.mem_filterMap.mpr ⟨env,he,hb⟩
 have hl2:=W.funFrames_hide hl hin
 have hl3:h'.FunFrames (W.hideAll s.heap (frs X.stack)) X.stack:=hl2.of_keeps fun b o e _=>⟨o,m.keeps b o e,rfl⟩
 have inB: ∀ {b:Addr} {o:Obj},s.heap.get? b=some o->b∉frs X.stack->(W.hideAll s.heap (frs X.stack)).get? b=some o:=fun e n=>W.hideAll_get _ e n
 have ofB: ∀ {b:Addr} {o:Obj},(W.hideAll s.heap (frs X.stack)).get? b=some o->s.heap.get? b=some o:=fun e=>W.of_hideAll _ e
 have trk: ∀ b u,H b=some u->b∉frs X.stack:=fun b u e hm=>by rw [I.stkFree b hm] at e;cases e
 have newB:(W.hideAll s.heap (frs X.stack)).get? a=none:=by
  cases q:(W.hideAll s.heap (frs X.stack)).get? a with
  | none=>rfl
  | some o=>have:=ofB q;rw [m.new] at this;cases this
 have hst:=z.stk
 refine zh8 (B:=W.hideAll s.heap (frs X.stack)) (by rw [<- hst];exact hfr) (by rw [<- hst];exact hl3) z.frm (zmw m) (fun b o e=>m.keeps b o (ofB e)) newB fun h2 q u=>k _ ?_
 have nin: ∀ b o,X.s₀.heap.get? b=some o->b∉frs X.outer->b∉frs X.stack:=fun b o e hb hm=>by
  rw [z.frs] at hm
  rcases qaP.mp hm with r | r
  ·exact I.below e r
  ·exact hb r
 refine ⟨I.os,I.bare,⟨_,q,fun b o e hb=> ?_,fun b v e=> ?_,fun b v e=> ?_⟩,fun b o e n hb=> ?_,fun b o e n=>I.base.free b o e n (nex b),I.base.tups,I.base.frzs,I.base.tbls⟩
 ·obtain ⟨o1,e1⟩:=I.base.there b o e (nex b)
  refine ⟨o1,inB e1 (nin b o e hb),fun n=> ?_⟩
  have e3:=I.base.keep b o e n hb (nex b)
  rw [e1] at e3
  cases e3
  rfl
 ·obtain ⟨o,e1⟩:=(I.hok b v e).there
  exact ⟨o,inB e1 (trk b v e)⟩
 ·refine (I.hok b v e).stay (fun c o hc e1=>inB e1 ?_) (fun _ r=>r) fun _ _ r=>r
  rcases hc with rfl | hc
  ·exact trk _ v e
  ·exact trk _ _ hc
 ·obtain ⟨sl,e1⟩:=I.base.slot b o e n hb (nex b)
  have hb2:b∈frs X.stack:=by rw [z.frs];exact qan _ hb
  obtain ⟨_,o3,e3,n3⟩:=hl.mem hb2
  rw [e1] at e3
  cases e3
  obtain ⟨sl4,e4⟩:=u b _ (m.keeps b _ e1) n3
  exact ⟨sl4,e4⟩
end
noncomputable def CXE (P:Program) (w:World):CXT:=fun outer H s E e s'=> ∃ a C H',e= .ref a/\Fl P w outer H s a C .none H' s'/\E e (some C) H'
end L2
namespace L3
open PySem PySem.Spec PyProof.Rows L2
def zjV (K:W.Frag) (c:String) (C:Addr):Prop:=W.nsIn K mainGlobals (c:Str)=some (some (.ref C))
noncomputable def zuy (K:W.Frag) (E:XK):XE:=fun c H'=> ∀ C v,zjV K c C->E v (some C) H'
section
variable {P:Program} {w:World} {K:W.Frag} {mg:Str->Option Value} {base:Heap} {N:List Str} {qual:Str} {scope:Scope} {f:Addr} {cd:Value} {A:Around} {outer:List Env} {s:Shared} {H:Hp} {E:XK}
end
noncomputable def noX {α:Type} (m:M α):M α:=fun h=>match m h with
 | .exc _ _=> .bad
 | r=>r
theorem Fin.noX {α:Type} {K:W.Frag} {E E':XE} {ι:Io} {H:Hp} {m:M α} {h:Hh} {P:α->Io->Hp->Prop} (q:Fin K E ι H (L3.noX m h) P):Fin K E' ι H (m h) P:=by
 unfold L3.noX at q
 cases e:m h with
 | ok a h'=>rw [e] at q;exact q
 | exc c h'=>rw [e] at q;exact qa0 q
 | bad=>rw [e] at q;exact q
noncomputable def spE (K:W.Frag) (n:Nat) (F:List D->M D):Sp:=fun vs H Q E=>vs.length=n/\ ∃ ι h ds,zar K ι H ds vs/\zbf K ι H h/\Fin K (zuy K E) ι H (F ds h) fun d ι' H'=> ∀ v,Rel K ι' H' d v->Q v H'
section
variable {P:Program} {w:World} {K:W.Frag} {mg:Str->Option Value} {base:Heap}
end
section
variable {X:Cx} {E:XE} {e:Expr} {es:List Expr} {pos p:Pos}
end
end L3
namespace L2
open PySem PySem.Spec PyProof.Rows L3
structure zf5 (k:Nat) (A:Around):Prop where
 dp:A.depth+3*k+5<recursionLimit
 un:A.units+16*k+200<cLine
theorem zf5.of {k:Nat} {A:Around} (r:zel k A):zf5 k A:=⟨r.dp,r.un⟩
theorem zf5.deeper {k:Nat} {A:Around} (r:zf5 (k+1) A) (env:Env):zf5 k (A.deeper env):=
 ⟨by have:=r.dp;show A.depth+1+3*k+5<_;omega,by have:=r.un;show A.units+3+16*k+200<_;omega⟩
theorem zf5.mono {j k:Nat} {A:Around} (r:zf5 k A) (h:j<=k):zf5 j A:=⟨by have:=r.dp;omega,by have:=r.un;omega⟩
structure FnH (P:Program) (w:World) (K:W.Frag) (mg:Str->Option Value) (base:Heap) (k:Nat) (f:Addr) (fd:FuncData) (ps:List Str) (sp:Sp):Prop where
 len: ∀ vs H Q E,sp vs H Q E->vs.length=ps.length
 run: ∀ (A:Around) (outer:List Env) (s:Shared) (H:Hp) (args:Args) (us:List Value) (vs:List V) (Q:VK),zf5 k A->znS P w K mg base A outer s H->BindsTo s fd args (ps.zip us)->za3 vs us->sp vs H Q E0->
  codeAny (model P w) A (.call (.ref f) args) (CR CX0 outer P w H s Q E0) s
section
variable {X:Cx} {pins:List (Addr×Obj)} {σ:St} {H H':Hp} {s s':Shared} {a:Addr} {o:Obj}
end
section
variable {X:Cx} {pins:List (Addr×Obj)} {σ:St} {H H':Hp} {s s':Shared} {a C CE:Addr} {ce en:Str} {pce pos:Pos} {b₀:Stmt} {suite:List Stmt} {j:Nat} {Q:Flow->Shared->Prop} {E:Value->Shared->Prop}
end
noncomputable abbrev znW:List Value:=[.type "ValueError",.type "Exception",.type "BaseException",.type "object"]
section
variable {X:Cx} {pins pins':List (Addr×Obj)} {σ:St} {H H':Hp} {s s':Shared} {xe:Value->Shared->Prop}
end
end L2
namespace L3
open PySem PySem.Spec PyProof.Rows L2
section
variable {X:Cx} {pins:List (Addr×Obj)} {σ:L2.St} {H:Hp} {s:Shared} {a C:Addr} {o:Obj} {vs:Array Value} {head:Value} {c:String} {gk en pe:Str} {p1 p2 p3:Pos} {j k:Nat} {fk:Addr} {fdk:FuncData} {Fk:List D->M D} {Qv:VK} {ι:Io} {h:Hh}
end
section
variable {X:Cx} {E:XE} {body:List Stmt} {ce en gk pe x:Str} {pce p1 p2 p3 p4 p5 hp pos:Pos} {CE fk:Addr} {fdk:FuncData} {Fk:List D->M D} {gb:FS} {j k i:Nat} {known:List String}
noncomputable def zqS (c:String):FS:=fun _ h=> .exc c h
end
end L3
namespace L3
open PySem PySem.W
section
variable {prog:Program} {w:World} {A:Around} {E:Value->Shared->Prop} {s:Shared} {K:Frag} {x D:Addr} {ox:Obj}
end
end L3
namespace L3
open PySem PySem.Spec PyProof.Rows L2
noncomputable def kxb (K:W.Frag) (C:Addr):Bool:=(W.clsIn K C).isSome && W.findIn K (.ref C) "__getattribute__"==some (some (.builtin "BaseException.__getattribute__")) && W.findIn K (.ref C) "__getattr__"==some none && W.findIn K (.ref C) "__class__"==some (some (.builtin "object.__class__"))
 && W.specialIn K (.builtin "object.__class__") "__get__"==some (some (.builtin "getset_descriptor.__get__")) && W.takesIn K (.builtin "object.__class__")==some true && W.mroIn K C (.type "object")==some true && W.mroIn K C (.type "BaseException")==some true
structure zsI (K:W.Frag) (CE:Addr) (names:List String) (c:String) (C:Addr):Prop where
 exc:W.excIn K C znW "ValueError.__new__"=true
 cov:W.exmOne K (.ref C) (.ref CE)=some true
 kx:kxb K C=true
 ve:W.kitOne K (.ref C) (.type "ValueError")=some true
 one: ∀ c'∈names, ∀ C',zjV K c' C'->W.kitOne K (.ref C) (.ref C')=some (c==c')
def zsn (K:W.Frag) (CE:Addr) (names:List String):Prop:= ∀ c∈names, ∀ C,zjV K c C->zsI K CE names c C
noncomputable def znV (K:W.Frag) (CE:Addr) (tab:List (String×Addr)):Bool:=tab.all fun p=>W.nsIn K mainGlobals (p.1:Str)==some (some (.ref p.2)) && W.excIn K p.2 znW "ValueError.__new__" && W.exmOne K (.ref p.2) (.ref CE)==some true && kxb K p.2 && W.kitOne K (.ref p.2) (.type "ValueError")==some true
 && tab.all fun r=>W.kitOne K (.ref p.2) (.ref r.2)==some (p.1==r.1)
theorem zsn.of {K:W.Frag} {CE:Addr} {tab:List (String×Addr)} (h:znV K CE tab=true):zsn K CE (tab.map (·.1)):=by
 unfold znV at h
 rw [List.all_eq_true] at h
 have key: ∀ c∈tab.map (·.1), ∀ C,zjV K c C->(c,C)∈tab:=fun c hc C hC=>by
  obtain ⟨p,hp,rfl⟩:=qaU.mp hc
  have h1:=h p hp
  simp only [qaG,beq_iff_eq] at h1
  have e:=h1.1.1.1.1.1
  unfold zjV at hC
  rw [hC] at e
  cases e
  exact hp
 intro c hc C hC
 have h1:=h _ (key c hc C hC)
 simp only [qaG,beq_iff_eq,List.all_eq_true] at h1
 obtain ⟨⟨⟨⟨⟨a1,a2⟩,a3⟩,a4⟩,a5⟩,a6⟩:=h1
 exact ⟨a2,a3,a4,a5,fun c' hc' C' hC'=>a6 _ (key c' hc' C' hC')⟩
theorem zsn.known {K:W.Frag} {CE:Addr} {names:List String} (h:zsn K CE names): ∀ c∈names, ∀ C,zjV K c C->W.exmOne K (.ref C) (.ref CE)=some true:=fun c hc C hC=>(h c hc C hC).cov
section
variable {X:Cx} {E:XE}
variable {a:Expr} {p1 p2 pos:Pos} {fa:FE} {CE CC:Addr} {names:List String}
end
end L3
namespace L3
open PySem
section
variable {prog:Program} {w:World} {A:Around} {E:Value->Shared->Prop} {s:Shared}
end
end L3
namespace L2
open PySem PySem.Spec PyProof.Rows L3
section
variable {X:Cx}
theorem zjy:MtM X "list.extend" (fun x vs H Q=> ∃ l b xs zs,x= .ref l/\vs=[.ref b]/\H l=some (.lst xs)/\SqT X.K H b zs/\xs.length+zs.length<=sizeLine/\Q .non (upd H l (.lst (xs++zs)))):=by
 intro pins s σ H x vs v us Q I rx rv h
 obtain ⟨l,b,xs,zs,rfl,rfl,hH,hB,hz,q⟩:=h
 cases rx
 obtain ⟨u,rfl,ru⟩:=zez rv
 cases ru
 obtain ⟨z,its,n,r,hl,e⟩:=I.lstM hH
 obtain ⟨its2,r2,⟨ob,e2,c2,n2,d2⟩,z2⟩:=I.tuple hB
 have l2:=r2.length
 have hsz:its.toArray.size+its2.toArray.size<=sizeLine:=by rw [qaA,qaA];omega
 refine wpAny_call (codeAny_call_builtin F.slot_list_extend.plain F.entry_list_extend (F.slot_list_extend.check _ _ _ _ _ _ _ _ ⟨_,e,rfl⟩ (F.args_list_extend_2 _ _) ?_))
 unfold Builtin.«list.extend»
 refine qaW (qaX ?_)
 unfold Builtin.List.listExtendWith
 refine qaW (wpAny_typeOf ⟨ob,e2,c2⟩ ?_)
 have h1:(Builtin.List.listSameRef (.ref l) (.ref b) || Value.type "tuple"==Value.type "list" || Value.type "tuple"==Value.type "tuple")=true:=by simp
 simp only [h1,if_true]
 unfold Builtin.List.listItems
 refine qaW (qaW (wpAny_seqItems e2 d2 (qaX ?_)))
 refine qaW (qaW (wpAny_seqItems e rfl (qaX ?_)))
 rw [qa5 (by rw [zmh hsz,Bool.and_false];exact Bool.false_ne_true)]
 refine qaW (wpAny_updateSeq e rfl ?_ (by rw [qaA];omega))
 refine qaX ?_
 refine ⟨.non,_,I.lset (its':=its++its2) hH e (by simp) (r.append r2) ?_,rfl,q⟩
 rw [qav]
 omega
end
end L2
namespace L3
open PySem PySem.Spec PyProof.Rows L2
noncomputable def zus (f:FE):FE:=fun sd=>noX (f sd)
noncomputable def zur (f:FS):FS:=fun sd=>noX (f sd)
section
variable {X:Cx} {E:XE} {a e o:Expr} {es:List Expr} {pos p cpos apos:Pos} {f fo fe fa:FE} {fs:FA} {x:Str}
noncomputable def zdx (x y:D):M D:=match x,y with
 | .cel n,.tup zs=>do
  let ds<-zao n
  fits (ds.length+zs.length)
  zbL n (ds++zs)
  pure .non
 | _,_=>M.bad
noncomputable def zh0 (fo fe:FE):FE:=fun sd=>do
 let x<-fo sd
 zdU x
 let y<-fe sd
 zdx x y
theorem zmv (ho:SE X E o fo) (he:SE X E e fe)
  (hbase:attributeBase o "extend" X.env (eval o X.env)=eval o X.env:=by rfl)
  (hfew:((backTo cpos (starEach [e] X.env)).all (fun x=> !x.1) && (backToKw cpos (keywordEach [] X.env)).all (fun x=>x.1.isSome)
    && decide (([e]:List Expr).length+([]:List Keyword).length+(if ([]:List Keyword).isEmpty then 0 else 1)<30))=true:=by rfl)
  (hline:(apos.endLine==cpos.line)=true:=by rfl) (hs:starEach [e] X.env=(false,eval e X.env)::starEach [] X.env:=by rfl) (hplain:(backTo cpos (starEach [] X.env)).any (·.1)=false:=by rfl):
  SE X E (.Call (.Attribute o "extend" apos) [e] [] cpos) (zh0 fo fe):=by
 refine PE.imp (zrq PySem.F.plainAttrs_list PySem.F.slot_list_extend PySem.F.type_list_extend zjy ho (zbK he zcZ hs) hbase hfew hline hs hplain) fun σ H Q ⟨ι,h,sd,L,hh,q⟩=>⟨ι,h,sd,L,hh,Fin.bind q fun d h1 ι1 H1 e1 s1 hr1 q1 v rv=> ?_⟩
 cases d with
 | cel n=>
  have q2:Fin X.K E ι1 H1 ((zao n>>=fun _=>fe sd>>=fun y=>zdx (.cel n) y) h1) (fun d ι' H'=> ∀ v,Rel X.K ι' H' d v->Q v H'):=by
   have ee:(zdU (.cel n)>>=fun _=>fe sd>>=fun y=>zdx (.cel n) y:M D)=(zao n>>=fun _=>fe sd>>=fun y=>zdx (.cel n) y):=by
    show ((zao n>>=fun _=>pure ())>>=fun _=>fe sd>>=fun y=>zdx (.cel n) y)=_
    simp only [bind_assoc,pure_bind]
   rw [<- ee]
   exact q1
  obtain ⟨ds,e2,q3⟩:=zgE q2
  obtain ⟨a,vs,rfl,hn,hH,rl⟩:=hr1.read rv e2
  refine ⟨.inl ⟨rfl,vs,SqL.of hH⟩,ι1,h1,sd,L.step s1,hr1,Fin.bind q3 fun y h3 ι3 H3 e3 s3 hr3 q4 w rw'=> ?_⟩
  have rv3:=rv.step s3
  cases y with
  | tup zs=>
   have q5:Fin X.K E ι3 H3 ((zao n>>=fun ds=>fits (ds.length+zs.length)>>=fun _=>zbL n (ds++zs)>>=fun _=>pure D.non) h3) (fun d ι' H'=> ∀ v,Rel X.K ι' H' d v->Q v H'):=q4
   obtain ⟨ds3,e4,q6⟩:=zgE q5
   obtain ⟨a3,vs3,ea,hn3,hH3,rl3⟩:=hr3.read rv3 e4
   cases ea
   obtain ⟨b,ws,eb,hb,rlb⟩:=zc0 rw'
   obtain ⟨z,q7⟩:=Fin.fits q6
   refine ⟨a,b,vs3,ws,rfl,by rw [eb],hH3,hb,by rw [<- rl3.length, <-rlb.length];exact z,?_⟩
   have q8:Fin X.K E ι3 H3 (R.ok D.non (h3.set n (.lst (ds3++zs)))) (fun d ι' H'=> ∀ v,Rel X.K ι' H' d v->Q v H'):=q7
   exact q8 ι3 _ (hr3.cellS hn3) (hr3.cell hn3 (rl3.append rlb)) _ (by simp [Rel])
  | _=>exact qa0 q4
 | _=>exact qa0 q1
end
section
variable {P:Program} {w:World} {K:W.Frag} {mg:Str->Option Value} {base:Heap}
end
section
variable {X:Cx} {E:XE} {body:List Stmt} {ce en gk pe x:Str} {pce p1 p2 p3 p4 p5 hp pos:Pos} {CE fk:Addr} {fdk:FuncData} {Fk:List D->M D} {gb:FS} {k:Nat} {known:List String}
end
noncomputable def zrk (Fs:List (List D->M D)) (i:D):M (List D->M D):=match i with
 | .int j=>(match ixN Fs.length j with
   | some m=>ofO Fs[m]?
   | none=>M.bad)
 | _=>M.bad
noncomputable def ztJ (n:Nat) (Fs:List (List D->M D)) (fi:FE) (fs:FA):FE:=fun sd=>do
 let i<-fi sd
 let F<-zrk Fs i
 let ds<-fs sd
 zal n F ds
structure Fns (X:Cx) (n:Nat) (addrs:List Addr) (Fs:List (List D->M D)):Prop where
 len:Fs.length=addrs.length
 ok: ∀ (m:Nat) (F:List D->M D) (a:Addr),Fs[m]? = some F->addrs[m]? = some a-> ∃ k fd ps,zbn X.prog X.w X.K X.mg X.base (CXE X.prog X.w) k a fd ps (spE X.K n F)/\zel k X.A/\W.keepIn X.K (.ref a)=true/\zaF X.K fd ps []
theorem Fns.nil {X:Cx} {n:Nat}:Fns X n [] []:=⟨rfl,fun m F a h=>by simp at h⟩
theorem Fns.cons {X:Cx} {n k:Nat} {a:Addr} {F:List D->M D} {addrs:List Addr} {Fs:List (List D->M D)} {fd:FuncData} {ps:List Str} (G:zbn X.prog X.w X.K X.mg X.base (CXE X.prog X.w) k a fd ps (spE X.K n F)) (hr:zel k X.A) (hk:W.keepIn X.K (.ref a)=true) (hb:zaF X.K fd ps []) (h:Fns X n addrs Fs):Fns X n (a::addrs) (F::Fs):=by
 refine ⟨by simp [h.len],fun m F' a' h1 h2=> ?_⟩
 cases m with
 | zero=>simp at h1 h2;subst h1 h2;exact ⟨k,fd,ps,G,hr,hk,hb⟩
 | succ m=>simp at h1 h2;exact h.ok m F' a' h1 h2
section
variable {X:Cx} {E:XE} {e ix:Expr} {es fes:List Expr} {pos p q3 q4:Pos} {fi:FE} {fs:FA} {x:Str}
end
end L3
namespace L2
open PySem PySem.Spec PyProof.Rows
noncomputable def Itd (lo:Int) (n:Nat):It:=⟨fun i _=>i<n,fun i H x H'=>H'=H/\x= .int (lo - i),fun i _=>n<=i⟩
theorem zk8 {P:Program} {w:World} {K:W.Frag} {tg:Expr} (it:Addr) (lo:Int) (n:Nat):zn3 P w K tg (Itd lo n) [it] it (fun i h=>IsRangeIter h it (lo - (i:Nat)) ((n:Int) - (i:Nat)) (-1)) where
 mem:=by simp
 obj:=fun i h st b hb=>by
  have e:b=it:=by simpa using hb
  subst e
  exact ⟨_,st,fun v z=>by
    have z':Data.fields _=Data.cell v:=z
    cases z'⟩
 keep:=fun i h h' st k=>k it (by simp) _ st
 item:=by
  intro X hP hw hK i pins s σ H E I hf st hg
  subst hP hw hK
  obtain ⟨f0,f1,f2,f3,f4,f5⟩:=hf it (by simp)
  refine wpAny_pyNext_range_item st (by have:i<n:=hg;omega) fun h' st' kk=> ?_
  have e1:lo - (i:Nat)+ -1=lo - ((i+1:Nat):Int):=by omega
  have e2:(n:Int) - (i:Nat) - 1=(n:Int) - ((i+1:Nat):Int):=by omega
  rw [e1,e2] at st'
  have I1:Inv X pins σ H {s with heap:=h',toks:=s.toks+1}:=I.turned (fun b o hb e=>(kk.2 b hb).trans e) f0 f1 f3 f4 f5
  exact ⟨_,rfl,zmx (s:={s with heap:=h',toks:=s.toks+1}) (n:="range_iterator") st' rfl rfl (by decide) ⟨.int (lo - i),H,I1,⟨s.toks,rfl⟩,⟨rfl,rfl⟩,st',fun b hb=>(hf b hb).1⟩⟩
 done:=by
  intro X hP hw hK i pins s σ H E I hf st hg
  subst hP hw hK
  obtain ⟨f0,f1,f2,f3,f4,f5⟩:=hf it (by simp)
  exact L3.zhC I.hand st (by have:n<=i:=hg;omega) fun h' eb=>⟨rfl,I.turned (t':=s.toks) (fun b o hb e=>eb b o hb e) f0 f1 f3 f4 f5⟩
 self:=fun _ _ _ _ _ st h=>wpAny_pyIter_rangeiter st h
theorem zg5 {a b:Int}:Builtin.Range.rangeSize a b (-1)=((a - b).toNat:Int):=by
 unfold Builtin.Range.rangeSize
 rw [qa5 (by decide)]
 split
 ·rw [show (-(-1):Int)=1 by decide,Int.ediv_one];omega
 ·omega
theorem zjF {a b:Int} (ha: -1000<=a) (ha':a<1000) (hb: -1000<=b) (hb':b<1000):Builtin.Range.small a b (-1)=true:=by
 unfold Builtin.Range.small
 rw [zg5]
 simp only [Builtin.Range.rangeFitsLong,qaG,Bool.or_eq_true,qaD,beq_iff_eq,show ¬(-1:Int)>0 by decide,if_false]
 omega
section
variable {X:Cx} {tg:Expr}
noncomputable def ztz (ta:TA):TI:=fun σ H R=>ta σ H fun vs H1=> ∃ i j:Int,vs=[.int i,.int j,.int (-1)]/\(-1000<=i/\i<1000/\ -1000<=j/\j<1000)/\R (Itd i (i - j).toNat) H1
theorem zlH {a b c:Expr} {ta:TA} {p pos:Pos} (hg:Gl X "range") (hm:X.mg "range"=none) (ha:PA X [a,b,c] ta) (hs:starEach [a,b,c] X.env=[(false,eval a X.env),(false,eval b X.env),(false,eval c X.env)]:=by rfl) (hs2:starEach [b,c] X.env=[(false,eval b X.env),(false,eval c X.env)]:=by rfl):
  PI X tg (.Call (.Name "range" p) [a,b,c] [] pos) (ztz ta):=by
 intro pins s σ H R I h
 refine Call_ (zer I hg hm boot_range (PyProof.Rows.callWith_type1 (thn (ha pos pins s σ H _ I h) fun us s1 ⟨vs,H1,I1,r1,q1⟩=> ?_) (by rw [hs,hs2]) (by rw [hs2];rfl)))
 obtain ⟨i,j,e,⟨q1,q2,q3,q4⟩,q⟩:=q1
 subst e
 cases r1 with
 | cons r rr=>
  cases rr with
  | cons r' rr=>
   cases rr with
   | cons r'' rr=>
    cases rr
    obtain ⟨t,rfl⟩:=r
    obtain ⟨t',rfl⟩:=r'
    obtain ⟨t'',rfl⟩:=r''
    refine call_range_3 (by decide) ?_ (Or.inl (PyProof.noPylong_small (by decide)))
    refine wpAny_pyIter_range (IsRange.new ..) (zjF q1 q2 q3 q4) ?_
    have I2:Inv X pins σ H1 {s1 with heap:=s1.heap.push {cls:= .type "range",data:= .fields #[.int i t,.int j t',.int (-1) t'']},toks:=s1.toks}:=I1.kept fun b o e=>qag _ e
    refine ⟨(s1.heap.push {cls:= .type "range",data:= .fields #[.int i t,.int j t',.int (-1) t'']}).objs.size,[(s1.heap.push {cls:= .type "range",data:= .fields #[.int i t,.int j t',.int (-1) t'']}).objs.size],_,_,H1,rfl,
      I2.kept (t':=s1.toks) fun b o e=>qag _ e,zk8 _ i (i - j).toNat,?_,fun b hb=> ?_,q⟩
    ·have e1:i - ((0:Nat):Int)=i:=by simp
     have e2:(((i - j).toNat:Nat):Int) - ((0:Nat):Int)=Builtin.Range.rangeSize i j (-1):=by rw [zg5];simp
     show IsRangeIter _ _ (i - ((0:Nat):Int)) ((((i - j).toNat:Nat):Int) - ((0:Nat):Int)) (-1)
     rw [e1,e2]
     exact qar _ rfl
    ·have e:b=(s1.heap.push {cls:= .type "range",data:= .fields #[.int i t,.int j t',.int (-1) t'']}).objs.size:=by simpa using hb
     subst e
     exact I2.fpOk (qaV _) (I2.hok.fresh (qaV _))
theorem zg0 (hc:X.calm=true):zaM X (.type "list") (fun xs H Q=> ∃ (p:Addr) (j:Int),xs=[.ref p]/\H p=some (.rng 0 j)/\0<=j/\j<1000/\ ∀ l,H l=none->Q (.ref l) (upd H l (.lst (((List.range j.toNat).map fun (k:Nat)=>(k:Int)).map V.int)))):=by
 intro pins s σ H xs us Q I r h
 obtain ⟨p,j,rfl,hp,h0,h1,q⟩:=h
 obtain ⟨u,rfl,rx⟩:=zez r
 cases rx
 obtain ⟨t,u',v,hr⟩:=(show zbF X.prog X.w H s.heap p (.rng 0 j) from I.hok p _ hp)
 refine call_list_range (I.ok.hd hc) hr (small_one (by omega) (by omega) (by omega) (by omega)) (zjb h0) (by omega) fun h' tk acc c' hk hS hacc=> ?_
 have hl:acc.toList.length=j.toNat:=by rw [qas];exact hacc.1
 have I2:=I.laid (t':=tk) (h':=h') (a:=s.heap.objs.size) (o:= .lst (((List.range j.toNat).map fun (k:Nat)=>(k:Int)).map V.int)) hk (qaV _)
  (show zbF X.prog X.w _ h' _ (.lst _) from ⟨by rw [qaH,qaH,List.length_range];exact qaS (show j.toNat<=1000 by omega) (by decide),acc.toList,c',zdA _ _ (by rw [qaH,List.length_range,hl]) (fun k w e=> ?_),by simpa using hS⟩)
 ·exact ⟨.ref s.heap.objs.size,_,I2,rfl,q _ (I.hok.fresh (qaV _))⟩
 ·have hk':k<j.toNat:=by rw [<- hl];exact (qac.mp e).1
  obtain ⟨t,et⟩:=hacc.2 k w (by simpa using e)
  refine ⟨t,?_⟩
  rw [et]
  simp [hk']
end
end L2
namespace L3
open PySem PySem.Spec PyProof.Rows L2
section
variable {X:Cx} {E:XE} {e o:Expr} {f fo fe:FE} {pos apos cpos:Pos}
noncomputable def zeD (tc:FT) (gb:FS):Nat->FS
 | 0,_=>M.bad
 | n+1,sd=>do
  let b<-tc sd
  if b=true then
   let o<-gb sd
   match o with
   | .nx sd'=>zeD tc gb n sd'
   | .ct sd'=>zeD tc gb n sd'
   | .bk sd'=>pure (.nx sd')
   | .rt d=>pure (.rt d)
  else pure (.nx sd)
noncomputable def zjc (n:Nat) (tc:FT) (gb:FS):FS:=zeD tc gb n
theorem zlk {c:Expr} {body:List Stmt} {tc:FT} {gb:FS} (n:Nat) (hp:PassesOwn (model X.prog X.w) X.A X.env X.xe) (hc:ST X E c tc) (hb:SSs X E body gb):SS X E (.While c body [] pos) (zjc n tc gb):=by
 refine PS.imp (zmf hp hc hb) fun D0 σ H ⟨ι,h,sd,L,hh,q⟩=> ?_
 refine ⟨fun m σ' H'=> ∃ ι' h' sd',zcH X.K ι' H' sd' σ'/\zbf X.K ι' H' h'/\Fin X.K E ι' H' (zeD tc gb m sd' h') (zgX X.K D0),⟨n,ι,h,sd,L,hh,q⟩,?_⟩
 rintro m σ2 H2 ⟨ι2,h2,sd2,L2,hr2,q2⟩
 cases m with
 | zero=>exact qa0 q2
 | succ m=>
  refine ⟨ι2,h2,sd2,L2,hr2,Fin.bind q2 fun b h3 ι3 H3 e3 s3 hr3 q3=> ?_⟩
  cases b with
  | true=>
   refine ⟨fun σ' H'=> ∃ ι' h' sd',zcH X.K ι' H' sd' σ'/\zbf X.K ι' H' h'/\Fin X.K E ι' H' (zeD tc gb m sd' h') (zgX X.K D0),fun σ' H' p=>⟨m,by omega,p⟩,ι3,h3,sd2,L2.step s3,hr3,Fin.bind q3 fun o h7 ι7 H7 e7 s7 hr7 q7=> ?_⟩
   cases o with
   | nx sd'=>exact fun σ' L'=>⟨ι7,h7,sd',L',hr7,q7⟩
   | ct sd'=>exact fun σ' L'=>⟨ι7,h7,sd',L',hr7,q7⟩
   | bk sd'=>exact fun σ' L'=>Fin.out (E:=E) (P:=zgX X.K D0) hr7 q7 σ' L'
   | rt d=>exact fun v rv=>Fin.out (E:=E) (P:=zgX X.K D0) hr7 q7 v rv
  | false=>exact Fin.out (E:=E) (P:=zgX X.K D0) hr3 q3 σ2 (L2.step s3)
noncomputable def zjh (lo:Int) (n:Nat):List D:=(List.range n).map fun (k:Nat)=>D.int (lo - (k:Int))
theorem zmU {K:W.Frag} {ι:Io} {H:Hp} {lo:Int} {n:Nat}:zn5 K ι H (Itd lo n) (zjh lo n) where
 go:=fun ι' H' i s hi=>by show i<n;simpa [zjh] using hi
 yld:=fun ι' H' _ i x H2 s _ hi ⟨e,y⟩=>by
  subst e y
  have hi:i<n:=by simpa [zjh] using hi
  refine ⟨.inl rfl,.int (lo - i),?_,by simp [Rel]⟩
  simp [zjh,hi]
 stop:=fun ι' H' s=>by
  show n<=(zjh lo n).length
  simp [zjh]
noncomputable def zng:List D->M (List D)
 | [.int i,.int j,.int c]=>if (-1000<=i/\i<1000/\ -1000<=j/\j<1000)/\c= -1 then pure (zjh i (i - j).toNat) else M.bad
 | _=>M.bad
noncomputable def zow (fs:FA):FA:=fun sd=>do let ds<-fs sd;zng ds
theorem zqD {tg a b c:Expr} {p:Pos} {fs:FA} (hm:X.mg "range"=none) (ha:SA X E [a,b,c] fs) (hg:Gl X "range":=by rfl) (hs:starEach [a,b,c] X.env=[(false,eval a X.env),(false,eval b X.env),(false,eval c X.env)]:=by rfl) (hs2:starEach [b,c] X.env=[(false,eval b X.env),(false,eval c X.env)]:=by rfl):
  SI X E tg (.Call (.Name "range" p) [a,b,c] [] pos) (zow fs):=by
 refine PI.imp (zlH hg hm ha hs hs2) fun σ H Q ⟨ι,h,sd,L,hh,q⟩=>⟨ι,h,sd,L,hh,Fin.bind q fun ds h1 ι1 H1 e1 s1 hr1 q1 vs rv=> ?_⟩
 unfold zng at q1
 split at q1
 ·rename_i i j c'
  simp only [zar,Rel] at rv
  obtain ⟨v,r,rfl,rfl,v',r',rfl,rfl,v'',r'',rfl,rfl,rfl⟩:=rv
  by_cases hj:(-1000<=i/\i<1000/\ -1000<=j/\j<1000)/\c'= -1
  ·rw [qa4 hj] at q1
   obtain ⟨hj,rfl⟩:=hj
   exact ⟨i,j,rfl,hj,Fin.out hr1 q1 _ zmU⟩
  ·rw [qa5 hj] at q1
   exact qa0 q1
 ·exact qa0 q1
noncomputable def zcM:D->M D
 | .int j=>if 0<=j/\j<1000 then pure (.lst (zdk 0 j.toNat)) else M.bad
 | _=>M.bad
theorem zdW {p1 p2 pos pos2:Pos} (hc:X.calm=true) (hm1:X.mg "list"=none) (hm2:X.mg "range"=none) (he:SE X E e f) (hg1:Gl X "list":=by rfl) (hg2:Gl X "range":=by rfl)
  (h1:starEach [.Call (.Name "range" p2) [e] [] pos2] X.env=[(false,eval (.Call (.Name "range" p2) [e] [] pos2) X.env)]:=by rfl) (h2:starEach [e] X.env=[(false,eval e X.env)]:=by rfl):
  SE X E (.Call (.Name "list" p1) [.Call (.Name "range" p2) [e] [] pos2] [] pos) (cUn zcM f):=by
 refine PE.imp (zcy (zg0 hc) hg1 hm1 PyProof.Rows.boot_list (zbK (zcy ze7 hg2 hm2 boot_range (zbK he zcZ h2) (he:=h2)) zcZ h1) (he:=h1)) fun σ H Q ⟨ι,h,sd,L,hh,q⟩=>⟨ι,h,sd,L,hh,Fin.bind q fun d h1 ι1 H1 e1 s1 hr1 q1 v rv=> ?_⟩
 cases d with
 | int j=>
  simp only [Rel] at rv
  obtain ⟨⟨c1,c2⟩,q2⟩:=Fin.guard q1
  refine ⟨j,by rw [rv],fun p hp=> ?_⟩
  have hr2:zbf X.K ι1 (upd H1 p (.rng 0 j)) h1:=hr1.laid hp
  exact ⟨p,j,rfl,za0,c1,c2,fun l hl=>zpG hr2 zio (Fin.step (hr1.laidS hp) q2) hl⟩
 | _=>exact qa0 q1
theorem zar.eraseIdx {K:W.Frag} {ι:Io} {H:Hp}: ∀ {ds:List D} {vs:List V} (i:Nat),zar K ι H ds vs->zar K ι H (ds.eraseIdx i) (vs.eraseIdx i)
 | [],vs,i,h=>by
  simp only [zar] at h
  subst h
  simpa using zar.nil
 | x::r,vs,i,h=>by
  simp only [zar] at h
  obtain ⟨v,vs',rfl,rv,rl⟩:=h
  cases i with
  | zero=>simpa using rl
  | succ i=>exact zar.cons rv (zar.eraseIdx i rl)
end
end L3
namespace L3
open PySem
open Sem (wp)
open AutoSeq1 (wpAny_loadPart')
section
variable {prog:Program} {w:World} {A:Around} {E:Value->Shared->Prop} {s:Shared}
theorem zeo {it l:Addr} {i:Nat} {items:Array Value} {x:Value} {Q:Value->Shared->Prop} (hit:s.heap.IsTupleIter it l i) (hl:s.heap.IsTuple l items) (hx:items[i]? = some x)
  (hQ: ∀ h',h'.IsTupleIter it l (i+1)->Heap.SameBut it s.heap h'->Q x {s with heap:=h'}):wpAny (model prog w) A (Builtin.SmallTypes.nextOf (.ref it)) Q E s:=by
 obtain ⟨o,ho,hc,hd⟩:=id hit
 obtain ⟨ol,hol,_,nl,hdl⟩:=hl
 unfold Builtin.SmallTypes.nextOf
 refine qaW (wpAny_callSpecial?_slot (name:=Str.ofString "__next__") hit.typeIs F.slot_tuple_iterator_next
   (wpAny_call_entry F.slot_tuple_iterator_next hit.typeIs F.entry_tuple_iterator_next ?_ (F.args_tuple_iterator_next_1 _)))
 show wpAny _ _ (field (.ref it) 0>>=_) _ _ s
 refine qaW (wpAny_field ho hd (x:= .ref l) rfl ?_)
 show wpAny _ _ (if (Value.ref l==Value.none)=true then _ else _) _ _ s
 rw [qa5 (show ¬((Value.ref l==Value.none)=true) from Bool.false_ne_true)]
 show wpAny _ _ (field (.ref it) 1>>=_) _ _ s
 refine qaW (wpAny_field ho hd (x:= .int i 0) rfl ?_)
 show wpAny _ _ (seqItems? (.ref l)>>=_) _ _ s
 refine qaW (wpAny_seqItems hol hdl ?_)
 simp only [qaB,hx]
 refine qaW (wpAny_setField ho hd (by simp) (qaX ⟨x,rfl,qaX (hQ _ ?_ (Heap.SameBut.update ..))⟩))
 exact ⟨_,qal _ ho (Obj.isFreed_of_fields (Obj.data_mapFields hd _)),(Obj.cls_mapFields ..).trans hc,by
   rw [Obj.data_mapFields hd];simp [rawInt]⟩
theorem zey {it l:Addr} {i:Nat} {items:Array Value} {Q:Value->Shared->Prop} (hh:zjX A s.heap) (hit:s.heap.IsTupleIter it l i) (hl:s.heap.IsTuple l items) (hx:items[i]? = none)
  (hE: ∀ h' e,Heap.ExtBut it s.heap h'->(∃ o,h'.get? e=some o/\o.cls= .type "StopIteration")->E (.ref e) {s with heap:=h'}):wpAny (model prog w) A (Builtin.SmallTypes.nextOf (.ref it)) Q E s:=by
 obtain ⟨o,h1,h2,h3⟩:=id hit
 obtain ⟨ol,l1,_,nl,l2⟩:=hl
 unfold Builtin.SmallTypes.nextOf
 refine qaW (wpAny_callSpecial?_slot (name:=Str.ofString "__next__") hit.typeIs F.slot_tuple_iterator_next
   (wpAny_call_entry F.slot_tuple_iterator_next hit.typeIs F.entry_tuple_iterator_next ?_ (F.args_tuple_iterator_next_1 _)))
 show wpAny _ _ (field (.ref it) 0>>=_) _ _ s
 refine qaW (wpAny_field h1 h3 (x:= .ref l) rfl ?_)
 show wpAny _ _ (if (Value.ref l==Value.none)=true then _ else _) _ _ s
 rw [qa5 (show ¬(Value.ref l==Value.none)=true from nofun)]
 show wpAny _ _ (field (.ref it) 1>>=_) _ _ s
 refine qaW (wpAny_field h1 h3 (x:= .int i 0) rfl ?_)
 show wpAny _ _ (seqItems? (.ref l)>>=_) _ _ s
 refine qaW (wpAny_seqItems l1 l2 ?_)
 simp only [qaB,hx]
 refine qaW (wpAny_rule (qaW (wpAny_setField h1 h3 (by simp) ?_)))
 show wpAny _ _ (newExc (.type "StopIteration") []>>=_) _ _ _
 refine qaW ?_
 simp only [newExc,newTuple]
 refine qaW (qaC ?_ (by size_fits))
 refine qaW (m:=firstArgMember _ _) (wpAny_of_eq (a:=Value.none) (by first | rfl | (simp only [firstArgMember];rfl)) ?_)
 refine qaC ?_ (by size_fits)
 rcases hh with hh | ⟨ha,cls,head,hh,hX⟩
 ·simp only [raiseNew]
  refine qaW (wpAny_handled ?_)
  first | rw [show A.in1.handled=none from hh] | rw [hh]
  refine qaW (qaX (wpAny_throw ?_))
  exact hE _ _ (((Heap.SameBut.update ..).extBut.push _).push _) ⟨_,qar _ rfl,rfl⟩
 have nit:ha≠it:=fun z=>by
  subst z
  obtain ⟨ob,vs,x1,_,_,x4,x5,x6⟩:=hX
  rw [h1] at x1
  cases x1
  rw [h3] at x4
  cases x4
  simp at x5
 have hX1:zhN (s.heap.update it (Obj.mapFields (·.setIfInBounds 0 Value.none))) ha cls head:=by
  obtain ⟨ob,vs,x1,x2⟩:=hX
  exact ⟨ob,vs,(qah _ _ (Ne.symm nit)).trans x1,x2⟩
 obtain ⟨ob,vs,x1,x2⟩:=hX1
 have y1:=qag {cls:= .type "tuple",dict:=none,data:= .seq [].toArray} x1
 refine zcG (h:=ha) (cls:=cls) (head:=head) hh ⟨ob,vs,qag _ y1,x2⟩ (qar _ rfl) rfl (by simp;omega) (qaR (qaQ y1)) ?_
 refine hE _ _ (fun b o hb z=> ?_) ⟨_,qal _ (qar _ rfl) rfl,rfl⟩
 have z1:(s.heap.update it (Obj.mapFields (·.setIfInBounds 0 Value.none))).get? b=some o:=(qah _ _ (Ne.symm hb)).trans z
 have z2:=qag {cls:= .type "tuple",dict:=none,data:= .seq [].toArray} z1
 rw [qah _ _ (Nat.ne_of_gt (qaQ z2))]
 exact qag _ z2
end
noncomputable def zbb (A:Around):List Addr:=match A.handled with
 | some (.ref a)=>[a]
 | _=>[]
theorem zjX.keep {A:Around} {h h':Heap} (x:zjX A h) (k: ∀ b∈zbb A, ∀ o,h.get? b=some o->h'.get? b=some o):zjX A h':=by
 rcases x with x | ⟨a,cls,head,x1,ob,vs,x2,x3⟩
 ·exact .inl x
 ·exact .inr ⟨a,cls,head,x1,ob,vs,k a (by unfold zbb;rw [x1];simp) _ x2,x3⟩
theorem zfa {prog:Program} {w:World} {A:Around} (it l:Addr) (hne:l≠it) (items:Array Value):
  Draws prog w A.in1 it (it::l::zbb A) items.size (fun i v=>items[i]? = some v) (fun i h=>h.IsTupleIter it l i/\h.IsTuple l items/\zjX A h/\it∉zbb A) where
 live:=fun _ _ st=>let ⟨o,ho,_⟩:=st.1;⟨o,ho⟩
 frame:=fun _ _ _ st hk=>⟨st.1.at fun o e=>hk it (by simp) o e,st.2.1.at fun o e=>hk l (by simp) o e,st.2.2.1.keep fun b hb o e=>hk b (by simp [hb]) o e,st.2.2.2⟩
 item:=fun i s Q E hi st hQ=>by
  refine zeo st.1 st.2.1 (x:=items[i]) (by simp [hi]) fun h' hit' hs'=> ?_
  exact hQ _ h' s.toks (by simp [hi]) ⟨hit',st.2.1.extBut hs'.extBut hne,st.2.2.1.keep fun b hb o e=>(hs'.2 b fun z=>st.2.2.2 (z▸hb)).trans e,st.2.2.2⟩ hs'
 done:=fun s Q E st hE=>zey (A:=A.in1) st.2.2.1 st.1 st.2.1 (by simp) hE
theorem zdr (l:Addr) (items:Array Value) (n:Nat) (dct:Option Addr) (sl:Array (Option Value)):
  Meets (Builtin.«enumerate.__new__» ⟨[.type "enumerate",.ref l],[]⟩) (fun _ R s=>s.heap.get? l=some {cls:= .type "tuple",dict:=dct,data:= .seq items n,slots:=sl}/\
    R (.ok (.ret (.ref (s.heap.push {cls:= .type "tuple_iterator",data:= .fields #[.ref l,.int 0 0]}).objs.size)))
      {s with heap:=(s.heap.push {cls:= .type "tuple_iterator",data:= .fields #[.ref l,.int 0 0]}).push {cls:= .type "enumerate",data:= .fields #[.none,.bool false,.ref s.heap.objs.size,rawInt 0,.none,.none]}}):=
 .of_wp fun prog w A R s h=>by
  obtain ⟨hp,g,d,tk,os⟩:=s;obtain ⟨hl,h⟩:=h
  have hsub:=sub_enumerate
  have hL:Heap.IsTuple (Shared.heap ⟨hp,g,d,tk,os⟩) l items:=⟨_,hl,rfl,n,rfl⟩
  wp_walk using wpAny_loadPart' hl
  refine wpAny_stack_any fun st=>qaX ?_
  split
  ·rename_i c _ _ _ _ _
   cases (c==Value.type "enumerate")
   ·wp_walk using wpAny_loadPart' hl,wpAny_pyIter_tuple hL
    exact ⟨_,rfl,h⟩
   ·wp_walk using wpAny_loadPart' hl,wpAny_pyIter_tuple hL
    exact ⟨_,rfl,h⟩
  ·wp_walk using wpAny_loadPart' hl,wpAny_pyIter_tuple hL
   exact ⟨_,rfl,h⟩
end L3
namespace L3
open PySem
section
variable {prog:Program} {w:World} {A:Around} {E:Value->Shared->Prop} {s:Shared}
theorem zdt {l:Addr} {items:Array Value} {Q:Value->Shared->Prop} (hL:s.heap.IsTuple l items)
  (h: ∀ h',IsEnum h' (s.heap.objs.size+1) s.heap.objs.size 0 .none->h'.IsTupleIter s.heap.objs.size l 0->h'.objs.size=s.heap.objs.size+2->
    (∀ b o,s.heap.get? b=some o->h'.get? b=some o)->Q (.ref (s.heap.objs.size+1)) {s with heap:=h'}):
  wpAny (model prog w) A (call (.type "enumerate") [.ref l]) Q E s:=by
 obtain ⟨⟨c,dct,dt,sl⟩,hl,hc,n,hd⟩:=hL
 replace hc:c= .type "tuple":=hc
 replace hd:dt= .seq items n:=hd
 subst hc hd
 refine callType_new F.called_enumerate (by decide) (F.typeCall_enumerate_1 _) (F.newCall_enumerate_1 _) (fun obj=>F.args_object_init_2 obj _) F.entry_enumerate_new
  (zdr l items n dct sl) ⟨hl,?_⟩
 have hz:(s.heap.push {cls:= .type "tuple_iterator",data:= .fields #[.ref l,.int 0 0]}).objs.size=s.heap.objs.size+1:=qaL ..
 show _/\_
 rw [hz]
 have he:IsEnum ((s.heap.push {cls:= .type "tuple_iterator",data:= .fields #[.ref l,.int 0 0]}).push
     {cls:= .type "enumerate",data:= .fields #[.none,.bool false,.ref s.heap.objs.size,rawInt 0,.none,.none]}) (s.heap.objs.size+1) s.heap.objs.size 0 .none:=by
  have:=qar (s.heap.push {cls:= .type "tuple_iterator",data:= .fields #[.ref l,.int 0 0]})
   (o:={cls:= .type "enumerate",data:= .fields #[.none,.bool false,.ref s.heap.objs.size,rawInt 0,.none,.none]}) rfl
  rw [hz] at this;exact this
 exact ⟨⟨_,he,rfl⟩,h _ he ⟨_,qag _ (qar _ rfl),rfl,rfl⟩ (by rw [qaL,hz]) fun b o x=>qag _ (qag _ x)⟩
end
end L3
namespace L2
open PySem PySem.Spec PyProof.Rows
section
variable {X:Cx} {pins:List (Addr×Obj)} {σ:St} {H:Hp} {s:Shared} {h':Heap}
theorem Inv.turned2 {t':Nat} {e it:Addr} (I:Inv X pins σ H s) (k: ∀ b o,b≠e->b≠it->s.heap.get? b=some o->h'.get? b=some o) (f:zhO X pins H e) (g:zhO X pins H it):Inv X pins σ H {s with heap:=h',toks:=t'}:=by
 obtain ⟨f0,f1,f2,f3,f4,f5⟩:=f
 obtain ⟨g0,g1,g2,g3,g4,g5⟩:=g
 have ne: ∀ b u,H b=some u->b≠e:=fun b u q z=>by rw [z,f0] at q;cases q
 have nit: ∀ b u,H b=some u->b≠it:=fun b u q z=>by rw [z,g0] at q;cases q
 have kk: ∀ b o,b∉[e,it]->s.heap.get? b=some o->h'.get? b=some o:=fun b o hb q=>k b o (fun z=>hb (by simp [z])) (fun z=>hb (by simp [z])) q
 refine I.step (g':=s.gens) (d':=s.drawn) (ch:=[e,it]) (fun b hb=> ?_) (fun b o _ _ hc q _=>kk b o hc q) (fun b o _ _ hc q _=>⟨o.slots,kk b o hc q⟩) (fun _ _ _ _ n=>n)
  (fun b o hc q=>⟨o,kk b o hc q⟩) (fun _ _ q=>q) (fun _ _ _ q=>q) (fun b ps q=>⟨#[],by rw [q];simp⟩) (fun m hm=> ?_) (fun b u q=> ?_) I.bare
 ·have z:b=e\/b=it:=by simpa using hb
  rcases z with rfl | rfl
  ·exact ⟨f3,f1,f4,f5⟩
  ·exact ⟨g3,g1,g4,g5⟩
 ·obtain ⟨o,es,ep,ho,r⟩:=hm
  exact ⟨o,es,ep,k _ o (Ne.symm f1) (Ne.symm g1) ho,r⟩
 ·refine (I.hok b u q).stay (fun c v hc q'=> ?_) (fun _ q=>q) fun _ _ q=>q
  rcases hc with z | z
  ·rw [z];exact k b v (ne b u q) (nit b u q) (by rw [<- z];exact q')
  ·exact k c v (ne c _ z) (nit c _ z) q'
end
noncomputable def Ite (K:W.Frag) (a:Addr):It:=
 ⟨fun i H=> ∃ xs x,SqT K H a xs/\xs[i]? = some x,fun i H x H'=> ∃ T y,H T=none/\H'=upd H T (.tup [.int i,y])/\x= .ref T/\ ∀ xs,SqT K H a xs->xs[i]? = some y,fun i H=> ∃ xs,SqT K H a xs/\xs.length=i⟩
theorem zkj {P:Program} {w:World} {K:W.Frag} {elts:List Expr} {k:Nat} {pos:Pos} (a e it:Addr) (hei:e≠it):zn3 P w K (.Tuple elts k pos) (Ite K a) [e,it] e (fun i h=>(∃ old,IsEnum h e it i old)/\h.IsTupleIter it a i) where
 mem:=by simp
 obj:=fun i h st b hb=>by
  obtain ⟨⟨old,he⟩,o,ho,hc,hd⟩:=st
  have z:b=e\/b=it:=by simpa using hb
  rcases z with rfl | rfl
  ·exact ⟨_,he,fun v z=>by cases z⟩
  ·exact ⟨o,ho,fun v z=>by rw [hd] at z;cases z⟩
 keep:=fun i h h' st k=>⟨let ⟨old,he⟩:=st.1;⟨old,k e (by simp) _ he⟩,st.2.at fun o q=>k it (by simp) o q⟩
 item:=by
  intro X hP hw hK i pins s σ H E I hf st hg
  subst hP hw hK
  obtain ⟨xs,y,hq,hx⟩:=hg
  obtain ⟨its,rv,p,hz⟩:=I.tuple hq
  obtain ⟨u,hu,ru⟩:=rv.get hx
  obtain ⟨⟨old,he⟩,hit⟩:=st
  have hfe:=hf e (by simp)
  have hfi:=hf it (by simp)
  obtain ⟨ot,ht,hct,nt,hdt⟩:=(show s.heap.IsTuple a its.toArray from p)
  obtain ⟨oi,hi,hci,hdi⟩:=id hit
  have hai:a≠it:=fun z=>by
   subst z
   rw [ht] at hi
   cases hi
   rw [hdt] at hdi
   cases hdi
  have hea:e≠a:=fun z=>by
   subst z
   have he':s.heap.get? e=_:=he
   rw [ht] at he'
   cases he'
   cases hdt
  have hin:it∉L3.zbb X.A:=fun z=>by
   rcases I.hand with q | ⟨ha,cls,head,q,ob,vs,x1,_,_,x4,x5,_⟩
   ·unfold L3.zbb at z;rw [q] at z;simp at z
   ·unfold L3.zbb at z
    rw [q] at z
    have:it=ha:=by simpa using z
    subst this
    rw [hi] at x1
    cases x1
    rw [hdi] at x4
    cases x4
    simp at x5
  have hen:e∉L3.zbb X.A:=fun z=>by
   rcases I.hand with q | ⟨ha,cls,head,q,ob,vs,x1,_,_,x4,x5,_⟩
   ·unfold L3.zbb at z;rw [q] at z;simp at z
   ·unfold L3.zbb at z
    rw [q] at z
    have:e=ha:=by simpa using z
    subst this
    have he':s.heap.get? e=_:=he
    rw [x1] at he'
    cases he'
    cases x4
    simp at x5
  have hlt:i<its.toArray.size:=by
   have:=(qac.mp hu).1
   simpa using this
  refine wpAny_pyNext_enum_itemD (L3.zfa (A:=X.A) it a hai its.toArray) he ⟨hit,p,I.hand,hin⟩ hlt hei (by simp [hei,hea,hen]) fun x h1 tk hP ho hs' hT hsz hk=> ?_
  have hxu:x=u:=by
   have:its[i]? = some x:=by simpa using hP
   rw [hu] at this
   exact (Option.some.inj this).symm
  subst hxu
  refine ⟨_,rfl,wpAny_letOwnedTupleGo_enum ho fun h2 he2 hs2=> ?_⟩
  have het:e≠s.heap.objs.size:=qaR (qaQ he)
  have hit':it≠s.heap.objs.size:=qaR (qaQ hi)
  have fresh:=I.hok.fresh (qaV s.heap.objs.size)
  have I1:Inv X pins σ (upd H s.heap.objs.size (.tup [.int i,y])) {s with heap:=s.heap.push {cls:= .type "tuple",data:= .seq #[.int i tk,x]},toks:=tk+1}:=
   I.laid (t':=tk+1) (fun b o q=>qag _ q) (qaV _) (show zbF X.prog X.w _ _ _ (.tup [.int i,y]) from ⟨by show 2<=sizeLine;decide,[.int i tk,x],.cons ⟨tk,rfl⟩ (.cons ru .nil),IsTup.new _ _⟩)
  have fe:zhO X pins (upd H s.heap.objs.size (.tup [.int i,y])) e:=⟨by rw [zaC het];exact hfe.1,hfe.2⟩
  have fi:zhO X pins (upd H s.heap.objs.size (.tup [.int i,y])) it:=⟨by rw [zaC hit'];exact hfi.1,hfi.2⟩
  have I2:Inv X pins σ (upd H s.heap.objs.size (.tup [.int i,y])) {s with heap:=h1,toks:=tk+1}:=I1.turned2 (t':=tk+1) (h':=h1) (fun b o hb1 hb2 q=>by
    rcases Heap.get?_push_cases q with ⟨z1,z2⟩ | z
    · rw [z1,z2];exact hT
    · exact hk b o hb1 hb2 z) fe fi
  obtain ⟨f0,f1,f2,f3,f4,f5⟩:=fe
  have I3:Inv X pins σ (upd H s.heap.objs.size (.tup [.int i,y])) {s with heap:=h2,toks:=tk+1}:=I2.turned (t':=tk+1) (fun b o hb q=>(hs2.2 b hb).trans q) f0 f1 f3 f4 f5
  refine ⟨.ref s.heap.objs.size,_,I3,rfl,⟨s.heap.objs.size,y,fresh,rfl,rfl,fun ys hy=>by rw [I.tuple_inj hy hq];exact hx⟩,⟨⟨x,by simpa using he2⟩,hs'.1.at fun o q=>(hs2.2 it (Ne.symm hei)).trans q⟩,fun b hb=> ?_⟩
  have z:b=e\/b=it:=by simpa using hb
  rcases z with rfl | rfl
  ·exact f0
  ·exact fi.1
 done:=by
  intro X hP hw hK i pins s σ H E I hf st hg
  subst hP hw hK
  obtain ⟨xs,hq,hx⟩:=hg
  obtain ⟨its,rv,p,hz⟩:=I.tuple hq
  obtain ⟨⟨old,he⟩,hit⟩:=st
  have hfi:=hf it (by simp)
  obtain ⟨ot,ht,hct,nt,hdt⟩:=(show s.heap.IsTuple a its.toArray from p)
  obtain ⟨oi,hi,hci,hdi⟩:=id hit
  have hai:a≠it:=fun z=>by
   subst z
   rw [ht] at hi
   cases hi
   rw [hdt] at hdi
   cases hdi
  have hin:it∉L3.zbb X.A:=fun z=>by
   rcases I.hand with q | ⟨ha,cls,head,q,ob,vs,x1,_,_,x4,x5,_⟩
   ·unfold L3.zbb at z;rw [q] at z;simp at z
   ·unfold L3.zbb at z
    rw [q] at z
    have:it=ha:=by simpa using z
    subst this
    rw [hi] at x1
    cases x1
    rw [hdi] at x4
    cases x4
    simp at x5
  have hn:its.toArray.size=i:=by
   have:=rv.length
   simp
   omega
  subst hn
  obtain ⟨f0,f1,f2,f3,f4,f5⟩:=hfi
  exact wpAny_pyNext_enum_endD (L3.zfa (A:=X.A) it a hai its.toArray) he ⟨hit,p,I.hand,hin⟩ fun h' hx'=>⟨rfl,I.turned (t':=s.toks) (fun b o hb q=>hx' b o hb q) f0 f1 f3 f4 f5⟩
 self:=fun _ _ _ _ _ st h=>let ⟨⟨_,he⟩,_⟩:=st;wpAny_pyIter_enum he h
section
variable {X:Cx} {elts:List Expr} {k:Nat} {tpos:Pos}
noncomputable def ztw (K:W.Frag) (ta:TA):TI:=fun σ H R=>ta σ H fun vs H1=> ∃ a,vs=[.ref a]/\(∃ xs,SqT K H1 a xs)/\R (Ite K a) H1
theorem zpt {l:Expr} {ta:TA} {p pos:Pos} (hg:Gl X "enumerate") (hm:X.mg "enumerate"=none) (ha:PA X [l] ta) (hs:starEach [l] X.env=[(false,eval l X.env)]:=by rfl):
  PI X (.Tuple elts k tpos) (.Call (.Name "enumerate" p) [l] [] pos) (ztw X.K ta):=by
 intro pins s σ H R I h
 refine Call_ (zer I hg hm PyProof.Rows.boot_enumerate (PyProof.Rows.callWith_type1 (thn (ha pos pins s σ H _ I h) fun us s1 ⟨vs,H1,I1,r1,q1⟩=> ?_) hs rfl))
 obtain ⟨a,e,⟨xs,hq⟩,q⟩:=q1
 subst e
 cases r1 with
 | cons r rr=>
  cases rr
  cases r
  obtain ⟨its,rv,p,hz⟩:=I1.tuple hq
  refine L3.zdt (show s1.heap.IsTuple a its.toArray from p) fun h' he hit hsz kp=> ?_
  refine wpAny_pyIter_enum he ?_
  refine ⟨s1.heap.objs.size+1,[s1.heap.objs.size+1,s1.heap.objs.size],_,_,H1,rfl,I1.kept (t':=s1.toks) kp,zkj a _ _ (Nat.succ_ne_self _),⟨⟨_,he⟩,hit⟩,fun b hb=> ?_,q⟩
  have z:b=s1.heap.objs.size+1\/b=s1.heap.objs.size:=by simpa using hb
  rcases z with rfl | rfl
  ·exact I1.fpOk (Nat.le_succ _) (I1.hok.fresh (Nat.le_succ _))
  ·exact I1.fpOk (qaV _) (I1.hok.fresh (qaV _))
end
end L2
namespace L3
open PySem PySem.Spec PyProof.Rows L2
section
variable {X:Cx} {E:XE} {elts:List Expr} {k:Nat} {tpos pos:Pos}
noncomputable def zhn (ds:List D):List D:=(List.range ds.length).map fun (i:Nat)=> .tup [.int i,ds.getD i .non]
theorem zm1 {K:W.Frag} {ι:Io} {H:Hp} {a:Addr} {vs:List V} {ds:List D} (h: ∀ ι' H',Pass ι H ι' H'->SqT K H' a vs) (rl:zar K ι H ds vs):zn5 K ι H (Ite K a) (zhn ds) where
 go:=fun ι' H' i s hi=>by
  have hi:i<ds.length:=by simpa [zhn] using hi
  obtain ⟨v,ev,_⟩:=zar.get rl (i:=i) (d:=ds[i]) (by simp [hi])
  exact ⟨vs,v,h ι' H' s,ev⟩
 yld:=fun ι' H' _ i x H2 s hr hi ⟨T,y,hT,e,e2,hy⟩=>by
  subst e e2
  have hi:i<ds.length:=by simpa [zhn] using hi
  obtain ⟨v,ev,rv⟩:=zar.get rl (i:=i) (d:=ds[i]) (by simp [hi])
  have ey:=hy vs (h ι' H' s)
  rw [ev] at ey
  cases ey
  refine ⟨.inr ⟨T,_,hT,rfl⟩,.tup [.int i,ds[i]],by simp [zhn,hi],?_⟩
  obtain ⟨st,hr2⟩:=zr8.step (.inr ⟨T,[.int i,y],hT,rfl⟩) hr
  have rv2:Rel K ι' (upd H' T (.tup [.int i,y])) ds[i] y:=(rv.pass s).step st
  simp only [Rel]
  exact ⟨T,_,rfl,⟨za0,hr.nin hT⟩,zar.cons (by simp [Rel]) (zar.cons rv2 zar.nil)⟩
 stop:=fun ι' H' s=>⟨vs,h ι' H' s,by rw [<- rl.length];simp [zhn]⟩
noncomputable def ztu (f:FE):FA:=fun sd=>do
 let d<-f sd
 match d with
 | .tup ds=>pure (zhn ds)
 | _=>M.bad
theorem zqY {l:Expr} {f:FE} {p:Pos} (hm:X.mg "enumerate"=none) (he:SE X E l f) (hg:Gl X "enumerate":=by rfl) (hs:starEach [l] X.env=[(false,eval l X.env)]:=by rfl):SI X E (.Tuple elts k tpos) (.Call (.Name "enumerate" p) [l] [] pos) (ztu f):=by
 refine PI.imp (zpt hg hm (zbK he zcZ hs) hs) fun σ H Q ⟨ι,h,sd,L,hh,q⟩=>⟨ι,h,sd,L,hh,Fin.bind q fun d h1 ι1 H1 e1 s1 hr1 q1 v rv=> ?_⟩
 cases d with
 | tup ds=>
  obtain ⟨a,vs,e,h1',h2⟩:=zkm rv
  exact ⟨a,by rw [e],⟨vs,h1' _ _ (Pass.refl _ _)⟩,Fin.out hr1 q1 _ (zm1 h1' h2)⟩
 | _=>exact qa0 q1
end
end L3
namespace L3
open PySem PyProof.Rows
noncomputable def pLt (p q:Int×List Int):Bool:=if p.1=q.1 then HT.zcR p.2 q.2 else decide (p.1<q.1)
theorem zeJ: ∀ xs:List Int,HT.zcR xs xs=false
 | []=>rfl
 | x::r=>by rw [HT.zen,qa4 rfl,zeJ r]
section
open PySem.SeqAt
open PySem.AutoSeq1 (wpAny_loadPart')
open PySem.MeetsSeq PySem.MeetsSeq2 PySem.MeetsSeq3
def zsm (A:Around) (s:Shared) (a b:Value) (e l:Bool):Prop:=EqAt A s a b e/\(e=false-> ∀ (prog:Program) (w:World) (E Q:Value->Shared->Prop),Q (.bool l) s->wpAny (model prog w) A (richCompare .Lt a b) Q E s)
theorem zhf (l b:Addr) (a0 a1 b0 b1:Value) (n n2:Nat) (dd dd2:Option Addr) (sl sl2:Array (Option Value)) (e0 l0 e1 l1:Bool):
  Meets (Builtin.«tuple.__lt__» ⟨[.ref l,.ref b],[]⟩)
   (fun A R s=>s.heap.get? l=some {cls:= .type "tuple",dict:=dd,data:= .seq #[a0,a1] n,slots:=sl}/\s.heap.get? b=some {cls:= .type "tuple",dict:=dd2,data:= .seq #[b0,b1] n2,slots:=sl2}/\
     zsm A.in1 s a0 b0 e0 l0/\zsm A.in1 s a1 b1 e1 l1/\R (.ok (.ret (.bool (if e0=true then (if e1=true then false else l1) else l0)))) s):=
 .of_wp fun prog w A R s h=>by
  obtain ⟨hp,g,d,tk,os⟩:=s;obtain ⟨hl,hb,c0,c1,h⟩:=h
  have f2:=AutoSeq1.sub_tuple_tuple
  wp_walk using wpAny_loadPart' hl,wpAny_loadPart' hb,wpAny_forIn_list _ (fun zbs b s'=>b.1=none/\s'=⟨hp,g,d,tk,os⟩/\
    (zbs=[(a0,b0),(a1,b1)]\/(zbs=[(a1,b1)]/\e0=true)\/(zbs=[]/\e0=true/\e1=true))) _
  case turn=>
   rintro ⟨y,x⟩ zbs b s' ⟨hb',rfl,hz⟩
   rcases hz with hz | ⟨hz,z0⟩ | ⟨hz,_⟩
   ·cases hz
    refine qaW (c0.1 prog w _ _ ?_)
    cases e0 with
    | true=>
     wp_walk
     exact ⟨rfl,rfl,.inr (.inl ⟨rfl,rfl⟩)⟩
    | false=>
     have hri:=c0.2 rfl prog w
     wp_walk using hri
     exact ⟨_,rfl,by simpa using h⟩
   ·cases hz
    subst z0
    refine qaW (c1.1 prog w _ _ ?_)
    cases e1 with
    | true=>
     wp_walk
     exact ⟨rfl,rfl,.inr (.inr ⟨rfl,rfl,rfl⟩)⟩
    | false=>
     have hri:=c1.2 rfl prog w
     wp_walk using hri
     exact ⟨_,rfl,by simpa using h⟩
   ·cases hz
  case fin=>
   rintro ⟨b1',b2'⟩ s' ⟨hb',rfl,hz⟩
   simp only at hb'
   subst hb'
   rcases hz with hz | ⟨hz,_⟩ | ⟨_,z0,z1⟩
   ·cases hz
   ·cases hz
   ·subst z0 z1
    wp_walk
    exact ⟨_,rfl,by simpa [Builtin.Tuple.tupleCompareSizes] using h⟩
  case h=>
   exact ⟨rfl,rfl,.inl rfl⟩
section
variable {prog:Program} {w:World} {A:Around} {E:Value->Shared->Prop} {s:Shared}
theorem zsk {l b:Addr} {a0 a1 b0 b1:Value} {e0 l0 e1 l1:Bool} {Q:Value->Shared->Prop} (hl:IsTup s.heap l #[a0,a1]) (hb:IsTup s.heap b #[b0,b1]) (c0:zsm A.in1 s a0 b0 e0 l0) (c1:zsm A.in1 s a1 b1 e1 l1)
  (hu:A.units<cLine) (h:Q (.bool (if e0=true then (if e1=true then false else l1) else l0)) s):wpAny (model prog w) A (richCompare .Lt (.ref l) (.ref b)) Q E s:=by
 obtain ⟨⟨cls,dd,data,sl⟩,ho,hc,n,hd⟩:=id hl
 obtain ⟨⟨cls2,dd2,data2,sl2⟩,ho2,hc2,n2,hd2⟩:=id hb
 simp only at hc hd hc2 hd2
 subst hc hd hc2 hd2
 exact richCompare_meets_room (op:= .Lt) ⟨_,ho,rfl⟩ ⟨_,ho2,rfl⟩ PySem.F.slot_tuple_lt PySem.F.entry_tuple_lt (PySem.F.args_tuple_lt_2 _ _) (zhf l b a0 a1 b0 b1 n n2 dd dd2 sl sl2 e0 l0 e1 l1)
  ⟨ho,ho2,c0,c1,show Value.bool _≠Value.notImplemented/\Q (.bool _) s from ⟨(fun x=>nomatch x),h⟩⟩ hu
theorem zgv: ∀ {xs:List Value} {ns:List Int},IntsAre xs ns-> ∀ (j:Nat) (h:j<xs.length), ∃ (t:Tok) (i:Int),ns[j]? = some i/\xs[j]= .int i t
 | _,_,.nil,j,h=>by cases h
 | _,_,.cons a t r,0,_=>⟨t,a,rfl,rfl⟩
 | _,_,.cons a t r,j+1,h=>by
  obtain ⟨t',i,e1,e2⟩:=zgv r j (Nat.lt_of_succ_lt_succ h)
  exact ⟨t',i,e1,e2⟩
theorem ziL: ∀ {xs:List Value} {ns ms:List Int},IntsAre xs ns->IntsAre xs ms->ns=ms
 | _,_,_,.nil,h=>by cases h;rfl
 | _,_,_,.cons a t r,h=>by
  cases h with
  | cons _ _ r'=>rw [ziL r r']
theorem zk1 {q r:Addr} {xs ys:List Value} {ns ms:List Int} (hq:IsTup s.heap q xs.toArray) (hr:IsTup s.heap r ys.toArray) (hi:IntsAre xs ns) (hj:IntsAre ys ms) (hu:A.units<cLine):EqAt A s (.ref q) (.ref r) (ns==ms):=by
 by_cases hqr:q=r
 ·subst hqr
  obtain ⟨o,e,_,n,d⟩:=hq
  obtain ⟨o',e',_,n',d'⟩:=hr
  rw [e] at e'
  cases e'
  rw [d] at d'
  injection d' with d' _
  have:xs=ys:=by simpa using d'
  subst this
  rw [ziL hi hj]
  simpa using EqAt.same (A:=A) (s:=s) (.ref q)
 ·have l1:=hi.length
  have l2:=hj.length
  have hc:=RcAt.tuples (A:=A) (s:=s) (e:=fun j=>ns[j]? == ms[j]?) hq hr hu fun j h1 h2=>by
   have h1':j<xs.length:=by simpa using h1
   have h2':j<ys.length:=by simpa using h2
   obtain ⟨t,i,e1,e2⟩:=zgv hi j h1'
   obtain ⟨u,k,e3,e4⟩:=zgv hj j h2'
   have g1:xs.toArray[j]= .int i t:=by simpa using e2
   have g2:ys.toArray[j]= .int k u:=by simpa using e4
   rw [g1,g2,e1,e3]
   have:(some i==some k)=(i==k):=rfl
   rw [this]
   exact EqAt.int_int i t k u
  have he:((List.range (min xs.toArray.size ys.toArray.size)).all (fun j=>ns[j]? == ms[j]?) && xs.toArray.size==ys.toArray.size)=(ns==ms):=by
   rw [Bool.eq_iff_iff,qaG,List.all_eq_true,beq_iff_eq,beq_iff_eq]
   simp only [qaA,beq_iff_eq,List.mem_range]
   constructor
   ·rintro ⟨h1,h2⟩
    refine List.ext_getElem? fun j=> ?_
    by_cases hjl:j<ns.length
    ·exact h1 j (by omega)
    ·rw [List.getElem?_eq_none (by omega),List.getElem?_eq_none (by omega)]
   ·intro e
    subst e
    exact ⟨fun _ _=>rfl,by omega⟩
  rw [<- he]
  exact EqAt.of_refs hqr hc
end
def zfi (h:Heap) (v:Value) (p:Int×List Int):Prop:= ∃ (a q:Addr) (t:Tok) (its:List Value),v= .ref a/\IsTup h a #[.int p.1 t,.ref q]/\IsTup h q its.toArray/\IntsAre its p.2
theorem zfi.keep {h h':Heap} {v:Value} {p:Int×List Int} (k: ∀ b o,h.get? b=some o->h'.get? b=some o):zfi h v p->zfi h' v p:=fun ⟨a,q,t,its,e,⟨o,x1,x2⟩,⟨o',y1,y2⟩,z⟩=>⟨a,q,t,its,e,⟨o,k _ _ x1,x2⟩,⟨o',k _ _ y1,y2⟩,z⟩
theorem znm {prog:Program} {w:World} {A:Around} {E:Value->Shared->Prop} {s:Shared} {u v:Value} {p q:Int×List Int} {Q:Value->Shared->Prop} (hv:zfi s.heap v p) (hu:zfi s.heap u q) (hr:A.units+2<cLine) (h:Q (.bool (pLt p q)) s):wpAny (model prog w) A (richCompare .Lt v u) Q E s:=by
 obtain ⟨a,x,t,its,rfl,ha,hx,hi⟩:=hv
 obtain ⟨b,y,t',its',rfl,hb,hy,hj⟩:=hu
 have r1:A.in1.units<cLine:=by rw [Around.in1_units];omega
 refine zsk (e0:=(p.1==q.1)) (l0:=decide (p.1<q.1)) (e1:=(p.2==q.2)) (l1:=HT.zcR p.2 q.2) ha hb ⟨EqAt.int_int _ _ _ _,fun _ prog w E Q hq=>HT.zi1 _ _ _ _ _ _ prog w E Q hq⟩
  ⟨zk1 hx hy hi hj r1,fun _ prog w E Q hq=>HT.zjz hx hy (by simpa using hi) (by simpa using hj) r1 hq⟩ (by omega) ?_
 have e:(if (p.1==q.1)=true then (if (p.2==q.2)=true then false else HT.zcR p.2 q.2) else decide (p.1<q.1))=pLt p q:=by
  unfold pLt
  by_cases h1:p.1=q.1
  ·rw [qa4 (by simpa using h1),qa4 h1]
   by_cases h2:p.2=q.2
   ·rw [qa4 (by simpa using h2),h2,zeJ]
   ·rw [qa5 (by simpa using h2)]
  ·rw [qa5 (by simpa using h1),qa5 h1]
 rw [e]
 exact h
end
end L3
namespace L3
open PySem
section
variable {prog:Program} {w:World} {A:Around} {R:Result->Shared->Prop} {I:Addr} {fp wr:List Addr} {n:Nat} {P:Nat->Value->Prop} {St:Nat->Heap->Prop} {h0:Heap}
def zpB (prog:Program) (w:World) (A:Around) (h0:Heap) (P:Nat->Value->Prop) (bt:Nat->Nat->Bool):Prop:=
 ∀ i j vi vj (s:Shared) (Q:Value->Shared->Prop) (E:Value->Shared->Prop),(∀ b o,h0.get? b=some o->s.heap.get? b=some o)->P i vi->P j vj->Q (.bool (bt i j)) s->wpAny (model prog w) A (richCompare .Lt vi vj) Q E s
theorem zlN (W:Walks prog w A.in1 I fp wr n P St) (bt:Nat->Nat->Bool) (hcmp:zpB prog w A.in1 h0 P bt) (S:Addr) (hSf:S∉fp) (h0w: ∀ b o,h0.get? b=some o->b∉wr/\b≠S):
  ∀ (k j:Nat) (s:Shared) (vb:Value) (c:Nat),n - (j+1)=k->j+1<=n->St (j+1) s.heap->P (argBest bt j) vb->(∀ b o,h0.get? b=some o->s.heap.get? b=some o)->
  s.heap.get? S=some {cls:= .type "list",dict:=none,data:= .seq #[vb,vb] c,slots:= #[]}->
  (∀ v h' tk,P (argBest bt (n - 1)) v->(∀ b o,b∉wr->b≠S->s.heap.get? b=some o->h'.get? b=some o)->R (.ok (.ret v)) {s with heap:=h',toks:=tk})->
  codeAny (model prog w) A (.builtin "min.loop" ⟨[.ref I,.none,.ref S],[]⟩) R s:=by
 have hSw:S∉wr:=fun h=>hSf (W.sub _ h)
 have hname:(toString "min"++toString ".loop":String)="min.loop":=by decide
 intro k
 induction k with
 | zero=>
  intro j s vb c hk hj hst hPb hx hS hR
  have hin:j+1=n:=by omega
  refine codeAny_builtin F.entry_min_loop ?_
  rw [qap F.plain_min_loop _]
  show wpAny _ A.in1 (seqItems? (.ref S)>>=_) _ _ s
  refine qaW (wpAny_seqItems hS rfl ?_)
  show wpAny _ A.in1 (tryCatch (pyNext (.ref I)) _>>=_) _ _ s
  refine qaW (wpAny_tryCatch (W.done s _ _ (hin▸hst) fun h' tk hk'=> ?_))
  show wpAny _ A.in1 (updateSeq S (fun _=> #[])>>=_) _ _ _
  refine qaW (wpAny_updateSeq (hk' S _ hSw hS) rfl (qaW (wpAny_letGo (qaX ?_))))
  exact hR vb _ tk (by rw [<- hin];exact hPb) fun b o hbw hbS e=>(qah _ _ (Ne.symm hbS)).trans (hk' b o hbw e)
 | succ k ih=>
  intro j s vb c hk hj hst hPb hx hS hR
  have hlt:j+1<n:=by omega
  refine codeAny_builtin F.entry_min_loop ?_
  rw [qap F.plain_min_loop _]
  show wpAny _ A.in1 (seqItems? (.ref S)>>=_) _ _ s
  refine qaW (wpAny_seqItems hS rfl ?_)
  show wpAny _ A.in1 (tryCatch (pyNext (.ref I)) _>>=_) _ _ s
  refine qaW (wpAny_tryCatch (W.item (j+1) s _ _ hlt hst fun v h' tk hP hst' hk'=> ?_))
  have hS':=hk' S _ hSw hS
  have hx': ∀ b o,h0.get? b=some o->h'.get? b=some o:=fun b o e=>hk' b o (h0w b o e).1 (hx b o e)
  show wpAny _ A.in1 (tryCatch (holding [v,v] (richCompare .Lt v vb>>=_)) _>>=_) _ _ _
  refine qaW (wpAny_tryCatch (qaO (qaW (hcmp (j+1) (argBest bt j) v vb _ _ _ hx' hP hPb ?_))))
  refine qaW (qaO (wpAny_truthy_bool ?_))
  refine qaW (wpAny_letGo (qaX ?_))
  cases hb:bt (j+1) (argBest bt j) with
  | true=>
   simp only [if_true]
   refine qaW (wpAny_updateSeq hS' rfl (qaW (wpAny_letGo ?_)))
   rw [hname]
   refine qaX ⟨plainId_quiet F.plain_min_loop _,ih (j+1) _ v _ (by omega) hlt (W.frame _ _ _ hst' fun b hbf o e=> ?_) (by simp only [argBest,hb,if_true];exact hP) (fun b o e=> ?_) (qal _ hS' rfl)
     fun v' h'' tk'' hP' hk''=> ?_⟩
   ·exact (qah _ _ (fun h:S=b=>hSf (by rw [h];exact hbf))).trans e
   ·exact (qah _ _ (Ne.symm (h0w b o e).2)).trans (hx' b o e)
   ·exact hR v' h'' tk'' hP' fun b o hbw hbS e=>hk'' b o hbw hbS ((qah _ _ (Ne.symm hbS)).trans (hk' b o hbw e))
  | false=>
   simp only [qax,if_false]
   refine qaW (wpAny_letGo ?_)
   rw [hname]
   exact qaX ⟨plainId_quiet F.plain_min_loop _,ih (j+1) _ vb c (by omega) hlt hst' (by simp only [argBest,hb,qax,if_false];exact hPb) hx' hS' fun v' h'' tk'' hP' hk''=>
     hR v' h'' tk'' hP' fun b o hbw hbS e=>hk'' b o hbw hbS (hk' b o hbw e)⟩
end
section
variable {prog:Program} {w:World} {A:Around} {E:Value->Shared->Prop} {s:Shared}
theorem zqF {x:Value} {Q:Value->Shared->Prop}
  (h:wpAny (model prog w) A.in1 (pyIter x) (fun it s₂=> ∃ I fp wr n P St bt h0,it= .ref I/\Walks prog w A.in1 I fp wr n P St/\St 0 s₂.heap/\(∀ b∈fp,b<s₂.heap.objs.size)/\0<n/\zpB prog w A.in1 h0 P bt/\(∀ b o,h0.get? b=some o->b∉wr/\s₂.heap.get? b=some o)/\
    ∀ v h' tk,P (argBest bt (n - 1)) v->(∀ b o,b∉wr->s₂.heap.get? b=some o->h'.get? b=some o)->Q v {s₂ with heap:=h',toks:=tk}) E s):
  wpAny (model prog w) A (call (.builtin "min") [x]) Q E s:=by
 have hname:(toString "min"++toString ".loop":String)="min.loop":=by decide
 refine call_function_tree F.kind_min F.plain_min F.entry_min (F.args_min1 _) ?_
 show wpAny _ A.in1 (Builtin.Builtins.bindParams "min" ["key","default"] 0 ⟨[],[]⟩>>=_) _ _ s
 refine qaW (wpAny_of_eq (show Builtin.Builtins.bindParams "min" ["key","default"] 0 ⟨[],[]⟩=pure [none,none] from rfl) ?_)
 refine qaW (qaX ?_)
 refine qaW (qaZ h (fun it s₂ h₂=> ?_) fun _ _ e=>e)
 obtain ⟨I,fp,wr,n,P,St,bt,h0,rfl,W,hst,hfp,hn,hcmp,hx,hQ⟩:=h₂
 refine qaW (qaC ?_)
 have hSf:s₂.heap.objs.size∉fp:=fun hm=>qaN _ (hfp _ hm)
 have hSw:s₂.heap.objs.size∉wr:=fun h=>hSf (W.sub _ h)
 have h0w: ∀ b o,h0.get? b=some o->b∉wr/\b≠s₂.heap.objs.size:=fun b o e=>⟨(hx b o e).1,qaR (qaQ (hx b o e).2)⟩
 rw [hname]
 refine qaX ⟨plainId_quiet F.plain_min_loop _,?_⟩
 refine codeAny_builtin F.entry_min_loop ?_
 rw [qap F.plain_min_loop _]
 show wpAny _ A.in1 (seqItems? (.ref s₂.heap.objs.size)>>=_) _ _ _
 refine qaW (wpAny_seqItems (qar _ rfl) rfl ?_)
 show wpAny _ A.in1 (tryCatch (pyNext (.ref I)) _>>=_) _ _ _
 refine qaW (wpAny_tryCatch (W.item 0 _ _ _ hn (W.frame _ _ _ hst fun b _ o e=>qag _ e) fun v h' tk hP hst' hk'=> ?_))
 have hS':=hk' s₂.heap.objs.size _ hSw (qar _ rfl)
 show wpAny _ A.in1 (updateSeq s₂.heap.objs.size (fun _=> #[v,v])>>=_) _ _ _
 refine qaW (wpAny_updateSeq hS' rfl ?_)
 rw [hname]
 refine qaX ⟨plainId_quiet F.plain_min_loop _,zlN W bt hcmp s₂.heap.objs.size hSf h0w _ 0 _ v _ rfl hn (W.frame _ _ _ hst' fun b hbf o e=> ?_) hP (fun b o e=> ?_) (qal _ hS' rfl) fun v' h'' tk'' hP' hk''=> ?_⟩
 ·exact (qah _ _ (fun h:s₂.heap.objs.size=b=>hSf (by rw [h];exact hbf))).trans e
 ·exact (qah _ _ (Ne.symm (h0w b o e).2)).trans (hk' b o (h0w b o e).1 (qag _ (hx b o e).2))
 ·exact hQ v' h'' tk'' hP' fun b o hbw e=>hk'' b o hbw (qaR (qaQ e)) ((qah _ _ (Ne.symm (qaR (qaQ e)))).trans (hk' b o hbw (qag _ e)))
theorem zmD {l:Addr} {items:Array Value} {bt:Nat->Nat->Bool} {Q:Value->Shared->Prop} (hh:zjX A s.heap) (hl:s.heap.IsList l items) (hn:0<items.size) (hc:zpB prog w A.in1 s.heap (fun i v=>items[i]? = some v) bt)
  (k: ∀ v h' tk,items[argBest bt (items.size - 1)]? = some v->(∀ b o,s.heap.get? b=some o->h'.get? b=some o)->Q v {s with heap:=h',toks:=tk}):wpAny (model prog w) A (call (.builtin "min") [.ref l]) Q E s:=by
 have hlt:l<s.heap.objs.size:=by obtain ⟨_,e,_⟩:=hl;exact qaQ e
 have hlI:l≠s.heap.objs.size:=qaR hlt
 refine zqF (wpAny_pyIter_list hl ?_)
 have hfp: ∀ b∈[s.heap.objs.size,l],b<(s.heap.push {cls:= .type "list_iterator",data:= .fields #[.ref l,.int 0 0]}).objs.size:=fun b hb=>by
  rw [qaL]
  simp only [qaP,qaF,or_false] at hb
  rcases hb with rfl | rfl
  ·exact Nat.lt_succ_self _
  ·exact Nat.lt_succ_of_lt hlt
 have st1:(s.heap.push {cls:= .type "list_iterator",data:= .fields #[.ref l,.int 0 0]}).IsListIter s.heap.objs.size l 0:=⟨_,qar _ rfl,rfl,rfl⟩
 have hx: ∀ b o,s.heap.get? b=some o->b∉[s.heap.objs.size]/\(s.heap.push {cls:= .type "list_iterator",data:= .fields #[.ref l,.int 0 0]}).get? b=some o:=fun b o e=>
  ⟨fun hm=>qaN _ (by simp only [qaP,qaF,or_false] at hm;exact hm▸qaQ e),qag _ e⟩
 rcases hh with hh | ⟨ha,cls,head,hh,hX⟩
 ·exact ⟨_,_,_,_,_,_,bt,s.heap,rfl,Walks.list (A:=A.in1) hh _ l hlI items,⟨st1,hl.push _⟩,hfp,hn,hc,hx,fun v h' tk hv hk=>k v h' tk hv fun b o e=>hk b o (hx b o e).1 (hx b o e).2⟩
 ·obtain ⟨ob,vs,x1,x2⟩:=id hX
  have hX2:=hX.keep (h':=s.heap.push {cls:= .type "list_iterator",data:= .fields #[.ref l,.int 0 0]}) fun o e=>qag _ e
  refine ⟨_,_,_,_,_,_,bt,s.heap,rfl,zji (A:=A.in1) (ha:=ha) (cls:=cls) (head:=head) hh _ l hlI (qaR (qaQ x1)) items,⟨st1,hl.push _,hX2⟩,fun b hb=> ?_,hn,hc,hx,fun v h' tk hv hk=>k v h' tk hv fun b o e=>hk b o (hx b o e).1 (hx b o e).2⟩
  simp only [qaP,qaF,or_false] at hb
  rcases hb with z | z | z
  ·exact hfp b (by simp [z])
  ·exact hfp b (by simp [z])
  ·rw [z]
   show ha<(s.heap.push _).objs.size
   rw [qaL]
   exact Nat.lt_succ_of_lt (qaQ x1)
end
end L3
namespace L2
open PySem PySem.Spec PyProof.Rows L3
section
variable {X:Cx}
def znr (K:W.Frag) (H:Hp) (v:V) (p:Int×List Int):Prop:= ∃ a q,v= .ref a/\SqT K H a [.int p.1,.ref q]/\SqT K H q (p.2.map V.int)
theorem zkr {pins:List (Addr×Obj)} {σ:St} {H:Hp} {s:Shared} (I:Inv X pins σ H s) {v:V} {u:Value} {p:Int×List Int} (h:znr X.K H v p) (r:zb1 v u):zfi s.heap u p:=by
 obtain ⟨a,q,rfl,h1,h2⟩:=h
 cases r
 obtain ⟨its,r1,p1,_⟩:=I.tuple h1
 obtain ⟨its2,r2,p2,_⟩:=I.tuple h2
 obtain ⟨u1,u2,rfl,e1,e2⟩:=zpb r1
 obtain ⟨t,rfl⟩:=e1
 cases e2
 exact ⟨a,q,t,its2,rfl,p1,p2,zb5 r2⟩
theorem zlU (hu:X.A.units+60<cLine):zaM X (.builtin "min") (fun xs H Q=> ∃ (a:Addr) (vs:List V) (ps:List (Int×List Int)),xs=[.ref a]/\SqL X.K H a vs/\ps.length=vs.length/\0<vs.length/\(∀ (i:Nat) v p,vs[i]? = some v->ps[i]? = some p->znr X.K H v p)/\
    ∀ v,vs[argBest (fun i j=>pLt (ps.getD i (0,[])) (ps.getD j (0,[]))) (ps.length - 1)]? = some v->Q v H):=by
 intro pins s σ H xs us Q I r h
 obtain ⟨a,vs,ps,rfl,hq,hlen,hpos,hp,q⟩:=h
 obtain ⟨u,rfl,rx⟩:=zez r
 cases rx
 obtain ⟨its,r',pl,hz⟩:=I.list hq
 have hlen':=r'.length
 have back: ∀ (i:Nat) u,its.toArray[i]? = some u-> ∃ v,vs[i]? = some v/\zb1 v u:=fun i u e=>by
  have e':its[i]? = some u:=by simpa using e
  have hi:i<vs.length:=by have:=(qac.mp e').1;omega
  obtain ⟨u',hu',ru⟩:=r'.get (x:=vs[i]) (i:=i) (by simp [hi])
  rw [e'] at hu'
  cases hu'
  exact ⟨vs[i],by simp [hi],ru⟩
 have key: ∀ (i:Nat) u,its.toArray[i]? = some u->zfi s.heap u (ps.getD i (0,[])):=fun i u e=>by
  obtain ⟨v,ev,ru⟩:=back i u e
  have hi:i<ps.length:=by have:=(qac.mp ev).1;omega
  refine zkr I (hp i v _ ev ?_) ru
  simp [List.getD,hi]
 refine L3.zmD I.hand pl.isList (by simp;omega) (bt:=fun i j=>pLt (ps.getD i (0,[])) (ps.getD j (0,[]))) (fun i j vi vj s' Q E hk hi hj hQ=>znm ((key i vi hi).keep hk) ((key j vj hj).keep hk) (by rw [Around.in1_units];omega) hQ) fun v h' tk hv hk=> ?_
 have hs:its.toArray.size - 1=ps.length - 1:=by simp;omega
 rw [hs] at hv
 obtain ⟨v0,ev,ru⟩:=back _ _ hv
 exact ⟨v0,H,I.grown (s':={s with heap:=h',toks:=tk}) rfl rfl hk,ru,q v0 ev⟩
end
end L2
namespace L3
open PySem PySem.Spec PyProof.Rows L2
section
variable {X:Cx} {E:XE}
noncomputable def zhj:D->Option (Int×List Int)
 | .tup [.int i,.tup ds]=>(zd5 ds).map fun ns=>(i,ns)
 | _=>none
noncomputable def zd4:List D->Option (List (Int×List Int))
 | []=>some []
 | d::r=>(zhj d).bind fun p=>(zd4 r).map fun ps=>p::ps
noncomputable def zec (ps:List (Int×List Int)):Nat:=argBest (fun i j=>pLt (ps.getD i (0,[])) (ps.getD j (0,[]))) (ps.length - 1)
noncomputable def zpU:List D->M D:=zmW fun d=>do
 let ds<-zj0 d
 let ps<-ofO (match d with | .tup _=>none | _=>zd4 ds)
 ofO (ds[zec ps]?)
theorem zjW {K:W.Frag} {ι:Io} {H:Hp} {d:D} {v:V} {p:Int×List Int} (r:Rel K ι H d v) (e:zhj d=some p):znr K H v p:=by
 unfold zhj at e
 split at e
 ·rename_i i ds
  cases z:zd5 ds with
  | none=>rw [z] at e;cases e
  | some ns=>
   rw [z] at e
   cases e
   obtain ⟨a,vs,rfl,h1,h2⟩:=zc0 r
   simp only [zar] at h2
   obtain ⟨v1,r1,rfl,g1,v2,r2,rfl,g2,rfl⟩:=h2
   simp only [Rel] at g1
   subst g1
   obtain ⟨q,ws,rfl,k1,k2⟩:=zc0 g2
   have:=zdd k2 z
   subst this
   exact ⟨a,q,rfl,h1,k1⟩
 ·cases e
theorem zf0 {K:W.Frag} {ι:Io} {H:Hp}: ∀ {ds:List D} {vs:List V} {ps:List (Int×List Int)},zar K ι H ds vs->zd4 ds=some ps->ps.length=vs.length/\ ∀ (i:Nat) v p,vs[i]? = some v->ps[i]? = some p->znr K H v p
 | [],vs,ps,h,e=>by
  simp only [zar] at h
  subst h
  cases e
  exact ⟨rfl,fun i v p e1=>by simp at e1⟩
 | d::r,vs,ps,h,e=>by
  simp only [zar] at h
  obtain ⟨v,r',rfl,h1,h2⟩:=h
  unfold zd4 at e
  cases z:zhj d with
  | none=>rw [z] at e;cases e
  | some p=>
   rw [z] at e
   cases z2:zd4 r with
   | none=>rw [z2] at e;cases e
   | some qs=>
    rw [z2] at e
    cases e
    obtain ⟨g1,g2⟩:=zf0 h2 z2
    refine ⟨by simp [g1],fun i v' p' e1 e2=> ?_⟩
    cases i with
    | zero=>
     simp at e1 e2
     subst e1 e2
     exact zjW h1 z
    | succ i=>
     simp at e1 e2
     exact g2 i v' p' e1 e2
theorem zjn (hu:X.A.units+60<cLine):zaM X (.builtin "min") (zhX X.K E zpU):=by
 refine zaM.imp (zlU hu) fun xs H Q ⟨ι,h,ds,rl,hr,q⟩=> ?_
 obtain ⟨d,v,e,r,q⟩:=zcl rl q
 obtain ⟨a,vs,ds',e',hs,rl',q⟩:=zcn hr r q
 obtain ⟨ps,ep,q⟩:=Fin.ofOb q
 obtain ⟨x,ex⟩: ∃ x,ds'[zec ps]? = some x:=by
  cases ex:ds'[zec ps]? with
  | none=>rw [ex] at q;exact qa0 q
  | some x=>exact ⟨x,rfl⟩
 rw [ex] at q
 rcases hs with ⟨hs,hd⟩ | ⟨hs,hd⟩
 ·have ep':zd4 ds'=some ps:=by
   cases d with
   | tup ts=>exact absurd rfl (hd ts)
   | _=>exact ep
  obtain ⟨g1,g2⟩:=zf0 rl' ep'
  have hlt:=(qac.mp ex).1
  have hl:=rl'.length
  refine ⟨a,vs,ps,by rw [e,e'],hs,g1,by omega,g2,fun v0 ev=> ?_⟩
  obtain ⟨w,ew,rw'⟩:=zar.get rl' ex
  have ev':vs[zec ps]? = some v0:=ev
  rw [ew] at ev'
  cases ev'
  exact Fin.out hr q _ rw'
 ·subst hd
  cases ep
noncomputable def zsq:FS:=fun _=>M.bad
theorem zot {st:Stmt}:SS X E st zsq:=fun pins s σ H D I h=>by
 obtain ⟨ι,h,sd,L,hh,q⟩:=h
 exact qa0 q
end
section
variable {X:Cx} {E:XE}
noncomputable def zkR:List D->M D:=zmW fun d=>do let ds<-zj0 d;zdD ds
theorem zjm:zaM X (.type "list") (zhX X.K E zkR):=by
 refine zaM.imp zeq fun xs H Q ⟨ι,h,ds,rl,hr,q⟩=> ?_
 obtain ⟨d,v,e,r,q⟩:=zcl rl q
 obtain ⟨a,vs,ds',e',hs,rl',q⟩:=zcn hr r q
 exact ⟨a,vs,by rw [e,e'],zjp hs,fun l hl=>ztZ hr rl' q hl⟩
noncomputable def zsp (d:D):M Bool:=do let ds<-zj0 d;pure (!ds.isEmpty)
noncomputable def zn7 (f:FE):FT:=fun sd=>do let d<-f sd;zsp d
theorem znz {e:Expr} {f:FE} (h:SE X E e f) (he: ∀ whole,isTrue e X.env whole=(do let v<-whole;standAt e.pos;holding [v] (truthy v)):=by intro _;rfl):ST X E e (zn7 f):=by
 refine PT.imp (zmK h he) fun σ H Q ⟨ι,h,sd,L,hh,q⟩=>⟨ι,h,sd,L,hh,Fin.bind q fun d h1 ι1 H1 e1 s1 hr1 q1 v rv=> ?_⟩
 obtain ⟨a,vs,ds',e',hs,rl',q2⟩:=zcn hr1 rv q1
 have hl:=rl'.length
 have ee:(!ds'.isEmpty)= !vs.isEmpty:=by
  cases ds' with
  | nil=>
   cases vs with
   | nil=>rfl
   | cons _ _=>simp at hl
  | cons _ _=>
   cases vs with
   | nil=>simp at hl
   | cons _ _=>rfl
 rw [ee] at q2
 refine ⟨!vs.isEmpty,?_,Fin.out hr1 q2⟩
 rw [e']
 rcases zjp hs with z | z
 ·exact .inl ⟨vs,z,rfl⟩
 ·exact .inr (.inl ⟨vs,z,rfl⟩)
end
end L3
section
namespace TS
set_option autoImplicit false
open PySem PyProof PyProof.Rows
noncomputable abbrev Ga:Bool->Keyed->Array Keyed->Nat->Nat->Nat->StateT SortSt Sem (Option Nat):=sortPriv% PySem.Builtin.gallop
noncomputable abbrev Lt:Keyed->Keyed->StateT SortSt Sem (Option Bool):=sortPriv% PySem.Builtin.lt
noncomputable abbrev El:Array Keyed->Nat->StateT SortSt Sem Keyed:=sortPriv% PySem.Builtin.elem
structure Cx where
 prog:Program
 w:World
 A:Around
 E:Value->Shared->Prop
 s:Shared
 kd:SortKind
 O:KeyOrd
 ky:Value->O.α
 ok:Value->Prop
 cmp: ∀ (E':Value->Shared->Prop) (x y:Value) (Q:Bool->Shared->Prop),ok x->ok y->Q (O.blt (ky x) (ky y)) s->wpAny (model prog w) A (keyLt' kd x y) Q E' s
noncomputable abbrev Cx.wp (c:Cx) {α:Type} (m:StateT SortSt Sem α) (Q:α->SortSt->Prop) (st:SortSt):Prop:=wpS (model c.prog c.w) c.A c.E c.s m Q st
noncomputable def Cx.lt (c:Cx) (x y:Keyed):Bool:=c.O.blt (c.ky x.1) (c.ky y.1)
def Cx.le (c:Cx) (x y:Keyed):Prop:=c.lt y x=false
section
variable {c:Cx}
theorem Cx.le_refl (x:Keyed):c.le x x:=c.O.irrefl _
theorem Cx.le_of_lt {x y:Keyed} (h:c.lt x y=true):c.le x y:=KeyOrd.klt_asymm (O:=c.O) h
theorem Cx.le_trans {x y z:Keyed} (h:c.le x y) (h2:c.le y z):c.le x z:=KeyOrd.kle_trans (O:=c.O) h h2
end
end TS
end
section
namespace TS
set_option autoImplicit false
open PySem PyProof PyProof.Rows
noncomputable abbrev Sg:Nat->StateT SortSt Sem Unit:=sortPriv% PySem.Builtin.setMinGallop
structure Sm (st st':SortSt):Prop where
 k:kindOf st'=kindOf st
 a:arrOf st'=arrOf st
 p:pendingOf st'=pendingOf st
 f:failedOf st'=failedOf st
theorem Sm.refl (st:SortSt):Sm st st:=⟨rfl,rfl,rfl,rfl⟩
theorem Sm.g {st st':SortSt} (h:Sm st st') (n:Nat):Sm st (SortSt.mk' (kindOf st') (arrOf st') (pendingOf st') n (failedOf st')):=⟨h.k,h.a,h.p,h.f⟩
structure Mg (r:Keyed->Keyed->Prop) (O L R T:List Keyed):Prop where
 s:O.Pairwise r
 l: ∀ x,x∈O-> ∀ y,y∈L->r x y
 r: ∀ x,x∈O-> ∀ y,y∈R->r x y
 p:(O++(L++R)).Perm T
section
variable {r:Keyed->Keyed->Prop} {O L R T X:List Keyed}
theorem Mg.symm (h:Mg r O L R T):Mg r O R L T:=⟨h.s,h.r,h.l,(List.Perm.append_left O List.perm_append_comm).trans h.p⟩
theorem Mg.fin (h:Mg r O L R T) (hs:(L++R).Pairwise r):(O++(L++R)).Pairwise r/\(O++(L++R)).Perm T:=by
 refine ⟨?_,h.p⟩
 rw [qaq]
 refine ⟨h.s,hs,fun x hx y hy=> ?_⟩
 rcases qaK.mp hy with hy | hy
 ·exact h.l x hx y hy
 ·exact h.r x hx y hy
end
section
variable {c:Cx}
def srt (c:Cx) (a:Array Keyed):Prop:=a.toList.Pairwise c.le
def okA (c:Cx) (a:Array Keyed):Prop:= ∀ x,x∈a.toList->c.ok x.1
structure MgA (c:Cx) (a b out:Array Keyed) (ia ib:Nat):Prop where
 m:Mg c.le out.toList (a.toList.drop ia) (b.toList.drop ib) (a.toList++b.toList)
 z:out.size=ia+ib
 la:ia<=a.size
 lb:ib<=b.size
def Fi (c:Cx) (a b res:Array Keyed):Prop:=srt c res/\res.toList.Perm (a.toList++b.toList)
variable {a b out:Array Keyed} {ia ib k:Nat}
theorem MgA.done (h:MgA c a b out ia ib) (ha:srt c a) (hb:srt c b) (he:ia=a.size\/ib=b.size):Fi c a b (out++a.extract ia++b.extract ib):=by
 have e:(out++a.extract ia++b.extract ib).toList=out.toList++(a.toList.drop ia++b.toList.drop ib):=by
  simp [List.extract,List.take_of_length_le]
 have hs:(a.toList.drop ia++b.toList.drop ib).Pairwise c.le:=by
  rcases he with he | he
  ·rw [List.drop_eq_nil_of_le (by simp [he]),List.nil_append]
   exact List.Pairwise.sublist (List.drop_sublist _ _) hb
  ·rw [List.drop_eq_nil_of_le (as:=b.toList) (by simp [he]),List.append_nil]
   exact List.Pairwise.sublist (List.drop_sublist _ _) ha
 obtain ⟨h1,h2⟩:=h.m.fin hs
 exact ⟨by unfold srt;rw [e];exact h1,by rw [e];exact h2⟩
theorem MgA.last (h:MgA c a b out ia ib) (_ha:srt c a) (hb:srt c b) (he:ia+1=a.size) (hl: ∀ x,a[ia]? = some x-> ∀ y,y∈b.toList->c.le y x):Fi c a b (out++b.extract ib++a.extract ia):=by
 have e:(out++b.extract ib++a.extract ia).toList=out.toList++(b.toList.drop ib++a.toList.drop ia):=by
  simp [List.extract,List.take_of_length_le]
 have ed:a.toList.drop ia=[a[ia]]:=by
  rw [qae (by simp;omega),List.drop_eq_nil_of_le (by simp;omega)]
  simp
 have hs:(b.toList.drop ib++a.toList.drop ia).Pairwise c.le:=by
  rw [ed,qaq]
  refine ⟨List.Pairwise.sublist (List.drop_sublist _ _) hb,List.pairwise_singleton _ _,?_⟩
  intro x hx y hy
  rw [List.mem_singleton.mp hy]
  exact hl _ (getElem?_pos a ia (by omega)) x (List.mem_of_mem_drop hx)
 obtain ⟨h1,h2⟩:=h.m.symm.fin hs
 exact ⟨by unfold srt;rw [e];exact h1,by rw [e];exact h2⟩
end
end TS
end
section
namespace TS
set_option autoImplicit false
open PySem PyProof PyProof.Rows
section
variable {c:Cx} {a b:Array Keyed}
theorem zkY {α:Type} {p:Prop} [Decidable p] {x y:StateT SortSt Sem α} {Q:α->SortSt->Prop} {st:SortSt} (h1:p->c.wp x Q st) (h2: ¬p->c.wp y Q st):c.wp (if p then x else y) Q st:=by
 by_cases h:p
 ·rw [qa4 h];exact h1 h
 ·rw [qa5 h];exact h2 h
noncomputable abbrev StL:=ForInStep (Option (Array Keyed)×Array Keyed×Nat×Nat×Nat×Nat×Nat)
structure Ex (c:Cx) (a b:Array Keyed) (N:Nat) (Q:StL->SortSt->Prop) (st:SortSt):Prop where
 d1: ∀ res t,Fi c a b res->Q (.done (some res,t)) st
 d2: ∀ o i j t,MgA c a b o i j->i+1<a.size->j<b.size->N<=o.size->Q (.done (none,o,i,j,t)) st/\Q (.yield (none,o,i,j,t)) st
 hl: ∀ (o:Array Keyed) (i j:Nat),MgA c a b o i j->i+1=a.size->Fi c a b (o++b.extract j++a.extract i)
 ha:srt c a
 hb:srt c b
 oa:okA c a
 ob:okA c b
 hk:kindOf st=c.kd
section
variable {N:Nat} {Q:StL->SortSt->Prop} {st:SortSt} {o:Array Keyed} {i j g k l u v:Nat}
end
theorem zsE {β:Type} {n:Nat} {x:β} {f f':Nat->β->StateT SortSt Sem (ForInStep β)} (h: ∀ i r,f i r=f' i r):forIn [0:n] x f=forIn [0:n] x f':=by
 rw [show f=f' from funext fun i=>funext (h i)]
end
end TS
end
section
namespace TS
set_option autoImplicit false
open PySem PyProof PyProof.Rows
section
variable {c:Cx} {a b out:Array Keyed} {na nb at':Nat}
structure MgH (c:Cx) (a b out:Array Keyed) (na nb:Nat):Prop where
 m:Mg (fun x y=>c.le y x) out.toList (a.toList.take na).reverse (b.toList.take nb).reverse (a.toList++b.toList)
 z:out.size+na+nb=a.size+b.size
 la:na<=a.size
 lb:nb<=b.size
theorem zk7 {l:Array Keyed} (n:Nat) (h:srt c l):((l.toList.take n).reverse).Pairwise (fun x y=>c.le y x):=by
 rw [List.pairwise_reverse]
 exact List.Pairwise.sublist (List.take_sublist _ _) h
theorem zl6 {r:List Keyed} {O L R T:List Keyed} (h:Mg (fun x y=>c.le y x) O L R T) (hs:(L++R).Pairwise (fun x y=>c.le y x)) (e:r=(O++(L++R)).reverse):r.Pairwise c.le/\r.Perm T:=by
 obtain ⟨h1,h2⟩:=h.fin hs
 subst e
 exact ⟨by rw [List.pairwise_reverse];exact h1,(List.reverse_perm _).trans h2⟩
theorem MgH.done (h:MgH c a b out na nb) (ha:srt c a) (hb:srt c b) (he:na=0\/nb=0):Fi c a b (a.extract 0 na++b.extract 0 nb++out.reverse):=by
 have hs:((b.toList.take nb).reverse++(a.toList.take na).reverse).Pairwise (fun x y=>c.le y x):=by
  rcases he with he | he
  ·subst he;simpa using zk7 nb hb
  ·subst he;simpa using zk7 na ha
 exact zl6 h.m.symm hs (by simp [List.extract])
theorem MgH.first (h:MgH c a b out na nb) (ha:srt c a) (_hb:srt c b) (he:nb=1) (hl: ∀ y,b[0]? = some y-> ∀ x,x∈a.toList->c.le y x):Fi c a b (b.extract 0 nb++a.extract 0 na++out.reverse):=by
 subst he
 have hlb:=h.lb
 have ed:b.toList.take 1=[b[0]]:=by
  obtain ⟨l⟩:=b
  cases l with
  | nil=>simp at hlb
  | cons x l=>simp
 have hs:((a.toList.take na).reverse++(b.toList.take 1).reverse).Pairwise (fun x y=>c.le y x):=by
  rw [ed,qaq]
  refine ⟨zk7 na ha,List.pairwise_singleton _ _,?_⟩
  intro x hx y hy
  rw [List.mem_singleton.mp hy]
  exact hl _ (getElem?_pos b 0 (by omega)) x (List.mem_of_mem_take (List.mem_reverse.mp hx))
 exact zl6 h.m hs (by simp [List.extract])
noncomputable abbrev H5:=Option (Array Keyed)×Nat×Nat×Array Keyed×Nat
noncomputable abbrev H6:=Option (Array Keyed)×Nat×Nat×Array Keyed×Nat×Nat
noncomputable abbrev H7:=Option (Array Keyed)×Nat×Nat×Array Keyed×Nat×Nat×Nat
def Hi (c:Cx) (a b:Array Keyed) (N:Nat) (p q:Nat) (o:Array Keyed):Prop:=MgH c a b o p q/\0<p/\1<q/\N<=o.size
structure Ey (c:Cx) (a b:Array Keyed) (N:Nat) (Q:ForInStep H7->SortSt->Prop) (st:SortSt):Prop where
 d1: ∀ res t,Fi c a b res->Q (.done (some res,t)) st
 d2: ∀ p q o t,Hi c a b N p q o->Q (.done (none,p,q,o,t)) st/\Q (.yield (none,p,q,o,t)) st
 hl: ∀ (o:Array Keyed) (i j:Nat),MgH c a b o i j->j=1->Fi c a b (b.extract 0 j++a.extract 0 i++o.reverse)
 ha:srt c a
 hb:srt c b
 oa:okA c a
 ob:okA c b
 hk:kindOf st=c.kd
noncomputable def U4 (a b:Array Keyed) (p q:Nat) (o:Array Keyed) (g k l:Nat):StateT SortSt Sem (ForInStep H7):=El a (p - 1)>>=fun z=>
 if (p - 1==0)=true then pure (.done (some (a.extract 0 (p - 1)++b.extract 0 q++(o.push z).reverse),p - 1,q,o.push z,g,k,l))
 else if (decide (k<7) && decide (l<7))=true then pure (.done (none,p - 1,q,o.push z,g,k,l)) else pure (.yield (none,p - 1,q,o.push z,g,k,l))
noncomputable def U3 (a b:Array Keyed) (p q:Nat) (o:Array Keyed) (g k v:Nat):StateT SortSt Sem (ForInStep H7):=El b (q - 1)>>=fun y=>
 if (q - 1==1)=true then pure (.done (some (b.extract 0 (q - 1)++a.extract 0 p++(o.push y).reverse),p,q - 1,o.push y,g,k,v))
 else El a (p - 1)>>=fun z=>Ga true z b 0 (q - 1) (q - 1 - 1)>>=fun x=>match x with
  | some l=>if q - 1 - l>0 then
    if (l==1)=true then pure (.done (some (b.extract 0 l++a.extract 0 p++(o.push y++(b.extract l (q - 1)).reverse).reverse),p,l,o.push y++(b.extract l (q - 1)).reverse,g,k,q - 1 - l))
    else if (l==0)=true then pure (.done (some (a.extract 0 p++b.extract 0 l++(o.push y++(b.extract l (q - 1)).reverse).reverse),p,l,o.push y++(b.extract l (q - 1)).reverse,g,k,q - 1 - l))
    else U4 a b p l (o.push y++(b.extract l (q - 1)).reverse) g k (q - 1 - l)
   else U4 a b p (q - 1) (o.push y) g k (q - 1 - l)
  | _=>pure (.done (some (a.extract 0 p++b.extract 0 (q - 1)++(o.push y).reverse),p,q - 1,o.push y,g,k,v))
noncomputable def U2 (a b:Array Keyed) (p q:Nat) (o:Array Keyed) (g u v:Nat):StateT SortSt Sem (ForInStep H7):=El b (q - 1)>>=fun y=>Ga false y a 0 p (p - 1)>>=fun x=>match x with
  | some k=>if p - k>0 then
    if (k==0)=true then pure (.done (some (a.extract 0 k++b.extract 0 q++(o++(a.extract k p).reverse).reverse),k,q,o++(a.extract k p).reverse,g,p - k,v))
    else U3 a b k q (o++(a.extract k p).reverse) g (p - k) v
   else U3 a b p q o g (p - k) v
  | _=>pure (.done (some (a.extract 0 p++b.extract 0 q++o.reverse),p,q,o,g,u,v))
noncomputable def Z1 (a b:Array Keyed) (g:Nat) (p q:Nat) (o:Array Keyed) (u v:Nat):StateT SortSt Sem (ForInStep H6):=El b (q - 1)>>=fun y=>El a (p - 1)>>=fun z=>Lt y z>>=fun x=>match x with
 | some w=>if w=true then El a (p - 1)>>=fun z=>if (p - 1==0)=true then pure (.done (some (a.extract 0 (p - 1)++b.extract 0 q++(o.push z).reverse),p - 1,q,o.push z,u+1,0)) else if u+1>=g then pure (.done (none,p - 1,q,o.push z,u+1,0)) else pure (.yield (none,p - 1,q,o.push z,u+1,0))
  else El b (q - 1)>>=fun y=>if (q - 1==1)=true then pure (.done (some (b.extract 0 (q - 1)++a.extract 0 p++(o.push y).reverse),p,q - 1,o.push y,0,v+1)) else if v+1>=g then pure (.done (none,p,q - 1,o.push y,0,v+1)) else pure (.yield (none,p,q - 1,o.push y,0,v+1))
 | _=>pure (.done (some (a.extract 0 p++b.extract 0 q++o.reverse),p,q,o,u,v))
noncomputable def Z2 (a b:Array Keyed) (p q:Nat) (o:Array Keyed) (g u v:Nat):StateT SortSt Sem (ForInStep H7):=
 if g>1 then Sg (g - 1)>>=fun _=>U2 a b p q o (g - 1) u v else Sg g>>=fun _=>U2 a b p q o g u v
section
variable {N:Nat} {Q:ForInStep H7->SortSt->Prop} {st:SortSt} {o:Array Keyed} {p q g k l u v:Nat}
end
end
end TS
end
section
namespace TS
set_option autoImplicit false
open PySem PyProof PyProof.Rows
structure Loc (xs ys:Array Keyed) (lo hi:Nat):Prop where
 p:ys.toList.Perm xs.toList
 o: ∀ i,i<lo\/hi<=i->ys[i]? = xs[i]?
theorem Loc.refl (xs:Array Keyed) (lo hi:Nat):Loc xs xs lo hi:=⟨List.Perm.refl _,fun _ _=>rfl⟩
theorem Loc.trans {xs ys zs:Array Keyed} {lo hi:Nat} (h:Loc xs ys lo hi) (h2:Loc ys zs lo hi):Loc xs zs lo hi:=⟨h2.p.trans h.p,fun i hi=>(h2.o i hi).trans (h.o i hi)⟩
theorem Loc.size {xs ys:Array Keyed} {lo hi:Nat} (h:Loc xs ys lo hi):ys.size=xs.size:=by simpa using h.p.length_eq
section
variable {c:Cx}
def sg (c:Cx) (xs:Array Keyed) (lo hi:Nat):Prop:= ∀ i j x y,lo<=i->i<=j->j<hi->xs[i]? = some x->xs[j]? = some y->c.le x y
end
end TS
end
section
namespace TS
set_option autoImplicit false
open PySem PyProof PyProof.Rows
noncomputable abbrev CR:Nat->Nat->StateT SortSt Sem (Option Nat):=sortPriv% PySem.Builtin.countRun
structure St (c:Cx) (a0:Array Keyed) (p0:Array (Nat×Nat×Nat)) (lo hi:Nat) (st:SortSt):Prop where
 k:kindOf st=c.kd
 f:failedOf st=none
 p:pendingOf st=p0
 l:Loc a0 (arrOf st) lo hi
section
variable {c:Cx} {a0:Array Keyed} {p0:Array (Nat×Nat×Nat)} {lo hi:Nat}
noncomputable def KV (c:Cx) (xs:Array Keyed) (i:Nat):c.O.α:=c.ky (xs[i]?.getD (.none,.none)).1
def up (c:Cx) (xs:Array Keyed) (lo hi:Nat):Prop:= ∀ i j,lo<=i->i<=j->j<hi->c.O.kle (KV c xs i) (KV c xs j)
def ek (c:Cx) (xs:Array Keyed) (lo hi:Nat):Prop:= ∀ i,lo<=i->i<hi->KV c xs i=KV c xs (hi - 1)
theorem St.set {st:SortSt} {xs:Array Keyed} (h:St c a0 p0 lo hi st) (hl:Loc (arrOf st) xs lo hi):St c a0 p0 lo hi (setArr st xs):=⟨h.k,h.f,h.p,h.l.trans hl⟩
theorem St.ok {st:SortSt} (h:St c a0 p0 lo hi st) (ho:okA c a0):okA c (arrOf st):=fun x hx=>ho x (h.l.p.mem_iff.mp hx)
end
end TS
end
section
namespace TS
set_option autoImplicit false
open PySem PyProof PyProof.Rows
section
variable {c:Cx}
noncomputable def chn (c:Cx) (xs:Array Keyed):List (Nat×Nat×Nat)->Nat->Nat->Prop
 | [],a,b=>a=b
 | t::r,a,b=>t.1=a/\0<t.2.1/\sg c xs a (a+t.2.1)/\chn c xs r (a+t.2.1) b
structure Rn (c:Cx) (a0:Array Keyed) (lo:Nat) (st:SortSt):Prop where
 k:kindOf st=c.kd
 f:failedOf st=none
 p:(arrOf st).toList.Perm a0.toList
 h:chn c (arrOf st) (pendingOf st).toList 0 lo
theorem Rn.size {a0:Array Keyed} {lo:Nat} {st:SortSt} (h:Rn c a0 lo st):(arrOf st).size=a0.size:=by simpa using h.p.length_eq
theorem Rn.ok {a0:Array Keyed} {lo:Nat} {st:SortSt} (h:Rn c a0 lo st) (ho:okA c a0):okA c (arrOf st):=fun x hx=>ho x (h.p.mem_iff.mp hx)
end
end TS
end
section
namespace TS
set_option autoImplicit false
open PySem PyProof PyProof.Rows
noncomputable def h6 (h:Heap) (a:Addr) (vs:List Value):Heap:=((h.update a (Obj.mapSeq fun _=> #[])).push (seqObj "tuple" vs.toArray 0)).push (seqObj "list" #[] 0)
def Srt (prog:Program) (w:World) (A:Around) (vs:List Value) (s1:Shared) (kd:SortKind) (O:KeyOrd) (ky:Value->O.α) (ok:Value->Prop):Prop:=
 (∀ v,v∈vs->ok v)/\ ∀ s2:Shared,(∀ b o,s1.heap.get? b=some o->s2.heap.get? b=some o)->
  (2<=vs.length-> ∀ (E:Value->Shared->Prop) (Q:SortKind->Shared->Prop),Q kd s2->wpAny (model prog w) A (keyKind' vs.toArray) Q E s2)/\
  ∀ (E:Value->Shared->Prop) (x y:Value) (Q:Bool->Shared->Prop),ok x->ok y->Q (O.blt (ky x) (ky y)) s2->wpAny (model prog w) A (keyLt' kd x y) Q E s2
end TS
end
namespace TS
set_option autoImplicit false
open PySem PyProof PyProof.Rows PySem.SeqAt
open PySem.MeetsSeq PySem.MeetsSeq2 PySem.MeetsSeq3
inductive Rs (A:Around) (s:Shared) (b:Bool):List ((Value×Value)×Nat)->Bool->Bool->Prop
 | nil (d:Bool):Rs A s b [] d d
 | eq {p q:Value} {i:Nat} {zbs:List ((Value×Value)×Nat)} {d r:Bool} (h:EqAt A s p q true) (t:Rs A s b zbs d r):Rs A s b (((p,q),i)::zbs) d r
 | ne {p q:Value} {i:Nat} {zbs:List ((Value×Value)×Nat)} {d l:Bool} (h:EqAt A s p q false) (t: ∀ (prog:Program) (w:World) (E:Value->Shared->Prop) (Q:Bool->Shared->Prop),Q l s->wpAny (model prog w) A (oneLt' (b && i==0) p q) Q E s):Rs A s b (((p,q),i)::zbs) d l
section
variable {prog:Program} {w:World} {A:Around} {s:Shared}
def zpO (h:Heap) (v:Value) (ns:List Int):Prop:= ∃ (a:Addr) (its:List Value),v= .ref a/\IsTup h a its.toArray/\IntsAre its ns
end
end TS
namespace TS
set_option autoImplicit false
open PySem PyProof PyProof.Rows PySem.SeqAt
def ziH (h:Heap) (v:Value):Prop:= ∃ (a:Addr) (xs:Array Value) (n:Int) (t:Tok),v= .ref a/\IsTup h a xs/\xs[0]? = some (.int n t)
section
variable {prog:Program} {w:World} {A:Around} {s:Shared}
theorem zmH {v:Value} (h:ziH s.heap v) {E:Value->Shared->Prop}:wpAny (model prog w) A (firstOfTuple' v) (fun r s'=>s'=s/\ ∃ n t,r=some (.int n t)) E s:=by
 obtain ⟨a,xs,n,t,rfl,⟨o,e1,e2,m,d⟩,hx⟩:=h
 refine qaW (wpAny_typeOf (T:="tuple") ⟨o,e1,e2⟩ ?_)
 have:(Value.type "tuple" != Value.type "tuple")=false:=by rfl
 rw [this]
 refine qaW (listItems_at e1 d (qaX ⟨rfl,n,t,hx⟩))
theorem zhl {E:Value->Shared->Prop}: ∀ (vs:List Value),(∀ v,v∈vs->ziH s.heap v)->wpAny (model prog w) A (vs.mapM firstOfTuple') (fun r s'=>s'=s/\ ∃ us ns,IntsAre us ns/\r=us.map some/\us.length=vs.length) E s
 | [],_=>by rw [List.mapM_nil];exact qaX ⟨rfl,[],[],.nil,rfl,rfl⟩
 | v::vs,h=>by
  rw [List.mapM_cons]
  refine qaW (qaZ (zmH (h v (qau ..))) ?_ fun _ _ e=>e)
  rintro r s' ⟨es,n,t,rfl⟩
  rw [es]
  refine qaW (qaZ (zhl vs fun u hu=>h u (qan _ hu)) ?_ fun _ _ e=>e)
  rintro r s' ⟨es,us,ns,h1,rfl,h3⟩
  rw [es]
  exact qaX ⟨rfl,.int n t::us,n::ns,.cons n t h1,rfl,by simp [h3]⟩
theorem zoz {vs:List Value} (h: ∀ v,v∈vs->ziH s.heap v) (h0:2<=vs.length) {E:Value->Shared->Prop} {Q:SortKind->Shared->Prop} (hq:Q (tuples' true) s):wpAny (model prog w) A (keyKind' vs.toArray) Q E s:=by
 rw [keyKind'_eq,List.mapM_toArray,map_eq_pure_bind,bind_assoc]
 refine qaW (qaZ (zhl vs h) ?_ fun _ _ e=>e)
 rintro r s' ⟨rfl,us,ns,h1,rfl,h3⟩
 rw [pure_bind]
 rw [qa4 (by simp)]
 refine qaW (wpAny_rule ?_)
 have e1:Array.filterMap id (us.map some).toArray=us.toArray:=by simp
 rw [e1,oneTypeOnly'_eq,List.mapM_toArray,mapM_typeOf_ints h1]
 simp only [map_pure,pure_bind]
 obtain ⟨u,us',rfl⟩: ∃ u us',us=u::us':=by
  cases us with
  | nil=>simp at h3;omega
  | cons u us'=>exact ⟨u,us',rfl⟩
 have hall:((List.map (fun _=>Value.type "int") (u::us')).toArray.all fun x=>x==Value.type "int")=true:=by
  simp only [List.all_toArray,List.all_map,List.all_eq_true]
  intro _ _
  rfl
 have h0':(List.map (fun _=>Value.type "int") (u::us')).toArray[0]? = some (Value.type "int"):=by simp
 rw [h0']
 simp only [hall,if_true,pure_bind]
 exact qaX hq
end
theorem zpO.keep {h h':Heap} {v:Value} {p:List Int} (k: ∀ b o,h.get? b=some o->h'.get? b=some o):zpO h v p->zpO h' v p:=fun ⟨a,its,e,⟨o,x1,x2⟩,z⟩=>⟨a,its,e,⟨o,k _ _ x1,x2⟩,z⟩
structure KR where
 O:KeyOrd
 dflt:O.α
 At:Heap->Value->O.α->Prop
 inj: ∀ {h v p q},At h v p->At h v q->p=q
 keep: ∀ {h h':Heap} {v p},(∀ b o,h.get? b=some o->h'.get? b=some o)->At h v p->At h' v p
 first: ∀ {h v p},At h v p->ziH h v
 lt: ∀ {prog:Program} {w:World} {A:Around} {s:Shared} {E:Value->Shared->Prop} {Q:Bool->Shared->Prop} {u v p q},At s.heap v p->At s.heap u q->A.units+2<cLine->Q (O.blt p q) s->wpAny (model prog w) A (keyLt' (tuples' true) v u) Q E s
open Classical in
noncomputable def KR.ky (k:KR) (h:Heap) (v:Value):k.O.α:=if e: ∃ p,k.At h v p then e.choose else k.dflt
theorem KR.ky_eq {k:KR} {h:Heap} {v:Value} {p:k.O.α} (e:k.At h v p):k.ky h v=p:=by
 unfold KR.ky
 rw [dif_pos ⟨p,e⟩]
 exact k.inj (Exists.choose_spec ⟨p,e⟩) e
theorem KR.srt (k:KR) {prog:Program} {w:World} {A:Around} {vs:List Value} {s1:Shared} (hr:A.units+2<cLine) (h: ∀ v,v∈vs-> ∃ p,k.At s1.heap v p):Srt prog w A vs s1 (tuples' true) k.O (k.ky s1.heap) (fun v=> ∃ p,k.At s1.heap v p):=by
 refine ⟨h,fun s2 hk=>⟨fun h2 E Q hq=>zoz (fun v hv=> ?_) h2 hq,fun E x y Q hx hy hq=> ?_⟩⟩
 ·obtain ⟨p,hp⟩:=h v hv
  exact k.first (k.keep hk hp)
 ·obtain ⟨p,hp⟩:=hx
  obtain ⟨q,hq'⟩:=hy
  rw [KR.ky_eq hp,KR.ky_eq hq'] at hq
  exact k.lt (k.keep hk hp) (k.keep hk hq') hr hq
end TS
namespace TS
set_option autoImplicit false
open PySem PyProof.Rows
end TS
namespace L2
open PySem PySem.Spec PyProof.Rows TS
section
variable {X:L2.Cx}
end
end L2
namespace L3
open PySem PySem.Spec PyProof.Rows L2 TS
section
variable {X:L2.Cx} {E:XE}
end
end L3
namespace L3
open PySem PySem.Spec PyProof.Rows L2
section
variable {X:Cx} {E:XE}
end
section
variable {X:Cx} {E:XE} {scope:Scope} {N:List Str} {src:List (Option Nat)} {tg iter elt:Expr} {ifs:List Expr} {pos:Pos}
noncomputable def zp3 (d:D):M D:=match d with
 | .cel n=>fun h=>match h[n]? with
  | some (.lst ds)=> .ok (.lst ds) (h.set n .dead)
  | _=> .bad
 | _=>M.bad
theorem zr2 {e:Expr} {f:FE} (he:SE X E e f):SE X E e (cUn zp3 f):=by
 refine PE.imp he fun σ H Q ⟨ι,h,sd,L,hh,q⟩=>⟨ι,h,sd,L,hh,Fin.bind q fun d h1 ι1 H1 e1 s1 hr1 q1 v rv=> ?_⟩
 cases d with
 | cel n=>
  simp only [Rel] at rv
  obtain ⟨a,rfl,hn⟩:=rv
  rcases hn with hn | hn
  rotate_left
  ·have hd:=hr1.dead n hn
   have:Fin X.K E ι1 H1 (match h1[n]? with | some (.lst ds)=>R.ok (D.lst ds) (h1.set n .dead) | _=> .bad) _:=q1
   rw [hd] at this
   exact qa0 this
  have hlt:=(qac.mp hn).1
  have hl:=hr1.len
  obtain ⟨c,hc⟩: ∃ c,h1[n]? = some c:=⟨h1[n],by simp [hl,hlt]⟩
  obtain ⟨ds,vs,rfl,e2,rl⟩: ∃ ds vs,c= .lst ds/\H1 a=some (.lst vs)/\zar X.K ι1 H1 ds vs:=by
   obtain ⟨o,e1,e2⟩:=hr1.at_ n a c hn hc
   cases c with
   | lst ds=>obtain ⟨vs,rfl,rl⟩:=e2;exact ⟨ds,vs,rfl,e1,rl⟩
   | dic kvs=>
    have:Fin X.K E ι1 H1 (match h1[n]? with | some (.lst ds)=>R.ok (D.lst ds) (h1.set n .dead) | _=> .bad) _:=q1
    rw [hc] at this
    exact qa0 this
   | dead=>exact qa0 e2
  have q2:Fin X.K E ι1 H1 (.ok (.lst ds) (h1.set n .dead)) fun d ι' H'=> ∀ v,Rel X.K ι' H' d v->Q v H':=by
   have:Fin X.K E ι1 H1 (match h1[n]? with | some (.lst ds)=>R.ok (D.lst ds) (h1.set n .dead) | _=> .bad) _:=q1
   rw [hc] at this
   exact this
  have mem: ∀ b,some b∈ι1.c.set n none->some b∈ι1.c:=fun b hb=>by
   rcases List.mem_or_eq_of_mem_set hb with z | z
   ·exact z
   ·cases z
  have st:zce ι1 H1 ⟨ι1.c.set n none,ι1.x⟩ H1:=by
   refine ⟨fun k o hk=> ?_,fun b hb=> .inl (mem b hb),rfl,fun _ _=>rfl,fun _ _ h _=>h⟩
   by_cases hkn:n=k
   ·subst hkn
    right
    show (ι1.c.set n none)[n]? = _
    rw [qai hlt]
   ·left
    show (ι1.c.set n none)[k]? = _
    rw [qao hkn]
    exact hk
  have hna:some a∉ι1.c.set n none:=fun z=>by
   obtain ⟨k,hk⟩:=List.getElem?_of_mem z
   by_cases hkn:n=k
   ·subst hkn
    rw [qai hlt] at hk
    cases hk
   ·rw [qao hkn] at hk
    exact hkn (hr1.inj n k a hn hk)
  have hrn:zbf X.K ⟨ι1.c.set n none,ι1.x⟩ H1 (h1.set n .dead):=by
   refine ⟨by simp [hl],fun i j b hi hj=> ?_,fun k b c' hk hc'=> ?_,fun k hk=> ?_,fun b hb=>⟨(hr1.hidt b hb).1,fun z=>(hr1.hidt b hb).2 (mem b z)⟩⟩
   ·have hi:(ι1.c.set n none)[i]? = some (some b):=hi
    have hj:(ι1.c.set n none)[j]? = some (some b):=hj
    have key: ∀ k,(ι1.c.set n none)[k]? = some (some b)->ι1.c[k]? = some (some b):=fun k hk=>by
     by_cases hkn:n=k
     ·subst hkn
      rw [qai hlt] at hk
      cases hk
     ·rw [qao hkn] at hk
      exact hk
    exact hr1.inj i j b (key i hi) (key j hj)
   ·have hk:(ι1.c.set n none)[k]? = some (some b):=hk
    by_cases hkn:n=k
    ·subst hkn
     rw [qai hlt] at hk
     cases hk
    ·rw [qao hkn] at hk hc'
     obtain ⟨o',x2,x3⟩:=hr1.at_ k b c' hk hc'
     exact ⟨o',x2,x3.pass st.pass⟩
   ·have hk:(ι1.c.set n none)[k]? = some none:=hk
    by_cases hkn:n=k
    ·subst hkn
     rw [qai (by omega)]
    ·rw [qao hkn] at hk ⊢
     exact hr1.dead k hk
  refine q2 _ _ st hrn (.ref a) ?_
  simp only [Rel]
  refine ⟨a,vs,rfl,⟨e2,fun z=> ?_⟩,rl.step st⟩
  rcases z with z | z
  ·exact hna z
  ·exact (hr1.hidt a z).2 (List.mem_of_getElem? hn)
 | _=>exact qa0 q1
end
end L3
namespace L3
open PySem
open Sem (wp)
open AutoSeq1 (wpAny_loadPart')
section
variable {prog:Program} {w:World} {A:Around} {E:Value->Shared->Prop} {s:Shared}
theorem zeB {it l:Addr} {i:Nat} {items:Array Value} {Q:Value->Shared->Prop} (hh:zjX A s.heap) (hit:s.heap.IsListIter it l i) (hl:s.heap.IsList l items) (hx:items[i]? = none)
  (hE: ∀ h' e,Heap.ExtBut it s.heap h'->(∃ o,h'.get? e=some o/\o.cls= .type "StopIteration")->E (.ref e) {s with heap:=h'}):wpAny (model prog w) A (Builtin.SmallTypes.nextOf (.ref it)) Q E s:=by
 obtain ⟨o,h1,h2,h3⟩:=id hit
 obtain ⟨ol,l1,_,nl,l2⟩:=hl
 unfold Builtin.SmallTypes.nextOf
 refine qaW (wpAny_callSpecial?_slot (name:=Str.ofString "__next__") hit.typeIs slot_listiter_next
   (wpAny_call_entry slot_listiter_next hit.typeIs entry_listiter_next ?_ (args_listiter_next _)))
 show wpAny _ _ (field (.ref it) 0>>=_) _ _ s
 refine qaW (wpAny_field h1 h3 (x:= .ref l) rfl ?_)
 show wpAny _ _ (if (Value.ref l==Value.none)=true then _ else _) _ _ s
 rw [qa5 (show ¬(Value.ref l==Value.none)=true from nofun)]
 show wpAny _ _ (field (.ref it) 1>>=_) _ _ s
 refine qaW (wpAny_field h1 h3 (x:= .int i 0) rfl ?_)
 show wpAny _ _ (seqItems? (.ref l)>>=_) _ _ s
 refine qaW (wpAny_seqItems l1 l2 ?_)
 simp only [qaB,hx]
 refine qaW (wpAny_rule (qaW (wpAny_setField h1 h3 (by simp) ?_)))
 show wpAny _ _ (newExc (.type "StopIteration") []>>=_) _ _ _
 refine qaW ?_
 simp only [newExc,newTuple]
 refine qaW (qaC ?_ (by size_fits))
 refine qaW (m:=firstArgMember _ _) (wpAny_of_eq (a:=Value.none) (by first | rfl | (simp only [firstArgMember];rfl)) ?_)
 refine qaC ?_ (by size_fits)
 rcases hh with hh | ⟨ha,cls,head,hh,hX⟩
 ·simp only [raiseNew]
  refine qaW (wpAny_handled ?_)
  first | rw [show A.in1.handled=none from hh] | rw [hh]
  refine qaW (qaX (wpAny_throw ?_))
  exact hE _ _ (((Heap.SameBut.update ..).extBut.push _).push _) ⟨_,qar _ rfl,rfl⟩
 have nit:ha≠it:=fun z=>by
  subst z
  obtain ⟨ob,vs,x1,_,_,x4,x5,x6⟩:=hX
  rw [h1] at x1
  cases x1
  rw [h3] at x4
  cases x4
  simp at x5
 have hX1:zhN (s.heap.update it (Obj.mapFields (·.setIfInBounds 0 Value.none))) ha cls head:=by
  obtain ⟨ob,vs,x1,x2⟩:=hX
  exact ⟨ob,vs,(qah _ _ (Ne.symm nit)).trans x1,x2⟩
 obtain ⟨ob,vs,x1,x2⟩:=hX1
 have y1:=qag {cls:= .type "tuple",dict:=none,data:= .seq [].toArray} x1
 refine zcG (h:=ha) (cls:=cls) (head:=head) hh ⟨ob,vs,qag _ y1,x2⟩ (qar _ rfl) rfl (by simp;omega) (qaR (qaQ y1)) ?_
 refine hE _ _ (fun b o hb z=> ?_) ⟨_,qal _ (qar _ rfl) rfl,rfl⟩
 have z1:(s.heap.update it (Obj.mapFields (·.setIfInBounds 0 Value.none))).get? b=some o:=(qah _ _ (Ne.symm hb)).trans z
 have z2:=qag {cls:= .type "tuple",dict:=none,data:= .seq [].toArray} z1
 rw [qah _ _ (Nat.ne_of_gt (qaQ z2))]
 exact qag _ z2
end
theorem zeU {prog:Program} {w:World} {A:Around} (it l:Addr) (hne:l≠it) (items:Array Value):
  Draws prog w A.in1 it (it::l::zbb A) items.size (fun i v=>items[i]? = some v) (fun i h=>h.IsListIter it l i/\h.IsList l items/\zjX A h/\it∉zbb A) where
 live:=fun _ _ st=>let ⟨o,ho,_⟩:=st.1;⟨o,ho⟩
 frame:=fun _ _ _ st hk=>⟨st.1.at fun o e=>hk it (by simp) o e,st.2.1.at fun o e=>hk l (by simp) o e,st.2.2.1.keep fun b hb o e=>hk b (by simp [hb]) o e,st.2.2.2⟩
 item:=fun i s Q E hi st hQ=>by
  refine wpAny_nextOf_list_item st.1 st.2.1 (x:=items[i]) (by simp [hi]) fun h' hit' hs'=> ?_
  exact hQ _ h' s.toks (by simp [hi]) ⟨hit',st.2.1.extBut hs'.extBut hne,st.2.2.1.keep fun b hb o e=>(hs'.2 b fun z=>st.2.2.2 (z▸hb)).trans e,st.2.2.2⟩ hs'
 done:=fun s Q E st hE=>zeB (A:=A.in1) st.2.2.1 st.1 st.2.1 (by simp) hE
end L3
namespace L2
open PySem PySem.Spec PyProof.Rows
noncomputable def zs0 (K:W.Frag) (a:Addr):It:=
 ⟨fun i H=> ∃ xs x,SqL K H a xs/\xs[i]? = some x,fun i H x H'=> ∃ T y,H T=none/\H'=upd H T (.tup [.int i,y])/\x= .ref T/\ ∀ xs,SqL K H a xs->xs[i]? = some y,fun i H=> ∃ xs,SqL K H a xs/\xs.length=i⟩
theorem zjM {P:Program} {w:World} {K:W.Frag} {elts:List Expr} {k:Nat} {pos:Pos} (a e it:Addr) (hei:e≠it):zn3 P w K (.Tuple elts k pos) (zs0 K a) [e,it] e (fun i h=>(∃ old,IsEnum h e it i old)/\h.IsListIter it a i) where
 mem:=by simp
 obj:=fun i h st b hb=>by
  obtain ⟨⟨old,he⟩,o,ho,hc,hd⟩:=st
  have z:b=e\/b=it:=by simpa using hb
  rcases z with rfl | rfl
  ·exact ⟨_,he,fun v z=>by cases z⟩
  ·exact ⟨o,ho,fun v z=>by rw [hd] at z;cases z⟩
 keep:=fun i h h' st k=>⟨let ⟨old,he⟩:=st.1;⟨old,k e (by simp) _ he⟩,st.2.at fun o q=>k it (by simp) o q⟩
 item:=by
  intro X hP hw hK i pins s σ H E I hf st hg
  subst hP hw hK
  obtain ⟨xs,y,hq,hx⟩:=hg
  obtain ⟨its,rv,p,hz⟩:=I.list hq
  obtain ⟨u,hu,ru⟩:=rv.get hx
  obtain ⟨⟨old,he⟩,hit⟩:=st
  have hfe:=hf e (by simp)
  have hfi:=hf it (by simp)
  obtain ⟨ot,ht,hct,nt,hdt⟩:=p.isList
  obtain ⟨oi,hi,hci,hdi⟩:=id hit
  have hai:a≠it:=fun z=>by
   subst z
   rw [ht] at hi
   cases hi
   rw [hdt] at hdi
   cases hdi
  have hea:e≠a:=fun z=>by
   subst z
   have he':s.heap.get? e=_:=he
   rw [ht] at he'
   cases he'
   cases hdt
  have hin:it∉L3.zbb X.A:=fun z=>by
   rcases I.hand with q | ⟨ha,cls,head,q,ob,vs,x1,_,_,x4,x5,_⟩
   ·unfold L3.zbb at z;rw [q] at z;simp at z
   ·unfold L3.zbb at z
    rw [q] at z
    have:it=ha:=by simpa using z
    subst this
    rw [hi] at x1
    cases x1
    rw [hdi] at x4
    cases x4
    simp at x5
  have hen:e∉L3.zbb X.A:=fun z=>by
   rcases I.hand with q | ⟨ha,cls,head,q,ob,vs,x1,_,_,x4,x5,_⟩
   ·unfold L3.zbb at z;rw [q] at z;simp at z
   ·unfold L3.zbb at z
    rw [q] at z
    have:e=ha:=by simpa using z
    subst this
    have he':s.heap.get? e=_:=he
    rw [x1] at he'
    cases he'
    cases x4
    simp at x5
  have hlt:i<its.toArray.size:=by
   have:=(qac.mp hu).1
   simpa using this
  refine wpAny_pyNext_enum_itemD (L3.zeU (A:=X.A) it a hai its.toArray) he ⟨hit,p.isList,I.hand,hin⟩ hlt hei (by simp [hei,hea,hen]) fun x h1 tk hP ho hs' hT hsz hk=> ?_
  have hxu:x=u:=by
   have:its[i]? = some x:=by simpa using hP
   rw [hu] at this
   exact (Option.some.inj this).symm
  subst hxu
  refine ⟨_,rfl,wpAny_letOwnedTupleGo_enum ho fun h2 he2 hs2=> ?_⟩
  have het:e≠s.heap.objs.size:=qaR (qaQ he)
  have hit':it≠s.heap.objs.size:=qaR (qaQ hi)
  have fresh:=I.hok.fresh (qaV s.heap.objs.size)
  have I1:Inv X pins σ (upd H s.heap.objs.size (.tup [.int i,y])) {s with heap:=s.heap.push {cls:= .type "tuple",data:= .seq #[.int i tk,x]},toks:=tk+1}:=
   I.laid (t':=tk+1) (fun b o q=>qag _ q) (qaV _) (show zbF X.prog X.w _ _ _ (.tup [.int i,y]) from ⟨by show 2<=sizeLine;decide,[.int i tk,x],.cons ⟨tk,rfl⟩ (.cons ru .nil),IsTup.new _ _⟩)
  have fe:zhO X pins (upd H s.heap.objs.size (.tup [.int i,y])) e:=⟨by rw [zaC het];exact hfe.1,hfe.2⟩
  have fi:zhO X pins (upd H s.heap.objs.size (.tup [.int i,y])) it:=⟨by rw [zaC hit'];exact hfi.1,hfi.2⟩
  have I2:Inv X pins σ (upd H s.heap.objs.size (.tup [.int i,y])) {s with heap:=h1,toks:=tk+1}:=I1.turned2 (t':=tk+1) (h':=h1) (fun b o hb1 hb2 q=>by
    rcases Heap.get?_push_cases q with ⟨z1,z2⟩ | z
    · rw [z1,z2];exact hT
    · exact hk b o hb1 hb2 z) fe fi
  obtain ⟨f0,f1,f2,f3,f4,f5⟩:=fe
  have I3:Inv X pins σ (upd H s.heap.objs.size (.tup [.int i,y])) {s with heap:=h2,toks:=tk+1}:=I2.turned (t':=tk+1) (fun b o hb q=>(hs2.2 b hb).trans q) f0 f1 f3 f4 f5
  refine ⟨.ref s.heap.objs.size,_,I3,rfl,⟨s.heap.objs.size,y,fresh,rfl,rfl,fun ys hy=>by rw [I.list_inj hy hq];exact hx⟩,⟨⟨x,by simpa using he2⟩,hs'.1.at fun o q=>(hs2.2 it (Ne.symm hei)).trans q⟩,fun b hb=> ?_⟩
  have z:b=e\/b=it:=by simpa using hb
  rcases z with rfl | rfl
  ·exact f0
  ·exact fi.1
 done:=by
  intro X hP hw hK i pins s σ H E I hf st hg
  subst hP hw hK
  obtain ⟨xs,hq,hx⟩:=hg
  obtain ⟨its,rv,p,hz⟩:=I.list hq
  obtain ⟨⟨old,he⟩,hit⟩:=st
  have hfi:=hf it (by simp)
  obtain ⟨ot,ht,hct,nt,hdt⟩:=p.isList
  obtain ⟨oi,hi,hci,hdi⟩:=id hit
  have hai:a≠it:=fun z=>by
   subst z
   rw [ht] at hi
   cases hi
   rw [hdt] at hdi
   cases hdi
  have hin:it∉L3.zbb X.A:=fun z=>by
   rcases I.hand with q | ⟨ha,cls,head,q,ob,vs,x1,_,_,x4,x5,_⟩
   ·unfold L3.zbb at z;rw [q] at z;simp at z
   ·unfold L3.zbb at z
    rw [q] at z
    have:it=ha:=by simpa using z
    subst this
    rw [hi] at x1
    cases x1
    rw [hdi] at x4
    cases x4
    simp at x5
  have hn:its.toArray.size=i:=by
   have:=rv.length
   simp
   omega
  subst hn
  obtain ⟨f0,f1,f2,f3,f4,f5⟩:=hfi
  exact wpAny_pyNext_enum_endD (L3.zeU (A:=X.A) it a hai its.toArray) he ⟨hit,p.isList,I.hand,hin⟩ fun h' hx'=>⟨rfl,I.turned (t':=s.toks) (fun b o hb q=>hx' b o hb q) f0 f1 f3 f4 f5⟩
 self:=fun _ _ _ _ _ st h=>let ⟨⟨_,he⟩,_⟩:=st;wpAny_pyIter_enum he h
section
variable {X:Cx} {elts:List Expr} {k:Nat} {tpos:Pos}
noncomputable def zqu (K:W.Frag) (ta:TA):TI:=fun σ H R=>ta σ H fun vs H1=> ∃ a,vs=[.ref a]/\(∃ xs,SqL K H1 a xs)/\R (zs0 K a) H1
theorem zmO {l:Expr} {ta:TA} {p pos:Pos} (hg:Gl X "enumerate") (hm:X.mg "enumerate"=none) (ha:PA X [l] ta) (hs:starEach [l] X.env=[(false,eval l X.env)]:=by rfl):
  PI X (.Tuple elts k tpos) (.Call (.Name "enumerate" p) [l] [] pos) (zqu X.K ta):=by
 intro pins s σ H R I h
 refine Call_ (zer I hg hm PyProof.Rows.boot_enumerate (PyProof.Rows.callWith_type1 (thn (ha pos pins s σ H _ I h) fun us s1 ⟨vs,H1,I1,r1,q1⟩=> ?_) hs rfl))
 obtain ⟨a,e,⟨xs,hq⟩,q⟩:=q1
 subst e
 cases r1 with
 | cons r rr=>
  cases rr
  cases r
  obtain ⟨its,rv,p,hz⟩:=I1.list hq
  refine PySem.call_enumerate_list p.isList fun h' he hit hsz kp=> ?_
  refine wpAny_pyIter_enum he ?_
  refine ⟨s1.heap.objs.size+1,[s1.heap.objs.size+1,s1.heap.objs.size],_,_,H1,rfl,I1.kept (t':=s1.toks) kp,zjM a _ _ (Nat.succ_ne_self _),⟨⟨_,he⟩,hit⟩,fun b hb=> ?_,q⟩
  have z:b=s1.heap.objs.size+1\/b=s1.heap.objs.size:=by simpa using hb
  rcases z with rfl | rfl
  ·exact I1.fpOk (Nat.le_succ _) (I1.hok.fresh (Nat.le_succ _))
  ·exact I1.fpOk (qaV _) (I1.hok.fresh (qaV _))
end
end L2
namespace L3
open PySem PySem.Spec PyProof.Rows L2
section
variable {X:Cx} {E:XE} {elts:List Expr} {k:Nat} {tpos pos:Pos}
theorem zke {K:W.Frag} {ι:Io} {H:Hp} {a:Addr} {vs:List V} {ds:List D} (h: ∀ ι' H',Pass ι H ι' H'->SqL K H' a vs) (rl:zar K ι H ds vs):zn5 K ι H (zs0 K a) (zhn ds) where
 go:=fun ι' H' i s hi=>by
  have hi:i<ds.length:=by simpa [zhn] using hi
  obtain ⟨v,ev,_⟩:=zar.get rl (i:=i) (d:=ds[i]) (by simp [hi])
  exact ⟨vs,v,h ι' H' s,ev⟩
 yld:=fun ι' H' _ i x H2 s hr hi ⟨T,y,hT,e,e2,hy⟩=>by
  subst e e2
  have hi:i<ds.length:=by simpa [zhn] using hi
  obtain ⟨v,ev,rv⟩:=zar.get rl (i:=i) (d:=ds[i]) (by simp [hi])
  have ey:=hy vs (h ι' H' s)
  rw [ev] at ey
  cases ey
  refine ⟨.inr ⟨T,_,hT,rfl⟩,.tup [.int i,ds[i]],by simp [zhn,hi],?_⟩
  obtain ⟨st,hr2⟩:=zr8.step (.inr ⟨T,[.int i,y],hT,rfl⟩) hr
  have rv2:Rel K ι' (upd H' T (.tup [.int i,y])) ds[i] y:=(rv.pass s).step st
  simp only [Rel]
  exact ⟨T,_,rfl,⟨za0,hr.nin hT⟩,zar.cons (by simp [Rel]) (zar.cons rv2 zar.nil)⟩
 stop:=fun ι' H' s=>⟨vs,h ι' H' s,by rw [<- rl.length];simp [zhn]⟩
noncomputable def zpD (f:FE):FA:=fun sd=>do
 let d<-f sd
 match d with
 | .lst ds=>pure (zhn ds)
 | _=>M.bad
theorem zpN {l:Expr} {f:FE} {p:Pos} (hm:X.mg "enumerate"=none) (he:SE X E l f) (hg:Gl X "enumerate":=by rfl) (hs:starEach [l] X.env=[(false,eval l X.env)]:=by rfl):SI X E (.Tuple elts k tpos) (.Call (.Name "enumerate" p) [l] [] pos) (zpD f):=by
 refine PI.imp (zmO hg hm (zbK he zcZ hs) hs) fun σ H Q ⟨ι,h,sd,L,hh,q⟩=>⟨ι,h,sd,L,hh,Fin.bind q fun d h1 ι1 H1 e1 s1 hr1 q1 v rv=> ?_⟩
 cases d with
 | lst ds=>
  obtain ⟨a,vs,e,h1',h2⟩:=zlb rv
  exact ⟨a,by rw [e],⟨vs,h1' _ _ (Pass.refl _ _)⟩,Fin.out hr1 q1 _ (zke h1' h2)⟩
 | _=>exact qa0 q1
noncomputable def zkM (fs:FA):FA:=fun sd=>do let ds<-fs sd;zlo ds
theorem zrB {tg a b:Expr} {p:Pos} {fs:FA} (hm:X.mg "range"=none) (ha:SA X E [a,b] fs) (hg:Gl X "range":=by rfl) (hs:starEach [a,b] X.env=[(false,eval a X.env),(false,eval b X.env)]:=by rfl) (hs2:starEach [b] X.env=[(false,eval b X.env)]:=by rfl):
  SI X E tg (.Call (.Name "range" p) [a,b] [] pos) (zkM fs):=zoK (zkT hg hm ha hs hs2)
end
end L3
namespace L2
open PySem PySem.Spec PyProof.Rows
section
variable {κ:Type} [DecidableEq κ]
noncomputable def ztT (kvs:List (κ×V)) (k:κ) (v:V):List (κ×V):=
 if (kvs.any fun kv=>decide (kv.1=k))=true then kvs.map (fun kv=>if kv.1=k then (kv.1,v) else kv) else kvs++[(k,v)]
theorem KV.any {kvs:List (κ×V)} {vs:List (κ×Value)} (r:KV kvs vs) (k:κ):(kvs.any fun kv=>decide (kv.1=k))=vs.any fun kv=>decide (kv.1=k):=by
 unfold KV at r
 induction r with
 | nil=>rfl
 | cons h t ih=>rw [List.any_cons,List.any_cons,ih,h.1]
theorem KV.repl {kvs:List (κ×V)} {vs:List (κ×Value)} (r:KV kvs vs) (k:κ) {y:V} {u:Value} (ry:zb1 y u):
  KV (kvs.map fun kv=>if kv.1=k then (kv.1,y) else kv) (vs.map fun kv=>if kv.1=k then (kv.1,u) else kv):=by
 unfold KV at r ⊢
 induction r with
 | nil=>exact .nil
 | @cons p q ps qs h t ih=>
  rw [qaM,qaM]
  refine .cons ?_ ih
  obtain ⟨h1,h2⟩:=h
  by_cases e:p.1=k
  ·rw [qa4 e,qa4 (h1.symm.trans e)];exact ⟨h1,ry⟩
  ·rw [qa5 e,qa5 (fun z=>e (h1.trans z))];exact ⟨h1,h2⟩
theorem KV.put {kvs:List (κ×V)} {vs:List (κ×Value)} (r:KV kvs vs) (k:κ) {y:V} {u:Value} (ry:zb1 y u):KV (ztT kvs k y) (stored vs k u):=by
 unfold ztT stored
 rw [r.any k]
 by_cases e:(vs.any fun kv=>decide (kv.1=k))=true
 ·rw [qa4 e,qa4 e];exact r.repl k ry
 ·rw [qa5 e,qa5 e];exact Paired.snoc r ⟨rfl,ry⟩
theorem KV.length {kvs:List (κ×V)} {vs:List (κ×Value)} (r:KV kvs vs):kvs.length=vs.length:=Paired.length r
end
section
variable {X:Cx}
end
end L2
namespace L3
open PySem PySem.Spec PyProof.Rows L2
section
variable {X:L2.Cx} {E:XE}
end
open LT
section
variable {h:Hh}
end
end L3
namespace L3
open PySem PySem.Spec PyProof.Rows L2
structure Fd (K:W.Frag) (x:Str) (st:Stmt) (a:Addr) (d:FuncData):Prop where
 e:W.nsIn K mainGlobals x=some (some (.ref a))
 F:Fun K x x st a d
section
variable {X:Cx} {E:XE}
end
open LT
def Gro (h h':Hh):Prop:= ∃ t,h'=h++t
theorem Gro.refl {h:Hh}:Gro h h:=⟨[],by simp⟩
theorem Gro.trans {h h1 h2:Hh} (a:Gro h h1) (b:Gro h1 h2):Gro h h2:=by
 obtain ⟨t,rfl⟩:=a
 obtain ⟨u,rfl⟩:=b
 exact ⟨t++u,by simp⟩
theorem Gro.get {h h':Hh} {n:Nat} {c:C} (g:Gro h h') (e:h[n]? = some c):h'[n]? = some c:=by
 obtain ⟨t,rfl⟩:=g
 rw [qad (qac.mp e).1]
 exact e
theorem Gro.ext {b:Nat} {h h':Hh} (q:Bx b h) (g:Gro h h'):Ext b h h':=by
 obtain ⟨z,e⟩:=q
 exact ⟨⟨z,g.get e⟩,fun n c _ e=>g.get e⟩
def Ev {α:Type} (m:M α) (a:α):Prop:= ∀ h, ∃ h',m h= .ok a h'/\Gro h h'
section
variable {α β:Type} {m:M α} {a:α} {f:α->M β} {b:β} {h:Hh} {P:α->Hh->Prop}
theorem Ev.pure:Ev (Pure.pure a:M α) a:=fun h=>⟨h,rfl,.refl⟩
theorem Ev.of (e:m=Pure.pure a):Ev m a:=e▸ .pure
theorem Ev.bind (x:Ev m a) (y:Ev (f a) b):Ev (m>>=f) b:=fun h=>by
 obtain ⟨h1,e1,g1⟩:=x h
 obtain ⟨h2,e2,g2⟩:=y h1
 refine ⟨h2,?_,g1.trans g2⟩
 show M.bind m f h=_
 unfold M.bind
 rw [e1]
 exact e2
theorem Ev.wp (x:Ev m a) (k: ∀ h',Gro h h'->P a h'):wp m h P:=by
 obtain ⟨h1,e1,g1⟩:=x h
 exact ⟨a,h1,e1,k h1 g1⟩
theorem Ev.of_wp (x: ∀ h,L3.wp m h fun r h'=>r=a/\Gro h h'):Ev m a:=fun h=>by
 obtain ⟨r,h1,e1,rfl,g⟩:=x h
 exact ⟨h1,e1,g⟩
theorem Ev.noX (x:Ev m a):Ev (L3.noX m) a:=fun h=>by
 obtain ⟨h1,e1,g1⟩:=x h
 refine ⟨h1,?_,g1⟩
 unfold L3.noX
 rw [e1]
end
@[simp] theorem zm8 {α:Type} {a:α}:noX (pure a:M α)=pure a:=rfl
noncomputable def zg9 {α:Type} (c:String):M α:=fun h=> .exc c h
@[simp] theorem zjx {α β:Type} {c:String} {f:α->M β}:((zg9 c:M α)>>=f)=zg9 c:=rfl
@[simp] theorem zmR {c:String} {sd:Sd}:zqS c sd=zg9 c:=rfl
theorem zqd {n:Nat} {Fs:List (List D->M D)} {fi:FE} {fs:FA} {sd:Sd}:ztJ n Fs fi fs sd=(do let i<-fi sd;let F<-zrk Fs i;let ds<-fs sd;zal n F ds):=rfl
noncomputable def tI (xs:List Int):D:= .tup (xs.map D.int)
noncomputable def zbd (o:List Int×Int):D:= .tup [tI o.1,.int o.2]
noncomputable def zaR (m:Int) (os:List (List Int×Int)):D:= .tup [.int m,.tup (os.map zbd)]
structure Stk (m:Int) (os:List (List Int×Int)):Prop where
 m0:1<=m
 m1:m<=10
 len:os.length<=12
 up: ∀ o∈os,o.1.Pairwise (· < ·)
 bd: ∀ o∈os, ∀ x∈o.1,0<=x/\x<m
 ne: ∀ o∈os,o.1≠[]
 pos: ∀ o∈os,0<o.2
theorem Stk.olen {m:Int} {os:List (List Int×Int)} (s:Stk m os): ∀ o∈os,o.1.length<=10:=fun o ho=>by
 have h:=zf4 (m:=m) (ts:=o.1.map D.int) (l:=0) (zcE.mpr ⟨s.up o ho,fun x hx=>s.bd o ho x hx⟩) (by have:=s.m0;omega)
 rw [qaH] at h
 have:=s.m1
 omega
theorem zk0 {fo fe:FE} {sd:Sd}:zh0 fo fe sd=(do let x<-fo sd;zdU x;let y<-fe sd;zdx x y):=rfl
theorem zoL {n:Nat}:zdU (.cel n)=(do let _<-zao n;pure ()):=rfl
theorem zmd {n:Nat} {zs:List D}:zdx (.cel n) (.tup zs)=(do let ds<-zao n;fits (ds.length+zs.length);zbL n (ds++zs);pure .non):=rfl
theorem zfM {xs:List Int} {m:Int} (m0:0<=m) (h:xs.Pairwise (· < ·)) (b: ∀ x∈xs,0<=x/\x<m):(xs.length:Int)<=m:=by
 have:=zf4 (m:=m) (ts:=xs.map D.int) (l:=0) (zcE.mpr ⟨h,b⟩) m0
 rw [qaH] at this
 omega
theorem znn {xs:List Int} {m:Int} (m0:0<=m) (b: ∀ x∈xs,0<=x/\x<m):((zgN xs).length:Int)<=m:=zfM m0 (zfk xs) fun x hx=>b x (zcI.mp hx)
theorem zia {xs:List Int} {m:Int} (m0:0<=m) (m1:m<=60) (b: ∀ x∈xs,0<=x/\x<m):(xs.foldl step_dedup []).length<64:=by
 have h:=znn m0 b
 unfold zgN at h
 rw [(za1 _).length_eq] at h
 omega
theorem zhw {n:Nat} {h:Hh} {xs:List Int} {P:D->Hh->Prop} (e:h[n]? = some (.lst (xs.map D.int))) (h1:(xs.foldl step_dedup []).length<64) (h2:xs.length<4000) (k:P (.lst ((zgN xs).map D.int)) h):wp (zdP (.cel n)) h P:=by
 unfold zdP
 show wp (zao n>>=_) h P
 rw [zaA,zbR e]
 show wp (do let ns<-ofO (zd5 (xs.map D.int));if (ns.foldl step_dedup []).length<64/\ns.length<4000 then pure (.lst ((zgN ns).map D.int)) else M.bad:M D) h P
 rw [zc3]
 show wp (if (xs.foldl step_dedup []).length<64/\xs.length<4000 then (pure (.lst ((zgN xs).map D.int)):M D) else M.bad) h P
 rw [qa4 ⟨h1,h2⟩,zas]
 exact k
theorem zlM: ∀ {xs ys:List Int},xs.Pairwise (· < ·)->ys.Pairwise (· < ·)->(∀ k,k∈xs↔k∈ys)->xs=ys:=by
 intro xs ys hx hy hm
 have nx:xs.Nodup:=hx.imp fun z=>by omega
 have ny:ys.Nodup:=hy.imp fun z=>by omega
 have p:List.Perm xs ys:=(List.perm_ext_iff_of_nodup nx ny).mpr hm
 exact (zeF p (hx.imp fun z=>by omega)).trans (zeF (List.Perm.refl ys) (hy.imp fun z=>by omega)).symm
theorem zix {x y:D} {a b:PyData} (e1:pd x=some a) (e2:pd y=some b) (h:zgo a b=true):dEq x y=pure (.bl (PyData.eqv a b)):=by
 show zj1 false x y=_
 unfold zj1
 rw [e1,e2]
 simp only [h,if_true]
 rfl
theorem zpL (xs:List Int):pd (tI xs)=some (.tuple (xs.map PyData.int)):=by unfold tI pd;rw [zbj];rfl
theorem zrx (xs ys:List Int):dEq (tI xs) (tI ys)=pure (.bl (xs==ys)):=by
 rw [zix (zpL xs) (zpL ys) (by unfold zgo;simp [PyData.canLay0,zaL,PyData.depth,zaU])]
 simp only [PyData.eqv,zcN]
theorem zoH (xs ys:List Int):dEq (.lst (xs.map D.int)) (.lst (ys.map D.int))=pure (.bl (xs==ys)):=by
 have e1:pd (.lst (xs.map D.int))=some (.list (xs.map PyData.int)):=by unfold pd;rw [zbj];rfl
 have e2:pd (.lst (ys.map D.int))=some (.list (ys.map PyData.int)):=by unfold pd;rw [zbj];rfl
 rw [zix e1 e2 (by unfold zgo;simp [PyData.canLay0,zaL,PyData.depth,zaU])]
 simp only [PyData.eqv,zcN]
theorem zoM (xs:List Int):ztj [.lst (xs.map D.int)]=pure (.int xs.sum):=by
 show (do let bs<-ofO (zd5 (xs.map D.int));pure (.int bs.sum):M D)=_
 rw [zc3]
 rfl
def gk (d:D):Prop:=kn d=true/\ ∀ ds,d= .tup ds->ds.length<64/\ ∀ x∈ds,kn x=true
theorem zop {xs:List Int} (h:xs.length<64):gk (tI xs):=⟨rfl,fun ds e=>by
  cases e
  exact ⟨by rw [qaH];exact h,fun x hx=>by obtain ⟨i,_,rfl⟩:=qaU.mp hx;rfl⟩⟩
noncomputable def zss (n:Nat):D->Bool
 | .tup ds=>zcC n 0 ds
 | _=>false
theorem zdL {os:List (List Int×Int)} {i:Int} (h0:0<=i) (h1:i<os.length):atI (os.map zbd) i=some (zbd (os.getD i.toNat ([],0))):=by
 have hl:i.toNat<os.length:=by omega
 have:=zdh (xs:=os.map zbd) (j:=i.toNat) (v:=zbd (os.getD i.toNat ([],0))) (by simp [hl,List.getD])
 rw [<- this]
 congr 1
 omega
noncomputable def zdB (os:List (List Int×Int)) (ls:List Int):List (List Int×Int):=ls.map fun i=>os.getD i.toNat ([],0)
theorem zeY {os:List (List Int×Int)} {ls:List Int} (b: ∀ x∈ls,0<=x/\x<os.length): ∀ o∈zdB os ls,o∈os:=fun o ho=>by
 obtain ⟨i,hi,rfl⟩:=qaU.mp ho
 have:=b i hi
 have hl:i.toNat<os.length:=by omega
 simp [List.getD,hl]
theorem zie (k:Int) (xs:List Int):zfj (.int k) (.lst (xs.map D.int))=pure (.bl (!xs.any (· == k))):=by
 show zj5 true (.int k) (.lst (xs.map D.int))=_
 unfold zj5
 simp only [pd]
 rw [zbj]
 have c:zjI (.int k) (xs.map PyData.int)=true:=by
  unfold zjI
  simp [PyData.canLay0,zaL,PyData.depth,zaU]
 simp only [c,if_true,zd1]
theorem zeR {xs:List Int} (h:xs.length<64):zgw [.lst (xs.map D.int)]=pure (.lst ((zc1 xs).map D.int)):=by
 show (do let ns<-ofO (zd5 (xs.map D.int));if ns.length<64 then pure (.lst ((zc1 ns).map D.int)) else M.bad:M D)=_
 rw [zc3]
 show (if xs.length<64 then (pure (.lst ((zc1 xs).map D.int)):M D) else M.bad)=_
 rw [qa4 h]
theorem zfL {xs:List Int} (h:xs.Nodup):(zc1 xs).Pairwise (· < ·):=by
 have h1:=zd3 xs
 have h2:(zc1 xs).Nodup:=(za1 xs).nodup_iff.mpr h
 exact (List.pairwise_and_iff.mpr ⟨h1,h2⟩).imp fun z=>by have:=z.1;have:=z.2;omega
theorem zlK {xs:List Int} {m:Int} (m0:0<=m) (h:xs.Nodup) (b: ∀ x∈xs,0<=x/\x<m):(xs.length:Int)<=m:=by
 rw [<- (za1 xs).length_eq]
 exact zfM m0 (zfL h) fun x hx=>b x ((za1 xs).mem_iff.mp hx)
theorem zfA {j:Int} (h0:0<=j) (h1:j<1000):zf2 (.int j)=pure (tI ((List.range j.toNat).map fun (k:Nat)=>(k:Int))):=by
 show (if 0<=j/\j<1000 then _ else _)=_
 rw [qa4 ⟨h0,h1⟩,zbN]
 rfl
theorem zts {i j:Int}:zpI [.int i,.int j]=pure (.int (if j<i then j else i)):=rfl
theorem zs7 {i j:Int}:zkF [.int i,.int j]=pure (.int (if j>i then j else i)):=rfl
theorem zm5 (xs:List Int):dNe (tI xs) (.tup [])=pure (.bl (!xs.isEmpty)):=by
 show zj1 true _ _=_
 unfold zj1
 rw [zpL xs,show pd (.tup [])=some (.tuple []) from rfl]
 have c:zgo (.tuple (xs.map PyData.int)) (.tuple [])=true:=by
  unfold zgo
  simp [PyData.canLay0,PyData.canLayAll0,zaL,PyData.depth,PyData.depthAll,zaU]
 simp only [c,if_true,PyData.eqv]
 cases xs<;>rfl
theorem zkV {b:Nat} {turn:D->M (Option D)} (ht: ∀ (i:Int) {h:Hh} {Q:Option D->Hh->Prop},Bx b h->(∀ o h',Ext b h h'->(o=none\/o=some (.int i))->Q o h')->wp (turn (.int i)) h Q):
  ∀ (is:List Int) {h:Hh} {P:List D->Hh->Prop},Bx b h->(∀ (ys:List Int) h',Ext b h h'->ys.Sublist is->P (ys.map D.int) h')->wp (zdq turn (is.map D.int)) h P
 | [],h,P,q,k=>by
  rw [List.map_nil,zdq,zas]
  exact k [] h (Ext.refl q) .slnil
 | i::r,h,P,q,k=>by
  rw [qaM,zdq,zaA]
  refine ht i q fun o h2 x2 ho=> ?_
  rw [zaA]
  refine zkV ht r x2.1 fun ys h3 x3 hl=> ?_
  rw [zas]
  rcases ho with rfl | rfl
  ·exact k ys h3 (x2.trans x3) (.cons _ hl)
  ·exact k (i::ys) h3 (x2.trans x3) (.cons₂ _ hl)
theorem zbQ (n:Nat):((List.range n).map fun (k:Nat)=>(k:Int)).Pairwise (· < ·):=by
 rw [List.pairwise_map]
 exact List.pairwise_lt_range.imp fun z=>by omega
theorem zc6 {n:Nat}: ∀ x∈(List.range n).map fun (k:Nat)=>(k:Int),0<=x/\x<n:=fun x hx=>by
 obtain ⟨k,hk,rfl⟩:=qaU.mp hx
 have:=List.mem_range.mp hk
 omega
def EvX {α:Type} (m:M α) (c:String):Prop:= ∀ h, ∃ h',m h= .exc c h'/\Gro h h'
section
variable {α β:Type} {m:M α} {a:α} {f:α->M β} {c:String}
theorem EvX.raise:EvX (zg9 c:M α) c:=fun h=>⟨h,rfl,.refl⟩
theorem EvX.of (e:m=zg9 c):EvX m c:=e▸ .raise
theorem EvX.left (x:EvX m c):EvX (m>>=f) c:=fun h=>by
 obtain ⟨h1,e1,g1⟩:=x h
 refine ⟨h1,?_,g1⟩
 show M.bind m f h=_
 unfold M.bind
 rw [e1]
end
theorem zqW {g:FS} {sd:Sd}:zur g sd=noX (g sd):=rfl
theorem zqz {g:FE} {sd:Sd}:zus g sd=noX (g sd):=rfl
theorem zgj (xs:List D) {k:Int} (h:0<=k):L3.zj2 xs none (some k)=xs.take k.toNat:=by
 have e:=HT.zln xs.length xs.length k.toNat
 rw [Int.toNat_of_nonneg h] at e
 unfold L3.zj2
 have e0:HT.sIx xs.length 0 none=0:=rfl
 rw [e0,e]
 simp
theorem zgi (xs:List D) {k:Int} (h:0<=k):L3.zj2 xs (some k) none=xs.drop k.toNat:=by
 have e:=HT.zln xs.length 0 k.toNat
 rw [Int.toNat_of_nonneg h] at e
 unfold L3.zj2
 have e0:HT.sIx xs.length xs.length none=xs.length:=rfl
 rw [e0,e]
 by_cases hk:k.toNat<=xs.length
 ·rw [Nat.min_eq_left hk,List.take_of_length_le (by rw [List.length_drop];omega)]
 ·rw [Nat.min_eq_right (by omega),List.drop_eq_nil_of_le (show xs.length<=k.toNat by omega)]
  simp
theorem zky {xs:List Int} {m:Int} (m0:0<=m) (h:xs.Pairwise (· < ·)) (b: ∀ x∈xs,0<=x/\x<m):(xs==(List.range m.toNat).map fun (k:Nat)=>(k:Int))=((xs.length:Int)==m):=by
 rw [Bool.eq_iff_iff,beq_iff_eq,beq_iff_eq]
 constructor
 ·intro e
  rw [e]
  simp
  omega
 ·intro e
  refine zlM h (zbQ _) fun k=>⟨fun hk=> ?_,fun hk=> ?_⟩
  ·obtain ⟨h1,h2⟩:=b k hk
   exact qaU.mpr ⟨k.toNat,List.mem_range.mpr (by omega),by omega⟩
  ·have hb:=zc6 k hk
   by_cases c:k∈xs
   ·exact c
   ·exfalso
    have:=zlK (xs:=k::xs) m0 (List.nodup_cons.mpr ⟨c,h.imp fun z=>by omega⟩) fun x hx=>by
     rcases qaP.mp hx with rfl | hx
     ·omega
     ·exact b x hx
    rw [qaE] at this
    omega
end L3
namespace K66
open PySem PySem.Spec PyProof.Rows L2 L3
noncomputable def G_42:FS:=zap (sIf (zcx dLt (zaf 1) (zat zdz (zac (zaf 0) zan))) (zby (cOp dIx (zaf 0) (zaf 1))) zeA) (zby (cOp zdJ (cOp zoy (cK (.int 6151)) (zaf 1)) (cK (.int 29))))
noncomputable def F_42:List D->M D:=zb2 2 G_42
theorem d_42 (x0 x1:D):F_42 [x0,x1]=(do let o<-G_42 [some x0,some x1];zbT o):=rfl
noncomputable def G_43:FS:=zap (zbx 2 (cOp zdJ (cOp zgl (cOp zdJ (zaf 0) (cK (.int 1))) (cK (.int 40692))) (cOp zgl (cK (.int 104729)) (zaf 1)))) (zap (zbx 2 (cOp zdJ (cOp zqv (cOp zgl (zaf 2) (zaf 2)) (cK (.int 2147483399))) (zaf 1))) (zby (cOp zqv (cOp zgl (zaf 2) (cOp zdJ (zaf 2) (cK (.int 31)))) (cK (.int 2147483563)))))
noncomputable def F_43:List D->M D:=zb2 3 G_43
theorem d_43 (x0 x1:D):F_43 [x0,x1]=(do let o<-G_43 [some x0,some x1,none];zbT o):=rfl
noncomputable def zc4:FS:=zbx 3 (cOp zdJ (cOp zgl (zaf 3) (cK (.int 2147483647))) (zat (zal 2 F_43) (zac (zaf 2) (zac (zaf 4) zan))))
noncomputable def G_44:FS:=zap (zbx 2 (zat (zal 2 F_42) (zac (zaf 0) (zac (zaf 1) zan)))) (zap (sIf (zcx dEq (cOp zqv (zaf 2) (cK (.int 2))) (cK (.int 0))) (zby (zgQ (zac (cOp zpk (zaf 2) (cK (.int 2))) zan))) zeA) (zap (zbx 3 (cK (.int 0))) (zap (zj4 (zgK (zac (cK (.int 24)) zan)) (zaB 4) zc4) (zby (zgQ (zac (zaf 3) zan))))))
noncomputable def F_44:List D->M D:=zb2 5 G_44
theorem d_44 (x0 x1:D):F_44 [x0,x1]=(do let o<-G_44 [some x0,some x1,none,none,none];zbT o):=rfl
noncomputable def zcQ:FE:=cOp dIx (zaf 0) (cK (.int 0))
noncomputable def zd2:FE:=zaf 0
noncomputable def zdO:FT:=zcx zfj (zaf 0) (zaf 1)
noncomputable def G_38:FS:=zap (zbx 2 (zaw (iSq (zaf 1)) (zaB 0) (fun _=>pure true) zcQ [none])) (zby (zaw (zgK (zac (zaf 0) zan)) (zaB 0) zdO zd2 [none,some 2]))
noncomputable def F_38:List D->M D:=zb2 3 G_38
theorem d_38 (x0 x1:D):F_38 [x0,x1]=(do let o<-G_38 [some x0,some x1,none];zbT o):=rfl
noncomputable def za6:FS:=zed (zh0 (zaf 1) (cOp dIx (zaf 2) (cK (.int 0))))
noncomputable def G_14:FS:=zap (zbx 1 (zgQ zan)) (zap (zj4 (iSq (zaf 0)) (zaB 2) za6) (zby (zat zbS (zac (cUn zdP (zaf 1)) zan))))
noncomputable def F_14:List D->M D:=zb2 3 G_14
theorem d_14 (x0:D):F_14 [x0]=(do let o<-G_14 [some x0,none,none];zbT o):=rfl
noncomputable def G_15:FS:=zby (cOp dEq (zat zdz (zac (zat (zal 1 F_14) (zac (zaf 1) zan)) zan)) (cOp dIx (zaf 0) (cK (.int 0))))
noncomputable def F_15:List D->M D:=zb2 2 G_15
theorem d_15 (x0 x1:D):F_15 [x0,x1]=(do let o<-G_15 [some x0,some x1];zbT o):=rfl
noncomputable def G_9:FS:=zby (zat (zal 2 F_15) (zac (zaf 0) (zac (cOp dIx (zaf 0) (cK (.int 1))) zan)))
noncomputable def F_9:List D->M D:=zb2 1 G_9
theorem d_9 (x0:D):F_9 [x0]=(do let o<-G_9 [some x0];zbT o):=rfl
noncomputable def G_11:FS:=sIf (zh2 (zir (zat (zal 1 F_9) (zac (zaf 0) zan)))) zsq zeA
noncomputable def F_11:List D->M D:=zb2 1 G_11
theorem d_11 (x0:D):F_11 [x0]=(do let o<-G_11 [some x0];zbT o):=rfl
noncomputable def G_35:FS:=zby (zl8 (cOp dIx (cOp dIx (zaf 0) (zaf 2)) (zaf 1)) (cOr (cOp dLt (zaf 1) (zaf 2)) (zsr (cOp dIx (cOp dIx (zaf 0) (zaf 1)) (zaf 2)))))
noncomputable def F_35:List D->M D:=zb2 3 G_35
theorem d_35 (x0 x1 x2:D):F_35 [x0,x1,x2]=(do let o<-G_35 [some x0,some x1,some x2];zbT o):=rfl
noncomputable def zci:FE:=zaf 0
noncomputable def zck:FT:=zir (zat (zal 3 F_35) (zac (zaf 1) (zac (zaf 0) (zac (zaf 2) zan))))
noncomputable def zcm:FS:=zap (zbx 3 (zaw (zgK (zac (zat zdz (zac (zaf 0) zan)) zan)) (zaB 0) zck zci [none,some 0,some 2])) (sIf (zn7 (zaf 3)) (zed (zb9 (zaf 1) (zeH (zac (zaf 2) (zac (cOp dIx (zaf 3) (cK (.int 0))) zan))))) zeA)
noncomputable def G_34:FS:=zap (zbx 1 (zgQ zan)) (zap (zj4 (zgK (zac (zat zdz (zac (zaf 0) zan)) zan)) (zaB 2) zcm) (zby (cUn zp3 (zaf 1))))
noncomputable def F_34:List D->M D:=zb2 4 G_34
theorem d_34 (x0:D):F_34 [x0]=(do let o<-G_34 [some x0,none,none,none];zbT o):=rfl
noncomputable def zcS:FE:=cOp dIn (zaf 0) (zaf 1)
noncomputable def G_33:FS:=zby (zat zso (zac (zaw (iSq (zaf 0)) (zaB 0) (fun _=>pure true) zcS [none,some 1]) zan))
noncomputable def F_33:List D->M D:=zb2 2 G_33
theorem d_33 (x0 x1:D):F_33 [x0,x1]=(do let o<-G_33 [some x0,some x1];zbT o):=rfl
noncomputable def zbD:FE:=zl8 (cOp dLe (cOp dIx (zaf 0) (cK (.int 1))) (cOp dIx (zaf 1) (cK (.int 1)))) (zat (zal 2 F_33) (zac (cOp dIx (zaf 1) (cK (.int 0))) (zac (cOp dIx (zaf 0) (cK (.int 0))) zan)))
noncomputable def G_30:FS:=zby (zaw (iSq (cOp dIx (zaf 0) (cK (.int 1)))) (zaB 0) (fun _=>pure true) zbD [none,some 1])
noncomputable def F_30:List D->M D:=zb2 2 G_30
theorem d_30 (x0 x1:D):F_30 [x0,x1]=(do let o<-G_30 [some x0,some x1];zbT o):=rfl
noncomputable def zbu:FE:=zat (zal 2 F_30) (zac (zaf 1) (zac (zaf 0) zan))
noncomputable def G_29:FS:=zby (zaw (iSq (cOp dIx (zaf 0) (cK (.int 1)))) (zaB 0) (fun _=>pure true) zbu [none,some 0])
noncomputable def F_29:List D->M D:=zb2 1 G_29
theorem d_29 (x0:D):F_29 [x0]=(do let o<-G_29 [some x0];zbT o):=rfl
noncomputable def G_24:FS:=zap (zed (zat (zal 1 F_11) (zac (zaf 0) zan))) (zby (zat (zal 1 F_34) (zac (zat (zal 1 F_29) (zac (zaf 0) zan)) zan)))
noncomputable def F_24:List D->M D:=zb2 1 G_24
theorem d_24 (x0:D):F_24 [x0]=(do let o<-G_24 [some x0];zbT o):=rfl
noncomputable def zbA:FE:=zaf 0
noncomputable def zbC:FT:=zcx dIn (zaf 2) (cOp dIx (zaf 1) (cK (.int 0)))
noncomputable def G_16:FS:=zby (zat zbS (zac (zaw (ztu (cOp dIx (zaf 0) (cK (.int 1)))) (zch 2 (zaz (zaB 0) (zaz (zaB 1) zcg))) zbC zbA [none,none,some 1]) zan))
noncomputable def F_16:List D->M D:=zb2 2 G_16
theorem d_16 (x0 x1:D):F_16 [x0,x1]=(do let o<-G_16 [some x0,some x1];zbT o):=rfl
noncomputable def zbo:FE:=zat (zal 2 F_33) (zac (zat (zal 2 F_16) (zac (zaf 1) (zac (zaf 0) zan))) (zac (zaf 2) zan))
noncomputable def G_32:FS:=zap (zbx 2 (zat (zal 2 F_16) (zac (zaf 0) (zac (zaf 1) zan)))) (zby (zaw (zgK (zac (cOp dIx (zaf 0) (cK (.int 0))) zan)) (zaB 0) (fun _=>pure true) zbo [none,some 0,some 2]))
noncomputable def F_32:List D->M D:=zb2 3 G_32
theorem d_32 (x0 x1:D):F_32 [x0,x1]=(do let o<-G_32 [some x0,some x1,none];zbT o):=rfl
noncomputable def zbt:FE:=zat (zal 2 F_32) (zac (zaf 1) (zac (zaf 0) zan))
noncomputable def G_31:FS:=zby (zaw (zgK (zac (cOp dIx (zaf 0) (cK (.int 0))) zan)) (zaB 0) (fun _=>pure true) zbt [none,some 0])
noncomputable def F_31:List D->M D:=zb2 1 G_31
theorem d_31 (x0:D):F_31 [x0]=(do let o<-G_31 [some x0];zbT o):=rfl
noncomputable def G_25:FS:=zap (zed (zat (zal 1 F_11) (zac (zaf 0) zan))) (zby (zat (zal 1 F_34) (zac (zat (zal 1 F_31) (zac (zaf 0) zan)) zan)))
noncomputable def F_25:List D->M D:=zb2 1 G_25
theorem d_25 (x0:D):F_25 [x0]=(do let o<-G_25 [some x0];zbT o):=rfl
noncomputable def zes:FE:=zaf 0
noncomputable def zc5:FT:=zcx dIn (zaf 1) (cOp dIx (zaf 2) (cK (.int 0)))
noncomputable def G_18:FS:=zby (zat zbS (zac (zaw (zpD (zaf 1)) (zch 2 (zaz (zaB 0) (zaz (zaB 1) zcg))) zc5 zes [none,none,some 0]) zan))
noncomputable def F_18:List D->M D:=zb2 2 G_18
theorem d_18 (x0 x1:D):F_18 [x0,x1]=(do let o<-G_18 [some x0,some x1];zbT o):=rfl
noncomputable def zdw:FE:=cOp dIx (cOp dIx (zaf 1) (cK (.int 1))) (zaf 0)
noncomputable def zdI:FE:=zeH (zac (zat (zal 2 F_18) (zac (zaf 0) (zac (zaf 1) zan))) (zac (cOp dIx (zaf 0) (cK (.int 1))) zan))
noncomputable def G_17:FS:=zap (zbx 3 (zaw (iSq (zaf 2)) (zaB 0) (fun _=>pure true) zdw [none,some 0])) (zby (zeH (zac (zat zdz (zac (zaf 1) zan)) (zac (zat zbS (zac (zaw (iSq (zaf 3)) (zaB 0) (fun _=>pure true) zdI [none,some 1]) zan)) zan))))
noncomputable def F_17:List D->M D:=zb2 4 G_17
theorem d_17 (x0 x1 x2:D):F_17 [x0,x1,x2]=(do let o<-G_17 [some x0,some x1,some x2,none];zbT o):=rfl
noncomputable def zbY:FE:=zaf 0
noncomputable def zbV:FT:=zn7 (zat (zal 2 F_18) (zac (cOp dIx (cOp dIx (zaf 1) (cK (.int 1))) (zaf 0)) (zac (zaf 2) zan)))
noncomputable def zbX:FE:=cOp dIx (cOp dIx (zaf 1) (cK (.int 1))) (zaf 0)
noncomputable def zbU:FE:=cOp dIx (cOp dIx (zaf 1) (cK (.int 2))) (zaf 0)
noncomputable def G_37:FS:=zap (zbx 1 (cOp dIx (zaf 0) (cK (.int 0)))) (zap (zbx 2 (zat (zal 2 F_38) (zac (zat zdz (zac (cOp dIx (zaf 1) (cK (.int 1))) zan)) (zac (zat (zal 1 F_24) (zac (zaf 1) zan)) zan)))) (zap (zbx 3 (cUn zcM (cOp dIx (zaf 1) (cK (.int 0))))) (zap (zbx 4 (zat (zal 2 F_38) (zac (cOp dIx (zaf 1) (cK (.int 0))) (zac (zat (zal 1 F_25) (zac (zat (zal 3 F_17) (zac (zaf 1) (zac (zaf 3) (zac (zaf 2) zan)))) zan)) zan)))) (zap (zbx 2 (zaw (iSq (zaf 2)) (zaB 0) zbV zbY [none,some 1,some 4])) (zap (zbx 5 (zat zbS (zac (zaw (iSq (zaf 4)) (zaB 0) (fun _=>pure true) zbX [none,some 0]) zan))) (zap (zbx 6 (zat zbS (zac (zaw (iSq (zaf 2)) (zaB 0) (fun _=>pure true) zbU [none,some 0]) zan))) (zby (zeH (zac (zat (zal 3 F_17) (zac (zaf 1) (zac (zaf 4) (zac (zaf 2) zan)))) (zac (zaf 5) (zac (zaf 6) zan)))))))))))
noncomputable def F_37:List D->M D:=zb2 7 G_37
theorem d_37 (x0:D):F_37 [x0]=(do let o<-G_37 [some x0,none,none,none,none,none,none];zbT o):=rfl
noncomputable def zaT:FT:=zcx dNe (zaf 2) (cOp dIx (zaf 1) (cUn znJ (cK (.int 1))))
noncomputable def za7:FS:=zap (zed (zb9 (zaf 1) (zaf 2))) (zbx 2 (zat (zal 1 F_37) (zac (zaf 2) zan)))
noncomputable def G_36:FS:=zap (zbx 1 (zgQ (zac (zeH (zac (zaf 0) (zac (cUn zf2 (cOp dIx (zaf 0) (cK (.int 0)))) (zac (cUn zf2 (zat zdz (zac (cOp dIx (zaf 0) (cK (.int 1))) zan))) zan)))) zan))) (zap (zbx 2 (zat (zal 1 F_37) (zac (cOp dIx (zaf 1) (cUn znJ (cK (.int 1)))) zan))) (zap (zjc 1000 zaT za7) (zby (cUn zp3 (zaf 1)))))
noncomputable def F_36:List D->M D:=zb2 3 G_36
theorem d_36 (x0:D):F_36 [x0]=(do let o<-G_36 [some x0,none,none];zbT o):=rfl
noncomputable def G_26:FS:=zby (cOp dIx (zat (zal 1 F_36) (zac (zaf 0) zan)) (cUn znJ (cK (.int 1))))
noncomputable def F_26:List D->M D:=zb2 1 G_26
theorem d_26 (x0:D):F_26 [x0]=(do let o<-G_26 [some x0];zbT o):=rfl
noncomputable def G_4:FS:=zby (zl8 (cUn (zjS "tuple") (zaf 0)) (cOp dEq (zat zdz (zac (zaf 0) zan)) (cK (.int 2))))
noncomputable def F_4:List D->M D:=zb2 1 G_4
theorem d_4 (x0:D):F_4 [x0]=(do let o<-G_4 [some x0];zbT o):=rfl
noncomputable def G_3:FS:=zby (zl8 (cUn (zjS "int") (zaf 0)) (zsr (cUn (zjS "bool") (zaf 0))))
noncomputable def F_3:List D->M D:=zb2 1 G_3
theorem d_3 (x0:D):F_3 [x0]=(do let o<-G_3 [some x0];zbT o):=rfl
noncomputable def zbi:FS:=zap (sIf (tOr (zh2 (zir (zat (zal 1 F_3) (zac (zaf 3) zan)))) (tOr (zcx dLt (zaf 3) (zaf 2)) (zcx dGe (zaf 3) (zaf 1)))) (zby (cK (.bl false))) zeA) (zbx 2 (cOp zdJ (zaf 3) (cK (.int 1))))
noncomputable def G_5:FS:=zap (sIf (zh2 (zir (cUn (zjS "tuple") (zaf 0)))) (zby (cK (.bl false))) zeA) (zap (zbx 2 (cK (.int 0))) (zap (zj4 (iSq (zaf 0)) (zaB 3) zbi) (zby (cK (.bl true)))))
noncomputable def F_5:List D->M D:=zb2 4 G_5
theorem d_5 (x0 x1:D):F_5 [x0,x1]=(do let o<-G_5 [some x0,some x1,none,none];zbT o):=rfl
noncomputable def G_7:FS:=zap (sIf (zh2 (zir (zat (zal 1 F_4) (zac (zaf 0) zan)))) (zby (cK (.bl false))) zeA) (zap (zbx 2 (cOp dIx (zaf 0) (cK (.int 0)))) (zap (zbx 3 (cOp dIx (zaf 0) (cK (.int 1)))) (zby (zl8 (zat (zal 2 F_5) (zac (zaf 2) (zac (zaf 1) zan))) (zl8 (cOp dGt (zat zdz (zac (zaf 2) zan)) (cK (.int 0))) (zl8 (zat (zal 1 F_3) (zac (zaf 3) zan)) (cOp dGt (zaf 3) (cK (.int 0)))))))))
noncomputable def F_7:List D->M D:=zb2 4 G_7
theorem d_7 (x0 x1:D):F_7 [x0,x1]=(do let o<-G_7 [some x0,some x1,none,none];zbT o):=rfl
noncomputable def zdi:FE:=zat (zal 2 F_7) (zac (zaf 0) (zac (zaf 1) zan))
noncomputable def G_6:FS:=zap (sIf (zh2 (zir (zat (zal 1 F_4) (zac (zaf 0) zan)))) (zby (cK (.bl false))) zeA) (zap (zbx 1 (cOp dIx (zaf 0) (cK (.int 0)))) (zap (zbx 2 (cOp dIx (zaf 0) (cK (.int 1)))) (zap (sIf (tOr (zh2 (zir (zat (zal 1 F_3) (zac (zaf 1) zan)))) (tOr (zcx dLt (zaf 1) (cK (.int 1))) (zcx dGt (zaf 1) (cK (.int 10))))) (zby (cK (.bl false))) zeA) (zap (sIf (tOr (zh2 (zir (cUn (zjS "tuple") (zaf 2)))) (zcx dGt (zat zdz (zac (zaf 2) zan)) (cK (.int 12)))) (zby (cK (.bl false))) zeA) (zby (zat zso (zac (zaw (iSq (zaf 2)) (zaB 0) (fun _=>pure true) zdi [none,some 1]) zan)))))))
noncomputable def F_6:List D->M D:=zb2 3 G_6
theorem d_6 (x0:D):F_6 [x0]=(do let o<-G_6 [some x0,none,none];zbT o):=rfl
noncomputable def zcK:FS:=zap (zbx 2 (cOp zoy (zaf 2) (cK (.int 2)))) (sIf (zcx dIn (zaf 3) (zaf 1)) (zbx 2 (cOp zdJ (zaf 2) (cK (.int 1)))) zeA)
noncomputable def G_23:FS:=zap (zbx 2 (cK (.int 0))) (zap (zj4 (zgK (zac (zaf 0) zan)) (zaB 3) zcK) (zby (zaf 2)))
noncomputable def F_23:List D->M D:=zb2 4 G_23
theorem d_23 (x0 x1:D):F_23 [x0,x1]=(do let o<-G_23 [some x0,some x1,none,none];zbT o):=rfl
noncomputable def zcs:FE:=zeH (zac (cOp zdJ (cOp dIx (zaf 1) (cK (.int 1))) (cOp dIx (zaf 0) (cK (.int 0)))) (zac (cOp zdJ (zeH (zac (zaf 2) zan)) (cOp dIx (zaf 0) (cK (.int 1)))) (zac (cOp dOr (zaf 3) (cOp dIx (zaf 0) (cK (.int 2)))) zan)))
noncomputable def zbq:FS:=zap (zbx 3 (cOp dIx (cOp dIx (zaf 0) (cK (.int 1))) (zaf 2))) (zap (zbx 4 (zat (zal 2 F_23) (zac (cOp dIx (zaf 0) (cK (.int 0))) (zac (cOp dIx (zaf 3) (cK (.int 0))) zan)))) (zap (zbx 5 (zaw (iSq (zaf 1)) (zaB 0) (fun _=>pure true) zcs [none,some 3,some 2,some 4])) (zbx 1 (cOp zdJ (cOp zdJ (cSl (zaf 1) zgZ (zhH (cK (.int 1)))) (zaf 5)) (cSl (zaf 1) (zhH (cK (.int 1))) zgZ)))))
noncomputable def G_22:FS:=zap (zbx 1 (zlx (zac (zeH (zac (cK (.int 0)) (zac (zeH zan) (zac (cK (.int 0)) zan)))) zan))) (zap (zj4 (zow (zac (cOp zo6 (zat zdz (zac (cOp dIx (zaf 0) (cK (.int 1))) zan)) (cK (.int 1))) (zac (cUn znJ (cK (.int 1))) (zac (cUn znJ (cK (.int 1))) zan)))) (zaB 2) zbq) (zby (zaf 1)))
noncomputable def F_22:List D->M D:=zb2 6 G_22
theorem d_22 (x0:D):F_22 [x0]=(do let o<-G_22 [some x0,none,none,none,none,none];zbT o):=rfl
noncomputable def zbI:FE:=zeH (zac (cOp dIx (zaf 0) (cK (.int 0))) (zac (cOp dIx (zaf 0) (cK (.int 1))) zan))
noncomputable def zbJ:FT:=zcx dEq (cOp dIx (zaf 0) (cK (.int 2))) (zaf 1)
noncomputable def G_21:FS:=zap (zbx 1 (zat (zal 2 F_23) (zac (cOp dIx (zaf 0) (cK (.int 0))) (zac (cUn zcM (cOp dIx (zaf 0) (cK (.int 0)))) zan)))) (zby (zaw (iSq (zat (zal 1 F_22) (zac (zaf 0) zan))) (zaB 0) zbJ zbI [none,some 1]))
noncomputable def F_21:List D->M D:=zb2 2 G_21
theorem d_21 (x0:D):F_21 [x0]=(do let o<-G_21 [some x0,none];zbT o):=rfl
noncomputable def G_41:FS:=zap (zed (zat (zal 1 F_11) (zac (zaf 0) zan))) (zby (cOp dIx (zat zpU (zac (zat (zal 1 F_21) (zac (zaf 0) zan)) zan)) (cK (.int 1))))
noncomputable def F_41:List D->M D:=zb2 1 G_41
theorem d_41 (x0:D):F_41 [x0]=(do let o<-G_41 [some x0];zbT o):=rfl
noncomputable def G_8:FS:=zby (zat (zal 2 F_5) (zac (zaf 1) (zac (zat zdz (zac (cOp dIx (zaf 0) (cK (.int 1))) zan)) zan)))
noncomputable def F_8:List D->M D:=zb2 2 G_8
theorem d_8 (x0 x1:D):F_8 [x0,x1]=(do let o<-G_8 [some x0,some x1];zbT o):=rfl
noncomputable def G_12:FS:=sIf (zh2 (zir (zat (zal 2 F_8) (zac (zaf 0) (zac (zaf 1) zan))))) zsq zeA
noncomputable def F_12:List D->M D:=zb2 2 G_12
theorem d_12 (x0 x1:D):F_12 [x0,x1]=(do let o<-G_12 [some x0,some x1];zbT o):=rfl
noncomputable def zdZ:FE:=cOp dIx (cOp dIx (zaf 1) (cK (.int 1))) (zaf 0)
noncomputable def G_13:FS:=zap (zed (zat (zal 2 F_12) (zac (zaf 0) (zac (zaf 1) zan)))) (zby (zaw (iSq (zaf 1)) (zaB 0) (fun _=>pure true) zdZ [none,some 0]))
noncomputable def F_13:List D->M D:=zb2 2 G_13
theorem d_13 (x0 x1:D):F_13 [x0,x1]=(do let o<-G_13 [some x0,some x1];zbT o):=rfl
noncomputable def G_19:FS:=zby (zl8 (zat (zal 2 F_8) (zac (zaf 0) (zac (zaf 1) zan))) (zat (zal 2 F_15) (zac (zaf 0) (zac (zat (zal 2 F_13) (zac (zaf 0) (zac (zaf 1) zan))) zan))))
noncomputable def F_19:List D->M D:=zb2 2 G_19
theorem d_19 (x0 x1:D):F_19 [x0,x1]=(do let o<-G_19 [some x0,some x1];zbT o):=rfl
noncomputable def G_20:FS:=sIf (zh2 (zir (zat (zal 2 F_19) (zac (zaf 0) (zac (zaf 1) zan))))) zsq zeA
noncomputable def F_20:List D->M D:=zb2 2 G_20
theorem d_20 (x0 x1:D):F_20 [x0,x1]=(do let o<-G_20 [some x0,some x1];zbT o):=rfl
noncomputable def zde:FE:=cOp dIx (cOp dIx (zaf 1) (cK (.int 2))) (zaf 0)
noncomputable def G_28:FS:=zap (zed (zat (zal 2 F_12) (zac (zaf 0) (zac (zaf 1) zan)))) (zap (zbx 2 (zat (zal 1 F_26) (zac (zaf 0) zan))) (zap (zed (zat (zal 2 F_20) (zac (cOp dIx (zaf 2) (cK (.int 0))) (zac (zaf 1) zan)))) (zby (zat zbS (zac (zaw (iSq (zaf 1)) (zaB 0) (fun _=>pure true) zde [none,some 2]) zan)))))
noncomputable def F_28:List D->M D:=zb2 3 G_28
theorem d_28 (x0 x1:D):F_28 [x0,x1]=(do let o<-G_28 [some x0,some x1,none];zbT o):=rfl
noncomputable def zdg:FE:=cOp dIx (zaf 0) (cK (.int 1))
noncomputable def G_10:FS:=zby (zat ztj (zac (zaw (iSq (zat (zal 2 F_13) (zac (zaf 0) (zac (zaf 1) zan)))) (zaB 0) (fun _=>pure true) zdg [none]) zan))
noncomputable def F_10:List D->M D:=zb2 2 G_10
theorem d_10 (x0 x1:D):F_10 [x0,x1]=(do let o<-G_10 [some x0,some x1];zbT o):=rfl
noncomputable def zdy:FE:=zaf 0
noncomputable def zdG:FT:=zcx zfj (zaf 0) (zaf 1)
noncomputable def G_40:FS:=zby (zat zbS (zac (zaw (iSq (zaf 0)) (zaB 0) zdG zdy [none,some 1]) zan))
noncomputable def F_40:List D->M D:=zb2 2 G_40
theorem d_40 (x0 x1:D):F_40 [x0,x1]=(do let o<-G_40 [some x0,some x1];zbT o):=rfl
noncomputable def G_39:FS:=zby (zeH (zac (zat (zal 2 F_40) (zac (cOp dIx (zaf 0) (cK (.int 2))) (zac (cOp dIx (zaf 1) (cK (.int 2))) zan))) (zac (zat (zal 2 F_40) (zac (cOp dIx (zaf 0) (cK (.int 1))) (zac (cOp dIx (zaf 1) (cK (.int 1))) zan))) zan)))
noncomputable def F_39:List D->M D:=zb2 2 G_39
theorem d_39 (x0 x1:D):F_39 [x0,x1]=(do let o<-G_39 [some x0,some x1];zbT o):=rfl
noncomputable def zef:FE:=zat (zal 2 F_39) (zac (cOp dIx (zaf 1) (cOp zo6 (zaf 0) (cK (.int 1)))) (zac (cOp dIx (zaf 1) (zaf 0)) zan))
noncomputable def G_27:FS:=zap (zbx 1 (zat (zal 1 F_36) (zac (zaf 0) zan))) (zby (zaw (zkM (zac (cK (.int 1)) (zac (zat zdz (zac (zaf 1) zan)) zan))) (zaB 0) (fun _=>pure true) zef [none,some 1]))
noncomputable def F_27:List D->M D:=zb2 2 G_27
theorem d_27 (x0:D):F_27 [x0]=(do let o<-G_27 [some x0,none];zbT o):=rfl
noncomputable def zbP:FS:=zap (zbx 8 (cOp zdJ (zaf 8) (zat zjk (zac (zaf 9) zan)))) (zbx 7 (cOp zdJ (zaf 7) (zat zjk (zac (zaf 10) zan))))
noncomputable def zcp:FE:=zaf 0
noncomputable def zcv:FT:=zcx zfj (zaf 0) (cOp dIx (cOp dIx (cOp dIx (zaf 1) (cK (.int 1))) (zaf 2)) (cK (.int 0)))
noncomputable def zbO:FS:=sIf (zcx dNe (zaw (iSq (cOp dIx (cOp dIx (cOp dIx (zaf 0) (cK (.int 1))) (zaf 11)) (cK (.int 0)))) (zaB 0) zcv zcp [none,some 0,some 12]) (zlx zan)) (zby (cK (.bl false))) zeA
noncomputable def G_49:FS:=zap (znK (zat (zal 1 F_26) (zac (zaf 0) zan)) (zch 3 (zaz (zaB 1) (zaz (zaB 2) (zaz (zaB 3) zcg))))) (zap (sIf (tOr (zcx zfX (zat (zal 1 F_6) (zac (zaf 1) zan)) (cK (.bl true))) (zcx zfX (zat (zal 1 F_9) (zac (zaf 1) zan)) (cK (.bl true)))) (zby (cK (.bl false))) zeA) (zap (sIf (tOr (zcx dNe (zat zdz (zac (zaf 2) zan)) (cOp dIx (zaf 1) (cK (.int 0)))) (zcx dNe (zat zdz (zac (zaf 3) zan)) (zat zdz (zac (cOp dIx (zaf 1) (cK (.int 1))) zan)))) (zby (cK (.bl false))) zeA) (zap (zbx 4 (zat (zal 1 F_41) (zac (zaf 1) zan))) (zap (zbx 5 (zat (zal 2 F_28) (zac (zaf 0) (zac (zaf 4) zan)))) (zap (zbx 6 (zat (zal 2 F_10) (zac (zaf 0) (zac (zat (zal 1 F_41) (zac (zaf 0) zan)) zan)))) (zap (sIf (tOr (zcx zfX (zat (zal 2 F_19) (zac (zaf 0) (zac (zaf 5) zan))) (cK (.bl true))) (tOr (zcx dNe (zat (zal 2 F_10) (zac (zaf 0) (zac (zaf 5) zan))) (zaf 6)) (zcx dNe (zat (zal 2 F_10) (zac (zaf 1) (zac (zaf 4) zan))) (zaf 6)))) (zby (cK (.bl false))) zeA) (zap (sIf (tOr (zcx dNe (zat (zal 1 F_24) (zac (zaf 1) zan)) (zlx zan)) (tOr (zcx dNe (zat (zal 1 F_25) (zac (zaf 1) zan)) (zlx zan)) (zcx dNe (zat (zal 1 F_27) (zac (zaf 1) zan)) (zlx zan)))) (zby (cK (.bl false))) zeA) (zap (zbx 7 (zat zjk (zac (zaf 2) zan))) (zap (zbx 8 (zat zjk (zac (zaf 3) zan))) (zap (zj4 (iSq (zat (zal 1 F_27) (zac (zaf 0) zan))) (zch 2 (zaz (zaB 9) (zaz (zaB 10) zcg))) zbP) (zap (sIf (tOr (zcx dNe (zat zgw (zac (zaf 7) zan)) (cUn zcM (cOp dIx (zaf 0) (cK (.int 0))))) (zcx dNe (zat zgw (zac (zaf 8) zan)) (cUn zcM (zat zdz (zac (cOp dIx (zaf 0) (cK (.int 1))) zan))))) (zby (cK (.bl false))) zeA) (zap (zj4 (iSq (zat (zal 1 F_24) (zac (zaf 0) zan))) (zch 2 (zaz (zaB 11) (zaz (zaB 12) zcg))) zbO) (zby (cOp dEq (cOp dIx (zat (zal 1 F_26) (zac (zaf 1) zan)) (cK (.int 0))) (zaf 1)))))))))))))))
noncomputable def F_49:List D->M D:=zb2 13 G_49
theorem d_49 (x0:D):F_49 [x0]=(do let o<-G_49 [some x0,none,none,none,none,none,none,none,none,none,none,none,none];zbT o):=rfl
noncomputable def G_45:FS:=zap (znK (zat zeN (zac (cOp dIx (zaf 0) (cK (.int 0))) (zac (zaf 1) zan))) (zch 2 (zaz (zaB 2) (zaz (zaB 3) zcg)))) (zap (znK (zaf 2) (zod (zaf 0) (cK (.int 0)))) (zby (zaf 3)))
noncomputable def F_45:List D->M D:=zb2 4 G_45
theorem d_45 (x0 x1:D):F_45 [x0,x1]=(do let o<-G_45 [some x0,some x1,none,none];zbT o):=rfl
noncomputable def zcq:FE:=zaf 0
noncomputable def zcw:FT:=zcx dLe (zat (zal 2 F_45) (zac (zaf 1) (zac (cK (.int 4)) zan))) (zaf 2)
noncomputable def zbr:FS:=zap (zbx 8 (zaw (zgK (zac (zaf 3) zan)) (zaB 0) zcw zcq [none,some 0,some 5])) (zap (sIf (zcx dEq (zaf 8) (zlx zan)) (zbx 8 (zlx (zac (zat (zal 2 F_45) (zac (zaf 0) (zac (zaf 3) zan))) zan))) zeA) (zed (zb9 (zaf 6) (zeH (zac (zat zbS (zac (zaf 8) zan)) (zac (cOp zdJ (cK (.int 1)) (zat (zal 2 F_45) (zac (zaf 0) (zac (zaf 4) zan)))) zan))))))
noncomputable def G_46:FS:=zap (zbx 3 (cOp zdJ (cK (.int 1)) (zat (zal 2 F_45) (zac (zaf 0) (zac (zaf 1) zan))))) (zap (zbx 4 (cOp dIx (zlx (zac (cK (.int 1)) (zac (cK (.int 3)) (zac (cK (.int 20)) (zac (cOp zsu (cK (.int 10)) (cK (.int 20))) zan))))) (zat (zal 2 F_45) (zac (zaf 0) (zac (cK (.int 4)) zan))))) (zap (zbx 5 (zat (zal 2 F_45) (zac (zaf 0) (zac (cK (.int 3)) zan)))) (zap (zbx 6 (zgQ zan)) (zap (zj4 (zgK (zac (zat (zal 2 F_45) (zac (zaf 0) (zac (cOp zdJ (zaf 2) (cK (.int 1))) zan))) zan)) (zaB 7) zbr) (zby (zeH (zac (zaf 3) (zac (zat zbS (zac (zaf 6) zan)) zan))))))))
noncomputable def F_46:List D->M D:=zb2 9 G_46
theorem d_46 (x0 x1 x2:D):F_46 [x0,x1,x2]=(do let o<-G_46 [some x0,some x1,some x2,none,none,none,none,none,none];zbT o):=rfl
noncomputable def zb3:FE:=zaf 0
noncomputable def zb4:FT:=zcx dIn (zaf 1) (cOp dIx (zaf 0) (cK (.int 0)))
noncomputable def zdN:FE:=zaf 0
noncomputable def zcT:FT:=zcx dEq (zaw (iSq (zaf 1)) (zaB 0) zb4 zb3 [none,some 0]) (zlx zan)
noncomputable def G_47:FS:=zap (znK (zat (zal 3 F_46) (zac (zaf 0) (zac (zaf 1) (zac (cOp zo6 (zaf 2) (cK (.int 1))) zan)))) (zch 2 (zaz (zaB 3) (zaz (zaB 4) zcg)))) (zap (zbx 5 (zat zbS (zac (zaw (zgK (zac (zaf 3) zan)) (zaB 0) zcT zdN [none,some 4]) zan))) (zap (zbx 6 (zat (zal 2 F_45) (zac (zaf 0) (zac (cOp zdJ (zat zdz (zac (zaf 4) zan)) (cK (.int 1))) zan)))) (zap (sIf (zcx dNe (zaf 5) (zeH zan)) (zbx 4 (cOp zdJ (cOp zdJ (cSl (zaf 4) zgZ (zhH (zaf 6))) (zeH (zac (zeH (zac (zaf 5) (zac (cOp zdJ (cK (.int 1)) (zat (zal 2 F_45) (zac (zaf 0) (zac (cK (.int 9)) zan)))) zan))) zan))) (cSl (zaf 4) (zhH (zaf 6)) zgZ))) zeA) (zby (zeH (zac (zaf 3) (zac (zaf 4) zan)))))))
noncomputable def F_47:List D->M D:=zb2 7 G_47
theorem d_47 (x0 x1 x2:D):F_47 [x0,x1,x2]=(do let o<-G_47 [some x0,some x1,some x2,none,none,none,none];zbT o):=rfl
noncomputable def zaY:FT:=zrK (zcx dLt (zat zdz (zac (zaf 3) zan)) (cK (.int 10))) (zcx dEq (zat (zal 2 F_45) (zac (zaf 0) (zac (cK (.int 2)) zan))) (cK (.int 1)))
noncomputable def zaZ:FS:=zap (znK (cOp dIx (zaf 3) (zat (zal 2 F_45) (zac (zaf 0) (zac (zat zdz (zac (zaf 3) zan)) zan)))) (zch 2 (zaz (zaB 4) (zaz (zaB 5) zcg)))) (zap (zbx 6 (zat (zal 2 F_45) (zac (zaf 0) (zac (zat zdz (zac (zaf 4) zan)) zan)))) (zap (zbx 7 (cOp zdJ (cSl (zaf 4) zgZ (zhH (zaf 6))) (cSl (zaf 4) (zhH (cOp zdJ (zaf 6) (cK (.int 1)))) zgZ))) (zap (sIf (tOr (zcx dEq (zaf 7) (zeH zan)) (zcx dEq (zat (zal 2 F_45) (zac (zaf 0) (zac (cK (.int 2)) zan))) (cK (.int 1)))) (zbx 7 (zaf 4)) zeA) (zed (zb9 (zaf 3) (zeH (zac (zaf 7) (zac (zat zkF (zac (cK (.int 1)) (zac (cOp zdJ (cOp zo6 (zaf 5) (cK (.int 1))) (zat (zal 2 F_45) (zac (zaf 0) (zac (cK (.int 3)) zan)))) zan))) zan))))))))
noncomputable def G_48:FS:=zap (znK (zat (zal 3 F_47) (zac (zaf 0) (zac (cK (.int 6)) (zac (cK (.int 8)) zan)))) (zch 2 (zaz (zaB 1) (zaz (zaB 2) zcg)))) (zap (zbx 3 (zat zkR (zac (zaf 2) zan))) (zap (zjc 1000 zaY zaZ) (zby (zeH (zac (zaf 1) (zac (zat zbS (zac (zaf 3) zan)) zan))))))
noncomputable def F_48:List D->M D:=zb2 8 G_48
theorem d_48 (x0:D):F_48 [x0]=(do let o<-G_48 [some x0,none,none,none,none,none,none,none];zbT o):=rfl
noncomputable def zeZ:FS:=zap (zbx 2 (zat (zal 2 F_44) (zac (zaf 0) (zac (zaf 1) zan)))) (sIf (tOr (zh2 (zir (zat (zal 1 F_49) (zac (zat (zal 1 F_48) (zac (zaf 2) zan)) zan)))) (zh2 (zir (zat (zal 1 F_49) (zac (zat (zal 3 F_47) (zac (zaf 2) (zac (cK (.int 8)) (zac (cK (.int 10)) zan)))) zan))))) (zby (cK (.bl false))) zeA)
noncomputable def G_50:FS:=zap (zj4 (zgK (zac (zat zkF (zac (cK (.int 1)) (zac (zat zpI (zac (zat zdz (zac (zaf 0) zan)) (zac (cK (.int 3)) zan))) zan))) zan)) (zaB 1) zeZ) (zby (cK (.bl true)))
noncomputable def F_50:List D->M D:=zb2 3 G_50
theorem d_50 (x0:D):F_50 [x0]=(do let o<-G_50 [some x0,none,none];zbT o):=rfl
end K66
set_option genInjectivity false
set_option genSizeOf false
set_option genSizeOfSpec false
namespace K66
open PySem PySem.Spec PyProof.Rows L2 L3
noncomputable def top (i:Nat):Stmt:=PySem.Challenge.pw_cheapcovers_k66_whole_prices_stay.main.body.getD i (.Pass ⟨0,0,0,0⟩)
theorem zdK {A:Around} {k:Nat} (hr:zel k A):A.units+60<cLine:=by have:=hr.units;omega
theorem zny:bootBuiltins "all"=some (.builtin "all"):=by decide +kernel
theorem zoJ:bootBuiltins "bool"=some (.type "bool"):=by decide +kernel
theorem zlD:bootBuiltins "divmod"=some (.builtin "divmod"):=by decide +kernel
theorem zro:bootBuiltins "int"=some (.type "int"):=by decide +kernel
theorem zbl:bootBuiltins "len"=some (.builtin "len"):=by decide +kernel
theorem ze4:bootBuiltins "list"=some (.type "list"):=by decide +kernel
theorem znU:bootBuiltins "max"=some (.builtin "max"):=by decide +kernel
theorem znZ:bootBuiltins "min"=some (.builtin "min"):=by decide +kernel
theorem zhG:bootBuiltins "sorted"=some (.builtin "sorted"):=by decide +kernel
theorem zp8:bootBuiltins "sum"=some (.builtin "sum"):=by decide +kernel
theorem za8:bootBuiltins "tuple"=some (.type "tuple"):=by decide +kernel
noncomputable abbrev s_42:Stmt:=top 51
noncomputable abbrev s_43:Stmt:=top 52
noncomputable abbrev s_44:Stmt:=top 53
noncomputable abbrev s_38:Stmt:=top 45
noncomputable abbrev s_14:Stmt:=top 19
noncomputable abbrev s_15:Stmt:=top 20
noncomputable abbrev s_9:Stmt:=top 14
noncomputable abbrev s_11:Stmt:=top 16
noncomputable abbrev s_35:Stmt:=top 42
noncomputable abbrev s_34:Stmt:=top 41
noncomputable abbrev s_33:Stmt:=top 40
noncomputable abbrev s_30:Stmt:=top 37
noncomputable abbrev s_29:Stmt:=top 36
noncomputable abbrev s_24:Stmt:=top 31
noncomputable abbrev s_16:Stmt:=top 21
noncomputable abbrev s_32:Stmt:=top 39
noncomputable abbrev s_31:Stmt:=top 38
noncomputable abbrev s_25:Stmt:=top 32
noncomputable abbrev s_18:Stmt:=top 23
noncomputable abbrev s_17:Stmt:=top 22
noncomputable abbrev s_37:Stmt:=top 44
noncomputable abbrev s_36:Stmt:=top 43
noncomputable abbrev s_26:Stmt:=top 33
noncomputable abbrev s_4:Stmt:=top 6
noncomputable abbrev s_3:Stmt:=top 5
noncomputable abbrev s_5:Stmt:=top 7
noncomputable abbrev s_7:Stmt:=top 12
noncomputable abbrev s_6:Stmt:=top 11
noncomputable abbrev s_23:Stmt:=top 29
noncomputable abbrev s_22:Stmt:=top 28
noncomputable abbrev s_21:Stmt:=top 27
noncomputable abbrev s_41:Stmt:=top 49
noncomputable abbrev s_8:Stmt:=top 13
noncomputable abbrev s_12:Stmt:=top 17
noncomputable abbrev s_13:Stmt:=top 18
noncomputable abbrev s_19:Stmt:=top 25
noncomputable abbrev s_20:Stmt:=top 26
noncomputable abbrev s_28:Stmt:=top 35
noncomputable abbrev s_10:Stmt:=top 15
noncomputable abbrev s_40:Stmt:=top 47
noncomputable abbrev s_39:Stmt:=top 46
noncomputable abbrev s_27:Stmt:=top 34
noncomputable abbrev s_49:Stmt:=top 58
noncomputable abbrev s_45:Stmt:=top 54
noncomputable abbrev s_46:Stmt:=top 55
noncomputable abbrev s_47:Stmt:=top 56
noncomputable abbrev s_48:Stmt:=top 57
noncomputable abbrev s_50:Stmt:=top 59
structure Ad where
 a_42:Addr
 d_42:FuncData
 a_43:Addr
 d_43:FuncData
 a_44:Addr
 d_44:FuncData
 a_38:Addr
 d_38:FuncData
 a_14:Addr
 d_14:FuncData
 a_15:Addr
 d_15:FuncData
 a_9:Addr
 d_9:FuncData
 a_11:Addr
 d_11:FuncData
 a_35:Addr
 d_35:FuncData
 a_34:Addr
 d_34:FuncData
 a_33:Addr
 d_33:FuncData
 a_30:Addr
 d_30:FuncData
 a_29:Addr
 d_29:FuncData
 a_24:Addr
 d_24:FuncData
 a_16:Addr
 d_16:FuncData
 a_32:Addr
 d_32:FuncData
 a_31:Addr
 d_31:FuncData
 a_25:Addr
 d_25:FuncData
 a_18:Addr
 d_18:FuncData
 a_17:Addr
 d_17:FuncData
 a_37:Addr
 d_37:FuncData
 a_36:Addr
 d_36:FuncData
 a_26:Addr
 d_26:FuncData
 a_4:Addr
 d_4:FuncData
 a_3:Addr
 d_3:FuncData
 a_5:Addr
 d_5:FuncData
 a_7:Addr
 d_7:FuncData
 a_6:Addr
 d_6:FuncData
 a_23:Addr
 d_23:FuncData
 a_22:Addr
 d_22:FuncData
 a_21:Addr
 d_21:FuncData
 a_41:Addr
 d_41:FuncData
 a_8:Addr
 d_8:FuncData
 a_12:Addr
 d_12:FuncData
 a_13:Addr
 d_13:FuncData
 a_19:Addr
 d_19:FuncData
 a_20:Addr
 d_20:FuncData
 a_28:Addr
 d_28:FuncData
 a_10:Addr
 d_10:FuncData
 a_40:Addr
 d_40:FuncData
 a_39:Addr
 d_39:FuncData
 a_27:Addr
 d_27:FuncData
 a_49:Addr
 d_49:FuncData
 a_45:Addr
 d_45:FuncData
 a_46:Addr
 d_46:FuncData
 a_47:Addr
 d_47:FuncData
 a_48:Addr
 d_48:FuncData
 a_50:Addr
 d_50:FuncData
structure Tx (K:W.Frag) (mg:Str->Option Value) (t:Ad):Prop where
 n_all:mg "all"=none
 n_bool:mg "bool"=none
 n_divmod:mg "divmod"=none
 n_enumerate:mg "enumerate"=none
 n_int:mg "int"=none
 n_isinstance:mg "isinstance"=none
 n_len:mg "len"=none
 n_list:mg "list"=none
 n_max:mg "max"=none
 n_min:mg "min"=none
 n_range:mg "range"=none
 n_set:mg "set"=none
 n_sorted:mg "sorted"=none
 n_sum:mg "sum"=none
 n_tuple:mg "tuple"=none
 c_MOST_OFFERS: ∃ k,mg "MOST_OFFERS"=some (.int 12 k)
 c_MOST_THINGS: ∃ k,mg "MOST_THINGS"=some (.int 10 k)
 m_42:mg "_law_cell"=some (.ref t.a_42)
 F_42:Fun K "_law_cell" "_law_cell" s_42 t.a_42 t.d_42
 b_42:zaF K t.d_42 ["script","k"] []
 m_43:mg "_law_mix"=some (.ref t.a_43)
 F_43:Fun K "_law_mix" "_law_mix" s_43 t.a_43 t.d_43
 b_43:zaF K t.d_43 ["cell","k"] []
 m_44:mg "_law_box"=some (.ref t.a_44)
 F_44:Fun K "_law_box" "_law_box" s_44 t.a_44 t.d_44
 b_44:zaF K t.d_44 ["script","k"] []
 m_38:mg "not_ruled"=some (.ref t.a_38)
 F_38:Fun K "not_ruled" "not_ruled" s_38 t.a_38 t.d_38
 b_38:zaF K t.d_38 ["count","ruled"] []
 m_14:mg "things_together"=some (.ref t.a_14)
 F_14:Fun K "things_together" "things_together" s_14 t.a_14 t.d_14
 b_14:zaF K t.d_14 ["offers"] []
 m_15:mg "have_all"=some (.ref t.a_15)
 F_15:Fun K "have_all" "have_all" s_15 t.a_15 t.d_15
 b_15:zaF K t.d_15 ["stock","offers"] []
 m_9:mg "is_full"=some (.ref t.a_9)
 F_9:Fun K "is_full" "is_full" s_9 t.a_9 t.d_9
 b_9:zaF K t.d_9 ["stock"] []
 m_11:mg "need_full"=some (.ref t.a_11)
 F_11:Fun K "need_full" "need_full" s_11 t.a_11 t.d_11
 b_11:zaF K t.d_11 ["stock"] []
 m_35:mg "rules"=some (.ref t.a_35)
 F_35:Fun K "rules" "rules" s_35 t.a_35 t.d_35
 b_35:zaF K t.d_35 ["table","other","number"] []
 m_34:mg "ruled_by"=some (.ref t.a_34)
 F_34:Fun K "ruled_by" "ruled_by" s_34 t.a_34 t.d_34
 b_34:zaF K t.d_34 ["table"] []
 m_33:mg "are_among"=some (.ref t.a_33)
 F_33:Fun K "are_among" "are_among" s_33 t.a_33 t.d_33
 b_33:zaF K t.d_33 ["numbers","others"] []
 m_30:mg "as_good_offers"=some (.ref t.a_30)
 F_30:Fun K "as_good_offers" "as_good_offers" s_30 t.a_30 t.d_30
 b_30:zaF K t.d_30 ["stock","offer"] []
 m_29:mg "table_of_offers"=some (.ref t.a_29)
 F_29:Fun K "table_of_offers" "table_of_offers" s_29 t.a_29 t.d_29
 b_29:zaF K t.d_29 ["stock"] []
 m_24:mg "ruled_offers"=some (.ref t.a_24)
 F_24:Fun K "ruled_offers" "ruled_offers" s_24 t.a_24 t.d_24
 b_24:zaF K t.d_24 ["stock"] []
 m_16:mg "offers_with"=some (.ref t.a_16)
 F_16:Fun K "offers_with" "offers_with" s_16 t.a_16 t.d_16
 b_16:zaF K t.d_16 ["stock","thing"] []
 m_32:mg "as_scarce_things"=some (.ref t.a_32)
 F_32:Fun K "as_scarce_things" "as_scarce_things" s_32 t.a_32 t.d_32
 b_32:zaF K t.d_32 ["stock","thing"] []
 m_31:mg "table_of_things"=some (.ref t.a_31)
 F_31:Fun K "table_of_things" "table_of_things" s_31 t.a_31 t.d_31
 b_31:zaF K t.d_31 ["stock"] []
 m_25:mg "ruled_things"=some (.ref t.a_25)
 F_25:Fun K "ruled_things" "ruled_things" s_25 t.a_25 t.d_25
 b_25:zaF K t.d_25 ["stock"] []
 m_18:mg "narrowed"=some (.ref t.a_18)
 F_18:Fun K "narrowed" "narrowed" s_18 t.a_18 t.d_18
 b_18:zaF K t.d_18 ["offer","things"] []
 m_17:mg "rest_of"=some (.ref t.a_17)
 F_17:Fun K "rest_of" "rest_of" s_17 t.a_17 t.d_17
 b_17:zaF K t.d_17 ["stock","things","numbers"] []
 m_37:mg "behind_sweep"=some (.ref t.a_37)
 F_37:Fun K "behind_sweep" "behind_sweep" s_37 t.a_37 t.d_37
 b_37:zaF K t.d_37 ["stay"] []
 m_36:mg "stays_by_sweeps"=some (.ref t.a_36)
 F_36:Fun K "stays_by_sweeps" "stays_by_sweeps" s_36 t.a_36 t.d_36
 b_36:zaF K t.d_36 ["stock"] []
 m_26:mg "lesser_stock"=some (.ref t.a_26)
 F_26:Fun K "lesser_stock" "lesser_stock" s_26 t.a_26 t.d_26
 b_26:zaF K t.d_26 ["stock"] []
 m_4:mg "is_pair"=some (.ref t.a_4)
 F_4:Fun K "is_pair" "is_pair" s_4 t.a_4 t.d_4
 b_4:zaF K t.d_4 ["thing"] []
 m_3:mg "is_whole"=some (.ref t.a_3)
 F_3:Fun K "is_whole" "is_whole" s_3 t.a_3 t.d_3
 b_3:zaF K t.d_3 ["thing"] []
 m_5:mg "is_rising"=some (.ref t.a_5)
 F_5:Fun K "is_rising" "is_rising" s_5 t.a_5 t.d_5
 b_5:zaF K t.d_5 ["thing","bound"] []
 m_7:mg "is_offer"=some (.ref t.a_7)
 F_7:Fun K "is_offer" "is_offer" s_7 t.a_7 t.d_7
 b_7:zaF K t.d_7 ["thing","many"] []
 m_6:mg "is_stock"=some (.ref t.a_6)
 F_6:Fun K "is_stock" "is_stock" s_6 t.a_6 t.d_6
 b_6:zaF K t.d_6 ["thing"] []
 m_23:mg "bits_of"=some (.ref t.a_23)
 F_23:Fun K "bits_of" "bits_of" s_23 t.a_23 t.d_23
 b_23:zaF K t.d_23 ["many","things"] []
 m_22:mg "known_lots"=some (.ref t.a_22)
 F_22:Fun K "known_lots" "known_lots" s_22 t.a_22 t.d_22
 b_22:zaF K t.d_22 ["stock"] []
 m_21:mg "priced_covers"=some (.ref t.a_21)
 F_21:Fun K "priced_covers" "priced_covers" s_21 t.a_21 t.d_21
 b_21:zaF K t.d_21 ["stock"] []
 m_41:mg "cheapest_cover"=some (.ref t.a_41)
 F_41:Fun K "cheapest_cover" "cheapest_cover" s_41 t.a_41 t.d_41
 b_41:zaF K t.d_41 ["stock"] []
 m_8:mg "is_lot"=some (.ref t.a_8)
 F_8:Fun K "is_lot" "is_lot" s_8 t.a_8 t.d_8
 b_8:zaF K t.d_8 ["stock","thing"] []
 m_12:mg "need_lot"=some (.ref t.a_12)
 F_12:Fun K "need_lot" "need_lot" s_12 t.a_12 t.d_12
 b_12:zaF K t.d_12 ["stock","lot"] []
 m_13:mg "offers_of"=some (.ref t.a_13)
 F_13:Fun K "offers_of" "offers_of" s_13 t.a_13 t.d_13
 b_13:zaF K t.d_13 ["stock","lot"] []
 m_19:mg "is_cover"=some (.ref t.a_19)
 F_19:Fun K "is_cover" "is_cover" s_19 t.a_19 t.d_19
 b_19:zaF K t.d_19 ["stock","thing"] []
 m_20:mg "need_cover"=some (.ref t.a_20)
 F_20:Fun K "need_cover" "need_cover" s_20 t.a_20 t.d_20
 b_20:zaF K t.d_20 ["stock","cover"] []
 m_28:mg "led_back"=some (.ref t.a_28)
 F_28:Fun K "led_back" "led_back" s_28 t.a_28 t.d_28
 b_28:zaF K t.d_28 ["stock","lot"] []
 m_10:mg "price_of"=some (.ref t.a_10)
 F_10:Fun K "price_of" "price_of" s_10 t.a_10 t.d_10
 b_10:zaF K t.d_10 ["stock","lot"] []
 m_40:mg "missing"=some (.ref t.a_40)
 F_40:Fun K "missing" "missing" s_40 t.a_40 t.d_40
 b_40:zaF K t.d_40 ["numbers","others"] []
 m_39:mg "left_out"=some (.ref t.a_39)
 F_39:Fun K "left_out" "left_out" s_39 t.a_39 t.d_39
 b_39:zaF K t.d_39 ["stay","later"] []
 m_27:mg "sweeps"=some (.ref t.a_27)
 F_27:Fun K "sweeps" "sweeps" s_27 t.a_27 t.d_27
 b_27:zaF K t.d_27 ["stock"] []
 m_49:mg "_law_right"=some (.ref t.a_49)
 F_49:Fun K "_law_right" "_law_right" s_49 t.a_49 t.d_49
 b_49:zaF K t.d_49 ["stock"] []
 m_45:mg "_law_take"=some (.ref t.a_45)
 F_45:Fun K "_law_take" "_law_take" s_45 t.a_45 t.d_45
 b_45:zaF K t.d_45 ["box","many"] []
 m_46:mg "_law_stock"=some (.ref t.a_46)
 F_46:Fun K "_law_stock" "_law_stock" s_46 t.a_46 t.d_46
 b_46:zaF K t.d_46 ["box","most_things","most_offers"] []
 m_47:mg "_law_full"=some (.ref t.a_47)
 F_47:Fun K "_law_full" "_law_full" s_47 t.a_47 t.d_47
 b_47:zaF K t.d_47 ["box","most_things","most_offers"] []
 m_48:mg "_law_alike_stock"=some (.ref t.a_48)
 F_48:Fun K "_law_alike_stock" "_law_alike_stock" s_48 t.a_48 t.d_48
 b_48:zaF K t.d_48 ["box"] []
 m_50:mg "law"=some (.ref t.a_50)
 F_50:Fun K "law" "law" s_50 t.a_50 t.d_50
 b_50:zaF K t.d_50 ["script"] []
section
variable {P:Program} {w:World} {K:W.Frag} {mg:Str->Option Value} {base:Heap} {t:Ad}
theorem sc_42:zam ["script","k"] ["script","k"] (zae s_42):=⟨rfl,rfl,rfl,by decide +kernel,rfl,by decide +kernel,by decide +kernel⟩
theorem ok_42 (T:Tx K mg t):zbn P w K mg base CX0 1 t.a_42 t.d_42 ["script","k"] (zbH K 2 F_42):=by
 refine zaS (k:=0) (G:=G_42) (N:=["script","k"]) (ps:=["script","k"]) (st:=s_42) T.F_42 sc_42 fun cdv A outer s H E hr=> ?_
 refine zag ?_ ?_
 refine ze2 ?_ ?_ ?_
 refine zaG ?_ ?_ ?_
 exact zg4
 exact zab 1
 refine zay (id:="len") ?_ ?_ ?_ ?_
 exact zax
 exact zbl
 exact T.n_len
 refine zaa ?_ ?_
 exact zab 0
 exact zad
 refine zaj ?_
 refine zaD ?_
 refine zaX ?_ ?_
 exact zab 0
 exact zab 1
 exact zbg
 refine zaj ?_
 refine zaD ?_
 refine zcz ?_ ?_ ?_
 exact zaN
 refine zcz ?_ ?_ ?_
 exact zkA
 exact zai
 exact zab 1
 exact zai
theorem nd_43:(["cell","k","number"]:List Str).Nodup:=by decide +kernel
theorem sc_43:zam ["cell","k","number"] ["cell","k"] (zae s_43):=⟨rfl,rfl,rfl,by decide +kernel,rfl,by decide +kernel,by decide +kernel⟩
theorem ok_43 (T:Tx K mg t):zbn P w K mg base CX0 1 t.a_43 t.d_43 ["cell","k"] (zbH K 2 F_43):=by
 refine zaS (k:=0) (G:=G_43) (N:=["cell","k","number"]) (ps:=["cell","k"]) (st:=s_43) T.F_43 sc_43 fun cdv A outer s H E hr=> ?_
 refine zag ?_ ?_
 refine zaI 2 ?_ ?_
 exact nd_43
 refine zcz ?_ ?_ ?_
 exact zaN
 refine zcz ?_ ?_ ?_
 exact zfn
 refine zcz ?_ ?_ ?_
 exact zaN
 exact zab 0
 exact zai
 exact zai
 refine zcz ?_ ?_ ?_
 exact zfn
 exact zai
 exact zab 1
 refine zag ?_ ?_
 refine zaI 2 ?_ ?_
 exact nd_43
 refine zcz ?_ ?_ ?_
 exact zaN
 refine zcz ?_ ?_ ?_
 exact zif
 refine zcz ?_ ?_ ?_
 exact zfn
 exact zab 2
 exact zab 2
 exact zai
 exact zab 1
 refine zaj ?_
 refine zaD ?_
 refine zcz ?_ ?_ ?_
 exact zif
 refine zcz ?_ ?_ ?_
 exact zfn
 exact zab 2
 refine zcz ?_ ?_ ?_
 exact zaN
 exact zab 2
 exact zai
 exact zai
theorem nd_44:(["script","k","here","number","j"]:List Str).Nodup:=by decide +kernel
theorem sc_44:zam ["script","k","here","number","j"] ["script","k"] (zae s_44):=⟨rfl,rfl,rfl,by decide +kernel,rfl,by decide +kernel,by decide +kernel⟩
theorem ok_44 (T:Tx K mg t):zbn P w K mg base CX0 2 t.a_44 t.d_44 ["script","k"] (zbH K 2 F_44):=by
 have G_42:=ok_42 (P:=P) (w:=w) (base:=base) T
 have G_43:=ok_43 (P:=P) (w:=w) (base:=base) T
 refine zaS (k:=1) (G:=G_44) (N:=["script","k","here","number","j"]) (ps:=["script","k"]) (st:=s_44) T.F_44 sc_44 fun cdv A outer s H E hr=> ?_
 refine zag ?_ ?_
 refine zaI 2 ?_ ?_
 exact nd_44
 refine zah (k:=1) (g:=t.a_42) (fd:=t.d_42) (ps:=["script","k"]) ?_ ?_ ?_ ?_ ?_ ?_
 exact G_42
 exact (hr.mono (by decide))
 exact T.m_42
 exact T.F_42.kp
 exact T.b_42
 refine zaa ?_ ?_
 exact zab 0
 refine zaa ?_ ?_
 exact zab 1
 exact zad
 refine zag ?_ ?_
 refine ze2 ?_ ?_ ?_
 refine zaG ?_ ?_ ?_
 exact (zdv (zdK hr))
 refine zcz ?_ ?_ ?_
 exact zif
 exact zab 2
 exact zai
 exact zai
 refine zaj ?_
 refine zaD ?_
 refine zfJ ?_
 refine zaa ?_ ?_
 refine zcz ?_ ?_ ?_
 exact znj
 exact zab 2
 exact zai
 exact zad
 exact zbg
 refine zag ?_ ?_
 refine zaI 3 ?_ ?_
 exact nd_44
 exact zai
 refine zag ?_ ?_
 refine zfu ?_ ?_ ?_ ?_ ?_
 exact rfl
 exact PassesOwn.never
 refine zeW ?_ ?_
 exact T.n_range
 refine zaa ?_ ?_
 exact zai
 exact zad
 exact zak 4 nd_44
 refine zaj ?_
 refine zaI 3 ?_ ?_
 exact nd_44
 refine zcz ?_ ?_ ?_
 exact zaN
 refine zcz ?_ ?_ ?_
 exact zfn
 exact zab 3
 exact zai
 refine zah (k:=1) (g:=t.a_43) (fd:=t.d_43) (ps:=["cell","k"]) ?_ ?_ ?_ ?_ ?_ ?_
 exact G_43
 exact (hr.mono (by decide))
 exact T.m_43
 exact T.F_43.kp
 exact T.b_43
 refine zaa ?_ ?_
 exact zab 2
 refine zaa ?_ ?_
 exact zab 4
 exact zad
 refine zaj ?_
 refine zaD ?_
 refine zfJ ?_
 refine zaa ?_ ?_
 exact zab 3
 exact zad
theorem nd_38:(["count","ruled","out"]:List Str).Nodup:=by decide +kernel
theorem zqM:(["pair"]:List Str).Nodup:=by decide +kernel
theorem zqU:(["number","out"]:List Str).Nodup:=by decide +kernel
theorem sc_38:zam ["count","ruled","out"] ["count","ruled"] (zae s_38):=⟨rfl,rfl,rfl,by decide +kernel,rfl,by decide +kernel,by decide +kernel⟩
theorem ok_38 (T:Tx K mg t):zbn P w K mg base CX0 1 t.a_38 t.d_38 ["count","ruled"] (zbH K 2 F_38):=by
 refine zaS (k:=0) (G:=G_38) (N:=["count","ruled","out"]) (ps:=["count","ruled"]) (st:=s_38) T.F_38 sc_38 fun cdv A outer s H E hr=> ?_
 refine zag ?_ ?_
 refine zaI 2 ?_ ?_
 exact nd_38
 refine zbk (N:=["pair"]) ?_ ?_ ?_ ?_ ?_ ?_ ?_
 exact rfl
 exact (BOk.of (Xn:=(zae s_38).names) (XN:=["count","ruled","out"]) rfl rfl rfl (by decide +kernel))
 exact (zaH.name (i:=0) rfl)
 refine zcf ?_
 exact zab 1
 intro _ _ _
 exact zak 0 zqM
 intro _ _ _
 exact zb0
 intro _ _ _
 refine zaX ?_ ?_
 exact zab 0
 exact zai
 refine zaj ?_
 refine zaD ?_
 refine zbk (N:=["number","out"]) ?_ ?_ ?_ ?_ ?_ ?_ ?_
 exact rfl
 exact (BOk.of (Xn:=(zae s_38).names) (XN:=["count","ruled","out"]) rfl rfl rfl (by decide +kernel))
 exact (zaH.name (i:=0) rfl)
 refine zeW ?_ ?_
 exact T.n_range
 refine zaa ?_ ?_
 exact zab 0
 exact zad
 intro _ _ _
 exact zak 0 zqU
 intro _ _ _
 refine zdj ?_
 refine zaG ?_ ?_ ?_
 exact (zfe (zdK hr))
 exact zab 0
 exact zab 1
 intro _ _ _
 exact zab 0
theorem nd_14:(["offers","things","offer"]:List Str).Nodup:=by decide +kernel
theorem sc_14:zam ["offers","things","offer"] ["offers"] (zae s_14):=⟨rfl,rfl,rfl,by decide +kernel,rfl,by decide +kernel,by decide +kernel⟩
theorem ok_14 (T:Tx K mg t):zbn P w K mg base CX0 1 t.a_14 t.d_14 ["offers"] (zbH K 1 F_14):=by
 refine zaS (k:=0) (G:=G_14) (N:=["offers","things","offer"]) (ps:=["offers"]) (st:=s_14) T.F_14 sc_14 fun cdv A outer s H E hr=> ?_
 refine zag ?_ ?_
 refine zaI 1 ?_ ?_
 exact nd_14
 refine zfJ ?_
 exact zad
 refine zag ?_ ?_
 refine zfu ?_ ?_ ?_ ?_ ?_
 exact rfl
 exact PassesOwn.never
 refine zcf ?_
 exact zab 0
 exact zak 2 nd_14
 refine zaj ?_
 refine zda ?_
 refine zmv ?_ ?_
 exact zab 1
 refine zaX ?_ ?_
 exact zab 2
 exact zai
 refine zaj ?_
 refine zaD ?_
 refine zaW (T:="tuple") ?_ ?_ ?_ ?_
 exact zaK
 exact za8
 exact T.n_tuple
 refine zaa ?_ ?_
 refine zkQ ?_ ?_ ?_ ?_
 exact rfl
 exact T.n_sorted
 exact T.n_set
 exact zab 1
 exact zad
theorem sc_15:zam ["stock","offers"] ["stock","offers"] (zae s_15):=⟨rfl,rfl,rfl,by decide +kernel,rfl,by decide +kernel,by decide +kernel⟩
theorem ok_15 (T:Tx K mg t):zbn P w K mg base CX0 2 t.a_15 t.d_15 ["stock","offers"] (zbH K 2 F_15):=by
 have G_14:=ok_14 (P:=P) (w:=w) (base:=base) T
 refine zaS (k:=1) (G:=G_15) (N:=["stock","offers"]) (ps:=["stock","offers"]) (st:=s_15) T.F_15 sc_15 fun cdv A outer s H E hr=> ?_
 refine zaj ?_
 refine zaD ?_
 refine zhg ?_ ?_ ?_
 exact (zdv (zdK hr))
 refine zay (id:="len") ?_ ?_ ?_ ?_
 exact zax
 exact zbl
 exact T.n_len
 refine zaa ?_ ?_
 refine zah (k:=1) (g:=t.a_14) (fd:=t.d_14) (ps:=["offers"]) ?_ ?_ ?_ ?_ ?_ ?_
 exact G_14
 exact (hr.mono (by decide))
 exact T.m_14
 exact T.F_14.kp
 exact T.b_14
 refine zaa ?_ ?_
 exact zab 1
 exact zad
 exact zad
 refine zaX ?_ ?_
 exact zab 0
 exact zai
theorem sc_9:zam ["stock"] ["stock"] (zae s_9):=⟨rfl,rfl,rfl,by decide +kernel,rfl,by decide +kernel,by decide +kernel⟩
theorem ok_9 (T:Tx K mg t):zbn P w K mg base CX0 3 t.a_9 t.d_9 ["stock"] (zbH K 1 F_9):=by
 have G_15:=ok_15 (P:=P) (w:=w) (base:=base) T
 refine zaS (k:=2) (G:=G_9) (N:=["stock"]) (ps:=["stock"]) (st:=s_9) T.F_9 sc_9 fun cdv A outer s H E hr=> ?_
 refine zaj ?_
 refine zaD ?_
 refine zah (k:=2) (g:=t.a_15) (fd:=t.d_15) (ps:=["stock","offers"]) ?_ ?_ ?_ ?_ ?_ ?_
 exact G_15
 exact (hr.mono (by decide))
 exact T.m_15
 exact T.F_15.kp
 exact T.b_15
 refine zaa ?_ ?_
 exact zab 0
 refine zaa ?_ ?_
 refine zaX ?_ ?_
 exact zab 0
 exact zai
 exact zad
theorem sc_11:zam ["stock"] ["stock"] (zae s_11):=⟨rfl,rfl,rfl,by decide +kernel,rfl,by decide +kernel,by decide +kernel⟩
theorem ok_11 (T:Tx K mg t):zbn P w K mg base CX0 4 t.a_11 t.d_11 ["stock"] (zbH K 1 F_11):=by
 have G_9:=ok_9 (P:=P) (w:=w) (base:=base) T
 refine zaS (k:=3) (G:=G_11) (N:=["stock"]) (ps:=["stock"]) (st:=s_11) T.F_11 sc_11 fun cdv A outer s H E hr=> ?_
 refine zaj ?_
 refine ze2 ?_ ?_ ?_
 refine zc9 ?_
 refine zcW ?_
 refine zah (k:=3) (g:=t.a_9) (fd:=t.d_9) (ps:=["stock"]) ?_ ?_ ?_ ?_ ?_ ?_
 exact G_9
 exact (hr.mono (by decide))
 exact T.m_9
 exact T.F_9.kp
 exact T.b_9
 refine zaa ?_ ?_
 exact zab 0
 exact zad
 refine zaj ?_
 exact zot
 exact zbg
theorem sc_35:zam ["table","other","number"] ["table","other","number"] (zae s_35):=⟨rfl,rfl,rfl,by decide +kernel,rfl,by decide +kernel,by decide +kernel⟩
theorem ok_35 (T:Tx K mg t):zbn P w K mg base CX0 1 t.a_35 t.d_35 ["table","other","number"] (zbH K 3 F_35):=by
 refine zaS (k:=0) (G:=G_35) (N:=["table","other","number"]) (ps:=["table","other","number"]) (st:=s_35) T.F_35 sc_35 fun cdv A outer s H E hr=> ?_
 refine zaj ?_
 refine zaD ?_
 refine zhB ?_ ?_
 refine zaX ?_ ?_
 refine zaX ?_ ?_
 exact zab 0
 exact zab 2
 exact zab 1
 refine zic ?_
 refine zuB ?_ ?_
 refine zhg ?_ ?_ ?_
 exact zg4
 exact zab 1
 exact zab 2
 refine zic ?_
 refine zq9 ?_
 refine zaX ?_ ?_
 refine zaX ?_ ?_
 exact zab 0
 exact zab 1
 exact zab 2
theorem nd_34:(["table","ruled","number","rulers"]:List Str).Nodup:=by decide +kernel
theorem zp7:(["other","table","number"]:List Str).Nodup:=by decide +kernel
theorem sc_34:zam ["table","ruled","number","rulers"] ["table"] (zae s_34):=⟨rfl,rfl,rfl,by decide +kernel,rfl,by decide +kernel,by decide +kernel⟩
theorem ok_34 (T:Tx K mg t):zbn P w K mg base CX0 2 t.a_34 t.d_34 ["table"] (zbH K 1 F_34):=by
 have G_35:=ok_35 (P:=P) (w:=w) (base:=base) T
 refine zaS (k:=1) (G:=G_34) (N:=["table","ruled","number","rulers"]) (ps:=["table"]) (st:=s_34) T.F_34 sc_34 fun cdv A outer s H E hr=> ?_
 refine zag ?_ ?_
 refine zaI 1 ?_ ?_
 exact nd_34
 refine zfJ ?_
 exact zad
 refine zag ?_ ?_
 refine zfu ?_ ?_ ?_ ?_ ?_
 exact rfl
 exact PassesOwn.never
 refine zeW ?_ ?_
 exact T.n_range
 refine zaa ?_ ?_
 refine zay (id:="len") ?_ ?_ ?_ ?_
 exact zax
 exact zbl
 exact T.n_len
 refine zaa ?_ ?_
 exact zab 0
 exact zad
 exact zad
 exact zak 2 nd_34
 refine zag ?_ ?_
 refine zdc 3 (N:=["other","table","number"]) ?_ ?_ ?_ ?_ ?_ ?_ ?_ ?_
 exact rfl
 exact nd_34
 exact (BOk.of (Xn:=(zae s_34).names) (XN:=["table","ruled","number","rulers"]) rfl rfl rfl (by decide +kernel))
 exact (zaH.name (i:=0) rfl)
 refine zeW ?_ ?_
 exact T.n_range
 refine zaa ?_ ?_
 refine zay (id:="len") ?_ ?_ ?_ ?_
 exact zax
 exact zbl
 exact T.n_len
 refine zaa ?_ ?_
 exact zab 0
 exact zad
 exact zad
 intro _ _ _
 exact zak 0 zp7
 intro _ _ _
 refine zdj ?_
 refine zcW ?_
 refine zah (k:=1) (g:=t.a_35) (fd:=t.d_35) (ps:=["table","other","number"]) ?_ ?_ ?_ ?_ ?_ ?_
 exact G_35
 exact (hr.mono (by decide))
 exact T.m_35
 exact T.F_35.kp
 exact T.b_35
 refine zaa ?_ ?_
 exact zab 1
 refine zaa ?_ ?_
 exact zab 0
 refine zaa ?_ ?_
 exact zab 2
 exact zad
 intro _ _ _
 exact zab 0
 refine zaj ?_
 refine ze2 ?_ ?_ ?_
 refine znz ?_
 exact zab 3
 refine zaj ?_
 refine zda ?_
 refine zeI ?_ ?_
 exact zab 1
 refine zcF ?_
 refine zaa ?_ ?_
 exact zab 2
 refine zaa ?_ ?_
 refine zaX ?_ ?_
 exact zab 3
 exact zai
 exact zad
 exact zbg
 refine zaj ?_
 refine zaD ?_
 refine zr2 ?_
 exact zab 1
theorem zqN:(["number","others"]:List Str).Nodup:=by decide +kernel
theorem sc_33:zam ["numbers","others"] ["numbers","others"] (zae s_33):=⟨rfl,rfl,rfl,by decide +kernel,rfl,by decide +kernel,by decide +kernel⟩
theorem ok_33 (T:Tx K mg t):zbn P w K mg base CX0 1 t.a_33 t.d_33 ["numbers","others"] (zbH K 2 F_33):=by
 refine zaS (k:=0) (G:=G_33) (N:=["numbers","others"]) (ps:=["numbers","others"]) (st:=s_33) T.F_33 sc_33 fun cdv A outer s H E hr=> ?_
 refine zaj ?_
 refine zaD ?_
 refine zay (id:="all") ?_ ?_ ?_ ?_
 exact (zhh rfl)
 exact zny
 exact T.n_all
 refine zaa ?_ ?_
 refine zbk (N:=["number","others"]) ?_ ?_ ?_ ?_ ?_ ?_ ?_
 exact rfl
 exact (BOk.of (Xn:=(zae s_33).names) (XN:=["numbers","others"]) rfl rfl rfl (by decide +kernel))
 exact (zaH.name (i:=0) rfl)
 refine zcf ?_
 exact zab 0
 intro _ _ _
 exact zak 0 zqN
 intro _ _ _
 exact zb0
 intro _ _ _
 refine zhg ?_ ?_ ?_
 exact (zgW (zdK hr))
 exact zab 0
 exact zab 1
 exact zad
theorem zqI:(["other","offer"]:List Str).Nodup:=by decide +kernel
theorem sc_30:zam ["stock","offer"] ["stock","offer"] (zae s_30):=⟨rfl,rfl,rfl,by decide +kernel,rfl,by decide +kernel,by decide +kernel⟩
theorem ok_30 (T:Tx K mg t):zbn P w K mg base CX0 2 t.a_30 t.d_30 ["stock","offer"] (zbH K 2 F_30):=by
 have G_33:=ok_33 (P:=P) (w:=w) (base:=base) T
 refine zaS (k:=1) (G:=G_30) (N:=["stock","offer"]) (ps:=["stock","offer"]) (st:=s_30) T.F_30 sc_30 fun cdv A outer s H E hr=> ?_
 refine zaj ?_
 refine zaD ?_
 refine zbk (N:=["other","offer"]) ?_ ?_ ?_ ?_ ?_ ?_ ?_
 exact rfl
 exact (BOk.of (Xn:=(zae s_30).names) (XN:=["stock","offer"]) rfl rfl rfl (by decide +kernel))
 exact (zaH.name (i:=0) rfl)
 refine zcf ?_
 refine zaX ?_ ?_
 exact zab 0
 exact zai
 intro _ _ _
 exact zak 0 zqI
 intro _ _ _
 exact zb0
 intro _ _ _
 refine zhB ?_ ?_
 refine zhg ?_ ?_ ?_
 exact znT
 refine zaX ?_ ?_
 exact zab 0
 exact zai
 refine zaX ?_ ?_
 exact zab 1
 exact zai
 refine zic ?_
 refine zah (k:=1) (g:=t.a_33) (fd:=t.d_33) (ps:=["numbers","others"]) ?_ ?_ ?_ ?_ ?_ ?_
 exact G_33
 exact (hr.mono (by decide))
 exact T.m_33
 exact T.F_33.kp
 exact T.b_33
 refine zaa ?_ ?_
 refine zaX ?_ ?_
 exact zab 1
 exact zai
 refine zaa ?_ ?_
 refine zaX ?_ ?_
 exact zab 0
 exact zai
 exact zad
theorem zqe:(["offer","stock"]:List Str).Nodup:=by decide +kernel
theorem sc_29:zam ["stock"] ["stock"] (zae s_29):=⟨rfl,rfl,rfl,by decide +kernel,rfl,by decide +kernel,by decide +kernel⟩
theorem ok_29 (T:Tx K mg t):zbn P w K mg base CX0 3 t.a_29 t.d_29 ["stock"] (zbH K 1 F_29):=by
 have G_30:=ok_30 (P:=P) (w:=w) (base:=base) T
 refine zaS (k:=2) (G:=G_29) (N:=["stock"]) (ps:=["stock"]) (st:=s_29) T.F_29 sc_29 fun cdv A outer s H E hr=> ?_
 refine zaj ?_
 refine zaD ?_
 refine zbk (N:=["offer","stock"]) ?_ ?_ ?_ ?_ ?_ ?_ ?_
 exact rfl
 exact (BOk.of (Xn:=(zae s_29).names) (XN:=["stock"]) rfl rfl rfl (by decide +kernel))
 exact (zaH.name (i:=0) rfl)
 refine zcf ?_
 refine zaX ?_ ?_
 exact zab 0
 exact zai
 intro _ _ _
 exact zak 0 zqe
 intro _ _ _
 exact zb0
 intro _ _ _
 refine zah (k:=2) (g:=t.a_30) (fd:=t.d_30) (ps:=["stock","offer"]) ?_ ?_ ?_ ?_ ?_ ?_
 exact G_30
 exact (hr.mono (by decide))
 exact T.m_30
 exact T.F_30.kp
 exact T.b_30
 refine zaa ?_ ?_
 exact zab 1
 refine zaa ?_ ?_
 exact zab 0
 exact zad
theorem sc_24:zam ["stock"] ["stock"] (zae s_24):=⟨rfl,rfl,rfl,by decide +kernel,rfl,by decide +kernel,by decide +kernel⟩
theorem ok_24 (T:Tx K mg t):zbn P w K mg base CX0 5 t.a_24 t.d_24 ["stock"] (zbH K 1 F_24):=by
 have G_11:=ok_11 (P:=P) (w:=w) (base:=base) T
 have G_34:=ok_34 (P:=P) (w:=w) (base:=base) T
 have G_29:=ok_29 (P:=P) (w:=w) (base:=base) T
 refine zaS (k:=4) (G:=G_24) (N:=["stock"]) (ps:=["stock"]) (st:=s_24) T.F_24 sc_24 fun cdv A outer s H E hr=> ?_
 refine zag ?_ ?_
 refine zda ?_
 refine zah (k:=4) (g:=t.a_11) (fd:=t.d_11) (ps:=["stock"]) ?_ ?_ ?_ ?_ ?_ ?_
 exact G_11
 exact (hr.mono (by decide))
 exact T.m_11
 exact T.F_11.kp
 exact T.b_11
 refine zaa ?_ ?_
 exact zab 0
 exact zad
 refine zaj ?_
 refine zaD ?_
 refine zah (k:=2) (g:=t.a_34) (fd:=t.d_34) (ps:=["table"]) ?_ ?_ ?_ ?_ ?_ ?_
 exact G_34
 exact (hr.mono (by decide))
 exact T.m_34
 exact T.F_34.kp
 exact T.b_34
 refine zaa ?_ ?_
 refine zah (k:=3) (g:=t.a_29) (fd:=t.d_29) (ps:=["stock"]) ?_ ?_ ?_ ?_ ?_ ?_
 exact G_29
 exact (hr.mono (by decide))
 exact T.m_29
 exact T.F_29.kp
 exact T.b_29
 refine zaa ?_ ?_
 exact zab 0
 exact zad
 exact zad
theorem zrU:(["number","offer","thing"]:List Str).Nodup:=by decide +kernel
theorem sc_16:zam ["stock","thing"] ["stock","thing"] (zae s_16):=⟨rfl,rfl,rfl,by decide +kernel,rfl,by decide +kernel,by decide +kernel⟩
theorem ok_16 (T:Tx K mg t):zbn P w K mg base CX0 1 t.a_16 t.d_16 ["stock","thing"] (zbH K 2 F_16):=by
 refine zaS (k:=0) (G:=G_16) (N:=["stock","thing"]) (ps:=["stock","thing"]) (st:=s_16) T.F_16 sc_16 fun cdv A outer s H E hr=> ?_
 refine zaj ?_
 refine zaD ?_
 refine zaW (T:="tuple") ?_ ?_ ?_ ?_
 exact zaK
 exact za8
 exact T.n_tuple
 refine zaa ?_ ?_
 refine zbk (N:=["number","offer","thing"]) ?_ ?_ ?_ ?_ ?_ ?_ ?_
 exact rfl
 exact (BOk.of (Xn:=(zae s_16).names) (XN:=["stock","thing"]) rfl rfl rfl (by decide +kernel))
 exact (zaH.tup (zbW.cons (i:=0) rfl (zbW.cons (i:=1) rfl zbW.nil)))
 refine zqY ?_ ?_
 exact T.n_enumerate
 refine zaX ?_ ?_
 exact zab 0
 exact zai
 intro _ _ _
 refine zdR ?_ ?_
 exact rfl
 refine zaP ?_ ?_
 exact zak 0 zrU
 refine zaP ?_ ?_
 exact zak 1 zrU
 exact zcU
 intro _ _ _
 refine zdj ?_
 refine zaG ?_ ?_ ?_
 exact (zgW (zdK hr))
 exact zab 2
 refine zaX ?_ ?_
 exact zab 1
 exact zai
 intro _ _ _
 exact zab 0
 exact zad
theorem nd_32:(["stock","thing","having"]:List Str).Nodup:=by decide +kernel
theorem zrF:(["other","stock","having"]:List Str).Nodup:=by decide +kernel
theorem sc_32:zam ["stock","thing","having"] ["stock","thing"] (zae s_32):=⟨rfl,rfl,rfl,by decide +kernel,rfl,by decide +kernel,by decide +kernel⟩
theorem ok_32 (T:Tx K mg t):zbn P w K mg base CX0 2 t.a_32 t.d_32 ["stock","thing"] (zbH K 2 F_32):=by
 have G_16:=ok_16 (P:=P) (w:=w) (base:=base) T
 have G_33:=ok_33 (P:=P) (w:=w) (base:=base) T
 refine zaS (k:=1) (G:=G_32) (N:=["stock","thing","having"]) (ps:=["stock","thing"]) (st:=s_32) T.F_32 sc_32 fun cdv A outer s H E hr=> ?_
 refine zag ?_ ?_
 refine zaI 2 ?_ ?_
 exact nd_32
 refine zah (k:=1) (g:=t.a_16) (fd:=t.d_16) (ps:=["stock","thing"]) ?_ ?_ ?_ ?_ ?_ ?_
 exact G_16
 exact (hr.mono (by decide))
 exact T.m_16
 exact T.F_16.kp
 exact T.b_16
 refine zaa ?_ ?_
 exact zab 0
 refine zaa ?_ ?_
 exact zab 1
 exact zad
 refine zaj ?_
 refine zaD ?_
 refine zbk (N:=["other","stock","having"]) ?_ ?_ ?_ ?_ ?_ ?_ ?_
 exact rfl
 exact (BOk.of (Xn:=(zae s_32).names) (XN:=["stock","thing","having"]) rfl rfl rfl (by decide +kernel))
 exact (zaH.name (i:=0) rfl)
 refine zeW ?_ ?_
 exact T.n_range
 refine zaa ?_ ?_
 refine zaX ?_ ?_
 exact zab 0
 exact zai
 exact zad
 intro _ _ _
 exact zak 0 zrF
 intro _ _ _
 exact zb0
 intro _ _ _
 refine zah (k:=1) (g:=t.a_33) (fd:=t.d_33) (ps:=["numbers","others"]) ?_ ?_ ?_ ?_ ?_ ?_
 exact G_33
 exact (hr.mono (by decide))
 exact T.m_33
 exact T.F_33.kp
 exact T.b_33
 refine zaa ?_ ?_
 refine zah (k:=1) (g:=t.a_16) (fd:=t.d_16) (ps:=["stock","thing"]) ?_ ?_ ?_ ?_ ?_ ?_
 exact G_16
 exact (hr.mono (by decide))
 exact T.m_16
 exact T.F_16.kp
 exact T.b_16
 refine zaa ?_ ?_
 exact zab 1
 refine zaa ?_ ?_
 exact zab 0
 exact zad
 refine zaa ?_ ?_
 exact zab 2
 exact zad
theorem zsd:(["thing","stock"]:List Str).Nodup:=by decide +kernel
theorem sc_31:zam ["stock"] ["stock"] (zae s_31):=⟨rfl,rfl,rfl,by decide +kernel,rfl,by decide +kernel,by decide +kernel⟩
theorem ok_31 (T:Tx K mg t):zbn P w K mg base CX0 3 t.a_31 t.d_31 ["stock"] (zbH K 1 F_31):=by
 have G_32:=ok_32 (P:=P) (w:=w) (base:=base) T
 refine zaS (k:=2) (G:=G_31) (N:=["stock"]) (ps:=["stock"]) (st:=s_31) T.F_31 sc_31 fun cdv A outer s H E hr=> ?_
 refine zaj ?_
 refine zaD ?_
 refine zbk (N:=["thing","stock"]) ?_ ?_ ?_ ?_ ?_ ?_ ?_
 exact rfl
 exact (BOk.of (Xn:=(zae s_31).names) (XN:=["stock"]) rfl rfl rfl (by decide +kernel))
 exact (zaH.name (i:=0) rfl)
 refine zeW ?_ ?_
 exact T.n_range
 refine zaa ?_ ?_
 refine zaX ?_ ?_
 exact zab 0
 exact zai
 exact zad
 intro _ _ _
 exact zak 0 zsd
 intro _ _ _
 exact zb0
 intro _ _ _
 refine zah (k:=2) (g:=t.a_32) (fd:=t.d_32) (ps:=["stock","thing"]) ?_ ?_ ?_ ?_ ?_ ?_
 exact G_32
 exact (hr.mono (by decide))
 exact T.m_32
 exact T.F_32.kp
 exact T.b_32
 refine zaa ?_ ?_
 exact zab 1
 refine zaa ?_ ?_
 exact zab 0
 exact zad
theorem sc_25:zam ["stock"] ["stock"] (zae s_25):=⟨rfl,rfl,rfl,by decide +kernel,rfl,by decide +kernel,by decide +kernel⟩
theorem ok_25 (T:Tx K mg t):zbn P w K mg base CX0 5 t.a_25 t.d_25 ["stock"] (zbH K 1 F_25):=by
 have G_11:=ok_11 (P:=P) (w:=w) (base:=base) T
 have G_34:=ok_34 (P:=P) (w:=w) (base:=base) T
 have G_31:=ok_31 (P:=P) (w:=w) (base:=base) T
 refine zaS (k:=4) (G:=G_25) (N:=["stock"]) (ps:=["stock"]) (st:=s_25) T.F_25 sc_25 fun cdv A outer s H E hr=> ?_
 refine zag ?_ ?_
 refine zda ?_
 refine zah (k:=4) (g:=t.a_11) (fd:=t.d_11) (ps:=["stock"]) ?_ ?_ ?_ ?_ ?_ ?_
 exact G_11
 exact (hr.mono (by decide))
 exact T.m_11
 exact T.F_11.kp
 exact T.b_11
 refine zaa ?_ ?_
 exact zab 0
 exact zad
 refine zaj ?_
 refine zaD ?_
 refine zah (k:=2) (g:=t.a_34) (fd:=t.d_34) (ps:=["table"]) ?_ ?_ ?_ ?_ ?_ ?_
 exact G_34
 exact (hr.mono (by decide))
 exact T.m_34
 exact T.F_34.kp
 exact T.b_34
 refine zaa ?_ ?_
 refine zah (k:=3) (g:=t.a_31) (fd:=t.d_31) (ps:=["stock"]) ?_ ?_ ?_ ?_ ?_ ?_
 exact G_31
 exact (hr.mono (by decide))
 exact T.m_31
 exact T.F_31.kp
 exact T.b_31
 refine zaa ?_ ?_
 exact zab 0
 exact zad
 exact zad
theorem zqX:(["place","thing","offer"]:List Str).Nodup:=by decide +kernel
theorem sc_18:zam ["offer","things"] ["offer","things"] (zae s_18):=⟨rfl,rfl,rfl,by decide +kernel,rfl,by decide +kernel,by decide +kernel⟩
theorem ok_18 (T:Tx K mg t):zbn P w K mg base CX0 1 t.a_18 t.d_18 ["offer","things"] (zbH K 2 F_18):=by
 refine zaS (k:=0) (G:=G_18) (N:=["offer","things"]) (ps:=["offer","things"]) (st:=s_18) T.F_18 sc_18 fun cdv A outer s H E hr=> ?_
 refine zaj ?_
 refine zaD ?_
 refine zaW (T:="tuple") ?_ ?_ ?_ ?_
 exact zaK
 exact za8
 exact T.n_tuple
 refine zaa ?_ ?_
 refine zbk (N:=["place","thing","offer"]) ?_ ?_ ?_ ?_ ?_ ?_ ?_
 exact rfl
 exact (BOk.of (Xn:=(zae s_18).names) (XN:=["offer","things"]) rfl rfl rfl (by decide +kernel))
 exact (zaH.tup (zbW.cons (i:=0) rfl (zbW.cons (i:=1) rfl zbW.nil)))
 refine zpN ?_ ?_
 exact T.n_enumerate
 exact zab 1
 intro _ _ _
 refine zdR ?_ ?_
 exact rfl
 refine zaP ?_ ?_
 exact zak 0 zqX
 refine zaP ?_ ?_
 exact zak 1 zqX
 exact zcU
 intro _ _ _
 refine zdj ?_
 refine zaG ?_ ?_ ?_
 exact (zgW (zdK hr))
 exact zab 1
 refine zaX ?_ ?_
 exact zab 2
 exact zai
 intro _ _ _
 exact zab 0
 exact zad
theorem nd_17:(["stock","things","numbers","offers"]:List Str).Nodup:=by decide +kernel
theorem ztC:(["number","stock"]:List Str).Nodup:=by decide +kernel
theorem zsz:(["offer","things"]:List Str).Nodup:=by decide +kernel
theorem sc_17:zam ["stock","things","numbers","offers"] ["stock","things","numbers"] (zae s_17):=⟨rfl,rfl,rfl,by decide +kernel,rfl,by decide +kernel,by decide +kernel⟩
theorem ok_17 (T:Tx K mg t):zbn P w K mg base CX0 2 t.a_17 t.d_17 ["stock","things","numbers"] (zbH K 3 F_17):=by
 have G_18:=ok_18 (P:=P) (w:=w) (base:=base) T
 refine zaS (k:=1) (G:=G_17) (N:=["stock","things","numbers","offers"]) (ps:=["stock","things","numbers"]) (st:=s_17) T.F_17 sc_17 fun cdv A outer s H E hr=> ?_
 refine zag ?_ ?_
 refine zdc 3 (N:=["number","stock"]) ?_ ?_ ?_ ?_ ?_ ?_ ?_ ?_
 exact rfl
 exact nd_17
 exact (BOk.of (Xn:=(zae s_17).names) (XN:=["stock","things","numbers","offers"]) rfl rfl rfl (by decide +kernel))
 exact (zaH.name (i:=0) rfl)
 refine zcf ?_
 exact zab 2
 intro _ _ _
 exact zak 0 ztC
 intro _ _ _
 exact zb0
 intro _ _ _
 refine zaX ?_ ?_
 refine zaX ?_ ?_
 exact zab 1
 exact zai
 exact zab 0
 refine zaj ?_
 refine zaD ?_
 refine zcF ?_
 refine zaa ?_ ?_
 refine zay (id:="len") ?_ ?_ ?_ ?_
 exact zax
 exact zbl
 exact T.n_len
 refine zaa ?_ ?_
 exact zab 1
 exact zad
 refine zaa ?_ ?_
 refine zaW (T:="tuple") ?_ ?_ ?_ ?_
 exact zaK
 exact za8
 exact T.n_tuple
 refine zaa ?_ ?_
 refine zbk (N:=["offer","things"]) ?_ ?_ ?_ ?_ ?_ ?_ ?_
 exact rfl
 exact (BOk.of (Xn:=(zae s_17).names) (XN:=["stock","things","numbers","offers"]) rfl rfl rfl (by decide +kernel))
 exact (zaH.name (i:=0) rfl)
 refine zcf ?_
 exact zab 3
 intro _ _ _
 exact zak 0 zsz
 intro _ _ _
 exact zb0
 intro _ _ _
 refine zcF ?_
 refine zaa ?_ ?_
 refine zah (k:=1) (g:=t.a_18) (fd:=t.d_18) (ps:=["offer","things"]) ?_ ?_ ?_ ?_ ?_ ?_
 exact G_18
 exact (hr.mono (by decide))
 exact T.m_18
 exact T.F_18.kp
 exact T.b_18
 refine zaa ?_ ?_
 exact zab 0
 refine zaa ?_ ?_
 exact zab 1
 exact zad
 refine zaa ?_ ?_
 refine zaX ?_ ?_
 exact zab 0
 exact zai
 exact zad
 exact zad
 exact zad
theorem nd_37:(["stay","stock","numbers","every","things","old_things","old_offers"]:List Str).Nodup:=by decide +kernel
theorem zr4:(["number","stock","things"]:List Str).Nodup:=by decide +kernel
theorem zqc:(["thing","stay"]:List Str).Nodup:=by decide +kernel
theorem zp6:(["number","stay"]:List Str).Nodup:=by decide +kernel
theorem sc_37:zam ["stay","stock","numbers","every","things","old_things","old_offers"] ["stay"] (zae s_37):=⟨rfl,rfl,rfl,by decide +kernel,rfl,by decide +kernel,by decide +kernel⟩
theorem ok_37 (T:Tx K mg t):zbn P w K mg base CX0 6 t.a_37 t.d_37 ["stay"] (zbH K 1 F_37):=by
 have G_38:=ok_38 (P:=P) (w:=w) (base:=base) T
 have G_24:=ok_24 (P:=P) (w:=w) (base:=base) T
 have G_25:=ok_25 (P:=P) (w:=w) (base:=base) T
 have G_17:=ok_17 (P:=P) (w:=w) (base:=base) T
 have G_18:=ok_18 (P:=P) (w:=w) (base:=base) T
 refine zaS (k:=5) (G:=G_37) (N:=["stay","stock","numbers","every","things","old_things","old_offers"]) (ps:=["stay"]) (st:=s_37) T.F_37 sc_37 fun cdv A outer s H E hr=> ?_
 refine zag ?_ ?_
 refine zaI 1 ?_ ?_
 exact nd_37
 refine zaX ?_ ?_
 exact zab 0
 exact zai
 refine zag ?_ ?_
 refine zaI 2 ?_ ?_
 exact nd_37
 refine zah (k:=1) (g:=t.a_38) (fd:=t.d_38) (ps:=["count","ruled"]) ?_ ?_ ?_ ?_ ?_ ?_
 exact G_38
 exact (hr.mono (by decide))
 exact T.m_38
 exact T.F_38.kp
 exact T.b_38
 refine zaa ?_ ?_
 refine zay (id:="len") ?_ ?_ ?_ ?_
 exact zax
 exact zbl
 exact T.n_len
 refine zaa ?_ ?_
 refine zaX ?_ ?_
 exact zab 1
 exact zai
 exact zad
 refine zaa ?_ ?_
 refine zah (k:=5) (g:=t.a_24) (fd:=t.d_24) (ps:=["stock"]) ?_ ?_ ?_ ?_ ?_ ?_
 exact G_24
 exact (hr.mono (by decide))
 exact T.m_24
 exact T.F_24.kp
 exact T.b_24
 refine zaa ?_ ?_
 exact zab 1
 exact zad
 exact zad
 refine zag ?_ ?_
 refine zaI 3 ?_ ?_
 exact nd_37
 refine zdW ?_ ?_ ?_ ?_
 exact rfl
 exact T.n_list
 exact T.n_range
 refine zaX ?_ ?_
 exact zab 1
 exact zai
 refine zag ?_ ?_
 refine zaI 4 ?_ ?_
 exact nd_37
 refine zah (k:=1) (g:=t.a_38) (fd:=t.d_38) (ps:=["count","ruled"]) ?_ ?_ ?_ ?_ ?_ ?_
 exact G_38
 exact (hr.mono (by decide))
 exact T.m_38
 exact T.F_38.kp
 exact T.b_38
 refine zaa ?_ ?_
 refine zaX ?_ ?_
 exact zab 1
 exact zai
 refine zaa ?_ ?_
 refine zah (k:=5) (g:=t.a_25) (fd:=t.d_25) (ps:=["stock"]) ?_ ?_ ?_ ?_ ?_ ?_
 exact G_25
 exact (hr.mono (by decide))
 exact T.m_25
 exact T.F_25.kp
 exact T.b_25
 refine zaa ?_ ?_
 refine zah (k:=2) (g:=t.a_17) (fd:=t.d_17) (ps:=["stock","things","numbers"]) ?_ ?_ ?_ ?_ ?_ ?_
 exact G_17
 exact (hr.mono (by decide))
 exact T.m_17
 exact T.F_17.kp
 exact T.b_17
 refine zaa ?_ ?_
 exact zab 1
 refine zaa ?_ ?_
 exact zab 3
 refine zaa ?_ ?_
 exact zab 2
 exact zad
 exact zad
 exact zad
 refine zag ?_ ?_
 refine zdc 2 (N:=["number","stock","things"]) ?_ ?_ ?_ ?_ ?_ ?_ ?_ ?_
 exact rfl
 exact nd_37
 exact (BOk.of (Xn:=(zae s_37).names) (XN:=["stay","stock","numbers","every","things","old_things","old_offers"]) rfl rfl rfl (by decide +kernel))
 exact (zaH.name (i:=0) rfl)
 refine zcf ?_
 exact zab 2
 intro _ _ _
 exact zak 0 zr4
 intro _ _ _
 refine zdj ?_
 refine znz ?_
 refine zah (k:=1) (g:=t.a_18) (fd:=t.d_18) (ps:=["offer","things"]) ?_ ?_ ?_ ?_ ?_ ?_
 exact G_18
 exact (hr.mono (by decide))
 exact T.m_18
 exact T.F_18.kp
 exact T.b_18
 refine zaa ?_ ?_
 refine zaX ?_ ?_
 refine zaX ?_ ?_
 exact zab 1
 exact zai
 exact zab 0
 refine zaa ?_ ?_
 exact zab 2
 exact zad
 intro _ _ _
 exact zab 0
 refine zag ?_ ?_
 refine zaI 5 ?_ ?_
 exact nd_37
 refine zaW (T:="tuple") ?_ ?_ ?_ ?_
 exact zaK
 exact za8
 exact T.n_tuple
 refine zaa ?_ ?_
 refine zbk (N:=["thing","stay"]) ?_ ?_ ?_ ?_ ?_ ?_ ?_
 exact rfl
 exact (BOk.of (Xn:=(zae s_37).names) (XN:=["stay","stock","numbers","every","things","old_things","old_offers"]) rfl rfl rfl (by decide +kernel))
 exact (zaH.name (i:=0) rfl)
 refine zcf ?_
 exact zab 4
 intro _ _ _
 exact zak 0 zqc
 intro _ _ _
 exact zb0
 intro _ _ _
 refine zaX ?_ ?_
 refine zaX ?_ ?_
 exact zab 1
 exact zai
 exact zab 0
 exact zad
 refine zag ?_ ?_
 refine zaI 6 ?_ ?_
 exact nd_37
 refine zaW (T:="tuple") ?_ ?_ ?_ ?_
 exact zaK
 exact za8
 exact T.n_tuple
 refine zaa ?_ ?_
 refine zbk (N:=["number","stay"]) ?_ ?_ ?_ ?_ ?_ ?_ ?_
 exact rfl
 exact (BOk.of (Xn:=(zae s_37).names) (XN:=["stay","stock","numbers","every","things","old_things","old_offers"]) rfl rfl rfl (by decide +kernel))
 exact (zaH.name (i:=0) rfl)
 refine zcf ?_
 exact zab 2
 intro _ _ _
 exact zak 0 zp6
 intro _ _ _
 exact zb0
 intro _ _ _
 refine zaX ?_ ?_
 refine zaX ?_ ?_
 exact zab 1
 exact zai
 exact zab 0
 exact zad
 refine zaj ?_
 refine zaD ?_
 refine zcF ?_
 refine zaa ?_ ?_
 refine zah (k:=2) (g:=t.a_17) (fd:=t.d_17) (ps:=["stock","things","numbers"]) ?_ ?_ ?_ ?_ ?_ ?_
 exact G_17
 exact (hr.mono (by decide))
 exact T.m_17
 exact T.F_17.kp
 exact T.b_17
 refine zaa ?_ ?_
 exact zab 1
 refine zaa ?_ ?_
 exact zab 4
 refine zaa ?_ ?_
 exact zab 2
 exact zad
 refine zaa ?_ ?_
 exact zab 5
 refine zaa ?_ ?_
 exact zab 6
 exact zad
theorem nd_36:(["stock","stays","later"]:List Str).Nodup:=by decide +kernel
theorem sc_36:zam ["stock","stays","later"] ["stock"] (zae s_36):=⟨rfl,rfl,rfl,by decide +kernel,rfl,by decide +kernel,by decide +kernel⟩
theorem ok_36 (T:Tx K mg t):zbn P w K mg base CX0 7 t.a_36 t.d_36 ["stock"] (zbH K 1 F_36):=by
 have G_37:=ok_37 (P:=P) (w:=w) (base:=base) T
 refine zaS (k:=6) (G:=G_36) (N:=["stock","stays","later"]) (ps:=["stock"]) (st:=s_36) T.F_36 sc_36 fun cdv A outer s H E hr=> ?_
 refine zag ?_ ?_
 refine zaI 1 ?_ ?_
 exact nd_36
 refine zfJ ?_
 refine zaa ?_ ?_
 refine zcF ?_
 refine zaa ?_ ?_
 exact zab 0
 refine zaa ?_ ?_
 refine ziP ?_ ?_ ?_ ?_
 exact rfl
 exact T.n_tuple
 exact T.n_range
 refine zaX ?_ ?_
 exact zab 0
 exact zai
 refine zaa ?_ ?_
 refine ziP ?_ ?_ ?_ ?_
 exact rfl
 exact T.n_tuple
 exact T.n_range
 refine zay (id:="len") ?_ ?_ ?_ ?_
 exact zax
 exact zbl
 exact T.n_len
 refine zaa ?_ ?_
 refine zaX ?_ ?_
 exact zab 0
 exact zai
 exact zad
 exact zad
 exact zad
 refine zag ?_ ?_
 refine zaI 2 ?_ ?_
 exact nd_36
 refine zah (k:=6) (g:=t.a_37) (fd:=t.d_37) (ps:=["stay"]) ?_ ?_ ?_ ?_ ?_ ?_
 exact G_37
 exact (hr.mono (by decide))
 exact T.m_37
 exact T.F_37.kp
 exact T.b_37
 refine zaa ?_ ?_
 refine zaX ?_ ?_
 exact zab 1
 refine zkz ?_
 exact zai
 exact zad
 refine zag ?_ ?_
 refine zlk 1000 ?_ ?_ ?_
 exact PassesOwn.never
 refine zaG ?_ ?_ ?_
 exact (zcV (zdK hr))
 exact zab 2
 refine zaX ?_ ?_
 exact zab 1
 refine zkz ?_
 exact zai
 refine zag ?_ ?_
 refine zda ?_
 refine zeI ?_ ?_
 exact zab 1
 exact zab 2
 refine zaj ?_
 refine zaI 2 ?_ ?_
 exact nd_36
 refine zah (k:=6) (g:=t.a_37) (fd:=t.d_37) (ps:=["stay"]) ?_ ?_ ?_ ?_ ?_ ?_
 exact G_37
 exact (hr.mono (by decide))
 exact T.m_37
 exact T.F_37.kp
 exact T.b_37
 refine zaa ?_ ?_
 exact zab 2
 exact zad
 refine zaj ?_
 refine zaD ?_
 refine zr2 ?_
 exact zab 1
theorem sc_26:zam ["stock"] ["stock"] (zae s_26):=⟨rfl,rfl,rfl,by decide +kernel,rfl,by decide +kernel,by decide +kernel⟩
theorem ok_26 (T:Tx K mg t):zbn P w K mg base CX0 8 t.a_26 t.d_26 ["stock"] (zbH K 1 F_26):=by
 have G_36:=ok_36 (P:=P) (w:=w) (base:=base) T
 refine zaS (k:=7) (G:=G_26) (N:=["stock"]) (ps:=["stock"]) (st:=s_26) T.F_26 sc_26 fun cdv A outer s H E hr=> ?_
 refine zaj ?_
 refine zaD ?_
 refine zaX ?_ ?_
 refine zah (k:=7) (g:=t.a_36) (fd:=t.d_36) (ps:=["stock"]) ?_ ?_ ?_ ?_ ?_ ?_
 exact G_36
 exact (hr.mono (by decide))
 exact T.m_36
 exact T.F_36.kp
 exact T.b_36
 refine zaa ?_ ?_
 exact zab 0
 exact zad
 refine zkz ?_
 exact zai
theorem sc_4:zam ["thing"] ["thing"] (zae s_4):=⟨rfl,rfl,rfl,by decide +kernel,rfl,by decide +kernel,by decide +kernel⟩
theorem ok_4 (T:Tx K mg t):zbn P w K mg base CX0 1 t.a_4 t.d_4 ["thing"] (zbH K 1 F_4):=by
 refine zaS (k:=0) (G:=G_4) (N:=["thing"]) (ps:=["thing"]) (st:=s_4) T.F_4 sc_4 fun cdv A outer s H E hr=> ?_
 refine zaj ?_
 refine zaD ?_
 refine zhB ?_ ?_
 refine zkG ?_ ?_ ?_ ?_ ?_
 exact zfq
 exact za8
 exact T.n_isinstance
 exact T.n_tuple
 exact zab 0
 refine zic ?_
 refine zhg ?_ ?_ ?_
 exact (zdv (zdK hr))
 refine zay (id:="len") ?_ ?_ ?_ ?_
 exact zax
 exact zbl
 exact T.n_len
 refine zaa ?_ ?_
 exact zab 0
 exact zad
 exact zai
theorem sc_3:zam ["thing"] ["thing"] (zae s_3):=⟨rfl,rfl,rfl,by decide +kernel,rfl,by decide +kernel,by decide +kernel⟩
theorem ok_3 (T:Tx K mg t):zbn P w K mg base CX0 1 t.a_3 t.d_3 ["thing"] (zbH K 1 F_3):=by
 refine zaS (k:=0) (G:=G_3) (N:=["thing"]) (ps:=["thing"]) (st:=s_3) T.F_3 sc_3 fun cdv A outer s H E hr=> ?_
 refine zaj ?_
 refine zaD ?_
 refine zhB ?_ ?_
 refine zkG ?_ ?_ ?_ ?_ ?_
 exact zoi
 exact zro
 exact T.n_isinstance
 exact T.n_int
 exact zab 0
 refine zic ?_
 refine zq9 ?_
 refine zkG ?_ ?_ ?_ ?_ ?_
 exact zmn
 exact zoJ
 exact T.n_isinstance
 exact T.n_bool
 exact zab 0
theorem nd_5:(["thing","bound","least","number"]:List Str).Nodup:=by decide +kernel
theorem sc_5:zam ["thing","bound","least","number"] ["thing","bound"] (zae s_5):=⟨rfl,rfl,rfl,by decide +kernel,rfl,by decide +kernel,by decide +kernel⟩
theorem ok_5 (T:Tx K mg t):zbn P w K mg base CX0 2 t.a_5 t.d_5 ["thing","bound"] (zbH K 2 F_5):=by
 have G_3:=ok_3 (P:=P) (w:=w) (base:=base) T
 refine zaS (k:=1) (G:=G_5) (N:=["thing","bound","least","number"]) (ps:=["thing","bound"]) (st:=s_5) T.F_5 sc_5 fun cdv A outer s H E hr=> ?_
 refine zag ?_ ?_
 refine ze2 ?_ ?_ ?_
 refine zc9 ?_
 refine zcW ?_
 refine zkG ?_ ?_ ?_ ?_ ?_
 exact zfq
 exact za8
 exact T.n_isinstance
 exact T.n_tuple
 exact zab 0
 refine zaj ?_
 refine zaD ?_
 exact zgM
 exact zbg
 refine zag ?_ ?_
 refine zaI 2 ?_ ?_
 exact nd_5
 exact zai
 refine zag ?_ ?_
 refine zfu ?_ ?_ ?_ ?_ ?_
 exact rfl
 exact PassesOwn.never
 refine zcf ?_
 exact zab 0
 exact zak 3 nd_5
 refine zag ?_ ?_
 refine ze2 ?_ ?_ ?_
 refine zcc ?_
 refine zdM ?_ ?_
 refine zc9 ?_
 refine zcW ?_
 refine zah (k:=1) (g:=t.a_3) (fd:=t.d_3) (ps:=["thing"]) ?_ ?_ ?_ ?_ ?_ ?_
 exact G_3
 exact (hr.mono (by decide))
 exact T.m_3
 exact T.F_3.kp
 exact T.b_3
 refine zaa ?_ ?_
 exact zab 3
 exact zad
 refine zdM ?_ ?_
 refine zaG ?_ ?_ ?_
 exact zg4
 exact zab 3
 exact zab 2
 refine zdu ?_
 refine zaG ?_ ?_ ?_
 exact zqV
 exact zab 3
 exact zab 1
 refine zaj ?_
 refine zaD ?_
 exact zgM
 exact zbg
 refine zaj ?_
 refine zaI 2 ?_ ?_
 exact nd_5
 refine zcz ?_ ?_ ?_
 exact zaN
 exact zab 3
 exact zai
 refine zaj ?_
 refine zaD ?_
 exact zgM
theorem nd_7:(["thing","many","things","price"]:List Str).Nodup:=by decide +kernel
theorem sc_7:zam ["thing","many","things","price"] ["thing","many"] (zae s_7):=⟨rfl,rfl,rfl,by decide +kernel,rfl,by decide +kernel,by decide +kernel⟩
theorem ok_7 (T:Tx K mg t):zbn P w K mg base CX0 3 t.a_7 t.d_7 ["thing","many"] (zbH K 2 F_7):=by
 have G_4:=ok_4 (P:=P) (w:=w) (base:=base) T
 have G_3:=ok_3 (P:=P) (w:=w) (base:=base) T
 have G_5:=ok_5 (P:=P) (w:=w) (base:=base) T
 refine zaS (k:=2) (G:=G_7) (N:=["thing","many","things","price"]) (ps:=["thing","many"]) (st:=s_7) T.F_7 sc_7 fun cdv A outer s H E hr=> ?_
 refine zag ?_ ?_
 refine ze2 ?_ ?_ ?_
 refine zc9 ?_
 refine zcW ?_
 refine zah (k:=1) (g:=t.a_4) (fd:=t.d_4) (ps:=["thing"]) ?_ ?_ ?_ ?_ ?_ ?_
 exact G_4
 exact (hr.mono (by decide))
 exact T.m_4
 exact T.F_4.kp
 exact T.b_4
 refine zaa ?_ ?_
 exact zab 0
 exact zad
 refine zaj ?_
 refine zaD ?_
 exact zgM
 exact zbg
 refine zag ?_ ?_
 refine zaI 2 ?_ ?_
 exact nd_7
 refine zaX ?_ ?_
 exact zab 0
 exact zai
 refine zag ?_ ?_
 refine zaI 3 ?_ ?_
 exact nd_7
 refine zaX ?_ ?_
 exact zab 0
 exact zai
 refine zaj ?_
 refine zaD ?_
 refine zhB ?_ ?_
 refine zah (k:=2) (g:=t.a_5) (fd:=t.d_5) (ps:=["thing","bound"]) ?_ ?_ ?_ ?_ ?_ ?_
 exact G_5
 exact (hr.mono (by decide))
 exact T.m_5
 exact T.F_5.kp
 exact T.b_5
 refine zaa ?_ ?_
 exact zab 2
 refine zaa ?_ ?_
 exact zab 1
 exact zad
 refine zhB ?_ ?_
 refine zhg ?_ ?_ ?_
 exact zi0
 refine zay (id:="len") ?_ ?_ ?_ ?_
 exact zax
 exact zbl
 exact T.n_len
 refine zaa ?_ ?_
 exact zab 2
 exact zad
 exact zai
 refine zhB ?_ ?_
 refine zah (k:=1) (g:=t.a_3) (fd:=t.d_3) (ps:=["thing"]) ?_ ?_ ?_ ?_ ?_ ?_
 exact G_3
 exact (hr.mono (by decide))
 exact T.m_3
 exact T.F_3.kp
 exact T.b_3
 refine zaa ?_ ?_
 exact zab 3
 exact zad
 refine zic ?_
 refine zhg ?_ ?_ ?_
 exact zi0
 exact zab 3
 exact zai
theorem nd_6:(["thing","many","offers"]:List Str).Nodup:=by decide +kernel
theorem ztc:(["offer","many"]:List Str).Nodup:=by decide +kernel
theorem sc_6:zam ["thing","many","offers"] ["thing"] (zae s_6):=⟨rfl,rfl,rfl,by decide +kernel,rfl,by decide +kernel,by decide +kernel⟩
theorem ok_6 (T:Tx K mg t):zbn P w K mg base CX0 4 t.a_6 t.d_6 ["thing"] (zbH K 1 F_6):=by
 have G_4:=ok_4 (P:=P) (w:=w) (base:=base) T
 have G_3:=ok_3 (P:=P) (w:=w) (base:=base) T
 have G_7:=ok_7 (P:=P) (w:=w) (base:=base) T
 refine zaS (k:=3) (G:=G_6) (N:=["thing","many","offers"]) (ps:=["thing"]) (st:=s_6) T.F_6 sc_6 fun cdv A outer s H E hr=> ?_
 refine zag ?_ ?_
 refine ze2 ?_ ?_ ?_
 refine zc9 ?_
 refine zcW ?_
 refine zah (k:=1) (g:=t.a_4) (fd:=t.d_4) (ps:=["thing"]) ?_ ?_ ?_ ?_ ?_ ?_
 exact G_4
 exact (hr.mono (by decide))
 exact T.m_4
 exact T.F_4.kp
 exact T.b_4
 refine zaa ?_ ?_
 exact zab 0
 exact zad
 refine zaj ?_
 refine zaD ?_
 exact zgM
 exact zbg
 refine zag ?_ ?_
 refine zaI 1 ?_ ?_
 exact nd_6
 refine zaX ?_ ?_
 exact zab 0
 exact zai
 refine zag ?_ ?_
 refine zaI 2 ?_ ?_
 exact nd_6
 refine zaX ?_ ?_
 exact zab 0
 exact zai
 refine zag ?_ ?_
 refine ze2 ?_ ?_ ?_
 refine zcc ?_
 refine zdM ?_ ?_
 refine zc9 ?_
 refine zcW ?_
 refine zah (k:=1) (g:=t.a_3) (fd:=t.d_3) (ps:=["thing"]) ?_ ?_ ?_ ?_ ?_ ?_
 exact G_3
 exact (hr.mono (by decide))
 exact T.m_3
 exact T.F_3.kp
 exact T.b_3
 refine zaa ?_ ?_
 exact zab 1
 exact zad
 refine zdM ?_ ?_
 refine zaG ?_ ?_ ?_
 exact zg4
 exact zab 1
 exact zai
 refine zdu ?_
 refine zaG ?_ ?_ ?_
 exact zi0
 exact zab 1
 exact zkZ T.c_MOST_THINGS
 refine zaj ?_
 refine zaD ?_
 exact zgM
 exact zbg
 refine zag ?_ ?_
 refine ze2 ?_ ?_ ?_
 refine zcc ?_
 refine zdM ?_ ?_
 refine zc9 ?_
 refine zcW ?_
 refine zkG ?_ ?_ ?_ ?_ ?_
 exact zfq
 exact za8
 exact T.n_isinstance
 exact T.n_tuple
 exact zab 2
 refine zdu ?_
 refine zaG ?_ ?_ ?_
 exact zi0
 refine zay (id:="len") ?_ ?_ ?_ ?_
 exact zax
 exact zbl
 exact T.n_len
 refine zaa ?_ ?_
 exact zab 2
 exact zad
 exact zkZ T.c_MOST_OFFERS
 refine zaj ?_
 refine zaD ?_
 exact zgM
 exact zbg
 refine zaj ?_
 refine zaD ?_
 refine zay (id:="all") ?_ ?_ ?_ ?_
 exact (zhh rfl)
 exact zny
 exact T.n_all
 refine zaa ?_ ?_
 refine zbk (N:=["offer","many"]) ?_ ?_ ?_ ?_ ?_ ?_ ?_
 exact rfl
 exact (BOk.of (Xn:=(zae s_6).names) (XN:=["thing","many","offers"]) rfl rfl rfl (by decide +kernel))
 exact (zaH.name (i:=0) rfl)
 refine zcf ?_
 exact zab 2
 intro _ _ _
 exact zak 0 ztc
 intro _ _ _
 exact zb0
 intro _ _ _
 refine zah (k:=3) (g:=t.a_7) (fd:=t.d_7) (ps:=["thing","many"]) ?_ ?_ ?_ ?_ ?_ ?_
 exact G_7
 exact (hr.mono (by decide))
 exact T.m_7
 exact T.F_7.kp
 exact T.b_7
 refine zaa ?_ ?_
 exact zab 0
 refine zaa ?_ ?_
 exact zab 1
 exact zad
 exact zad
theorem nd_23:(["many","things","bits","thing"]:List Str).Nodup:=by decide +kernel
theorem sc_23:zam ["many","things","bits","thing"] ["many","things"] (zae s_23):=⟨rfl,rfl,rfl,by decide +kernel,rfl,by decide +kernel,by decide +kernel⟩
theorem ok_23 (T:Tx K mg t):zbn P w K mg base CX0 1 t.a_23 t.d_23 ["many","things"] (zbH K 2 F_23):=by
 refine zaS (k:=0) (G:=G_23) (N:=["many","things","bits","thing"]) (ps:=["many","things"]) (st:=s_23) T.F_23 sc_23 fun cdv A outer s H E hr=> ?_
 refine zag ?_ ?_
 refine zaI 2 ?_ ?_
 exact nd_23
 exact zai
 refine zag ?_ ?_
 refine zfu ?_ ?_ ?_ ?_ ?_
 exact rfl
 exact PassesOwn.never
 refine zeW ?_ ?_
 exact T.n_range
 refine zaa ?_ ?_
 exact zab 0
 exact zad
 exact zak 3 nd_23
 refine zag ?_ ?_
 refine zaI 2 ?_ ?_
 exact nd_23
 refine zcz ?_ ?_ ?_
 exact zkA
 exact zab 2
 exact zai
 refine zaj ?_
 refine ze2 ?_ ?_ ?_
 refine zaG ?_ ?_ ?_
 exact (zgW (zdK hr))
 exact zab 3
 exact zab 1
 refine zaj ?_
 refine zaI 2 ?_ ?_
 exact nd_23
 refine zcz ?_ ?_ ?_
 exact zaN
 exact zab 2
 exact zai
 exact zbg
 refine zaj ?_
 refine zaD ?_
 exact zab 2
theorem nd_22:(["stock","lots","number","offer","bits","longer"]:List Str).Nodup:=by decide +kernel
theorem ztg:(["known","offer","number","bits"]:List Str).Nodup:=by decide +kernel
theorem sc_22:zam ["stock","lots","number","offer","bits","longer"] ["stock"] (zae s_22):=⟨rfl,rfl,rfl,by decide +kernel,rfl,by decide +kernel,by decide +kernel⟩
theorem ok_22 (T:Tx K mg t):zbn P w K mg base CX0 2 t.a_22 t.d_22 ["stock"] (zbH K 1 F_22):=by
 have G_23:=ok_23 (P:=P) (w:=w) (base:=base) T
 refine zaS (k:=1) (G:=G_22) (N:=["stock","lots","number","offer","bits","longer"]) (ps:=["stock"]) (st:=s_22) T.F_22 sc_22 fun cdv A outer s H E hr=> ?_
 refine zag ?_ ?_
 refine zaI 1 ?_ ?_
 exact nd_22
 refine zgy ?_
 refine zaa ?_ ?_
 refine zcF ?_
 refine zaa ?_ ?_
 exact zai
 refine zaa ?_ ?_
 refine zcF ?_
 exact zad
 refine zaa ?_ ?_
 exact zai
 exact zad
 exact zad
 refine zag ?_ ?_
 refine zfu ?_ ?_ ?_ ?_ ?_
 exact rfl
 exact PassesOwn.never
 refine zqD ?_ ?_
 exact T.n_range
 refine zaa ?_ ?_
 refine zcz ?_ ?_ ?_
 exact zgp
 refine zay (id:="len") ?_ ?_ ?_ ?_
 exact zax
 exact zbl
 exact T.n_len
 refine zaa ?_ ?_
 refine zaX ?_ ?_
 exact zab 0
 exact zai
 exact zad
 exact zai
 refine zaa ?_ ?_
 refine zkz ?_
 exact zai
 refine zaa ?_ ?_
 refine zkz ?_
 exact zai
 exact zad
 exact zak 2 nd_22
 refine zag ?_ ?_
 refine zaI 3 ?_ ?_
 exact nd_22
 refine zaX ?_ ?_
 refine zaX ?_ ?_
 exact zab 0
 exact zai
 exact zab 2
 refine zag ?_ ?_
 refine zaI 4 ?_ ?_
 exact nd_22
 refine zah (k:=1) (g:=t.a_23) (fd:=t.d_23) (ps:=["many","things"]) ?_ ?_ ?_ ?_ ?_ ?_
 exact G_23
 exact (hr.mono (by decide))
 exact T.m_23
 exact T.F_23.kp
 exact T.b_23
 refine zaa ?_ ?_
 refine zaX ?_ ?_
 exact zab 0
 exact zai
 refine zaa ?_ ?_
 refine zaX ?_ ?_
 exact zab 3
 exact zai
 exact zad
 refine zag ?_ ?_
 refine zdc 5 (N:=["known","offer","number","bits"]) ?_ ?_ ?_ ?_ ?_ ?_ ?_ ?_
 exact rfl
 exact nd_22
 exact (BOk.of (Xn:=(zae s_22).names) (XN:=["stock","lots","number","offer","bits","longer"]) rfl rfl rfl (by decide +kernel))
 exact (zaH.name (i:=0) rfl)
 refine zcf ?_
 exact zab 1
 intro _ _ _
 exact zak 0 ztg
 intro _ _ _
 exact zb0
 intro _ _ _
 refine zcF ?_
 refine zaa ?_ ?_
 refine zcz ?_ ?_ ?_
 exact zaN
 refine zaX ?_ ?_
 exact zab 1
 exact zai
 refine zaX ?_ ?_
 exact zab 0
 exact zai
 refine zaa ?_ ?_
 refine zcz ?_ ?_ ?_
 exact zaN
 refine zcF ?_
 refine zaa ?_ ?_
 exact zab 2
 exact zad
 refine zaX ?_ ?_
 exact zab 0
 exact zai
 refine zaa ?_ ?_
 refine zcz ?_ ?_ ?_
 exact zqR
 exact zab 3
 refine zaX ?_ ?_
 exact zab 0
 exact zai
 exact zad
 refine zaj ?_
 refine zaI 1 ?_ ?_
 exact nd_22
 refine zcz ?_ ?_ ?_
 exact zaN
 refine zcz ?_ ?_ ?_
 exact zaN
 refine zdl ?_ ?_ ?_
 exact zab 1
 exact zea
 refine zee ?_
 exact zai
 exact zab 5
 refine zdl ?_ ?_ ?_
 exact zab 1
 refine zee ?_
 exact zai
 exact zea
 refine zaj ?_
 refine zaD ?_
 exact zab 1
theorem nd_21:(["stock","every"]:List Str).Nodup:=by decide +kernel
theorem zsx:(["known","every"]:List Str).Nodup:=by decide +kernel
theorem sc_21:zam ["stock","every"] ["stock"] (zae s_21):=⟨rfl,rfl,rfl,by decide +kernel,rfl,by decide +kernel,by decide +kernel⟩
theorem ok_21 (T:Tx K mg t):zbn P w K mg base CX0 3 t.a_21 t.d_21 ["stock"] (zbH K 1 F_21):=by
 have G_23:=ok_23 (P:=P) (w:=w) (base:=base) T
 have G_22:=ok_22 (P:=P) (w:=w) (base:=base) T
 refine zaS (k:=2) (G:=G_21) (N:=["stock","every"]) (ps:=["stock"]) (st:=s_21) T.F_21 sc_21 fun cdv A outer s H E hr=> ?_
 refine zag ?_ ?_
 refine zaI 1 ?_ ?_
 exact nd_21
 refine zah (k:=1) (g:=t.a_23) (fd:=t.d_23) (ps:=["many","things"]) ?_ ?_ ?_ ?_ ?_ ?_
 exact G_23
 exact (hr.mono (by decide))
 exact T.m_23
 exact T.F_23.kp
 exact T.b_23
 refine zaa ?_ ?_
 refine zaX ?_ ?_
 exact zab 0
 exact zai
 refine zaa ?_ ?_
 refine zdW ?_ ?_ ?_ ?_
 exact rfl
 exact T.n_list
 exact T.n_range
 refine zaX ?_ ?_
 exact zab 0
 exact zai
 exact zad
 refine zaj ?_
 refine zaD ?_
 refine zbk (N:=["known","every"]) ?_ ?_ ?_ ?_ ?_ ?_ ?_
 exact rfl
 exact (BOk.of (Xn:=(zae s_21).names) (XN:=["stock","every"]) rfl rfl rfl (by decide +kernel))
 exact (zaH.name (i:=0) rfl)
 refine zcf ?_
 refine zah (k:=2) (g:=t.a_22) (fd:=t.d_22) (ps:=["stock"]) ?_ ?_ ?_ ?_ ?_ ?_
 exact G_22
 exact (hr.mono (by decide))
 exact T.m_22
 exact T.F_22.kp
 exact T.b_22
 refine zaa ?_ ?_
 exact zab 0
 exact zad
 intro _ _ _
 exact zak 0 zsx
 intro _ _ _
 refine zdj ?_
 refine zaG ?_ ?_ ?_
 exact (zdv (zdK hr))
 refine zaX ?_ ?_
 exact zab 0
 exact zai
 exact zab 1
 intro _ _ _
 refine zcF ?_
 refine zaa ?_ ?_
 refine zaX ?_ ?_
 exact zab 0
 exact zai
 refine zaa ?_ ?_
 refine zaX ?_ ?_
 exact zab 0
 exact zai
 exact zad
theorem sc_41:zam ["stock"] ["stock"] (zae s_41):=⟨rfl,rfl,rfl,by decide +kernel,rfl,by decide +kernel,by decide +kernel⟩
theorem ok_41 (T:Tx K mg t):zbn P w K mg base CX0 5 t.a_41 t.d_41 ["stock"] (zbH K 1 F_41):=by
 have G_11:=ok_11 (P:=P) (w:=w) (base:=base) T
 have G_21:=ok_21 (P:=P) (w:=w) (base:=base) T
 refine zaS (k:=4) (G:=G_41) (N:=["stock"]) (ps:=["stock"]) (st:=s_41) T.F_41 sc_41 fun cdv A outer s H E hr=> ?_
 refine zag ?_ ?_
 refine zda ?_
 refine zah (k:=4) (g:=t.a_11) (fd:=t.d_11) (ps:=["stock"]) ?_ ?_ ?_ ?_ ?_ ?_
 exact G_11
 exact (hr.mono (by decide))
 exact T.m_11
 exact T.F_11.kp
 exact T.b_11
 refine zaa ?_ ?_
 exact zab 0
 exact zad
 refine zaj ?_
 refine zaD ?_
 refine zaX ?_ ?_
 refine zay (id:="min") ?_ ?_ ?_ ?_
 exact (zjn (zdK hr))
 exact znZ
 exact T.n_min
 refine zaa ?_ ?_
 refine zah (k:=3) (g:=t.a_21) (fd:=t.d_21) (ps:=["stock"]) ?_ ?_ ?_ ?_ ?_ ?_
 exact G_21
 exact (hr.mono (by decide))
 exact T.m_21
 exact T.F_21.kp
 exact T.b_21
 refine zaa ?_ ?_
 exact zab 0
 exact zad
 exact zad
 exact zai
theorem sc_8:zam ["stock","thing"] ["stock","thing"] (zae s_8):=⟨rfl,rfl,rfl,by decide +kernel,rfl,by decide +kernel,by decide +kernel⟩
theorem ok_8 (T:Tx K mg t):zbn P w K mg base CX0 3 t.a_8 t.d_8 ["stock","thing"] (zbH K 2 F_8):=by
 have G_5:=ok_5 (P:=P) (w:=w) (base:=base) T
 refine zaS (k:=2) (G:=G_8) (N:=["stock","thing"]) (ps:=["stock","thing"]) (st:=s_8) T.F_8 sc_8 fun cdv A outer s H E hr=> ?_
 refine zaj ?_
 refine zaD ?_
 refine zah (k:=2) (g:=t.a_5) (fd:=t.d_5) (ps:=["thing","bound"]) ?_ ?_ ?_ ?_ ?_ ?_
 exact G_5
 exact (hr.mono (by decide))
 exact T.m_5
 exact T.F_5.kp
 exact T.b_5
 refine zaa ?_ ?_
 exact zab 1
 refine zaa ?_ ?_
 refine zay (id:="len") ?_ ?_ ?_ ?_
 exact zax
 exact zbl
 exact T.n_len
 refine zaa ?_ ?_
 refine zaX ?_ ?_
 exact zab 0
 exact zai
 exact zad
 exact zad
theorem sc_12:zam ["stock","lot"] ["stock","lot"] (zae s_12):=⟨rfl,rfl,rfl,by decide +kernel,rfl,by decide +kernel,by decide +kernel⟩
theorem ok_12 (T:Tx K mg t):zbn P w K mg base CX0 4 t.a_12 t.d_12 ["stock","lot"] (zbH K 2 F_12):=by
 have G_8:=ok_8 (P:=P) (w:=w) (base:=base) T
 refine zaS (k:=3) (G:=G_12) (N:=["stock","lot"]) (ps:=["stock","lot"]) (st:=s_12) T.F_12 sc_12 fun cdv A outer s H E hr=> ?_
 refine zaj ?_
 refine ze2 ?_ ?_ ?_
 refine zc9 ?_
 refine zcW ?_
 refine zah (k:=3) (g:=t.a_8) (fd:=t.d_8) (ps:=["stock","thing"]) ?_ ?_ ?_ ?_ ?_ ?_
 exact G_8
 exact (hr.mono (by decide))
 exact T.m_8
 exact T.F_8.kp
 exact T.b_8
 refine zaa ?_ ?_
 exact zab 0
 refine zaa ?_ ?_
 exact zab 1
 exact zad
 refine zaj ?_
 exact zot
 exact zbg
theorem zsy:(["number","stock"]:List Str).Nodup:=by decide +kernel
theorem sc_13:zam ["stock","lot"] ["stock","lot"] (zae s_13):=⟨rfl,rfl,rfl,by decide +kernel,rfl,by decide +kernel,by decide +kernel⟩
theorem ok_13 (T:Tx K mg t):zbn P w K mg base CX0 5 t.a_13 t.d_13 ["stock","lot"] (zbH K 2 F_13):=by
 have G_12:=ok_12 (P:=P) (w:=w) (base:=base) T
 refine zaS (k:=4) (G:=G_13) (N:=["stock","lot"]) (ps:=["stock","lot"]) (st:=s_13) T.F_13 sc_13 fun cdv A outer s H E hr=> ?_
 refine zag ?_ ?_
 refine zda ?_
 refine zah (k:=4) (g:=t.a_12) (fd:=t.d_12) (ps:=["stock","lot"]) ?_ ?_ ?_ ?_ ?_ ?_
 exact G_12
 exact (hr.mono (by decide))
 exact T.m_12
 exact T.F_12.kp
 exact T.b_12
 refine zaa ?_ ?_
 exact zab 0
 refine zaa ?_ ?_
 exact zab 1
 exact zad
 refine zaj ?_
 refine zaD ?_
 refine zbk (N:=["number","stock"]) ?_ ?_ ?_ ?_ ?_ ?_ ?_
 exact rfl
 exact (BOk.of (Xn:=(zae s_13).names) (XN:=["stock","lot"]) rfl rfl rfl (by decide +kernel))
 exact (zaH.name (i:=0) rfl)
 refine zcf ?_
 exact zab 1
 intro _ _ _
 exact zak 0 zsy
 intro _ _ _
 exact zb0
 intro _ _ _
 refine zaX ?_ ?_
 refine zaX ?_ ?_
 exact zab 1
 exact zai
 exact zab 0
theorem sc_19:zam ["stock","thing"] ["stock","thing"] (zae s_19):=⟨rfl,rfl,rfl,by decide +kernel,rfl,by decide +kernel,by decide +kernel⟩
theorem ok_19 (T:Tx K mg t):zbn P w K mg base CX0 6 t.a_19 t.d_19 ["stock","thing"] (zbH K 2 F_19):=by
 have G_15:=ok_15 (P:=P) (w:=w) (base:=base) T
 have G_13:=ok_13 (P:=P) (w:=w) (base:=base) T
 have G_8:=ok_8 (P:=P) (w:=w) (base:=base) T
 refine zaS (k:=5) (G:=G_19) (N:=["stock","thing"]) (ps:=["stock","thing"]) (st:=s_19) T.F_19 sc_19 fun cdv A outer s H E hr=> ?_
 refine zaj ?_
 refine zaD ?_
 refine zhB ?_ ?_
 refine zah (k:=3) (g:=t.a_8) (fd:=t.d_8) (ps:=["stock","thing"]) ?_ ?_ ?_ ?_ ?_ ?_
 exact G_8
 exact (hr.mono (by decide))
 exact T.m_8
 exact T.F_8.kp
 exact T.b_8
 refine zaa ?_ ?_
 exact zab 0
 refine zaa ?_ ?_
 exact zab 1
 exact zad
 refine zic ?_
 refine zah (k:=2) (g:=t.a_15) (fd:=t.d_15) (ps:=["stock","offers"]) ?_ ?_ ?_ ?_ ?_ ?_
 exact G_15
 exact (hr.mono (by decide))
 exact T.m_15
 exact T.F_15.kp
 exact T.b_15
 refine zaa ?_ ?_
 exact zab 0
 refine zaa ?_ ?_
 refine zah (k:=5) (g:=t.a_13) (fd:=t.d_13) (ps:=["stock","lot"]) ?_ ?_ ?_ ?_ ?_ ?_
 exact G_13
 exact (hr.mono (by decide))
 exact T.m_13
 exact T.F_13.kp
 exact T.b_13
 refine zaa ?_ ?_
 exact zab 0
 refine zaa ?_ ?_
 exact zab 1
 exact zad
 exact zad
theorem sc_20:zam ["stock","cover"] ["stock","cover"] (zae s_20):=⟨rfl,rfl,rfl,by decide +kernel,rfl,by decide +kernel,by decide +kernel⟩
theorem ok_20 (T:Tx K mg t):zbn P w K mg base CX0 7 t.a_20 t.d_20 ["stock","cover"] (zbH K 2 F_20):=by
 have G_19:=ok_19 (P:=P) (w:=w) (base:=base) T
 refine zaS (k:=6) (G:=G_20) (N:=["stock","cover"]) (ps:=["stock","cover"]) (st:=s_20) T.F_20 sc_20 fun cdv A outer s H E hr=> ?_
 refine zaj ?_
 refine ze2 ?_ ?_ ?_
 refine zc9 ?_
 refine zcW ?_
 refine zah (k:=6) (g:=t.a_19) (fd:=t.d_19) (ps:=["stock","thing"]) ?_ ?_ ?_ ?_ ?_ ?_
 exact G_19
 exact (hr.mono (by decide))
 exact T.m_19
 exact T.F_19.kp
 exact T.b_19
 refine zaa ?_ ?_
 exact zab 0
 refine zaa ?_ ?_
 exact zab 1
 exact zad
 refine zaj ?_
 exact zot
 exact zbg
theorem nd_28:(["stock","lot","lesser"]:List Str).Nodup:=by decide +kernel
theorem zqT:(["number","lesser"]:List Str).Nodup:=by decide +kernel
theorem sc_28:zam ["stock","lot","lesser"] ["stock","lot"] (zae s_28):=⟨rfl,rfl,rfl,by decide +kernel,rfl,by decide +kernel,by decide +kernel⟩
theorem ok_28 (T:Tx K mg t):zbn P w K mg base CX0 9 t.a_28 t.d_28 ["stock","lot"] (zbH K 2 F_28):=by
 have G_12:=ok_12 (P:=P) (w:=w) (base:=base) T
 have G_26:=ok_26 (P:=P) (w:=w) (base:=base) T
 have G_20:=ok_20 (P:=P) (w:=w) (base:=base) T
 refine zaS (k:=8) (G:=G_28) (N:=["stock","lot","lesser"]) (ps:=["stock","lot"]) (st:=s_28) T.F_28 sc_28 fun cdv A outer s H E hr=> ?_
 refine zag ?_ ?_
 refine zda ?_
 refine zah (k:=4) (g:=t.a_12) (fd:=t.d_12) (ps:=["stock","lot"]) ?_ ?_ ?_ ?_ ?_ ?_
 exact G_12
 exact (hr.mono (by decide))
 exact T.m_12
 exact T.F_12.kp
 exact T.b_12
 refine zaa ?_ ?_
 exact zab 0
 refine zaa ?_ ?_
 exact zab 1
 exact zad
 refine zag ?_ ?_
 refine zaI 2 ?_ ?_
 exact nd_28
 refine zah (k:=8) (g:=t.a_26) (fd:=t.d_26) (ps:=["stock"]) ?_ ?_ ?_ ?_ ?_ ?_
 exact G_26
 exact (hr.mono (by decide))
 exact T.m_26
 exact T.F_26.kp
 exact T.b_26
 refine zaa ?_ ?_
 exact zab 0
 exact zad
 refine zag ?_ ?_
 refine zda ?_
 refine zah (k:=7) (g:=t.a_20) (fd:=t.d_20) (ps:=["stock","cover"]) ?_ ?_ ?_ ?_ ?_ ?_
 exact G_20
 exact (hr.mono (by decide))
 exact T.m_20
 exact T.F_20.kp
 exact T.b_20
 refine zaa ?_ ?_
 refine zaX ?_ ?_
 exact zab 2
 exact zai
 refine zaa ?_ ?_
 exact zab 1
 exact zad
 refine zaj ?_
 refine zaD ?_
 refine zaW (T:="tuple") ?_ ?_ ?_ ?_
 exact zaK
 exact za8
 exact T.n_tuple
 refine zaa ?_ ?_
 refine zbk (N:=["number","lesser"]) ?_ ?_ ?_ ?_ ?_ ?_ ?_
 exact rfl
 exact (BOk.of (Xn:=(zae s_28).names) (XN:=["stock","lot","lesser"]) rfl rfl rfl (by decide +kernel))
 exact (zaH.name (i:=0) rfl)
 refine zcf ?_
 exact zab 1
 intro _ _ _
 exact zak 0 zqT
 intro _ _ _
 exact zb0
 intro _ _ _
 refine zaX ?_ ?_
 refine zaX ?_ ?_
 exact zab 1
 exact zai
 exact zab 0
 exact zad
theorem ztb:(["offer"]:List Str).Nodup:=by decide +kernel
theorem sc_10:zam ["stock","lot"] ["stock","lot"] (zae s_10):=⟨rfl,rfl,rfl,by decide +kernel,rfl,by decide +kernel,by decide +kernel⟩
theorem ok_10 (T:Tx K mg t):zbn P w K mg base CX0 6 t.a_10 t.d_10 ["stock","lot"] (zbH K 2 F_10):=by
 have G_13:=ok_13 (P:=P) (w:=w) (base:=base) T
 refine zaS (k:=5) (G:=G_10) (N:=["stock","lot"]) (ps:=["stock","lot"]) (st:=s_10) T.F_10 sc_10 fun cdv A outer s H E hr=> ?_
 refine zaj ?_
 refine zaD ?_
 refine zay (id:="sum") ?_ ?_ ?_ ?_
 exact (zlA rfl)
 exact zp8
 exact T.n_sum
 refine zaa ?_ ?_
 refine zbk (N:=["offer"]) ?_ ?_ ?_ ?_ ?_ ?_ ?_
 exact rfl
 exact (BOk.of (Xn:=(zae s_10).names) (XN:=["stock","lot"]) rfl rfl rfl (by decide +kernel))
 exact (zaH.name (i:=0) rfl)
 refine zcf ?_
 refine zah (k:=5) (g:=t.a_13) (fd:=t.d_13) (ps:=["stock","lot"]) ?_ ?_ ?_ ?_ ?_ ?_
 exact G_13
 exact (hr.mono (by decide))
 exact T.m_13
 exact T.F_13.kp
 exact T.b_13
 refine zaa ?_ ?_
 exact zab 0
 refine zaa ?_ ?_
 exact zab 1
 exact zad
 intro _ _ _
 exact zak 0 ztb
 intro _ _ _
 exact zb0
 intro _ _ _
 refine zaX ?_ ?_
 exact zab 0
 exact zai
 exact zad
theorem zry:(["number","others"]:List Str).Nodup:=by decide +kernel
theorem sc_40:zam ["numbers","others"] ["numbers","others"] (zae s_40):=⟨rfl,rfl,rfl,by decide +kernel,rfl,by decide +kernel,by decide +kernel⟩
theorem ok_40 (T:Tx K mg t):zbn P w K mg base CX0 1 t.a_40 t.d_40 ["numbers","others"] (zbH K 2 F_40):=by
 refine zaS (k:=0) (G:=G_40) (N:=["numbers","others"]) (ps:=["numbers","others"]) (st:=s_40) T.F_40 sc_40 fun cdv A outer s H E hr=> ?_
 refine zaj ?_
 refine zaD ?_
 refine zaW (T:="tuple") ?_ ?_ ?_ ?_
 exact zaK
 exact za8
 exact T.n_tuple
 refine zaa ?_ ?_
 refine zbk (N:=["number","others"]) ?_ ?_ ?_ ?_ ?_ ?_ ?_
 exact rfl
 exact (BOk.of (Xn:=(zae s_40).names) (XN:=["numbers","others"]) rfl rfl rfl (by decide +kernel))
 exact (zaH.name (i:=0) rfl)
 refine zcf ?_
 exact zab 0
 intro _ _ _
 exact zak 0 zry
 intro _ _ _
 refine zdj ?_
 refine zaG ?_ ?_ ?_
 exact (zfe (zdK hr))
 exact zab 0
 exact zab 1
 intro _ _ _
 exact zab 0
 exact zad
theorem sc_39:zam ["stay","later"] ["stay","later"] (zae s_39):=⟨rfl,rfl,rfl,by decide +kernel,rfl,by decide +kernel,by decide +kernel⟩
theorem ok_39 (T:Tx K mg t):zbn P w K mg base CX0 2 t.a_39 t.d_39 ["stay","later"] (zbH K 2 F_39):=by
 have G_40:=ok_40 (P:=P) (w:=w) (base:=base) T
 refine zaS (k:=1) (G:=G_39) (N:=["stay","later"]) (ps:=["stay","later"]) (st:=s_39) T.F_39 sc_39 fun cdv A outer s H E hr=> ?_
 refine zaj ?_
 refine zaD ?_
 refine zcF ?_
 refine zaa ?_ ?_
 refine zah (k:=1) (g:=t.a_40) (fd:=t.d_40) (ps:=["numbers","others"]) ?_ ?_ ?_ ?_ ?_ ?_
 exact G_40
 exact (hr.mono (by decide))
 exact T.m_40
 exact T.F_40.kp
 exact T.b_40
 refine zaa ?_ ?_
 refine zaX ?_ ?_
 exact zab 0
 exact zai
 refine zaa ?_ ?_
 refine zaX ?_ ?_
 exact zab 1
 exact zai
 exact zad
 refine zaa ?_ ?_
 refine zah (k:=1) (g:=t.a_40) (fd:=t.d_40) (ps:=["numbers","others"]) ?_ ?_ ?_ ?_ ?_ ?_
 exact G_40
 exact (hr.mono (by decide))
 exact T.m_40
 exact T.F_40.kp
 exact T.b_40
 refine zaa ?_ ?_
 refine zaX ?_ ?_
 exact zab 0
 exact zai
 refine zaa ?_ ?_
 refine zaX ?_ ?_
 exact zab 1
 exact zai
 exact zad
 exact zad
theorem nd_27:(["stock","stays"]:List Str).Nodup:=by decide +kernel
theorem zp5:(["place","stays"]:List Str).Nodup:=by decide +kernel
theorem sc_27:zam ["stock","stays"] ["stock"] (zae s_27):=⟨rfl,rfl,rfl,by decide +kernel,rfl,by decide +kernel,by decide +kernel⟩
theorem ok_27 (T:Tx K mg t):zbn P w K mg base CX0 8 t.a_27 t.d_27 ["stock"] (zbH K 1 F_27):=by
 have G_36:=ok_36 (P:=P) (w:=w) (base:=base) T
 have G_39:=ok_39 (P:=P) (w:=w) (base:=base) T
 refine zaS (k:=7) (G:=G_27) (N:=["stock","stays"]) (ps:=["stock"]) (st:=s_27) T.F_27 sc_27 fun cdv A outer s H E hr=> ?_
 refine zag ?_ ?_
 refine zaI 1 ?_ ?_
 exact nd_27
 refine zah (k:=7) (g:=t.a_36) (fd:=t.d_36) (ps:=["stock"]) ?_ ?_ ?_ ?_ ?_ ?_
 exact G_36
 exact (hr.mono (by decide))
 exact T.m_36
 exact T.F_36.kp
 exact T.b_36
 refine zaa ?_ ?_
 exact zab 0
 exact zad
 refine zaj ?_
 refine zaD ?_
 refine zbk (N:=["place","stays"]) ?_ ?_ ?_ ?_ ?_ ?_ ?_
 exact rfl
 exact (BOk.of (Xn:=(zae s_27).names) (XN:=["stock","stays"]) rfl rfl rfl (by decide +kernel))
 exact (zaH.name (i:=0) rfl)
 refine zrB ?_ ?_
 exact T.n_range
 refine zaa ?_ ?_
 exact zai
 refine zaa ?_ ?_
 refine zay (id:="len") ?_ ?_ ?_ ?_
 exact zax
 exact zbl
 exact T.n_len
 refine zaa ?_ ?_
 exact zab 1
 exact zad
 exact zad
 intro _ _ _
 exact zak 0 zp5
 intro _ _ _
 exact zb0
 intro _ _ _
 refine zah (k:=2) (g:=t.a_39) (fd:=t.d_39) (ps:=["stay","later"]) ?_ ?_ ?_ ?_ ?_ ?_
 exact G_39
 exact (hr.mono (by decide))
 exact T.m_39
 exact T.F_39.kp
 exact T.b_39
 refine zaa ?_ ?_
 refine zaX ?_ ?_
 exact zab 1
 refine zcz ?_ ?_ ?_
 exact zgp
 exact zab 0
 exact zai
 refine zaa ?_ ?_
 refine zaX ?_ ?_
 exact zab 1
 exact zab 0
 exact zad
theorem nd_49:(["stock","small","things","offers","best","back","price","out","gone","some","rest","offer","by"]:List Str).Nodup:=by decide +kernel
theorem zq7:(["thing","stock","by"]:List Str).Nodup:=by decide +kernel
theorem sc_49:zam ["stock","small","things","offers","best","back","price","out","gone","some","rest","offer","by"] ["stock"] (zae s_49):=⟨rfl,rfl,rfl,by decide +kernel,rfl,by decide +kernel,by decide +kernel⟩
theorem ok_49 (T:Tx K mg t):zbn P w K mg base CX0 10 t.a_49 t.d_49 ["stock"] (zbH K 1 F_49):=by
 have G_26:=ok_26 (P:=P) (w:=w) (base:=base) T
 have G_9:=ok_9 (P:=P) (w:=w) (base:=base) T
 have G_6:=ok_6 (P:=P) (w:=w) (base:=base) T
 have G_41:=ok_41 (P:=P) (w:=w) (base:=base) T
 have G_28:=ok_28 (P:=P) (w:=w) (base:=base) T
 have G_10:=ok_10 (P:=P) (w:=w) (base:=base) T
 have G_19:=ok_19 (P:=P) (w:=w) (base:=base) T
 have G_27:=ok_27 (P:=P) (w:=w) (base:=base) T
 have G_25:=ok_25 (P:=P) (w:=w) (base:=base) T
 have G_24:=ok_24 (P:=P) (w:=w) (base:=base) T
 refine zaS (k:=9) (G:=G_49) (N:=["stock","small","things","offers","best","back","price","out","gone","some","rest","offer","by"]) (ps:=["stock"]) (st:=s_49) T.F_49 sc_49 fun cdv A outer s H E hr=> ?_
 refine zag ?_ ?_
 refine zjL ?_ ?_
 refine zah (k:=8) (g:=t.a_26) (fd:=t.d_26) (ps:=["stock"]) ?_ ?_ ?_ ?_ ?_ ?_
 exact G_26
 exact (hr.mono (by decide))
 exact T.m_26
 exact T.F_26.kp
 exact T.b_26
 refine zaa ?_ ?_
 exact zab 0
 exact zad
 refine zdR ?_ ?_
 exact rfl
 refine zaP ?_ ?_
 exact zak 1 nd_49
 refine zaP ?_ ?_
 exact zak 2 nd_49
 refine zaP ?_ ?_
 exact zak 3 nd_49
 exact zcU
 refine zag ?_ ?_
 refine ze2 ?_ ?_ ?_
 refine zcc ?_
 refine zdM ?_ ?_
 refine zaG ?_ ?_ ?_
 exact zfo
 refine zah (k:=4) (g:=t.a_6) (fd:=t.d_6) (ps:=["thing"]) ?_ ?_ ?_ ?_ ?_ ?_
 exact G_6
 exact (hr.mono (by decide))
 exact T.m_6
 exact T.F_6.kp
 exact T.b_6
 refine zaa ?_ ?_
 exact zab 1
 exact zad
 exact zgM
 refine zdu ?_
 refine zaG ?_ ?_ ?_
 exact zfo
 refine zah (k:=3) (g:=t.a_9) (fd:=t.d_9) (ps:=["stock"]) ?_ ?_ ?_ ?_ ?_ ?_
 exact G_9
 exact (hr.mono (by decide))
 exact T.m_9
 exact T.F_9.kp
 exact T.b_9
 refine zaa ?_ ?_
 exact zab 1
 exact zad
 exact zgM
 refine zaj ?_
 refine zaD ?_
 exact zgM
 exact zbg
 refine zag ?_ ?_
 refine ze2 ?_ ?_ ?_
 refine zcc ?_
 refine zdM ?_ ?_
 refine zaG ?_ ?_ ?_
 exact (zcV (zdK hr))
 refine zay (id:="len") ?_ ?_ ?_ ?_
 exact zax
 exact zbl
 exact T.n_len
 refine zaa ?_ ?_
 exact zab 2
 exact zad
 refine zaX ?_ ?_
 exact zab 1
 exact zai
 refine zdu ?_
 refine zaG ?_ ?_ ?_
 exact (zcV (zdK hr))
 refine zay (id:="len") ?_ ?_ ?_ ?_
 exact zax
 exact zbl
 exact T.n_len
 refine zaa ?_ ?_
 exact zab 3
 exact zad
 refine zay (id:="len") ?_ ?_ ?_ ?_
 exact zax
 exact zbl
 exact T.n_len
 refine zaa ?_ ?_
 refine zaX ?_ ?_
 exact zab 1
 exact zai
 exact zad
 refine zaj ?_
 refine zaD ?_
 exact zgM
 exact zbg
 refine zag ?_ ?_
 refine zaI 4 ?_ ?_
 exact nd_49
 refine zah (k:=5) (g:=t.a_41) (fd:=t.d_41) (ps:=["stock"]) ?_ ?_ ?_ ?_ ?_ ?_
 exact G_41
 exact (hr.mono (by decide))
 exact T.m_41
 exact T.F_41.kp
 exact T.b_41
 refine zaa ?_ ?_
 exact zab 1
 exact zad
 refine zag ?_ ?_
 refine zaI 5 ?_ ?_
 exact nd_49
 refine zah (k:=9) (g:=t.a_28) (fd:=t.d_28) (ps:=["stock","lot"]) ?_ ?_ ?_ ?_ ?_ ?_
 exact G_28
 exact (hr.mono (by decide))
 exact T.m_28
 exact T.F_28.kp
 exact T.b_28
 refine zaa ?_ ?_
 exact zab 0
 refine zaa ?_ ?_
 exact zab 4
 exact zad
 refine zag ?_ ?_
 refine zaI 6 ?_ ?_
 exact nd_49
 refine zah (k:=6) (g:=t.a_10) (fd:=t.d_10) (ps:=["stock","lot"]) ?_ ?_ ?_ ?_ ?_ ?_
 exact G_10
 exact (hr.mono (by decide))
 exact T.m_10
 exact T.F_10.kp
 exact T.b_10
 refine zaa ?_ ?_
 exact zab 0
 refine zaa ?_ ?_
 refine zah (k:=5) (g:=t.a_41) (fd:=t.d_41) (ps:=["stock"]) ?_ ?_ ?_ ?_ ?_ ?_
 exact G_41
 exact (hr.mono (by decide))
 exact T.m_41
 exact T.F_41.kp
 exact T.b_41
 refine zaa ?_ ?_
 exact zab 0
 exact zad
 exact zad
 refine zag ?_ ?_
 refine ze2 ?_ ?_ ?_
 refine zcc ?_
 refine zdM ?_ ?_
 refine zaG ?_ ?_ ?_
 exact zfo
 refine zah (k:=6) (g:=t.a_19) (fd:=t.d_19) (ps:=["stock","thing"]) ?_ ?_ ?_ ?_ ?_ ?_
 exact G_19
 exact (hr.mono (by decide))
 exact T.m_19
 exact T.F_19.kp
 exact T.b_19
 refine zaa ?_ ?_
 exact zab 0
 refine zaa ?_ ?_
 exact zab 5
 exact zad
 exact zgM
 refine zdM ?_ ?_
 refine zaG ?_ ?_ ?_
 exact (zcV (zdK hr))
 refine zah (k:=6) (g:=t.a_10) (fd:=t.d_10) (ps:=["stock","lot"]) ?_ ?_ ?_ ?_ ?_ ?_
 exact G_10
 exact (hr.mono (by decide))
 exact T.m_10
 exact T.F_10.kp
 exact T.b_10
 refine zaa ?_ ?_
 exact zab 0
 refine zaa ?_ ?_
 exact zab 5
 exact zad
 exact zab 6
 refine zdu ?_
 refine zaG ?_ ?_ ?_
 exact (zcV (zdK hr))
 refine zah (k:=6) (g:=t.a_10) (fd:=t.d_10) (ps:=["stock","lot"]) ?_ ?_ ?_ ?_ ?_ ?_
 exact G_10
 exact (hr.mono (by decide))
 exact T.m_10
 exact T.F_10.kp
 exact T.b_10
 refine zaa ?_ ?_
 exact zab 1
 refine zaa ?_ ?_
 exact zab 4
 exact zad
 exact zab 6
 refine zaj ?_
 refine zaD ?_
 exact zgM
 exact zbg
 refine zag ?_ ?_
 refine ze2 ?_ ?_ ?_
 refine zcc ?_
 refine zdM ?_ ?_
 refine zaG ?_ ?_ ?_
 exact (zcV (zdK hr))
 refine zah (k:=5) (g:=t.a_24) (fd:=t.d_24) (ps:=["stock"]) ?_ ?_ ?_ ?_ ?_ ?_
 exact G_24
 exact (hr.mono (by decide))
 exact T.m_24
 exact T.F_24.kp
 exact T.b_24
 refine zaa ?_ ?_
 exact zab 1
 exact zad
 refine zgy ?_
 exact zad
 refine zdM ?_ ?_
 refine zaG ?_ ?_ ?_
 exact (zcV (zdK hr))
 refine zah (k:=5) (g:=t.a_25) (fd:=t.d_25) (ps:=["stock"]) ?_ ?_ ?_ ?_ ?_ ?_
 exact G_25
 exact (hr.mono (by decide))
 exact T.m_25
 exact T.F_25.kp
 exact T.b_25
 refine zaa ?_ ?_
 exact zab 1
 exact zad
 refine zgy ?_
 exact zad
 refine zdu ?_
 refine zaG ?_ ?_ ?_
 exact (zcV (zdK hr))
 refine zah (k:=8) (g:=t.a_27) (fd:=t.d_27) (ps:=["stock"]) ?_ ?_ ?_ ?_ ?_ ?_
 exact G_27
 exact (hr.mono (by decide))
 exact T.m_27
 exact T.F_27.kp
 exact T.b_27
 refine zaa ?_ ?_
 exact zab 1
 exact zad
 refine zgy ?_
 exact zad
 refine zaj ?_
 refine zaD ?_
 exact zgM
 exact zbg
 refine zag ?_ ?_
 refine zaI 7 ?_ ?_
 exact nd_49
 refine zaW (T:="list") ?_ ?_ ?_ ?_
 exact zdp
 exact ze4
 exact T.n_list
 refine zaa ?_ ?_
 exact zab 2
 exact zad
 refine zag ?_ ?_
 refine zaI 8 ?_ ?_
 exact nd_49
 refine zaW (T:="list") ?_ ?_ ?_ ?_
 exact zdp
 exact ze4
 exact T.n_list
 refine zaa ?_ ?_
 exact zab 3
 exact zad
 refine zag ?_ ?_
 refine zfu ?_ ?_ ?_ ?_ ?_
 exact rfl
 exact PassesOwn.never
 refine zcf ?_
 refine zah (k:=8) (g:=t.a_27) (fd:=t.d_27) (ps:=["stock"]) ?_ ?_ ?_ ?_ ?_ ?_
 exact G_27
 exact (hr.mono (by decide))
 exact T.m_27
 exact T.F_27.kp
 exact T.b_27
 refine zaa ?_ ?_
 exact zab 0
 exact zad
 refine zdR ?_ ?_
 exact rfl
 refine zaP ?_ ?_
 exact zak 9 nd_49
 refine zaP ?_ ?_
 exact zak 10 nd_49
 exact zcU
 refine zag ?_ ?_
 refine zaI 8 ?_ ?_
 exact nd_49
 refine zcz ?_ ?_ ?_
 exact zaN
 exact zab 8
 refine zaW (T:="list") ?_ ?_ ?_ ?_
 exact zdp
 exact ze4
 exact T.n_list
 refine zaa ?_ ?_
 exact zab 9
 exact zad
 refine zaj ?_
 refine zaI 7 ?_ ?_
 exact nd_49
 refine zcz ?_ ?_ ?_
 exact zaN
 exact zab 7
 refine zaW (T:="list") ?_ ?_ ?_ ?_
 exact zdp
 exact ze4
 exact T.n_list
 refine zaa ?_ ?_
 exact zab 10
 exact zad
 refine zag ?_ ?_
 refine ze2 ?_ ?_ ?_
 refine zcc ?_
 refine zdM ?_ ?_
 refine zaG ?_ ?_ ?_
 exact (zcV (zdK hr))
 refine zay (id:="sorted") ?_ ?_ ?_ ?_
 exact (zeu rfl)
 exact zhG
 exact T.n_sorted
 refine zaa ?_ ?_
 exact zab 7
 exact zad
 refine zdW ?_ ?_ ?_ ?_
 exact rfl
 exact T.n_list
 exact T.n_range
 refine zaX ?_ ?_
 exact zab 0
 exact zai
 refine zdu ?_
 refine zaG ?_ ?_ ?_
 exact (zcV (zdK hr))
 refine zay (id:="sorted") ?_ ?_ ?_ ?_
 exact (zeu rfl)
 exact zhG
 exact T.n_sorted
 refine zaa ?_ ?_
 exact zab 8
 exact zad
 refine zdW ?_ ?_ ?_ ?_
 exact rfl
 exact T.n_list
 exact T.n_range
 refine zay (id:="len") ?_ ?_ ?_ ?_
 exact zax
 exact zbl
 exact T.n_len
 refine zaa ?_ ?_
 refine zaX ?_ ?_
 exact zab 0
 exact zai
 exact zad
 refine zaj ?_
 refine zaD ?_
 exact zgM
 exact zbg
 refine zag ?_ ?_
 refine zfu ?_ ?_ ?_ ?_ ?_
 exact rfl
 exact PassesOwn.never
 refine zcf ?_
 refine zah (k:=5) (g:=t.a_24) (fd:=t.d_24) (ps:=["stock"]) ?_ ?_ ?_ ?_ ?_ ?_
 exact G_24
 exact (hr.mono (by decide))
 exact T.m_24
 exact T.F_24.kp
 exact T.b_24
 refine zaa ?_ ?_
 exact zab 0
 exact zad
 refine zdR ?_ ?_
 exact rfl
 refine zaP ?_ ?_
 exact zak 11 nd_49
 refine zaP ?_ ?_
 exact zak 12 nd_49
 exact zcU
 refine zaj ?_
 refine ze2 ?_ ?_ ?_
 refine zaG ?_ ?_ ?_
 exact (zcV (zdK hr))
 refine zbk (N:=["thing","stock","by"]) ?_ ?_ ?_ ?_ ?_ ?_ ?_
 exact rfl
 exact (BOk.of (Xn:=(zae s_49).names) (XN:=["stock","small","things","offers","best","back","price","out","gone","some","rest","offer","by"]) rfl rfl rfl (by decide +kernel))
 exact (zaH.name (i:=0) rfl)
 refine zcf ?_
 refine zaX ?_ ?_
 refine zaX ?_ ?_
 refine zaX ?_ ?_
 exact zab 0
 exact zai
 exact zab 11
 exact zai
 intro _ _ _
 exact zak 0 zq7
 intro _ _ _
 refine zdj ?_
 refine zaG ?_ ?_ ?_
 exact (zfe (zdK hr))
 exact zab 0
 refine zaX ?_ ?_
 refine zaX ?_ ?_
 refine zaX ?_ ?_
 exact zab 1
 exact zai
 exact zab 2
 exact zai
 intro _ _ _
 exact zab 0
 refine zgy ?_
 exact zad
 refine zaj ?_
 refine zaD ?_
 exact zgM
 exact zbg
 refine zaj ?_
 refine zaD ?_
 refine zhg ?_ ?_ ?_
 exact (zdv (zdK hr))
 refine zaX ?_ ?_
 refine zah (k:=8) (g:=t.a_26) (fd:=t.d_26) (ps:=["stock"]) ?_ ?_ ?_ ?_ ?_ ?_
 exact G_26
 exact (hr.mono (by decide))
 exact T.m_26
 exact T.F_26.kp
 exact T.b_26
 refine zaa ?_ ?_
 exact zab 1
 exact zad
 exact zai
 exact zab 1
theorem nd_45:(["box","many","left","digit"]:List Str).Nodup:=by decide +kernel
theorem sc_45:zam ["box","many","left","digit"] ["box","many"] (zae s_45):=⟨rfl,rfl,rfl,by decide +kernel,rfl,by decide +kernel,by decide +kernel⟩
theorem ok_45 (T:Tx K mg t):zbn P w K mg base CX0 1 t.a_45 t.d_45 ["box","many"] (zbH K 2 F_45):=by
 refine zaS (k:=0) (G:=G_45) (N:=["box","many","left","digit"]) (ps:=["box","many"]) (st:=s_45) T.F_45 sc_45 fun cdv A outer s H E hr=> ?_
 refine zag ?_ ?_
 refine zjL ?_ ?_
 refine zay (id:="divmod") ?_ ?_ ?_ ?_
 exact zhu
 exact zlD
 exact T.n_divmod
 refine zaa ?_ ?_
 refine zaX ?_ ?_
 exact zab 0
 exact zai
 refine zaa ?_ ?_
 exact zab 1
 exact zad
 refine zdR ?_ ?_
 exact rfl
 refine zaP ?_ ?_
 exact zak 2 nd_45
 refine zaP ?_ ?_
 exact zak 3 nd_45
 exact zcU
 refine zag ?_ ?_
 refine zjL ?_ ?_
 exact zab 2
 refine zq1 ?_ ?_
 exact zab 0
 exact zai
 refine zaj ?_
 refine zaD ?_
 exact zab 3
theorem nd_46:(["box","most_things","most_offers","many","kind","full","offers","turn","things"]:List Str).Nodup:=by decide +kernel
theorem zrs:(["thing","box","full"]:List Str).Nodup:=by decide +kernel
theorem sc_46:zam ["box","most_things","most_offers","many","kind","full","offers","turn","things"] ["box","most_things","most_offers"] (zae s_46):=⟨rfl,rfl,rfl,by decide +kernel,rfl,by decide +kernel,by decide +kernel⟩
theorem ok_46 (T:Tx K mg t):zbn P w K mg base CX0 2 t.a_46 t.d_46 ["box","most_things","most_offers"] (zbH K 3 F_46):=by
 have G_45:=ok_45 (P:=P) (w:=w) (base:=base) T
 refine zaS (k:=1) (G:=G_46) (N:=["box","most_things","most_offers","many","kind","full","offers","turn","things"]) (ps:=["box","most_things","most_offers"]) (st:=s_46) T.F_46 sc_46 fun cdv A outer s H E hr=> ?_
 refine zag ?_ ?_
 refine zaI 3 ?_ ?_
 exact nd_46
 refine zcz ?_ ?_ ?_
 exact zaN
 exact zai
 refine zah (k:=1) (g:=t.a_45) (fd:=t.d_45) (ps:=["box","many"]) ?_ ?_ ?_ ?_ ?_ ?_
 exact G_45
 exact (hr.mono (by decide))
 exact T.m_45
 exact T.F_45.kp
 exact T.b_45
 refine zaa ?_ ?_
 exact zab 0
 refine zaa ?_ ?_
 exact zab 1
 exact zad
 refine zag ?_ ?_
 refine zaI 4 ?_ ?_
 exact nd_46
 refine zaX ?_ ?_
 refine zgy ?_
 refine zaa ?_ ?_
 exact zai
 refine zaa ?_ ?_
 exact zai
 refine zaa ?_ ?_
 exact zai
 refine zaa ?_ ?_
 refine zcz ?_ ?_ ?_
 exact zpj
 exact zai
 exact zai
 exact zad
 refine zah (k:=1) (g:=t.a_45) (fd:=t.d_45) (ps:=["box","many"]) ?_ ?_ ?_ ?_ ?_ ?_
 exact G_45
 exact (hr.mono (by decide))
 exact T.m_45
 exact T.F_45.kp
 exact T.b_45
 refine zaa ?_ ?_
 exact zab 0
 refine zaa ?_ ?_
 exact zai
 exact zad
 refine zag ?_ ?_
 refine zaI 5 ?_ ?_
 exact nd_46
 refine zah (k:=1) (g:=t.a_45) (fd:=t.d_45) (ps:=["box","many"]) ?_ ?_ ?_ ?_ ?_ ?_
 exact G_45
 exact (hr.mono (by decide))
 exact T.m_45
 exact T.F_45.kp
 exact T.b_45
 refine zaa ?_ ?_
 exact zab 0
 refine zaa ?_ ?_
 exact zai
 exact zad
 refine zag ?_ ?_
 refine zaI 6 ?_ ?_
 exact nd_46
 refine zfJ ?_
 exact zad
 refine zag ?_ ?_
 refine zfu ?_ ?_ ?_ ?_ ?_
 exact rfl
 exact PassesOwn.never
 refine zeW ?_ ?_
 exact T.n_range
 refine zaa ?_ ?_
 refine zah (k:=1) (g:=t.a_45) (fd:=t.d_45) (ps:=["box","many"]) ?_ ?_ ?_ ?_ ?_ ?_
 exact G_45
 exact (hr.mono (by decide))
 exact T.m_45
 exact T.F_45.kp
 exact T.b_45
 refine zaa ?_ ?_
 exact zab 0
 refine zaa ?_ ?_
 refine zcz ?_ ?_ ?_
 exact zaN
 exact zab 2
 exact zai
 exact zad
 exact zad
 exact zak 7 nd_46
 refine zag ?_ ?_
 refine zdc 8 (N:=["thing","box","full"]) ?_ ?_ ?_ ?_ ?_ ?_ ?_ ?_
 exact rfl
 exact nd_46
 exact (BOk.of (Xn:=(zae s_46).names) (XN:=["box","most_things","most_offers","many","kind","full","offers","turn","things"]) rfl rfl rfl (by decide +kernel))
 exact (zaH.name (i:=0) rfl)
 refine zeW ?_ ?_
 exact T.n_range
 refine zaa ?_ ?_
 exact zab 3
 exact zad
 intro _ _ _
 exact zak 0 zrs
 intro _ _ _
 refine zdj ?_
 refine zaG ?_ ?_ ?_
 exact znT
 refine zah (k:=1) (g:=t.a_45) (fd:=t.d_45) (ps:=["box","many"]) ?_ ?_ ?_ ?_ ?_ ?_
 exact G_45
 exact (hr.mono (by decide))
 exact T.m_45
 exact T.F_45.kp
 exact T.b_45
 refine zaa ?_ ?_
 exact zab 1
 refine zaa ?_ ?_
 exact zai
 exact zad
 exact zab 2
 intro _ _ _
 exact zab 0
 refine zag ?_ ?_
 refine ze2 ?_ ?_ ?_
 refine zaG ?_ ?_ ?_
 exact (zdv (zdK hr))
 exact zab 8
 refine zgy ?_
 exact zad
 refine zaj ?_
 refine zaI 8 ?_ ?_
 exact nd_46
 refine zgy ?_
 refine zaa ?_ ?_
 refine zah (k:=1) (g:=t.a_45) (fd:=t.d_45) (ps:=["box","many"]) ?_ ?_ ?_ ?_ ?_ ?_
 exact G_45
 exact (hr.mono (by decide))
 exact T.m_45
 exact T.F_45.kp
 exact T.b_45
 refine zaa ?_ ?_
 exact zab 0
 refine zaa ?_ ?_
 exact zab 3
 exact zad
 exact zad
 exact zbg
 refine zaj ?_
 refine zda ?_
 refine zeI ?_ ?_
 exact zab 6
 refine zcF ?_
 refine zaa ?_ ?_
 refine zaW (T:="tuple") ?_ ?_ ?_ ?_
 exact zaK
 exact za8
 exact T.n_tuple
 refine zaa ?_ ?_
 exact zab 8
 exact zad
 refine zaa ?_ ?_
 refine zcz ?_ ?_ ?_
 exact zaN
 exact zai
 refine zah (k:=1) (g:=t.a_45) (fd:=t.d_45) (ps:=["box","many"]) ?_ ?_ ?_ ?_ ?_ ?_
 exact G_45
 exact (hr.mono (by decide))
 exact T.m_45
 exact T.F_45.kp
 exact T.b_45
 refine zaa ?_ ?_
 exact zab 0
 refine zaa ?_ ?_
 exact zab 4
 exact zad
 exact zad
 refine zaj ?_
 refine zaD ?_
 refine zcF ?_
 refine zaa ?_ ?_
 exact zab 3
 refine zaa ?_ ?_
 refine zaW (T:="tuple") ?_ ?_ ?_ ?_
 exact zaK
 exact za8
 exact T.n_tuple
 refine zaa ?_ ?_
 exact zab 6
 exact zad
 exact zad
theorem nd_47:(["box","most_things","most_offers","many","offers","left","at"]:List Str).Nodup:=by decide +kernel
theorem zqZ:(["thing","offers"]:List Str).Nodup:=by decide +kernel
theorem zrc:(["one","thing"]:List Str).Nodup:=by decide +kernel
theorem sc_47:zam ["box","most_things","most_offers","many","offers","left","at"] ["box","most_things","most_offers"] (zae s_47):=⟨rfl,rfl,rfl,by decide +kernel,rfl,by decide +kernel,by decide +kernel⟩
theorem ok_47 (T:Tx K mg t):zbn P w K mg base CX0 3 t.a_47 t.d_47 ["box","most_things","most_offers"] (zbH K 3 F_47):=by
 have G_46:=ok_46 (P:=P) (w:=w) (base:=base) T
 have G_45:=ok_45 (P:=P) (w:=w) (base:=base) T
 refine zaS (k:=2) (G:=G_47) (N:=["box","most_things","most_offers","many","offers","left","at"]) (ps:=["box","most_things","most_offers"]) (st:=s_47) T.F_47 sc_47 fun cdv A outer s H E hr=> ?_
 refine zag ?_ ?_
 refine zjL ?_ ?_
 refine zah (k:=2) (g:=t.a_46) (fd:=t.d_46) (ps:=["box","most_things","most_offers"]) ?_ ?_ ?_ ?_ ?_ ?_
 exact G_46
 exact (hr.mono (by decide))
 exact T.m_46
 exact T.F_46.kp
 exact T.b_46
 refine zaa ?_ ?_
 exact zab 0
 refine zaa ?_ ?_
 exact zab 1
 refine zaa ?_ ?_
 refine zcz ?_ ?_ ?_
 exact zgp
 exact zab 2
 exact zai
 exact zad
 refine zdR ?_ ?_
 exact rfl
 refine zaP ?_ ?_
 exact zak 3 nd_47
 refine zaP ?_ ?_
 exact zak 4 nd_47
 exact zcU
 refine zag ?_ ?_
 refine zaI 5 ?_ ?_
 exact nd_47
 refine zaW (T:="tuple") ?_ ?_ ?_ ?_
 exact zaK
 exact za8
 exact T.n_tuple
 refine zaa ?_ ?_
 refine zbk (N:=["thing","offers"]) ?_ ?_ ?_ ?_ ?_ ?_ ?_
 exact rfl
 exact (BOk.of (Xn:=(zae s_47).names) (XN:=["box","most_things","most_offers","many","offers","left","at"]) rfl rfl rfl (by decide +kernel))
 exact (zaH.name (i:=0) rfl)
 refine zeW ?_ ?_
 exact T.n_range
 refine zaa ?_ ?_
 exact zab 3
 exact zad
 intro _ _ _
 exact zak 0 zqZ
 intro _ _ _
 refine zdj ?_
 refine zaG ?_ ?_ ?_
 exact (zdv (zdK hr))
 refine zbk (N:=["one","thing"]) ?_ ?_ ?_ ?_ ?_ ?_ ?_
 exact rfl
 exact (BOk.of (N:=["one","thing"]) (src:=[none,some 0]) rfl rfl rfl (by rfl))
 exact (zaH.name (i:=0) rfl)
 refine zcf ?_
 exact zab 1
 intro _ _ _
 exact zak 0 zrc
 intro _ _ _
 refine zdj ?_
 refine zaG ?_ ?_ ?_
 exact (zgW (zdK hr))
 exact zab 1
 refine zaX ?_ ?_
 exact zab 0
 exact zai
 intro _ _ _
 exact zab 0
 refine zgy ?_
 exact zad
 intro _ _ _
 exact zab 0
 exact zad
 refine zag ?_ ?_
 refine zaI 6 ?_ ?_
 exact nd_47
 refine zah (k:=1) (g:=t.a_45) (fd:=t.d_45) (ps:=["box","many"]) ?_ ?_ ?_ ?_ ?_ ?_
 exact G_45
 exact (hr.mono (by decide))
 exact T.m_45
 exact T.F_45.kp
 exact T.b_45
 refine zaa ?_ ?_
 exact zab 0
 refine zaa ?_ ?_
 refine zcz ?_ ?_ ?_
 exact zaN
 refine zay (id:="len") ?_ ?_ ?_ ?_
 exact zax
 exact zbl
 exact T.n_len
 refine zaa ?_ ?_
 exact zab 4
 exact zad
 exact zai
 exact zad
 refine zag ?_ ?_
 refine ze2 ?_ ?_ ?_
 refine zaG ?_ ?_ ?_
 exact (zcV (zdK hr))
 exact zab 5
 refine zcF ?_
 exact zad
 refine zaj ?_
 refine zaI 4 ?_ ?_
 exact nd_47
 refine zcz ?_ ?_ ?_
 exact zaN
 refine zcz ?_ ?_ ?_
 exact zaN
 refine zdl ?_ ?_ ?_
 exact zab 4
 exact zea
 refine zee ?_
 exact zab 6
 refine zcF ?_
 refine zaa ?_ ?_
 refine zcF ?_
 refine zaa ?_ ?_
 exact zab 5
 refine zaa ?_ ?_
 refine zcz ?_ ?_ ?_
 exact zaN
 exact zai
 refine zah (k:=1) (g:=t.a_45) (fd:=t.d_45) (ps:=["box","many"]) ?_ ?_ ?_ ?_ ?_ ?_
 exact G_45
 exact (hr.mono (by decide))
 exact T.m_45
 exact T.F_45.kp
 exact T.b_45
 refine zaa ?_ ?_
 exact zab 0
 refine zaa ?_ ?_
 exact zai
 exact zad
 exact zad
 exact zad
 refine zdl ?_ ?_ ?_
 exact zab 4
 refine zee ?_
 exact zab 6
 exact zea
 exact zbg
 refine zaj ?_
 refine zaD ?_
 refine zcF ?_
 refine zaa ?_ ?_
 exact zab 3
 refine zaa ?_ ?_
 exact zab 4
 exact zad
theorem nd_48:(["box","many","offers","found","things","price","at","fewer"]:List Str).Nodup:=by decide +kernel
theorem sc_48:zam ["box","many","offers","found","things","price","at","fewer"] ["box"] (zae s_48):=⟨rfl,rfl,rfl,by decide +kernel,rfl,by decide +kernel,by decide +kernel⟩
theorem ok_48 (T:Tx K mg t):zbn P w K mg base CX0 4 t.a_48 t.d_48 ["box"] (zbH K 1 F_48):=by
 have G_47:=ok_47 (P:=P) (w:=w) (base:=base) T
 have G_45:=ok_45 (P:=P) (w:=w) (base:=base) T
 refine zaS (k:=3) (G:=G_48) (N:=["box","many","offers","found","things","price","at","fewer"]) (ps:=["box"]) (st:=s_48) T.F_48 sc_48 fun cdv A outer s H E hr=> ?_
 refine zag ?_ ?_
 refine zjL ?_ ?_
 refine zah (k:=3) (g:=t.a_47) (fd:=t.d_47) (ps:=["box","most_things","most_offers"]) ?_ ?_ ?_ ?_ ?_ ?_
 exact G_47
 exact (hr.mono (by decide))
 exact T.m_47
 exact T.F_47.kp
 exact T.b_47
 refine zaa ?_ ?_
 exact zab 0
 refine zaa ?_ ?_
 exact zai
 refine zaa ?_ ?_
 exact zai
 exact zad
 refine zdR ?_ ?_
 exact rfl
 refine zaP ?_ ?_
 exact zak 1 nd_48
 refine zaP ?_ ?_
 exact zak 2 nd_48
 exact zcU
 refine zag ?_ ?_
 refine zaI 3 ?_ ?_
 exact nd_48
 refine zaW (T:="list") ?_ ?_ ?_ ?_
 exact zjm
 exact ze4
 exact T.n_list
 refine zaa ?_ ?_
 exact zab 2
 exact zad
 refine zag ?_ ?_
 refine zlk 1000 ?_ ?_ ?_
 exact PassesOwn.never
 refine zcc ?_
 refine zrl ?_ ?_
 refine zaG ?_ ?_ ?_
 exact zg4
 refine zay (id:="len") ?_ ?_ ?_ ?_
 exact zax
 exact zbl
 exact T.n_len
 refine zaa ?_ ?_
 exact zab 3
 exact zad
 exact zai
 refine zoE ?_
 refine zaG ?_ ?_ ?_
 exact (zdv (zdK hr))
 refine zah (k:=1) (g:=t.a_45) (fd:=t.d_45) (ps:=["box","many"]) ?_ ?_ ?_ ?_ ?_ ?_
 exact G_45
 exact (hr.mono (by decide))
 exact T.m_45
 exact T.F_45.kp
 exact T.b_45
 refine zaa ?_ ?_
 exact zab 0
 refine zaa ?_ ?_
 exact zai
 exact zad
 exact zai
 refine zag ?_ ?_
 refine zjL ?_ ?_
 refine zaX ?_ ?_
 exact zab 3
 refine zah (k:=1) (g:=t.a_45) (fd:=t.d_45) (ps:=["box","many"]) ?_ ?_ ?_ ?_ ?_ ?_
 exact G_45
 exact (hr.mono (by decide))
 exact T.m_45
 exact T.F_45.kp
 exact T.b_45
 refine zaa ?_ ?_
 exact zab 0
 refine zaa ?_ ?_
 refine zay (id:="len") ?_ ?_ ?_ ?_
 exact zax
 exact zbl
 exact T.n_len
 refine zaa ?_ ?_
 exact zab 3
 exact zad
 exact zad
 refine zdR ?_ ?_
 exact rfl
 refine zaP ?_ ?_
 exact zak 4 nd_48
 refine zaP ?_ ?_
 exact zak 5 nd_48
 exact zcU
 refine zag ?_ ?_
 refine zaI 6 ?_ ?_
 exact nd_48
 refine zah (k:=1) (g:=t.a_45) (fd:=t.d_45) (ps:=["box","many"]) ?_ ?_ ?_ ?_ ?_ ?_
 exact G_45
 exact (hr.mono (by decide))
 exact T.m_45
 exact T.F_45.kp
 exact T.b_45
 refine zaa ?_ ?_
 exact zab 0
 refine zaa ?_ ?_
 refine zay (id:="len") ?_ ?_ ?_ ?_
 exact zax
 exact zbl
 exact T.n_len
 refine zaa ?_ ?_
 exact zab 4
 exact zad
 exact zad
 refine zag ?_ ?_
 refine zaI 7 ?_ ?_
 exact nd_48
 refine zcz ?_ ?_ ?_
 exact zaN
 refine zdl ?_ ?_ ?_
 exact zab 4
 exact zea
 refine zee ?_
 exact zab 6
 refine zdl ?_ ?_ ?_
 exact zab 4
 refine zee ?_
 refine zcz ?_ ?_ ?_
 exact zaN
 exact zab 6
 exact zai
 exact zea
 refine zag ?_ ?_
 refine ze2 ?_ ?_ ?_
 refine zcc ?_
 refine zdM ?_ ?_
 refine zaG ?_ ?_ ?_
 exact (zdv (zdK hr))
 exact zab 7
 refine zcF ?_
 exact zad
 refine zdu ?_
 refine zaG ?_ ?_ ?_
 exact (zdv (zdK hr))
 refine zah (k:=1) (g:=t.a_45) (fd:=t.d_45) (ps:=["box","many"]) ?_ ?_ ?_ ?_ ?_ ?_
 exact G_45
 exact (hr.mono (by decide))
 exact T.m_45
 exact T.F_45.kp
 exact T.b_45
 refine zaa ?_ ?_
 exact zab 0
 refine zaa ?_ ?_
 exact zai
 exact zad
 exact zai
 refine zaj ?_
 refine zaI 7 ?_ ?_
 exact nd_48
 exact zab 4
 exact zbg
 refine zaj ?_
 refine zda ?_
 refine zeI ?_ ?_
 exact zab 3
 refine zcF ?_
 refine zaa ?_ ?_
 exact zab 7
 refine zaa ?_ ?_
 refine zay (id:="max") ?_ ?_ ?_ ?_
 exact (zfI rfl)
 exact znU
 exact T.n_max
 refine zaa ?_ ?_
 exact zai
 refine zaa ?_ ?_
 refine zcz ?_ ?_ ?_
 exact zaN
 refine zcz ?_ ?_ ?_
 exact zgp
 exact zab 5
 exact zai
 refine zah (k:=1) (g:=t.a_45) (fd:=t.d_45) (ps:=["box","many"]) ?_ ?_ ?_ ?_ ?_ ?_
 exact G_45
 exact (hr.mono (by decide))
 exact T.m_45
 exact T.F_45.kp
 exact T.b_45
 refine zaa ?_ ?_
 exact zab 0
 refine zaa ?_ ?_
 exact zai
 exact zad
 exact zad
 exact zad
 refine zaj ?_
 refine zaD ?_
 refine zcF ?_
 refine zaa ?_ ?_
 exact zab 1
 refine zaa ?_ ?_
 refine zaW (T:="tuple") ?_ ?_ ?_ ?_
 exact zaK
 exact za8
 exact T.n_tuple
 refine zaa ?_ ?_
 exact zab 3
 exact zad
 exact zad
theorem nd_50:(["script","k","box"]:List Str).Nodup:=by decide +kernel
theorem sc_50:zam ["script","k","box"] ["script"] (zae s_50):=⟨rfl,rfl,rfl,by decide +kernel,rfl,by decide +kernel,by decide +kernel⟩
theorem ok_50 (T:Tx K mg t):zbn P w K mg base CX0 11 t.a_50 t.d_50 ["script"] (zbH K 1 F_50):=by
 have G_44:=ok_44 (P:=P) (w:=w) (base:=base) T
 have G_49:=ok_49 (P:=P) (w:=w) (base:=base) T
 have G_47:=ok_47 (P:=P) (w:=w) (base:=base) T
 have G_48:=ok_48 (P:=P) (w:=w) (base:=base) T
 refine zaS (k:=10) (G:=G_50) (N:=["script","k","box"]) (ps:=["script"]) (st:=s_50) T.F_50 sc_50 fun cdv A outer s H E hr=> ?_
 refine zag ?_ ?_
 refine zfu ?_ ?_ ?_ ?_ ?_
 exact rfl
 exact PassesOwn.never
 refine zeW ?_ ?_
 exact T.n_range
 refine zaa ?_ ?_
 refine zay (id:="max") ?_ ?_ ?_ ?_
 exact (zfI rfl)
 exact znU
 exact T.n_max
 refine zaa ?_ ?_
 exact zai
 refine zaa ?_ ?_
 refine zay (id:="min") ?_ ?_ ?_ ?_
 exact (zjq rfl)
 exact znZ
 exact T.n_min
 refine zaa ?_ ?_
 refine zay (id:="len") ?_ ?_ ?_ ?_
 exact zax
 exact zbl
 exact T.n_len
 refine zaa ?_ ?_
 exact zab 0
 exact zad
 refine zaa ?_ ?_
 exact zai
 exact zad
 exact zad
 exact zad
 exact zak 1 nd_50
 refine zag ?_ ?_
 refine zaI 2 ?_ ?_
 exact nd_50
 refine zah (k:=2) (g:=t.a_44) (fd:=t.d_44) (ps:=["script","k"]) ?_ ?_ ?_ ?_ ?_ ?_
 exact G_44
 exact (hr.mono (by decide))
 exact T.m_44
 exact T.F_44.kp
 exact T.b_44
 refine zaa ?_ ?_
 exact zab 0
 refine zaa ?_ ?_
 exact zab 1
 exact zad
 refine zaj ?_
 refine ze2 ?_ ?_ ?_
 refine zcc ?_
 refine zdM ?_ ?_
 refine zc9 ?_
 refine zcW ?_
 refine zah (k:=10) (g:=t.a_49) (fd:=t.d_49) (ps:=["stock"]) ?_ ?_ ?_ ?_ ?_ ?_
 exact G_49
 exact (hr.mono (by decide))
 exact T.m_49
 exact T.F_49.kp
 exact T.b_49
 refine zaa ?_ ?_
 refine zah (k:=4) (g:=t.a_48) (fd:=t.d_48) (ps:=["box"]) ?_ ?_ ?_ ?_ ?_ ?_
 exact G_48
 exact (hr.mono (by decide))
 exact T.m_48
 exact T.F_48.kp
 exact T.b_48
 refine zaa ?_ ?_
 exact zab 2
 exact zad
 exact zad
 refine zdu ?_
 refine zc9 ?_
 refine zcW ?_
 refine zah (k:=10) (g:=t.a_49) (fd:=t.d_49) (ps:=["stock"]) ?_ ?_ ?_ ?_ ?_ ?_
 exact G_49
 exact (hr.mono (by decide))
 exact T.m_49
 exact T.F_49.kp
 exact T.b_49
 refine zaa ?_ ?_
 refine zah (k:=3) (g:=t.a_47) (fd:=t.d_47) (ps:=["box","most_things","most_offers"]) ?_ ?_ ?_ ?_ ?_ ?_
 exact G_47
 exact (hr.mono (by decide))
 exact T.m_47
 exact T.F_47.kp
 exact T.b_47
 refine zaa ?_ ?_
 exact zab 2
 refine zaa ?_ ?_
 exact zai
 refine zaa ?_ ?_
 exact zai
 exact zad
 exact zad
 refine zaj ?_
 refine zaD ?_
 exact zgM
 exact zbg
 refine zaj ?_
 refine zaD ?_
 exact zgM
end
end K66
namespace L3
open PySem PySem.Spec PyProof.Rows L2 LT
section
theorem zjC {i j:Int} (h0:0<j) (h1:j<2^100):zeN [.int i,.int j]=pure (.tup [.int (i / j),.int (i % j)]):=by
 unfold zeN
 simp only
 rw [qa4 ⟨h0,h1⟩]
theorem zgB {i j:Int} (h:(zba i || zba j || zgS i j)=true):zgl (.int i) (.int j)=pure (.int (i*j)):=by
 show (if (zba i || zba j || zgS i j)=true then _ else _)=_
 rw [qa4 h]
theorem zl2 {i j:Int} (h: -1000000000000000<i) (h':i<1000000000000000):zgl (.int i) (.int j)=pure (.int (i*j)):=zgB (by rw [zeG h h'];rfl)
theorem zku {i j:Int} (h: -1000000000000000<j) (h':j<1000000000000000):zgl (.int i) (.int j)=pure (.int (i*j)):=zgB (by rw [zeG h h'];simp)
theorem zoA {x:Int} {n:Nat} (h:x.natAbs<2^n):Builtin.Int.intBits x<=n:=by
 unfold Builtin.Int.intBits
 split
 ·exact Nat.zero_le _
 ·rename_i c
  have h0:x.natAbs≠0:=fun z=>c (by simp;omega)
  exact (Nat.log2_lt h0).mpr h
theorem zhU {x:Int} {n:Nat} (h:Builtin.Int.intBits x<=n):x.natAbs<2^n:=by
 unfold Builtin.Int.intBits at h
 split at h
 ·rename_i c
  have:x=0:=by simpa using c
  subst this
  exact Nat.pow_pos (by decide)
 ·rename_i c
  have h0:x.natAbs≠0:=fun z=>c (by simp;omega)
  exact (Nat.log2_lt h0).mp h
theorem zmY {c k:Int} {n:Nat} (h:Builtin.Int.intBits c<=n) (k0:0<=k) (k1:k<24):Builtin.Int.intBits ((c+1)*40692+104729*k)<=n+22:=by
 refine zoA ?_
 have h1:=zhU h
 rw [Nat.pow_add]
 generalize 2^n=B at h1
 have:(2:Nat)^22=4194304:=rfl
 rw [this]
 omega
theorem zqw:zsu (.int 10) (.int 20)=pure (.int 100000000000000000000):=by
 unfold zsu dII
 simp only
 rw [qa4 (by decide)]
 rfl
theorem znR {n:Nat}:zbS [.cel n]=(do let ds<-zao n;pure (.tup ds)):=rfl
end
section
noncomputable def pdO (o:List Int×Int):PyData:= .tuple [.tuple (o.1.map PyData.int),.int o.2]
theorem zf8: ∀ os:List (List Int×Int),pdL (os.map zbd)=some (os.map pdO)
 | []=>rfl
 | o::r=>by
  rw [qaM,pdL,zf8 r]
  simp only [zbd,tI,pd,pdL,zbj,Option.map,pdO,qaM]
theorem zeK: ∀ os:List (List Int×Int),PyData.canLayAll0 (os.map pdO)=true
 | []=>rfl
 | o::r=>by simp [PyData.canLayAll0,PyData.canLay0,zaL,zeK r,pdO]
theorem zmj (os:List (List Int×Int)):dEq (.lst (os.map zbd)) (.lst [])=pure (.bl os.isEmpty):=by
 have e1:pd (.lst (os.map zbd))=some (.list (os.map pdO)):=by unfold pd;rw [zf8];rfl
 have e2:pd (.lst [])=some (.list []):=rfl
 rw [zix e1 e2 (by unfold zgo;simp [PyData.canLay0,PyData.canLayAll0,zeK,PyData.depth,PyData.depthAll])]
 cases os<;>rfl
theorem zhA (os:List (List Int×Int)):PyData.depthAll (os.map pdO)<=2:=by
 induction os with
 | nil=>simp [PyData.depthAll]
 | cons o r ih=>
  rw [qaM]
  simp only [PyData.depthAll,PyData.depth,zaU,pdO]
  omega
theorem zgH: ∀ os:List (List Int×Int),PyData.eqvAll (os.map pdO) (os.map pdO)=true
 | []=>rfl
 | o::r=>by
  rw [qaM]
  simp [PyData.eqvAll,PyData.eqv,pdO,zcN,zgH r]
theorem zlf {x y:D} {a b:PyData} (e1:pd x=some a) (e2:pd y=some b) (h:zgo a b=true):dNe x y=pure (.bl (!PyData.eqv a b)):=by
 show zj1 true x y=_
 unfold zj1
 rw [e1,e2]
 simp only [h,if_true]
theorem ze6 {α:Type} {g':α->D} {f:D->M (Option D)} {k:α->Option D}: ∀ {xs:List α},(∀ x∈xs,f (g' x)=pure (k x))->zdq f (xs.map g')=pure (xs.filterMap k)
 | [],_=>rfl
 | x::r,hf=>by
  rw [qaM,zdq,hf x qau,ze6 fun y hy=>hf y (qan _ hy)]
  simp only [pure_bind]
  cases e:k x<;>simp [qat,e]
theorem zau {α:Type} {g':α->D} {fi:FA} {g:D->Sd->M Sd} {tc:FT} {te:FE} {src:List (Option Nat)} {sd:Sd} {xs:List α} {k:α->Option D} (hi:fi sd=pure (xs.map g')) (hl:xs.length<=1000) (hf: ∀ x∈xs,zbe g tc te (zaq src sd) (g' x)=pure (k x)):zaw fi g tc te src sd=pure (.lst (xs.filterMap k)):=by
 unfold zaw
 rw [hi]
 simp only [pure_bind]
 rw [zaQ (by rw [qaH];exact hl)]
 simp only [pure_bind]
 rw [ze6 hf]
 simp only [pure_bind]
theorem zaE {α:Type} {p:α->Bool} {g:α->D}: ∀ xs:List α,xs.filterMap (fun x=>if p x=true then some (g x) else none)=(xs.filter p).map g
 | []=>rfl
 | x::r=>by
  rw [qat,List.filter_cons,zaE r]
  cases p x<;>simp
end
section
noncomputable def Rul (S:Nat->Nat->Bool) (b one:Nat):Bool:=S one b && (decide (b<one) || !S b one)
noncomputable def zpu (S:Nat->Nat->Bool) (n one:Nat):Option D:=match (List.range n).filter fun b=>Rul S b one with
 | []=>none
 | b::_=>some (.tup [.int (one:Int),.int (b:Int)])
noncomputable def zj6 (S:Nat->Nat->Bool) (n:Nat):List D:=(List.range n).filterMap (zpu S n)
noncomputable def zje (S:Nat->Nat->Bool) (n:Nat):D:= .lst ((List.range n).map fun i=> .lst ((List.range n).map fun j=> .bl (S i j)))
theorem znC {S:Nat->Nat->Bool} {n i j:Nat} (hi:i<n) (hj:j<n):atI ((List.range n).map fun i=>D.lst ((List.range n).map fun j=> .bl (S i j))) (i:Int)=some (.lst ((List.range n).map fun j=> .bl (S i j)))/\atI ((List.range n).map fun j=>D.bl (S i j)) (j:Int)=some (.bl (S i j)):=
 ⟨zdh (by simp [hi]),zdh (by simp [hj])⟩
theorem zit {α β:Type} (d:α) (f:α->β) (xs:List α):xs.map f=(List.range xs.length).map fun i=>f (xs.getD i d):=by
 refine List.ext_getElem (by simp) fun i h1 h2=> ?_
 simp at h1
 simp [List.getD,h1]
theorem znA {n:Nat} {h:Hh} {ds:List D} {P:D->Hh->Prop} (e:h[n]? = some (.lst ds)) (k:P (.lst ds) (h.set n .dead)):wp (zp3 (.cel n)) h P:=by
 refine ⟨.lst ds,h.set n .dead,?_,k⟩
 unfold zp3
 simp only
 rw [e]
theorem zin {h:Hh} {c c':C}:(h++[c]).set h.length c'=h++[c']:=by
 rw [List.set_append_right _ _ (qaV _)]
 simp
theorem zm6 {h:Hh} {n:Nat} {c:C} (e:h[n]? = some c):h.set n c=h:=by
 refine List.ext_getElem? fun j=> ?_
 by_cases hj:n=j
 ·subst hj
  rw [qai (qac.mp e).1,e]
 ·rw [qao hj]
theorem zfD (xs:List Int):dNe (.lst (xs.map D.int)) (.lst [])=pure (.bl (!xs.isEmpty)):=by
 have e1:pd (.lst (xs.map D.int))=some (.list (xs.map PyData.int)):=by unfold pd;rw [zbj];rfl
 have e2:pd (.lst [])=some (.list []):=rfl
 rw [zlf e1 e2 (by unfold zgo;simp [PyData.canLay0,PyData.canLayAll0,zaL,PyData.depth,PyData.depthAll,zaU])]
 cases xs<;>rfl
theorem zlT (xs ys:List Int):dNe (.lst (xs.map D.int)) (.lst (ys.map D.int))=pure (.bl (!(xs==ys))):=by
 have e1:pd (.lst (xs.map D.int))=some (.list (xs.map PyData.int)):=by unfold pd;rw [zbj];rfl
 have e2:pd (.lst (ys.map D.int))=some (.list (ys.map PyData.int)):=by unfold pd;rw [zbj];rfl
 rw [zlf e1 e2 (by unfold zgo;simp [PyData.canLay0,zaL,PyData.depth,zaU])]
 simp only [PyData.eqv,zcN]
noncomputable def inB (xs ys:List Int):Bool:=xs.all fun x=>ys.any (· == x)
theorem zdE {xs ys:List Int}:inB xs ys=true↔ ∀ x∈xs,x∈ys:=by
 unfold inB
 simp [List.all_eq_true]
theorem zju {xs ys:List Int}:(xs.filter fun x=> !ys.any (· == x)).isEmpty=inB xs ys:=by
 rw [Bool.eq_iff_iff,List.isEmpty_iff,List.filter_eq_nil_iff]
 unfold inB
 simp
end
section
theorem zet (k:Int) (xs:List Int):zfj (.int k) (.tup (xs.map D.int))=pure (.bl (!xs.any (· == k))):=by
 show zj5 true (.int k) (.tup (xs.map D.int))=_
 unfold zj5
 simp only [pd]
 rw [zbj]
 have c:zjI (.int k) (xs.map PyData.int)=true:=by
  unfold zjI
  simp [PyData.canLay0,zaL,PyData.depth,zaU]
 simp only [c,if_true,zd1]
end
section
theorem zkS {n:Nat} {tc:FT} {gb:FS} {sd:Sd}:zeD tc gb (n+1) sd=(do let b<-tc sd;if b=true then (do let o<-gb sd;match o with | .nx sd'=>zeD tc gb n sd' | .ct sd'=>zeD tc gb n sd' | .bk sd'=>pure (.nx sd') | .rt d=>pure (.rt d)) else pure (.nx sd)):=rfl
theorem znD {n:Nat}:zdz [.cel n]=(do let ds<-zao n;pure (.int ds.length)):=rfl
end
section
theorem zlS (k:Int) (xs:List Int):dIn (.int k) (.lst (xs.map D.int))=pure (.bl (xs.any (· == k))):=by
 show zj5 false (.int k) (.lst (xs.map D.int))=_
 unfold zj5
 simp only [pd]
 rw [zbj]
 have c:zjI (.int k) (xs.map PyData.int)=true:=by
  unfold zjI
  simp [PyData.canLay0,zaL,PyData.depth,zaU]
 simp only [c,if_true,zd1]
 rfl
noncomputable def cI (xs:List Nat):List Int:=xs.map fun (j:Nat)=>(j:Int)
theorem zhM (xs:List Nat):(cI xs).length=xs.length:=qaH _
theorem ze0 (xs:List Nat):(cI xs).map D.int=xs.map fun (j:Nat)=> .int (j:Int):=by
 unfold cI
 rw [qaT]
 rfl
theorem zp4 {xs:List Nat} {k:Nat}:(cI xs).any (· == (k:Int))=xs.any (· == k):=by
 unfold cI
 rw [List.any_map]
 refine congrArg (fun f=>xs.any f) (funext fun j=> ?_)
 show ((j:Int)==(k:Int))=(j==k)
 rw [Bool.eq_iff_iff,beq_iff_eq,beq_iff_eq]
 omega
theorem zmr {xs:List Nat} {k:Nat}:xs.any (· == k)=true↔k∈xs:=by
 rw [List.any_eq_true]
 constructor
 ·rintro ⟨x,hx,e⟩
  rw [beq_iff_eq] at e
  exact e▸hx
 ·intro h
  exact ⟨k,h,by simp⟩
theorem zeS {n:Nat} (h:n<1000):zcM (.int (n:Int))=pure (.lst ((cI (List.range n)).map D.int)):=by
 show (if 0<=(n:Int)/\(n:Int)<1000 then (pure (.lst (zdk 0 ((n:Int)).toNat)):M D) else M.bad)=_
 rw [qa4 ⟨by omega,by omega⟩,qaB,zbN]
 rfl
end
section
theorem zgA {α:Type} {xs:List α} {x:α}:atI (xs++[x]) (-1)=some x:=by
 have e:ixN (xs++[x]).length (-1)=some xs.length:=by
  unfold ixN
  rw [qa5 (by omega),qa4 (by rw [qav,List.length_singleton];omega),qav,List.length_singleton]
  congr 1
  omega
 unfold atI
 rw [e]
 simp
theorem zgI {xs:List Int} {j:Nat} (h:j<xs.length):atI (xs.map D.int) (j:Int)=some (.int (xs.getD j 0)):=zdh (by simp [List.getD,h])
theorem zdV {α:Type} {xs:List α} {d:α}:(List.range xs.length).map (fun j=>xs.getD j d)=xs:=by
 refine List.ext_getElem (by simp) fun i h1 h2=> ?_
 simp [List.getD,h2]
theorem zfR {xs:List Int} {js:List Nat} (hx:xs.Nodup) (hj:js.Pairwise (· < ·)) (hb: ∀ j∈js,j<xs.length):(js.map fun j=>xs.getD j 0).Nodup:=by
 unfold List.Nodup
 rw [List.pairwise_map]
 refine List.Pairwise.imp_of_mem (fun {a b} ha hb' hlt e=> ?_) hj
 have h1:=hb a ha
 have h2:=hb b hb'
 simp only [List.getD,qaf h1,qaf h2,Option.getD_some] at e
 exact (List.pairwise_iff_getElem.mp hx a b h1 h2 hlt) e
end
section
def Kp (N:Nat) (h h':Hh):Prop:=N<=h'.length/\ ∀ k,k<N->h'[k]? = h[k]?
theorem Kp.gro {h h':Hh} (k:Kp h.length h h'):Gro h h':=by
 refine ⟨h'.drop h.length,List.ext_getElem? fun j=> ?_⟩
 by_cases hj:j<h.length
 ·rw [qad hj,k.2 j hj]
 ·rw [qaa (by omega),List.getElem?_drop]
  congr 1
  omega
noncomputable def zbG (xs ys:List Int):List Int:=xs.filter fun x=> !ys.any (· == x)
end
section
theorem zi2 {n:Nat} (h:n<=16000000):fits n=pure ():=by
 unfold fits
 rw [qa4 (qaS h (by decide))]
theorem zjw {α:Type} {g':α->D} {fi:FA} {g:D->Sd->M Sd} {tc:FT} {te:FE} {src:List (Option Nat)} {sd:Sd} {xs:List α} {k:α->Option D} (hi:fi sd=pure (xs.map g')) (hl:xs.length<=16000000) (hf: ∀ x∈xs,zbe g tc te (zaq src sd) (g' x)=pure (k x)):zaw fi g tc te src sd=pure (.lst (xs.filterMap k)):=by
 unfold zaw
 rw [hi,pure_bind,zi2 (by rw [qaH];exact hl),pure_bind,ze6 hf]
 rfl
theorem zg3: ∀ {xs ys zs:List Int},HT.zcR xs ys=true->HT.zcR ys zs=true->HT.zcR xs zs=true
 | [],[],_,h,_=>by cases h
 | [],_::_,[],_,h=>by cases h
 | [],_::_,_::_,_,_=>rfl
 | _::_,[],_,h,_=>by cases h
 | _::_,_::_,[],_,h=>by cases h
 | x::xs,y::ys,z::zs,h1,h2=>by
  rw [HT.zen] at h1 h2 ⊢
  split at h1
  ·split at h2
   ·rw [qa4 (by omega)]
    exact zg3 h1 h2
   ·simp at h2
    rw [qa5 (by omega)]
    simp
    omega
  ·simp at h1
   split at h2
   ·rw [qa5 (by omega)]
    simp
    omega
   ·simp at h2
    rw [qa5 (by omega)]
    simp
    omega
theorem zkg {p q r:Int×List Int} (h1:pLt p q=true) (h2:pLt q r=true):pLt p r=true:=by
 unfold pLt at*
 split at h1
 ·split at h2
  ·rw [qa4 (by omega)]
   exact zg3 h1 h2
  ·simp at h2
   rw [qa5 (by omega)]
   simp
   omega
 ·simp at h1
  split at h2
  ·rw [qa5 (by omega)]
   simp
   omega
  ·simp at h2
   rw [qa5 (by omega)]
   simp
   omega
theorem zl1 (f:Nat->Int×List Int): ∀ k,argBest (fun i j=>pLt (f i) (f j)) k<=k/\ ∀ i,i<=k->pLt (f i) (f (argBest (fun i j=>pLt (f i) (f j)) k))=false
 | 0=>⟨qaV _,fun i hi=>by
   have:i=0:=by omega
   subst this
   show pLt (f 0) (f 0)=false
   unfold pLt
   rw [qa4 rfl,zeJ]⟩
 | k+1=>by
  obtain ⟨h1,h2⟩:=zl1 f k
  unfold argBest
  by_cases c:pLt (f (k+1)) (f (argBest (fun i j=>pLt (f i) (f j)) k))=true
  ·rw [qa4 c]
   refine ⟨qaV _,fun i hi=> ?_⟩
   by_cases e:i=k+1
   ·subst e
    unfold pLt
    rw [qa4 rfl,zeJ]
   ·have h3:=h2 i (by omega)
    cases h4:pLt (f i) (f (k+1)) with
    | false=>rfl
    | true=>rw [zkg h4 c] at h3;cases h3
  ·rw [qa5 c]
   refine ⟨by omega,fun i hi=> ?_⟩
   by_cases e:i=k+1
   ·subst e
    simpa using c
   ·exact h2 i (by omega)
theorem zeP {ps:List (Int×List Int)} (h:ps≠[]):zec ps<ps.length/\ ∀ q∈ps,pLt q (ps.getD (zec ps) (0,[]))=false:=by
 have hl:=List.length_pos_iff.mpr h
 obtain ⟨h1,h2⟩:=zl1 (fun i=>ps.getD i (0,[])) (ps.length - 1)
 refine ⟨Nat.lt_of_le_of_lt h1 (by omega),fun q hq=> ?_⟩
 obtain ⟨i,hi,rfl⟩:=List.getElem_of_mem hq
 have h3:=h2 i (by omega)
 have e:ps.getD i (0,[])=ps[i]:=by simp [List.getD,hi]
 rw [<- e]
 exact h3
noncomputable def pD (p:Int×List Int):D:= .tup [.int p.1,tI p.2]
theorem zhs: ∀ ps:List (Int×List Int),zd4 (ps.map pD)=some ps
 | []=>rfl
 | p::r=>by
  rw [qaM,zd4,zhs r]
  simp only [pD,tI,zhj,zc3,Option.map,Option.bind]
theorem zkP {ps:List (Int×List Int)} (h:ps≠[]):zpU [.lst (ps.map pD)]=pure (pD (ps.getD (zec ps) (0,[]))):=by
 have hb:=(zeP h).1
 have e:(ps.map pD)[zec ps]? = some (pD (ps.getD (zec ps) (0,[]))):=by simp [List.getD,hb]
 show (do let ps'<-ofO (zd4 (ps.map pD));ofO ((ps.map pD)[zec ps']?):M D)=_
 rw [zhs]
 show (ofO ((ps.map pD)[zec ps]?):M D)=_
 rw [e]
 rfl
theorem zqk (a b:Nat):Builtin.bitOr (a:Int) (b:Int)=((a ||| b:Nat):Int):=by
 unfold Builtin.bitOr Builtin.bitAnd Builtin.bitNot
 have h1:decide (0<= -(a:Int) - 1)=false:=by simp;omega
 have h2:decide (0<= -(b:Int) - 1)=false:=by simp;omega
 rw [h1,h2]
 simp only
 have e1:(-(-(a:Int) - 1) - 1).toNat=a:=by omega
 have e2:(-(-(b:Int) - 1) - 1).toNat=b:=by omega
 rw [e1,e2]
 omega
noncomputable def bv (p:Nat->Bool):Nat->Nat
 | 0=>0
 | n+1=>bv p n*2+(if p n=true then 1 else 0)
theorem zrA (p q:Nat->Bool): ∀ n,bv p n ||| bv q n=bv (fun i=>p i || q i) n
 | 0=>by
  unfold bv
  rfl
 | n+1=>by
  have ih:=zrA p q n
  unfold bv
  rw [<- ih]
  refine Nat.eq_of_testBit_eq fun i=> ?_
  cases i with
  | zero=>
   rw [Nat.testBit_or]
   simp only [Nat.testBit_zero]
   cases p n<;>cases q n<;>simp<;>omega
  | succ i=>
   rw [Nat.testBit_or]
   simp only [Nat.testBit_add_one]
   have e: ∀ (a:Nat) (c:Bool),(a*2+(if c=true then 1 else 0)) / 2=a:=fun a c=>by cases c<;>simp<;>omega
   rw [e,e,e,Nat.testBit_or]
theorem zkq (p:Nat->Bool): ∀ n,bv p n=bv (fun _=>true) n↔ ∀ i,i<n->p i=true
 | 0=>⟨fun _ i h=>by omega,fun _=>rfl⟩
 | n+1=>by
  have ih:=zkq p n
  unfold bv
  constructor
  ·intro h i hi
   cases hp:p n with
   | false=>rw [hp] at h;simp at h;omega
   | true=>
    rw [hp] at h
    simp at h
    by_cases e:i=n
    ·rw [e];exact hp
    ·exact ih.mp (by omega) i (by omega)
  ·intro h
   rw [h n (by omega),ih.mpr fun i hi=>h i (by omega)]
theorem ziX {p q:Nat->Bool}: ∀ {n},(∀ i,i<n->p i=q i)->bv p n=bv q n
 | 0,_=>rfl
 | n+1,h=>by
  unfold bv
  rw [h n (by omega),ziX fun i hi=>h i (by omega)]
theorem zmS (j:Int) (r:Nat):zdk j (r+1)= .int j::zdk (j+1) r:=by
 unfold zdk
 rw [List.range_succ_eq_map,qaM,qaT]
 congr 1
 ·simp
 ·refine List.map_congr_left fun k _=> ?_
  simp
  omega
theorem zmZ (lo:Int) (k:Nat):zjh lo (k+1)= .int lo::zjh (lo - 1) k:=by
 unfold zjh
 rw [List.range_succ_eq_map,qaM,qaT]
 congr 1
 ·simp
 ·refine List.map_congr_left fun j _=> ?_
  simp
  omega
noncomputable def kl (n:Nat):Nat->List (List Int)
 | 0=>[[]]
 | r+1=>(kl n r).take 1++(kl n r).map (fun ls=>((n - (r+1):Nat):Int)::ls)++(kl n r).drop 1
theorem zg8 (n:Nat): ∀ (r:Nat) (x:List Int),r<=n->(x∈kl n r↔x.Pairwise (· < ·)/\ ∀ y∈x,((n - r:Nat):Int)<=y/\y<(n:Int))
 | 0,x,_=>by
  unfold kl
  rw [List.mem_singleton]
  constructor
  ·rintro rfl
   exact ⟨.nil,fun y hy=>by cases hy⟩
  ·rintro ⟨_,h⟩
   cases x with
   | nil=>rfl
   | cons y r=>have:=h y qau;omega
 | r+1,x,hr=>by
  have ih:=fun y=>zg8 n r y (by omega)
  have e:x∈kl n (r+1)↔x∈kl n r\/ ∃ y∈kl n r,((n - (r+1):Nat):Int)::y=x:=by
   have h0:x∈kl n r↔x∈(kl n r).take 1++(kl n r).drop 1:=by rw [List.take_append_drop]
   have h1:x∈kl n (r+1)↔x∈(kl n r).take 1++(kl n r).map (fun ls=>((n - (r+1):Nat):Int)::ls)++(kl n r).drop 1:=Iff.rfl
   rw [h0,h1]
   simp only [qaK,qaU]
   constructor
   ·rintro ((h | h) | h)
    ·exact .inl (.inl h)
    ·exact .inr h
    ·exact .inl (.inr h)
   ·rintro ((h | h) | h)
    ·exact .inl (.inl h)
    ·exact .inr h
    ·exact .inl (.inr h)
  rw [e,ih x]
  constructor
  ·rintro (⟨h1,h2⟩ | ⟨y,hy,rfl⟩)
   ·exact ⟨h1,fun y hy=>by have:=h2 y hy;omega⟩
   ·obtain ⟨g1,g2⟩:=(ih y).mp hy
    refine ⟨qay.mpr ⟨fun a ha=> ?_,g1⟩,fun z hz=> ?_⟩
    ·have:=g2 a ha
     omega
    ·rcases qaP.mp hz with rfl | hz
     ·omega
     ·have:=g2 z hz
      omega
  ·rintro ⟨h1,h2⟩
   cases x with
   | nil=>exact .inl ⟨.nil,fun y hy=>by cases hy⟩
   | cons y ys=>
    rw [qay] at h1
    have hy:=h2 y qau
    by_cases c:y=((n - (r+1):Nat):Int)
    ·refine .inr ⟨ys,(ih ys).mpr ⟨h1.2,fun z hz=> ?_⟩,by rw [c]⟩
     have h3:=h1.1 z hz
     have h4:=h2 z (qan _ hz)
     omega
    ·refine .inl ⟨qay.mpr h1,fun z hz=> ?_⟩
     have h4:=h2 z hz
     rcases qaP.mp hz with rfl | hz
     ·omega
     ·have h3:=h1.1 z hz
      omega
theorem zil (n:Nat): ∀ r,(kl n r).length=2^r
 | 0=>rfl
 | r+1=>by
  unfold kl
  rw [qav,qav,qaH,List.length_take,List.length_drop,zil n r,Nat.pow_succ]
  have:=Nat.two_pow_pos r
  omega
noncomputable def pr (os:List (List Int×Int)) (ls:List Int):Int:=(ls.map fun i=>(os.getD i.toNat ([],0)).2).sum
noncomputable def znP (os:List (List Int×Int)) (ls:List Int) (t:Nat):Bool:=ls.any fun i=>(os.getD i.toNat ([],0)).1.any (· == (t:Int))
noncomputable def cvB (m:Int) (os:List (List Int×Int)) (ls:List Int):Bool:=bv (znP os ls) m.toNat==bv (fun _=>true) m.toNat
theorem zem {m:Int} {os:List (List Int×Int)} {ls:List Int}:cvB m os ls=true↔ ∀ t:Int,0<=t->t<m-> ∃ i∈ls,t∈(os.getD i.toNat ([],0)).1:=by
 unfold cvB
 rw [beq_iff_eq,zkq]
 have key: ∀ t:Nat,znP os ls t=true↔ ∃ i∈ls,(t:Int)∈(os.getD i.toNat ([],0)).1:=fun t=>by
  unfold znP
  simp [List.any_eq_true]
 constructor
 ·intro h t t0 t1
  have:=(key t.toNat).mp (h t.toNat (by omega))
  rw [Int.toNat_of_nonneg t0] at this
  exact this
 ·intro h i hi
  exact (key i).mpr (h i (by omega) (by omega))
noncomputable def trD (m:Int) (os:List (List Int×Int)) (ls:List Int):D:= .tup [.int (pr os ls),tI ls,.int (bv (znP os ls) m.toNat)]
theorem zlR {p:Nat->Bool} (h: ∀ i,p i=false): ∀ n,bv p n=0
 | 0=>rfl
 | n+1=>by
  unfold bv
  rw [zlR h n,h n]
  rfl
theorem znl (a b:Nat):((a:Int)==(b:Int))=(a==b):=by
 rw [Bool.eq_iff_iff,beq_iff_eq,beq_iff_eq]
 omega
end
end L3
namespace K66
open PySem PySem.Spec PyProof.Rows L2 L3 LT
set_option hygiene false in
local macro_rules | `(tactic| ac_nf0)=> `(tactic| simp only [zbp,zcY,znt,zcd,zh1,ziR,zh6,zeV,zbZ,za5,zbw,zeE,zpP,zhx,za2,zbm,pure_bind,bind_assoc,ziG,ztB,zhy,ztL,List.set,zfY,ziS,zis,zsg,zpn,zn1,ztt,znY,zsB,zlY,ziw,zgG,zd6,zhS,zct,zpi,zeT,ztA,zqJ,zqr,zsv,zjj,zqq,zqP,zrW,zsF,zsh,ziW,zdX,zlC,ziU,zlr,zn6,zse,zaA,zas,ziM,qaE,qaJ,qaH,Nat.zero_add,Nat.reduceAdd,Nat.reduceLeDiff,zaQ,zbd,tI,zk0,zoL,zmd,zqd,zmR,zjx,zm8,zsw,zoq,zo0,zrP,ztK,zsM,zs3,zrt,znw,zr9,zs7,zsA,zua,if_true,Bool.not_true,Bool.not_false,qax,if_false,qav,List.cons_append,List.nil_append,zqW,zqz])
variable {m:Int} {os:List (List Int×Int)} {i:Nat}
theorem zbz {h:Hh} {b:Nat} {m:Int} {P:D->Hh->Prop} (q:Bx b h) (h0:0<m) (h1:m<2^100) (k: ∀ t h',0<=t->t<m->Ext b h h'->P (.int t) h'):wp (F_45 [.cel b,.int m]) h P:=by
 obtain ⟨z,e⟩:=id q
 rw [d_45]
 have e2:ixN ([D.int z]:List D).length 0=some 0:=rfl
 simp only [G_45,zbp,znt,zbZ,za5,zbw,zeE,za2,zbm,pure_bind,bind_assoc,zhx,zmb,zaA,zbR e,zqr,zjj,zas,zjC h0 h1,zlC,ziU,zdX,zlr,ziG,List.set,zpp,zrg,e2,zfZ,zcd,zhy]
 exact k _ _ (Int.emod_nonneg _ (by omega)) (Int.emod_lt_of_pos _ h0) q.set
theorem zpl {ns:List Int} {k:Int} (h0:0<=k) (h1:k<6) (hb: ∀ i∈ns,Builtin.Int.intBits i<=2^20): ∃ c:Int,F_42 [.scr (ns.map D.int),.int k]=pure (.int c)/\Builtin.Int.intBits c<=2^20:=by
 rw [d_42]
 simp only [G_42,zbp,zh1,zfY,zbm,za2,pure_bind,bind_assoc,zbZ,za5,zbw,znO,zq6,zd6]
 by_cases hk:k<((ns.map D.int).length:Int)
 ·have hk':k.toNat<ns.length:=by simp at hk;omega
  have ea:atI (ns.map D.int) k=some (.int ns[k.toNat]):=by
   have:=zdh (xs:=ns.map D.int) (j:=k.toNat) (v:= .int ns[k.toNat]) (by simp [hk'])
   rw [<- this]
   congr 1
   omega
  simp only [hk,decide_true,if_true,zcd,zeE,za2,zbm,pure_bind,zsQ,ea,zjj,ztB,zhy]
  exact ⟨_,rfl,hb _ (List.getElem_mem hk')⟩
 ·simp only [hk,decide_false,qax,if_false,zeV,pure_bind,ziG,zcd,zeE,zhx,zbm,za2,zsf (show (-1000000000000000:Int)<6151 by decide) (show (6151:Int)<1000000000000000 by decide),zeT,zhy]
  exact ⟨_,rfl,qaS (intBits_le_64 (by omega) (by omega)) (by decide)⟩
theorem zru {c k:Int} (hc:Builtin.Int.intBits c<=2^20) (k0:0<=k) (k1:k<24): ∃ r:Int,F_43 [.int c,.int k]=pure (.int r):=by
 rw [d_43]
 have hm:zgS ((c+1)*40692+104729*k) ((c+1)*40692+104729*k)=true:=by
  have:=zmY hc k0 k1
  unfold zgS
  rw [qaD]
  have e1:(2:Nat)^20=1048576:=rfl
  have e2:(2:Nat)^26=67108864:=rfl
  rw [e1] at this
  rw [e2]
  omega
 have n0:=Int.emod_nonneg (((c+1)*40692+104729*k)*((c+1)*40692+104729*k)) (show (2147483399:Int)≠0 by decide)
 have n1:=Int.emod_lt_of_pos (((c+1)*40692+104729*k)*((c+1)*40692+104729*k)) (show (0:Int)<2147483399 by decide)
 simp only [G_43,zbp,zcY,zeE,za2,zbm,zhx,zeT,pure_bind,bind_assoc,zku (show (-1000000000000000:Int)<40692 by decide) (show (40692:Int)<1000000000000000 by decide),zl2 (show (-1000000000000000:Int)<104729 by decide) (show (104729:Int)<1000000000000000 by decide),
   ziG,List.set,zgB (show (zba ((c+1)*40692+104729*k) || zba ((c+1)*40692+104729*k) || zgS ((c+1)*40692+104729*k) ((c+1)*40692+104729*k))=true by rw [hm];simp),zh4 (show (0:Int)<2147483399 by decide),zcd]
 generalize hN:((c+1)*40692+104729*k)*((c+1)*40692+104729*k) % 2147483399=N at n0 n1
 simp only [zl2 (i:=N+k) (show -1000000000000000<N+k by omega) (show N+k<1000000000000000 by omega),pure_bind,zh4 (show (0:Int)<2147483563 by decide),zhy]
 exact ⟨_,rfl⟩
theorem ziF {s0 s1:Option D} {c:Int} (hc:Builtin.Int.intBits c<=2^20): ∀ (ds:List D) (n:Int) (x4:Option D),(∀ d∈ds, ∃ j:Int,d= .int j/\0<=j/\j<24)->
  ∃ (n':Int) (x4':Option D),za9 (fun x sd=>do let sd1<-zaB 4 x sd;zc4 sd1) ds [s0,s1,some (.int c),some (.int n),x4]=pure (.nx [s0,s1,some (.int c),some (.int n'),x4'])
 | [],n,x4,_=>⟨n,x4,rfl⟩
 | d::r,n,x4,hd=>by
  obtain ⟨j,rfl,j0,j1⟩:=hd _ qau
  obtain ⟨mx,em⟩:=zru hc j0 j1
  obtain ⟨n',x4',ih⟩:=ziF hc r (n*2147483647+mx) (some (.int j)) (fun y hy=>hd y (qan _ hy))
  refine ⟨n',x4',?_⟩
  rw [zb8, <-ih]
  simp only [zc4,zdX,List.set,pure_bind,bind_assoc,zcY,zeE,zbm,za2,zhx,zku (i:=n) (show (-1000000000000000:Int)<2147483647 by decide) (show (2147483647:Int)<1000000000000000 by decide),zbZ,za5,zbw,zct,em,zeT]
theorem zrM {h:Hh} {ns:List Int} {k:Int} {P:D->Hh->Prop} (hb: ∀ i∈ns,Builtin.Int.intBits i<=2^20) (k0:0<=k) (k6:k<6) (q: ∀ z:Int,P (.cel h.length) (h++[.lst [.int z]])):wp (F_44 [.scr (ns.map D.int),.int k]) h P:=by
 obtain ⟨c,ec,hc⟩:=zpl k0 k6 hb
 rw [d_44]
 simp only [G_44,zbp,zcY,zbZ,za5,zbw,za2,zbm,pure_bind,bind_assoc,zct,ec,ziG,List.set,zh1,zfY,zeE,zhx,zh4 (show (0:Int)<2 by decide),zoS,zd6]
 by_cases hc2:(c % 2==0)=true
 ·simp only [hc2,if_true,zcd,zgG,za5,zbw,zeE,zbm,za2,zhx,pure_bind,bind_assoc,zmE (show (0:Int)<2 by decide) (show (2:Int)<2^64 by decide),qaE,qaJ,zaQ (show 0+1<=1000 by decide),zaA,ziM,zas,ztB,zhy]
  exact q _
 ·obtain ⟨n',x4',el⟩:=ziF (s0:=some (.scr (ns.map D.int))) (s1:=some (.int k)) hc (zdk 0 24) 0 none (fun d hd=>by
    obtain ⟨i,e,i0,i1⟩:=zkE hd
    exact ⟨i,e,i0,by omega⟩)
  have er:zk3 [.int 24]=pure (zdk 0 24):=zb7 (by decide) (by decide)
  simp only [hc2,if_false,zeV,pure_bind,ziG,zbp,zcY,zhx,List.set,zbm,za2,ziR,ziW,za5,zbw,er,bind_assoc,el,zcd,zgG,qaE,qaJ,zaQ (show 0+1<=1000 by decide),zaA,ziM,zas,zhy,qax]
  exact q _
theorem zib (xs:List Int):dEq (.lst (xs.map D.int)) (.lst [])=pure (.bl xs.isEmpty):=by
 have:=zoH xs []
 rw [List.map_nil] at this
 rw [this]
 cases xs<;>rfl
def Go (m:Int) (o:List Int×Int):Prop:=o.1.Pairwise (· < ·)/\(∀ x∈o.1,0<=x/\x<m)/\o.1≠[]/\0<o.2
theorem zjT {b:Nat} {full:Int} (i:Int) {h:Hh} {Q:Option D->Hh->Prop} (q:Bx b h) (k: ∀ o h',Ext b h h'->(o=none\/o=some (.int i))->Q o h'):
  wp (zbe (zaB 0) zcw zcq [none,some (.cel b),some (.int full)] (.int i)) h Q:=by
 simp only [zbe,zdX,List.set,pure_bind,zcw,zfY,zbZ,za5,zbw,zbm,za2,zhx,bind_assoc,zct,zaA]
 refine zbz q (by decide) (by decide) fun t h2 t0 t1 x2=> ?_
 simp only [ztP,zas,zd6]
 rw [zkY]
 split
 ·simp only [zcq,za2,pure_bind,zas]
  exact k _ _ x2 (.inr rfl)
 ·rw [zas]
  exact k _ _ x2 (.inl rfl)
theorem zfT {b n:Nat} {m kind full:Int} {s1 s2:Option D} {N:Nat} (hN:N<=12) (hnb:n≠b) (m0:1<=m) (m1:m<=10) (k0:0<kind) (k1:kind<2^100): ∀ (ds:List D) {h:Hh} {x7 x8:Option D} {os:List (List Int×Int)} {P:Out->Hh->Prop},Bx b h->h[n]? = some (.lst (os.map zbd))->(∀ o∈os,Go m o)->os.length+ds.length<=N->
  (∀ (x7' x8':Option D) (os':List (List Int×Int)) (h':Hh),Bx b h'->h'[n]? = some (.lst (os'.map zbd))->(∀ o∈os',Go m o)->os'.length<=N->P (.nx [some (.cel b),s1,s2,some (.int m),some (.int kind),some (.int full),some (.cel n),x7',x8']) h')->
  wp (za9 (fun x sd=>do let sd1<-zaB 7 x sd;zbr sd1) ds [some (.cel b),s1,s2,some (.int m),some (.int kind),some (.int full),some (.cel n),x7,x8]) h P
 | [],h,x7,x8,os,P,q,e,ho,hl,k=>by
  rw [zdY,zas]
  exact k _ _ os h q e ho (by simpa using hl)
 | d::r,h,x7,x8,os,P,q,e,ho,hl,k=>by
  have ih: ∀ {h:Hh} {x7 x8:Option D} {os:List (List Int×Int)},Bx b h->h[n]? = some (.lst (os.map zbd))->(∀ o∈os,Go m o)->os.length+r.length<=N->
   wp (za9 (fun x sd=>do let sd1<-zaB 7 x sd;zbr sd1) r [some (.cel b),s1,s2,some (.int m),some (.int kind),some (.int full),some (.cel n),x7,x8]) h P:=fun q e ho hl=>zfT hN hnb m0 m1 k0 k1 r q e ho hl k
  rw [zb8]
  generalize za9 (fun x sd=>do let sd1<-zaB 7 x sd;zbr sd1) r=zbs at ih ⊢
  have eb:zaq [none,some 0,some 5] [some (.cel b),s1,s2,some (.int m),some (.int kind),some (.int full),some (.cel n),some d,x8]=[none,some (D.cel b),some (.int full)]:=rfl
  simp only [zdX,List.set,pure_bind,zbr,zbp,zcY,zaA]
  unfold zaw
  simp only [ziW,za5,zbw,zbm,za2,pure_bind,zb7 (show 0<=m by omega) (show m<1000 by omega),zaA,zkn,zaQ (show m.toNat<=1000 by omega),zas,eb]
  rw [zbN]
  refine zkV (fun i {h Q} q k=>zjT i q k) _ q fun ys h2 x2 hys=> ?_
  have hyu:=(zbQ m.toNat).sublist hys
  have hyb: ∀ x∈ys,0<=x/\x<m:=fun x hx=>by have:=zc6 x (hys.subset hx);omega
  have fin: ∀ (zs:List Int) (h3:Hh),(zs.Pairwise (· < ·)/\(∀ x∈zs,0<=x/\x<m)/\zs≠[])->Ext b h h3->wp ((zb9 (zaf 6) (zeH (zac (zat zbS (zac (zaf 8) zan)) (zac (cOp zdJ (cK (.int 1)) (zat (zal 2 F_45) (zac (zaf 0) (zac (zaf 4) zan)))) zan)))) [some (.cel b),s1,s2,some (.int m),some (.int kind),some (.int full),some (.cel n),some d,some (.lst (zs.map D.int))]) h3
    fun _ h4=>wp (zbs [some (.cel b),s1,s2,some (.int m),some (.int kind),some (.int full),some (.cel n),some d,some (.lst (zs.map D.int))]) h4 P:=fun zs h3 hz x3=>by
   have e3:=x3.2 n _ hnb e
   simp only [zb9,zdU,zbm,za2,pure_bind,bind_assoc,zaA,zbR e3,zlY,za5,zbw,zbZ,zn6,zeE,zhx,zct,zas]
   refine zbz x3.1 k0 k1 fun t h4 t0 t1 x4=> ?_
   have e4:=x4.2 n _ hnb e3
   simp only [zeT,pure_bind,zas,zaA,qaE,qaJ,zaQ (show 0+1+1<=1000 by decide),zco,zbR e4,qaH,zaQ (show os.length+1<=1000 by simp at hl;omega),zfZ]
   have hlt:n<h4.length:=(qac.mp e4).1
   refine ih (os:=os++[(zs,1+t)]) ?_ (by rw [qai hlt];simp [zbd,tI]) ?_ ?_
   ·obtain ⟨y,ey⟩:=x4.1
    exact ⟨y,by rw [qao hnb];exact ey⟩
   ·intro o hmem
    rcases qaK.mp hmem with w | w
    ·exact ho o w
    ·simp at w
     subst w
     exact ⟨hz.1,hz.2.1,hz.2.2,by show (0:Int)<1+t;omega⟩
   ·simp at hl ⊢
    omega
  simp only [zas,ziG,List.set,zbp,zh1,zfY,zbm,za2,pure_bind,ziw,zbw,qaJ,zaQ (show 0<=1000 by decide),zib,zd6,bind_assoc,zaA]
  rw [zkY]
  split
  ·simp only [zcY,ziw,za5,zbw,zbZ,zbm,za2,pure_bind,bind_assoc,zct,zaA]
   refine zbz x2.1 (by omega) (by omega) fun t h3 t0 t1 x3=> ?_
   simp only [zas,pure_bind,zaA,qaE,qaJ,zaQ (show 0+1<=1000 by decide),List.set,ziG,zh6]
   exact zd9 (fin [t] h3 ⟨by simp,by simp;omega,by simp⟩ (x2.trans x3)) fun _ _ z=>z
  ·rename_i hne
   simp only [zeV,zas,ziG,zh6,zaA]
   exact zd9 (fin ys h2 ⟨hyu,hyb,fun z=>hne (by rw [z];rfl)⟩ x2) fun _ _ z=>z
theorem zm0 {h:Hh} {b:Nat} {mt mo:Int} {P:D->Hh->Prop} (q:Bx b h) (t0:1<=mt) (t1:mt<=10) (o0:0<=mo) (o1:mo<=12) (k: ∀ (m:Int) (os:List (List Int×Int)) h',Bx b h'->1<=m->m<=mt->(os.length:Int)<=mo->(∀ o∈os,Go m o)->P (zaR m os) h'):wp (F_46 [.cel b,.int mt,.int mo]) h P:=by
 rw [d_46]
 simp only [G_46,zbp,zcY,zeE,zhx,zbZ,za5,zbw,za2,zbm,pure_bind,bind_assoc,zct,zaA]
 refine zbz q (by omega) (by omega) fun t h2 t0' t1' x2=> ?_
 simp only [zeT,pure_bind,zas,ziG,List.set,zbp,zcY,zeE,ziw,za5,zbw,zhx,zqw,bind_assoc,zaA,qaE,qaJ,zaQ (show 0+1+1+1+1<=1000 by decide),zbZ,za2,zbm,zct]
 refine zbz x2.1 (by decide) (by decide) fun f h3 f0 f1 x3=> ?_
 obtain ⟨kind,ef,g0,g1⟩: ∃ kind:Int,atI [D.int 1,.int 3,.int 20,.int 100000000000000000000] f=some (.int kind)/\0<kind/\kind<2^100:=by
  have:f=0\/f=1\/f=2\/f=3:=by omega
  rcases this with rfl | rfl | rfl | rfl
  ·exact ⟨1,rfl,by decide,by decide⟩
  ·exact ⟨3,rfl,by decide,by decide⟩
  ·exact ⟨20,rfl,by decide,by decide⟩
  ·exact ⟨100000000000000000000,rfl,by decide,by decide⟩
 simp only [zqJ,ef,zjj,zas,ziG,List.set,zbp,zcY,zbZ,za5,zbw,za2,zhx,pure_bind,bind_assoc,zct,zaA]
 refine zbz x3.1 (by decide) (by decide) fun full h4 u0 u1 x4=> ?_
 simp only [zas,ziG,List.set,zbp,zcY,zgG,zbw,pure_bind,qaJ,zaQ (show 0<=1000 by decide),zaA,ziM,ziR,ziW,za5,zbZ,zeE,zbm,za2,zhx,zeT,bind_assoc,zct]
 have x5:=x4.1.push (c:= .lst [])
 have hnb:h4.length≠b:=fun z=>by
  obtain ⟨y,ey⟩:=x4.1
  have:=(qac.mp ey).1
  omega
 refine zbz x5.1 (by omega) (by omega) fun turns h6 v0 v1 x6=> ?_
 have e6:h6[h4.length]? = some (.lst []):=x6.2 _ _ hnb (by simp)
 simp only [zas,pure_bind,zb7 v0 (show turns<1000 by omega),zaA]
 refine zfT (N:=mo.toNat) (by omega) hnb (by omega) (by omega) g0 g1 _ x6.1 (os:=[]) e6 (fun o ho=>by cases ho) (by rw [zkn];simp;omega) fun x7 x8 os h7 q7 e7 ho hl=> ?_
 simp only [ziG,zcd,zlY,za5,zbw,zbm,za2,pure_bind,bind_assoc,zbZ,znR,zaA,zbR e7,zas,qaE,qaJ,zaQ (show 0+1+1<=1000 by decide),zhy]
 exact k (1+t) os h7 q7 (by omega) (by omega) (by omega) ho
theorem zi8 {n:Nat} {s0:Option D}: ∀ (os:List (List Int×Int)) {h:Hh} {xs:List Int} {x2:Option D} {P:Out->Hh->Prop},h[n]? = some (.lst (xs.map D.int))->xs.length+(os.flatMap (·.1)).length<=1000->
  (∀ x2' h',(∀ k,k≠n->h'[k]? = h[k]?)->h'.length=h.length->h'[n]? = some (.lst ((xs++os.flatMap (·.1)).map D.int))->P (.nx [s0,some (.cel n),x2']) h')->
  wp (za9 (fun x sd=>do let sd1<-zaB 2 x sd;za6 sd1) (os.map zbd) [s0,some (.cel n),x2]) h P
 | [],h,xs,x2,P,e,_,k=>by
  rw [List.map_nil,zdY,zas]
  exact k x2 h (fun _ _=>rfl) rfl (by simpa using e)
 | o::os,h,xs,x2,P,e,hl,k=>by
  have hln:=(qac.mp e).1
  rw [List.flatMap_cons,qav] at hl
  have ih:=fun (x2':Option D)=>zi8 (s0:=s0) (n:=n) os (h:=h.set n (.lst ((xs++o.1).map D.int))) (xs:=xs++o.1) (x2:=x2') (P:=P) (qai hln) (by rw [qav];omega) fun x2'' h' h1 h2 h3=>k x2'' h' (fun j hj=>(h1 j hj).trans (qao (Ne.symm hj))) (h2.trans (qaI ..)) (by rw [h3,List.flatMap_cons,List.append_assoc])
  rw [qaM,zb8]
  generalize za9 (fun x sd=>do let sd1<-zaB 2 x sd;za6 sd1) (os.map zbd)=zbs at ih ⊢
  have f:=zaQ (show (xs.map D.int).length+(o.1.map D.int).length<=1000 by rw [qaH,qaH];omega)
  simp only [qaH] at f
  simp only [za6]
  ac_nf0
  simp only [zaA,zbR e,zas,qaH,f,zfZ, <-List.map_append]
  exact ih _
theorem zrT {d:D} {os:List (List Int×Int)} {m:Int} (hd:zfd d=pure (os.map zbd)) (m0:0<=m) (m1:m<=60) (hl:(os.flatMap (·.1)).length<=1000) (b: ∀ o∈os, ∀ x∈o.1,0<=x/\x<m):Ev (F_14 [d]) (tI (zgN (os.flatMap (·.1)))):=by
 refine .of_wp fun h=> ?_
 rw [d_14]
 simp only [G_14]
 ac_nf0
 simp only [hd,zas]
 refine zi8 os (xs:=[]) (by simp) (by simpa using hl) fun x2 h' h1 h2 h3=> ?_
 ac_nf0
 have bb: ∀ x∈os.flatMap (·.1),0<=x/\x<m:=fun x hx=>by
  obtain ⟨o,ho,hx⟩:=List.mem_flatMap.mp hx
  exact b o ho x hx
 refine zhw (by simpa using h3) (zia m0 m1 bb) (by omega) ?_
 ac_nf0
 refine ⟨trivial,⟨[.lst ((os.flatMap (·.1)).map D.int)],List.ext_getElem? fun j=> ?_⟩⟩
 by_cases hj:j=h.length
 ·subst hj
  rw [h3]
  simp
 ·rw [h1 j hj]
  by_cases hlt:j<h.length
  ·rw [qad hlt,qad hlt]
  ·rw [List.getElem?_eq_none (by simp;omega),List.getElem?_eq_none (by simp;omega)]
theorem zne {os:List (List Int×Int)} {n:Nat} (h: ∀ o∈os,o.1.length<=n):(os.flatMap (·.1)).length<=os.length*n:=by
 induction os with
 | nil=>simp
 | cons o r ih=>
  rw [List.flatMap_cons,qav,qaE,Nat.succ_mul]
  have a1:=h o qau
  have a2:=ih fun x hx=>h x (qan _ hx)
  omega
theorem znu (s:Stk m os) {d:D} {os':List (List Int×Int)} (hd:zfd d=pure (os'.map zbd)) (hl:os'.length<=12) (hs: ∀ o∈os',o∈os):Ev (F_15 [zaR m os,d]) (.bl (((zgN (os'.flatMap (·.1))).length:Int)==m)):=by
 have tg:=zrT hd (m:=m) (by have:=s.m0;omega) (by have:=s.m1;omega) (by have:=zne (os:=os') (n:=10) fun o ho=>s.olen o (hs o ho);omega) fun o ho=>s.bd o (hs o ho)
 refine .of_wp fun h=> ?_
 rw [d_15]
 simp only [G_15,zaR]
 ac_nf0
 refine tg.wp fun h' g=> ?_
 ac_nf0
 rw [zoS]
 ac_nf0
 exact ⟨trivial,g⟩
noncomputable def zg7 (t:Int) (o:List Int×Int):Bool:=o.1.any (· == t)
noncomputable def zbc (m:Int) (os:List (List Int×Int)):List Int:=((List.range m.toNat).map fun (k:Nat)=>(k:Int)).filter fun t=>(os.filter (zg7 t)).isEmpty
noncomputable def wI (os:List (List Int×Int)) (t:Int):List Int:=((List.range os.length).filter fun j=>zg7 t (os.getD j ([],0))).map fun (j:Nat)=>(j:Int)
theorem zl3 {m:Int} {os:List (List Int×Int)} (m0:1<=m) (m1:m<=10) (hl:os.length<=12) (h: ∀ o∈os,Go m o):Stk m os:=
 ⟨m0,m1,hl,fun o ho=>(h o ho).1,fun o ho=>(h o ho).2.1,fun o ho=>(h o ho).2.2.1,fun o ho=>(h o ho).2.2.2⟩
theorem zpJ {fi:FA} {src:List (Option Nat)} {sd:Sd} {t:Int} (hi:fi sd=pure (os.map zbd)) (hl:os.length<=1000) (eb:zaq src sd=[none,some (.int t)]):zaw fi (zaB 0) zb4 zb3 src sd=pure (.lst ((os.filter (zg7 t)).map zbd)):=by
 rw [<- zaE]
 refine zau hi hl fun o ho=> ?_
 rw [eb]
 simp only [zbe,zb4,zb3]
 ac_nf0
 rw [zd0]
 ac_nf0
 unfold zg7
 split<;>rfl
theorem zkf {fi:FA} {tc:FT} {src:List (Option Nat)} {sd:Sd} {x:Option D} (hi:fi sd=pure (zdk 0 m.toNat)) (m1:m<=1000) (eb:zaq src sd=[none,x]) (hc: ∀ t:Int,tc [some (.int t),x]=pure ((os.filter (zg7 t)).isEmpty)):zaw fi (zaB 0) tc (zaf 0) src sd=pure (.lst ((zbc m os).map D.int)):=by
 unfold zbc
 rw [<- zaE]
 refine zau (by rw [hi,zbN]) (by simp;omega) fun t ht=> ?_
 rw [eb]
 simp only [zbe]
 ac_nf0
 rw [hc]
 ac_nf0
 split<;>rfl
theorem zl0 (s:Stk m os):(zbc m os).isEmpty=(((zgN (os.flatMap (·.1))).length:Int)==m):=by
 have m0:=s.m0
 rw [<- zky (by omega) (zfk _) fun x hx=>by
   obtain ⟨o,ho,hx⟩:=List.mem_flatMap.mp (zcI.mp hx)
   exact s.bd o ho x hx]
 rw [Bool.eq_iff_iff,beq_iff_eq,List.isEmpty_iff]
 unfold zbc
 rw [List.filter_eq_nil_iff]
 constructor
 ·intro h
  refine zlM (zfk _) (zbQ _) fun k=> ?_
  rw [zcI]
  constructor
  ·intro hk
   obtain ⟨o,ho,hx⟩:=List.mem_flatMap.mp hk
   have:=s.bd o ho k hx
   exact qaU.mpr ⟨k.toNat,List.mem_range.mpr (by omega),by omega⟩
  ·intro hk
   have:=h k hk
   rw [List.isEmpty_iff] at this
   obtain ⟨o,ho⟩:=List.exists_mem_of_ne_nil _ this
   obtain ⟨h1,h2⟩:=List.mem_filter.mp ho
   exact List.mem_flatMap.mpr ⟨o,h1,by simpa [zg7] using h2⟩
 ·intro e t ht
  rw [<- e,zcI] at ht
  obtain ⟨o,ho,hx⟩:=List.mem_flatMap.mp ht
  rw [List.isEmpty_iff]
  intro z
  have:o∈os.filter (zg7 t):=List.mem_filter.mpr ⟨ho,by simpa [zg7] using hx⟩
  rw [z] at this
  cases this
theorem zj3:dIx (zaR m os) (.int 1)=pure (.tup (os.map zbd)):=rfl
theorem zmm:dIx (zaR m os) (.int 0)=pure (.int m):=rfl
theorem zlP (s:Stk m os):Ev (F_9 [zaR m os]) (.bl (zbc m os).isEmpty):=by
 rw [zl0 s]
 refine .of_wp fun h=> ?_
 rw [d_9]
 simp only [G_9]
 ac_nf0
 rw [zj3]
 ac_nf0
 refine (znu s (d:= .tup (os.map zbd)) rfl s.len fun o ho=>ho).wp fun h' g=> ?_
 ac_nf0
 exact ⟨trivial,g⟩
theorem zhZ (s:Stk m os) (hf:(zbc m os).isEmpty=true):Ev (F_11 [zaR m os]) .non:=by
 refine .of_wp fun h=> ?_
 rw [d_11]
 simp only [G_11]
 ac_nf0
 refine (zlP s).wp fun h' g=> ?_
 rw [hf]
 ac_nf0
 exact ⟨trivial,g⟩
theorem zlj {fi:FA} {src:List (Option Nat)} {sd:Sd} {t:Int} (hi:fi sd=pure (zhn (os.map zbd))) (hl:os.length<=1000) (eb:zaq src sd=[none,none,some (.int t)]):zaw fi (zch 2 (zaz (zaB 0) (zaz (zaB 1) zcg))) zbC zbA src sd=pure (.lst ((wI os t).map D.int)):=by
 unfold wI
 rw [qaT, <-zaE]
 refine zau (g':=fun (i:Nat)=> .tup [.int i,(os.map zbd).getD i .non]) (by rw [hi];unfold zhn;rw [qaH]) (by simpa using hl) fun i hi'=> ?_
 have hi2:i<os.length:=List.mem_range.mp hi'
 have eo:(os.map zbd).getD i .non=zbd (os.getD i ([],0)):=by simp [List.getD,hi2]
 rw [eb]
 simp only [zbe,zbC,zbA,eo]
 ac_nf0
 rw [zd0]
 ac_nf0
 unfold zg7
 split<;>rfl
theorem zkt (s:Stk m os) {t:Int}:F_16 [zaR m os,.int t]=pure (tI (wI os t)):=by
 have ol:=s.len
 have ec:zaw (ztu (cOp dIx (zaf 0) (cK (.int 1)))) (zch 2 (zaz (zaB 0) (zaz (zaB 1) zcg))) zbC zbA [none,none,some 1] [some (zaR m os),some (.int t)]=pure (.lst ((wI os t).map D.int)):=zlj rfl (by omega) rfl
 rw [d_16]
 simp only [G_16]
 ac_nf0
 rw [ec]
 ac_nf0
theorem znd (s:Stk m os) {a:Nat} {p:Int}:(zbc m (os.take a++[(zbc m os,p)]++os.drop a)).isEmpty=true:=by
 rw [List.isEmpty_iff]
 unfold zbc
 rw [List.filter_eq_nil_iff]
 intro t ht
 rw [List.isEmpty_iff]
 intro z
 by_cases c:(os.filter (zg7 t)).isEmpty=true
 ·have h1:t∈zbc m os:=List.mem_filter.mpr ⟨ht,c⟩
  have h2:(zbc m os,p)∈(os.take a++[(zbc m os,p)]++os.drop a).filter (zg7 t):=List.mem_filter.mpr ⟨by simp,by simpa [zg7] using h1⟩
  unfold zbc at h2
  rw [z] at h2
  cases h2
 ·rw [List.isEmpty_iff] at c
  obtain ⟨o,ho⟩:=List.exists_mem_of_ne_nil _ c
  obtain ⟨h1,h2⟩:=List.mem_filter.mp ho
  have h3:o∈os.take a++os.drop a:=by rw [List.take_append_drop];exact h1
  have h4:o∈(os.take a++[(zbc m os,p)]++os.drop a).filter (zg7 t):=List.mem_filter.mpr ⟨by
    rcases qaK.mp h3 with w | w
    · simp [w]
    · simp [w],h2⟩
  unfold zbc at h4
  rw [z] at h4
  cases h4
theorem zkO {h:Hh} {b:Nat} {mt mo:Int} {P:D->Hh->Prop} (q:Bx b h) (t0:1<=mt) (t1:mt<=10) (o0:1<=mo) (o1:mo<=12) (k: ∀ (m:Int) (os:List (List Int×Int)) h',Bx b h'->Stk m os->(zbc m os).isEmpty=true->(os.length:Int)<=mo->m<=mt->P (zaR m os) h'):wp (F_47 [.cel b,.int mt,.int mo]) h P:=by
 rw [d_47]
 simp only [G_47]
 ac_nf0
 refine zm0 q t0 t1 (by omega) (by omega) fun m os h2 q2 m0 m1 ol ho=> ?_
 have s:=zl3 m0 (by omega) (by omega) ho
 have ec:zaw (zgK (zac (zaf 3) zan)) (zaB 0) zcT zdN [none,some 4] [some (.cel b),some (.int mt),some (.int mo),some (.int m),some (.tup (os.map zbd)),none,none]=pure (.lst ((zbc m os).map D.int)):=by
  refine zkf (x:=some (.tup (os.map zbd))) ?_ (by omega) rfl fun t=> ?_
  ·ac_nf0
   exact zb7 (by omega) (by omega)
  ·have eo:zaw (iSq (zaf 1)) (zaB 0) zb4 zb3 [none,some 0] [some (.int t),some (.tup (os.map zbd))]=pure (.lst ((os.filter (zg7 t)).map zbd)):=zpJ rfl (by omega) rfl
   simp only [zcT]
   ac_nf0
   rw [eo]
   ac_nf0
   rw [zmj]
   ac_nf0
 simp only [zaR]
 ac_nf0
 rw [ec]
 ac_nf0
 refine zbz q2 (by omega) (by omega) fun a h3 a0 a1 x3=> ?_
 have en:=zm5 (zbc m os)
 unfold tI at en
 ac_nf0
 rw [en]
 ac_nf0
 cases hf:(zbc m os).isEmpty with
 | true=>
  ac_nf0
  exact k m os h3 x3.1 s hf (by omega) m1
 | false=>
  ac_nf0
  refine zbz x3.1 (by decide) (by decide) fun t h4 u0 u1 x4=> ?_
  have f1:=zaQ (show (List.take a.toNat (os.map zbd)).length+1<=1000 by simp;omega)
  have f2:=zaQ (show (List.take a.toNat (os.map zbd)).length+1+(List.drop a.toNat (os.map zbd)).length<=1000 by simp;omega)
  ac_nf0
  simp only [zgj _ a0,zgi _ a0,f1,f2]
  ac_nf0
  have hs:Stk m (os.take a.toNat++[(zbc m os,1+t)]++os.drop a.toNat):=by
   refine zl3 m0 (by omega) (by simp;omega) fun o hmem=> ?_
   have hm:o∈os\/o=(zbc m os,1+t):=by
    simp only [qaK,List.mem_singleton] at hmem
    rcases hmem with (w | w) | w
    ·exact .inl (List.mem_of_mem_take w)
    ·exact .inr w
    ·exact .inl (List.mem_of_mem_drop w)
   rcases hm with w | rfl
   ·exact ho o w
   ·refine ⟨(zbQ _).filter _,fun x hx=> ?_,fun z=> ?_,by show (0:Int)<1+t;omega⟩
    ·have:=zc6 x (List.mem_filter.mp hx).1
     omega
    ·have z:zbc m os=[]:=z
     rw [z] at hf
     cases hf
  have hk:=k _ _ h4 x4.1 hs (znd s) (by simp;omega) m1
  simp only [zaR,List.map_append,qaM,List.map_nil,List.map_take,List.map_drop,zbd,tI] at hk
  simpa using hk
theorem zmX {S:Nat->Nat->Bool} {n b one:Nat} (hb:b<n) (ho:one<n):F_35 [zje S n,.int (b:Int),.int (one:Int)]=pure (.bl (Rul S b one)):=by
 obtain ⟨e1,e2⟩:=znC (S:=S) ho hb
 obtain ⟨e3,e4⟩:=znC (S:=S) hb ho
 rw [d_35]
 simp only [G_35,zje]
 ac_nf0
 rw [e1]
 ac_nf0
 rw [e2]
 ac_nf0
 unfold Rul
 cases S one b
 ·ac_nf0
  rfl
 ·ac_nf0
  simp only [zq6]
  ac_nf0
  by_cases hlt:(b:Int)<(one:Int)
  ·have h2:b<one:=by omega
   simp only [hlt,h2,decide_true]
   ac_nf0
   rfl
  ·have h2: ¬b<one:=by omega
   simp only [hlt,h2,decide_false]
   ac_nf0
   rw [e3]
   ac_nf0
   rw [e4]
   ac_nf0
   rfl
theorem zoW {fi:FA} {src:List (Option Nat)} {sd:Sd} {S:Nat->Nat->Bool} {n one:Nat} (ho:one<n) (hn:n<=1000) (hi:fi sd=pure (zdk 0 n)) (eb:zaq src sd=[none,some (zje S n),some (.int (one:Int))]):zaw fi (zaB 0) zck zci src sd=pure (.lst (((List.range n).filter fun b=>Rul S b one).map fun (b:Nat)=> .int (b:Int))):=by
 rw [<- zaE]
 refine zau (g':=fun (k:Nat)=> .int (k:Int)) (by rw [hi,zbN,qaT];rfl) (by simpa using hn) fun b hb=> ?_
 rw [eb]
 simp only [zbe,zck,zci]
 ac_nf0
 rw [zmX (List.mem_range.mp hb) ho]
 ac_nf0
 split<;>rfl
theorem zh9 {S:Nat->Nat->Bool} {n:Nat} (hn:n<=500) {c:Nat}: ∀ (ones:List Nat) {h:Hh} {ps:List D} {x2 x3:Option D} {P:Out->Hh->Prop},h[c]? = some (.lst ps)->ps.length+ones.length<=1000->(∀ o∈ones,o<n)->
  (∀ x2' x3',P (.nx [some (zje S n),some (.cel c),x2',x3']) (h.set c (.lst (ps++ones.filterMap (zpu S n)))))->
  wp (za9 (fun x sd=>do let sd1<-zaB 2 x sd;zcm sd1) (ones.map fun (o:Nat)=> .int (o:Int)) [some (zje S n),some (.cel c),x2,x3]) h P
 | [],h,ps,x2,x3,P,e,hl,ho,k=>by
  rw [List.map_nil,zdY,zas]
  have:=k x2 x3
  rw [List.filterMap_nil,List.append_nil,zm6 e] at this
  exact this
 | o::r,h,ps,x2,x3,P,e,hl,ho,k=>by
  have hln:=(qac.mp e).1
  have hon:=ho o qau
  rw [qaE] at hl
  have ihN:=fun (x2' x3':Option D) (hf:zpu S n o=none)=>zh9 hn r (h:=h) (ps:=ps) (x2:=x2') (x3:=x3') (P:=P) e (by omega) (fun y hy=>ho y (qan _ hy)) fun a b=>by
   have:=k a b
   rw [qat,hf] at this
   exact this
  have ihS:=fun (x2' x3':Option D) (p:D) (hf:zpu S n o=some p)=>zh9 hn r (h:=h.set c (.lst (ps++[p]))) (ps:=ps++[p]) (x2:=x2') (x3:=x3') (P:=P) (qai hln) (by simp;omega) (fun y hy=>ho y (qan _ hy)) fun a b=>by
   have:=k a b
   rw [qat,hf] at this
   rw [List.set_set,List.append_assoc]
   exact this
  have ec:zaw (zgK (zac (zat zdz (zac (zaf 0) zan)) zan)) (zaB 0) zck zci [none,some 0,some 2] [some (zje S n),some (.cel c),some (.int (o:Int)),x3]=pure (.lst (((List.range n).filter fun b=>Rul S b o).map fun (b:Nat)=> .int (b:Int))):=by
   refine zoW hon (by omega) ?_ rfl
   simp only [zje]
   ac_nf0
   simp only [List.length_range]
   rw [zb7 (by omega) (by omega),qaB]
  have f:=zaQ (show ps.length+1<=1000 by omega)
  rw [qaM,zb8]
  generalize za9 (fun x sd=>do let sd1<-zaB 2 x sd;zcm sd1) (r.map fun (o:Nat)=> .int (o:Int))=zbs at ihN ihS ⊢
  simp only [zcm]
  ac_nf0
  rw [ec]
  ac_nf0
  unfold zpu at ihN ihS
  cases hf:(List.range n).filter fun b=>Rul S b o with
  | nil=>
   rw [hf] at ihN
   simp only [L3.zn7,zsp,zj0,List.map_nil]
   ac_nf0
   simp only [List.isEmpty_nil]
   ac_nf0
   exact ihN _ _ rfl
  | cons b bs=>
   rw [hf] at ihS
   simp only [L3.zn7,zsp,zj0,qaM]
   ac_nf0
   simp only [List.isEmpty_cons]
   ac_nf0
   simp only [zb9]
   ac_nf0
   simp only [zbR e,zas,zco,zaA,f,zfZ]
   exact ihS _ _ _ rfl
theorem zrz {S:Nat->Nat->Bool} {n:Nat} (hn:n<=500):Ev (F_34 [zje S n]) (.lst (zj6 S n)):=by
 refine .of_wp fun h=> ?_
 rw [d_34]
 simp only [G_34]
 ac_nf0
 have el:zdz [zje S n]=pure (.int (n:Int)):=by
  simp only [zje]
  ac_nf0
  simp
 rw [el]
 ac_nf0
 rw [zb7 (by omega) (by omega),qaB,zbN,qaT,zas]
 refine zh9 hn (List.range n) (c:=h.length) (h:=h++[.lst []]) (ps:=[]) (by simp) (by rw [List.length_range,qaJ];omega) (fun o ho=>List.mem_range.mp ho) fun x2 x3=> ?_
 ac_nf0
 rw [zin]
 refine znA (ds:=(List.range n).filterMap (zpu S n)) (by simp) ?_
 rw [zin]
 ac_nf0
 first | exact ⟨⟨_,rfl⟩,rfl⟩ | exact ⟨rfl,⟨_,rfl⟩⟩ | exact ⟨_,rfl⟩
theorem zi9 {xs ys:List Int} (hx:xs.length<=1000):F_33 [tI xs,tI ys]=pure (.bl (inB xs ys)):=by
 rw [d_33]
 simp only [G_33]
 have ec:zaw (iSq (zaf 0)) (zaB 0) (fun _=>pure true) zcS [none,some 1] [some (tI xs),some (tI ys)]=pure (.lst ((xs.map fun x=>ys.any (· == x)).map D.bl)):=by
  have e:(xs.map fun x=>ys.any (· == x)).map D.bl=xs.filterMap fun x=>some (.bl (ys.any (· == x))):=by simp
  rw [e]
  refine zau (g':=D.int) rfl hx fun x _=> ?_
  have eb:zaq [none,some 1] [some (tI xs),some (tI ys)]=[none,some (tI ys)]:=rfl
  rw [eb]
  simp only [zbe,zcS]
  ac_nf0
  rw [zd0]
  ac_nf0
 ac_nf0
 simp only [tI] at ec
 rw [ec]
 ac_nf0
 rw [zkp]
 ac_nf0
 unfold inB
 rw [List.all_map]
 rfl
noncomputable def soB (o o':List Int×Int):Bool:=decide (o'.2<=o.2) && inB o.1 o'.1
noncomputable def So (os:List (List Int×Int)) (i j:Nat):Bool:=soB (os.getD i ([],0)) (os.getD j ([],0))
noncomputable def Sth (os:List (List Int×Int)) (i j:Nat):Bool:=inB (wI os j) (wI os i)
theorem zrY {t:Int}:(wI os t).length<=os.length:=by
 unfold wI
 rw [qaH]
 exact qaS (List.length_filter_le _ _) (by simp)
theorem zpq (s:Stk m os) {o:List Int×Int} (ho:o∈os):F_30 [zaR m os,zbd o]=pure (.lst (os.map fun o'=> .bl (soB o o'))):=by
 have ol:=s.len
 have hl:=s.olen o ho
 have ec:zaw (iSq (cOp dIx (zaf 0) (cK (.int 1)))) (zaB 0) (fun _=>pure true) zbD [none,some 1] [some (zaR m os),some (zbd o)]=pure (.lst (os.map fun o'=> .bl (soB o o'))):=by
  rw [show (os.map fun o'=>D.bl (soB o o'))=os.filterMap fun o'=>some (.bl (soB o o')) by simp]
  refine zau (g':=zbd) rfl (by omega) fun o' _=> ?_
  have eb:zaq [none,some 1] [some (zaR m os),some (zbd o)]=[none,some (zbd o)]:=rfl
  have ea:=zi9 (xs:=o.1) (ys:=o'.1) (by omega)
  rw [eb]
  simp only [zbe,zbD]
  simp only [tI] at ea
  ac_nf0
  simp only [ztP]
  ac_nf0
  unfold soB
  cases decide (o'.2<=o.2)
  ·ac_nf0
   rfl
  ·ac_nf0
   rw [ea]
   ac_nf0
   rfl
 rw [d_30]
 simp only [G_30,zcd]
 rw [ec]
 rfl
theorem zpX (s:Stk m os):F_29 [zaR m os]=pure (zje (So os) os.length):=by
 have ol:=s.len
 have ec:zaw (iSq (cOp dIx (zaf 0) (cK (.int 1)))) (zaB 0) (fun _=>pure true) zbu [none,some 0] [some (zaR m os)]=pure (.lst (os.map fun o=> .lst (os.map fun o'=> .bl (soB o o')))):=by
  rw [show (os.map fun o=>D.lst (os.map fun o'=> .bl (soB o o')))=os.filterMap fun o=>some (.lst (os.map fun o'=> .bl (soB o o'))) by simp]
  refine zau (g':=zbd) rfl (by omega) fun o ho=> ?_
  have eb:zaq [none,some 0] [some (zaR m os)]=[none,some (zaR m os)]:=rfl
  have eg:=zpq s ho
  rw [eb]
  simp only [zbe,zbu]
  simp only [zbd,tI] at eg
  ac_nf0
  rw [eg]
  ac_nf0
 rw [d_29]
 simp only [G_29,zcd]
 rw [ec]
 have e:(os.map fun o=>D.lst (os.map fun o'=> .bl (soB o o')))=(List.range os.length).map fun i=> .lst ((List.range os.length).map fun j=> .bl (So os i j)):=by
  rw [zit ([],0) (fun o=>D.lst (os.map fun o'=> .bl (soB o o'))) os]
  refine List.map_congr_left fun i _=> ?_
  rw [zit ([],0) (fun o'=>D.bl (soB (os.getD i ([],0)) o')) os]
  rfl
 rw [e]
 rfl
theorem zkh (s:Stk m os) {t:Nat}:F_32 [zaR m os,.int (t:Int)]=pure (.lst ((List.range m.toNat).map fun u=> .bl (Sth os t u))):=by
 have m0:=s.m0
 have m1:=s.m1
 have ol:=s.len
 have ec:zaw (zgK (zac (cOp dIx (zaf 0) (cK (.int 0))) zan)) (zaB 0) (fun _=>pure true) zbo [none,some 0,some 2] [some (zaR m os),some (.int (t:Int)),some (tI (wI os t))]=pure (.lst ((List.range m.toNat).map fun u=> .bl (Sth os t u))):=by
  rw [show ((List.range m.toNat).map fun u=>D.bl (Sth os t u))=(List.range m.toNat).filterMap fun u=>some (.bl (Sth os t u)) by simp]
  refine zau (g':=fun (k:Nat)=> .int (k:Int)) ?_ (by simp;omega) fun u _=> ?_
  ·ac_nf0
   rw [zmm]
   ac_nf0
   rw [zb7 (by omega) (by omega),zbN,qaT]
   rfl
  ·have eb:zaq [none,some 0,some 2] [some (zaR m os),some (.int (t:Int)),some (tI (wI os t))]=[none,some (zaR m os),some (tI (wI os t))]:=rfl
   have ea:=zi9 (xs:=wI os u) (ys:=wI os t) (by have:=zrY (os:=os) (t:=u);omega)
   rw [eb]
   simp only [zbe,zbo]
   simp only [tI] at ea
   ac_nf0
   rw [zkt s]
   ac_nf0
   rw [ea]
   ac_nf0
   rfl
 rw [d_32]
 simp only [G_32]
 simp only [tI] at ec
 ac_nf0
 rw [zkt s]
 ac_nf0
 rw [ec]
 ac_nf0
theorem zpv (s:Stk m os):F_31 [zaR m os]=pure (zje (Sth os) m.toNat):=by
 have m0:=s.m0
 have m1:=s.m1
 have ec:zaw (zgK (zac (cOp dIx (zaf 0) (cK (.int 0))) zan)) (zaB 0) (fun _=>pure true) zbt [none,some 0] [some (zaR m os)]=pure (zje (Sth os) m.toNat):=by
  unfold zje
  rw [show ((List.range m.toNat).map fun i=>D.lst ((List.range m.toNat).map fun j=> .bl (Sth os i j)))=(List.range m.toNat).filterMap fun i=>some (.lst ((List.range m.toNat).map fun j=> .bl (Sth os i j))) by simp]
  refine zau (g':=fun (k:Nat)=> .int (k:Int)) ?_ (by simp;omega) fun u _=> ?_
  ·ac_nf0
   rw [zmm]
   ac_nf0
   rw [zb7 (by omega) (by omega),zbN,qaT]
   rfl
  ·have eb:zaq [none,some 0] [some (zaR m os)]=[none,some (zaR m os)]:=rfl
   rw [eb]
   simp only [zbe,zbt]
   ac_nf0
   rw [zkh s]
   ac_nf0
 rw [d_31]
 simp only [G_31,zcd]
 rw [ec]
 rfl
theorem zo4 (s:Stk m os) (hf:(zbc m os).isEmpty=true):Ev (F_24 [zaR m os]) (.lst (zj6 (So os) os.length)):=by
 have ol:=s.len
 have m1:=s.m1
 rw [d_24]
 simp only [G_24]
 refine .of_wp fun h=> ?_
 ac_nf0
 refine (zhZ s hf).wp fun h1 g=> ?_
 ac_nf0
 rw [zpX s]
 ac_nf0
 refine (zrz (by omega)).wp fun h2 g2=> ?_
 ac_nf0
 have g3:=g.trans g2
 first | exact ⟨trivial,g3⟩ | exact ⟨g3,trivial⟩ | exact ⟨rfl,g3⟩ | exact g3
theorem zrO (s:Stk m os) (hf:(zbc m os).isEmpty=true):Ev (F_25 [zaR m os]) (.lst (zj6 (Sth os) m.toNat)):=by
 have ol:=s.len
 have m1:=s.m1
 rw [d_25]
 simp only [G_25]
 refine .of_wp fun h=> ?_
 ac_nf0
 refine (zhZ s hf).wp fun h1 g=> ?_
 ac_nf0
 rw [zpv s]
 ac_nf0
 refine (zrz (by omega)).wp fun h2 g2=> ?_
 ac_nf0
 have g3:=g.trans g2
 first | exact ⟨trivial,g3⟩ | exact ⟨g3,trivial⟩ | exact ⟨rfl,g3⟩ | exact g3
noncomputable def zcb (S:Nat->Nat->Bool) (n one:Nat):List Nat:=(List.range n).filter fun b=>Rul S b one
noncomputable def kept (S:Nat->Nat->Bool) (n:Nat):List Nat:=(List.range n).filter fun one=>(zcb S n one).isEmpty
noncomputable def zek (S:Nat->Nat->Bool) (n:Nat):List Nat:=(List.range n).filter fun one=> !(zcb S n one).isEmpty
noncomputable def zhi (S:Nat->Nat->Bool) (n one:Nat):D:= .tup [.int (one:Int),.int ((zcb S n one).headD 0:Int)]
theorem zhR (S:Nat->Nat->Bool) (n:Nat):zj6 S n=(zek S n).map (zhi S n):=by
 unfold zj6 zek
 rw [<- zaE]
 refine congrArg (fun f=>List.filterMap f (List.range n)) (funext fun one=> ?_)
 unfold zpu zhi zcb
 cases (List.range n).filter fun b=>Rul S b one<;>rfl
structure Pre (S:Nat->Nat->Bool):Prop where
 rf: ∀ i,S i i=true
 tr: ∀ i j k,S i j=true->S j k=true->S i k=true
theorem zeg {S:Nat->Nat->Bool} {b j:Nat}:Rul S b j=true↔S j b=true/\(b<j\/S b j=false):=by
 unfold Rul
 rw [qaG,Bool.or_eq_true,qaD,Bool.not_eq_true']
theorem zrV {S:Nat->Nat->Bool} (p:Pre S) {b c d:Nat} (h1:Rul S b c=true) (h2:Rul S c d=true):Rul S b d=true:=by
 obtain ⟨a1,a2⟩:=zeg.mp h1
 obtain ⟨b1,b2⟩:=zeg.mp h2
 refine zeg.mpr ⟨p.tr _ _ _ b1 a1,?_⟩
 cases hbd:S b d with
 | false=>exact .inr rfl
 | true=>
  left
  have k1:S b c=true:=p.tr _ _ _ hbd b1
  have k2:S c d=true:=p.tr _ _ _ a1 hbd
  rw [k1] at a2
  rw [k2] at b2
  simp at a2 b2
  omega
theorem zqC {S:Nat->Nat->Bool} (p:Pre S) {b:Nat}:Rul S b b=false:=by
 cases h:Rul S b b with
 | false=>rfl
 | true=>
  obtain ⟨_,h2⟩:=zeg.mp h
  rw [p.rf b] at h2
  simp at h2
theorem zhJ {α:Type} {p q:α->Bool}: ∀ {xs:List α},(∀ x,p x=true->q x=true)->(∃ x∈xs,q x=true/\p x=false)->(xs.filter p).length<(xs.filter q).length
 | [],_,⟨x,hx,_⟩=>by cases hx
 | x::r,h,⟨y,hy,h1,h2⟩=>by
  have le: ∀ ys:List α,(ys.filter p).length<=(ys.filter q).length:=fun ys=>by
   induction ys with
   | nil=>exact qaV _
   | cons z t ih=>
    rw [List.filter_cons,List.filter_cons]
    cases hp:p z with
    | true=>rw [h z hp];simp only [if_true,qaE];omega
    | false=>
     cases hq:q z with
     | true=>simp only [qax,if_false,if_true,qaE];omega
     | false=>simpa using ih
  rw [List.filter_cons,List.filter_cons]
  rcases qaP.mp hy with rfl | hy
  ·rw [h1,h2]
   simp only [qax,if_false,if_true,qaE]
   have:=le r
   omega
  ·have ih:=zhJ (xs:=r) h ⟨y,hy,h1,h2⟩
   cases hp:p x with
   | true=>rw [h x hp];simp only [if_true,qaE];omega
   | false=>
    cases hq:q x with
    | true=>simp only [qax,if_false,if_true,qaE];omega
    | false=>simpa using ih
theorem unr {S:Nat->Nat->Bool} (p:Pre S) {n:Nat}: ∀ (k j:Nat),j<n->(zcb S n j).length<=k-> ∃ b∈kept S n,S j b=true
 | 0,j,hj,hk=>⟨j,List.mem_filter.mpr ⟨List.mem_range.mpr hj,by rw [List.isEmpty_iff];exact List.length_eq_zero_iff.mp (by omega)⟩,p.rf j⟩
 | k+1,j,hj,hk=>by
  cases hr:zcb S n j with
  | nil=>exact ⟨j,List.mem_filter.mpr ⟨List.mem_range.mpr hj,by rw [hr];rfl⟩,p.rf j⟩
  | cons b bs=>
   have hb:b∈zcb S n j:=by rw [hr];exact qau
   obtain ⟨hb1,hb2⟩:=List.mem_filter.mp hb
   have hlt:(zcb S n b).length<(zcb S n j).length:=zhJ (fun c hc=>zrV p hc hb2) ⟨b,hb1,hb2,zqC p⟩
   obtain ⟨c,hc,hs⟩:=unr p k b (List.mem_range.mp hb1) (by omega)
   exact ⟨c,hc,p.tr _ _ _ (zeg.mp hb2).1 hs⟩
theorem zgF {S:Nat->Nat->Bool} (p:Pre S) {n j:Nat} (hj:j<n): ∃ b∈kept S n,S j b=true:=unr p _ j hj (qaV _)
theorem znx {xs:List Int}:inB xs xs=true:=zdE.mpr fun _ h=>h
theorem zn4 {xs ys zs:List Int} (h1:inB xs ys=true) (h2:inB ys zs=true):inB xs zs=true:=zdE.mpr fun x hx=>zdE.mp h2 x (zdE.mp h1 x hx)
theorem znH (os:List (List Int×Int)):Pre (So os) where
 rf:=fun i=>by unfold So soB;rw [znx];simp
 tr:=fun i j k h1 h2=>by
  unfold So soB at*
  rw [qaG,qaD] at*
  exact ⟨by omega,zn4 h1.2 h2.2⟩
theorem zlg (os:List (List Int×Int)):Pre (Sth os) where
 rf:=fun i=>znx
 tr:=fun i j k h1 h2=>by unfold Sth at *; exact zn4 h2 h1
theorem zc8 {S:Nat->Nat->Bool} {n j:Nat} (h:j∈kept S n):j<n:=List.mem_range.mp (List.mem_filter.mp h).1
theorem zkc {S:Nat->Nat->Bool} {n:Nat}:(kept S n).Pairwise (· < ·):=List.pairwise_lt_range.filter _
def Ful (m:Int) (os:List (List Int×Int)):Prop:= ∀ t:Int,0<=t->t<m-> ∃ o∈os,t∈o.1
theorem zeL {t:Int} {o:List Int×Int}:zg7 t o=true↔t∈o.1:=by
 unfold zg7
 rw [List.any_eq_true]
 constructor
 ·rintro ⟨x,hx,e⟩
  rw [beq_iff_eq] at e
  exact e▸hx
 ·intro h
  exact ⟨t,h,by simp⟩
theorem zc7 (m0:0<=m):(zbc m os).isEmpty=true↔Ful m os:=by
 unfold zbc Ful
 rw [List.isEmpty_iff,List.filter_eq_nil_iff]
 constructor
 ·intro h t t0 t1
  have:=h t (qaU.mpr ⟨t.toNat,List.mem_range.mpr (by omega),by omega⟩)
  rw [List.isEmpty_iff] at this
  obtain ⟨o,ho⟩:=List.exists_mem_of_ne_nil _ this
  obtain ⟨h1,h2⟩:=List.mem_filter.mp ho
  exact ⟨o,h1,zeL.mp h2⟩
 ·intro h t ht
  obtain ⟨k,hk,rfl⟩:=qaU.mp ht
  have:=List.mem_range.mp hk
  obtain ⟨o,ho,hx⟩:=h (k:Int) (by omega) (by omega)
  rw [List.isEmpty_iff]
  exact List.ne_nil_of_mem (List.mem_filter.mpr ⟨ho,zeL.mpr hx⟩)
noncomputable def nar (T:List Nat) (xs:List Int):List Int:=((List.range T.length).filter fun p=>xs.any (· == (T.getD p 0:Int))).map fun (p:Nat)=>(p:Int)
noncomputable def zd8 (os:List (List Int×Int)) (T N:List Nat):List (List Int×Int):=N.map fun j=>(nar T (os.getD j ([],0)).1,(os.getD j ([],0)).2)
theorem znI {T:List Nat} {xs:List Int}:(nar T xs).Pairwise (· < ·):=by
 unfold nar
 rw [List.pairwise_map]
 exact (List.pairwise_lt_range.filter _).imp fun h=>by omega
theorem zff {T:List Nat} {xs:List Int} {p:Int}:p∈nar T xs↔ ∃ k:Nat,p=(k:Int)/\k<T.length/\(T.getD k 0:Int)∈xs:=by
 unfold nar
 rw [qaU]
 constructor
 ·rintro ⟨k,hk,rfl⟩
  obtain ⟨h1,h2⟩:=List.mem_filter.mp hk
  exact ⟨k,rfl,List.mem_range.mp h1,by
    obtain ⟨x,hx,e⟩:=List.any_eq_true.mp h2
    rw [beq_iff_eq] at e
    exact e▸hx⟩
 ·rintro ⟨k,rfl,h1,h2⟩
  exact ⟨k,List.mem_filter.mpr ⟨List.mem_range.mpr h1,List.any_eq_true.mpr ⟨_,h2,by simp⟩⟩,rfl⟩
theorem zk5 {n:Nat} {xs:List Int} (hu:xs.Pairwise (· < ·)) (hb: ∀ x∈xs,0<=x/\x<(n:Int)):nar (List.range n) xs=xs:=by
 refine zlM znI hu fun t=> ?_
 rw [zff]
 constructor
 ·rintro ⟨k,rfl,h1,h2⟩
  rw [List.length_range] at h1
  simpa [List.getD,h1] using h2
 ·intro ht
  have:=hb t ht
  refine ⟨t.toNat,by omega,by rw [List.length_range];omega,?_⟩
  have h1:t.toNat<n:=by omega
  have e:((List.range n).getD t.toNat 0:Int)=t:=by
   simp [List.getD,h1]
   omega
  rw [e]
  exact ht
noncomputable def O1 (os:List (List Int×Int)):List Nat:=kept (So os) os.length
noncomputable def R1 (os:List (List Int×Int)):List (List Int×Int):=(O1 os).map fun j=>os.getD j ([],0)
noncomputable def T1 (m:Int) (os:List (List Int×Int)):List Nat:=kept (Sth (R1 os)) m.toNat
noncomputable def N1 (m:Int) (os:List (List Int×Int)):List Nat:=(O1 os).filter fun j=> !(nar (T1 m os) (os.getD j ([],0)).1).isEmpty
theorem zdo {j:Nat} (h:j<os.length):os.getD j ([],0)∈os:=by simp [List.getD,h]
theorem zoB (s:Stk m os):zd8 os (List.range m.toNat) (O1 os)=R1 os:=by
 have m0:=s.m0
 unfold zd8 R1
 refine List.map_congr_left fun j hj=> ?_
 have mo:=zdo (os:=os) (zc8 hj)
 rw [zk5 (s.up _ mo) fun x hx=>by have:=s.bd _ mo x hx;omega]
theorem zsb (s:Stk m os):Stk m (R1 os):=by
 have hm: ∀ o∈R1 os,o∈os:=fun o ho=>by
  obtain ⟨j,hj,rfl⟩:=qaU.mp ho
  exact zdo (zc8 hj)
 refine ⟨s.m0,s.m1,?_,fun o ho=>s.up o (hm o ho),fun o ho=>s.bd o (hm o ho),fun o ho=>s.ne o (hm o ho),fun o ho=>s.pos o (hm o ho)⟩
 unfold R1 O1 kept
 rw [qaH]
 exact qaS (List.length_filter_le _ _) (by rw [List.length_range];exact s.len)
theorem znv (hf:Ful m os):Ful m (R1 os):=fun t t0 t1=>by
 obtain ⟨o,ho,hx⟩:=hf t t0 t1
 obtain ⟨j,hj,rfl⟩:=List.mem_iff_getElem.mp ho
 obtain ⟨b,hb,hs⟩:=zgF (znH os) hj
 refine ⟨os.getD b ([],0),qaU.mpr ⟨b,hb,rfl⟩,?_⟩
 unfold So soB at hs
 rw [qaG] at hs
 refine zdE.mp hs.2 t ?_
 simpa [List.getD,hj] using hx
theorem zrr (s:Stk m os):0<(T1 m os).length:=by
 have m0:=s.m0
 obtain ⟨b,hb,_⟩:=zgF (zlg (R1 os)) (n:=m.toNat) (j:=0) (by omega)
 exact List.length_pos_of_mem hb
theorem zoC:(T1 m os).length<=m.toNat:=by
 have:=List.length_filter_le (fun one=>(zcb (Sth (R1 os)) m.toNat one).isEmpty) (List.range m.toNat)
 rw [List.length_range] at this
 exact this
theorem zmu:(O1 os).length<=os.length:=by
 have:=List.length_filter_le (fun one=>(zcb (So os) os.length one).isEmpty) (List.range os.length)
 rw [List.length_range] at this
 exact this
theorem zmB:(N1 m os).length<=os.length:=qaS (List.length_filter_le _ _) zmu
theorem zjs {j:Nat} (h:j∈N1 m os):j<os.length:=zc8 (List.mem_filter.mp h).1
theorem zpm:(N1 m os).Pairwise (· < ·):=zkc.filter _
noncomputable def osN (m:Int) (os:List (List Int×Int)):List (List Int×Int):=zd8 os (T1 m os) (N1 m os)
theorem zno (s:Stk m os):Stk ((T1 m os).length:Int) (osN m os):=by
 have m1:=s.m1
 have tl:=zoC (m:=m) (os:=os)
 have tp:=zrr s
 have hm: ∀ o∈osN m os, ∃ j∈N1 m os,o=(nar (T1 m os) (os.getD j ([],0)).1,(os.getD j ([],0)).2):=fun o ho=>by
  obtain ⟨j,hj,rfl⟩:=qaU.mp ho
  exact ⟨j,hj,rfl⟩
 refine ⟨by omega,by omega,?_,fun o ho=> ?_,fun o ho x hx=> ?_,fun o ho=> ?_,fun o ho=> ?_⟩
 ·unfold osN zd8
  rw [qaH]
  exact qaS zmB s.len
 ·obtain ⟨j,hj,rfl⟩:=hm o ho
  exact znI
 ·obtain ⟨j,hj,rfl⟩:=hm o ho
  obtain ⟨k,rfl,h1,_⟩:=zff.mp hx
  omega
 ·obtain ⟨j,hj,rfl⟩:=hm o ho
  have:=(List.mem_filter.mp hj).2
  intro z
  have z:nar (T1 m os) (os.getD j ([],0)).1=[]:=z
  rw [z] at this
  cases this
 ·obtain ⟨j,hj,rfl⟩:=hm o ho
  exact s.pos (os.getD j ([],0)) (zdo (zjs hj))
theorem zmQ (s:Stk m os) (hf:Ful m os):Ful ((T1 m os).length:Int) (osN m os):=fun t t0 t1=>by
 have m0:=s.m0
 have hk:t.toNat<(T1 m os).length:=by omega
 have hT:(T1 m os).getD t.toNat 0∈T1 m os:=by simp [List.getD,hk]
 have hlt:=zc8 hT
 obtain ⟨o,ho,hx⟩:=znv hf ((T1 m os).getD t.toNat 0:Int) (by omega) (by omega)
 obtain ⟨j,hj,rfl⟩:=qaU.mp ho
 have hn:t∈nar (T1 m os) (os.getD j ([],0)).1:=zff.mpr ⟨t.toNat,by omega,hk,hx⟩
 refine ⟨_,qaU.mpr ⟨j,List.mem_filter.mpr ⟨hj,?_⟩,rfl⟩,hn⟩
 cases hz:nar (T1 m os) (os.getD j ([],0)).1 with
 | nil=>rw [hz] at hn;cases hn
 | cons _ _=>rfl
theorem zcB {α:Type} {p:α->Bool} {xs:List α} (h:(xs.filter p).length=xs.length):xs.filter p=xs:=List.filter_eq_self.mpr (List.length_filter_eq_length_iff.mp h)
theorem zol (h:(T1 m os).length=m.toNat):T1 m os=List.range m.toNat:=zcB (by rw [List.length_range];exact h)
theorem zpg (h:(N1 m os).length=os.length):N1 m os=List.range os.length:=by
 have h1:=List.length_filter_le (fun j=> !(nar (T1 m os) (os.getD j ([],0)).1).isEmpty) (O1 os)
 have h2:=zmu (os:=os)
 have h:((O1 os).filter fun j=> !(nar (T1 m os) (os.getD j ([],0)).1).isEmpty).length=os.length:=h
 have e1:O1 os=List.range os.length:=zcB (by rw [List.length_range];show (O1 os).length=_;omega)
 have e2:N1 m os=O1 os:=zcB (by omega)
 rw [e2,e1]
theorem zmq {S:Nat->Nat->Bool} {n one:Nat} (h:one<n):(cI (zek S n)).any (· == (one:Int))= !(zcb S n one).isEmpty:=by
 rw [zp4,Bool.eq_iff_iff,zmr]
 unfold zek
 rw [List.mem_filter]
 exact ⟨fun z=>z.2,fun z=>⟨List.mem_range.mpr h,z⟩⟩
theorem zlz {fi:FA} {src:List (Option Nat)} {sd:Sd} {tc:FT} {te:FE} {S:Nat->Nat->Bool} {n:Nat} (ht:tc=zcx zfj (zaf 0) (zaf 1)) (he:te=zaf 0) (hn:n<=500) (hi:fi sd=pure ((List.range n).map fun (j:Nat)=> .int (j:Int))) (eb:zaq src sd=[none,some (.lst ((cI (zek S n)).map D.int))]):
  zaw fi (zaB 0) tc te src sd=pure (.lst ((cI (kept S n)).map D.int)):=by
 rw [ze0]
 unfold kept
 rw [<- zaE]
 refine zau (g':=fun (j:Nat)=> .int (j:Int)) hi (by simp;omega) fun j hj=> ?_
 rw [eb,ht,he]
 simp only [zbe]
 ac_nf0
 rw [zie,zmq (List.mem_range.mp hj)]
 ac_nf0
 simp only [Bool.not_not]
 split<;>rfl
theorem zlV {S:Nat->Nat->Bool} {n:Nat} (hn:n<=500):F_38 [.int (n:Int),.lst (zj6 S n)]=pure (.lst ((cI (kept S n)).map D.int)):=by
 have gl:(zek S n).length<=n:=by
  have:=List.length_filter_le (fun one=> !(zcb S n one).isEmpty) (List.range n)
  rw [List.length_range] at this
  exact this
 have e1:zaw (iSq (zaf 1)) (zaB 0) (fun _=>pure true) zcQ [none] [some (.int (n:Int)),some (.lst (zj6 S n)),none]=pure (.lst ((cI (zek S n)).map D.int)):=by
  rw [ze0,show (zek S n).map (fun (j:Nat)=>D.int (j:Int))=(zek S n).filterMap fun (j:Nat)=>some (.int (j:Int)) by simp]
  refine zau (g':=zhi S n) (by ac_nf0;rw [zhR]) (by omega) fun j _=> ?_
  have eb:zaq [none] [some (.int (n:Int)),some (.lst (zj6 S n)),none]=[none]:=rfl
  rw [eb]
  simp only [zbe,zcQ,zhi]
  ac_nf0
 have e2:zaw (zgK (zac (zaf 0) zan)) (zaB 0) zdO zd2 [none,some 2] [some (.int (n:Int)),some (.lst (zj6 S n)),some (.lst ((cI (zek S n)).map D.int))]=pure (.lst ((cI (kept S n)).map D.int)):=by
  refine zlz rfl rfl hn ?_ rfl
  ac_nf0
  rw [zb7 (by omega) (by omega),qaB,zbN,qaT]
  rfl
 rw [d_38]
 simp only [G_38]
 ac_nf0
 rw [e1]
 ac_nf0
 rw [e2]
 ac_nf0
theorem zqh {T:List Nat}:zhn ((cI T).map D.int)=(List.range T.length).map fun (p:Nat)=> .tup [.int (p:Int),.int (T.getD p 0:Int)]:=by
 unfold zhn
 rw [qaH,zhM]
 refine List.map_congr_left fun p hp=> ?_
 have:=List.mem_range.mp hp
 simp [cI,List.getD,this]
theorem zmp {fi:FA} {src:List (Option Nat)} {sd:Sd} {tc:FT} {te:FE} {T:List Nat} {xs:List Int} (he:te=zaf 0) (hT:T.length<=1000) (hi:fi sd=pure (zhn ((cI T).map D.int))) (eb: ∃ d,zaq src sd=[none,none,some d]/\ ∀ p t:Int,tc [some (.int p),some (.int t),some d]=pure (xs.any (· == t))):
  zaw fi (zch 2 (zaz (zaB 0) (zaz (zaB 1) zcg))) tc te src sd=pure (.lst ((nar T xs).map D.int)):=by
 obtain ⟨d,eb,et⟩:=eb
 unfold nar
 rw [qaT, <-zaE]
 refine zau (g':=fun (p:Nat)=> .tup [.int (p:Int),.int (T.getD p 0:Int)]) (by rw [hi,zqh]) (by simpa using hT) fun p _=> ?_
 rw [eb,he]
 simp only [zbe]
 ac_nf0
 rw [et]
 ac_nf0
 split<;>rfl
theorem ze8 {o:List Int×Int} {T:List Nat} (hT:T.length<=1000):F_18 [zbd o,.lst ((cI T).map D.int)]=pure (tI (nar T o.1)):=by
 have e1:zaw (zpD (zaf 1)) (zch 2 (zaz (zaB 0) (zaz (zaB 1) zcg))) zc5 zes [none,none,some 0] [some (zbd o),some (.lst ((cI T).map D.int))]=pure (.lst ((nar T o.1).map D.int)):=by
  refine zmp rfl hT rfl ⟨zbd o,rfl,fun p t=> ?_⟩
  simp only [zc5]
  ac_nf0
  rw [zd0]
  ac_nf0
 rw [d_18]
 simp only [G_18]
 ac_nf0
 simp only [zbd,tI] at e1
 rw [e1]
 ac_nf0
theorem zlu (s:Stk m os) {T N:List Nat} (hT:T.length<=1000) (hN: ∀ j∈N,j<os.length) (hl:N.length<=1000):F_17 [zaR m os,.lst ((cI T).map D.int),.lst ((cI N).map D.int)]=pure (zaR (T.length:Int) (zd8 os T N)):=by
 have e1:zaw (iSq (zaf 2)) (zaB 0) (fun _=>pure true) zdw [none,some 0] [some (zaR m os),some (.lst ((cI T).map D.int)),some (.lst ((cI N).map D.int)),none]=pure (.lst ((N.map fun j=>os.getD j ([],0)).map zbd)):=by
  rw [qaT,show N.map (zbd∘fun j=>os.getD j ([],0))=N.filterMap fun j=>some (zbd (os.getD j ([],0))) by simp [Function.comp_def]]
  refine zau (g':=fun (j:Nat)=> .int (j:Int)) (by ac_nf0;rw [ze0]) hl fun j hj=> ?_
  have eb:zaq [none,some 0] [some (zaR m os),some (.lst ((cI T).map D.int)),some (.lst ((cI N).map D.int)),none]=[none,some (zaR m os)]:=rfl
  have eo:=zdL (os:=os) (i:=(j:Int)) (by omega) (by have:=hN j hj;omega)
  rw [qaB] at eo
  rw [eb]
  simp only [zbe,zdw]
  ac_nf0
  rw [zj3]
  ac_nf0
  rw [eo]
  ac_nf0
 have e2:zaw (iSq (zaf 3)) (zaB 0) (fun _=>pure true) zdI [none,some 1] [some (zaR m os),some (.lst ((cI T).map D.int)),some (.lst ((cI N).map D.int)),some (.lst ((N.map fun j=>os.getD j ([],0)).map zbd))]=pure (.lst ((zd8 os T N).map zbd)):=by
  rw [show (zd8 os T N).map zbd=(N.map fun j=>os.getD j ([],0)).filterMap fun o=>some (zbd (nar T o.1,o.2)) by unfold zd8;simp [Function.comp_def]]
  refine zau (g':=zbd) rfl (by rw [qaH];exact hl) fun o _=> ?_
  have eb:zaq [none,some 1] [some (zaR m os),some (.lst ((cI T).map D.int)),some (.lst ((cI N).map D.int)),some (.lst ((N.map fun j=>os.getD j ([],0)).map zbd))]=[none,some (.lst ((cI T).map D.int))]:=rfl
  have en:=ze8 (o:=o) hT
  rw [eb]
  simp only [zbe,zdI]
  simp only [zbd,tI] at en ⊢
  ac_nf0
  rw [en]
  ac_nf0
 rw [d_17]
 simp only [G_17]
 ac_nf0
 rw [e1]
 ac_nf0
 simp only [qaT] at e2
 simp only [qaT]
 rw [e2]
 ac_nf0
 rw [zhM]
 rfl
structure Sy where
 m:Int
 os:List (List Int×Int)
 ts:List Int
 ns:List Int
noncomputable def nxt (x:Sy):Sy:=⟨((T1 x.m x.os).length:Int),osN x.m x.os,(T1 x.m x.os).map fun j=>x.ts.getD j 0,(N1 x.m x.os).map fun j=>x.ns.getD j 0⟩
noncomputable def zaJ (x:Sy):D:= .tup [zaR x.m x.os,tI x.ts,tI x.ns]
structure In (x:Sy):Prop where
 s:Stk x.m x.os
 f:Ful x.m x.os
 tl:x.ts.length=x.m.toNat
 nl:x.ns.length=x.os.length
 td:x.ts.Nodup
 nd:x.ns.Nodup
noncomputable def same (x:Sy):Bool:=(T1 x.m x.os).length==x.m.toNat && (N1 x.m x.os).length==x.os.length
noncomputable def siz (x:Sy):Nat:=x.m.toNat+x.os.length
theorem zoQ {m:Int} {os:List (List Int×Int)} {j:Nat} (h:j∈T1 m os):j<m.toNat:=zc8 h
theorem In.next {x:Sy} (i:In x):In (nxt x) where
 s:=zno i.s
 f:=zmQ i.s i.f
 tl:=by unfold nxt;simp
 nl:=by unfold nxt osN zd8;simp
 td:=zfR i.td zkc fun j hj=>by rw [i.tl];exact zoQ hj
 nd:=zfR i.nd zpm fun j hj=>by rw [i.nl];exact zjs hj
theorem zoY {x:Sy} (i:In x) (h:same x=true):nxt x=x:=by
 unfold same at h
 rw [qaG,beq_iff_eq,beq_iff_eq] at h
 have m0:=i.s.m0
 have e1:=zol h.1
 have e2:=zpg h.2
 have e3:osN x.m x.os=x.os:=by
  unfold osN zd8
  rw [e1,e2]
  refine Eq.trans (List.map_congr_left fun j hj=> ?_) (zdV (d:=([],0)))
  have mo:=zdo (os:=x.os) (List.mem_range.mp hj)
  rw [zk5 (i.s.up _ mo) fun t ht=>by have:=i.s.bd _ mo t ht;omega]
 have e4:(T1 x.m x.os).map (fun j=>x.ts.getD j 0)=x.ts:=by
  rw [e1, <-i.tl]
  exact zdV
 have e5:(N1 x.m x.os).map (fun j=>x.ns.getD j 0)=x.ns:=by
  rw [e2, <-i.nl]
  exact zdV
 unfold nxt
 rw [e3,e4,e5,h.1]
 have e6:((x.m.toNat:Nat):Int)=x.m:=by omega
 rw [e6]
theorem znL {x:Sy} (h:same x=false):siz (nxt x)<siz x:=by
 unfold same at h
 have h1:=zoC (m:=x.m) (os:=x.os)
 have h2:=zmB (m:=x.m) (os:=x.os)
 have e1:(nxt x).m.toNat=(T1 x.m x.os).length:=by unfold nxt;simp
 have e2:(nxt x).os.length=(N1 x.m x.os).length:=by unfold nxt osN zd8;simp
 unfold siz
 rw [e1,e2]
 rw [Bool.and_eq_false_iff,beq_eq_false_iff_ne,beq_eq_false_iff_ne] at h
 omega
noncomputable def pdS (x:Sy):PyData:= .tuple [.tuple [.int x.m,.tuple (x.os.map pdO)],.tuple (x.ts.map PyData.int),.tuple (x.ns.map PyData.int)]
theorem zlZ (x:Sy):pd (zaJ x)=some (pdS x):=by
 simp only [zaJ,zaR,tI,pd,pdL,zf8,zbj,Option.map,pdS]
theorem ziq (x:Sy):(pdS x).canLay0=true:=by simp [pdS,PyData.canLay0,PyData.canLayAll0,zaL,zeK]
theorem zja (x:Sy):(pdS x).depth<=10:=by
 have:=zhA x.os
 simp only [pdS,PyData.depth,PyData.depthAll,zaU]
 omega
theorem zpx (x y:Sy):zgo (pdS x) (pdS y)=true:=by
 have h1:=zja x
 have h2:=zja y
 unfold zgo
 rw [ziq,ziq]
 simp
 omega
theorem znq (x:Sy):PyData.eqv (pdS x) (pdS x)=true:=by
 simp [pdS,PyData.eqv,PyData.eqvAll,zcN,zgH]
theorem zpy {x:Sy} (i:In x):dNe (zaJ (nxt x)) (zaJ x)=pure (.bl (!same x)):=by
 rw [zlf (zlZ _) (zlZ _) (zpx _ _)]
 cases h:same x with
 | true=>
  rw [zoY i h,znq]
 | false=>
  have hd:((nxt x).ts==x.ts && (nxt x).ns==x.ns)=false:=by
   cases hz:((nxt x).ts==x.ts && (nxt x).ns==x.ns) with
   | false=>rfl
   | true=>
    rw [qaG,beq_iff_eq,beq_iff_eq] at hz
    have l1:=congrArg List.length hz.1
    have l2:=congrArg List.length hz.2
    have l3:(nxt x).ts.length=(T1 x.m x.os).length:=by unfold nxt;simp
    have l4:(nxt x).ns.length=(N1 x.m x.os).length:=by unfold nxt;simp
    rw [l3,i.tl] at l1
    rw [l4,i.nl] at l2
    unfold same at h
    rw [l1,l2] at h
    simp at h
  have e:PyData.eqv (pdS (nxt x)) (pdS x)=false:=by
   simp only [pdS,PyData.eqv,PyData.eqvAll,zcN,Bool.and_true]
   rw [hd,Bool.and_false]
  rw [e]
theorem zg6 {x:Sy} (i:In x):Ev (F_37 [zaJ x]) (zaJ (nxt x)):=by
 obtain ⟨m,os,ts,ns⟩:=x
 have s:=i.s
 have tl:=i.tl
 have nl:=i.nl
 simp only at s tl nl
 have m0:=s.m0
 have m1:=s.m1
 have ol:=s.len
 have o1l:=zmu (os:=os)
 have t1l:=zoC (m:=m) (os:=os)
 have n1l:=zmB (m:=m) (os:=os)
 have hf:=(zc7 (m:=m) (os:=os) (by omega)).mpr i.f
 have hf1:=(zc7 (m:=m) (os:=R1 os) (by omega)).mpr (znv i.f)
 have e1:=zlV (S:=So os) (n:=os.length) (by omega)
 have e2:=zlV (S:=Sth (R1 os)) (n:=m.toNat) (by omega)
 have e3:=zlu s (T:=List.range m.toNat) (N:=O1 os) (by simp;omega) (fun j hj=>zc8 hj) (by omega)
 rw [zoB s,List.length_range,show ((m.toNat:Nat):Int)=m by omega] at e3
 rw [show ((m.toNat:Nat):Int)=m by omega] at e2
 have e4:=zlu s (T:=T1 m os) (N:=N1 m os) (by omega) (fun j hj=>zjs hj) (by omega)
 have e5:=zeS (n:=m.toNat) (by omega)
 rw [show ((m.toNat:Nat):Int)=m by omega] at e5
 have e6:zaw (iSq (zaf 2)) (zaB 0) zbV zbY [none,some 1,some 4] [some (zaJ ⟨m,os,ts,ns⟩),some (zaR m os),some (.lst ((cI (O1 os)).map D.int)),some (.lst ((cI (List.range m.toNat)).map D.int)),some (.lst ((cI (T1 m os)).map D.int)),none,none]=pure (.lst ((cI (N1 m os)).map D.int)):=by
  rw [ze0 (N1 m os)]
  unfold N1
  rw [<- zaE]
  refine zau (g':=fun (j:Nat)=> .int (j:Int)) (by ac_nf0;rw [ze0]) (by omega) fun j hj=> ?_
  have eb:zaq [none,some 1,some 4] [some (zaJ ⟨m,os,ts,ns⟩),some (zaR m os),some (.lst ((cI (O1 os)).map D.int)),some (.lst ((cI (List.range m.toNat)).map D.int)),some (.lst ((cI (T1 m os)).map D.int)),none,none]=[none,some (zaR m os),some (.lst ((cI (T1 m os)).map D.int))]:=rfl
  have hjl:=zc8 hj
  have eo:=zdL (os:=os) (i:=(j:Int)) (by omega) (by omega)
  rw [qaB] at eo
  have en:=ze8 (o:=os.getD j ([],0)) (T:=T1 m os) (by omega)
  rw [eb]
  simp only [zbe,zbV,zbY]
  generalize os.getD j ([],0)=o at eo en ⊢
  simp only [L3.zn7,zsp]
  simp only [zbd,tI] at eo en
  ac_nf0
  rw [zj3]
  ac_nf0
  rw [eo]
  ac_nf0
  rw [en]
  simp only [zj0]
  ac_nf0
  simp only [List.isEmpty_map]
  split<;>rfl
 have e7: ∀ {sd:Sd},zaq [none,some 0] sd=[none,some (zaJ ⟨m,os,ts,ns⟩)]->sd[4]? = some (some (.lst ((cI (T1 m os)).map D.int)))->zaw (iSq (zaf 4)) (zaB 0) (fun _=>pure true) zbX [none,some 0] sd=pure (.lst (((T1 m os).map fun j=>ts.getD j 0).map D.int)):=fun {sd} eb h4=>by
  rw [qaT,show (T1 m os).map (D.int∘fun j=>ts.getD j 0)=(T1 m os).filterMap fun j=>some (.int (ts.getD j 0)) by simp [Function.comp_def]]
  refine zau (g':=fun (j:Nat)=> .int (j:Int)) ?_ (by omega) fun j hj=> ?_
  ·have:zaf 4 sd=pure (.lst ((cI (T1 m os)).map D.int)):=by
    unfold zaf
    rw [h4]
   ac_nf0
   rw [this]
   ac_nf0
   rw [ze0]
  ·have hjl:=zoQ hj
   have ea:=zgI (xs:=ts) (j:=j) (by omega)
   have e0:dIx (zaJ ⟨m,os,ts,ns⟩) (.int 1)=pure (.tup (ts.map D.int)):=rfl
   rw [eb]
   simp only [zbe,zbX]
   ac_nf0
   rw [e0]
   ac_nf0
   rw [ea]
   ac_nf0
 have e8: ∀ {sd:Sd},zaq [none,some 0] sd=[none,some (zaJ ⟨m,os,ts,ns⟩)]->sd[2]? = some (some (.lst ((cI (N1 m os)).map D.int)))->zaw (iSq (zaf 2)) (zaB 0) (fun _=>pure true) zbU [none,some 0] sd=pure (.lst (((N1 m os).map fun j=>ns.getD j 0).map D.int)):=fun {sd} eb h4=>by
  rw [qaT,show (N1 m os).map (D.int∘fun j=>ns.getD j 0)=(N1 m os).filterMap fun j=>some (.int (ns.getD j 0)) by simp [Function.comp_def]]
  refine zau (g':=fun (j:Nat)=> .int (j:Int)) ?_ (by omega) fun j hj=> ?_
  ·have:zaf 2 sd=pure (.lst ((cI (N1 m os)).map D.int)):=by
    unfold zaf
    rw [h4]
   ac_nf0
   rw [this]
   ac_nf0
   rw [ze0]
  ·have hjl:=zjs hj
   have ea:=zgI (xs:=ns) (j:=j) (by omega)
   have e0:dIx (zaJ ⟨m,os,ts,ns⟩) (.int 2)=pure (.tup (ns.map D.int)):=rfl
   rw [eb]
   simp only [zbe,zbU]
   ac_nf0
   rw [e0]
   ac_nf0
   rw [ea]
   ac_nf0
 have e0:dIx (zaJ ⟨m,os,ts,ns⟩) (.int 0)=pure (zaR m os):=rfl
 refine .of_wp fun h=> ?_
 rw [d_37]
 simp only [G_37]
 ac_nf0
 rw [e0]
 ac_nf0
 rw [zj3]
 ac_nf0
 refine (zo4 s hf).wp fun h1 g1=> ?_
 ac_nf0
 rw [e1]
 ac_nf0
 rw [zmm]
 ac_nf0
 rw [e5]
 ac_nf0
 rw [show kept (So os) os.length=O1 os from rfl,e3]
 ac_nf0
 refine (zrO (zsb s) hf1).wp fun h2 g2=> ?_
 ac_nf0
 rw [e2]
 ac_nf0
 rw [show kept (Sth (R1 os)) m.toNat=T1 m os from rfl,e6]
 ac_nf0
 rw [e7 rfl rfl]
 ac_nf0
 rw [e8 rfl rfl]
 ac_nf0
 rw [e4]
 ac_nf0
 have g3:=g1.trans g2
 first | exact ⟨rfl,g3⟩ | exact ⟨g3,rfl⟩ | exact g3
noncomputable def zbE:Nat->Sy->List Sy
 | 0,_=>[]
 | f+1,x=>if same x=true then [] else x::zbE f (nxt x)
noncomputable def zbh:Nat->Sy->Sy
 | 0,x=>x
 | f+1,x=>if same x=true then x else zbh f (nxt x)
theorem zkH {x:Sy} (i:In x):0<siz x:=by
 have:=i.s.m0
 unfold siz
 omega
theorem zgY: ∀ (f:Nat) (x:Sy),(zbE f x).length<=f
 | 0,x=>qaV _
 | f+1,x=>by
  rw [zbE]
  split
  ·exact Nat.zero_le _
  ·rw [qaE]
   exact Nat.succ_le_succ (zgY f _)
theorem zgh: ∀ (f:Nat) {x:Sy},In x-> ∀ y∈zbE f x++[zbh f x],In y
 | 0,x,i,y,hy=>by
  rw [zbE,zbh] at hy
  have:y=x:=by simpa using hy
  exact this▸i
 | f+1,x,i,y,hy=>by
  rw [zbE,zbh] at hy
  split at hy
  ·have:y=x:=by simpa using hy
   exact this▸i
  ·rcases qaP.mp hy with rfl | hy
   ·exact i
   ·exact zgh f i.next y hy
theorem zjU: ∀ (f:Nat) (x:Sy),(zbE f x++[zbh f x])[0]? = some x
 | 0,x=>rfl
 | f+1,x=>by
  rw [zbE,zbh]
  split<;>rfl
theorem zfE: ∀ (f:Nat) (x:Sy) (k:Nat) (y:Sy),k<(zbE f x).length->(zbE f x)[k]? = some y->(zbE f x++[zbh f x])[k]? = some y/\(zbE f x++[zbh f x])[k+1]? = some (nxt y)
 | 0,x,k,y,hk,_=>by cases hk
 | f+1,x,k,y,hk,e=>by
  rw [zbE] at hk e
  rw [zbE,zbh]
  split at hk
  ·cases hk
  ·rename_i hs
   rw [qa5 hs] at e ⊢
   rw [qa5 hs]
   cases k with
   | zero=>
    have e:x=y:=by simpa using e
    subst e
    refine ⟨rfl,?_⟩
    rw [List.cons_append,List.getElem?_cons_succ]
    exact zjU f _
   | succ k=>
    rw [List.getElem?_cons_succ] at e
    rw [List.cons_append,List.getElem?_cons_succ,List.getElem?_cons_succ]
    exact zfE f _ k y (by simpa using hk) e
theorem zjO {x:Sy} (i:In x) {c:Nat} {done:List Sy} {s0:Option D} {h:Hh} {P:Bool->Hh->Prop} (e:h[c]? = some (.lst ((done++[x]).map zaJ))) (k:P (!same x) h):wp (zaT [s0,some (.cel c),some (zaJ (nxt x))]) h P:=by
 have en:=zpy i
 have ea:atI ((done++[x]).map zaJ) (-1)=some (zaJ x):=by
  rw [List.map_append]
  exact zgA
 simp only [zaT]
 generalize zaJ (nxt x)=d1 at en ⊢
 ac_nf0
 simp only [zmb,bind_assoc,zaA,zbR e,ea,zjj,zas]
 rw [en]
 ac_nf0
 exact k
theorem zjZ {c:Nat} {s0:Option D} (f:Nat): ∀ {x:Sy} {done:List Sy} {h:Hh} {P:Out->Hh->Prop} (N:Nat),In x->siz x<=f->f<N->done.length+f<=500->h[c]? = some (.lst ((done++[x]).map zaJ))->
  (∀ y2 h',(∀ j,j<h.length->j≠c->h'[j]? = h[j]?)->h.length<=h'.length->h'[c]? = some (.lst ((done++(zbE f x++[zbh f x])).map zaJ))->P (.nx [s0,some (.cel c),y2]) h')->
  wp (zeD zaT za7 N [s0,some (.cel c),some (zaJ (nxt x))]) h P:=by
 induction f with
 | zero=>
  intro x done h P N i hs
  have:=zkH i
  omega
 | succ f ih=>
  intro x done h P N i hs hN hd e k
  obtain ⟨N,rfl⟩: ∃ N',N=N'+1:=⟨N - 1,by omega⟩
  rw [zkS,zaA]
  refine zjO i e ?_
  rw [zbE,zbh] at k
  cases hsm:same x with
  | true=>
   rw [hsm] at k
   simp only [if_true] at k
   ac_nf0
   exact k _ h (fun _ _ _=>rfl) (qaV _) e
  | false=>
   rw [hsm] at k
   simp only [qax,if_false] at k
   have hlt:=znL hsm
   have hln:=(qac.mp e).1
   have f1:=zaQ (show (done++[x]).length+1<=1000 by simp;omega)
   have eb:=zg6 i.next
   rw [Bool.not_false,qa4 rfl]
   have ih':=fun (h'':Hh) (q0: ∀ j,j<h.length->j≠c->h''[j]? = h[j]?) (q1:h.length<=h''.length) (q:h''[c]? = some (.lst ((done++[x]++[nxt x]).map zaJ)))=>ih (x:=nxt x) (done:=done++[x]) (h:=h'') (P:=P) N i.next (by omega) (by omega) (by simp;omega) q fun y2 h' w1 w2 w3=>k y2 h' (fun j jl jc=>by rw [w1 j (by omega) jc,q0 j jl jc]) (by omega) (by rw [w3,List.append_assoc,List.cons_append,List.nil_append,List.cons_append])
   generalize zeD zaT za7 N=zbs at ih' ⊢
   simp only [za7]
   generalize zaJ (nxt (nxt x))=d2 at eb ih' ⊢
   rw [List.map_append (l₁:=done++[x])] at ih'
   simp only [qaM,List.map_nil] at ih'
   generalize zaJ (nxt x)=d1 at eb ih' ⊢
   ac_nf0
   simp only [zb9,zdU,zco,zbm,za2,pure_bind,bind_assoc,zaA,zbR e,zas]
   ac_nf0
   try simp only [zbR e,zaA,zas,zfZ,pure_bind,zdU,zco]
   try simp only [qav,List.length_singleton,qaE,qaJ] at f1
   try simp only [qaH,qav,List.length_singleton,qaE,qaJ]
   rw [f1]
   ac_nf0
   refine eb.wp fun h2 g2=> ?_
   obtain ⟨t,rfl⟩:=g2
   ac_nf0
   refine ih' _ (fun j jl jc=> ?_) (by rw [qav,qaI];omega) ?_
   ·rw [qad (by rw [qaI];exact jl),qao (Ne.symm jc)]
   ·rw [qad (by rw [qaI];exact hln),qai hln]
    try rfl
noncomputable def x0 (m:Int) (os:List (List Int×Int)):Sy:=⟨m,os,cI (List.range m.toNat),cI (List.range os.length)⟩
theorem zos {n:Nat}:(cI (List.range n)).Nodup:=(zbQ n).imp fun h=>by omega
theorem zhW {m:Int} {os:List (List Int×Int)} (s:Stk m os) (hf:Ful m os):In (x0 m os) where
 s:=s
 f:=hf
 tl:=by show (cI _).length=_;rw [zhM,List.length_range];rfl
 nl:=by show (cI _).length=_;rw [zhM,List.length_range];rfl
 td:=zos
 nd:=zos
noncomputable def stays (m:Int) (os:List (List Int×Int)):List Sy:=zbE 25 (x0 m os)++[zbh 25 (x0 m os)]
theorem ziD (s:Stk m os) (hf:Ful m os):Ev (F_36 [zaR m os]) (.lst ((stays m os).map zaJ)):=by
 have i:=zhW s hf
 have m0:=s.m0
 have m1:=s.m1
 have ol:=s.len
 have eb:=zg6 i
 have r1:=zfA (j:=m) (by omega) (by omega)
 have r2:=zfA (j:=(os.length:Int)) (by omega) (by omega)
 rw [qaB] at r2
 have hsz:siz (x0 m os)<=25:=by
  show m.toNat+os.length<=25
  omega
 have hst:zaJ (x0 m os)= .tup [zaR m os,tI (cI (List.range m.toNat)),tI (cI (List.range os.length))]:=rfl
 refine .of_wp fun h=> ?_
 rw [d_36]
 simp only [G_36]
 unfold cI at hst
 simp only [tI] at r1 r2 hst
 ac_nf0
 rw [zmm]
 ac_nf0
 rw [r1]
 ac_nf0
 rw [zj3]
 ac_nf0
 rw [r2]
 ac_nf0
 rw [<- hst]
 have e1:(h++[C.lst [zaJ (x0 m os)]])[h.length]? = some (.lst [zaJ (x0 m os)]):=by simp
 have ea:atI [zaJ (x0 m os)] (-1)=some (zaJ (x0 m os)):=rfl
 simp only [zmb,bind_assoc,zaA,zbR e1,ea,zjj,zas]
 refine eb.wp fun h1 g1=> ?_
 obtain ⟨t,rfl⟩:=g1
 ac_nf0
 refine zjZ (c:=h.length) (done:=[]) 25 1000 i hsz (by decide) (by decide) (by simp) fun y2 h2 q0 q1 q2=> ?_
 ac_nf0
 rw [List.nil_append] at q2
 have hln:h.length<h2.length:=(qac.mp q2).1
 refine znA q2 ?_
 ac_nf0
 have g:Gro h (h2.set h.length .dead):=Kp.gro ⟨by rw [qaI];omega,fun j hj=>by
   rw [qao (by omega),q0 j (by simp;omega) (by omega),qad hj]⟩
 first | exact ⟨rfl,g⟩ | exact ⟨g,rfl⟩ | exact g
theorem zfg (s:Stk m os) (hf:Ful m os):Ev (F_26 [zaR m os]) (zaJ (zbh 25 (x0 m os))):=by
 have ea:atI ((stays m os).map zaJ) (-1)=some (zaJ (zbh 25 (x0 m os))):=by
  unfold stays
  rw [List.map_append]
  exact zgA
 refine .of_wp fun h=> ?_
 rw [d_26]
 simp only [G_26]
 ac_nf0
 refine (ziD s hf).wp fun h1 g1=> ?_
 ac_nf0
 rw [ea]
 ac_nf0
 first | exact ⟨trivial,g1⟩ | exact ⟨rfl,g1⟩ | exact ⟨g1,rfl⟩ | exact g1
noncomputable def zma (x:Sy):D:= .tup [tI (zbG x.ns (nxt x).ns),tI (zbG x.ts (nxt x).ts)]
theorem zfV {xs ys:List Int} (hl:xs.length<=1000):F_40 [tI xs,tI ys]=pure (tI (zbG xs ys)):=by
 have e1:zaw (iSq (zaf 0)) (zaB 0) zdG zdy [none,some 1] [some (tI xs),some (tI ys)]=pure (.lst ((zbG xs ys).map D.int)):=by
  unfold zbG
  rw [<- zaE]
  refine zau (g':=D.int) (xs:=xs) (by ac_nf0) hl fun t _=> ?_
  have eb:zaq [none,some 1] [some (tI xs),some (tI ys)]=[none,some (tI ys)]:=rfl
  rw [eb]
  simp only [zbe,zdG,zdy,tI]
  ac_nf0
  rw [zet]
  ac_nf0
  split<;>rfl
 rw [d_40]
 simp only [G_40]
 simp only [tI] at e1 ⊢
 ac_nf0
 rw [e1]
 ac_nf0
theorem zrp {x:Sy} (i:In x):F_39 [zaJ x,zaJ (nxt x)]=pure (zma x):=by
 have h1:=i.nl
 have h2:=i.tl
 have h3:=i.s.len
 have h4:=i.s.m1
 have e1:=zfV (xs:=x.ns) (ys:=(nxt x).ns) (by omega)
 have e2:=zfV (xs:=x.ts) (ys:=(nxt x).ts) (by omega)
 have a1: ∀ y:Sy,dIx (zaJ y) (.int 1)=pure (tI y.ts):=fun _=>rfl
 have a2: ∀ y:Sy,dIx (zaJ y) (.int 2)=pure (tI y.ns):=fun _=>rfl
 rw [d_39]
 simp only [G_39]
 unfold zma
 generalize hn:nxt x=y at e1 e2 ⊢
 simp only [tI] at a1 a2 e1 e2 ⊢
 ac_nf0
 rw [a2]
 ac_nf0
 rw [a2]
 ac_nf0
 rw [e1]
 ac_nf0
 rw [a1]
 ac_nf0
 rw [a1]
 ac_nf0
 rw [e2]
 ac_nf0
noncomputable def zjH (m:Int) (os:List (List Int×Int)):List D:=(zbE 25 (x0 m os)).map zma
theorem zg1 (s:Stk m os) (hf:Ful m os):Ev (F_27 [zaR m os]) (.lst (zjH m os)):=by
 have i:=zhW s hf
 have cl:=zgY 25 (x0 m os)
 have hin:=zgh 25 i
 have hnx:=zfE 25 (x0 m os)
 have ec:zaw (zkM (zac (cK (.int 1)) (zac (zat zdz (zac (zaf 1) zan)) zan))) (zaB 0) (fun _=>pure true) zef [none,some 1] [some (zaR m os),some (.lst ((stays m os).map zaJ))]=pure (.lst (zjH m os)):=by
  unfold zjH stays
  generalize zbE 25 (x0 m os)=ch at*
  generalize zbh 25 (x0 m os)=la at*
  have ef:(List.range ch.length).filterMap (fun k=>some (zma (ch.getD k la)))=ch.map zma:=by
   rw [show (List.range ch.length).filterMap (fun k=>some (zma (ch.getD k la)))=((List.range ch.length).map fun k=>ch.getD k la).map zma by rw [qaT];simp [Function.comp_def],zdV]
  rw [<- ef]
  refine zau (g':=fun (k:Nat)=> .int (1+(k:Int))) ?_ (by simp;omega) fun k hk=> ?_
  ·have er: ∀ n:Nat,n<=500->zlo [.int 1,.int ((n+1:Nat):Int)]=pure ((List.range n).map fun (k:Nat)=> .int (1+(k:Int))):=fun n hn=>by
    show (if zbB 1=true/\zbB ((n+1:Nat):Int)=true then (pure (zdk 1 (((n+1:Nat):Int) - 1).toNat):M (List D)) else M.bad)=_
    rw [qa4 ⟨by decide,by unfold zbB;simp;omega⟩]
    rw [show (((n+1:Nat):Int) - 1).toNat=n by omega]
    rfl
   show (do let ds<-zac (cK (.int 1)) (zac (zat zdz (zac (zaf 1) zan)) zan) _;zlo ds)=_
   ac_nf0
   rw [er _ (by omega)]
  ·have hk:=List.mem_range.mp hk
   have eb:zaq [none,some 1] [some (zaR m os),some (.lst ((ch++[la]).map zaJ))]=[none,some (.lst ((ch++[la]).map zaJ))]:=rfl
   have ek:ch[k]? = some ch[k]:=qaf hk
   obtain ⟨n1,n2⟩:=hnx k ch[k] hk ek
   have hi:=hin ch[k] (List.mem_append_left _ (List.getElem_mem hk))
   have a1:atI ((ch++[la]).map zaJ) (k:Int)=some (zaJ ch[k]):=zdh (by rw [List.getElem?_map,n1];rfl)
   have a2:atI ((ch++[la]).map zaJ) (1+(k:Int))=some (zaJ (nxt ch[k])):=by
    rw [show 1+(k:Int)=((k+1:Nat):Int) by omega]
    exact zdh (by rw [List.getElem?_map,n2];rfl)
   rw [eb,show ch.getD k la=ch[k] by simp [List.getD,hk]]
   simp only [zbe,zef]
   ac_nf0
   rw [show 1+(k:Int) - 1=(k:Int) by omega,a1]
   ac_nf0
   rw [a2]
   ac_nf0
   rw [zrp hi]
   ac_nf0
 refine .of_wp fun h=> ?_
 rw [d_27]
 simp only [G_27]
 ac_nf0
 refine (ziD s hf).wp fun h1 g1=> ?_
 ac_nf0
 rw [ec]
 ac_nf0
 first | exact ⟨trivial,g1⟩ | exact ⟨g1,trivial⟩ | exact ⟨rfl,g1⟩ | exact g1
theorem zko {os':List (List Int×Int)} (h: ∀ o∈os,o∈os') (hf:(zbc m os).isEmpty=true):(zbc m os').isEmpty=true:=by
 rw [List.isEmpty_iff] at hf ⊢
 unfold zbc at hf ⊢
 rw [List.filter_eq_nil_iff] at hf ⊢
 intro t ht z
 refine hf t ht ?_
 rw [List.isEmpty_iff] at z ⊢
 rw [List.filter_eq_nil_iff] at z ⊢
 exact fun o ho=>z o (h o ho)
theorem zoc (m0:1<=m) (hf:(zbc m os).isEmpty=true):os≠[]:=fun z=>by
 subst z
 rw [List.isEmpty_iff] at hf
 unfold zbc at hf
 rw [List.filter_eq_nil_iff] at hf
 exact hf 0 (qaU.mpr ⟨0,List.mem_range.mpr (by omega),rfl⟩) rfl
theorem zpd {o:List Int×Int} {a:Int} {p:Int} {xs:List Int} (g:Go m o) (hx:xs=o.1\/(xs=o.1.take a.toNat++o.1.drop (a+1).toNat/\0<=a/\xs≠[])) (hp:0<p):Go m (xs,p):=by
 obtain ⟨g1,g2,g3,g4⟩:=g
 rcases hx with rfl | ⟨rfl,a0,hn⟩
 ·exact ⟨g1,g2,g3,hp⟩
 ·have e:(a+1).toNat=a.toNat+1:=by omega
  rw [e, <-List.eraseIdx_eq_take_drop_succ] at hn ⊢
  exact ⟨g1.sublist (List.eraseIdx_sublist _ _),fun x hx=>g2 x ((List.eraseIdx_sublist _ _).subset hx),hn,hp⟩
theorem zfP {b c:Nat} (hbc:c≠b) {s1 s2:Option D} (m0:1<=m) (m1:m<=10): ∀ (n:Nat) (os:List (List Int×Int)) {h:Hh} {x4 x5 x6 x7:Option D} {P:Out->Hh->Prop},Bx b h->h[c]? = some (.lst (os.map zbd))->os≠[]->os.length<=10->(∀ o∈os,Go m o)->10 - os.length<n->
  (∀ (os':List (List Int×Int)) y4 y5 y6 y7 h',Bx b h'->h'[c]? = some (.lst (os'.map zbd))->os'.length<=10->(∀ o∈os',Go m o)->(∀ o∈os,o∈os')->P (.nx [some (.cel b),s1,s2,some (.cel c),y4,y5,y6,y7]) h')->
  wp (zeD zaY zaZ n [some (.cel b),s1,s2,some (.cel c),x4,x5,x6,x7]) h P
 | 0,os,h,x4,x5,x6,x7,P,q,e,hne,hl,hg,hn,k=>by omega
 | n+1,os,h,x4,x5,x6,x7,P,q,e,hne,hl,hg,hn,k=>by
  have hpos:=List.length_pos_iff.mpr hne
  have ih:=fun (os':List (List Int×Int)) (h:Hh) (x4 x5 x6 x7:Option D)=>zfP hbc (s1:=s1) (s2:=s2) m0 m1 n os' (h:=h) (x4:=x4) (x5:=x5) (x6:=x6) (x7:=x7) (P:=P)
  rw [zkS]
  generalize zeD zaY zaZ n=go at ih ⊢
  simp only [zaY]
  ac_nf0
  simp only [znD]
  ac_nf0
  simp only [zbR e,zas,qaH]
  simp only [zq6]
  ac_nf0
  by_cases h1:(os.length:Int)<10
  ·simp only [h1,decide_true]
   ac_nf0
   refine zbz q (by decide) (by decide) fun t h2 t0 t1 x2=> ?_
   rw [zoS]
   ac_nf0
   have e2:=x2.2 c _ hbc e
   cases ht:(t==1)
   ·ac_nf0
    exact k os _ _ _ _ h2 x2.1 e2 hl hg fun o ho=>ho
   ·ac_nf0
    simp only [zaZ]
    ac_nf0
    simp only [znD]
    ac_nf0
    simp only [zbR e2,zas,qaH]
    refine zbz x2.1 (by omega) (by omega) fun u h3 u0 u1 x3=> ?_
    have e3:=x3.2 c _ hbc e2
    simp only [zmb]
    ac_nf0
    simp only [zbR e3]
    have hm:os.getD u.toNat ([],0)∈os:=by
     have:u.toNat<os.length:=by omega
     simp [List.getD,this]
    rw [zdL u0 u1]
    generalize os.getD u.toNat ([],0)=o at hm
    have g:=hg o hm
    have gl:=zfM (by omega) g.1 g.2.1
    have gp:=List.length_pos_iff.mpr g.2.2.1
    ac_nf0
    refine zbz x3.1 (by omega) (by omega) fun a h4 a0 a1 x4'=> ?_
    have e4:=x4'.2 c _ hbc e3
    have f:=zaQ (show (List.take a.toNat (o.1.map D.int)).length+(List.drop (a+1).toNat (o.1.map D.int)).length<=1000 by simp;omega)
    ac_nf0
    simp only [zgj _ a0,zgi _ (show 0<=a+1 by omega),f]
    ac_nf0
    have ed: ∀ xs:List Int,dEq (.tup (xs.map D.int)) (.tup [])=pure (.bl (xs==[])):=fun xs=>zrx xs []
    have em:List.take a.toNat (o.1.map D.int)++List.drop (a+1).toNat (o.1.map D.int)=(o.1.take a.toNat++o.1.drop (a+1).toNat).map D.int:=by rw [List.map_append,List.map_take,List.map_drop]
    rw [em]
    generalize hxs:o.1.take a.toNat++o.1.drop (a+1).toNat=xs
    rw [ed]
    ac_nf0
    have fin: ∀ (zs:List Int) (h5:Hh) (y6:Option D),(zs=o.1\/(zs=o.1.take a.toNat++o.1.drop (a+1).toNat/\0<=a/\zs≠[]))->Ext b h4 h5->wp ((zb9 (zaf 3) (zeH (zac (zaf 7) (zac (zat zkF (zac (cK (.int 1)) (zac (cOp zdJ (cOp zo6 (zaf 5) (cK (.int 1))) (zat (zal 2 F_45) (zac (zaf 0) (zac (cK (.int 3)) zan)))) zan))) zan)))) [some (.cel b),s1,s2,some (.cel c),some (.tup (o.1.map D.int)),some (.int o.2),y6,some (.tup (zs.map D.int))]) h5
      fun _ h6=>wp (go [some (.cel b),s1,s2,some (.cel c),some (.tup (o.1.map D.int)),some (.int o.2),y6,some (.tup (zs.map D.int))]) h6 P:=fun zs h5 y6 hz x5'=>by
     have e5:=x5'.2 c _ hbc e4
     simp only [zb9]
     ac_nf0
     simp only [zbR e5,zas]
     refine zbz x5'.1 (by decide) (by decide) fun v h6 v0 v1 x6'=> ?_
     have e6:=x6'.2 c _ hbc e5
     have hlt:=(qac.mp e6).1
     have f2:=zaQ (show os.length+1<=1000 by omega)
     ac_nf0
     simp only [zco,zaA,zbR e6,qaH,f2,zas,zfZ]
     generalize hp:(if o.2 - 1+v>1 then o.2 - 1+v else (1:Int))=p
     have p0:0<p:=by
      rw [<- hp]
      split<;>omega
     have:=ih (os++[(zs,p)]) (h6.set c (.lst ((os++[(zs,p)]).map zbd))) (some (.tup (o.1.map D.int))) (some (.int o.2)) y6 (some (.tup (zs.map D.int))) ?_ (qai hlt) (by simp) (by simp;omega) ?_ (by simp;omega) ?_
     ·simp only [List.map_append,qaM,List.map_nil,zbd,tI] at this
      exact this
     ·obtain ⟨y,ey⟩:=x6'.1
      exact ⟨y,by rw [qao hbc];exact ey⟩
     ·intro o' ho'
      rcases qaK.mp ho' with w | w
      ·exact hg o' w
      ·rw [List.mem_singleton] at w
       rw [w]
       exact zpd g hz p0
     ·intro os' y4 y5 y6' y7 h' q' e' l' g' hsub
      exact k os' y4 y5 y6' y7 h' q' e' l' g' fun o' ho'=>hsub o' (List.mem_append_left _ ho')
    cases hx:(xs==[])
    ·ac_nf0
     have hxn:xs≠[]:=by
      intro z
      rw [z] at hx
      cases hx
     refine zbz x4'.1 (by decide) (by decide) fun v h5 v0 v1 x5'=> ?_
     rw [zoS]
     ac_nf0
     cases (v==1)
     ·ac_nf0
      exact zd9 (fin xs h5 _ (.inr ⟨hxs.symm,a0,hxn⟩) x5') fun _ _ z=>z
     ·ac_nf0
      exact zd9 (fin o.1 h5 _ (.inl rfl) x5') fun _ _ z=>z
    ·ac_nf0
     exact zd9 (fin o.1 h4 _ (.inl rfl) (Ext.refl x4'.1)) fun _ _ z=>z
  ·simp only [h1,decide_false]
   ac_nf0
   exact k os _ _ _ _ h q e hl hg fun o ho=>ho
theorem zm2 {h:Hh} {b:Nat} {P:D->Hh->Prop} (q:Bx b h) (k: ∀ (m:Int) (os:List (List Int×Int)) h',Bx b h'->Stk m os->(zbc m os).isEmpty=true->os.length<=10->P (zaR m os) h'):wp (F_48 [.cel b]) h P:=by
 rw [d_48]
 simp only [G_48]
 ac_nf0
 refine zkO q (by decide) (by decide) (by decide) (by decide) fun m os h2 q2 s hf hl hm=> ?_
 have en:zkR [.tup (os.map zbd)]=zdD (os.map zbd):=rfl
 simp only [zaR]
 ac_nf0
 rw [en]
 ac_nf0
 have x3:=q2.push (c:= .lst (os.map zbd))
 have hbc:h2.length≠b:=fun z=>by
  obtain ⟨y,ey⟩:=q2
  have:=(qac.mp ey).1
  omega
 simp only [zjc]
 refine zfP hbc s.m0 s.m1 1000 os x3.1 (by simp) (zoc s.m0 hf) (by omega) (fun o ho=>⟨s.up o ho,s.bd o ho,s.ne o ho,s.pos o ho⟩) (by omega) fun os' y4 y5 y6 y7 h4 q4 e4 l4 g4 hsub=> ?_
 ac_nf0
 simp only [znR,bind_assoc,zaA,zbR e4,zas]
 ac_nf0
 exact k m os' h4 q4 (zl3 s.m0 s.m1 (by omega) g4) (zko hsub hf) l4
theorem zeM {d:D} (k:kn d=true):F_3 [d]=pure (.bl (isI d)):=by
 rw [d_3]
 simp only [G_3,zcd,zn1,zpP,za2,pure_bind,bind_assoc,zn8 k,zq0 k,zd6,znY]
 cases d<;>simp [isI]
theorem zgU {m:Int} {x0:Option D}: ∀ {ds:List D} {l:Int} {x3:Option D},(∀ d∈ds,kn d=true)->
  (zcC m l ds=true-> ∃ sd',za9 (fun x sd=>do let sd1<-zaB 3 x sd;zbi sd1) ds [x0,some (.int m),some (.int l),x3]=pure (.nx sd'))/\
  (zcC m l ds=false->za9 (fun x sd=>do let sd1<-zaB 3 x sd;zbi sd1) ds [x0,some (.int m),some (.int l),x3]=pure (.rt (.bl false)))
 | [],l,x3,_=>⟨fun _=>⟨_,rfl⟩,fun h=>by simp [zcC] at h⟩
 | d::r,l,x3,hk=>by
  have kd:=hk d qau
  have step: ∀ {i:Int},d= .int i->(do let sd1<-zaB 3 d [x0,some (.int m),some (.int l),x3];zbi sd1)=if (decide (l<=i) && decide (i<m))=true then pure (.nx [x0,some (.int m),some (.int (i+1)),some (.int i)]) else pure (.rt (.bl false)):=by
   intro i e
   subst e
   simp only [zbi,zdX,List.set,pure_bind,bind_assoc,zbp,zh1,zpn,zis,ziS,zbZ,za5,zbw,zbm,za2,zhS,zeM (show kn (.int i)=true from rfl),zd6,isI,zfY,zq6,zt6,zcd,zhx,zeV]
   by_cases h1:l<=i
   ·by_cases h2:i<m
    ·have h1': ¬i<l:=by omega
     have h2': ¬m<=i:=by omega
     simp [h1,h2,h1',h2']
    ·have h1': ¬i<l:=by omega
     have h2':m<=i:=by omega
     simp [h1,h2,h1',h2']
   ·have h1':i<l:=by omega
    simp [h1,h1']
  by_cases hi:isI d=true
  ·obtain ⟨i,e⟩: ∃ i,d= .int i:=by cases d<;>simp [isI] at hi;exact ⟨_,rfl⟩
   have s1:=step e
   subst e
   have ih:=zgU (m:=m) (x0:=x0) (ds:=r) (l:=i+1) (x3:=some (.int i)) fun y hy=>hk y (qan _ hy)
   rw [zb8,s1]
   by_cases c:(decide (l<=i) && decide (i<m))=true
   ·have er:zcC m l (.int i::r)=zcC m (i+1) r:=by rw [zcC,c];simp
    rw [er]
    simp only [c,if_true,pure_bind]
    exact ih
   ·have er:zcC m l (.int i::r)=false:=by rw [zcC,Bool.eq_false_iff.mpr c];simp
    rw [er]
    simp only [Bool.eq_false_iff.mpr c,if_false,pure_bind,qax]
    simp
  ·have hi':isI d=false:=Bool.eq_false_iff.mpr hi
   have er:zcC m l (d::r)=false:=by cases d<;>simp [isI] at hi'<;>rfl
   rw [er,zb8]
   refine ⟨fun h=>(by cases h),fun _=> ?_⟩
   simp only [zbi,zdX,List.set,pure_bind,bind_assoc,zbp,zh1,zpn,zis,ziS,zbZ,za5,zbw,zbm,za2,zhS,zeM kd,zd6,hi',zcd,zhx,zeV]
   simp
theorem zgP {d:D} {m:Int} (k:kn d=true) (hk: ∀ ds,d= .tup ds-> ∀ x∈ds,kn x=true):F_5 [d,.int m]=pure (.bl (match d with | .tup ds=>zcC m 0 ds | _=>false)):=by
 rw [d_5]
 simp only [G_5,zbp,zh1,zis,ziS,zpP,za2,pure_bind,bind_assoc,ziC k,zd6]
 cases d with
 | tup ds=>
  simp only [isT,Bool.not_true,qax,if_false,zeV,pure_bind,ziG,zbp,zcY,zhx,List.set,ziR,zsh,za2,zrW,bind_assoc]
  have:=zgU (m:=m) (x0:=some (.tup ds)) (ds:=ds) (l:=0) (x3:=none) (hk ds rfl)
  cases c:zcC m 0 ds with
  | true=>
   obtain ⟨sd',e⟩:=this.1 c
   rw [e]
   simp
  | false=>
   rw [this.2 c]
   simp
 | _=>simp [isT]
theorem zn2 (s:Stk m os) {d:D} (g:gk d):F_8 [zaR m os,d]=pure (.bl (zss os.length d)):=by
 rw [d_8]
 simp only [G_8,zaR]
 ac_nf0
 rw [zgP g.1 fun ds e=>(g.2 ds e).2]
 ac_nf0
 cases d<;>rfl
theorem zlX (s:Stk m os) {d:D} (g:gk d) (hp:zss os.length d=true):F_12 [zaR m os,d]=pure .non:=by
 rw [d_12]
 simp only [G_12]
 ac_nf0
 rw [zn2 s g,hp]
 ac_nf0
def Lt (os:List (List Int×Int)) (ls:List Int):Prop:=ls.Pairwise (· < ·)/\ ∀ x∈ls,0<=x/\x<os.length
theorem Lt.lot {ls:List Int} (h:Lt os ls):zss os.length (tI ls)=true:=zcE.mpr h
theorem Lt.len {ls:List Int} (h:Lt os ls) (s:Stk m os):ls.length<=12:=by
 have:=zfM (m:=os.length) (by omega) h.1 h.2
 have:=s.len
 omega
theorem zhD (s:Stk m os) {ls:List Int} (hu:ls.Pairwise (· < ·)) (b: ∀ x∈ls,0<=x/\x<os.length):F_13 [zaR m os,tI ls]=pure (.lst ((zdB os ls).map zbd)):=by
 have hl:=zfM (m:=os.length) (by omega) hu b
 have hls:ls.length<=12:=by have:=s.len;omega
 have hp:zss os.length (tI ls)=true:=zcE.mpr ⟨hu,b⟩
 rw [d_13]
 simp only [G_13]
 ac_nf0
 have e:=zlX s (d:=tI ls) (zop (by omega)) hp
 unfold tI at e
 rw [e]
 ac_nf0
 rw [zk9 (ds:=ls.map D.int) (k:=fun d=>match d with | .int i=>zbd (os.getD i.toNat ([],0)) | d=>d) rfl (by rw [qaH];omega) ?_]
 ·ac_nf0
  unfold zdB
  rw [qaT,qaT]
  rfl
 ·intro x hx
  obtain ⟨i,hi,rfl⟩:=qaU.mp hx
  have eb:zaq [none,some 0] [some (zaR m os),some (D.tup (ls.map D.int))]=[none,some (zaR m os)]:=rfl
  rw [eb]
  simp only [zbe,zdZ,zaR]
  ac_nf0
  rw [zdL (b i hi).1 (b i hi).2]
  ac_nf0
theorem zhK {s0:Option D} {d:D} {p:Nat->Bool}: ∀ (r j:Nat) (x3:Option D),(∀ t:Nat,t<j+r->dIn (.int (t:Int)) d=pure (.bl (p t)))->
  ∃ y3,za9 (fun x sd=>do let sd1<-zaB 3 x sd;zcK sd1) (zdk j r) [s0,some d,some (.int (bv p j)),x3]=pure (.nx [s0,some d,some (.int (bv p (j+r))),y3])
 | 0,j,x3,_=>⟨x3,rfl⟩
 | r+1,j,x3,hd=>by
  obtain ⟨y3,ih⟩:=zhK (s0:=s0) (d:=d) (p:=p) r (j+1) (some (.int j)) fun t ht=>hd t (by omega)
  refine ⟨y3,?_⟩
  have e1:((j+1:Nat):Int)=(j:Int)+1:=by omega
  have e2:j+1+r=j+(r+1):=by omega
  rw [e1,e2] at ih
  rw [zmS,zb8, <-ih]
  generalize za9 (fun x sd=>do let sd1<-zaB 3 x sd;zcK sd1) (zdk ((j:Int)+1) r)=zbs
  simp only [zcK]
  ac_nf0
  rw [zqH (by decide) (by decide)]
  ac_nf0
  rw [hd j (by omega)]
  ac_nf0
  have eb:bv p (j+1)=bv p j*2+(if p j=true then 1 else 0):=rfl
  rw [eb]
  cases p j
  ·ac_nf0
   simp
  ·ac_nf0
   simp
theorem zk6 {d:D} {p:Nat->Bool} (m0:0<=m) (m1:m<1000) (hd: ∀ t:Nat,t<m.toNat->dIn (.int (t:Int)) d=pure (.bl (p t))):F_23 [.int m,d]=pure (.int (bv p m.toNat)):=by
 obtain ⟨y3,el⟩:=zhK (s0:=some (.int m)) (d:=d) (p:=p) m.toNat 0 none fun t ht=>hd t (by omega)
 rw [Nat.zero_add] at el
 have e0:((bv p 0:Nat):Int)=0:=rfl
 rw [e0] at el
 rw [d_23]
 simp only [G_23]
 ac_nf0
 rw [zb7 m0 m1]
 simp only [zdX,pure_bind,Int.natCast_zero] at el
 ac_nf0
 rw [el]
 ac_nf0
theorem znp (m0:0<=m) (m1:m<1000):F_23 [.int m,.lst (zdk 0 m.toNat)]=pure (.int (bv (fun _=>true) m.toNat)):=by
 refine zk6 m0 m1 fun t ht=> ?_
 rw [zbN,zlS]
 congr 2
 rw [List.any_eq_true]
 exact ⟨(t:Int),qaU.mpr ⟨t,List.mem_range.mpr ht,rfl⟩,by simp⟩
theorem zjB (s:Stk m os) (n9:os.length<=10) {r:Nat} (hr:r<os.length) {x3 x4 x5:Option D}: ∃ y3 y4 y5,zbq [some (zaR m os),some (.lst ((kl os.length r).map (trD m os))),some (.int (((os.length - (r+1):Nat)):Int)),x3,x4,x5]=pure (.nx [some (zaR m os),some (.lst ((kl os.length (r+1)).map (trD m os))),some (.int (((os.length - (r+1):Nat)):Int)),y3,y4,y5]):=by
 have m0:=s.m0
 have m1:=s.m1
 have hk:=zil os.length r
 have hk9:2^r<=2^9:=Nat.pow_le_pow_right (by decide) (by omega)
 have hj:os.length - (r+1)<os.length:=by omega
 generalize hje:os.length - (r+1)=j at hj
 have ea:=zdL (os:=os) (i:=(j:Int)) (by omega) (by omega)
 rw [qaB] at ea
 have mo:os.getD j ([],0)∈os:=by simp [List.getD,hj]
 generalize ho:os.getD j ([],0)=o at ea mo
 have lo:=s.olen o mo
 have eb:=zk6 (m:=m) (d:= .tup (o.1.map D.int)) (p:=fun t=>o.1.any (· == (t:Int))) (by omega) (by omega) fun t _=>zd0 _ _
 have ec:zaw (iSq (zaf 1)) (zaB 0) (fun _=>pure true) zcs [none,some 3,some 2,some 4] [some (zaR m os),some (.lst ((kl os.length r).map (trD m os))),some (.int (j:Int)),some (.tup [.tup (o.1.map D.int),.int o.2]),some (.int (bv (fun t=>o.1.any (· == (t:Int))) m.toNat)),x5]=pure (.lst (((kl os.length r).map fun ls=>(j:Int)::ls).map (trD m os))):=by
  rw [show ((kl os.length r).map fun ls=>(j:Int)::ls).map (trD m os)=(kl os.length r).filterMap fun ls=>some (trD m os ((j:Int)::ls)) by simp]
  refine zau (g':=trD m os) rfl (by omega) fun ls hls=> ?_
  obtain ⟨h1,h2⟩:=(zg8 os.length r ls (by omega)).mp hls
  have ll:=zfM (m:=os.length) (by omega) h1 fun x hx=>by have:=h2 x hx;omega
  have f:=zaQ (show 1+ls.length<=1000 by omega)
  have ebs:zaq [none,some 3,some 2,some 4] [some (zaR m os),some (.lst ((kl os.length r).map (trD m os))),some (.int (j:Int)),some (.tup [.tup (o.1.map D.int),.int o.2]),some (.int (bv (fun t=>o.1.any (· == (t:Int))) m.toNat)),x5]=[none,some (.tup [.tup (o.1.map D.int),.int o.2]),some (.int (j:Int)),some (.int (bv (fun t=>o.1.any (· == (t:Int))) m.toNat))]:=rfl
  have e2: ∀ a b c:D,atI [a,b,c] 2=some c:=fun a b c=>rfl
  have eo:dOr (.int (bv (fun t=>o.1.any (· == (t:Int))) m.toNat)) (.int (bv (znP os ls) m.toNat))=pure (.int (bv (znP os ((j:Int)::ls)) m.toNat)):=by
   show (pure (D.int (Builtin.bitOr _ _)):M D)=_
   rw [zqk,zrA]
   congr 3
   refine ziX fun i _=> ?_
   unfold znP
   rw [List.any_cons,qaB,ho]
  have ep:pr os ((j:Int)::ls)=o.2+pr os ls:=by
   unfold pr
   rw [qaM,List.sum_cons,qaB,ho]
  rw [ebs]
  simp only [zbe,zcs,trD]
  ac_nf0
  simp only [e2,f]
  ac_nf0
  rw [eo,ep]
  ac_nf0
  rfl
 refine ⟨some (.tup [.tup (o.1.map D.int),.int o.2]),some (.int (bv (fun t=>o.1.any (· == (t:Int))) m.toNat)),some (.lst (((kl os.length r).map fun ls=>(j:Int)::ls).map (trD m os))),?_⟩
 have fk:(kl os.length (r+1)).length<=2000:=by
  rw [zil]
  have:2^(r+1)<=2^10:=Nat.pow_le_pow_right (by decide) (by omega)
  omega
 have ek:kl os.length (r+1)=(kl os.length r).take 1++(kl os.length r).map (fun ls=>(j:Int)::ls)++(kl os.length r).drop 1:=by
  rw [<- hje]
  rfl
 have f1:=zaQ (show (((kl os.length r).map (trD m os)).take 1).length+((kl os.length r).map fun ls=>(j:Int)::ls).length<=1000 by simp only [List.length_take,qaH,hk];omega)
 have f2:=zi2 (show (((kl os.length r).map (trD m os)).take 1++((kl os.length r).map fun ls=>(j:Int)::ls).map (trD m os)).length+(((kl os.length r).map (trD m os)).drop 1).length<=16000000 by simp only [qav,List.length_take,List.length_drop,qaH,hk];omega)
 have es: ∀ (ds:List D) (lo hi:Option Int),dSl (.lst ds) lo hi=pure (.lst (zj2 ds lo hi)):=fun _ _ _=>rfl
 simp only [zbq]
 ac_nf0
 rw [zj3]
 ac_nf0
 rw [ea]
 ac_nf0
 rw [zmm]
 ac_nf0
 rw [eb]
 ac_nf0
 rw [ec]
 ac_nf0
 simp only [es,zgj _ (show (0:Int)<=1 by decide),zgi _ (show (0:Int)<=1 by decide)]
 ac_nf0
 rw [show (1:Int).toNat=1 from rfl]
 simp only [znw,qaH,qav] at f1 f2 ⊢
 rw [f1]
 ac_nf0
 rw [f2]
 ac_nf0
 rw [ek,List.map_append,List.map_append,List.map_take,List.map_drop]
theorem zfH (s:Stk m os) (n9:os.length<=10): ∀ (k r:Nat) (x2 x3 x4 x5:Option D),k+r=os.length->
  ∃ y2 y3 y4 y5,za9 (fun x sd=>do let sd1<-zaB 2 x sd;zbq sd1) (zjh ((k:Int) - 1) k) [some (zaR m os),some (.lst ((kl os.length r).map (trD m os))),x2,x3,x4,x5]=pure (.nx [some (zaR m os),some (.lst ((kl os.length os.length).map (trD m os))),y2,y3,y4,y5])
 | 0,r,x2,x3,x4,x5,h=>⟨x2,x3,x4,x5,by
   have:r=os.length:=by omega
   subst this
   rfl⟩
 | k+1,r,x2,x3,x4,x5,h=>by
  obtain ⟨z3,z4,z5,eb⟩:=zjB s n9 (r:=r) (by omega) (x3:=x3) (x4:=x4) (x5:=x5)
  obtain ⟨y2,y3,y4,y5,ih⟩:=zfH s n9 k (r+1) (some (.int (k:Int))) z3 z4 z5 (by omega)
  refine ⟨y2,y3,y4,y5,?_⟩
  have e1:((k+1:Nat):Int) - 1=(k:Int):=by omega
  have e2:os.length - (r+1)=k:=by omega
  rw [e2] at eb
  rw [e1,zmZ,zb8, <-ih]
  show (do let o<-zbq [some (zaR m os),some (.lst ((kl os.length r).map (trD m os))),some (.int (k:Int)),x3,x4,x5];_:M Out)=_
  rw [eb]
  rfl
theorem zmI (s:Stk m os) (n9:os.length<=10):F_22 [zaR m os]=pure (.lst ((kl os.length os.length).map (trD m os))):=by
 obtain ⟨y2,y3,y4,y5,el⟩:=zfH s n9 os.length 0 none none none none (by omega)
 have e0:(kl os.length 0).map (trD m os)=[.tup [.int 0,.tup [],.int 0]]:=by
  show [trD m os []]=_
  unfold trD
  rw [zlR (p:=znP os []) (fun _=>rfl)]
  rfl
 rw [e0] at el
 have er:zng [.int ((os.length:Int) - 1),.int (-1),.int (-1)]=pure (zjh ((os.length:Int) - 1) os.length):=by
  show (if (-1000<=(os.length:Int) - 1/\(os.length:Int) - 1<1000/\(-1000:Int)<= -1/\(-1:Int)<1000)/\(-1:Int)= -1 then (pure (zjh ((os.length:Int) - 1) ((os.length:Int) - 1 - -1).toNat):M (List D)) else M.bad)=_
  rw [qa4 ⟨⟨by omega,by omega,by omega,by omega⟩,rfl⟩]
  congr 2
  omega
 have ei: ∀ (fs:FA) (sd:Sd),zow fs sd=(do let ds<-fs sd;zng ds):=fun _ _=>rfl
 simp only [zdX,pure_bind] at el
 rw [d_22]
 simp only [G_22]
 ac_nf0
 simp only [ei]
 ac_nf0
 rw [zj3]
 ac_nf0
 rw [er]
 ac_nf0
 rw [el]
 ac_nf0
noncomputable def zkd (m:Int) (os:List (List Int×Int)):List (Int×List Int):=((kl os.length os.length).filter (cvB m os)).map fun ls=>(pr os ls,ls)
noncomputable def zds (m:Int) (os:List (List Int×Int)):Int×List Int:=(zkd m os).getD (zec (zkd m os)) (0,[])
theorem zlO (s:Stk m os) (n9:os.length<=10):F_21 [zaR m os]=pure (.lst ((zkd m os).map pD)):=by
 have m0:=s.m0
 have m1:=s.m1
 have hk:=zil os.length os.length
 have hk9:2^os.length<=2^10:=Nat.pow_le_pow_right (by decide) n9
 have ec:zaw (iSq (zat (zal 1 F_22) (zac (zaf 0) zan))) (zaB 0) zbJ zbI [none,some 1] [some (zaR m os),some (.int (bv (fun _=>true) m.toNat))]=pure (.lst ((zkd m os).map pD)):=by
  unfold zkd
  rw [qaT, <-zaE]
  refine zjw (g':=trD m os) ?_ (by omega) fun ls hls=> ?_
  ·ac_nf0
   rw [zmI s n9]
   ac_nf0
  ·have eb:zaq [none,some 1] [some (zaR m os),some (.int (bv (fun _=>true) m.toNat))]=[none,some (.int (bv (fun _=>true) m.toNat))]:=rfl
   have e2: ∀ a b c:D,atI [a,b,c] 2=some c:=fun a b c=>rfl
   rw [eb]
   simp only [zbe,zbJ,zbI,trD]
   ac_nf0
   simp only [e2]
   ac_nf0
   rw [zoS,znl]
   ac_nf0
   unfold cvB
   split<;>rfl
 have el:zcM (.int m)=pure (.lst (zdk 0 m.toNat)):=by
  show (if 0<=m/\m<1000 then _ else _)=_
  rw [qa4 ⟨by omega,by omega⟩]
 rw [d_21]
 simp only [G_21]
 ac_nf0
 rw [zmm]
 ac_nf0
 rw [el]
 ac_nf0
 rw [znp (by omega) (by omega)]
 ac_nf0
 rw [ec]
 ac_nf0
theorem znb (hf:(zbc m os).isEmpty=true) {t:Int} (t0:0<=t) (t1:t<m): ∃ o∈os,t∈o.1:=by
 rw [List.isEmpty_iff] at hf
 unfold zbc at hf
 rw [List.filter_eq_nil_iff] at hf
 have h1:=hf t (qaU.mpr ⟨t.toNat,List.mem_range.mpr (by omega),by omega⟩)
 rw [List.isEmpty_iff] at h1
 obtain ⟨o,ho⟩:=List.exists_mem_of_ne_nil _ h1
 obtain ⟨h2,h3⟩:=List.mem_filter.mp ho
 exact ⟨o,h2,by simpa [zg7] using h3⟩
theorem zh3 (s:Stk m os) (hf:(zbc m os).isEmpty=true):zkd m os≠[]:=fun z=>by
 have h1:(List.range os.length).map (fun (k:Nat)=>(k:Int))∈(kl os.length os.length).filter (cvB m os):=by
  refine List.mem_filter.mpr ⟨(zg8 _ _ _ (qaV _)).mpr ⟨zbQ _,fun y hy=>by have:=zc6 y hy;omega⟩,zem.mpr fun t t0 t1=> ?_⟩
  obtain ⟨o,ho,hx⟩:=znb hf t0 t1
  obtain ⟨j,hj,rfl⟩:=List.getElem_of_mem ho
  refine ⟨(j:Int),qaU.mpr ⟨j,List.mem_range.mpr hj,rfl⟩,?_⟩
  rw [qaB]
  simpa [List.getD,hj] using hx
 have h2:(pr os ((List.range os.length).map fun (k:Nat)=>(k:Int)),(List.range os.length).map fun (k:Nat)=>(k:Int))∈zkd m os:=qaU.mpr ⟨_,h1,rfl⟩
 rw [z] at h2
 cases h2
theorem ze1 (s:Stk m os) (hf:(zbc m os).isEmpty=true) (n9:os.length<=10):Ev (F_41 [zaR m os]) (tI (zds m os).2):=by
 refine .of_wp fun h=> ?_
 rw [d_41]
 simp only [G_41]
 ac_nf0
 refine (zhZ s hf).wp fun h' g=> ?_
 have ep:dIx (pD (zds m os)) (.int 1)=pure (tI (zds m os).2):=rfl
 ac_nf0
 rw [zlO s n9]
 ac_nf0
 rw [zkP (zh3 s hf),show (zkd m os).getD (zec (zkd m os)) (0,[])=zds m os from rfl]
 ac_nf0
 rw [ep]
 ac_nf0
 exact ⟨g,trivial⟩
theorem zf9 (s:Stk m os) {ls:List Int} (L:Lt os ls):F_10 [zaR m os,tI ls]=pure (.int (pr os ls)):=by
 have ll:=L.len s
 have e2:=zhD s L.1 L.2
 have h3:(zdB os ls).length=ls.length:=by unfold zdB;simp
 have ec:zaw (iSq (zat (zal 2 F_13) (zac (zaf 0) (zac (zaf 1) zan)))) (zaB 0) (fun _=>pure true) zdg [none] [some (zaR m os),some (tI ls)]=pure (.lst (((zdB os ls).map (·.2)).map D.int)):=by
  rw [show ((zdB os ls).map (·.2)).map D.int=(zdB os ls).filterMap fun o=>some (.int o.2) by simp]
  refine zau (g':=zbd) ?_ (by omega) fun o _=> ?_
  ·simp only [tI] at e2
   ac_nf0
   rw [e2]
   ac_nf0
  ·have eb:zaq [none] [some (zaR m os),some (tI ls)]=[none]:=rfl
   rw [eb]
   simp only [zbe,zdg]
   ac_nf0
 rw [d_10]
 simp only [G_10,zcd,zbZ,za5,zbw]
 rw [ec]
 simp only [pure_bind]
 rw [zoM]
 unfold pr zdB
 rw [qaT]
 rfl
theorem zpA (s:Stk m os) {ls:List Int} (L:Lt os ls):(((zgN ((zdB os ls).flatMap (·.1))).length:Int)==m)=cvB m os ls:=by
 have m0:=s.m0
 rw [<- zky (by omega) (zfk _) fun x hx=>by
   obtain ⟨o,ho,hx⟩:=List.mem_flatMap.mp (zcI.mp hx)
   exact s.bd o (zeY L.2 o ho) x hx]
 rw [Bool.eq_iff_iff,beq_iff_eq,zem]
 constructor
 ·intro e t t0 t1
  have h1:t∈zgN ((zdB os ls).flatMap (·.1)):=by
   rw [e]
   exact qaU.mpr ⟨t.toNat,List.mem_range.mpr (by omega),by omega⟩
  obtain ⟨o,ho,hx⟩:=List.mem_flatMap.mp (zcI.mp h1)
  obtain ⟨i,hi,rfl⟩:=qaU.mp ho
  exact ⟨i,hi,hx⟩
 ·intro h
  refine zlM (zfk _) (zbQ _) fun k=> ?_
  rw [zcI]
  constructor
  ·intro hk
   obtain ⟨o,ho,hx⟩:=List.mem_flatMap.mp hk
   have:=s.bd o (zeY L.2 o ho) k hx
   exact qaU.mpr ⟨k.toNat,List.mem_range.mpr (by omega),by omega⟩
  ·intro hk
   have:=zc6 k hk
   obtain ⟨i,hi,hx⟩:=h k this.1 (by omega)
   exact List.mem_flatMap.mpr ⟨_,qaU.mpr ⟨i,hi,rfl⟩,hx⟩
theorem ziO (s:Stk m os) {ls:List Int} (L:Lt os ls):Ev (F_19 [zaR m os,tI ls]) (.bl (cvB m os ls)):=by
 have e1:=zn2 s (d:=tI ls) (zop (by have:=L.len s;omega))
 rw [L.lot] at e1
 have e2:=zhD s L.1 L.2
 have ll:=L.len s
 have h3:(zdB os ls).length=ls.length:=by unfold zdB;simp
 refine .of_wp fun h=> ?_
 rw [d_19]
 simp only [G_19]
 simp only [tI] at e1 e2
 ac_nf0
 rw [e1]
 ac_nf0
 rw [e2]
 ac_nf0
 refine (znu s (d:= .lst ((zdB os ls).map zbd)) (os':=zdB os ls) rfl (by omega) (zeY L.2)).wp fun h' g=> ?_
 rw [zpA s L]
 ac_nf0
 exact ⟨trivial,g⟩
theorem znf {o:List Int×Int} (g:Go m o) (hl:o.1.length<=60):F_7 [zbd o,.int m]=pure (.bl true):=by
 obtain ⟨g1,g2,g3,g4⟩:=g
 have er:F_5 [tI o.1,.int m]=pure (.bl true):=by
  rw [zgP rfl fun ds e=>by
    cases e
    intro x hx
    obtain ⟨i,_,rfl⟩:=qaU.mp hx
    rfl]
  have:=zcE.mpr ⟨g1,g2⟩
  show (pure (D.bl (zcC m 0 (o.1.map D.int))):M D)=_
  rw [this]
 have gp:(0:Int)<(o.1.length:Int):=by
  have:=List.length_pos_iff.mpr g3
  omega
 have ep:F_4 [.tup [.tup (o.1.map D.int),.int o.2]]=pure (.bl true):=by
  rw [d_4]
  simp only [G_4]
  ac_nf0
  rw [ziC rfl]
  ac_nf0
  simp only [isT]
  ac_nf0
  rw [zoS]
  rfl
 have ew:=zeM (d:= .int o.2) rfl
 simp only [isI] at ew
 simp only [tI] at er
 rw [d_7]
 simp only [G_7]
 ac_nf0
 rw [ep]
 ac_nf0
 rw [er]
 ac_nf0
 simp only [gp,decide_true]
 ac_nf0
 rw [ew]
 ac_nf0
 simp only [g4,decide_true]
theorem zmt (s:Stk m os):F_6 [zaR m os]=pure (.bl true):=by
 have m0:=s.m0
 have m1:=s.m1
 have ol:=s.len
 have ec:zaw (iSq (zaf 2)) (zaB 0) (fun _=>pure true) zdi [none,some 1] [some (zaR m os),some (.int m),some (.tup (os.map zbd))]=pure (.lst ((os.map fun _=>true).map D.bl)):=by
  rw [show (os.map fun _=>true).map D.bl=os.filterMap fun _=>some (.bl true) by simp]
  refine zau (g':=zbd) rfl (by omega) fun o ho=> ?_
  have eb:zaq [none,some 1] [some (zaR m os),some (.int m),some (.tup (os.map zbd))]=[none,some (.int m)]:=rfl
  have eo:=znf (m:=m) ⟨s.up o ho,s.bd o ho,s.ne o ho,s.pos o ho⟩ (by have:=s.olen o ho;omega)
  simp only [zbd,tI] at eo
  rw [eb]
  simp only [zbe,zdi]
  ac_nf0
  rw [eo]
  ac_nf0
 have ep:F_4 [zaR m os]=pure (.bl true):=by
  rw [d_4]
  simp only [G_4,zaR]
  ac_nf0
  rw [ziC rfl]
  ac_nf0
  simp only [isT]
  ac_nf0
  rw [zoS]
  rfl
 have ew:=zeM (d:= .int m) rfl
 have et:=ziC (d:= .tup (os.map zbd)) rfl
 simp only [isI] at ew
 simp only [isT] at et
 have a1: ¬m<1:=by omega
 have a2: ¬10<m:=by omega
 have a3: ¬(12:Int)<os.length:=by omega
 rw [d_6]
 simp only [G_6]
 ac_nf0
 rw [ep]
 ac_nf0
 rw [zmm]
 ac_nf0
 rw [zj3]
 ac_nf0
 rw [ew]
 ac_nf0
 simp only [zq6,a1,decide_false]
 ac_nf0
 simp only [a2,decide_false]
 ac_nf0
 rw [et]
 ac_nf0
 simp only [a3,decide_false]
 ac_nf0
 rw [ec]
 ac_nf0
 rw [zkp]
 ac_nf0
 congr 2
 rw [List.all_eq_true]
 intro b hb
 obtain ⟨_,_,rfl⟩:=qaU.mp hb
 rfl
def Cov (m:Int) (os:List (List Int×Int)) (ls:List Int):Prop:= ∀ t:Int,0<=t->t<m-> ∃ i∈ls,t∈(os.getD i.toNat ([],0)).1
theorem ziQ {q:Int×List Int}:q∈zkd m os↔Lt os q.2/\Cov m os q.2/\q.1=pr os q.2:=by
 unfold zkd
 rw [qaU]
 constructor
 ·rintro ⟨ls,hl,rfl⟩
  obtain ⟨h1,h2⟩:=List.mem_filter.mp hl
  obtain ⟨k1,k2⟩:=(zg8 _ _ _ (qaV _)).mp h1
  exact ⟨⟨k1,fun x hx=>by have:=k2 x hx;omega⟩,zem.mp h2,rfl⟩
 ·rintro ⟨L,hc,e⟩
  refine ⟨q.2,List.mem_filter.mpr ⟨(zg8 _ _ _ (qaV _)).mpr ⟨L.1,fun x hx=>by have:=L.2 x hx;omega⟩,zem.mpr hc⟩,?_⟩
  rw [<- e]
theorem zgs (s:Stk m os) (hf:Ful m os):Lt os (zds m os).2/\Cov m os (zds m os).2/\(zds m os).1=pr os (zds m os).2:=by
 have m0:=s.m0
 have hne:=zh3 s ((zc7 (by omega)).mpr hf)
 have h1:=(zeP hne).1
 refine ziQ.mp ?_
 unfold zds
 rw [List.getD,qaf h1]
 exact List.getElem_mem h1
theorem zlm (s:Stk m os) (hf:Ful m os) {ls:List Int} (L:Lt os ls) (hc:Cov m os ls):(zds m os).1<=pr os ls:=by
 have m0:=s.m0
 have hne:=zh3 s ((zc7 (by omega)).mpr hf)
 have h2:=(zeP hne).2 (pr os ls,ls) (ziQ.mpr ⟨L,hc,rfl⟩)
 have h2:pLt (pr os ls,ls) (zds m os)=false:=h2
 unfold pLt at h2
 split at h2
 ·rename_i e
  have e:pr os ls=(zds m os).1:=e
  omega
 ·have h2: ¬pr os ls<(zds m os).1:=by simpa using h2
  omega
noncomputable def upI (N:List Nat) (ls:List Int):List Int:=ls.map fun j=>(N.getD j.toNat 0:Int)
theorem zlp {N:List Nat} (h:N.Pairwise (· < ·)) {i j:Nat} (hij:i<j) (hj:j<N.length):N.getD i 0<N.getD j 0:=by
 have hi:i<N.length:=by omega
 simp only [List.getD,qaf hi,qaf hj,Option.getD_some]
 exact List.pairwise_iff_getElem.mp h i j hi hj hij
theorem ziz {j:Nat} (hj:j<(N1 m os).length):(osN m os).getD j ([],0)=(nar (T1 m os) (os.getD ((N1 m os).getD j 0) ([],0)).1,(os.getD ((N1 m os).getD j 0) ([],0)).2):=by
 unfold osN zd8
 simp [List.getD,hj]
theorem zgx {N:List Nat} {j:Nat} (h:j<N.length):N.getD j 0∈N:=by simp [List.getD,h]
theorem zf3:(osN m os).length=(N1 m os).length:=by unfold osN zd8;simp
theorem zqB (s:Stk m os) {ls:List Int} (L:Lt (osN m os) ls) (hc:Cov ((T1 m os).length:Int) (osN m os) ls):Lt os (upI (N1 m os) ls)/\Cov m os (upI (N1 m os) ls)/\pr os (upI (N1 m os) ls)=pr (osN m os) ls:=by
 have m0:=s.m0
 have hb: ∀ x∈ls,0<=x/\x.toNat<(N1 m os).length:=fun x hx=>by
  have:=L.2 x hx
  rw [zf3] at this
  omega
 refine ⟨⟨?_,fun x hx=> ?_⟩,fun t t0 t1=> ?_,?_⟩
 ·unfold upI
  rw [List.pairwise_map]
  refine List.Pairwise.imp_of_mem (fun {a b} ha hb' hlt=> ?_) L.1
  have h1:=hb a ha
  have h2:=hb b hb'
  have:=zlp (zpm (m:=m) (os:=os)) (i:=a.toNat) (j:=b.toNat) (by omega) h2.2
  omega
 ·obtain ⟨j,hj,rfl⟩:=qaU.mp hx
  have:=zjs (zgx (hb j hj).2)
  omega
 ·obtain ⟨b,hbT,hs⟩:=zgF (zlg (R1 os)) (n:=m.toNat) (j:=t.toNat) (by omega)
  obtain ⟨p,hp,rfl⟩:=List.mem_iff_getElem.mp hbT
  obtain ⟨j,hj,hx⟩:=hc (p:Int) (by omega) (by have hp:p<(T1 m os).length:=hp;omega)
  have hjb:=hb j hj
  rw [ziz hjb.2] at hx
  obtain ⟨k,ek,hk,hin⟩:=zff.mp hx
  have ek:k=p:=by omega
  subst ek
  refine ⟨((N1 m os).getD j.toNat 0:Int),qaU.mpr ⟨j,hj,rfl⟩,?_⟩
  rw [qaB]
  have hO:(N1 m os).getD j.toNat 0∈O1 os:=(List.mem_filter.mp (zgx hjb.2)).1
  obtain ⟨q,hq,eq⟩:=List.mem_iff_getElem.mp hO
  have hR:(R1 os).getD q ([],0)=os.getD ((N1 m os).getD j.toNat 0) ([],0):=by
   unfold R1
   simp only [List.getD,List.getElem?_map,qaf hq,Option.map_some,Option.getD_some,eq]
  have hqR:q<(R1 os).length:=by unfold R1;rw [qaH];exact hq
  have hwI: ∀ u:Int,(q:Int)∈wI (R1 os) u↔u∈((R1 os).getD q ([],0)).1:=fun u=>by
   unfold wI
   rw [qaU]
   constructor
   ·rintro ⟨k,hk,ek⟩
    have ek:k=q:=by omega
    subst ek
    exact zeL.mp (List.mem_filter.mp hk).2
   ·intro h
    exact ⟨q,List.mem_filter.mpr ⟨List.mem_range.mpr hqR,zeL.mpr h⟩,rfl⟩
  have h1:(q:Int)∈wI (R1 os) (((kept (Sth (R1 os)) m.toNat)[k]'hp:Nat):Int):=by
   rw [hwI,hR]
   have e:(T1 m os).getD k 0=(kept (Sth (R1 os)) m.toNat)[k]'hp:=by
    show (kept (Sth (R1 os)) m.toNat).getD k 0=_
    simp [List.getD,hp]
   rw [<- e]
   exact hin
  unfold Sth at hs
  have h2:=zdE.mp hs _ h1
  rw [hwI,hR] at h2
  rw [show ((t.toNat:Nat):Int)=t by omega] at h2
  exact h2
 ·unfold pr upI
  rw [qaT]
  congr 1
  refine List.map_congr_left fun j hj=> ?_
  simp only [Function.comp,qaB]
  rw [ziz (hb j hj).2]
theorem zi7 {w:Nat->Int} (hw: ∀ v,0<=w v) {v0:Nat}: ∀ V:List Nat,V.Nodup->(V.map w).sum<=w v0+((V.filter fun v=> !(v==v0)).map w).sum
 | [],_=>by
  have:=hw v0
  simp
  omega
 | v::r,h=>by
  obtain ⟨h1,h2⟩:=List.nodup_cons.mp h
  have ih:=zi7 hw r h2 (v0:=v0)
  have hn:=hw v0
  rw [qaM,List.sum_cons,List.filter_cons]
  by_cases e:v=v0
  ·subst e
   have ef:r.filter (fun x=> !(x==v))=r:=List.filter_eq_self.mpr fun x hx=>by
    have:x≠v:=fun z=>h1 (z▸hx)
    simp [this]
   rw [ef]
   simp
  ·simp only [show (!(v==v0))=true by simp [e],if_true,qaM,List.sum_cons]
   omega
theorem zkx {w:Nat->Int} (hw: ∀ v,0<=w v) {β:Int->Nat}: ∀ (ls:List Int) (V:List Nat),V.Nodup->(∀ v∈V, ∃ j∈ls,β j=v)->(V.map w).sum<=(ls.map fun j=>w (β j)).sum
 | [],V,_,h=>by
  cases V with
  | nil=>simp
  | cons v r=>
   obtain ⟨j,hj,_⟩:=h v qau
   cases hj
 | j::r,V,hn,h=>by
  have h1:=zi7 hw (v0:=β j) V hn
  have h2:=zkx hw r (V.filter fun v=> !(v==β j)) (hn.filter _) fun v hv=>by
   obtain ⟨k1,k2⟩:=List.mem_filter.mp hv
   obtain ⟨i,hi,e⟩:=h v k1
   rcases qaP.mp hi with rfl | hi
   ·rw [e] at k2
    simp at k2
   ·exact ⟨i,hi,e⟩
  rw [qaM,List.sum_cons]
  omega
noncomputable def btr (os:List (List Int×Int)) (j:Int):Nat:=((O1 os).find? fun b=>So os j.toNat b).getD 0
theorem znM {j:Int} (h:j.toNat<os.length):btr os j∈O1 os/\So os j.toNat (btr os j)=true:=by
 obtain ⟨b,hb,hs⟩:=zgF (znH os) h
 unfold btr
 cases hf:(O1 os).find? fun b=>So os j.toNat b with
 | none=>exact absurd hs (by simpa using List.find?_eq_none.mp hf b hb)
 | some c=>exact ⟨List.mem_of_find?_eq_some hf,by simpa using List.find?_some hf⟩
noncomputable def dnI (m:Int) (os:List (List Int×Int)) (ls:List Int):List Nat:=(List.range (N1 m os).length).filter fun q=>ls.any fun j=>btr os j==(N1 m os).getD q 0
theorem zsJ (s:Stk m os) {ls:List Int} (L:Lt os ls) (hc:Cov m os ls):Lt (osN m os) (cI (dnI m os ls))/\Cov ((T1 m os).length:Int) (osN m os) (cI (dnI m os ls))/\pr (osN m os) (cI (dnI m os ls))<=pr os ls:=by
 have m0:=s.m0
 have hq: ∀ q∈dnI m os ls,q<(N1 m os).length:=fun q h=>List.mem_range.mp (List.mem_filter.mp h).1
 refine ⟨⟨?_,fun x hx=> ?_⟩,fun t t0 t1=> ?_,?_⟩
 ·unfold cI
  rw [List.pairwise_map]
  exact (List.pairwise_lt_range.filter _).imp fun h=>by omega
 ·obtain ⟨q,h,rfl⟩:=qaU.mp hx
  have:=hq q h
  rw [zf3]
  omega
 ·have hk:t.toNat<(T1 m os).length:=by omega
  have hT:(T1 m os).getD t.toNat 0∈T1 m os:=zgx hk
  have hlt:=zc8 hT
  obtain ⟨j,hj,hx⟩:=hc ((T1 m os).getD t.toNat 0:Int) (by omega) (by omega)
  have hjb:=L.2 j hj
  obtain ⟨b1,b2⟩:=znM (os:=os) (j:=j) (by omega)
  unfold So soB at b2
  rw [qaG] at b2
  have hin:=zdE.mp b2.2 _ hx
  have hn:t∈nar (T1 m os) (os.getD (btr os j) ([],0)).1:=zff.mpr ⟨t.toNat,by omega,hk,hin⟩
  have hN:btr os j∈N1 m os:=List.mem_filter.mpr ⟨b1,by
    cases hz:nar (T1 m os) (os.getD (btr os j) ([],0)).1 with
    | nil=>rw [hz] at hn;cases hn
    | cons _ _=>rfl⟩
  obtain ⟨q,hq',eq⟩:=List.mem_iff_getElem.mp hN
  have eq2:(N1 m os).getD q 0=btr os j:=by simp [List.getD,hq',eq]
  refine ⟨(q:Int),qaU.mpr ⟨q,List.mem_filter.mpr ⟨List.mem_range.mpr hq',List.any_eq_true.mpr ⟨j,hj,by rw [eq2];simp⟩⟩,rfl⟩,?_⟩
  rw [qaB,ziz hq',eq2]
  exact hn
 ·have e1:pr (osN m os) (cI (dnI m os ls))=(((dnI m os ls).map fun q=>(N1 m os).getD q 0).map fun v=>(os.getD v ([],0)).2).sum:=by
   unfold pr cI
   rw [qaT,qaT]
   congr 1
   refine List.map_congr_left fun q h=> ?_
   simp only [Function.comp,qaB]
   rw [ziz (hq q h)]
  have hw: ∀ v:Nat,0<=(os.getD v ([],0)).2:=fun v=>by
   by_cases h:v<os.length
   ·have:=s.pos _ (zdo h)
    omega
   ·simp [List.getD,List.getElem?_eq_none (Nat.le_of_not_lt h)]
  have hnd:((dnI m os ls).map fun q=>(N1 m os).getD q 0).Nodup:=by
   unfold List.Nodup
   rw [List.pairwise_map]
   have hp:(dnI m os ls).Pairwise (· < ·):=List.pairwise_lt_range.filter _
   refine List.Pairwise.imp_of_mem (fun {a b} ha hb hlt=> ?_) hp
   have:=zlp (zpm (m:=m) (os:=os)) hlt (hq b hb)
   omega
  have h3:=zkx hw (β:=btr os) ls _ hnd fun v hv=>by
   obtain ⟨q,h,rfl⟩:=qaU.mp hv
   obtain ⟨j,hj,e⟩:=List.any_eq_true.mp (List.mem_filter.mp h).2
   exact ⟨j,hj,by simpa using e⟩
  have h4: ∀ js:List Int,(∀ j∈js,j∈ls)->(js.map fun j=>(os.getD (btr os j) ([],0)).2).sum<=(js.map fun j=>(os.getD j.toNat ([],0)).2).sum:=fun js=>by
   induction js with
   | nil=>simp
   | cons j r ih=>
    intro h
    have hjb:=L.2 j (h j qau)
    obtain ⟨_,b2⟩:=znM (os:=os) (j:=j) (by omega)
    unfold So soB at b2
    rw [qaG,qaD] at b2
    have:=ih fun x hx=>h x (qan _ hx)
    rw [qaM,qaM,List.sum_cons,List.sum_cons]
    omega
  have h5:=h4 ls fun _ h=>h
  rw [e1]
  unfold pr
  omega
theorem zon {x:Sy} (i:In x):(zds (nxt x).m (nxt x).os).1=(zds x.m x.os).1:=by
 obtain ⟨a1,a2,a3⟩:=zgs i.s i.f
 obtain ⟨b1,b2,b3⟩:=zgs i.next.s i.next.f
 obtain ⟨c1,c2,c3⟩:=zsJ i.s a1 a2
 obtain ⟨d1,d2,d3⟩:=zqB i.s (ls:=(zds (nxt x).m (nxt x).os).2) b1 b2
 have h1:=zlm i.next.s i.next.f (ls:=cI (dnI x.m x.os (zds x.m x.os).2)) c1 c2
 have h2:=zlm i.s i.f d1 d2
 have e1:pr (nxt x).os (cI (dnI x.m x.os (zds x.m x.os).2))=pr (osN x.m x.os) (cI (dnI x.m x.os (zds x.m x.os).2)):=rfl
 have e2:pr (nxt x).os (zds (nxt x).m (nxt x).os).2=pr (osN x.m x.os) (zds (nxt x).m (nxt x).os).2:=rfl
 omega
theorem zkK: ∀ (f:Nat) {x:Sy},In x->(zds (zbh f x).m (zbh f x).os).1=(zds x.m x.os).1
 | 0,x,i=>rfl
 | f+1,x,i=>by
  rw [zbh]
  split
  ·rfl
  ·rw [zkK f i.next,zon i]
theorem zpE: ∀ (f:Nat) {x:Sy},In x->In (zbh f x):=fun f x i=>zgh f i _ (qak _ qau)
theorem zgT: ∀ (f:Nat) {x:Sy},In x->siz x<=f->same (zbh f x)=true
 | 0,x,i,h=>by
  have:=zkH i
  omega
 | f+1,x,i,h=>by
  rw [zbh]
  cases hs:same x with
  | true=>rw [qa4 rfl];exact hs
  | false=>
   rw [qa5 (by decide)]
   have:=znL hs
   exact zgT f i.next (by omega)
theorem zlw: ∀ (f:Nat) (x:Sy),(zbh f x).os.length<=x.os.length
 | 0,x=>qaV _
 | f+1,x=>by
  rw [zbh]
  split
  ·exact qaV _
  ·refine qaS (zlw f _) ?_
   have e:(nxt x).os.length=(N1 x.m x.os).length:=zf3
   rw [e]
   exact zmB
noncomputable def bk (x:Sy) (ls:List Int):List Int:=ls.map fun j=>x.ns.getD j.toNat 0
def BK (m:Int) (os:List (List Int×Int)) (x:Sy):Prop:= ∀ ls,Lt x.os ls->Cov x.m x.os ls->Lt os (bk x ls)/\Cov m os (bk x ls)/\pr os (bk x ls)=pr x.os ls
theorem zpo {x:Sy} {ls:List Int} (L:Lt (osN x.m x.os) ls):bk (nxt x) ls=bk x (upI (N1 x.m x.os) ls):=by
 unfold bk upI
 rw [qaT]
 refine List.map_congr_left fun j hj=> ?_
 have h:=L.2 j hj
 rw [zf3] at h
 have hl:j.toNat<(N1 x.m x.os).length:=by omega
 simp only [Function.comp,qaB]
 show ((N1 x.m x.os).map fun j=>x.ns.getD j 0).getD j.toNat 0=_
 simp [List.getD,hl]
theorem BK.next {x:Sy} (i:In x) (h:BK m os x):BK m os (nxt x):=fun ls L hc=>by
 obtain ⟨d1,d2,d3⟩:=zqB i.s (ls:=ls) L hc
 obtain ⟨e1,e2,e3⟩:=h _ d1 d2
 rw [zpo L]
 exact ⟨e1,e2,e3.trans d3⟩
theorem BK.last: ∀ (f:Nat) {x:Sy},In x->BK m os x->BK m os (zbh f x)
 | 0,x,i,h=>h
 | f+1,x,i,h=>by
  rw [zbh]
  split
  ·exact h
  ·exact BK.last f i.next (h.next i)
theorem BK.zero:BK m os (x0 m os):=fun ls L hc=>by
 have L:Lt os ls:=L
 have e:bk (x0 m os) ls=ls:=by
  unfold bk
  refine Eq.trans (List.map_congr_left (g:=id) fun j hj=> ?_) (List.map_id _)
  have h:=L.2 j hj
  have hl:j.toNat<os.length:=by omega
  show (cI (List.range os.length)).getD j.toNat 0=j
  unfold cI
  simp [List.getD,hl]
  omega
 rw [e]
 exact ⟨L,hc,rfl⟩
theorem zkU {x:Sy} (i:In x):((nxt x).ts++zbG x.ts (nxt x).ts).Perm x.ts/\((nxt x).ns++zbG x.ns (nxt x).ns).Perm x.ns:=by
 have key: ∀ (xs ys:List Int),xs.Nodup->ys.Nodup->(∀ y∈ys,y∈xs)->(ys++zbG xs ys).Perm xs:=fun xs ys hx hy hs=>by
  have hm: ∀ z,z∈zbG xs ys↔z∈xs/\z∉ys:=fun z=>by
   unfold zbG
   rw [List.mem_filter]
   constructor
   ·rintro ⟨h1,h2⟩
    refine ⟨h1,fun hz=> ?_⟩
    have:ys.any (· == z)=true:=List.any_eq_true.mpr ⟨z,hz,by simp⟩
    rw [this] at h2
    cases h2
   ·rintro ⟨h1,h2⟩
    refine ⟨h1,?_⟩
    cases hb:ys.any (· == z) with
    | false=>rfl
    | true=>
     obtain ⟨w,hw,e⟩:=List.any_eq_true.mp hb
     exact absurd ((show w=z by simpa using e)▸hw) h2
  refine (List.perm_ext_iff_of_nodup (List.nodup_append.mpr ⟨hy,hx.filter _,fun a ha b hb e=>((hm b).mp hb).2 (e▸ha)⟩) hx).mpr fun z=> ?_
  rw [qaK,show z∈xs.filter (fun x=> !ys.any (· == x))↔z∈xs/\z∉ys from hm z]
  constructor
  ·rintro (h | h)
   ·exact hs z h
   ·exact h.1
  ·intro h
   by_cases hz:z∈ys
   ·exact .inl hz
   ·exact .inr ⟨h,hz⟩
 have hsub: ∀ (xs:List Int) (N:List Nat),(∀ j∈N,j<xs.length)-> ∀ y∈N.map (fun j=>xs.getD j 0),y∈xs:=fun xs N hN y hy=>by
  obtain ⟨j,hj,rfl⟩:=qaU.mp hy
  have:=hN j hj
  simp [List.getD,this]
 exact ⟨key _ _ i.td i.next.td (hsub _ _ fun j hj=>by rw [i.tl];exact zoQ hj),key _ _ i.nd i.next.nd (hsub _ _ fun j hj=>by rw [i.nl];exact zjs hj)⟩
theorem zfO: ∀ (f:Nat) {x:Sy},In x->((zbh f x).ts++(zbE f x).flatMap fun y=>zbG y.ts (nxt y).ts).Perm x.ts/\((zbh f x).ns++(zbE f x).flatMap fun y=>zbG y.ns (nxt y).ns).Perm x.ns
 | 0,x,i=>by
  rw [zbh,zbE]
  simp
 | f+1,x,i=>by
  rw [zbh,zbE]
  split
  ·simp
  ·obtain ⟨h1,h2⟩:=zfO f i.next
   obtain ⟨k1,k2⟩:=zkU i
   rw [List.flatMap_cons,List.flatMap_cons]
   constructor
   ·refine List.Perm.trans ?_ k1
    refine List.Perm.trans ?_ (List.Perm.append_right _ h1)
    rw [List.append_assoc]
    exact List.Perm.append_left _ List.perm_append_comm
   ·refine List.Perm.trans ?_ k2
    refine List.Perm.trans ?_ (List.Perm.append_right _ h2)
    rw [List.append_assoc]
    exact List.Perm.append_left _ List.perm_append_comm
theorem ziN {n:Nat} {xs:List Int} (h:xs.Perm (cI (List.range n))):zc1 xs=cI (List.range n):=by
 have hn:xs.Nodup:=(List.Perm.nodup_iff h).mpr zos
 exact zlM (zfL hn) (zbQ n) fun z=>by rw [(za1 xs).mem_iff,h.mem_iff]
theorem zok (m:Int) (os:List (List Int×Int)):dEq (zaR m os) (zaR m os)=pure (.bl true):=by
 have e:pd (zaR m os)=some (.tuple [.int m,.tuple (os.map pdO)]):=by simp only [zaR,pd,pdL,zf8,Option.map]
 have c:zgo (.tuple [.int m,.tuple (os.map pdO)]) (.tuple [.int m,.tuple (os.map pdO)])=true:=by
  have:=zhA os
  unfold zgo
  simp [PyData.canLay0,PyData.canLayAll0,zeK,PyData.depth,PyData.depthAll]
  omega
 rw [zix e e c]
 simp [PyData.eqv,PyData.eqvAll,zgH]
theorem zgc:dNe (.lst []) (.lst [])=pure (.bl false):=zfD []
noncomputable def la (m:Int) (os:List (List Int×Int)):Sy:=zbh 25 (x0 m os)
theorem zqt (s:Stk m os) (hf:Ful m os):In (la m os):=zpE 25 (zhW s hf)
theorem zrE:(la m os).os.length<=os.length:=zlw 25 (x0 m os)
theorem zom (s:Stk m os) (hf:Ful m os):same (la m os)=true:=zgT 25 (zhW s hf) (by
  have:=s.m1
  have:=s.len
  show m.toNat+os.length<=25
  omega)
theorem ziT {S:Nat->Nat->Bool} {n:Nat} (h:(kept S n).length=n):zj6 S n=[]:=by
 have e:kept S n=List.range n:=zcB (by rw [List.length_range];exact h)
 have e2:zek S n=[]:=List.filter_eq_nil_iff.mpr fun j hj=>by
  rw [<- e] at hj
  rw [(List.mem_filter.mp hj).2]
  decide
 rw [zhR,e2]
 rfl
theorem zmC {x:Sy} (i:In x) (h:same x=true):zj6 (So x.os) x.os.length=[]/\zj6 (Sth x.os) x.m.toNat=[]:=by
 unfold same at h
 rw [qaG,beq_iff_eq,beq_iff_eq] at h
 have h1:(O1 x.os).length=x.os.length:=by
  have a:=zmu (os:=x.os)
  have b:=List.length_filter_le (fun j=> !(nar (T1 x.m x.os) (x.os.getD j ([],0)).1).isEmpty) (O1 x.os)
  have c:((O1 x.os).filter fun j=> !(nar (T1 x.m x.os) (x.os.getD j ([],0)).1).isEmpty).length=x.os.length:=h.2
  omega
 have e1:O1 x.os=List.range x.os.length:=zcB (by rw [List.length_range];exact h1)
 have e2:R1 x.os=x.os:=by
  unfold R1
  rw [e1]
  exact zdV
 refine ⟨ziT h1,ziT ?_⟩
 have h2:=h.1
 unfold T1 at h2
 rw [e2] at h2
 exact h2
theorem zpV {x:Sy} (h:same x=true):same (x0 x.m x.os)=true:=h
theorem zoh {x:Sy} (h:same x=true):zbh 25 (x0 x.m x.os)=x0 x.m x.os/\zjH x.m x.os=[]:=by
 have h':=zpV h
 constructor
 ·rw [zbh,qa4 h']
 ·unfold zjH
  rw [zbE,qa4 h']
  rfl
theorem zm9 (s:Stk m os) {ls:List Int} (L:Lt os ls) (hc:Cov m os ls):Ev (F_20 [zaR m os,tI ls]) .non:=by
 have e:=ziO s L
 rw [zem.mpr hc] at e
 refine .of_wp fun h=> ?_
 rw [d_20]
 simp only [G_20]
 ac_nf0
 refine e.wp fun h1 g1=> ?_
 ac_nf0
 first | exact ⟨trivial,g1⟩ | exact ⟨g1,trivial⟩ | exact g1
theorem zoF {fi:FA} {src:List (Option Nat)} {sd:Sd} {te:FE} {x:Sy} (i:In x) {ls:List Int} {d:D} (L:Lt x.os ls) (hi:fi sd=pure (ls.map D.int)) (eb:zaq src sd=[none,some d]) (he: ∀ j:Int,te [some (.int j),some d]=ofO (atI (x.ns.map D.int) j)):
  zaw fi (zaB 0) (fun _=>pure true) te src sd=pure (.lst ((bk x ls).map D.int)):=by
 have ll:=L.len i.s
 unfold bk
 rw [qaT,show ls.map (D.int∘fun j=>x.ns.getD j.toNat 0)=ls.filterMap fun j=>some (.int (x.ns.getD j.toNat 0)) by simp [Function.comp_def]]
 refine zau (g':=D.int) hi (by omega) fun j hj=> ?_
 have hb:=L.2 j hj
 have ea:=zgI (xs:=x.ns) (j:=j.toNat) (by rw [i.nl];omega)
 rw [show ((j.toNat:Nat):Int)=j by omega] at ea
 rw [eb]
 simp only [zbe]
 ac_nf0
 rw [he,ea]
 ac_nf0
theorem zql (s:Stk m os) (hf:Ful m os) {ls:List Int} (L:Lt (la m os).os ls) (hc:Cov (la m os).m (la m os).os ls):Ev (F_28 [zaR m os,tI ls]) (tI (bk (la m os) ls)):=by
 have i:=zqt s hf
 have hle:=zrE (m:=m) (os:=os)
 have L0:Lt os ls:=⟨L.1,fun x hx=>by have:=L.2 x hx;omega⟩
 have ll:=L0.len s
 have e1:=zlX s (zop (xs:=ls) (by omega)) L0.lot
 have e2:=zfg s hf
 have e3:=zm9 i.s L hc
 have e4: ∀ {s0:Option D},zaw (iSq (zaf 1)) (zaB 0) (fun _=>pure true) zde [none,some 2] [s0,some (tI ls),some (zaJ (la m os))]=pure (.lst ((bk (la m os) ls).map D.int)):=fun {s0}=>by
  refine zoF (d:=zaJ (la m os)) i L (by ac_nf0) rfl fun j=> ?_
  have a2:dIx (zaJ (la m os)) (.int 2)=pure (.tup ((la m os).ns.map D.int)):=rfl
  simp only [zde]
  ac_nf0
  rw [a2]
  ac_nf0
 have a0:dIx (zaJ (la m os)) (.int 0)=pure (zaR (la m os).m (la m os).os):=rfl
 refine .of_wp fun h=> ?_
 rw [d_28]
 simp only [G_28]
 rw [show zaJ (zbh 25 (x0 m os))=zaJ (la m os) from rfl] at e2
 simp only [tI] at e1 e3 e4 ⊢
 ac_nf0
 rw [e1]
 ac_nf0
 refine e2.wp fun h1 g1=> ?_
 ac_nf0
 rw [a0]
 ac_nf0
 refine e3.wp fun h2 g2=> ?_
 ac_nf0
 rw [e4]
 ac_nf0
 have g:=g1.trans g2
 first | exact ⟨trivial,g⟩ | exact ⟨g,trivial⟩ | exact ⟨rfl,g⟩ | exact g
theorem zi4 {s0 s1 s2 s3 s4 s5 s6 s11 s12:Option D}: ∀ (ys:List Sy) (ts ns:List Int) (x9 x10:Option D),ts.length+(ys.flatMap fun y=>zbG y.ts (nxt y).ts).length<=500->ns.length+(ys.flatMap fun y=>zbG y.ns (nxt y).ns).length<=500->
  ∃ y9 y10,za9 (fun x sd=>do let sd1<-zch 2 (zaz (zaB 9) (zaz (zaB 10) zcg)) x sd;zbP sd1) (ys.map zma) [s0,s1,s2,s3,s4,s5,s6,some (.lst (ts.map D.int)),some (.lst (ns.map D.int)),x9,x10,s11,s12]=pure (.nx [s0,s1,s2,s3,s4,s5,s6,some (.lst ((ts++ys.flatMap fun y=>zbG y.ts (nxt y).ts).map D.int)),some (.lst ((ns++ys.flatMap fun y=>zbG y.ns (nxt y).ns).map D.int)),y9,y10,s11,s12])
 | [],ts,ns,x9,x10,_,_=>⟨x9,x10,by simp [zdY]⟩
 | y::r,ts,ns,x9,x10,h1,h2=>by
  rw [List.flatMap_cons,qav] at h1 h2
  obtain ⟨y9,y10,ih⟩:=zi4 (s0:=s0) (s1:=s1) (s2:=s2) (s3:=s3) (s4:=s4) (s5:=s5) (s6:=s6) (s11:=s11) (s12:=s12) r (ts++zbG y.ts (nxt y).ts) (ns++zbG y.ns (nxt y).ns) (some (.tup ((zbG y.ns (nxt y).ns).map D.int))) (some (.tup ((zbG y.ts (nxt y).ts).map D.int))) (by rw [qav];omega) (by rw [qav];omega)
  refine ⟨y9,y10,?_⟩
  have f1:=zaQ (show ns.length+(zbG y.ns (nxt y).ns).length<=1000 by omega)
  have f2:=zaQ (show ts.length+(zbG y.ts (nxt y).ts).length<=1000 by omega)
  rw [qaM,zb8,List.flatMap_cons,List.flatMap_cons, <-List.append_assoc, <-List.append_assoc, <-ih]
  generalize za9 (fun x sd=>do let sd1<-zch 2 (zaz (zaB 9) (zaz (zaB 10) zcg)) x sd;zbP sd1) (r.map zma)=zbs
  unfold zma
  generalize zbG y.ns (nxt y).ns=a at f1
  generalize zbG y.ts (nxt y).ts=b at f2
  simp only [zbP]
  ac_nf0
  rw [f1]
  ac_nf0
  rw [f2]
  ac_nf0
  rw [List.map_append,List.map_append]
theorem zim (s:Stk m os) {s1 s2 s3 s4 s5 s6 s7 s8 s9 s10:Option D}: ∀ (js:List Nat) (x11 x12:Option D),(∀ j∈js,j∈zek (So os) os.length)->
  ∃ y11 y12,za9 (fun x sd=>do let sd1<-zch 2 (zaz (zaB 11) (zaz (zaB 12) zcg)) x sd;zbO sd1) (js.map (zhi (So os) os.length)) [some (zaR m os),s1,s2,s3,s4,s5,s6,s7,s8,s9,s10,x11,x12]=pure (.nx [some (zaR m os),s1,s2,s3,s4,s5,s6,s7,s8,s9,s10,y11,y12])
 | [],x11,x12,_=>⟨x11,x12,rfl⟩
 | j::r,x11,x12,hj=>by
  have hg:=hj j qau
  obtain ⟨g1,g2⟩:=List.mem_filter.mp hg
  have hjl:=List.mem_range.mp g1
  cases hr:zcb (So os) os.length j with
  | nil=>rw [hr] at g2;cases g2
  | cons b bs=>
   have hb:b∈zcb (So os) os.length j:=by rw [hr];exact qau
   obtain ⟨b1,b2⟩:=List.mem_filter.mp hb
   have hbl:=List.mem_range.mp b1
   have hin:inB (os.getD j ([],0)).1 (os.getD b ([],0)).1=true:=by
    have:=(zeg.mp b2).1
    unfold So soB at this
    rw [qaG] at this
    exact this.2
   have eo:=zdL (os:=os) (i:=(j:Int)) (by omega) (by omega)
   have eb:=zdL (os:=os) (i:=(b:Int)) (by omega) (by omega)
   rw [qaB] at eo eb
   have lo:=s.olen _ (zdo (os:=os) hjl)
   have hfi:=zju (xs:=(os.getD j ([],0)).1) (ys:=(os.getD b ([],0)).1)
   rw [hin] at hfi
   generalize os.getD j ([],0)=o at eo lo hfi
   generalize os.getD b ([],0)=o' at eb hfi
   obtain ⟨y11,y12,ih⟩:=zim s (s1:=s1) (s2:=s2) (s3:=s3) (s4:=s4) (s5:=s5) (s6:=s6) (s7:=s7) (s8:=s8) (s9:=s9) (s10:=s10) r (some (.int (j:Int))) (some (.int (b:Int))) fun y hy=>hj y (qan _ hy)
   refine ⟨y11,y12,?_⟩
   have ep:zhi (So os) os.length j= .tup [.int (j:Int),.int (b:Int)]:=by
    unfold zhi
    rw [hr]
    rfl
   have ec:zaw (iSq (cOp dIx (cOp dIx (cOp dIx (zaf 0) (cK (.int 1))) (zaf 11)) (cK (.int 0)))) (zaB 0) zcv zcp [none,some 0,some 12] [some (zaR m os),s1,s2,s3,s4,s5,s6,s7,s8,s9,s10,some (.int (j:Int)),some (.int (b:Int))]=pure (.lst ((o.1.filter fun t=> !o'.1.any (· == t)).map D.int)):=by
    rw [<- zaE]
    refine zau (g':=D.int) (xs:=o.1) ?_ (by omega) fun t _=> ?_
    ·ac_nf0
     rw [zj3]
     ac_nf0
     rw [eo]
     ac_nf0
    ·rw [show zaq [none,some 0,some 12] [some (zaR m os),s1,s2,s3,s4,s5,s6,s7,s8,s9,s10,some (.int (j:Int)),some (.int (b:Int))]=[none,some (zaR m os),some (.int (b:Int))] from rfl]
     simp only [zbe,zcv,zcp]
     ac_nf0
     rw [zj3]
     ac_nf0
     rw [eb]
     ac_nf0
     rw [zet]
     ac_nf0
     split<;>rfl
   rw [qaM,zb8,ep, <-ih]
   generalize za9 (fun x sd=>do let sd1<-zch 2 (zaz (zaB 11) (zaz (zaB 12) zcg)) x sd;zbO sd1) (r.map (zhi (So os) os.length))=zbs
   simp only [zbO]
   ac_nf0
   rw [ec]
   ac_nf0
   rw [zfD,hfi]
   ac_nf0
theorem ztx (s:Stk m os) (hf:Ful m os):BK m os (la m os):=BK.last 25 (zhW s hf) BK.zero
theorem ziJ (s:Stk m os) (hf:Ful m os) (n10:os.length<=10):Ev (F_49 [zaR m os]) (.bl true):=by
 have m0:=s.m0
 have m1:=s.m1
 have i:=zqt s hf
 have hs:=zom s hf
 have hle:=zrE (m:=m) (os:=os)
 have nl:=i.nl
 have tl:=i.tl
 have lm0:=i.s.m0
 have lm1:=i.s.m1
 have hfl:=(zc7 (by omega)).mpr hf
 have hfL:=(zc7 (m:=(la m os).m) (os:=(la m os).os) (by omega)).mpr i.f
 obtain ⟨r1,r2⟩:=zmC i hs
 obtain ⟨z1,z2⟩:=zoh hs
 have e1:=zfg s hf
 rw [show zaJ (zbh 25 (x0 m os))=zaJ (la m os) from rfl] at e1
 have e2:=zmt i.s
 have e3:=zlP i.s
 rw [hfL] at e3
 obtain ⟨a1,a2,a3⟩:=zgs s hf
 obtain ⟨b1,b2,b3⟩:=zgs i.s i.f
 have e4:=ze1 i.s hfL (by omega)
 have e5:=zql s hf b1 b2
 have e6:=ze1 s hfl n10
 have e7:=zf9 s a1
 obtain ⟨c1,c2,c3⟩:=ztx s hf _ b1 b2
 have e8:=ziO s c1
 rw [zem.mpr c2] at e8
 have e9:=zf9 s c1
 have e10:=zf9 i.s b1
 have hmp:(zds (la m os).m (la m os).os).1=(zds m os).1:=zkK 25 (zhW s hf)
 have p1:pr os (bk (la m os) (zds (la m os).m (la m os).os).2)=pr os (zds m os).2:=by rw [c3, <-b3,hmp,a3]
 have p2:pr (la m os).os (zds (la m os).m (la m os).os).2=pr os (zds m os).2:=by rw [<- b3,hmp,a3]
 rw [p1] at e9
 rw [p2] at e10
 have e11:=zo4 i.s hfL
 have e12:=zrO i.s hfL
 have e13:=zg1 i.s i.f
 rw [r1] at e11
 rw [r2] at e12
 rw [z2] at e13
 have e14:=zg1 s hf
 obtain ⟨q1,q2⟩:=zfO 25 (zhW s hf)
 have q1:((la m os).ts++(zbE 25 (x0 m os)).flatMap fun y=>zbG y.ts (nxt y).ts).Perm (cI (List.range m.toNat)):=q1
 have q2:((la m os).ns++(zbE 25 (x0 m os)).flatMap fun y=>zbG y.ns (nxt y).ns).Perm (cI (List.range os.length)):=q2
 have l1:=q1.length_eq
 have l2:=q2.length_eq
 rw [zhM,List.length_range] at l1 l2
 have e15:=zo4 s hfl
 rw [zhR] at e15
 have e16:=zfg i.s i.f
 rw [z1] at e16
 have g0: ∀ {y4 y5 y6 y7 y8 y9 y10 y11 y12:Option D},zch 3 (zaz (zaB 1) (zaz (zaB 2) (zaz (zaB 3) zcg))) (zaJ (la m os)) [some (zaR m os),none,none,none,y4,y5,y6,y7,y8,y9,y10,y11,y12]=pure [some (zaR m os),some (zaR (la m os).m (la m os).os),some (.tup ((la m os).ts.map D.int)),some (.tup ((la m os).ns.map D.int)),y4,y5,y6,y7,y8,y9,y10,y11,y12]:=rfl
 have s0:dIx (zaJ (x0 (la m os).m (la m os).os)) (.int 0)=pure (zaR (la m os).m (la m os).os):=rfl
 have r3:=zeS (n:=m.toNat) (by omega)
 have r4:=zeS (n:=os.length) (by omega)
 rw [show ((m.toNat:Nat):Int)=m by omega] at r3
 rw [qav] at l1 l2
 refine .of_wp fun h=> ?_
 rw [d_49]
 simp only [G_49]
 simp only [tI] at e4 e5 e6 e7 e8 e9 e10
 generalize hP:(zds (la m os).m (la m os).os).2.map D.int=dP at e4 e5 e10
 generalize hB:(bk (la m os) (zds (la m os).m (la m os).os).2).map D.int=dB at e5 e8 e9
 ac_nf0
 refine e1.wp fun h1 g1=> ?_
 ac_nf0
 rw [g0]
 ac_nf0
 rw [e2]
 ac_nf0
 simp only [zhQ]
 ac_nf0
 simp only [bne_self_eq_false]
 ac_nf0
 refine e3.wp fun h2 g2=> ?_
 ac_nf0
 simp only [zhQ]
 ac_nf0
 simp only [bne_self_eq_false]
 ac_nf0
 rw [zmm]
 ac_nf0
 rw [zst,show (((la m os).ts.length:Int)==(la m os).m)=true by rw [tl,beq_iff_eq];omega]
 ac_nf0
 rw [zj3]
 ac_nf0
 rw [zst,show (((la m os).ns.length:Int)==((la m os).os.length:Int))=true by rw [nl,beq_iff_eq]]
 ac_nf0
 refine e4.wp fun h3 g3=> ?_
 ac_nf0
 refine e5.wp fun h4 g4=> ?_
 ac_nf0
 refine e6.wp fun h5 g5=> ?_
 ac_nf0
 rw [e7]
 ac_nf0
 refine e8.wp fun h6 g6=> ?_
 ac_nf0
 simp only [zhQ]
 ac_nf0
 simp only [bne_self_eq_false]
 ac_nf0
 rw [e9]
 ac_nf0
 rw [zst]
 ac_nf0
 simp only [beq_self_eq_true]
 ac_nf0
 rw [e10]
 ac_nf0
 rw [zst]
 ac_nf0
 simp only [beq_self_eq_true]
 ac_nf0
 refine e11.wp fun h7 g7=> ?_
 ac_nf0
 rw [zgc]
 ac_nf0
 refine e12.wp fun h8 g8=> ?_
 ac_nf0
 rw [zgc]
 ac_nf0
 refine e13.wp fun h9 g9=> ?_
 ac_nf0
 rw [zgc]
 ac_nf0
 refine e14.wp fun h10 g10=> ?_
 ac_nf0
 unfold zjH
 obtain ⟨y9,y10,el⟩:=zi4 (s0:=some (zaR m os)) (s1:=some (zaR (la m os).m (la m os).os)) (s2:=some (.tup ((la m os).ts.map D.int))) (s3:=some (.tup ((la m os).ns.map D.int))) (s4:=some (.tup dP)) (s5:=some (.tup dB)) (s6:=some (.int (pr os (zds m os).2))) (s11:=none) (s12:=none) (zbE 25 (x0 m os)) (la m os).ts (la m os).ns none none (by omega) (by omega)
 rw [el]
 ac_nf0
 rw [zeR (by rw [qav];omega),ziN q1]
 ac_nf0
 rw [zmm]
 ac_nf0
 rw [r3]
 ac_nf0
 rw [zlT]
 ac_nf0
 simp only [beq_self_eq_true]
 ac_nf0
 rw [zeR (by rw [qav];omega),ziN q2]
 ac_nf0
 rw [zj3]
 ac_nf0
 rw [r4]
 ac_nf0
 rw [zlT]
 ac_nf0
 simp only [beq_self_eq_true]
 ac_nf0
 refine e15.wp fun h11 g11=> ?_
 ac_nf0
 obtain ⟨y11,y12,er⟩:=zim s (s1:=some (zaR (la m os).m (la m os).os)) (s2:=some (.tup ((la m os).ts.map D.int))) (s3:=some (.tup ((la m os).ns.map D.int))) (s4:=some (.tup dP)) (s5:=some (.tup dB)) (s6:=some (.int (pr os (zds m os).2))) (s7:=some (.lst (((la m os).ts++(zbE 25 (x0 m os)).flatMap fun y=>zbG y.ts (nxt y).ts).map D.int))) (s8:=some (.lst (((la m os).ns++(zbE 25 (x0 m os)).flatMap fun y=>zbG y.ns (nxt y).ns).map D.int))) (s9:=y9) (s10:=y10) (zek (So os) os.length) none none fun j h=>h
 rw [er]
 ac_nf0
 refine e16.wp fun h12 g12=> ?_
 ac_nf0
 rw [s0]
 ac_nf0
 rw [zok]
 ac_nf0
 have g:=((((((((((g1.trans g2).trans g3).trans g4).trans g5).trans g6).trans g7).trans g8).trans g9).trans g10).trans g11).trans g12
 first | exact ⟨trivial,g⟩ | exact ⟨g,trivial⟩ | exact ⟨rfl,g⟩ | exact g
theorem zih {ns:List Int} (hb: ∀ i∈ns,Builtin.Int.intBits i<=2^20): ∀ (ds:List D) {h:Hh} {x1 x2:Option D},(∀ d∈ds, ∃ i:Int,d= .int i/\0<=i/\i<6)->
  wp (za9 (fun x sd=>do let sd1<-zaB 1 x sd;zeZ sd1) ds [some (.scr (ns.map D.int)),x1,x2]) h fun o _=> ∃ sd,o= .nx sd
 | [],h,x1,x2,_=>by rw [zdY,zas];exact ⟨_,rfl⟩
 | d::r,h,x1,x2,hd=>by
  obtain ⟨i,rfl,i0,i1⟩:=hd _ qau
  have ih: ∀ {h:Hh} {x1 x2:Option D},wp (za9 (fun x sd=>do let sd1<-zaB 1 x sd;zeZ sd1) r [some (.scr (ns.map D.int)),x1,x2]) h fun o _=> ∃ sd,o= .nx sd:=zih hb r fun y hy=>hd y (qan _ hy)
  rw [zb8]
  generalize za9 (fun x sd=>do let sd1<-zaB 1 x sd;zeZ sd1) r=zbs at ih ⊢
  simp only [zeZ]
  ac_nf0
  refine zrM hb i0 i1 fun z=> ?_
  have qb:Bx h.length (h++[.lst [.int z]]):=⟨z,by simp⟩
  generalize h.length=b at qb ⊢
  generalize h++[.lst [.int z]]=h1 at qb ⊢
  ac_nf0
  refine zm2 qb fun m os h2 q2 s f l=> ?_
  ac_nf0
  refine (ziJ s ((zc7 (by have:=s.m0;omega)).mp f) l).wp fun h3 g3=> ?_
  have q3:=(Gro.ext q2 g3).1
  ac_nf0
  refine zkO q3 (by decide) (by decide) (by decide) (by decide) fun m' os' h4 q4 s' f' l' _=> ?_
  ac_nf0
  refine (ziJ s' ((zc7 (by have:=s'.m0;omega)).mp f') (by omega)).wp fun h5 g5=> ?_
  ac_nf0
  exact ih
theorem zmF: ∀ ns:List Int,ns.length<=63->(∀ i∈ns,Builtin.Int.intBits i<=2^20)-> ∃ h',F_50 [.scr (ns.map D.int)] []= .ok (.bl true) h':=by
 intro ns _ hb
 have key:wp (F_50 [.scr (ns.map D.int)]) [] fun d _=>d= .bl true:=by
  rw [d_50]
  simp only [G_50]
  ac_nf0
  simp only [znO]
  ac_nf0
  simp only [zts]
  ac_nf0
  generalize hn:(if (if (3:Int)<(ns.length:Int) then (3:Int) else (ns.length:Int))>1 then (if (3:Int)<(ns.length:Int) then (3:Int) else (ns.length:Int)) else (1:Int))=n
  have n0:0<=n/\n<=6:=by
   rw [<- hn]
   split<;>split<;>omega
  rw [zb7 n0.1 (by omega)]
  ac_nf0
  refine zd9 (zih hb _ fun d hd=> ?_) ?_
  ·obtain ⟨i,e,i0,i1⟩:=zkE hd
   exact ⟨i,e,i0,by omega⟩
  ·rintro o h' ⟨sd,rfl⟩
   ac_nf0
 obtain ⟨d,h',e,rfl⟩:=key
 exact ⟨h',e⟩
end K66
namespace K66
open PySem PySem.Spec PyProof.Rows L2 L3
theorem zr7 {l:W.OpenLaw} {w:World} {K:W.Frag} {h:Heap} {mg:Str->Option Value} {fa a_42 a_43 a_44 a_38 a_14 a_15 a_9 a_11 a_35 a_34 a_33 a_30 a_29 a_24 a_16 a_32 a_31 a_25 a_18 a_17 a_37 a_36 a_26 a_4 a_3 a_5 a_7 a_6 a_23 a_22 a_21 a_41 a_8 a_12 a_13 a_19 a_20 a_28 a_10 a_40 a_39 a_27 a_49 a_45 a_46 a_47 a_48 a_50:Addr} (X:K.In h) (G:h.Ns mainGlobals mg) (hfa:mg "law"=some (.ref fa))
  {od_50 an_50:Option Addr} {sl_50:Array (Option Value)} {oc_50 kV_50 dc_50 pm_50 cd_50 ct_50:Value}
  {d_42 d_43 d_44 d_38 d_14 d_15 d_9 d_11 d_35 d_34 d_33 d_30 d_29 d_24 d_16 d_32 d_31 d_25 d_18 d_17 d_37 d_36 d_26 d_4 d_3 d_5 d_7 d_6 d_23 d_22 d_21 d_41 d_8 d_12 d_13 d_19 d_20 d_28 d_10 d_40 d_39 d_27 d_49 d_45 d_46 d_47 d_48:FuncData}
  {tk_MOST_OFFERS tk_MOST_THINGS:Tok}
  (f_42:Fd K "_law_cell" s_42 a_42 d_42)
  (f_43:Fd K "_law_mix" s_43 a_43 d_43)
  (f_44:Fd K "_law_box" s_44 a_44 d_44)
  (f_38:Fd K "not_ruled" s_38 a_38 d_38)
  (f_14:Fd K "things_together" s_14 a_14 d_14)
  (f_15:Fd K "have_all" s_15 a_15 d_15)
  (f_9:Fd K "is_full" s_9 a_9 d_9)
  (f_11:Fd K "need_full" s_11 a_11 d_11)
  (f_35:Fd K "rules" s_35 a_35 d_35)
  (f_34:Fd K "ruled_by" s_34 a_34 d_34)
  (f_33:Fd K "are_among" s_33 a_33 d_33)
  (f_30:Fd K "as_good_offers" s_30 a_30 d_30)
  (f_29:Fd K "table_of_offers" s_29 a_29 d_29)
  (f_24:Fd K "ruled_offers" s_24 a_24 d_24)
  (f_16:Fd K "offers_with" s_16 a_16 d_16)
  (f_32:Fd K "as_scarce_things" s_32 a_32 d_32)
  (f_31:Fd K "table_of_things" s_31 a_31 d_31)
  (f_25:Fd K "ruled_things" s_25 a_25 d_25)
  (f_18:Fd K "narrowed" s_18 a_18 d_18)
  (f_17:Fd K "rest_of" s_17 a_17 d_17)
  (f_37:Fd K "behind_sweep" s_37 a_37 d_37)
  (f_36:Fd K "stays_by_sweeps" s_36 a_36 d_36)
  (f_26:Fd K "lesser_stock" s_26 a_26 d_26)
  (f_4:Fd K "is_pair" s_4 a_4 d_4)
  (f_3:Fd K "is_whole" s_3 a_3 d_3)
  (f_5:Fd K "is_rising" s_5 a_5 d_5)
  (f_7:Fd K "is_offer" s_7 a_7 d_7)
  (f_6:Fd K "is_stock" s_6 a_6 d_6)
  (f_23:Fd K "bits_of" s_23 a_23 d_23)
  (f_22:Fd K "known_lots" s_22 a_22 d_22)
  (f_21:Fd K "priced_covers" s_21 a_21 d_21)
  (f_41:Fd K "cheapest_cover" s_41 a_41 d_41)
  (f_8:Fd K "is_lot" s_8 a_8 d_8)
  (f_12:Fd K "need_lot" s_12 a_12 d_12)
  (f_13:Fd K "offers_of" s_13 a_13 d_13)
  (f_19:Fd K "is_cover" s_19 a_19 d_19)
  (f_20:Fd K "need_cover" s_20 a_20 d_20)
  (f_28:Fd K "led_back" s_28 a_28 d_28)
  (f_10:Fd K "price_of" s_10 a_10 d_10)
  (f_40:Fd K "missing" s_40 a_40 d_40)
  (f_39:Fd K "left_out" s_39 a_39 d_39)
  (f_27:Fd K "sweeps" s_27 a_27 d_27)
  (f_49:Fd K "_law_right" s_49 a_49 d_49)
  (f_45:Fd K "_law_take" s_45 a_45 d_45)
  (f_46:Fd K "_law_stock" s_46 a_46 d_46)
  (f_47:Fd K "_law_full" s_47 a_47 d_47)
  (f_48:Fd K "_law_alike_stock" s_48 a_48 d_48)
  (e_50:W.nsIn K mainGlobals "law"=some (some (.ref a_50))) (l_50:K.lookup a_50=some ⟨oc_50,od_50,.func (W.fnOf "law" "law" (zej s_50) (zdb s_50) (zae s_50) .none kV_50 dc_50 pm_50 an_50 cd_50 ct_50),sl_50⟩) (c_50:W.codeIn K cd_50 "law"=true) (k_50:W.keepIn K (.ref a_50)=true)
  (z_all:W.nsIn K mainGlobals "all"=some none)
  (z_bool:W.nsIn K mainGlobals "bool"=some none)
  (z_divmod:W.nsIn K mainGlobals "divmod"=some none)
  (z_enumerate:W.nsIn K mainGlobals "enumerate"=some none)
  (z_int:W.nsIn K mainGlobals "int"=some none)
  (z_isinstance:W.nsIn K mainGlobals "isinstance"=some none)
  (z_len:W.nsIn K mainGlobals "len"=some none)
  (z_list:W.nsIn K mainGlobals "list"=some none)
  (z_max:W.nsIn K mainGlobals "max"=some none)
  (z_min:W.nsIn K mainGlobals "min"=some none)
  (z_range:W.nsIn K mainGlobals "range"=some none)
  (z_set:W.nsIn K mainGlobals "set"=some none)
  (z_sorted:W.nsIn K mainGlobals "sorted"=some none)
  (z_sum:W.nsIn K mainGlobals "sum"=some none)
  (z_tuple:W.nsIn K mainGlobals "tuple"=some none)
  (y_MOST_OFFERS:W.nsIn K mainGlobals "MOST_OFFERS"=some (some (.int 12 tk_MOST_OFFERS)))
  (y_MOST_THINGS:W.nsIn K mainGlobals "MOST_THINGS"=some (some (.int 10 tk_MOST_THINGS)))
  : ∃ fd:FuncData,(∀ (s:Shared) (v:Value),BindsTo s fd ⟨[v],[]⟩ [("script",v)])/\ ∀ base:Heap,K.In base->base.Ns mainGlobals mg->zbn l.prog w K mg base CX0 11 fa fd ["script"] (zbH K 1 F_50):=by
 have e:=hfa.symm.trans (W.mg_of X G e_50)
 cases e
 have F_50:=zav (st:=s_50) l_50 c_50 k_50
 have b_50:=F_50.binds (ps:=["script"]) fun _ _ _ _ _ _ us hl=>match us,hl with | [_],_=>rfl
 have T:Tx K mg ⟨a_42,_,a_43,_,a_44,_,a_38,_,a_14,_,a_15,_,a_9,_,a_11,_,a_35,_,a_34,_,a_33,_,a_30,_,a_29,_,a_24,_,a_16,_,a_32,_,a_31,_,a_25,_,a_18,_,a_17,_,a_37,_,a_36,_,a_26,_,a_4,_,a_3,_,a_5,_,a_7,_,a_6,_,a_23,_,a_22,_,a_21,_,a_41,_,a_8,_,a_12,_,a_13,_,a_19,_,a_20,_,a_28,_,a_10,_,a_40,_,a_39,_,a_27,_,a_49,_,a_45,_,a_46,_,a_47,_,a_48,_,fa,_⟩:=
  {n_all:=W.mg_none_of X G z_all,
    n_bool:=W.mg_none_of X G z_bool,
    n_divmod:=W.mg_none_of X G z_divmod,
    n_enumerate:=W.mg_none_of X G z_enumerate,
    n_int:=W.mg_none_of X G z_int,
    n_isinstance:=W.mg_none_of X G z_isinstance,
    n_len:=W.mg_none_of X G z_len,
    n_list:=W.mg_none_of X G z_list,
    n_max:=W.mg_none_of X G z_max,
    n_min:=W.mg_none_of X G z_min,
    n_range:=W.mg_none_of X G z_range,
    n_set:=W.mg_none_of X G z_set,
    n_sorted:=W.mg_none_of X G z_sorted,
    n_sum:=W.mg_none_of X G z_sum,
    n_tuple:=W.mg_none_of X G z_tuple,
    c_MOST_OFFERS:=⟨tk_MOST_OFFERS,W.mg_of X G y_MOST_OFFERS⟩,
    c_MOST_THINGS:=⟨tk_MOST_THINGS,W.mg_of X G y_MOST_THINGS⟩,
    m_42:=W.mg_of X G f_42.e,
    F_42:=f_42.F,
    b_42:=f_42.F.binds (ps:=["script","k"]) fun _ _ _ _ _ _ us hl=>match us,hl with | [_,_],_=>rfl,
    m_43:=W.mg_of X G f_43.e,
    F_43:=f_43.F,
    b_43:=f_43.F.binds (ps:=["cell","k"]) fun _ _ _ _ _ _ us hl=>match us,hl with | [_,_],_=>rfl,
    m_44:=W.mg_of X G f_44.e,
    F_44:=f_44.F,
    b_44:=f_44.F.binds (ps:=["script","k"]) fun _ _ _ _ _ _ us hl=>match us,hl with | [_,_],_=>rfl,
    m_38:=W.mg_of X G f_38.e,
    F_38:=f_38.F,
    b_38:=f_38.F.binds (ps:=["count","ruled"]) fun _ _ _ _ _ _ us hl=>match us,hl with | [_,_],_=>rfl,
    m_14:=W.mg_of X G f_14.e,
    F_14:=f_14.F,
    b_14:=f_14.F.binds (ps:=["offers"]) fun _ _ _ _ _ _ us hl=>match us,hl with | [_],_=>rfl,
    m_15:=W.mg_of X G f_15.e,
    F_15:=f_15.F,
    b_15:=f_15.F.binds (ps:=["stock","offers"]) fun _ _ _ _ _ _ us hl=>match us,hl with | [_,_],_=>rfl,
    m_9:=W.mg_of X G f_9.e,
    F_9:=f_9.F,
    b_9:=f_9.F.binds (ps:=["stock"]) fun _ _ _ _ _ _ us hl=>match us,hl with | [_],_=>rfl,
    m_11:=W.mg_of X G f_11.e,
    F_11:=f_11.F,
    b_11:=f_11.F.binds (ps:=["stock"]) fun _ _ _ _ _ _ us hl=>match us,hl with | [_],_=>rfl,
    m_35:=W.mg_of X G f_35.e,
    F_35:=f_35.F,
    b_35:=f_35.F.binds (ps:=["table","other","number"]) fun _ _ _ _ _ _ us hl=>match us,hl with | [_,_,_],_=>rfl,
    m_34:=W.mg_of X G f_34.e,
    F_34:=f_34.F,
    b_34:=f_34.F.binds (ps:=["table"]) fun _ _ _ _ _ _ us hl=>match us,hl with | [_],_=>rfl,
    m_33:=W.mg_of X G f_33.e,
    F_33:=f_33.F,
    b_33:=f_33.F.binds (ps:=["numbers","others"]) fun _ _ _ _ _ _ us hl=>match us,hl with | [_,_],_=>rfl,
    m_30:=W.mg_of X G f_30.e,
    F_30:=f_30.F,
    b_30:=f_30.F.binds (ps:=["stock","offer"]) fun _ _ _ _ _ _ us hl=>match us,hl with | [_,_],_=>rfl,
    m_29:=W.mg_of X G f_29.e,
    F_29:=f_29.F,
    b_29:=f_29.F.binds (ps:=["stock"]) fun _ _ _ _ _ _ us hl=>match us,hl with | [_],_=>rfl,
    m_24:=W.mg_of X G f_24.e,
    F_24:=f_24.F,
    b_24:=f_24.F.binds (ps:=["stock"]) fun _ _ _ _ _ _ us hl=>match us,hl with | [_],_=>rfl,
    m_16:=W.mg_of X G f_16.e,
    F_16:=f_16.F,
    b_16:=f_16.F.binds (ps:=["stock","thing"]) fun _ _ _ _ _ _ us hl=>match us,hl with | [_,_],_=>rfl,
    m_32:=W.mg_of X G f_32.e,
    F_32:=f_32.F,
    b_32:=f_32.F.binds (ps:=["stock","thing"]) fun _ _ _ _ _ _ us hl=>match us,hl with | [_,_],_=>rfl,
    m_31:=W.mg_of X G f_31.e,
    F_31:=f_31.F,
    b_31:=f_31.F.binds (ps:=["stock"]) fun _ _ _ _ _ _ us hl=>match us,hl with | [_],_=>rfl,
    m_25:=W.mg_of X G f_25.e,
    F_25:=f_25.F,
    b_25:=f_25.F.binds (ps:=["stock"]) fun _ _ _ _ _ _ us hl=>match us,hl with | [_],_=>rfl,
    m_18:=W.mg_of X G f_18.e,
    F_18:=f_18.F,
    b_18:=f_18.F.binds (ps:=["offer","things"]) fun _ _ _ _ _ _ us hl=>match us,hl with | [_,_],_=>rfl,
    m_17:=W.mg_of X G f_17.e,
    F_17:=f_17.F,
    b_17:=f_17.F.binds (ps:=["stock","things","numbers"]) fun _ _ _ _ _ _ us hl=>match us,hl with | [_,_,_],_=>rfl,
    m_37:=W.mg_of X G f_37.e,
    F_37:=f_37.F,
    b_37:=f_37.F.binds (ps:=["stay"]) fun _ _ _ _ _ _ us hl=>match us,hl with | [_],_=>rfl,
    m_36:=W.mg_of X G f_36.e,
    F_36:=f_36.F,
    b_36:=f_36.F.binds (ps:=["stock"]) fun _ _ _ _ _ _ us hl=>match us,hl with | [_],_=>rfl,
    m_26:=W.mg_of X G f_26.e,
    F_26:=f_26.F,
    b_26:=f_26.F.binds (ps:=["stock"]) fun _ _ _ _ _ _ us hl=>match us,hl with | [_],_=>rfl,
    m_4:=W.mg_of X G f_4.e,
    F_4:=f_4.F,
    b_4:=f_4.F.binds (ps:=["thing"]) fun _ _ _ _ _ _ us hl=>match us,hl with | [_],_=>rfl,
    m_3:=W.mg_of X G f_3.e,
    F_3:=f_3.F,
    b_3:=f_3.F.binds (ps:=["thing"]) fun _ _ _ _ _ _ us hl=>match us,hl with | [_],_=>rfl,
    m_5:=W.mg_of X G f_5.e,
    F_5:=f_5.F,
    b_5:=f_5.F.binds (ps:=["thing","bound"]) fun _ _ _ _ _ _ us hl=>match us,hl with | [_,_],_=>rfl,
    m_7:=W.mg_of X G f_7.e,
    F_7:=f_7.F,
    b_7:=f_7.F.binds (ps:=["thing","many"]) fun _ _ _ _ _ _ us hl=>match us,hl with | [_,_],_=>rfl,
    m_6:=W.mg_of X G f_6.e,
    F_6:=f_6.F,
    b_6:=f_6.F.binds (ps:=["thing"]) fun _ _ _ _ _ _ us hl=>match us,hl with | [_],_=>rfl,
    m_23:=W.mg_of X G f_23.e,
    F_23:=f_23.F,
    b_23:=f_23.F.binds (ps:=["many","things"]) fun _ _ _ _ _ _ us hl=>match us,hl with | [_,_],_=>rfl,
    m_22:=W.mg_of X G f_22.e,
    F_22:=f_22.F,
    b_22:=f_22.F.binds (ps:=["stock"]) fun _ _ _ _ _ _ us hl=>match us,hl with | [_],_=>rfl,
    m_21:=W.mg_of X G f_21.e,
    F_21:=f_21.F,
    b_21:=f_21.F.binds (ps:=["stock"]) fun _ _ _ _ _ _ us hl=>match us,hl with | [_],_=>rfl,
    m_41:=W.mg_of X G f_41.e,
    F_41:=f_41.F,
    b_41:=f_41.F.binds (ps:=["stock"]) fun _ _ _ _ _ _ us hl=>match us,hl with | [_],_=>rfl,
    m_8:=W.mg_of X G f_8.e,
    F_8:=f_8.F,
    b_8:=f_8.F.binds (ps:=["stock","thing"]) fun _ _ _ _ _ _ us hl=>match us,hl with | [_,_],_=>rfl,
    m_12:=W.mg_of X G f_12.e,
    F_12:=f_12.F,
    b_12:=f_12.F.binds (ps:=["stock","lot"]) fun _ _ _ _ _ _ us hl=>match us,hl with | [_,_],_=>rfl,
    m_13:=W.mg_of X G f_13.e,
    F_13:=f_13.F,
    b_13:=f_13.F.binds (ps:=["stock","lot"]) fun _ _ _ _ _ _ us hl=>match us,hl with | [_,_],_=>rfl,
    m_19:=W.mg_of X G f_19.e,
    F_19:=f_19.F,
    b_19:=f_19.F.binds (ps:=["stock","thing"]) fun _ _ _ _ _ _ us hl=>match us,hl with | [_,_],_=>rfl,
    m_20:=W.mg_of X G f_20.e,
    F_20:=f_20.F,
    b_20:=f_20.F.binds (ps:=["stock","cover"]) fun _ _ _ _ _ _ us hl=>match us,hl with | [_,_],_=>rfl,
    m_28:=W.mg_of X G f_28.e,
    F_28:=f_28.F,
    b_28:=f_28.F.binds (ps:=["stock","lot"]) fun _ _ _ _ _ _ us hl=>match us,hl with | [_,_],_=>rfl,
    m_10:=W.mg_of X G f_10.e,
    F_10:=f_10.F,
    b_10:=f_10.F.binds (ps:=["stock","lot"]) fun _ _ _ _ _ _ us hl=>match us,hl with | [_,_],_=>rfl,
    m_40:=W.mg_of X G f_40.e,
    F_40:=f_40.F,
    b_40:=f_40.F.binds (ps:=["numbers","others"]) fun _ _ _ _ _ _ us hl=>match us,hl with | [_,_],_=>rfl,
    m_39:=W.mg_of X G f_39.e,
    F_39:=f_39.F,
    b_39:=f_39.F.binds (ps:=["stay","later"]) fun _ _ _ _ _ _ us hl=>match us,hl with | [_,_],_=>rfl,
    m_27:=W.mg_of X G f_27.e,
    F_27:=f_27.F,
    b_27:=f_27.F.binds (ps:=["stock"]) fun _ _ _ _ _ _ us hl=>match us,hl with | [_],_=>rfl,
    m_49:=W.mg_of X G f_49.e,
    F_49:=f_49.F,
    b_49:=f_49.F.binds (ps:=["stock"]) fun _ _ _ _ _ _ us hl=>match us,hl with | [_],_=>rfl,
    m_45:=W.mg_of X G f_45.e,
    F_45:=f_45.F,
    b_45:=f_45.F.binds (ps:=["box","many"]) fun _ _ _ _ _ _ us hl=>match us,hl with | [_,_],_=>rfl,
    m_46:=W.mg_of X G f_46.e,
    F_46:=f_46.F,
    b_46:=f_46.F.binds (ps:=["box","most_things","most_offers"]) fun _ _ _ _ _ _ us hl=>match us,hl with | [_,_,_],_=>rfl,
    m_47:=W.mg_of X G f_47.e,
    F_47:=f_47.F,
    b_47:=f_47.F.binds (ps:=["box","most_things","most_offers"]) fun _ _ _ _ _ _ us hl=>match us,hl with | [_,_,_],_=>rfl,
    m_48:=W.mg_of X G f_48.e,
    F_48:=f_48.F,
    b_48:=f_48.F.binds (ps:=["box"]) fun _ _ _ _ _ _ us hl=>match us,hl with | [_],_=>rfl,
    m_50:=W.mg_of X G e_50,
    F_50:=F_50,
    b_50:=b_50}
 exact ⟨W.fnOf "law" "law" (zej s_50) (zdb s_50) (zae s_50) .none kV_50 dc_50 pm_50 an_50 cd_50 ct_50,fun s v=> .of_eq rfl,fun base _ _=>ok_50 T⟩
theorem zuc {l:W.OpenLaw} {q:Program} {loose:List Str} {XP:(Str->Option Value)->Heap->Prop} {YP:World->Heap->Prop} {d:DefRec} {K:Params->W.Frag} (hn:l.most=some 63) (hdf:d.params.defaults=[])
  (hY: ∀ (w:World) (h:Heap),YP w h->(K w.params).In h)
  (F: ∀ (w:World) (mg:Str->Option Value) (fa:Addr) (h:Heap),(K w.params).In h->h.Ns mainGlobals mg->mg d.name=some (.ref fa)->
    ∃ fd:FuncData,(∀ (s:Shared) (u:Value),BindsTo s fd ⟨[u],[]⟩ [("script",u)])/\ ∀ base:Heap,(K w.params).In base->base.Ns mainGlobals mg->zbn l.prog w (K w.params) mg base CX0 11 fa fd ["script"] (zbH (K w.params) 1 F_50))
  (hm: ∀ ns:List Int,ns.length<=63->(∀ i∈ns,Builtin.Int.intBits i<=2^20)-> ∃ h',F_50 [.scr (ns.map D.int)] []= .ok (.bl true) h'):
  W.WalkO q loose XP YP l.row.toRowW d [] (fun f vs=>PySem.call f vs):=
 L2.zmJ (n:=63) (k:=11) (x:="script") (CX:=fun _=>CX0) (sp:=fun w=>zbH (K w.params) 1 F_50) hn (by decide) hdf ⟨rfl,by decide,by decide⟩ hY F (fun w H a ns hl hw hS=>zs4 hS (hm ns hl hw)) fun _ _ _ _ _ z=>z
end K66
open PySem PySem.W PyProof.Rows
set_option maxRecDepth 100000 in
set_option maxHeartbeats 0 in
theorem PySem.Challenge.cw_cheapcovers_k66_whole_prices_stay_holds : PySem.Challenge.rw_cheapcovers_k66_whole_prices_stay.Holds := by
 w_on; o_law; k_head; (case hw => w_witness2)
 k_fill
 refine K66.zuc (l := PySem.Challenge.rw_cheapcovers_k66_whole_prices_stay) rfl rfl (fun w h Y => W.kIn_of Y) ?F K66.zmF
 case F =>
  intro w mg fa h KX G hmg
  refine' K66.zr7 KX G hmg (L3.Fd.mk ?e__law_cell (L2.zav ?l__law_cell ?c__law_cell ?k__law_cell)) (L3.Fd.mk ?e__law_mix (L2.zav ?l__law_mix ?c__law_mix ?k__law_mix)) (L3.Fd.mk ?e__law_box (L2.zav ?l__law_box ?c__law_box ?k__law_box)) (L3.Fd.mk ?e_not_ruled (L2.zav ?l_not_ruled ?c_not_ruled ?k_not_ruled)) (L3.Fd.mk ?e_things_together (L2.zav ?l_things_together ?c_things_together ?k_things_together)) (L3.Fd.mk ?e_have_all (L2.zav ?l_have_all ?c_have_all ?k_have_all)) (L3.Fd.mk ?e_is_full (L2.zav ?l_is_full ?c_is_full ?k_is_full)) (L3.Fd.mk ?e_need_full (L2.zav ?l_need_full ?c_need_full ?k_need_full)) (L3.Fd.mk ?e_rules (L2.zav ?l_rules ?c_rules ?k_rules)) (L3.Fd.mk ?e_ruled_by (L2.zav ?l_ruled_by ?c_ruled_by ?k_ruled_by)) (L3.Fd.mk ?e_are_among (L2.zav ?l_are_among ?c_are_among ?k_are_among)) (L3.Fd.mk ?e_as_good_offers (L2.zav ?l_as_good_offers ?c_as_good_offers ?k_as_good_offers)) (L3.Fd.mk ?e_table_of_offers (L2.zav ?l_table_of_offers ?c_table_of_offers ?k_table_of_offers)) (L3.Fd.mk ?e_ruled_offers (L2.zav ?l_ruled_offers ?c_ruled_offers ?k_ruled_offers)) (L3.Fd.mk ?e_offers_with (L2.zav ?l_offers_with ?c_offers_with ?k_offers_with)) (L3.Fd.mk ?e_as_scarce_things (L2.zav ?l_as_scarce_things ?c_as_scarce_things ?k_as_scarce_things)) (L3.Fd.mk ?e_table_of_things (L2.zav ?l_table_of_things ?c_table_of_things ?k_table_of_things)) (L3.Fd.mk ?e_ruled_things (L2.zav ?l_ruled_things ?c_ruled_things ?k_ruled_things)) (L3.Fd.mk ?e_narrowed (L2.zav ?l_narrowed ?c_narrowed ?k_narrowed)) (L3.Fd.mk ?e_rest_of (L2.zav ?l_rest_of ?c_rest_of ?k_rest_of)) (L3.Fd.mk ?e_behind_sweep (L2.zav ?l_behind_sweep ?c_behind_sweep ?k_behind_sweep)) (L3.Fd.mk ?e_stays_by_sweeps (L2.zav ?l_stays_by_sweeps ?c_stays_by_sweeps ?k_stays_by_sweeps)) (L3.Fd.mk ?e_lesser_stock (L2.zav ?l_lesser_stock ?c_lesser_stock ?k_lesser_stock)) (L3.Fd.mk ?e_is_pair (L2.zav ?l_is_pair ?c_is_pair ?k_is_pair)) (L3.Fd.mk ?e_is_whole (L2.zav ?l_is_whole ?c_is_whole ?k_is_whole)) (L3.Fd.mk ?e_is_rising (L2.zav ?l_is_rising ?c_is_rising ?k_is_rising)) (L3.Fd.mk ?e_is_offer (L2.zav ?l_is_offer ?c_is_offer ?k_is_offer)) (L3.Fd.mk ?e_is_stock (L2.zav ?l_is_stock ?c_is_stock ?k_is_stock)) (L3.Fd.mk ?e_bits_of (L2.zav ?l_bits_of ?c_bits_of ?k_bits_of)) (L3.Fd.mk ?e_known_lots (L2.zav ?l_known_lots ?c_known_lots ?k_known_lots)) (L3.Fd.mk ?e_priced_covers (L2.zav ?l_priced_covers ?c_priced_covers ?k_priced_covers)) (L3.Fd.mk ?e_cheapest_cover (L2.zav ?l_cheapest_cover ?c_cheapest_cover ?k_cheapest_cover)) (L3.Fd.mk ?e_is_lot (L2.zav ?l_is_lot ?c_is_lot ?k_is_lot)) (L3.Fd.mk ?e_need_lot (L2.zav ?l_need_lot ?c_need_lot ?k_need_lot)) (L3.Fd.mk ?e_offers_of (L2.zav ?l_offers_of ?c_offers_of ?k_offers_of)) (L3.Fd.mk ?e_is_cover (L2.zav ?l_is_cover ?c_is_cover ?k_is_cover)) (L3.Fd.mk ?e_need_cover (L2.zav ?l_need_cover ?c_need_cover ?k_need_cover)) (L3.Fd.mk ?e_led_back (L2.zav ?l_led_back ?c_led_back ?k_led_back)) (L3.Fd.mk ?e_price_of (L2.zav ?l_price_of ?c_price_of ?k_price_of)) (L3.Fd.mk ?e_missing (L2.zav ?l_missing ?c_missing ?k_missing)) (L3.Fd.mk ?e_left_out (L2.zav ?l_left_out ?c_left_out ?k_left_out)) (L3.Fd.mk ?e_sweeps (L2.zav ?l_sweeps ?c_sweeps ?k_sweeps)) (L3.Fd.mk ?e__law_right (L2.zav ?l__law_right ?c__law_right ?k__law_right)) (L3.Fd.mk ?e__law_take (L2.zav ?l__law_take ?c__law_take ?k__law_take)) (L3.Fd.mk ?e__law_stock (L2.zav ?l__law_stock ?c__law_stock ?k__law_stock)) (L3.Fd.mk ?e__law_full (L2.zav ?l__law_full ?c__law_full ?k__law_full)) (L3.Fd.mk ?e__law_alike_stock (L2.zav ?l__law_alike_stock ?c__law_alike_stock ?k__law_alike_stock)) ?e_law ?l_law ?c_law ?k_law ?z_all ?z_bool ?z_divmod ?z_enumerate ?z_int ?z_isinstance ?z_len ?z_list ?z_max ?z_min ?z_range ?z_set ?z_sorted ?z_sum ?z_tuple ?y_MOST_OFFERS ?y_MOST_THINGS
  (case e__law_cell => k_is)
  (case l__law_cell => k_is)
  (case c__law_cell => k_is)
  (case k__law_cell => k_is)
  (case e__law_mix => k_is)
  (case l__law_mix => k_is)
  (case c__law_mix => k_is)
  (case k__law_mix => k_is)
  (case e__law_box => k_is)
  (case l__law_box => k_is)
  (case c__law_box => k_is)
  (case k__law_box => k_is)
  (case e_not_ruled => k_is)
  (case l_not_ruled => k_is)
  (case c_not_ruled => k_is)
  (case k_not_ruled => k_is)
  (case e_things_together => k_is)
  (case l_things_together => k_is)
  (case c_things_together => k_is)
  (case k_things_together => k_is)
  (case e_have_all => k_is)
  (case l_have_all => k_is)
  (case c_have_all => k_is)
  (case k_have_all => k_is)
  (case e_is_full => k_is)
  (case l_is_full => k_is)
  (case c_is_full => k_is)
  (case k_is_full => k_is)
  (case e_need_full => k_is)
  (case l_need_full => k_is)
  (case c_need_full => k_is)
  (case k_need_full => k_is)
  (case e_rules => k_is)
  (case l_rules => k_is)
  (case c_rules => k_is)
  (case k_rules => k_is)
  (case e_ruled_by => k_is)
  (case l_ruled_by => k_is)
  (case c_ruled_by => k_is)
  (case k_ruled_by => k_is)
  (case e_are_among => k_is)
  (case l_are_among => k_is)
  (case c_are_among => k_is)
  (case k_are_among => k_is)
  (case e_as_good_offers => k_is)
  (case l_as_good_offers => k_is)
  (case c_as_good_offers => k_is)
  (case k_as_good_offers => k_is)
  (case e_table_of_offers => k_is)
  (case l_table_of_offers => k_is)
  (case c_table_of_offers => k_is)
  (case k_table_of_offers => k_is)
  (case e_ruled_offers => k_is)
  (case l_ruled_offers => k_is)
  (case c_ruled_offers => k_is)
  (case k_ruled_offers => k_is)
  (case e_offers_with => k_is)
  (case l_offers_with => k_is)
  (case c_offers_with => k_is)
  (case k_offers_with => k_is)
  (case e_as_scarce_things => k_is)
  (case l_as_scarce_things => k_is)
  (case c_as_scarce_things => k_is)
  (case k_as_scarce_things => k_is)
  (case e_table_of_things => k_is)
  (case l_table_of_things => k_is)
  (case c_table_of_things => k_is)
  (case k_table_of_things => k_is)
  (case e_ruled_things => k_is)
  (case l_ruled_things => k_is)
  (case c_ruled_things => k_is)
  (case k_ruled_things => k_is)
  (case e_narrowed => k_is)
  (case l_narrowed => k_is)
  (case c_narrowed => k_is)
  (case k_narrowed => k_is)
  (case e_rest_of => k_is)
  (case l_rest_of => k_is)
  (case c_rest_of => k_is)
  (case k_rest_of => k_is)
  (case e_behind_sweep => k_is)
  (case l_behind_sweep => k_is)
  (case c_behind_sweep => k_is)
  (case k_behind_sweep => k_is)
  (case e_stays_by_sweeps => k_is)
  (case l_stays_by_sweeps => k_is)
  (case c_stays_by_sweeps => k_is)
  (case k_stays_by_sweeps => k_is)
  (case e_lesser_stock => k_is)
  (case l_lesser_stock => k_is)
  (case c_lesser_stock => k_is)
  (case k_lesser_stock => k_is)
  (case e_is_pair => k_is)
  (case l_is_pair => k_is)
  (case c_is_pair => k_is)
  (case k_is_pair => k_is)
  (case e_is_whole => k_is)
  (case l_is_whole => k_is)
  (case c_is_whole => k_is)
  (case k_is_whole => k_is)
  (case e_is_rising => k_is)
  (case l_is_rising => k_is)
  (case c_is_rising => k_is)
  (case k_is_rising => k_is)
  (case e_is_offer => k_is)
  (case l_is_offer => k_is)
  (case c_is_offer => k_is)
  (case k_is_offer => k_is)
  (case e_is_stock => k_is)
  (case l_is_stock => k_is)
  (case c_is_stock => k_is)
  (case k_is_stock => k_is)
  (case e_bits_of => k_is)
  (case l_bits_of => k_is)
  (case c_bits_of => k_is)
  (case k_bits_of => k_is)
  (case e_known_lots => k_is)
  (case l_known_lots => k_is)
  (case c_known_lots => k_is)
  (case k_known_lots => k_is)
  (case e_priced_covers => k_is)
  (case l_priced_covers => k_is)
  (case c_priced_covers => k_is)
  (case k_priced_covers => k_is)
  (case e_cheapest_cover => k_is)
  (case l_cheapest_cover => k_is)
  (case c_cheapest_cover => k_is)
  (case k_cheapest_cover => k_is)
  (case e_is_lot => k_is)
  (case l_is_lot => k_is)
  (case c_is_lot => k_is)
  (case k_is_lot => k_is)
  (case e_need_lot => k_is)
  (case l_need_lot => k_is)
  (case c_need_lot => k_is)
  (case k_need_lot => k_is)
  (case e_offers_of => k_is)
  (case l_offers_of => k_is)
  (case c_offers_of => k_is)
  (case k_offers_of => k_is)
  (case e_is_cover => k_is)
  (case l_is_cover => k_is)
  (case c_is_cover => k_is)
  (case k_is_cover => k_is)
  (case e_need_cover => k_is)
  (case l_need_cover => k_is)
  (case c_need_cover => k_is)
  (case k_need_cover => k_is)
  (case e_led_back => k_is)
  (case l_led_back => k_is)
  (case c_led_back => k_is)
  (case k_led_back => k_is)
  (case e_price_of => k_is)
  (case l_price_of => k_is)
  (case c_price_of => k_is)
  (case k_price_of => k_is)
  (case e_missing => k_is)
  (case l_missing => k_is)
  (case c_missing => k_is)
  (case k_missing => k_is)
  (case e_left_out => k_is)
  (case l_left_out => k_is)
  (case c_left_out => k_is)
  (case k_left_out => k_is)
  (case e_sweeps => k_is)
  (case l_sweeps => k_is)
  (case c_sweeps => k_is)
  (case k_sweeps => k_is)
  (case e__law_right => k_is)
  (case l__law_right => k_is)
  (case c__law_right => k_is)
  (case k__law_right => k_is)
  (case e__law_take => k_is)
  (case l__law_take => k_is)
  (case c__law_take => k_is)
  (case k__law_take => k_is)
  (case e__law_stock => k_is)
  (case l__law_stock => k_is)
  (case c__law_stock => k_is)
  (case k__law_stock => k_is)
  (case e__law_full => k_is)
  (case l__law_full => k_is)
  (case c__law_full => k_is)
  (case k__law_full => k_is)
  (case e__law_alike_stock => k_is)
  (case l__law_alike_stock => k_is)
  (case c__law_alike_stock => k_is)
  (case k__law_alike_stock => k_is)
  (case e_law => k_is)
  (case l_law => k_is)
  (case c_law => k_is)
  (case k_law => k_is)
  (case z_all => k_is)
  (case z_bool => k_is)
  (case z_divmod => k_is)
  (case z_enumerate => k_is)
  (case z_int => k_is)
  (case z_isinstance => k_is)
  (case z_len => k_is)
  (case z_list => k_is)
  (case z_max => k_is)
  (case z_min => k_is)
  (case z_range => k_is)
  (case z_set => k_is)
  (case z_sorted => k_is)
  (case z_sum => k_is)
  (case z_tuple => k_is)
  (case y_MOST_OFFERS => k_is)
  (case y_MOST_THINGS => k_is)
