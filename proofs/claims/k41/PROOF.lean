import PyProof.Rows.All
import Wide.All
import OpenK.AllK
import Wide.FinOn
import PyProof.EqAt
import PyProof.EqKinds
import PyProof.TupleCall
import PyProof.StationsW
import PyProof.ExcArgs
import PyProof.Seq
import PyProof.TupleIter
import PyProof.RangeIter
import PyProof.WalkInts
import PyProof.SumWalkG
import PyProof.ListRange
import PyProof.Rows.Range3
import OpenK.KDescr
import PyProof.ExcAttrAll.ValueError
import PyProof.Draws
import PyProof.EnumFor
import PyProof.EnumMake
import PyProof.LayNew
import PyProof.Rows.EnumRows
import PyProof.MinMaxWalk
import Lean
import PySem.Challenge.RW_cheapcovers_k41_papers_of_cases_looked_a
set_option Elab.async false
set_option linter.all false
set_option maxRecDepth 100000
set_option maxHeartbeats 8000000
set_option compiler.extract_closed false
set_option bootstrap.genMatcherCode false
set_option genSizeOfSpec false
section
open PySem PySem.Spec PyProof PyProof.Rows
abbrev qaa := @List.getElem?_append_right
abbrev qab := @Array.getElem?_eq_some_iff
abbrev qac := @List.getElem?_eq_some_iff
abbrev qad := @List.getElem?_append_left
abbrev qae := @List.drop_eq_getElem_cons
abbrev qaf := @List.getElem?_eq_getElem
abbrev qag := @Heap.get?_push_of_some
abbrev qah := @Heap.get?_update_other
abbrev qai := @List.getElem?_set_self
abbrev qak := @List.mem_append_right
abbrev qal := @Heap.get?_update_self
abbrev qan := @List.mem_cons_of_mem
abbrev qao := @List.getElem?_set_ne
abbrev qap := @Around.under_plainId
abbrev qar := @Heap.get?_push_size
abbrev qas := @Array.length_toList
abbrev qat := @List.filterMap_cons
abbrev qau := @List.mem_cons_self
abbrev qav := @List.length_append
abbrev qaw := @Nat.lt_of_lt_of_le
abbrev qax := @Bool.false_eq_true
abbrev qay := @List.pairwise_cons
abbrev qaA := @List.size_toArray
abbrev qaB := @Int.toNat_natCast
abbrev qaC := @wpAny_newObj_type
abbrev qaD := @decide_eq_true_eq
abbrev qaE := @List.length_cons
abbrev qaF := @List.not_mem_nil
abbrev qaG := @Bool.and_eq_true
abbrev qaH := @List.length_map
abbrev qaI := @List.length_set
abbrev qaJ := @List.length_nil
abbrev qaK := @List.mem_append
abbrev qaL := @Heap.size_push
abbrev qaM := @List.map_cons
abbrev qaN := @Nat.lt_irrefl
abbrev qaO := @wpAny_holding
abbrev qaP := @List.mem_cons
abbrev qaQ := @Heap.lt_size
abbrev qaR := @Nat.ne_of_lt
abbrev qaS := @Nat.le_trans
abbrev qaT := @List.map_map
abbrev qaU := @List.mem_map
abbrev qaV := @Nat.le_refl
abbrev qaW := @wpAny_bind
abbrev qaX := @wpAny_pure
abbrev qaZ := @wpAny_mono
abbrev qa0 := @False.elim
abbrev qa4 := @if_pos
abbrev qa5 := @if_neg
end
noncomputable def PySem.W.Fast.tw2312721388444873050:Nat:=0
noncomputable def PySem.W.Fast.tw17360066769280186960:Nat:=0
noncomputable def PySem.W.Fast.tw1031493945987949665:Nat:=0
noncomputable def PySem.W.Fast.tw6192274909824141122:Nat:=0
noncomputable def PySem.W.Fast.tw4256358036399554167:Nat:=0
noncomputable def PySem.W.Fast.tw14431669437116171137:Nat:=0
noncomputable def PySem.W.Fast.tw6076569388538404405:Nat:=0
noncomputable def PySem.W.Fast.tw10256353825293535874:Nat:=0
noncomputable def PySem.W.Fast.tw18147639351672923187:Nat:=0
noncomputable def PySem.W.Fast.tw2382067340650573872:Nat:=0
noncomputable def PySem.W.Fast.tw12679197097708909803:Nat:=0
noncomputable def PySem.W.Fast.tw2743982321093082727:Nat:=0
noncomputable def PySem.W.Fast.tw4984153230802154052:Nat:=0
noncomputable def PySem.W.Fast.tw15638447609787681766:Nat:=0
noncomputable def PySem.W.Fast.tw2879494935217712674:Nat:=0
noncomputable def PySem.W.Fast.tw5122792591596495175:Nat:=0
namespace L3
open PySem
def zhN (h:Heap) (e:Addr) (cls head:Value):Prop:= ∃ ob vs,h.get? e=some ob/\ob.cls=cls/\ob.dict=none/\ob.data= .fields vs/\vs[2]? = some .none/\vs[1]? = some head
def zt4 (h B:Heap) (e:Addr) (head fl:Value):Prop:= ∃ T ot ts,head= .ref T/\B.get? T=none/\T≠e/\h.get? T=some ot/\ot.data= .fields ts/\ts[3]? = some fl
structure Fly (B:Heap) (l:List Env) (e:Addr) (cls fl:Value) (h:Heap):Prop where
 stays:B.StaysIn h
 new:B.get? e=none
 frames:h.FunFrames B l
 exc: ∃ head,zhN h e cls head/\zt4 h B e head fl
theorem zmB (o:Obj) (f):(o.mapFields f).dict=o.dict:=by
 obtain ⟨c,d,t,z⟩:=o
 cases t<;>rfl
section
variable {M:Model} {A:Around} {E:Value->Shared->Prop} {s:Shared} {B:Heap} {env:Env} {outer l:List Env} {L e:Addr} {cls head fl:Value}
theorem zh7 {hd0:Value} {hadNext:Bool} {Q:Unit->Shared->Prop} (hfr:A.frames=some (env::outer)) (hl:s.heap.FunFrames B (env::outer)) (hf:env.frame=some L) (hx:zhN s.heap e cls head)
  (hkb:B.StaysIn s.heap) (hen:B.get? e=none) (q: ∀ h',Fly B (env::outer) e cls (rawInt L) h'->s.heap.UpToSlots h'->Q () {s with heap:=h'}):
  wpAny M A (do let a<-frameOf env;let pl<-entryPlaceOf L hadNext;let b<-EntryCells.newEntry hd0 a .none (rawInt L) .none pl;setField (.ref e) 1 b) Q E s:=by
 obtain ⟨ob,vs,h1,h2,h3,h4,h5,h6⟩:=hx
 have hsz:1<vs.size:=(qab.mp h6).1
 have nfr:e∉(env::outer).filterMap (·.frame):=fun z=>by
  obtain ⟨_,o,ho,hn⟩:=hl.mem z
  rw [h1] at ho
  cases ho
  exact hn vs h4
 refine qaW (wpAny_frameOf_fun hfr hl hf fun g sg=> ?_)
 refine qaW (wpAny_entryPlaceOf fun pl hpl=> ?_)
 unfold EntryCells.newEntry newFields
 refine qaW (qaC ?_ (hpl.sizeOk5 _ _ _ _ _))
 have e1:g.get? e=some ob:=(sg.2.1 e nfr).trans h1
 have kb:B.StaysIn g:=fun b o z=>(sg.2.1 b fun w=>by rw [(hl.mem w).1] at z;cases z).trans (hkb b o z)
 generalize hob:({cls:= .type "traceback",dict:=none,data:= .fields ([hd0,.ref L,.none,rawInt L,.none]++(if pl.isEmpty then List.replicate 6 Value.none else pl)).toArray}:Obj)=tb
 have e2:(g.push tb).get? e=some ob:=qag _ e1
 have ne:g.objs.size≠e:=Nat.ne_of_gt (qaQ e1)
 have d3:=Obj.data_mapFields h4 (·.setIfInBounds 1 (Value.ref g.objs.size))
 have e3:=qal (Obj.mapFields (·.setIfInBounds 1 (Value.ref g.objs.size))) e2 (Obj.isFreed_of_fields d3)
 have ft:tb.isFreed=false:=by rw [<- hob];rfl
 have t3:((g.push tb).update e (Obj.mapFields (·.setIfInBounds 1 (Value.ref g.objs.size)))).get? g.objs.size=some tb:=(qah _ _ (Ne.symm ne)).trans (qar g ft)
 have stay: ∀ b o,b≠e->g.get? b=some o->((g.push tb).update e (Obj.mapFields (·.setIfInBounds 1 (Value.ref g.objs.size)))).get? b=some o:=fun b o hb z=>by
  rw [qah _ _ (Ne.symm hb)]
  exact qag _ z
 have nrec: ∀ b o,s.heap.get? b=some o->(∀ ws,o.data≠ .fields ws)->b≠e:=fun b o z hn w=>by
  rw [w,h1] at z
  cases z
  exact hn vs h4
 have ht: ∃ ts,tb.data= .fields ts/\ts[3]? = some (rawInt L):=⟨_,by rw [<- hob],by rcases hpl with rfl | ⟨_,_,_,_,_,_,_,rfl⟩<;>simp⟩
 obtain ⟨ts,ht1,ht2⟩:=ht
 refine wpAny_setField e2 h4 hsz (q _ ⟨fun b o z=>stay b o (fun w=>by rw [w,hen] at z;cases z) (kb b o z),hen,hl.of_keeps fun b o z hn=> ?_,.ref g.objs.size,⟨_,_,e3,(Obj.cls_mapFields _ _).trans h2,(zmB _ _).trans h3,d3,?_,?_⟩,g.objs.size,tb,ts,rfl,kb.fresh,ne,t3,ht1,ht2⟩ fun b o z hn=> ?_)
 ·obtain ⟨sl,hs⟩:=sg.2.2 b o z
  exact ⟨_,stay b _ (nrec b o z hn) hs,rfl⟩
 ·rw [Array.getElem?_setIfInBounds_ne (by decide)]
  exact h5
 ·simp [hsz]
 ·obtain ⟨sl,hs⟩:=sg.2.2 b o z
  exact ⟨sl,stay b _ (nrec b o z hn) hs⟩
theorem zja {Q:Unit->Shared->Prop} (hfr:A.frames=some (env::outer)) (hl:s.heap.FunFrames B (env::outer)) (hf:env.frame=some L) (hx:zhN s.heap e cls .none)
  (hkb:B.StaysIn s.heap) (hen:B.get? e=none) (q: ∀ h',Fly B (env::outer) e cls (rawInt L) h'->s.heap.UpToSlots h'->Q () {s with heap:=h'}):wpAny M A (noteFrame (.ref e) env) Q E s:=by
 obtain ⟨ob,vs,h1,h2,h3,h4,h5,h6⟩:=id hx
 unfold noteFrame
 simp only [hf]
 refine qaW (wpAny_field h1 h4 h6 ?_)
 rw [qa5 (by decide)]
 exact zh7 hfr hl hf hx hkb hen q
theorem zoq {Q:Unit->Shared->Prop} (hfr:A.frames=some (env::outer)) (hf:env.frame=some L) (y:Fly B (env::outer) e cls .none s.heap)
  (q: ∀ h',Fly B (env::outer) e cls (rawInt L) h'->s.heap.UpToSlots h'->Q () {s with heap:=h'}):wpAny M A (noteFrame (.ref e) env) Q E s:=by
 obtain ⟨hkb,hen,hl,hd,⟨ob,vs,h1,h2,h3,h4,h5,h6⟩,T,ot,ts,rfl,t1,t2,t3,t4,t5⟩:=y
 unfold noteFrame
 simp only [hf]
 refine qaW (wpAny_field h1 h4 h6 ?_)
 rw [qa4 (show (Value.ref T != Value.none)=true by simp)]
 refine qaW (wpAny_field t3 t4 t5 ?_)
 rw [qa5 (show ¬(Value.none==rawInt L)=true by simp [rawInt])]
 refine qaW (wpAny_setField t3 t4 (qab.mp t5).1 ?_)
 have oth: ∀ b,b≠T->(s.heap.update T (Obj.mapFields (·.setIfInBounds 3 Value.none))).get? b=s.heap.get? b:=fun b hb=>qah _ _ (Ne.symm hb)
 have nrec: ∀ b o,s.heap.get? b=some o->(∀ ws,o.data≠ .fields ws)->b≠T:=fun b o z hn w=>by
  rw [w,t3] at z
  cases z
  exact hn ts t4
 refine zh7 hfr (hl.of_keeps fun b o z hn=>⟨o,(oth b (nrec b o z hn)).trans z,rfl⟩) hf ⟨ob,vs,(oth e (Ne.symm t2)).trans h1,h2,h3,h4,h5,h6⟩ (fun b o z=>(oth b fun w=>by rw [w,t1] at z;cases z).trans (hkb b o z)) hen fun h' y u=> ?_
 exact q h' y fun b o z hn=>u b o ((oth b (nrec b o z hn)).trans z) hn
theorem zf1 {Q:Unit->Shared->Prop} (y:Fly B l e cls fl s.heap) (q: ∀ h',Fly B l e cls .none h'->(∀ b o,s.heap.get? b=some o->(∀ ws,o.data≠ .fields ws)->h'.get? b=some o)->Q () {s with heap:=h'}):
  wpAny M A (setFlight (.ref e) none) Q E s:=by
 obtain ⟨hkb,hen,hl,hd,⟨ob,vs,h1,h2,h3,h4,h5,h6⟩,T,ot,ts,rfl,t1,t2,t3,t4,t5⟩:=y
 have hsz:=(qab.mp t5).1
 have oth: ∀ b,b≠T->(s.heap.update T (Obj.mapFields (·.setIfInBounds 3 ((none:Option Addr).elim Value.none fun f=>rawInt f)))).get? b=s.heap.get? b:=fun b hb=>qah _ _ (Ne.symm hb)
 have nrec: ∀ b o,s.heap.get? b=some o->(∀ ws,o.data≠ .fields ws)->b≠T:=fun b o z hn w=>by
  rw [w,t3] at z
  cases z
  exact hn ts t4
 unfold setFlight
 refine qaW (wpAny_field h1 h4 h6 ?_)
 rw [qa4 (show (Value.ref T != Value.none)=true by simp)]
 refine wpAny_setField t3 t4 hsz (q _ ⟨fun b o z=>(oth b fun w=>by rw [w,t1] at z;cases z).trans (hkb b o z),hen,hl.of_keeps fun b o z hn=>⟨o,(oth b (nrec b o z hn)).trans z,rfl⟩,
   .ref T,⟨ob,vs,(oth e (Ne.symm t2)).trans h1,h2,h3,h4,h5,h6⟩,T,_,_,rfl,t1,t2,qal _ t3 (Obj.isFreed_of_fields (Obj.data_mapFields t4 _)),Obj.data_mapFields t4 _,by simp [hsz]⟩ fun b o z hn=>(oth b (nrec b o z hn)).trans z)
theorem Fly.tail {h:Heap} (y:Fly B (env::outer) e cls fl h):Fly B outer e cls fl h:=⟨y.stays,y.new,y.frames.2.2,y.exc⟩
theorem zh1 {Q:Unit->Shared->Prop} (hfr:A.frames=some (env::outer)) (hl:s.heap.FunFrames B (env::outer)) (hf:env.frame=some L) (hx:zhN s.heap e cls .none)
  (hkb:B.StaysIn s.heap) (hen:B.get? e=none) (q: ∀ h',Fly B outer e cls .none h'->s.heap.UpToSlots h'->Q () {s with heap:=h'}):wpAny M A (leaving env (.ref e)) Q E s:=by
 unfold leaving
 refine qaW (zja hfr hl hf hx hkb hen fun h1 y1 u1=> ?_)
 refine zf1 (s:={s with heap:=h1}) y1 fun h2 y2 k2=>q h2 y2.tail (u1.trans fun b o z hn=>⟨o.slots,k2 b o z hn⟩)
theorem zme {h h':Heap} {args:List Value} (x:Heap.MadeExcOf h h' e cls args):zhN h' e cls .none:=by
 obtain ⟨t,h1,_,_⟩:=x.there
 exact ⟨_,_,h1,rfl,rfl,rfl,rfl,rfl⟩
end
theorem zf6:entryFor table "proto.unchain"=some Builtin.«proto.unchain» := entryFor_of_tree (by kernel_rfl)
section
variable {prog:Program} {w:World} {A:Around} {E:Value->Shared->Prop} {s:Shared}
theorem zep {α:Type} {a h:Addr} {o:Obj} {us:Array Value} {cls head:Value} {Q:α->Shared->Prop} (hh:A.handled=some (.ref h)) (hx:zhN s.heap h cls head) (ho:s.heap.get? a=some o) (hd:o.data= .fields us) (hz:2<us.size) (hne:h≠a)
  (q:E (.ref a) {s with heap:=s.heap.update a (Obj.mapFields (·.setIfInBounds 2 (.ref h)))}):wpAny (model prog w) A (raiseNew (.ref a):Sem α) Q E s:=by
 obtain ⟨ob,vs,h1,h2,h3,h4,h5,h6⟩:=hx
 unfold raiseNew
 refine qaW (wpAny_handled ?_)
 rw [hh]
 dsimp only
 rw [qa4 (show (Value.ref h != Value.ref a)=true by simp [hne])]
 refine qaW (qaO (wpAny_runValue (codeAny_builtin zf6 ?_)))
 unfold Builtin.«proto.unchain»
 refine qaW (wpAny_field h1 h4 h5 ?_)
 rw [qa4 (show (Value.none==Value.none)=true from rfl)]
 refine qaW (qaX (qaX ?_))
 refine qaW ?_
 obtain ⟨c,d,dt,sl⟩:=o
 dsimp only at hd
 subst hd
 unfold updateField
 refine qaW (wpAny_load ho ?_)
 dsimp only
 rw [qa4 hz]
 exact wpAny_update ho (wpAny_throw q)
def zph (A:Around) (h:Heap):Prop:=A.handled=none\/ ∃ a cls head,A.handled=some (.ref a)/\zhN h a cls head
theorem ziB {it l:Addr} {i:Nat} {items:Array Value} {Q:Option Value->Shared->Prop} (hh:zph A s.heap) (hit:s.heap.IsListIter it l i) (hl:s.heap.IsList l items) (hx:items[i]? = none)
  (k: ∀ h',Heap.ExtBut it s.heap h'->Q none {s with heap:=h'}):wpAny (model prog w) A (pyNext (.ref it)) Q E s:=by
 rcases hh with hh | ⟨ha,cls,head,hh,hX⟩
 ·exact wpAny_pyNext_list_end hh hit hl hx k
 obtain ⟨o,h1,h2,h3⟩:=id hit
 obtain ⟨ol,l1,_,nl,l2⟩:=hl
 unfold pyNext
 refine qaW (wpAny_attempt (wpAny_callSpecial?_slot (name:=Str.ofString "__next__") hit.typeIs slot_listiter_next (wpAny_call_entry slot_listiter_next hit.typeIs entry_listiter_next ?_ (args_listiter_next _))))
 show wpAny _ _ (field (.ref it) 0>>=_) _ _ s
 refine qaW (wpAny_field h1 h3 (x:= .ref l) rfl ?_)
 show wpAny _ _ (if (Value.ref l==Value.none)=true then _ else _) _ _ s
 rw [qa5 (show ¬(Value.ref l==Value.none)=true from nofun)]
 show wpAny _ _ (field (.ref it) 1>>=_) _ _ s
 refine qaW (wpAny_field h1 h3 (x:= .int i 0) rfl ?_)
 show wpAny _ _ (seqItems? (.ref l)>>=_) _ _ s
 refine qaW (wpAny_seqItems l1 l2 ?_)
 simp only [qaB,hx]
 refine qaW (wpAny_rule (qaW (wpAny_setField h1 h3 (by simp) ?_)))
 have nit:ha≠it:=fun z=>by
  subst z
  obtain ⟨ob,vs,x1,_,_,x4,x5,x6⟩:=hX
  rw [h1] at x1
  cases x1
  rw [h3] at x4
  cases x4
  simp at x5
 have hX1:zhN (s.heap.update it (Obj.mapFields (·.setIfInBounds 0 Value.none))) ha cls head:=by
  obtain ⟨ob,vs,x1,x2⟩:=hX
  exact ⟨ob,vs,(qah _ _ (Ne.symm nit)).trans x1,x2⟩
 show wpAny _ _ (newExc (.type "StopIteration") []>>=_) _ _ _
 refine qaW ?_
 simp only [newExc,newTuple]
 refine qaW (qaC ?_ (by size_fits))
 refine qaW (m:=firstArgMember _ _) (wpAny_of_eq (a:=Value.none) (by first | rfl | (simp only [firstArgMember];rfl)) ?_)
 refine qaC ?_ (by size_fits)
 obtain ⟨ob,vs,x1,x2⟩:=hX1
 have y1:=qag {cls:= .type "tuple",dict:=none,data:= .seq [].toArray} x1
 refine zep (h:=ha) (cls:=cls) (head:=head) hh ⟨ob,vs,qag _ y1,x2⟩ (qar _ rfl) rfl (by simp;omega) (qaR (qaQ y1)) ?_
 refine qaW (wpAny_isInstance (T:="StopIteration") (b:=true) ⟨_,qal _ (qar _ rfl) rfl,rfl⟩ isSubtype_stop ?_)
 refine qaX (k _ fun b o hb z=> ?_)
 have z1:(s.heap.update it (Obj.mapFields (·.setIfInBounds 0 Value.none))).get? b=some o:=(qah _ _ (Ne.symm hb)).trans z
 have z2:=qag {cls:= .type "tuple",dict:=none,data:= .seq [].toArray} z1
 rw [qah _ _ (Nat.ne_of_gt (qaQ z2))]
 exact qag _ z2
theorem zky {it l:Addr} {i:Nat} {items:Array Value} {Q:Option Value->Shared->Prop} (hh:zph A s.heap) (hit:s.heap.IsTupleIter it l i) (hl:s.heap.IsTuple l items) (hx:items[i]? = none)
  (k: ∀ h',Heap.ExtBut it s.heap h'->Q none {s with heap:=h'}):wpAny (model prog w) A (pyNext (.ref it)) Q E s:=by
 rcases hh with hh | ⟨ha,cls,head,hh,hX⟩
 ·exact wpAny_pyNext_tuple_end hh hit hl hx k
 obtain ⟨o,h1,h2,h3⟩:=id hit
 obtain ⟨ol,l1,_,nl,l2⟩:=hl
 unfold pyNext
 refine qaW (wpAny_attempt (wpAny_callSpecial?_slot (name:=Str.ofString "__next__") hit.typeIs F.slot_tuple_iterator_next (wpAny_call_entry F.slot_tuple_iterator_next hit.typeIs F.entry_tuple_iterator_next ?_ (F.args_tuple_iterator_next_1 _))))
 show wpAny _ _ (field (.ref it) 0>>=_) _ _ s
 refine qaW (wpAny_field h1 h3 (x:= .ref l) rfl ?_)
 show wpAny _ _ (if (Value.ref l==Value.none)=true then _ else _) _ _ s
 rw [qa5 (show ¬(Value.ref l==Value.none)=true from nofun)]
 show wpAny _ _ (field (.ref it) 1>>=_) _ _ s
 refine qaW (wpAny_field h1 h3 (x:= .int i 0) rfl ?_)
 show wpAny _ _ (seqItems? (.ref l)>>=_) _ _ s
 refine qaW (wpAny_seqItems l1 l2 ?_)
 simp only [qaB,hx]
 refine qaW (wpAny_rule (qaW (wpAny_setField h1 h3 (by simp) ?_)))
 have nit:ha≠it:=fun z=>by
  subst z
  obtain ⟨ob,vs,x1,_,_,x4,x5,x6⟩:=hX
  rw [h1] at x1
  cases x1
  rw [h3] at x4
  cases x4
  simp at x5
 have hX1:zhN (s.heap.update it (Obj.mapFields (·.setIfInBounds 0 Value.none))) ha cls head:=by
  obtain ⟨ob,vs,x1,x2⟩:=hX
  exact ⟨ob,vs,(qah _ _ (Ne.symm nit)).trans x1,x2⟩
 show wpAny _ _ (newExc (.type "StopIteration") []>>=_) _ _ _
 refine qaW ?_
 simp only [newExc,newTuple]
 refine qaW (qaC ?_ (by size_fits))
 refine qaW (m:=firstArgMember _ _) (wpAny_of_eq (a:=Value.none) (by first | rfl | (simp only [firstArgMember];rfl)) ?_)
 refine qaC ?_ (by size_fits)
 obtain ⟨ob,vs,x1,x2⟩:=hX1
 have y1:=qag {cls:= .type "tuple",dict:=none,data:= .seq [].toArray} x1
 refine zep (h:=ha) (cls:=cls) (head:=head) hh ⟨ob,vs,qag _ y1,x2⟩ (qar _ rfl) rfl (by simp;omega) (qaR (qaQ y1)) ?_
 refine qaW (wpAny_isInstance (T:="StopIteration") (b:=true) ⟨_,qal _ (qar _ rfl) rfl,rfl⟩ isSubtype_stop ?_)
 refine qaX (k _ fun b o hb z=> ?_)
 have z1:(s.heap.update it (Obj.mapFields (·.setIfInBounds 0 Value.none))).get? b=some o:=(qah _ _ (Ne.symm hb)).trans z
 have z2:=qag {cls:= .type "tuple",dict:=none,data:= .seq [].toArray} z1
 rw [qah _ _ (Nat.ne_of_gt (qaQ z2))]
 exact qag _ z2
theorem zkX {it:Addr} {x left step:Int} {Q:Option Value->Shared->Prop} (hh:zph A s.heap) (hit:IsRangeIter s.heap it x left step) (hleft:left<=0)
  (k: ∀ h',Heap.ExtBut it s.heap h'->Q none {s with heap:=h'}):wpAny (model prog w) A (pyNext (.ref it)) Q E s:=by
 rcases hh with hh | ⟨ha,cls,head,hh,hX⟩
 ·exact wpAny_pyNext_range_end hh hit hleft k
 have hT:s.TypeIs (.ref it) "range_iterator":=⟨_,hit,rfl⟩
 unfold pyNext
 refine qaW (wpAny_attempt (wpAny_callSpecial?_slot (name:=Str.ofString "__next__") hT F.slot_range_iterator_next (wpAny_call_entry F.slot_range_iterator_next hT F.entry_range_iterator_next ?_ (F.args_range_iterator_next_1 _))))
 show wpAny _ _ (field (.ref it) 0>>=_) _ _ s
 refine qaW (wpAny_field hit rfl (x:=rawInt x) rfl ?_)
 show wpAny _ _ (field (.ref it) 1>>=_) _ _ s
 refine qaW (wpAny_field hit rfl (x:=rawInt left) rfl ?_)
 show wpAny _ _ (field (.ref it) 2>>=_) _ _ s
 refine qaW (wpAny_field hit rfl (x:=rawInt step) rfl ?_)
 show wpAny _ _ (if left<=0 then _ else _) _ _ s
 rw [qa4 hleft]
 refine qaW (wpAny_rule (qaW ?_))
 show wpAny _ _ (newExc (.type "StopIteration") []>>=_) _ _ _
 refine qaW ?_
 simp only [newExc,newTuple]
 refine qaW (qaC ?_ (by size_fits))
 refine qaW (m:=firstArgMember _ _) (wpAny_of_eq (a:=Value.none) (by first | rfl | (simp only [firstArgMember];rfl)) ?_)
 refine qaC ?_ (by size_fits)
 obtain ⟨ob,vs,x1,x2⟩:=hX
 have y1:=qag {cls:= .type "tuple",dict:=none,data:= .seq [].toArray} x1
 refine zep (h:=ha) (cls:=cls) (head:=head) hh ⟨ob,vs,qag _ y1,x2⟩ (qar _ rfl) rfl (by simp;omega) (qaR (qaQ y1)) ?_
 refine qaW (wpAny_isInstance (T:="StopIteration") (b:=true) ⟨_,qal _ (qar _ rfl) rfl,rfl⟩ isSubtype_stop ?_)
 refine qaX (k _ fun b o hb z=> ?_)
 have z2:=qag {cls:= .type "tuple",dict:=none,data:= .seq [].toArray} z
 rw [qah _ _ (Nat.ne_of_gt (qaQ z2))]
 exact qag _ z2
theorem zhN.keep {h h':Heap} {a:Addr} {cls head:Value} (x:zhN h a cls head) (k: ∀ o,h.get? a=some o->h'.get? a=some o):zhN h' a cls head:=by
 obtain ⟨ob,vs,x1,x2⟩:=x
 exact ⟨ob,vs,k _ x1,x2⟩
theorem zji {ha:Addr} {cls head:Value} (hh:A.handled=some (.ref ha)) (I ax:Addr) (hne:ax≠I) (hn2:ha≠I) (items:Array Value):
  Walks prog w A I [I,ax,ha] [I] items.size (fun i v=>items[i]? = some v) (fun i h=>h.IsListIter I ax i/\h.IsList ax items/\zhN h ha cls head) where
 sub:=fun b hb=>by simp at hb;simp [hb]
 frame:=fun _ _ _ st hk=>⟨st.1.at fun o e=>hk I (by simp) o e,st.2.1.at fun o e=>hk ax (by simp) o e,st.2.2.keep fun o e=>hk ha (by simp) o e⟩
 item:=fun i s Q E hi st hQ=>by
  refine wpAny_pyNext_list_item st.1 st.2.1 (x:=items[i]) (by simp [hi]) fun h' hit' hs'=> ?_
  exact hQ _ h' s.toks (by simp [hi]) ⟨hit',st.2.1.extBut hs'.extBut hne,st.2.2.keep fun o e=>hs'.extBut ha o hn2 e⟩ fun b o hb e=>hs'.extBut b o (fun h=>hb (by simp [h])) e
 done:=fun s Q E st hQ=>ziB (.inr ⟨ha,cls,head,hh,st.2.2⟩) st.1 st.2.1 (by simp) fun h' he'=>hQ h' s.toks fun b o hb e=>he' b o (fun h=>hb (by simp [h])) e
 self:=fun _ _ _ _ st hQ=>wpAny_pyIter_listiter st.1 hQ
end
end L3
namespace L2
open PySem PySem.Spec PyProof.Rows
noncomputable abbrev Key:=Sum Int Str
noncomputable def zqE:Key->Value->Bool
 | .inl k,v=>Value.isInt k v
 | .inr x,v=>Value.isStrOf x v
noncomputable def ztO (w:World):Key->Int
 | .inl k=>hashInt k
 | .inr x=>hashStr w x
theorem za9: ∀ {k:Key} {v:Value},zqE k v=true->(∃ i t,k=Sum.inl i/\v=Value.int i t)\/(∃ x t,k=Sum.inr x/\v=Value.str x t)
 | .inl i,v,h=>by
  obtain ⟨t,e⟩:=Value.isInt_shape (k:=i) (v:=v) h
  exact .inl ⟨i,t,rfl,e⟩
 | .inr x,v,h=>by
  obtain ⟨t,e⟩:=Value.isStrOf_shape (x:=x) (v:=v) h
  exact .inr ⟨x,t,rfl,e⟩
theorem zpT (a b:Int):decide ((Sum.inl a:Key)=Sum.inl b)=(a==b):=by
 by_cases e:a=b
 ·subst e;simp
 ·have h: ¬(Sum.inl a:Key)=Sum.inl b:=fun q=>e (Sum.inl.inj q)
  rw [decide_eq_false h]
  exact (beq_eq_false_iff_ne.mpr e).symm
theorem zpy (a b:Str):decide ((Sum.inr a:Key)=Sum.inr b)=decide (a=b):=by
 by_cases e:a=b
 ·subst e;simp
 ·have h: ¬(Sum.inr a:Key)=Sum.inr b:=fun q=>e (Sum.inr.inj q)
  rw [decide_eq_false h,decide_eq_false e]
theorem zrL (a:Int) (b:Str):decide ((Sum.inl a:Key)=Sum.inr b)=false:=decide_eq_false (fun q=>nomatch q)
theorem zqG (a:Str) (b:Int):decide ((Sum.inr a:Key)=Sum.inl b)=false:=decide_eq_false (fun q=>nomatch q)
noncomputable def zko (prog:Program) (w:World):PySem.KeyKind prog w Key where
 is:=zqE
 hash:=ztO w
 inj:=fun v a b ha hb=>by
  rcases za9 ha with ⟨i,t,rfl,rfl⟩ | ⟨x,t,rfl,rfl⟩
  ·rcases za9 hb with ⟨j,u,rfl,e⟩ | ⟨y,u,rfl,e⟩
   ·injection e with e1 _;rw [e1]
   ·exact nomatch e
  ·rcases za9 hb with ⟨j,u,rfl,e⟩ | ⟨y,u,rfl,e⟩
   ·exact nomatch e
   ·injection e with e1 _;rw [e1]
 byValue:=fun k v h=>by
  rcases za9 h with ⟨i,t,rfl,rfl⟩ | ⟨x,t,rfl,rfl⟩<;>rfl
 pyHash:=fun hv h=>by
  rcases za9 hv with ⟨i,t,rfl,rfl⟩ | ⟨x,t,rfl,rfl⟩
  ·exact wpAny_pyHash_int h
  ·exact wpAny_pyHash_str h
 eqBool:=fun hu hv h=>by
  rcases za9 hu with ⟨i,t,rfl,rfl⟩ | ⟨x,t,rfl,rfl⟩
  ·rcases za9 hv with ⟨j,u,rfl,rfl⟩ | ⟨y,u,rfl,rfl⟩
   ·rw [zpT] at h;exact wpAny_eqBool_int h
   ·rw [zrL] at h;exact SeqAt.EqAt.int_str i t y u _ _ _ _ h
  ·rcases za9 hv with ⟨j,u,rfl,rfl⟩ | ⟨y,u,rfl,rfl⟩
   ·rw [zqG] at h;exact SeqAt.EqAt.str_int x t j u _ _ _ _ h
   ·rw [zpy] at h;exact wpAny_eqBool_str h
 «strs» := fun k x t v h=>by
  rcases za9 h with ⟨i,u,rfl,e⟩ | ⟨y,u,rfl,e⟩
  ·exact nomatch e
  ·injection e with e1 _
   subst e1
   cases v<;>rfl
inductive V where
 | non | bl (b:Bool) | int (i:Int) | str (x:Str) | byt (b:Array UInt8) | flt (b:UInt64) | ref (a:Addr) | ty (n:String)
 deriving DecidableEq
noncomputable def zb2:V->Value->Prop
 | .non,u=>u=Value.none
 | .bl b,u=>u=Value.bool b
 | .int i,u=> ∃ t,u=Value.int i t
 | .str x,u=> ∃ t,u=Value.str x t
 | .byt b,u=> ∃ t,u=Value.bytes b t
 | .flt b,u=> ∃ t,u=Value.float b t
 | .ref a,u=>u=Value.ref a
 | .ty n,u=>u=Value.type n
noncomputable abbrev zbh:List V->List Value->Prop:=Paired zb2
theorem zbh.length {xs:List V} {us:List Value} (r:zbh xs us):xs.length=us.length:=Paired.length r
theorem zbh.get: ∀ {xs:List V} {us:List Value} {i:Nat} {x:V},zbh xs us->xs[i]? = some x-> ∃ u,us[i]? = some u/\zb2 x u
 | _,_,_,_,.nil,e=>by simp at e
 | _,_,0,_,.cons r _,e=>by simp at e;subst e;exact ⟨_,rfl,r⟩
 | _,_,i+1,x,.cons _ t,e=>by
  obtain ⟨u,h1,h2⟩:=zbh.get (i:=i) (x:=x) t (by simpa using e)
  exact ⟨u,by simpa using h1,h2⟩
theorem zbh.set {x:V} {u:Value} (r:zb2 x u): ∀ {xs:List V} {us:List Value} (i:Nat),zbh xs us->zbh (xs.set i x) (us.set i u)
 | _,_,_,.nil=> .nil
 | _,_,0,.cons _ t=> .cons r t
 | _,_,i+1,.cons q t=> .cons q (zbh.set r i t)
theorem zbh.append: ∀ {xs ys:List V} {us ws:List Value},zbh xs us->zbh ys ws->zbh (xs++ys) (us++ws)
 | _,_,_,_,.nil,s=>s
 | _,_,_,_,.cons r t,s=> .cons r (zbh.append t s)
theorem zbh.take: ∀ {xs:List V} {us:List Value} (n:Nat),zbh xs us->zbh (xs.take n) (us.take n)
 | _,_,0,_=> .nil
 | _,_,_+1,.nil=> .nil
 | _,_,n+1,.cons r t=> .cons r (zbh.take n t)
theorem zbh.drop: ∀ {xs:List V} {us:List Value} (n:Nat),zbh xs us->zbh (xs.drop n) (us.drop n)
 | _,_,0,r=>r
 | _,_,_+1,.nil=> .nil
 | _,_,n+1,.cons _ t=>zbh.drop n t
noncomputable def zsU:Option V->Option Value->Prop
 | some v,some u=>zb2 v u
 | none,none=>True
 | _,_=>False
noncomputable def KV {κ:Type}:List (κ×V)->List (κ×Value)->Prop:=Paired fun (p:κ×V) (q:κ×Value)=>p.1=q.1/\zb2 p.2 q.2
noncomputable def kV:Key->V
 | .inl i=> .int i
 | .inr x=> .str x
inductive HO where
 | lst (xs:List V)
 | tup (xs:List V)
 | dK (kvs:List (Key×V)) | dT (kvs:List (List Key×V))
 | set (S:Int->Bool) (n:Nat)
 | ins (C dx:Addr) (fs:List (Str×V))
 | own (x:Addr)
 | xd (fs:List (Str×V))
 | met (f x:Addr)
 | rng (lo hi:Int)
 | frz (o:Obj) (u:HO)
 | tbl (ps:Array Value)
 | ext (φ:Heap->Prop)
noncomputable abbrev Hp:=Addr->Option HO
noncomputable def upd (H:Hp) (a:Addr) (o:HO):Hp:=fun b=>if b=a then some o else H b
theorem za2 {H:Hp} {a:Addr} {o:HO}:upd H a o a=some o:=by unfold upd;rw [qa4 rfl]
theorem zaE {H:Hp} {a b:Addr} {o:HO} (h:b≠a):upd H a o b=H b:=by unfold upd;rw [qa5 h]
theorem zaY {H:Hp} {a b:Addr} {o:HO} (h:H a=some o) (h':H b=none):a≠b:=by
 intro e;subst e;rw [h] at h';cases h'
def zk2 (h:Heap) (a:Addr) (items:Array Value):Prop:= ∃ o,h.get? a=some o/\o.cls= .type "tuple"/\ ∃ n,o.data= .seq items n/\o.dict=none
theorem zk2.is {h:Heap} {a:Addr} {items:Array Value} (x:zk2 h a items):IsTup h a items:=by
 obtain ⟨o,h1,h2,n,h3,_⟩:=x
 exact ⟨o,h1,h2,n,h3⟩
theorem zk2.new (h:Heap) (items:Array Value):zk2 (h.push {cls:= .type "tuple",data:= .seq items}) h.objs.size items:=⟨_,qar _ rfl,rfl,_,rfl,rfl⟩
section
variable (P:Program) (w:World)
noncomputable def zcd (H:Hp) (h:Heap) (a:Addr):HO->Prop
 | .lst xs=>xs.length<=sizeLine/\ ∃ (its:List Value) (n:Nat),zbh xs its/\h.get? a=some {cls:= .type "list",data:= .seq its.toArray n}
 | .tup xs=>xs.length<=sizeLine/\ ∃ its:List Value,zbh xs its/\zk2 h a its.toArray
 | .dK kvs=>kvs.length<=sizeLine/\(a==sysModules)=false/\ ∃ vs,KV kvs vs/\h.DictOf (zko P w) a vs
 | .dT kvs=>kvs.length<=sizeLine/\(a==sysModules)=false/\ ∃ xs:List (List Key×Addr×Value),
   Paired (fun (p:List Key×V) (q:List Key×Addr×Value)=>p.1=q.1/\H q.2.1=some (.tup (p.1.map kV))/\zb2 p.2 q.2.2) kvs xs/\
   ∃ o es ep,h.get? a=some o/\o.ExactDict/\o.data= .dict es ep/\es.toList=xs.map (entryOfKey (tupleKind (zko P w)))/\(xs.map (·.1)).Nodup
 | .set S n=>h.SetOf (intKind P w) a S n
 | .ins C dx fs=>H dx=some (.own a)/\fs.length<=1000/\dx≠a/\h.get? a=some (W.instObj C dx)/\
   ∃ mA,h.Ns1 dx mA/\(∀ f,zsU (fs.lookup f) (mA f))/\PySem.Within mA (fs.map (·.1))
 | .own _=> ∃ o,h.get? a=some o
 | .xd fs=> ∃ mA,h.Ns1 a mA/\ ∀ f,zsU (fs.lookup f) (mA f)
 | .rng lo hi=> ∃ t u v,h.get? a=some {cls:= .type "range",data:= .fields #[.int lo t,.int hi u,.int 1 v]}
 | .frz o u=>h.get? a=some o/\zcd H h a u
 | .tbl ps=>h.get? a=some {cls:= .none,data:= .fields ps}
 | .met f x=>h.get? a=some (W.methodObj (.ref f) (.ref x))
 | .ext φ=>φ h/\(∃ o,h.get? a=some o)/\ ∀ h1 h2:Heap,φ h1->(∀ o,h1.get? a=some o->h2.get? a=some o)->φ h2
def HOk (H:Hp) (h:Heap):Prop:= ∀ a o,H a=some o->zcd P w H h a o
end
section
variable {P:Program} {w:World} {H H':Hp} {h h':Heap} {a:Addr} {o:HO}
theorem zcd.lt (x:zcd P w H h a o):a<h.objs.size:=by
 cases o with
 | lst xs=>obtain ⟨_,_,_,_,e⟩:=x;exact qaQ e
 | tup xs=>obtain ⟨_,_,_,p⟩:=x;exact p.is.lt
 | dK kvs=>obtain ⟨_,_,_,_,o,_,_,e,_⟩:=x;exact qaQ e
 | dT kvs=>obtain ⟨_,_,_,_,o,_,_,e,_⟩:=x;exact qaQ e
 | set S n=>obtain ⟨o,_,_,_,e,_⟩:=x;exact qaQ e
 | ins C dx fs=>obtain ⟨_,_,_,e,_⟩:=x;exact qaQ e
 | own y=>obtain ⟨_,e⟩:=x;exact qaQ e
 | xd fs=>obtain ⟨_,⟨_,_,_,e,_⟩,_⟩:=x;exact qaQ e
 | rng lo hi=>obtain ⟨_,_,_,e⟩:=x;exact qaQ e
 | frz ob u=>obtain ⟨e,_⟩:=x;exact qaQ e
 | tbl ps=>exact qaQ (show h.get? a=some _ from x)
 | met f y=>exact qaQ (show h.get? a=some _ from x)
 | ext φ=>obtain ⟨_,⟨_,e⟩,_⟩:=x;exact qaQ e
theorem Paired.mapP {α β:Type} {F G:α->β->Prop}: ∀ {l₁:List α} {l₂:List β},Paired F l₁ l₂->(∀ a b,F a b->G a b)->Paired G l₁ l₂
 | _,_,.nil,_=> .nil
 | _,_,.cons r t,f=> .cons (f _ _ r) (Paired.mapP t f)
theorem zcd.stay (x:zcd P w H h a o) (k: ∀ b u,(b=a\/H b=some (.own a))->h.get? b=some u->h'.get? b=some u)
  (ho: ∀ b,H b=some (.own a)->H' b=some (.own a)) (ht: ∀ b xs,H b=some (.tup xs)->H' b=some (.tup xs)):zcd P w H' h' a o:=by
 induction o with
 | lst xs=>obtain ⟨z,its,n,r,e⟩:=x;exact ⟨z,its,n,r,k _ _ (.inl rfl) e⟩
 | tup xs=>obtain ⟨z,its,r,ob,e,c⟩:=x;exact ⟨z,its,r,ob,k _ _ (.inl rfl) e,c⟩
 | dK kvs=>obtain ⟨z,y,vs,r,ob,es,ep,e,c⟩:=x;exact ⟨z,y,vs,r,ob,es,ep,k _ _ (.inl rfl) e,c⟩
 | dT kvs=>
  obtain ⟨z,y,xs,r,ob,es,ep,e,c⟩:=x
  exact ⟨z,y,xs,Paired.mapP r fun p q z=>⟨z.1,ht _ _ z.2.1,z.2.2⟩,ob,es,ep,k _ _ (.inl rfl) e,c⟩
 | set S n=>obtain ⟨ob,es,ep,t,e,c⟩:=x;exact ⟨ob,es,ep,t,k _ _ (.inl rfl) e,c⟩
 | ins C dx fs=>
  obtain ⟨d,z,ne,e,mA,⟨od,es,ep,e2,c⟩,r⟩:=x
  exact ⟨ho _ d,z,ne,k _ _ (.inl rfl) e,mA,⟨od,es,ep,k _ _ (.inr d) e2,c⟩,r⟩
 | own y=>obtain ⟨ob,e⟩:=x;exact ⟨ob,k _ _ (.inl rfl) e⟩
 | xd fs=>obtain ⟨mA,⟨od,es,ep,e,c⟩,r⟩:=x;exact ⟨mA,⟨od,es,ep,k _ _ (.inl rfl) e,c⟩,r⟩
 | rng lo hi=>obtain ⟨t,u,v,e⟩:=x;exact ⟨t,u,v,k _ _ (.inl rfl) e⟩
 | frz ob u ih=>obtain ⟨e,q⟩:=x;exact ⟨k _ _ (.inl rfl) e,ih q⟩
 | tbl ps=>
  have e:h.get? a=some {cls:= .none,data:= .fields ps}:=x
  show h'.get? a=some {cls:= .none,data:= .fields ps}
  exact k a _ (.inl rfl) e
 | met f y=>
  have e:h.get? a=some (W.methodObj (.ref f) (.ref y)):=x
  show h'.get? a=some (W.methodObj (.ref f) (.ref y))
  exact k a _ (.inl rfl) e
 | ext φ=>obtain ⟨p,⟨o,e⟩,st⟩:=x;exact ⟨st _ _ p fun o q=>k _ _ (.inl rfl) q,⟨o,k _ _ (.inl rfl) e⟩,st⟩
theorem HOk.lt (x:HOk P w H h) (e:H a=some o):a<h.objs.size:=(x a o e).lt
theorem HOk.fresh (x:HOk P w H h) (e:h.objs.size<=a):H a=none:=by
 cases q:H a with
 | none=>rfl
 | some u=>exact absurd (qaw (x.lt q) e) (qaN _)
theorem HOk.kept (x:HOk P w H h) (k: ∀ b u,h.get? b=some u->h'.get? b=some u):HOk P w H h':=fun a o e=>
 (x a o e).stay (fun b u _ q=>k b u q) (fun _ q=>q) fun _ _ q=>q
theorem HOk.laid (x:HOk P w H h) (k: ∀ b u,h.get? b=some u->h'.get? b=some u) (hp:h.objs.size<=a) (new:zcd P w (upd H a o) h' a o):HOk P w (upd H a o) h':=fun b u e=>by
 have hn:=x.fresh hp
 by_cases hb:b=a
 ·subst hb;rw [za2] at e;cases e;exact new
 ·rw [zaE hb] at e
  exact (x b u e).stay (fun c v _ q=>k c v q) (fun c q=>by rw [zaE (zaY q hn)];exact q) fun c xs q=>by rw [zaE (zaY q hn)];exact q
end
def Rd (H:Hp) (a:Addr) (u:HO):Prop:=H a=some u\/ ∃ o,H a=some (.frz o u)
theorem Rd.ok {P:Program} {w:World} {H:Hp} {h:Heap} {a:Addr} {u:HO} (r:Rd H a u) (x:HOk P w H h):zcd P w H h a u:=by
 rcases r with r | ⟨o,r⟩
 ·exact x a u r
 ·obtain ⟨_,q⟩:=x a _ r
  exact q
noncomputable def Mut:Option HO->Prop
 | some (.lst _)=>True
 | some (.dK _)=>True
 | some (.dT _)=>True
 | some (.set _ _)=>True
 | some (.ins _ _ _)=>True
 | some (.ext _)=>True
 | _=>False
section
variable {P:Program} {w:World} {H:Hp} {h h':Heap} {x e:Addr} {o':HO}
theorem HOk.write (ok:HOk P w H h) (mu:Mut (H x)) (he:e=x\/H e=some (.own x)) (k: ∀ b u,b≠e->h.get? b=some u->h'.get? b=some u) (heo: ∃ u,h'.get? e=some u)
  (new:zcd P w (upd H x o') h' x o'):HOk P w (upd H x o') h':=fun b u q=>by
 have nown: ∀ c y,H c=some (.own y)->c≠x:=fun c y r z=>by subst z;rw [r] at mu;exact mu
 have ntup: ∀ c xs,H c=some (.tup xs)->c≠x:=fun c xs r z=>by subst z;rw [r] at mu;exact mu
 by_cases hb:b=x
 ·subst hb;rw [za2] at q;cases q;exact new
 ·rw [zaE hb] at q
  by_cases hbe:b=e
  ·have q':H b=some (.own x):=by
    rcases he with z | z
    ·exact absurd (hbe.trans z) hb
    ·rw [hbe];exact z
   rw [q] at q';cases q'
   obtain ⟨v,hv⟩:=heo
   exact ⟨v,by rw [hbe];exact hv⟩
  ·refine (ok b u q).stay (fun c v hc r=>k c v ?_ r) (fun c r=>by rw [zaE (nown c b r)];exact r) fun c xs r=>by rw [zaE (ntup c xs r)];exact r
   rcases hc with rfl | hc
   ·exact hbe
   ·rintro rfl
    rcases he with z | z
    ·exact nown c b hc z
    ·rw [hc] at z;cases z;exact hb rfl
end
structure Un (fs ex:List Addr) (H H':Hp) (h h':Heap):Prop where
 keep: ∀ b o,h.get? b=some o->H b=none->b∉fs->b∉ex->h'.get? b=some o
 slot: ∀ b o,h.get? b=some o->H b=none->b∈fs->b∉ex-> ∃ sl,h'.get? b=some {o with slots:=sl}
 free: ∀ b o,h.get? b=some o->H b=none->b∉ex->H' b=none
 there: ∀ b o,h.get? b=some o->b∉ex-> ∃ o',h'.get? b=some o'
 tups: ∀ b xs,H b=some (.tup xs)->H' b=some (.tup xs)
 frzs: ∀ b o u,H b=some (.frz o u)->H' b=some (.frz o u)
 tbls: ∀ b ps,H b=some (.tbl ps)-> ∃ more,H' b=some (.tbl (ps++more))
section
variable {fs fs' ex ex':List Addr} {H H1 H2:Hp} {h h1 h2 h':Heap} {a x e:Addr} {o:HO}
theorem Un.any (u:Un fs ex H H1 h h1) {b:Addr} {ob:Obj} (q:h.get? b=some ob) (n:H b=none) (hx:b∉ex): ∃ sl,h1.get? b=some {ob with slots:=sl}:=by
 by_cases hb:b∈fs
 ·exact u.slot b ob q n hb hx
 ·exact ⟨ob.slots,u.keep b ob q n hb hx⟩
theorem Un.trans (a:Un fs ex H H1 h h1) (b:Un fs ex H1 H2 h1 h2):Un fs ex H H2 h h2 where
 keep:=fun c ob q n hc hx=>b.keep c ob (a.keep c ob q n hc hx) (a.free c ob q n hx) hc hx
 slot:=fun c ob q n hc hx=>by
  obtain ⟨sl,e1⟩:=a.slot c ob q n hc hx
  obtain ⟨sl',e2⟩:=b.slot c _ e1 (a.free c ob q n hx) hc hx
  exact ⟨sl',e2⟩
 free:=fun c ob q n hx=>by
  obtain ⟨o',e1⟩:=a.there c ob q hx
  exact b.free c o' e1 (a.free c ob q n hx) hx
 there:=fun c ob q hx=>by
  obtain ⟨o',e1⟩:=a.there c ob q hx
  exact b.there c o' e1 hx
 tups:=fun c xs q=>b.tups c xs (a.tups c xs q)
 frzs:=fun c ob xs q=>b.frzs c ob xs (a.frzs c ob xs q)
 tbls:=fun c ps q=>by
  obtain ⟨m1,e1⟩:=a.tbls c ps q
  obtain ⟨m2,e2⟩:=b.tbls c _ e1
  exact ⟨m1++m2,by rw [e2,Array.append_assoc]⟩
theorem Un.kept (k: ∀ b u,h.get? b=some u->h'.get? b=some u):Un fs ex H H h h':=
 ⟨fun b ob q _ _ _=>k b ob q,fun b ob q _ _ _=>⟨ob.slots,k b ob q⟩,fun _ _ _ n _=>n,fun b ob q _=>⟨ob,k b ob q⟩,fun _ _ q=>q,fun _ _ _ q=>q,fun _ ps q=>⟨#[],by rw [q];simp⟩⟩
theorem Un.refl:Un fs ex H H h h:=Un.kept fun _ _ q=>q
theorem Un.laid (k: ∀ b u,h.get? b=some u->h'.get? b=some u) (hp:h.objs.size<=a) (hn:H a=none):Un fs ex H (upd H a o) h h' where
 keep:=fun b u q _ _ _=>k b u q
 slot:=fun b u q _ _ _=>⟨u.slots,k b u q⟩
 free:=fun b u q n _=>by rw [zaE (qaR (qaw (qaQ q) hp))];exact n
 there:=fun b u q _=>⟨u,k b u q⟩
 tups:=fun b xs q=>by rw [zaE (zaY q hn)];exact q
 frzs:=fun b u xs q=>by rw [zaE (zaY q hn)];exact q
 tbls:=fun b ps q=>⟨#[],by rw [zaE (zaY q hn),q];simp⟩
theorem Un.write (mu:Mut (H x)) (he:e=x\/H e=some (.own x)) (k: ∀ b u,b≠e->h.get? b=some u->h'.get? b=some u) (heo: ∃ u,h'.get? e=some u):Un fs ex H (upd H x o) h h':=by
 have hx: ∀ b,H b=none->b≠x:=fun b n z=>by subst z;rw [n] at mu;exact mu
 have hb: ∀ b,H b=none->b≠e:=fun b n z=>by
  subst z
  rcases he with r | r
  ·exact hx b n r
  ·rw [n] at r;cases r
 have hm: ∀ b u,H b=some u-> ¬Mut (some u)->b≠x:=fun b u q nm z=>by subst z;rw [q] at mu;exact nm mu
 refine ⟨fun b u q n _ _=>k b u (hb b n) q,fun b u q n _ _=>⟨u.slots,k b u (hb b n) q⟩,fun b u q n _=>by rw [zaE (hx b n)];exact n,fun b u q _=> ?_,
   fun b xs q=>by rw [zaE (hm b _ q fun z=>z)];exact q,fun b u xs q=>by rw [zaE (hm b _ q fun z=>z)];exact q,fun b ps q=>⟨#[],by rw [zaE (hm b _ q fun z=>z),q];simp⟩⟩
 by_cases hbe:b=e
 ·subst hbe;exact heo
 ·exact ⟨u,k b u hbe q⟩
end
noncomputable def trk (h:Heap) (H:Hp):List Addr:=(List.range h.objs.size).filter fun a=>(H a).isSome
noncomputable def zmf (h:Heap) (H:Hp):Heap:=W.hideAll h (trk h H)
theorem zjL (h:Heap) (H:Hp):(zmf h H).objs.size=h.objs.size:=W.hideAll_size _ _
theorem zl4 {h:Heap} {H:Hp} {b:Addr} {o:Obj} (e:h.get? b=some o) (n:H b=none):(zmf h H).get? b=some o:=
 W.hideAll_get _ e fun hm=>by
  have q:(H b).isSome=true:=(List.mem_filter.mp hm).2
  rw [n] at q;simp at q
theorem zoT {h:Heap} {H:Hp} {b:Addr} {o:Obj} (e:(zmf h H).get? b=some o):h.get? b=some o/\H b=none:=by
 have e':h.get? b=some o:=W.of_hideAll (trk h H) e
 refine ⟨e',?_⟩
 cases q:H b with
 | none=>rfl
 | some x=>
  have hm:b∈trk h H:=List.mem_filter.mpr ⟨List.mem_range.mpr (qaQ e'),by simp [q]⟩
  have z:(zmf h H).get? b=none:=W.hideAll_none (trk h H) hm
  rw [z] at e;cases e
noncomputable def zns (g h:Heap) (L:Addr):List (Addr×Obj):=(List.range h.objs.size).filterMap fun a=>if a=L\/(g.get? a).isSome=true then none else (h.get? a).map fun o=>(a,o)
noncomputable def rest (g h:Heap) (L d:Addr):List (Addr×Obj):=(zns g h L).filter fun p=>decide (p.1≠d)
structure Mod (K:W.Frag) (mg:Str->Option Value) (base:Heap):Prop where
 kin:K.In base
 glob:base.Ns mainGlobals mg
 blt: ∃ mb,base.Ns builtinsNs mb/\ ∀ x:Str,x≠"__name__"->mb x=bootBuiltins x
 nolimit:base.NoLimit
structure Cx where
 prog:Program
 w:World
 K:W.Frag
 mg:Str->Option Value
 base:Heap
 A:Around
 N:List Str
 s₀:Shared
 H₀:Hp
 env:Env
 outer:List Env
 stack:List Env
 ex:List Addr
 fn:Str->Bool
 calm:Bool
 pn:List (Addr×Obj)
 xe:Value->Shared->Prop
noncomputable def frs (l:List Env):List Addr:=l.filterMap (·.frame)
noncomputable abbrev Cx.fs (X:Cx):List Addr:=frs X.outer
def Vis (sc:Scope) (x:Str):Prop:=sc.names.lookup x=some .local\/sc.names.lookup x=some .cell\/sc.names.lookup x=some .free
def Loc (sc:Scope) (x:Str):Prop:=sc.names.lookup x=some .local\/sc.names.lookup x=some .cell
def zue (env:Env) (h:Heap) (m:Str->Option Value) (x:Str) (u:Value):Prop:=
 (env.kindOf x=some .local/\m x=some u)\/((env.kindOf x=some .cell\/env.kindOf x=some .free)/\ ∃ c,env.cells.lookup x=some c/\h.IsCell c (some u))
def zhj (A:Around) (H:Hp):Prop:=A.handled=none\/ ∃ a o cls head vs,A.handled=some (.ref a)/\H a=some (.frz o (.own 0))/\o.cls=cls/\o.dict=none/\o.data= .fields vs/\vs[2]? = some .none/\vs[1]? = some head
structure Cx.Ok (X:Cx):Prop where
 mod:Mod X.K X.mg X.base
 kind:X.env.scope.kind= .function
 glob:X.env.globals=mainGlobals
 blt:X.env.builtins=builtinsNs
 above:X.s₀.heap.objs.size<=X.env.locals
 inj: ∀ x y c,X.env.cells.lookup x=some c->X.env.cells.lookup y=some c->x=y
 has: ∀ x,(X.env.kindOf x=some .cell\/X.env.kindOf x=some .free)-> ∃ c,X.env.cells.lookup x=some c
 cab: ∀ x c,X.fn x=true->X.env.cells.lookup x=some c->X.s₀.heap.objs.size<=c
 hd:X.calm=true->X.A.handled=none
 hx:zhj X.A X.H₀
 frames:X.A.frames=some X.stack
 stk:X.stack=X.outer\/(X.stack=X.env::X.outer/\X.env.frame=some X.env.locals)
 exf: ∀ b∈X.ex,b≠X.env.locals/\ ∀ x c,X.env.cells.lookup x=some c->c≠b
 bs: ∀ b o,X.base.get? b=some o->X.s₀.heap.get? b=some o/\X.H₀ b=none
 bsz:X.base.objs.size<=X.s₀.heap.objs.size
 noex: ∀ b o,X.base.get? b=some o->b∉X.ex
 exfs: ∀ b∈X.ex,b∉X.fs
 funs:X.s₀.heap.FunFrames X.base X.outer
 frf: ∀ b∈X.fs,X.H₀ b=none
structure Inv (X:Cx) (pins:List (Addr×Obj)) (σ:List (Option V)) (H:Hp) (s:Shared):Prop where
 ok:X.Ok
 os:s.os=X.s₀.os
 bare:AllBare s.gens
 base:Un X.fs X.ex X.H₀ H X.s₀.heap s.heap
 loc: ∃ m,s.heap.Ns X.env.locals m/\ ∀ (i:Nat) (x:Str) (v:V),X.N[i]? = some x->σ[i]? = some (some v)->Vis X.env.scope x-> ∃ u,zb2 v u/\zue X.env s.heap m x u
 cell: ∀ x c,X.env.cells.lookup x=some c-> ∃ v,s.heap.IsCell c v
 free:H X.env.locals=none
 freeC: ∀ x c,X.env.cells.lookup x=some c->H c=none
 pin: ∀ p∈X.pn++pins,s.heap.get? p.1=some p.2/\H p.1=none/\p.1≠X.env.locals/\p.1∉X.fs/\ ∀ v,p.2.data≠ .cell v
 hok:HOk X.prog X.w H s.heap
 len:σ.length=X.N.length
section
variable {X:Cx} {pins:List (Addr×Obj)} {σ:List (Option V)} {H H':Hp} {s:Shared} {h':Heap}
theorem Cx.Ok.nofr (ok:X.Ok) {b:Addr} {o:Obj} (e:X.base.get? b=some o):b∉X.fs:=fun hb=>by
 have:=(ok.funs.mem hb).1
 rw [e] at this;cases this
theorem Inv.bs (I:Inv X pins σ H s): ∀ b o,X.base.get? b=some o->s.heap.get? b=some o/\H b=none:=fun b o e=>
 ⟨I.base.keep b o (I.ok.bs b o e).1 (I.ok.bs b o e).2 (I.ok.nofr e) (I.ok.noex b o e),I.base.free b o (I.ok.bs b o e).1 (I.ok.bs b o e).2 (I.ok.noex b o e)⟩
theorem Inv.bk (I:Inv X pins σ H s): ∀ b o,X.base.get? b=some o->s.heap.get? b=some o:=fun b o e=>(I.bs b o e).1
theorem Inv.mod (I:Inv X pins σ H s):Mod X.K X.mg X.base:=I.ok.mod
theorem Inv.kIn (I:Inv X pins σ H s):X.K.In s.heap:=I.ok.mod.kin.keeps I.bk
theorem Inv.lt (I:Inv X pins σ H s):X.env.locals<s.heap.objs.size:=let ⟨_,hn,_⟩:=I.loc;hn.lt
theorem Inv.sz (I:Inv X pins σ H s):X.s₀.heap.objs.size<=s.heap.objs.size:=qaS I.ok.above (Nat.le_of_lt I.lt)
theorem Inv.nofs (I:Inv X pins σ H s) {a:Addr} (h:s.heap.objs.size<=a):a∉X.fs:=fun hb=>by
 obtain ⟨_,o,ho,_⟩:=I.ok.funs.mem hb
 exact absurd (qaw (qaQ ho) (qaS I.sz h)) (qaN _)
theorem Inv.cne (I:Inv X pins σ H s): ∀ x c,X.env.cells.lookup x=some c->c≠X.env.locals:=fun x c e z=>by
 obtain ⟨v,o,ho,hd⟩:=I.cell x c e
 obtain ⟨m,⟨o',es,ep,ho',hd',_⟩,_⟩:=I.loc
 rw [z,ho'] at ho;cases ho;rw [hd'] at hd;cases hd
theorem Inv.funs (I:Inv X pins σ H s):s.heap.FunFrames X.base X.outer:=by
 have all: ∀ (l:List Env),(∀ b∈frs l,b∈X.fs)->X.s₀.heap.FunFrames X.base l->s.heap.FunFrames X.base l:=by
  intro l
  induction l with
  | nil=>intro _ _;trivial
  | cons env r ih=>
   intro hs hl
   obtain ⟨hk,⟨L,o,hf,hn,ho,hd⟩,hr⟩:=hl
   have hL:L∈X.fs:=hs L (by unfold frs;rw [qat,hf];exact qau)
   obtain ⟨sl,e⟩:=I.base.slot L o ho (I.ok.frf L hL) hL fun z=>I.ok.exfs L z hL
   exact ⟨hk,⟨L,_,hf,hn,e,hd⟩,ih (fun b hb=>hs b (by unfold frs;rw [qat,hf];exact qan _ hb)) hr⟩
 exact all X.outer (fun _ hb=>hb) I.ok.funs
theorem Inv.stack (I:Inv X pins σ H s):s.heap.FunFrames X.base X.stack:=by
 rcases I.ok.stk with e | ⟨e,hf⟩
 ·rw [e];exact I.funs
 ·rw [e]
  obtain ⟨m,hn,_⟩:=I.loc
  refine .cons (by rw [I.ok.kind];decide) hf hn ?_ I.funs
  exact Heap.get?_none_of_le (qaS I.ok.bsz I.ok.above)
theorem Inv.stkSub (I:Inv X pins σ H s): ∀ b∈frs X.stack,b∈X.env.locals::X.fs:=fun b hb=>by
 rcases I.ok.stk with e | ⟨e,hf⟩
 ·rw [e] at hb;exact qan _ hb
 ·rw [e] at hb
  unfold frs at hb
  rw [qat,hf] at hb
  exact hb
theorem Inv.stkFree (I:Inv X pins σ H s): ∀ b∈frs X.stack,H b=none:=fun b hb=>by
 rcases qaP.mp (I.stkSub b hb) with e | hb
 ·rw [e];exact I.free
 ·obtain ⟨_,o,ho,_⟩:=I.ok.funs.mem hb
  exact I.base.free b o ho (I.ok.frf b hb) fun z=>I.ok.exfs b z hb
theorem Inv.step {g':Array GenState} {t':Nat} {d':Drawn} {ch:List Addr} (I:Inv X pins σ H s)
  (hch: ∀ b∈ch,(b∈X.ex\/X.s₀.heap.objs.size<=b)/\b≠X.env.locals/\(∀ x c,X.env.cells.lookup x=some c->c≠b)/\ ∀ p∈X.pn++pins,p.1≠b)
  (keep: ∀ b o,b≠X.env.locals->b∉X.fs->b∉ch->s.heap.get? b=some o->H b=none->h'.get? b=some o)
  (slot: ∀ b o,b≠X.env.locals->b∈X.fs->b∉ch->s.heap.get? b=some o->H b=none-> ∃ sl,h'.get? b=some {o with slots:=sl}) (free: ∀ b o,b∉ch->s.heap.get? b=some o->H b=none->H' b=none)
  (there: ∀ b o,b∉ch->s.heap.get? b=some o-> ∃ o',h'.get? b=some o')
  (tups: ∀ b xs,H b=some (.tup xs)->H' b=some (.tup xs)) (frzs: ∀ b o u,H b=some (.frz o u)->H' b=some (.frz o u)) (tbls: ∀ b ps,H b=some (.tbl ps)-> ∃ more,H' b=some (.tbl (ps++more)))
  (ns: ∀ m,s.heap.Ns X.env.locals m->h'.Ns X.env.locals m) (hok:HOk X.prog X.w H' h') (hg:AllBare g'):
  Inv X pins σ H' {s with heap:=h',gens:=g',drawn:=d',toks:=t'}:=by
 have neL: ∀ b o,X.s₀.heap.get? b=some o->b≠X.env.locals:=fun b o e=>qaR (qaw (qaQ e) I.ok.above)
 have neC: ∀ b o,X.s₀.heap.get? b=some o->b∉X.ex->b∉ch:=fun b o e hx hb=>by
  rcases (hch b hb).1 with z | z
  ·exact hx z
  ·exact absurd (qaw (qaQ e) z) (qaN _)
 have cellK: ∀ x c,X.env.cells.lookup x=some c-> ∀ v,s.heap.IsCell c v->h'.IsCell c v:=fun x c e v ⟨o,ho,hd⟩=>by
  have nch:c∉ch:=fun z=>(hch c z).2.2.1 x c e rfl
  by_cases hc:c∈X.fs
  ·obtain ⟨sl,q⟩:=slot c o (I.cne x c e) hc nch ho (I.freeC x c e)
   exact ⟨_,q,hd⟩
  ·exact ⟨o,keep c o (I.cne x c e) hc nch ho (I.freeC x c e),hd⟩
 refine ⟨I.ok,I.os,hg,⟨fun b o e n hb hx=> ?_,fun b o e n hb hx=> ?_,fun b o e n hx=> ?_,fun b o e hx=> ?_,fun b xs e=>tups b xs (I.base.tups b xs e),fun b o xs e=>frzs b o xs (I.base.frzs b o xs e),fun b ps e=> ?_⟩,?_,fun x c e=> ?_,?_,fun x c e=> ?_,fun p hp=> ?_,hok,I.len⟩
 ·exact keep b o (neL b o e) hb (neC b o e hx) (I.base.keep b o e n hb hx) (I.base.free b o e n hx)
 ·obtain ⟨sl,e1⟩:=I.base.slot b o e n hb hx
  obtain ⟨sl',e2⟩:=slot b _ (neL b o e) hb (neC b o e hx) e1 (I.base.free b o e n hx)
  exact ⟨sl',e2⟩
 ·obtain ⟨o',e1⟩:=I.base.there b o e hx
  exact free b o' (neC b o e hx) e1 (I.base.free b o e n hx)
 ·obtain ⟨o',e1⟩:=I.base.there b o e hx
  exact there b o' (neC b o e hx) e1
 ·obtain ⟨m1,e1⟩:=I.base.tbls b ps e
  obtain ⟨m2,e2⟩:=tbls b _ e1
  exact ⟨m1++m2,by rw [e2,Array.append_assoc]⟩
 ·obtain ⟨m,hn,hl⟩:=I.loc
  refine ⟨m,ns m hn,fun i x v e1 e2 e3=> ?_⟩
  obtain ⟨u,r,l⟩:=hl i x v e1 e2 e3
  refine ⟨u,r,?_⟩
  rcases l with l | ⟨k,c,e,z⟩
  ·exact .inl l
  ·exact .inr ⟨k,c,e,cellK x c e _ z⟩
 ·obtain ⟨v,z⟩:=I.cell x c e
  exact ⟨v,cellK x c e v z⟩
 ·obtain ⟨m,⟨o,_,_,ho,_⟩,_⟩:=I.loc
  exact free _ o (fun z=>(hch _ z).2.1 rfl) ho I.free
 ·obtain ⟨v,o,ho,hd⟩:=I.cell x c e
  exact free c o (fun z=>(hch c z).2.2.1 x c e rfl) ho (I.freeC x c e)
 ·obtain ⟨e,n,ne,nf,d⟩:=I.pin p hp
  have nch:p.1∉ch:=fun z=>(hch p.1 z).2.2.2 p hp rfl
  exact ⟨keep p.1 p.2 ne nf nch e n,free p.1 p.2 nch e n,ne,nf,d⟩
theorem Inv.un {t':Nat} (I:Inv X pins σ H s) (u:Un X.fs [] H H' s.heap h') (hok:HOk X.prog X.w H' h'):Inv X pins σ H' {s with heap:=h',toks:=t'}:=by
 obtain ⟨m,⟨o,es,ep,ho,r⟩,_⟩:=id I.loc
 obtain ⟨sl,hL⟩:=u.any ho I.free (by simp)
 exact I.step (g':=s.gens) (d':=s.drawn) (ch:=[]) (fun _ z=>nomatch z) (fun b o _ hb _ e n=>u.keep b o e n hb (by simp)) (fun b o _ hb _ e n=>u.slot b o e n hb (by simp)) (fun b o _ e n=>u.free b o e n (by simp)) (fun b o _ e=>u.there b o e (by simp)) u.tups u.frzs u.tbls (fun m' hm=>by
   obtain ⟨o',es',ep',ho',r'⟩:=hm
   rw [ho] at ho';cases ho'
   exact ⟨_,es',ep',hL,r'⟩) hok I.bare
theorem Inv.call {g':Array GenState} {t':Nat} {d':Drawn} {ch:List Addr} (I:Inv X pins σ H s) (u:Un (frs X.stack) ch H H' s.heap h') (hok:HOk X.prog X.w H' h') (hg:AllBare g')
  (hch: ∀ b∈ch,(b∈X.ex\/X.s₀.heap.objs.size<=b)/\b≠X.env.locals/\(∀ x c,X.env.cells.lookup x=some c->c≠b)/\ ∀ p∈X.pn++pins,p.1≠b):
  Inv X pins σ H' {s with heap:=h',gens:=g',drawn:=d',toks:=t'}:=by
 obtain ⟨m,⟨o,es,ep,ho,r⟩,_⟩:=id I.loc
 obtain ⟨sl,hL⟩:=u.any ho I.free fun z=>(hch _ z).2.1 rfl
 exact I.step (ch:=ch) hch (fun b o hL hb hc e n=>u.keep b o e n (fun z=>(qaP.mp (I.stkSub b z)).elim hL hb) hc) (fun b o _ _ hc e n=>u.any e n hc) (fun b o hc e n=>u.free b o e n hc) (fun b o hc e=>u.there b o e hc) u.tups u.frzs u.tbls (fun m' hm=>by
   obtain ⟨o',es',ep',ho',r'⟩:=hm
   rw [ho] at ho';cases ho'
   exact ⟨_,es',ep',hL,r'⟩) hok hg
theorem Inv.turned {t':Nat} {it:Addr} (I:Inv X pins σ H s) (k: ∀ b o,b≠it->s.heap.get? b=some o->h'.get? b=some o) (hn:H it=none) (hL:it≠X.env.locals)
  (h1:it∈X.ex\/X.s₀.heap.objs.size<=it) (h2: ∀ x c,X.env.cells.lookup x=some c->c≠it) (h3: ∀ p∈X.pn++pins,p.1≠it):Inv X pins σ H {s with heap:=h',toks:=t'}:=by
 have nit: ∀ b u,H b=some u->b≠it:=fun b u e z=>by rw [z,hn] at e;cases e
 refine I.step (g':=s.gens) (d':=s.drawn) (ch:=[it]) (fun b hb=> ?_) (fun b o _ _ hc e _=>k b o (fun z=>hc (by simp [z])) e) (fun b o _ _ hc e _=>⟨o.slots,k b o (fun z=>hc (by simp [z])) e⟩) (fun _ _ _ _ n=>n)
  (fun b o hc e=>⟨o,k b o (fun z=>hc (by simp [z])) e⟩) (fun _ _ e=>e) (fun _ _ _ e=>e) (fun b ps e=>⟨#[],by rw [e];simp⟩) (fun m hm=> ?_) (fun b u e=> ?_) I.bare
 ·have e:b=it:=by simpa using hb
  subst e
  exact ⟨h1,hL,h2,h3⟩
 ·obtain ⟨o,es,ep,ho,r⟩:=hm
  exact ⟨o,es,ep,k _ o (Ne.symm hL) ho,r⟩
 ·refine (I.hok b u e).stay (fun c v hc q=>k c v ?_ q) (fun _ q=>q) fun _ _ q=>q
  rcases hc with z | z
  ·rw [z];exact nit b u e
  ·exact nit c _ z
theorem Inv.tok (I:Inv X pins σ H s) (t:Nat):Inv X pins σ H {s with toks:=t}:=I.un (h':=s.heap) (t':=t) Un.refl I.hok
theorem Inv.kept {t':Nat} (I:Inv X pins σ H s) (k: ∀ b u,s.heap.get? b=some u->h'.get? b=some u):Inv X pins σ H {s with heap:=h',toks:=t'}:=I.un (Un.kept k) (I.hok.kept k)
theorem Inv.laid {a:Addr} {o:HO} {t':Nat} (I:Inv X pins σ H s) (k: ∀ b u,s.heap.get? b=some u->h'.get? b=some u) (hp:s.heap.objs.size<=a) (new:zcd X.prog X.w (upd H a o) h' a o):
  Inv X pins σ (upd H a o) {s with heap:=h',toks:=t'}:=I.un (Un.laid k hp (I.hok.fresh hp)) (I.hok.laid k hp new)
theorem Inv.write {x e:Addr} {o:HO} {t':Nat} (I:Inv X pins σ H s) (mu:Mut (H x)) (he:e=x\/H e=some (.own x)) (k: ∀ b u,b≠e->s.heap.get? b=some u->h'.get? b=some u) (heo: ∃ u,h'.get? e=some u)
  (new:zcd X.prog X.w (upd H x o) h' x o):Inv X pins σ (upd H x o) {s with heap:=h',toks:=t'}:=I.un (Un.write mu he k heo) (I.hok.write mu he k heo new)
theorem Inv.pins_of {pins':List (Addr×Obj)} (I:Inv X pins σ H s) (h: ∀ p∈pins',s.heap.get? p.1=some p.2/\H p.1=none/\p.1≠X.env.locals/\p.1∉X.fs/\ ∀ v,p.2.data≠ .cell v):Inv X pins' σ H s:=
 ⟨I.ok,I.os,I.bare,I.base,I.loc,I.cell,I.free,I.freeC,fun p hp=>(qaK.mp hp).elim (fun z=>I.pin p (List.mem_append_left _ z)) (h p),I.hok,I.len⟩
theorem zga {N:List Str} (hN:N.Nodup) {i j:Nat} {x:Str} (a:N[i]? = some x) (b:N[j]? = some x):i=j:=by
 obtain ⟨h1,e1⟩:=qac.mp a
 obtain ⟨h2,e2⟩:=qac.mp b
 exact (List.getElem_inj hN).mp (e1.trans e2.symm)
theorem zhd {M:Model} {A:Around} {E:Value->Shared->Prop} {i:Nat} {x:Str} {v:V} {u:Value} {Q:Unit->Shared->Prop} (I:Inv X pins σ H s) (hN:X.N.Nodup) (hi:X.N[i]? = some x) (hx:Loc X.env.scope x) (r:zb2 v u)
  (h: ∀ s',Inv X pins (σ.set i (some v)) H s'->(∃ a,Heap.SameBut a s.heap s'.heap/\(a=X.env.locals\/X.env.cells.lookup x=some a))->Q () s') (hf:X.fn x=true\/X.env.scope.names.lookup x=some .local:=by first | exact .inl rfl | exact .inr rfl | assumption):wpAny M A (storeName X.env x u) Q E s:=by
 obtain ⟨m,hn,hl⟩:=id I.loc
 have hcls:(X.env.scope.kind== .class || (X.env.scope.kind== .module && X.env.locals != X.env.globals))=false:=by rw [I.ok.kind];rfl
 have hiσ:i<σ.length:=by rw [I.len];exact (qac.mp hi).1
 have cne:=I.cne
 have tracked: ∀ {a:Addr} {h':Heap},(∃ o,s.heap.get? a=some o/\H a=none)->Heap.SameBut a s.heap h'->HOk X.prog X.w H h':=fun {a h'} ha hs b ob e=>by
  obtain ⟨_,_,hfree⟩:=ha
  refine (I.hok b ob e).stay (fun c w' hc q=>(hs.2 c ?_).trans q) (fun _ q=>q) fun _ _ q=>q
  rintro rfl
  rcases hc with rfl | hc
  ·rw [hfree] at e;cases e
  ·rw [hfree] at hc;cases hc
 rcases hx with hk | hk
 ·refine wpAny_storeName_local hk hn (fun h' hn' hs=> ?_) hcls
  obtain ⟨oL,_,_,hoL,_⟩:=id hn
  refine h _ ⟨I.ok,I.os,I.bare,⟨fun b o e n hb hx=> ?_,fun b o e n hb hx=> ?_,I.base.free,fun b o e hx=> ?_,I.base.tups,I.base.frzs,I.base.tbls⟩,⟨_,hn',fun j y v' e1 e2 e3=> ?_⟩,fun y c e=> ?_,I.free,I.freeC,fun p hp=> ?_,tracked ⟨oL,hoL,I.free⟩ hs,by simpa using I.len⟩ ⟨_,hs,.inl rfl⟩
  ·exact (hs.2 b (qaR (qaw (qaQ e) I.ok.above))).trans (I.base.keep b o e n hb hx)
  ·obtain ⟨sl,e1⟩:=I.base.slot b o e n hb hx
   exact ⟨sl,(hs.2 b (qaR (qaw (qaQ e) I.ok.above))).trans e1⟩
  ·obtain ⟨o',e1⟩:=I.base.there b o e hx
   exact ⟨o',(hs.2 b (qaR (qaw (qaQ e) I.ok.above))).trans e1⟩
  ·by_cases hj:j=i
   ·subst hj
    rw [hi] at e1;cases e1
    rw [qai hiσ] at e2
    cases e2
    exact ⟨u,r,.inl ⟨hk,by simp⟩⟩
   ·rw [qao (Ne.symm hj)] at e2
    obtain ⟨u',r',q⟩:=hl j y v' e1 e2 e3
    refine ⟨u',r',?_⟩
    rcases q with ⟨k,e⟩ | ⟨k,c,e,z⟩
    ·refine .inl ⟨k,?_⟩
     have:y≠x:=fun e=>hj (zga hN e1 (e▸hi))
     simp [this,e]
    ·exact .inr ⟨k,c,e,z.sameBut hs (cne y c e)⟩
  ·obtain ⟨w',z⟩:=I.cell y c e
   exact ⟨w',z.sameBut hs (cne y c e)⟩
  ·obtain ⟨e,n,ne,nf,d⟩:=I.pin p hp
   exact ⟨(hs.2 p.1 ne).trans e,n,ne,nf,d⟩
 ·have hfn:X.fn x=true:=by
   rcases hf with z | z
   ·exact z
   ·rw [z] at hk;cases hk
  obtain ⟨c,hc⟩:=I.ok.has x (.inl hk)
  obtain ⟨w',z⟩:=I.cell x c hc
  refine wpAny_storeName_cell I.ok.kind hk hc z (fun h' hc' hs=> ?_)
  obtain ⟨oc,hoc,hocd⟩:=id z
  refine h {s with heap:=h'} ⟨I.ok,I.os,I.bare,⟨fun b o e n hb hx=> ?_,fun b o e n hb hx=> ?_,I.base.free,fun b o e hx=> ?_,I.base.tups,I.base.frzs,I.base.tbls⟩,⟨m,hn.sameBut hs (Ne.symm (cne x c hc)),fun j y v' e1 e2 e3=> ?_⟩,fun y c' e=> ?_,I.free,I.freeC,fun p hp=> ?_,tracked ⟨oc,hoc,I.freeC x c hc⟩ hs,by simpa using I.len⟩ ⟨c,hs,.inr hc⟩
  ·exact (hs.2 b (qaR (qaw (qaQ e) (I.ok.cab x c hfn hc)))).trans (I.base.keep b o e n hb hx)
  ·obtain ⟨sl,e1⟩:=I.base.slot b o e n hb hx
   exact ⟨sl,(hs.2 b (qaR (qaw (qaQ e) (I.ok.cab x c hfn hc)))).trans e1⟩
  ·obtain ⟨o',e1⟩:=I.base.there b o e hx
   exact ⟨o',(hs.2 b (qaR (qaw (qaQ e) (I.ok.cab x c hfn hc)))).trans e1⟩
  ·by_cases hj:j=i
   ·subst hj
    rw [hi] at e1;cases e1
    rw [qai hiσ] at e2
    cases e2
    exact ⟨u,r,.inr ⟨.inl hk,c,hc,hc'⟩⟩
   ·rw [qao (Ne.symm hj)] at e2
    obtain ⟨u',r',q⟩:=hl j y v' e1 e2 e3
    refine ⟨u',r',?_⟩
    rcases q with q | ⟨k,c',e,z'⟩
    ·exact .inl q
    ·refine .inr ⟨k,c',e,z'.sameBut hs ?_⟩
     rintro rfl
     exact hj (zga hN e1 (I.ok.inj _ _ _ e hc▸hi))
  ·by_cases hcc:c'=c
   ·subst hcc;exact ⟨_,hc'⟩
   ·obtain ⟨w2,z2⟩:=I.cell y c' e
    exact ⟨w2,z2.sameBut hs hcc⟩
  ·obtain ⟨e,n,ne,nf,d⟩:=I.pin p hp
   refine ⟨(hs.2 p.1 ?_).trans e,n,ne,nf,d⟩
   intro q
   rw [q,hoc] at e
   have q':oc=p.2:=Option.some.inj e
   exact d w' (by rw [<- q'];exact hocd)
theorem zd5 {M:Model} {A:Around} {E:Value->Shared->Prop} {i:Nat} {x:Str} {v:V} {u:Value} {Q:Unit->Shared->Prop} (I:Inv X pins σ H s) (hN:X.N.Nodup) (hi:X.N[i]? = some x) (hx:Loc X.env.scope x) (r:zb2 v u)
  (h: ∀ s',Inv X pins (σ.set i (some v)) H s'->Q () s') (hf:X.fn x=true\/X.env.scope.names.lookup x=some .local:=by first | exact .inl rfl | exact .inr rfl | assumption):wpAny M A (storeName X.env x u) Q E s:=
 zhd I hN hi hx r (fun s' I' _=>h s' I') hf
theorem Inv.call' {s':Shared} {ch:List Addr} (I:Inv X pins σ H s) (ho:s'.os=s.os) (u:Un (frs X.stack) ch H H' s.heap s'.heap) (hok:HOk X.prog X.w H' s'.heap) (hg:AllBare s'.gens)
  (hch: ∀ b∈ch,(b∈X.ex\/X.s₀.heap.objs.size<=b)/\b≠X.env.locals/\(∀ x c,X.env.cells.lookup x=some c->c≠b)/\ ∀ p∈X.pn++pins,p.1≠b):Inv X pins σ H' s':=by
 obtain ⟨h',g',d',t',o'⟩:=s'
 have e:o'=s.os:=ho
 subst e
 exact I.call (g':=g') (t':=t') (d':=d') u hok hg hch
end
noncomputable abbrev XK:=Value->Option Addr->Hp->Prop
noncomputable abbrev St:=List (Option V)
noncomputable abbrev VK:=V->Hp->Prop
noncomputable abbrev TE:=St->Hp->VK->Prop
noncomputable abbrev TT:=St->Hp->(Bool->Hp->Prop)->Prop
noncomputable abbrev TA:=St->Hp->(List V->Hp->Prop)->Prop
structure zmU where
 nx:St->Hp->Prop
 rt:VK
 bk:St->Hp->Prop:=fun _ _=>False
 ct:St->Hp->Prop:=fun _ _=>False
noncomputable abbrev TS:=zmU->St->Hp->Prop
def EP (X:Cx) (pins:List (Addr×Obj)) (σ:St) (Q:VK) (u:Value) (s':Shared):Prop:= ∃ v H',Inv X pins σ H' s'/\zb2 v u/\Q v H'
def TP (X:Cx) (pins:List (Addr×Obj)) (σ:St) (Q:Bool->Hp->Prop) (b:Bool) (s':Shared):Prop:= ∃ H',Inv X pins σ H' s'/\Q b H'
def AP (X:Cx) (pins:List (Addr×Obj)) (σ:St) (Q:List V->Hp->Prop) (us:List Value) (s':Shared):Prop:= ∃ vs H',Inv X pins σ H' s'/\zbh vs us/\Q vs H'
def SP (X:Cx) (pins:List (Addr×Obj)) (D:zmU) (f:Flow) (s':Shared):Prop:=
 match f with
 | .next=> ∃ σ' H',Inv X pins σ' H' s'/\D.nx σ' H'
 | .brk=> ∃ σ' H',Inv X pins σ' H' s'/\D.bk σ' H'
 | .cont=> ∃ σ' H',Inv X pins σ' H' s'/\D.ct σ' H'
 | .ret u=> ∃ v σ' H',Inv X pins σ' H' s'/\zb2 v u/\D.rt v H'
def PE (X:Cx) (e:Expr) (t:TE):Prop:=
 ∀ (pins:List (Addr×Obj)) (s:Shared) (σ:St) (H:Hp) (Q:VK),Inv X pins σ H s->t σ H Q->wpAny (model X.prog X.w) X.A (eval e X.env) (EP X pins σ Q) X.xe s
def PT (X:Cx) (e:Expr) (t:TT):Prop:=
 ∀ (pins:List (Addr×Obj)) (s:Shared) (σ:St) (H:Hp) (Q:Bool->Hp->Prop),Inv X pins σ H s->t σ H Q->wpAny (model X.prog X.w) X.A (isTrue e X.env (eval e X.env)) (TP X pins σ Q) X.xe s
def PW (X:Cx) (e:Expr) (t:TT):Prop:=
 ∀ (whole:Sem Value) (pins:List (Addr×Obj)) (s:Shared) (σ:St) (H:Hp) (Q:Bool->Hp->Prop),Inv X pins σ H s->t σ H Q->wpAny (model X.prog X.w) X.A (isTrue e X.env whole) (TP X pins σ Q) X.xe s
theorem PW.pt {X:Cx} {e:Expr} {t:TT} (h:PW X e t):PT X e t:=h _
def PA (X:Cx) (es:List Expr) (t:TA):Prop:=
 ∀ (pos:Pos) (pins:List (Addr×Obj)) (s:Shared) (σ:St) (H:Hp) (Q:List V->Hp->Prop),Inv X pins σ H s->t σ H Q->wpAny (model X.prog X.w) X.A (spliced (backTo pos (starEach es X.env))) (AP X pins σ Q) X.xe s
def PS (X:Cx) (st:Stmt) (t:TS):Prop:=
 ∀ (pins:List (Addr×Obj)) (s:Shared) (σ:St) (H:Hp) (D:zmU),Inv X pins σ H s->t D σ H->wpAny (model X.prog X.w) X.A (exec st X.env) (SP X pins D) X.xe s
def PSs (X:Cx) (st:List Stmt) (t:TS):Prop:=
 ∀ (pins:List (Addr×Obj)) (s:Shared) (σ:St) (H:Hp) (D:zmU),Inv X pins σ H s->t D σ H->wpAny (model X.prog X.w) X.A (execs st X.env) (SP X pins D) X.xe s
theorem thn {α:Type} {t:Sem α} {Q Q':α->Shared->Prop} {M:Model} {A:Around} {E:Value->Shared->Prop} {s:Shared} (h:wpAny M A t Q E s) (hQ: ∀ a s,Q a s->Q' a s):wpAny M A t Q' E s:=qaZ h hQ fun _ _ x=>x
section
variable {X:Cx}
noncomputable def ztz (i:Nat):TE:=fun σ H Q=> ∃ v,σ[i]? = some (some v)/\Q v H
noncomputable def tC (v:V):TE:=fun _ H Q=>Q v H
theorem zm1 {i:Nat} {x:Str} {pos:Pos} (hN:X.N[i]? = some x) (hv:Vis X.env.scope x) (hd:(x==("__debug__":Str))=false:=by decide) (hcd:(x==("__classdict__":Str))=false:=by decide):PE X (.Name x pos) (ztz i):=by
 intro pins s σ H Q I h
 obtain ⟨v,e,h⟩:=h
 obtain ⟨m,hn,hl⟩:=I.loc
 obtain ⟨u,r,l⟩:=hl i x v hN e hv
 have fin:EP X pins σ Q u s:=⟨v,H,I,r,h⟩
 rcases l with ⟨hk,hm⟩ | ⟨hk,c,hc,hcell⟩
 ·exact wpAny_Name (wpAny_loadName_local I.ok.kind hk hn hm fin) hd
 ·rcases hk with hk | hk
  ·exact wpAny_Name (wpAny_loadName_cell I.ok.kind hk hc hcell fin) hd
  ·exact wpAny_Name (wpAny_loadName_free I.ok.kind hk hc hcell fin hcd) hd
theorem zm4 {i j pos}:PE X (.Constant (.int i) j pos) (tC (.int i)):=fun _ _ _ H _ I h=>wpAny_Constant_int ⟨.int i,H,I.tok _,⟨_,rfl⟩,h⟩
theorem zrk {b j pos}:PE X (.Constant (.bool b) j pos) (tC (.bl b)):=fun _ _ _ H _ I h=>Constant_bool ⟨.bl b,H,I,rfl,h⟩
theorem zp9 {j pos}:PE X (.Constant .none j pos) (tC .non):=fun _ _ _ H _ I h=>Constant_none ⟨.non,H,I,rfl,h⟩
theorem zmO {x j pos}:PE X (.Constant (.str x) j pos) (tC (.str x)):=fun _ _ _ H _ I h=>Calls.Constant_str ⟨.str x,H,I.tok _,⟨_,rfl⟩,h⟩
def Gl (X:Cx) (x:Str):Prop:=X.env.kindOf x=some .globalImplicit
theorem zhy {E:Value->Shared->Prop} {pins:List (Addr×Obj)} {s:Shared} {σ:St} {H:Hp} {x:Str} {u:Value} {pos:Pos} {Q:Value->Shared->Prop} (I:Inv X pins σ H s) (hg:Gl X x) (hm:X.mg x=some u) (h:Q u s)
  (hd:(x==("__debug__":Str))=false:=by decide):wpAny (model X.prog X.w) X.A (eval (.Name x pos) X.env) Q E s:=
 Calls.Name_function_global I.ok.kind hg (Calls.loadGlobal_global (by rw [I.ok.glob];exact I.mod.glob.keeps I.bk) hm h) hd
theorem zik {E:Value->Shared->Prop} {pins:List (Addr×Obj)} {s:Shared} {σ:St} {H:Hp} {x:Str} {u:Value} {pos:Pos} {Q:Value->Shared->Prop} (I:Inv X pins σ H s) (hg:Gl X x) (hm:X.mg x=none) (hv:bootBuiltins x=some u) (h:Q u s)
  (hn:x≠"__name__":=by decide) (hd:(x==("__debug__":Str))=false:=by decide):wpAny (model X.prog X.w) X.A (eval (.Name x pos) X.env) Q E s:=by
 obtain ⟨mb,h1,h2⟩:=I.mod.blt
 exact Calls.Name_function_global I.ok.kind hg (Calls.loadGlobal_builtin (by rw [I.ok.glob];exact I.mod.glob.keeps I.bk) hm (by rw [I.ok.blt];exact h1.keeps I.bk) ((h2 x hn).trans hv) h) hd
theorem zoQ {x:Str} {v:V} {u:Value} {pos:Pos} (hg:Gl X x) (hm:X.mg x=some u) (r:zb2 v u) (hd:(x==("__debug__":Str))=false:=by decide):PE X (.Name x pos) (tC v):=
 fun _ _ _ H _ I h=>zhy I hg hm ⟨v,H,I,r,h⟩ hd
theorem zjG {x:Str} {v:V} {u:Value} {pos:Pos} (hg:Gl X x) (hm:X.mg x=none) (hv:bootBuiltins x=some u) (r:zb2 v u) (hn:x≠"__name__":=by decide) (hd:(x==("__debug__":Str))=false:=by decide):PE X (.Name x pos) (tC v):=
 fun _ _ _ H _ I h=>zik I hg hm hv ⟨v,H,I,r,h⟩ hn hd
noncomputable def t2I (ta tb:TE) (k:Int->Int->Hp->Prop):St->Hp->Prop:=fun σ H=>ta σ H fun x H1=>tb σ H1 fun y H2=> ∃ i j,x= .int i/\y= .int j/\k i j H2
variable {a b:Expr} {ta tb:TE} {pos:Pos}
noncomputable def zbM (p:Int->Int->Bool) (ta tb:TE):TE:=fun σ H Q=>t2I ta tb (fun i j H2=>Q (.bl (p i j)) H2) σ H
noncomputable def tB (t:TE):TT:=fun σ H Q=>t σ H fun x H1=> ∃ c,x= .bl c/\Q c H1
theorem zrO {e:Expr} {t:TE} (h:PE X e t) (he: ∀ whole,isTrue e X.env whole=(do let v<-whole;standAt e.pos;holding [v] (truthy v)):=by intro _;rfl):PT X e (tB t):=by
 intro pins s σ H Q I hw
 refine isTrue_plain (thn (h pins s σ H _ I hw) fun v s1 ⟨x,H1,I1,r1,q1⟩=> ?_) (he _)
 obtain ⟨d,rfl,q⟩:=q1
 cases r1
 exact wpAny_truthy_bool ⟨H1,I1,q⟩
variable {tA tB':TT} {rest:List Expr}
noncomputable def zne (t u:TT):TT:=fun σ H Q=>t σ H fun c H1=>if c=true then u σ H1 Q else Q false H1
noncomputable def tOr (t u:TT):TT:=fun σ H Q=>t σ H fun c H1=>if c=true then Q true H1 else u σ H1 Q
noncomputable def zeR (t:TT):TT:=fun σ H Q=>t σ H fun c H1=>Q (!c) H1
theorem pw_and1 (ha:PT X a tA):PW X (.BoolOp .And [a] pos) tA:=by
 intro wh pins s σ H Q I h
 refine isTrue_and (thn (ha pins s σ H Q I h) fun c s1 e=> ?_)
 cases c with
 | true=>exact isTrue_and_nil e
 | false=>exact e
theorem pw_or1 (ha:PT X a tA):PW X (.BoolOp .Or [a] pos) tA:=by
 intro wh pins s σ H Q I h
 refine isTrue_or (thn (ha pins s σ H Q I h) fun c s1 e=> ?_)
 cases c with
 | false=>exact isTrue_or_nil e
 | true=>exact e
theorem pw_and (ha:PT X a tA) (hb:PW X (.BoolOp .And (b::rest) pos) tB'):PW X (.BoolOp .And (a::b::rest) pos) (zne tA tB'):=by
 intro wh pins s σ H Q I h
 refine isTrue_and (thn (ha pins s σ H _ I h) fun c s1 ⟨H1,I1,q1⟩=> ?_)
 cases c with
 | true=>exact hb wh pins s1 σ H1 Q I1 q1
 | false=>exact ⟨H1,I1,q1⟩
theorem pw_or (ha:PT X a tA) (hb:PW X (.BoolOp .Or (b::rest) pos) tB'):PW X (.BoolOp .Or (a::b::rest) pos) (tOr tA tB'):=by
 intro wh pins s σ H Q I h
 refine isTrue_or (thn (ha pins s σ H _ I h) fun c s1 ⟨H1,I1,q1⟩=> ?_)
 cases c with
 | true=>exact ⟨H1,I1,q1⟩
 | false=>exact hb wh pins s1 σ H1 Q I1 q1
theorem zp4 (ha:PT X a tA):PT X (.UnaryOp .Not a pos) (zeR tA):=by
 intro pins s σ H Q I h
 exact isTrue_not (ha pins s σ H (fun c H1=>Q (!c) H1) I h)
noncomputable def zs3 (ta tb:TE):TE:=fun σ H Q=>ta σ H fun x H1=> ∃ c,x= .bl c/\if c=true then tb σ H1 Q else Q (.bl false) H1
noncomputable def ztb (ta:TE):TE:=fun σ H Q=>ta σ H fun x H1=> ∃ c,x= .bl c/\Q (.bl (!c)) H1
theorem zra {op} {t:TE} (h:PE X a t):PE X (.BoolOp op [a] pos) t:=fun pins s σ H Q I hw=>BoolOp_one (h pins s σ H Q I hw)
theorem zpu (ha:PE X a ta) (hb:PE X (.BoolOp .And (b::rest) pos) tb):PE X (.BoolOp .And (a::b::rest) pos) (zs3 ta tb):=by
 intro pins s σ H Q I h
 refine BoolOp_and (thn (ha pins s σ H _ I h) fun v s1 ⟨x,H1,I1,r1,q1⟩=> ?_)
 obtain ⟨c,rfl,q1⟩:=q1
 cases r1
 refine wpAny_truthy_bool ?_
 cases c with
 | true=>exact hb pins s1 σ H1 Q I1 q1
 | false=>exact ⟨.bl false,H1,I1,rfl,q1⟩
theorem zrq (ha:PE X a ta):PE X (.UnaryOp .Not a pos) (ztb ta):=by
 intro pins s σ H Q I h
 refine UnaryOp_ (thn (ha pins s σ H _ I h) fun v s1 ⟨x,H1,I1,r1,q1⟩=> ?_)
 obtain ⟨c,rfl,q1⟩:=q1
 cases r1
 exact not_of (wpAny_truthy_bool ⟨.bl (!c),H1,I1,rfl,q1⟩)
noncomputable def tIf (t:TT) (ta tb:TE):TE:=fun σ H Q=>t σ H fun c H1=>if c=true then ta σ H1 Q else tb σ H1 Q
theorem zlH {c:Expr} (hc:PT X c tA) (ha:PE X a ta) (hb:PE X b tb):PE X (.IfExp c a b pos) (tIf tA ta tb):=by
 intro pins s σ H Q I h
 refine wpAny_IfExp (thn (hc pins s σ H _ I h) fun d s1 ⟨H1,I1,q1⟩=> ?_)
 cases d with
 | true=>exact ha pins s1 σ H1 Q I1 q1
 | false=>exact hb pins s1 σ H1 Q I1 q1
end
def SqL (K:W.Frag) (H:Hp) (a:Addr) (xs:List V):Prop:=
 Rd H a (.lst xs)\/
  ∃ (o:Obj) (its:Array Value) (n:Nat),K.lookup a=some o/\o.cls= .type "list"/\o.dict=none/\o.data= .seq its n/\its.size<=sizeLine/\zbh xs its.toList
def SqT (K:W.Frag) (H:Hp) (a:Addr) (xs:List V):Prop:=
 Rd H a (.tup xs)\/
  ∃ (o:Obj) (its:Array Value) (n:Nat),K.lookup a=some o/\o.cls= .type "tuple"/\o.dict=none/\o.data= .seq its n/\its.size<=sizeLine/\zbh xs its.toList
noncomputable def zub:Value->Option V
 | .none=>some .non
 | .bool b=>some (.bl b)
 | .int i _=>some (.int i)
 | .str x _=>some (.str x)
 | .bytes b _=>some (.byt b)
 | .float b _=>some (.flt b)
 | .ref a=>some (.ref a)
 | .type n=>some (.ty n)
 | _=>none
theorem zb2.abs {x:V} {u:Value} (r:zb2 x u):zub u=some x:=by
 cases x with
 | non=>cases r;rfl
 | bl _=>cases r;rfl
 | int _=>obtain ⟨t,rfl⟩:=r;rfl
 | str _=>obtain ⟨t,rfl⟩:=r;rfl
 | byt _=>obtain ⟨t,rfl⟩:=r;rfl
 | flt _=>obtain ⟨t,rfl⟩:=r;rfl
 | ref _=>cases r;rfl
 | ty _=>cases r;rfl
theorem zb2.inj {x y:V} {u:Value} (r:zb2 x u) (q:zb2 y u):x=y:=Option.some.inj (r.abs.symm.trans q.abs)
theorem zbh.inj: ∀ {xs ys:List V} {us:List Value},zbh xs us->zbh ys us->xs=ys
 | _,_,_,.nil,.nil=>rfl
 | _,_,_,.cons r t,.cons r' t'=>by rw [r.inj r',zbh.inj t t']
section
variable {X:Cx} {pins:List (Addr×Obj)} {σ:St} {H:Hp} {s:Shared} {a:Addr} {xs ys:List V}
theorem SqL.of {K:W.Frag} (h:H a=some (.lst xs)):SqL K H a xs:= .inl (.inl h)
theorem Inv.list (I:Inv X pins σ H s) (h:SqL X.K H a xs): ∃ its:List Value,zbh xs its/\PlainL s.heap a its.toArray/\xs.length<=sizeLine:=by
 rcases h with h | ⟨o,its,n,hk,hc,hd,hs,hz,r⟩
 ·obtain ⟨z,its,n,r,e⟩:=h.ok I.hok
  exact ⟨its,r,⟨_,n,e,rfl,rfl,rfl⟩,z⟩
 ·refine ⟨its.toList,r,⟨o,n,I.kIn a o hk,hc,hd,by simpa using hs⟩,?_⟩
  have e:=r.length
  simp only [qas] at e
  omega
theorem Inv.tupleD (I:Inv X pins σ H s) (h:SqT X.K H a xs): ∃ its:List Value,zbh xs its/\zk2 s.heap a its.toArray/\xs.length<=sizeLine:=by
 rcases h with h | ⟨o,its,n,hk,hc,hd,hs,hz,r⟩
 ·obtain ⟨z,its,r,p⟩:=h.ok I.hok
  exact ⟨its,r,p,z⟩
 ·refine ⟨its.toList,r,⟨o,I.kIn a o hk,hc,n,by simpa using hs,hd⟩,?_⟩
  have e:=r.length
  simp only [qas] at e
  omega
theorem Inv.tuple (I:Inv X pins σ H s) (h:SqT X.K H a xs): ∃ its:List Value,zbh xs its/\IsTup s.heap a its.toArray/\xs.length<=sizeLine:=by
 obtain ⟨its,r,p,z⟩:=I.tupleD h
 exact ⟨its,r,p.is,z⟩
theorem Inv.list_inj (I:Inv X pins σ H s) (h:SqL X.K H a xs) (h':SqL X.K H a ys):xs=ys:=by
 obtain ⟨its,r,⟨o,n,e,_,_,d⟩,_⟩:=I.list h
 obtain ⟨its',r',⟨o',n',e',_,_,d'⟩,_⟩:=I.list h'
 rw [e] at e';cases e'
 rw [d] at d'
 injection d' with d1 _
 have:its=its':=by simpa using congrArg Array.toList d1
 subst this
 exact r.inj r'
theorem Inv.tuple_inj (I:Inv X pins σ H s) (h:SqT X.K H a xs) (h':SqT X.K H a ys):xs=ys:=by
 obtain ⟨its,r,⟨o,e,_,n,d⟩,_⟩:=I.tuple h
 obtain ⟨its',r',⟨o',e',_,n',d'⟩,_⟩:=I.tuple h'
 rw [e] at e';cases e'
 rw [d] at d'
 injection d' with d1 _
 have:its=its':=by simpa using congrArg Array.toList d1
 subst this
 exact r.inj r'
end
noncomputable abbrev Cx.wish (X:Cx) (E:Value->Shared->Prop):Cx:={X with xe:=E}
noncomputable abbrev Cx.nox (X:Cx):Cx:=X.wish fun _ _=>False
theorem Cx.Ok.wish {X:Cx} (ok:X.Ok) (E:Value->Shared->Prop):(X.wish E).Ok:=
 ⟨ok.mod,ok.kind,ok.glob,ok.blt,ok.above,ok.inj,ok.has,ok.cab,ok.hd,ok.hx,ok.frames,ok.stk,ok.exf,ok.bs,ok.bsz,ok.noex,ok.exfs,ok.funs,ok.frf⟩
theorem Cx.Ok.unwish {X:Cx} {E:Value->Shared->Prop} (ok:(X.wish E).Ok):X.Ok:=
 ⟨ok.mod,ok.kind,ok.glob,ok.blt,ok.above,ok.inj,ok.has,ok.cab,ok.hd,ok.hx,ok.frames,ok.stk,ok.exf,ok.bs,ok.bsz,ok.noex,ok.exfs,ok.funs,ok.frf⟩
section
variable {X:Cx} {pins:List (Addr×Obj)} {σ:St} {H:Hp} {s:Shared} {E:Value->Shared->Prop}
theorem Inv.wish (I:Inv X pins σ H s) (E:Value->Shared->Prop):Inv (X.wish E) pins σ H s:=⟨I.ok.wish E,I.os,I.bare,I.base,I.loc,I.cell,I.free,I.freeC,I.pin,I.hok,I.len⟩
theorem Inv.unwish (I:Inv (X.wish E) pins σ H s):Inv X pins σ H s:=⟨I.ok.unwish,I.os,I.bare,I.base,I.loc,I.cell,I.free,I.freeC,I.pin,I.hok,I.len⟩
theorem SP.unwish {D:zmU} {f:Flow} {s':Shared} (h:SP (X.wish E) pins D f s'):SP X pins D f s':=by
 cases f with
 | next=>obtain ⟨σ',H',I,q⟩:=h;exact ⟨σ',H',I.unwish,q⟩
 | brk=>obtain ⟨σ',H',I,q⟩:=h;exact ⟨σ',H',I.unwish,q⟩
 | cont=>obtain ⟨σ',H',I,q⟩:=h;exact ⟨σ',H',I.unwish,q⟩
 | ret u=>obtain ⟨v,σ',H',I,r,q⟩:=h;exact ⟨v,σ',H',I.unwish,r,q⟩
theorem PSs.nox {st:List Stmt} {t:TS} (h:PSs X.nox st t):PSs X st t:=fun pins s σ H D I hw=>
 qaZ (h pins s σ H D (I.wish _) hw) (fun _ _ q=>q.unwish) fun _ _ z=>qa0 z
end
section
variable {X:Cx} {st:Stmt} {rest:List Stmt} {t u:TS} {e:Expr} {te:TE} {pos:Pos}
noncomputable def zr9:TS:=fun D σ H=>D.nx σ H
noncomputable def zt6 (t u:TS):TS:=fun D σ H=>t {D with nx:=u D} σ H
theorem zo2:PSs X [] zr9:=fun _ _ σ H _ I h=>wpAny_execs_nil ⟨σ,H,I,h⟩
theorem zmq (h1:PS X st t) (h2:PSs X rest u):PSs X (st::rest) (zt6 t u):=by
 intro pins s σ H D I h
 refine wpAny_execs_cons (thn (h1 pins s σ H {D with nx:=u D} I h) fun f s1 q=> ?_)
 cases f with
 | next=>
  obtain ⟨σ',H',I',q⟩:=q
  exact h2 pins s1 σ' H' D I' q
 | ret v=>exact q
 | brk=>exact q
 | cont=>exact q
theorem zn4 (h1:PS X st t):PSs X [st] t:=by
 intro pins s σ H D I h
 refine wpAny_execs_cons (thn (h1 pins s σ H D I h) fun f s1 q=> ?_)
 cases f with
 | next=>exact wpAny_execs_nil q
 | ret v=>exact q
 | brk=>exact q
 | cont=>exact q
theorem Inv.quiet {pins:List (Addr×Obj)} {σ:St} {H:Hp} {s:Shared} (I:Inv X pins σ H s):interactive X.env=false:=by simp [interactive,I.ok.kind]
noncomputable def ztn (te:TE):TS:=fun D σ H=>te σ H fun _ H1=>D.nx σ H1
theorem zoJ (he:PE X e te) (hs:swapsWith e none pos.line X.env=pure false:=by rfl):PS X (.Expr e pos) (ztn te):=by
 intro pins s σ H D I h
 exact wpAny_Expr_any (thn (he pins s σ H _ I h) fun v s1 ⟨x,H1,I1,r1,q1⟩=>⟨σ,H1,I1,q1⟩) I.quiet hs
noncomputable def ztK (te:TE):TS:=fun D σ H=>te σ H D.rt
theorem zrg (he:PE X e te):PS X (.Return (some e) pos) (ztK te):=by
 intro pins s σ H D I h
 exact wpAny_Return_some (thn (he pins s σ H _ I h) fun v s1 ⟨x,H1,I1,r1,q1⟩=>⟨x,σ,H1,I1,r1,q1⟩)
noncomputable def zug (c:TT) (t u:TS):TS:=fun D σ H=>c σ H fun b H1=>if b=true then t D σ H1 else u D σ H1
theorem zta {c:Expr} {a b:List Stmt} {tc:TT} (hc:PT X c tc) (ha:PSs X a t) (hb:PSs X b u):PS X (.If c a b pos) (zug tc t u):=by
 intro pins s σ H D I h
 refine wpAny_If (thn (hc pins s σ H _ I h) fun d s1 ⟨H1,I1,q1⟩=> ?_)
 cases d with
 | true=>exact ha pins s1 σ H1 D I1 q1
 | false=>exact hb pins s1 σ H1 D I1 q1
end
noncomputable abbrev TG:=V->St->Hp->(St->Hp->Prop)->Prop
noncomputable abbrev TGs:=List V->St->Hp->(St->Hp->Prop)->Prop
def PG (X:Cx) (target:Expr) (t:TG):Prop:=
 ∀ (pins:List (Addr×Obj)) (s:Shared) (σ:St) (H:Hp) (v:V) (u:Value) (Q:St->Hp->Prop),Inv X pins σ H s->zb2 v u->t v σ H Q->
  wpAny (model X.prog X.w) X.A (assign target X.env u) (fun _ s'=> ∃ σ' H',Inv X pins σ' H' s'/\Q σ' H') X.xe s
def PGs (X:Cx) (ts:List Expr) (t:TGs):Prop:=
 ∀ (pins:List (Addr×Obj)) (s:Shared) (σ:St) (H:Hp) (vs:List V) (us:List Value) (Q:St->Hp->Prop),Inv X pins σ H s->zbh vs us->t vs σ H Q->
  wpAny (model X.prog X.w) X.A (assignInOrder ((assignEach ts X.env).map (·.2)) us) (fun _ s'=> ∃ σ' H',Inv X pins σ' H' s'/\Q σ' H') X.xe s
noncomputable abbrev zrY:=V->V->V->Hp->(Hp->Prop)->Prop
def zsv (X:Cx) (t:zrY):Prop:=
 ∀ (pins:List (Addr×Obj)) (s:Shared) (σ:St) (H:Hp) (o i v:V) (ov iv u:Value) (Q:Hp->Prop),Inv X pins σ H s->zb2 o ov->zb2 i iv->zb2 v u->t o i v H Q->
  wpAny (model X.prog X.w) X.A (setItem ov iv u) (fun _ s'=> ∃ H',Inv X pins σ H' s'/\Q H') X.xe s
section
variable {X:Cx} {pos:Pos}
noncomputable def zpc (i:Nat):TG:=fun v σ H Q=>Q (σ.set i (some v)) H
theorem zoY {i:Nat} {x:Str} (hN:X.N.Nodup) (hi:X.N[i]? = some x) (hx:Loc X.env.scope x) (hf:X.fn x=true\/X.env.scope.names.lookup x=some .local:=by first | exact .inl rfl | exact .inr rfl | assumption):PG X (.Name x pos) (zpc i):=by
 intro pins s σ H v u Q I r h
 exact wpAny_assign_Name (zd5 I hN hi hx r (fun s' I'=>⟨_,H,I',h⟩) hf)
noncomputable def ztP:TGs:=fun vs σ H Q=>vs=[]/\Q σ H
noncomputable def ztu (t:TG) (u:TGs):TGs:=fun vs σ H Q=> ∃ v r,vs=v::r/\t v σ H fun σ' H'=>u r σ' H' Q
theorem zop:PGs X [] ztP:=by
 intro pins s σ H vs us Q I r h
 obtain ⟨e,h⟩:=h
 subst e
 cases r
 exact assignInOrder_nil ⟨σ,H,I,h⟩
theorem zmD {e:Expr} {es:List Expr} {t:TG} {u:TGs} (h1:PG X e t) (h2:PGs X es u)
  (hs:(assignEach (e::es) X.env).map (·.2)=assign e X.env::(assignEach es X.env).map (·.2):=by rfl):PGs X (e::es) (ztu t u):=by
 intro pins s σ H vs us Q I r h
 obtain ⟨v,vr,e1,h⟩:=h
 subst e1
 cases r with
 | cons r rr=>
  rw [hs]
  refine assignInOrder_cons (thn (h1 pins s σ H _ _ _ I r h) fun _ s1 ⟨σ1,H1,I1,q1⟩=> ?_)
  exact h2 pins s1 σ1 H1 _ _ Q I1 rr q1
noncomputable def zua (K:W.Frag) (n:Nat) (t:TGs):TG:=fun v σ H Q=> ∃ a xs,v= .ref a/\SqT K H a xs/\xs.length=n/\t xs σ H Q
theorem zrQ {es:List Expr} {k:Nat} {t:TGs} {n:Nat} (hc:X.calm=true) (h:PGs X es t)
  (hn:(assignEach es X.env).length=n:=by rfl) (hst:(assignEach es X.env).findIdx? (·.1)=none:=by rfl):PG X (.Tuple es k pos) (zua X.K n t):=by
 intro pins s σ H v u Q I r hw
 obtain ⟨a,xs,e1,hq,hl,hw⟩:=hw
 subst e1
 cases r
 obtain ⟨its,rv,ht,hz⟩:=I.tuple hq
 refine assign_Tuple_tuple (I.ok.hd hc) ht (by simp [hn, <-hl,rv.length]) hst fun h' hx=> ?_
 have I1:Inv X pins σ H {s with heap:=h'}:=I.kept (t':=s.toks) fun b o e=>hx b o (qaR (qaQ e)) e
 exact h pins _ σ H xs _ Q I1 (by simpa using rv) hw
noncomputable def ztw (to ti:TE) (t:zrY):TG:=fun v σ H Q=>to σ H fun o H1=>ti σ H1 fun i H2=>t o i v H2 fun H3=>Q σ H3
theorem zq6 {o i:Expr} {to ti:TE} {t:zrY} (ho:PE X o to) (hi:PE X i ti) (hs:zsv X t)
  (ha: ∀ v,assign (.Subscript o i pos) X.env v=(do
    let ov<-holding [v] (eval o X.env)
    let iv<-holding [v,ov] (eval i X.env)
    standAt pos
    holding [v,ov,iv] (setItem ov iv v)
    release [v,ov,iv] []):=by intro _;rfl):PG X (.Subscript o i pos) (ztw to ti t):=by
 intro pins s σ H v u Q I r h
 rw [ha]
 refine qaW (qaO (thn (ho pins s σ H _ I h) fun ov s1 ⟨x,H1,I1,r1,q1⟩=> ?_))
 refine qaW (qaO (thn (hi pins s1 σ H1 _ I1 q1) fun iv s2 ⟨y,H2,I2,r2,q2⟩=> ?_))
 refine qaW (wpAny_standAt (qaW (qaO (thn (hs pins s2 σ H2 x y v ov iv u _ I2 r1 r2 r q2) fun _ s3 ⟨H3,I3,q3⟩=> ?_))))
 exact wpAny_release ⟨σ,H3,I3,q3⟩
noncomputable def zs2 (te:TE) (g:TG):TS:=fun D σ H=>te σ H fun x H1=>g x σ H1 D.nx
theorem zrf {tg e:Expr} {te:TE} {g:TG} (he:PE X e te) (hg:PG X tg g) (hs:swapsWithSole [tg] e pos.line X.env=pure false:=by rfl) (hw:swappedStores [tg] e X.env=pure none:=by rfl)
  (h1:(assignEach [tg] X.env).map (·.2)=[assign tg X.env]:=by rfl):PS X (.Assign [tg] e pos) (zs2 te g):=by
 intro pins s σ H D I h
 refine wpAny_Assign_stores (thn (he pins s σ H _ I h) fun v s1 ⟨x,H1,I1,r1,q1⟩=> ?_) hs hw
 rw [h1]
 exact thn (hg pins s1 σ H1 x v _ I1 r1 q1) fun _ s2 q=>q
theorem zpR {i:Nat} {x:Str} {e:Expr} {te:TE} {pos':Pos} (hN:X.N.Nodup) (hi:X.N[i]? = some x) (hx:Loc X.env.scope x) (he:PE X e te) (hs:swapsWith e (some (.Name x pos')) pos.line X.env=pure false:=by rfl) (hf:X.fn x=true\/X.env.scope.names.lookup x=some .local:=by first | exact .inl rfl | exact .inr rfl | assumption):
  PS X (.Assign [.Name x pos'] e pos) (zs2 te (zpc i)):=by
 intro pins s σ H D I h
 refine wpAny_Assign_Name (thn (he pins s σ H _ I h) fun v s1 ⟨y,H1,I1,r1,q1⟩=> ?_) hs
 exact zd5 I1 hN hi hx r1 (fun s2 I2=>⟨_,H1,I2,q1⟩) hf
noncomputable def ztx (i j:Nat) (ta:TA):TS:=fun D σ H=>ta σ H fun vs H1=> ∃ v w,vs=[v,w]/\D.nx ((σ.set i (some v)).set j (some w)) H1
theorem zqi {i j:Nat} {x y:Str} {a b:Expr} {ta:TA} {px py pt:Pos} {kt k2 pt2} (hc:X.calm=true) (hN:X.N.Nodup) (hi:X.N[i]? = some x) (hj:X.N[j]? = some y) (hij:i≠j)
  (hx:X.env.scope.names.lookup x=some .local) (hy:X.env.scope.names.lookup y=some .local) (ha:PA X [a,b] ta)
  (hw:swappedStores [.Tuple [.Name x px,.Name y py] kt pt] (.Tuple [a,b] k2 pt2) X.env=pure (some [x,y]))
  (hs:swapsWithSole [.Tuple [.Name x px,.Name y py] kt pt] (.Tuple [a,b] k2 pt2) pos.line X.env=pure false:=by rfl):
  PS X (.Assign [.Tuple [.Name x px,.Name y py] kt pt] (.Tuple [a,b] k2 pt2) pos) (ztx i j ta):=by
 intro pins s σ H D I h
 rw [exec_Assign_arm]
 refine qaW (wpAny_standAt ?_)
 rw [hs]
 refine qaW (qaX ?_)
 rw [qa5 (by decide)]
 refine qaW (Tuple_ (thn (ha _ pins s σ H _ I h) fun us s1 ⟨vs,H1,I1,r1,q1⟩=> ?_))
 obtain ⟨v,w,e1,q1⟩:=q1
 subst e1
 obtain ⟨u1,u2,rfl,rv,rw'⟩: ∃ u1 u2,us=[u1,u2]/\zb2 v u1/\zb2 w u2:=by
  cases r1 with
  | cons p q=>
   cases q with
   | cons p' q'=>
    cases q'
    exact ⟨_,_,rfl,p,p'⟩
 refine qaC ?_ (by show 2<=sizeLine;decide)
 have I2:Inv X pins σ H1 {s1 with heap:=s1.heap.push {cls:= .type "tuple",data:= .seq [u1,u2].toArray}}:=I1.kept (t':=s1.toks) fun b o e=>qag _ e
 rw [hw]
 refine qaW (qaX ?_)
 show wpAny (model X.prog X.w) X.A (do rule "assign.swapped-stores";let items<-unpackItems (.ref s1.heap.objs.size) 2 none;assignInOrder [fun v=>bindName X.env y v,fun v=>bindName X.env x v] items.reverse;pure Flow.next) _ _ _
 refine qaW (wpAny_rule (qaW (unpackItems_tuple (items:= #[u1,u2]) (I.ok.hd hc) (IsTup.new s1.heap _) fun h' hx'=> ?_)))
 have I3:=I2.kept (h':=h') (t':=s1.toks) fun b o e=>hx' b o (qaR (qaQ e)) e
 show wpAny _ _ (assignInOrder [fun v=>bindName X.env y v,fun v=>bindName X.env x v] [u2,u1]>>=fun _=>pure Flow.next) _ _ _
 refine qaW (assignInOrder_cons (wpAny_bindName (zd5 I3 hN hj (.inl hy) rw' (fun s2 I4=> ?_) (.inr hy))))
 refine assignInOrder_cons (wpAny_bindName (zd5 I4 hN hi (.inl hx) rv (fun s3 I5=>assignInOrder_nil (qaX ?_)) (.inr hx)))
 rw [List.set_comm _ _ (Ne.symm hij)] at I5
 exact ⟨_,H1,I5,q1⟩
end
section
variable {X:Cx} {pos:Pos}
noncomputable def zqr (c:TT) (tb:TS):TS:=fun D σ H=> ∃ W:Nat->St->Hp->Prop,(∃ m,W m σ H)/\ ∀ m σ H,W m σ H->
 c σ H fun b H1=>if b=true then ∃ N:St->Hp->Prop,(∀ σ' H',N σ' H'-> ∃ m',m'<m/\W m' σ' H')/\tb {D with nx:=N,ct:=N,bk:=D.nx} σ H1 else D.nx σ H1
theorem zmM {c:Expr} {body:List Stmt} {tc:TT} {tb:TS} (hp:PassesOwn (model X.prog X.w) X.A X.env X.xe) (hc:PT X c tc) (hb:PSs X body tb):PS X (.While c body [] pos) (zqr tc tb):=by
 intro pins s σ H D I h
 obtain ⟨W,⟨m0,w0⟩,turn⟩:=h
 refine wpAny_While (codeAny_whileLoop (fun n s'=> ∃ σ' H',Inv X pins σ' H' s'/\W n σ' H') ?_ m0 ⟨σ,H,I,w0⟩)
 rintro n s1 ⟨σ1,H1,I1,w1⟩
 refine wpAny_passesOwn hp (thn (hc pins s1 σ1 H1 _ I1 (turn n σ1 H1 w1)) fun b s2 ⟨H2,I2,q2⟩=> ?_)
 cases b with
 | true=>
  obtain ⟨N,hN,q2⟩:=q2
  rw [qa4 rfl]
  refine wpAny_passesOwn hp (thn (hb pins s2 σ1 H2 _ I2 q2) fun f s3 q3=> ?_)
  cases f with
  | next=>
   obtain ⟨σ3,H3,I3,n3⟩:=q3
   obtain ⟨m',hm,w3⟩:=hN σ3 H3 n3
   exact ⟨m',hm,σ3,H3,I3,w3⟩
  | cont=>
   obtain ⟨σ3,H3,I3,n3⟩:=q3
   obtain ⟨m',hm,w3⟩:=hN σ3 H3 n3
   exact ⟨m',hm,σ3,H3,I3,w3⟩
  | brk=>exact q3
  | ret v=>exact q3
 | false=>
  rw [qa5 Bool.false_ne_true]
  exact wpAny_execs_nil ⟨σ1,H2,I2,q2⟩
end
structure It where
 go:Nat->Hp->Prop
 yld:Nat->Hp->V->Hp->Prop
 stop:Nat->Hp->Prop
def zlD (X:Cx) (pins:List (Addr×Obj)) (H:Hp) (b:Addr):Prop:=
 H b=none/\b≠X.env.locals/\b∉X.fs/\(b∈X.ex\/X.s₀.heap.objs.size<=b)/\(∀ x c,X.env.cells.lookup x=some c->c≠b)/\ ∀ p∈X.pn++pins,p.1≠b
theorem Inv.fpOk {X:Cx} {pins:List (Addr×Obj)} {σ:St} {H H':Hp} {s:Shared} {b:Addr} (I:Inv X pins σ H s) (hb:s.heap.objs.size<=b) (hn:H' b=none):zlD X pins H' b:=by
 refine ⟨hn,Nat.ne_of_gt (qaw I.lt hb),I.nofs hb,.inr (qaS I.sz hb),fun x c e z=> ?_,fun p hp z=> ?_⟩
 ·obtain ⟨v,q⟩:=I.cell x c e
  exact absurd (qaw q.lt (by rw [z];exact hb)) (qaN _)
 ·exact absurd (qaw (qaQ (I.pin p hp).1) (by rw [z];exact hb)) (qaN _)
structure zqz (P:Program) (w:World) (K:W.Frag) (tg:Expr) (J:It) (fp:List Addr) (it:Addr) (tn:Nat->Heap->Prop):Prop where
 mem:it∈fp
 obj: ∀ i h,tn i h-> ∀ b∈fp, ∃ o,h.get? b=some o/\ ∀ v,o.data≠ .cell v
 keep: ∀ i h h',tn i h->(∀ b∈fp, ∀ o,h.get? b=some o->h'.get? b=some o)->tn i h'
 item: ∀ (X:Cx),X.prog=P->X.w=w->X.K=K-> ∀ (i:Nat) (pins:List (Addr×Obj)) (s:Shared) (σ:St) (H:Hp) (E:Value->Shared->Prop),Inv X pins σ H s->(∀ b∈fp,zlD X pins H b)->tn i s.heap->J.go i H->
  wpAny (model P w) X.A (pyNext (.ref it)) (fun r s1=> ∃ u,r=some u/\
    wpAny (model P w) X.A (letOwnedTupleGo tg (.ref it) u) (fun _ s2=> ∃ x H',Inv X pins σ H' s2/\zb2 x u/\J.yld i H x H'/\tn (i+1) s2.heap/\ ∀ b∈fp,H' b=none) E s1) E s
 done: ∀ (X:Cx),X.prog=P->X.w=w->X.K=K-> ∀ (i:Nat) (pins:List (Addr×Obj)) (s:Shared) (σ:St) (H:Hp) (E:Value->Shared->Prop),Inv X pins σ H s->(∀ b∈fp,zlD X pins H b)->tn i s.heap->J.stop i H->
  wpAny (model P w) X.A (pyNext (.ref it)) (fun r s1=>r=none/\Inv X pins σ H s1) E s
 self: ∀ (A:Around) (i:Nat) (s:Shared) (Q:Value->Shared->Prop) (E:Value->Shared->Prop),tn i s.heap->Q (.ref it) s->wpAny (model P w) A (pyIter (.ref it)) Q E s
noncomputable abbrev TI:=St->Hp->(It->Hp->Prop)->Prop
def PIE (X:Cx) (pins:List (Addr×Obj)) (σ:St) (tg:Expr) (R:It->Hp->Prop) (itv:Value) (s2:Shared):Prop:=
 ∃ (it:Addr) (fp:List Addr) (tn:Nat->Heap->Prop) (J:It) (H':Hp),itv= .ref it/\Inv X pins σ H' s2/\zqz X.prog X.w X.K tg J fp it tn/\tn 0 s2.heap/\(∀ b∈fp,zlD X pins H' b)/\R J H'
def PI (X:Cx) (tg iter:Expr) (wi:TI):Prop:=
 ∀ (pins:List (Addr×Obj)) (s:Shared) (σ:St) (H:Hp) (R:It->Hp->Prop),Inv X pins σ H s->wi σ H R->
  wpAny (model X.prog X.w) X.A (eval iter X.env) (fun v s1=>wpAny (model X.prog X.w) X.A (pyIter v) (PIE X pins σ tg R) X.xe s1) X.xe s
theorem zoC {M:Model} {A:Around} {E:Value->Shared->Prop} {s:Shared} {tg:Expr} {it:Addr} {u:Value} {o:Obj} {n:String} {vs:Array Value} {Q:Unit->Shared->Prop} (ho:s.heap.get? it=some o) (hc:o.cls= .type n) (hd:o.data= .fields vs)
  (hn:["enumerate","zip","dict_itemiterator","dict_reverseitemiterator","odict_iterator","itertools.zip_longest","itertools.pairwise"].contains n=false) (hQ:Q () s):wpAny M A (letOwnedTupleGo tg (.ref it) u) Q E s:=by
 unfold letOwnedTupleGo
 cases tg<;>first
  | exact qaX hQ
  | (cases u<;>first
      | exact qaX hQ
      | (refine qaW (wpAny_load ho ?_)
         rw [hc,hd]
         show wpAny M A (if (["enumerate","zip","dict_itemiterator","dict_reverseitemiterator","odict_iterator","itertools.zip_longest","itertools.pairwise"].contains n && vs[0]? == some (rawInt _))=true then _ else _) Q E s
         rw [qa5 (by intro h;rw [hn,Bool.false_and] at h;cases h)]
         exact qaX hQ))
noncomputable def Itl (K:W.Frag) (a:Addr):It:=
 ⟨fun i H=> ∃ xs x,SqL K H a xs/\xs[i]? = some x,fun i H x H'=>H'=H/\ ∀ xs,SqL K H a xs->xs[i]? = some x,fun i H=> ∃ xs,SqL K H a xs/\xs.length<=i⟩
noncomputable def Itt (K:W.Frag) (a:Addr):It:=
 ⟨fun i H=> ∃ xs x,SqT K H a xs/\xs[i]? = some x,fun i H x H'=>H'=H/\ ∀ xs,SqT K H a xs->xs[i]? = some x,fun i H=> ∃ xs,SqT K H a xs/\xs.length<=i⟩
noncomputable def Itr (lo:Int) (n:Nat):It:=⟨fun i _=>i<n,fun i H x H'=>H'=H/\x= .int (lo+i),fun i _=>n<=i⟩
theorem zhj.keep {A:Around} {H H':Hp} (x:zhj A H) (k: ∀ b o u,H b=some (.frz o u)->H' b=some (.frz o u)):zhj A H':=by
 rcases x with x | ⟨a,o,cls,head,vs,x1,x2,x3⟩
 ·exact .inl x
 ·exact .inr ⟨a,o,cls,head,vs,x1,k _ _ _ x2,x3⟩
theorem zhj.at_ {A:Around} {P:Program} {w:World} {H:Hp} {h:Heap} (x:zhj A H) (ok:HOk P w H h):L3.zph A h:=by
 rcases x with x | ⟨a,o,cls,head,vs,x1,x2,x3⟩
 ·exact .inl x
 ·exact .inr ⟨a,cls,head,x1,o,vs,(ok a _ x2).1,x3⟩
theorem Inv.handA {X:Cx} {pins:List (Addr×Obj)} {σ:St} {H:Hp} {s:Shared} (I:Inv X pins σ H s):zhj X.A H:=I.ok.hx.keep I.base.frzs
theorem Inv.hand {X:Cx} {pins:List (Addr×Obj)} {σ:St} {H:Hp} {s:Shared} (I:Inv X pins σ H s):L3.zph X.A s.heap:=I.handA.at_ I.hok
theorem zkY {P:Program} {w:World} {K:W.Frag} {tg:Expr} (a it:Addr):zqz P w K tg (Itl K a) [it] it (fun i h=>h.IsListIter it a i) where
 mem:=by simp
 obj:=fun i h st b hb=>by
  have e:b=it:=by simpa using hb
  subst e
  obtain ⟨o,e,c,d⟩:=st
  exact ⟨o,e,fun v z=>by rw [d] at z;cases z⟩
 keep:=fun i h h' st k=>st.at fun o e=>k it (by simp) o e
 item:=by
  intro X hP hw hK i pins s σ H E I hf st hg
  subst hP hw hK
  obtain ⟨xs,x,hq,hx⟩:=hg
  obtain ⟨its,rv,p,hz⟩:=I.list hq
  obtain ⟨u,hu,ru⟩:=rv.get hx
  obtain ⟨f0,f1,f2,f3,f4,f5⟩:=hf it (by simp)
  refine wpAny_pyNext_list_item st p.isList (x:=u) (by simpa using hu) fun h' st' sb=> ?_
  have I1:Inv X pins σ H {s with heap:=h'}:=I.turned (t':=s.toks) (fun b o hb e=>(sb.2 b hb).trans e) f0 f1 f3 f4 f5
  obtain ⟨o,e,c,d⟩:=id st'
  exact ⟨u,rfl,zoC (s:={s with heap:=h'}) e c d (by decide) ⟨x,H,I1,ru,⟨rfl,fun ys hy=>by rw [I.list_inj hy hq];exact hx⟩,st',fun b hb=>(hf b hb).1⟩⟩
 done:=by
  intro X hP hw hK i pins s σ H E I hf st hg
  subst hP hw hK
  obtain ⟨xs,hq,hx⟩:=hg
  obtain ⟨its,rv,p,hz⟩:=I.list hq
  obtain ⟨f0,f1,f2,f3,f4,f5⟩:=hf it (by simp)
  have hl:=rv.length
  exact L3.ziB I.hand st p.isList (by simp;omega) fun h' eb=>⟨rfl,I.turned (t':=s.toks) (fun b o hb e=>eb b o hb e) f0 f1 f3 f4 f5⟩
 self:=fun _ _ _ _ _ st h=>wpAny_pyIter_listiter st h
theorem ziZ {P:Program} {w:World} {K:W.Frag} {tg:Expr} (a it:Addr):zqz P w K tg (Itt K a) [it] it (fun i h=>h.IsTupleIter it a i) where
 mem:=by simp
 obj:=fun i h st b hb=>by
  have e:b=it:=by simpa using hb
  subst e
  obtain ⟨o,e,c,d⟩:=st
  exact ⟨o,e,fun v z=>by rw [d] at z;cases z⟩
 keep:=fun i h h' st k=>st.at fun o e=>k it (by simp) o e
 item:=by
  intro X hP hw hK i pins s σ H E I hf st hg
  subst hP hw hK
  obtain ⟨xs,x,hq,hx⟩:=hg
  obtain ⟨its,rv,p,hz⟩:=I.tuple hq
  obtain ⟨u,hu,ru⟩:=rv.get hx
  obtain ⟨f0,f1,f2,f3,f4,f5⟩:=hf it (by simp)
  refine wpAny_pyNext_tuple_item st (show s.heap.IsTuple a its.toArray from p) (x:=u) (by simpa using hu) fun h' st' sb=> ?_
  have I1:Inv X pins σ H {s with heap:=h'}:=I.turned (t':=s.toks) (fun b o hb e=>(sb.2 b hb).trans e) f0 f1 f3 f4 f5
  obtain ⟨o,e,c,d⟩:=id st'
  exact ⟨u,rfl,zoC (s:={s with heap:=h'}) e c d (by decide) ⟨x,H,I1,ru,⟨rfl,fun ys hy=>by rw [I.tuple_inj hy hq];exact hx⟩,st',fun b hb=>(hf b hb).1⟩⟩
 done:=by
  intro X hP hw hK i pins s σ H E I hf st hg
  subst hP hw hK
  obtain ⟨xs,hq,hx⟩:=hg
  obtain ⟨its,rv,p,hz⟩:=I.tuple hq
  obtain ⟨f0,f1,f2,f3,f4,f5⟩:=hf it (by simp)
  have hl:=rv.length
  exact L3.zky I.hand st (show s.heap.IsTuple a its.toArray from p) (by simp;omega) fun h' eb=>⟨rfl,I.turned (t':=s.toks) (fun b o hb e=>eb b o hb e) f0 f1 f3 f4 f5⟩
 self:=fun _ _ _ _ _ st h=>wpAny_pyIter_tupleiter st h
theorem zjf {P:Program} {w:World} {K:W.Frag} {tg:Expr} (it:Addr) (lo:Int) (n:Nat):zqz P w K tg (Itr lo n) [it] it (fun i h=>IsRangeIter h it (lo+(i:Nat)*1) ((n:Int) - (i:Nat)) 1) where
 mem:=by simp
 obj:=fun i h st b hb=>by
  have e:b=it:=by simpa using hb
  subst e
  exact ⟨_,st,fun v z=>by
    have z':Data.fields _=Data.cell v:=z
    cases z'⟩
 keep:=fun i h h' st k=>k it (by simp) _ st
 item:=by
  intro X hP hw hK i pins s σ H E I hf st hg
  subst hP hw hK
  obtain ⟨f0,f1,f2,f3,f4,f5⟩:=hf it (by simp)
  refine wpAny_pyNext_range_item st (by have:i<n:=hg;omega) fun h' st' kk=> ?_
  have e1:lo+(i:Nat)*1+1=lo+((i+1:Nat):Int)*1:=by omega
  have e2:(n:Int) - (i:Nat) - 1=(n:Int) - ((i+1:Nat):Int):=by omega
  rw [e1,e2] at st'
  have I1:Inv X pins σ H {s with heap:=h',toks:=s.toks+1}:=I.turned (fun b o hb e=>(kk.2 b hb).trans e) f0 f1 f3 f4 f5
  refine ⟨_,rfl,zoC (s:={s with heap:=h',toks:=s.toks+1}) (n:="range_iterator") st' rfl rfl (by decide) ⟨.int (lo+i),H,I1,⟨s.toks,?_⟩,⟨rfl,rfl⟩,st',fun b hb=>(hf b hb).1⟩⟩
  rw [Int.mul_one]
 done:=by
  intro X hP hw hK i pins s σ H E I hf st hg
  subst hP hw hK
  obtain ⟨f0,f1,f2,f3,f4,f5⟩:=hf it (by simp)
  exact L3.zkX I.hand st (by have:n<=i:=hg;omega) fun h' eb=>⟨rfl,I.turned (t':=s.toks) (fun b o hb e=>eb b o hb e) f0 f1 f3 f4 f5⟩
 self:=fun _ _ _ _ _ st h=>wpAny_pyIter_rangeiter st h
section
variable {X:Cx} {tg:Expr}
theorem zlI {pins:List (Addr×Obj)} {σ:St} {H:Hp} {s:Shared} {R:It->Hp->Prop} {E:Value->Shared->Prop} {lo hi:Int} {t u v:Tok} {tk:Nat} (I:Inv X pins σ H s) (h1: -(2^62)<=lo) (h2:lo<2^62) (h3: -(2^62)<=hi) (h4:hi<2^62)
  (q:R (Itr lo (hi - lo).toNat) H):wpAny (model X.prog X.w) X.A (pyIter (.ref s.heap.objs.size)) (PIE X pins σ tg R) E {s with heap:=s.heap.push {cls:= .type "range",data:= .fields #[.int lo t,.int hi u,.int 1 v]},toks:=tk}:=by
 refine wpAny_pyIter_range (IsRange.new ..) (small_one h1 h2 h3 h4) ?_
 have I1:Inv X pins σ H {s with heap:=s.heap.push {cls:= .type "range",data:= .fields #[.int lo t,.int hi u,.int 1 v]},toks:=tk}:=I.kept fun b o e=>qag _ e
 refine ⟨(s.heap.push {cls:= .type "range",data:= .fields #[.int lo t,.int hi u,.int 1 v]}).objs.size,[(s.heap.push {cls:= .type "range",data:= .fields #[.int lo t,.int hi u,.int 1 v]}).objs.size],_,_,H,rfl,
   I1.kept (t':=tk) fun b o e=>qag _ e,zjf _ lo (hi - lo).toNat,?_,fun b hb=> ?_,q⟩
 ·have e1:lo+((0:Nat):Int)*1=lo:=by simp
  have e2:(((hi - lo).toNat:Nat):Int) - ((0:Nat):Int)=Builtin.Range.rangeSize lo hi 1:=by rw [rangeSize_one];split<;>omega
  show IsRangeIter _ _ (lo+((0:Nat):Int)*1) ((((hi - lo).toNat:Nat):Int) - ((0:Nat):Int)) 1
  rw [e1,e2]
  exact qar _ rfl
 ·have e:b=(s.heap.push {cls:= .type "range",data:= .fields #[.int lo t,.int hi u,.int 1 v]}).objs.size:=by simpa using hb
  subst e
  exact I1.fpOk (qaV _) (I1.hok.fresh (qaV _))
noncomputable def zsq (ta:TA):TI:=fun σ H R=>ta σ H fun vs H1=> ∃ j:Int,vs=[.int j]/\ -(2^62)<=j/\j<2^62/\R (Itr 0 j.toNat) H1
theorem zkT {a:Expr} {ta:TA} {p pos:Pos} (hg:Gl X "range") (hm:X.mg "range"=none) (ha:PA X [a] ta) (hs:starEach [a] X.env=[(false,eval a X.env)]:=by rfl):PI X tg (.Call (.Name "range" p) [a] [] pos) (zsq ta):=by
 intro pins s σ H R I h
 refine Call_ (zik I hg hm boot_range (PyProof.Rows.callWith_type1 (thn (ha pos pins s σ H _ I h) fun us s1 ⟨vs,H1,I1,r1,q1⟩=> ?_) hs rfl))
 obtain ⟨j,e,q1,q2,q⟩:=q1
 subst e
 cases r1 with
 | cons r rr=>
  cases rr
  obtain ⟨t,rfl⟩:=r
  exact call_range_1 (zlI I1 (by omega) (by omega) q1 q2 (by simpa using q))
noncomputable def zt2 (wi:TI) (g:TG) (tb:TS):TS:=fun D σ H=>wi σ H fun J H1=> ∃ W:Nat->Nat->St->Hp->Prop,(∃ m,W 0 m σ H1)/\ ∀ i m σ H,W i m σ H->
 (J.stop i H/\D.nx σ H)\/(J.go i H/\ ∃ N:St->Hp->Prop,(∀ σ' H',N σ' H'-> ∃ m',m'<m/\W (i+1) m' σ' H')/\ ∀ x H',J.yld i H x H'->g x σ H' fun σ2 H2=>tb {D with nx:=N,ct:=N,bk:=D.nx} σ2 H2)
noncomputable def zhb (fp:List Addr) (h:Heap):List (Addr×Obj):=fp.filterMap fun b=>(h.get? b).map fun o=>(b,o)
theorem zdy {fp:List Addr} {h:Heap} {b:Addr} {o:Obj} (hb:b∈fp) (e:h.get? b=some o):(b,o)∈zhb fp h:=List.mem_filterMap.mpr ⟨b,hb,by rw [e];rfl⟩
theorem zkm {fp:List Addr} {h:Heap} {p:Addr×Obj} (hp:p∈zhb fp h):p.1∈fp/\h.get? p.1=some p.2:=by
 obtain ⟨b,hb,e⟩:=List.mem_filterMap.mp hp
 cases q:h.get? b with
 | none=>rw [q] at e;cases e
 | some o=>
  rw [q] at e
  have e':(b,o)=p:=Option.some.inj e
  subst e'
  exact ⟨hb,q⟩
theorem Inv.pinned {pins:List (Addr×Obj)} {σ:St} {H:Hp} {s:Shared} {fp:List Addr} (I:Inv X pins σ H s) (hf: ∀ b∈fp,zlD X pins H b) (ho: ∀ b∈fp, ∃ o,s.heap.get? b=some o/\ ∀ v,o.data≠ .cell v):Inv X (pins++zhb fp s.heap) σ H s:=
 I.pins_of fun p hp=>(qaK.mp hp).elim (fun z=>I.pin p (qak _ z)) fun z=>by
  obtain ⟨hb,e⟩:=zkm z
  obtain ⟨f0,f1,f2,_⟩:=hf p.1 hb
  obtain ⟨o,e',d⟩:=ho p.1 hb
  rw [e] at e';cases e'
  exact ⟨e,f0,f1,f2,d⟩
theorem Inv.unpinned {pins pl:List (Addr×Obj)} {σ:St} {H:Hp} {s:Shared} (I:Inv X (pins++pl) σ H s):Inv X pins σ H s:=I.pins_of fun p hp=>I.pin p (qak _ (List.mem_append_left _ hp))
theorem zp5 {iter:Expr} {body:List Stmt} {wi:TI} {g:TG} {tb:TS} {pos:Pos} (hp:PassesOwn (model X.prog X.w) X.A X.env X.xe) (hc:X.calm=true) (hi:PI X tg iter wi) (hg:PG X tg g) (hb:PSs X body tb)
  (hs: ∀ x,foldedSetIterable iter X.env x=pure x:=by intro _;rfl):PS X (.For tg iter body [] pos) (zt2 wi g tb):=by
 intro pins s σ H D I h
 refine wpAny_For (thn (hi pins s σ H _ I h) fun v s1 h1=>thn h1 fun itv s2 h2=> ?_) hs
 obtain ⟨it,fp,tn,J,H2,e,I2,T,st2,f2,W,⟨m0,w0⟩,turn⟩:=h2
 subst e
 have stat: ∀ {H':Hp},(∀ b∈fp,H' b=none)-> ∀ b∈fp,zlD X pins H' b:=fun hn b hb=>⟨hn b hb,(f2 b hb).2⟩
 refine codeAny_forLoop_any (fun n s'=> ∃ i σ' H',Inv X pins σ' H' s'/\tn i s'.heap/\(∀ b∈fp,H' b=none)/\W i n σ' H') ?_ m0 ⟨0,σ,H2,I2,st2,fun b hb=>(f2 b hb).1,w0⟩
 rintro n s3 ⟨i,σ3,H3,I3,st3,fr3,w3⟩
 rcases turn i n σ3 H3 w3 with ⟨stop,qn⟩ | ⟨go,N,hN,step⟩
 ·refine wpAny_passesOwn hp (thn (T.done X rfl rfl rfl i pins s3 σ3 H3 X.xe I3 (stat fr3) st3 stop) fun r s4 ⟨hr,I4⟩=> ?_)
  subst hr
  exact wpAny_execs_nil ⟨σ3,H3,I4,qn⟩
 ·refine wpAny_passesOwn hp (thn (T.item X rfl rfl rfl i pins s3 σ3 H3 X.xe I3 (stat fr3) st3 go) fun r s4 ⟨u,hr,h4⟩=> ?_)
  subst hr
  refine wpAny_passesOwn hp (thn h4 fun _ s5 ⟨x,H5,I5,r5,y5,st5,fr5⟩=> ?_)
  have I5':=I5.pinned (stat fr5) (T.obj _ _ st5)
  refine wpAny_passesOwn hp (thn (hg _ s5 σ3 H5 x u _ I5' r5 (step x H5 y5)) fun _ s6 ⟨σ6,H6,I6,q6⟩=> ?_)
  refine wpAny_passesOwn hp (thn (hb _ s6 σ6 H6 _ I6 q6) fun f s7 q7=> ?_)
  have again: ∀ {σ7:St} {H7:Hp},Inv X (pins++zhb fp s5.heap) σ7 H7 s7->N σ7 H7-> ∃ m,m<n/\ ∃ i σ' H',Inv X pins σ' H' s7/\tn i s7.heap/\(∀ b∈fp,H' b=none)/\W i m σ' H':=fun {σ7 H7} I7 n7=>by
   obtain ⟨m',hm,w7⟩:=hN σ7 H7 n7
   refine ⟨m',hm,i+1,σ7,H7,I7.unpinned,T.keep _ _ _ st5 fun b hb o e=>(I7.pin (b,o) (qak _ (qak _ (zdy hb e)))).1,fun b hb=> ?_,w7⟩
   obtain ⟨o,e,d⟩:=T.obj _ _ st5 b hb
   exact (I7.pin (b,o) (qak _ (qak _ (zdy hb e)))).2.1
  cases f with
  | next=>obtain ⟨σ7,H7,I7,n7⟩:=q7;exact again I7 n7
  | cont=>obtain ⟨σ7,H7,I7,n7⟩:=q7;exact again I7 n7
  | brk=>obtain ⟨σ7,H7,I7,q7⟩:=q7;exact ⟨σ7,H7,I7.unpinned,q7⟩
  | ret v=>obtain ⟨x7,σ7,H7,I7,r7,q7⟩:=q7;exact ⟨x7,σ7,H7,I7.unpinned,r7,q7⟩
end
noncomputable abbrev R2:=V->V->Hp->VK->Prop
def OpR (X:Cx) (f:Value->Value->Sem Value) (r:R2):Prop:=
 ∀ (pins:List (Addr×Obj)) (s:Shared) (σ:St) (H:Hp) (x y:V) (v u:Value) (Q:VK),Inv X pins σ H s->zb2 x v->zb2 y u->r x y H Q->
  wpAny (model X.prog X.w) X.A (f v u) (EP X pins σ Q) X.xe s
def UnR (X:Cx) (f:Value->Sem Value) (r:V->Hp->VK->Prop):Prop:=
 ∀ (pins:List (Addr×Obj)) (s:Shared) (σ:St) (H:Hp) (x:V) (v:Value) (Q:VK),Inv X pins σ H s->zb2 x v->r x H Q->
  wpAny (model X.prog X.w) X.A (f v) (EP X pins σ Q) X.xe s
def zaZ (X:Cx) (f:Value) (r:List V->Hp->VK->Prop):Prop:=
 ∀ (pins:List (Addr×Obj)) (s:Shared) (σ:St) (H:Hp) (xs:List V) (us:List Value) (Q:VK),Inv X pins σ H s->zbh xs us->r xs H Q->
  wpAny (model X.prog X.w) X.A (call f us) (EP X pins σ Q) X.xe s
noncomputable def tOp (r:R2) (ta tb:TE):TE:=fun σ H Q=>ta σ H fun x H1=>tb σ H1 fun y H2=>r x y H2 Q
noncomputable def tUn (r:V->Hp->VK->Prop) (ta:TE):TE:=fun σ H Q=>ta σ H fun x H1=>r x H1 Q
noncomputable def rI (C:Int->Int->Prop) (g:Int->Int->V):R2:=fun x y H Q=> ∃ i j,x= .int i/\y= .int j/\C i j/\Q (g i j) H
noncomputable def rI0 (g:Int->Int->V):R2:=fun x y H Q=> ∃ i j,x= .int i/\y= .int j/\Q (g i j) H
noncomputable def rU (g:Int->V):V->Hp->VK->Prop:=fun x H Q=> ∃ i,x= .int i/\Q (g i) H
section
variable {X:Cx} {a b c:Expr} {ta tb tc:TE} {pos:Pos}
theorem ztm (ha:PE X a ta) (hb:PE X b tb) {pins:List (Addr×Obj)} {s:Shared} {σ:St} {H:Hp} {R:V->V->Hp->Prop} (I:Inv X pins σ H s)
  (h:ta σ H fun x H1=>tb σ H1 fun y H2=>R x y H2) {Q:Value->Shared->Prop} {f:Value->Value->Sem Value}
  (hf: ∀ v u s2 x y H2,Inv X pins σ H2 s2->zb2 x v->zb2 y u->R x y H2->wpAny (model X.prog X.w) X.A (f v u) Q X.xe s2):
  wpAny (model X.prog X.w) X.A (eval a X.env) (fun v s₁=>wpAny (model X.prog X.w) X.A (eval b X.env) (fun u s₂=>wpAny (model X.prog X.w) X.A (f v u) Q X.xe s₂) X.xe s₁) X.xe s:=by
 refine thn (ha pins s σ H _ I h) fun v s1 ⟨x,H1,I1,r1,q1⟩=> ?_
 refine thn (hb pins s1 σ H1 _ I1 q1) fun u s2 ⟨y,H2,I2,r2,q2⟩=> ?_
 exact hf v u s2 x y H2 I2 r1 r2 q2
theorem zsX {op:Operator} {r:R2} (ho:OpR X (binaryOp op) r) (ha:PE X a ta) (hb:PE X b tb):PE X (.BinOp a op b pos) (tOp r ta tb):=by
 intro pins s σ H Q I h
 exact wpAny_BinOp (ztm ha hb I h fun v u s2 x y H2 I2 rx ry q=>ho pins s2 σ H2 x y v u Q I2 rx ry q)
theorem zrU {op:UnaryOp} {r:V->Hp->VK->Prop} (ho:UnR X (unaryOp op) r) (ha:PE X a ta):PE X (.UnaryOp op a pos) (tUn r ta):=by
 intro pins s σ H Q I h
 exact UnaryOp_ (thn (ha pins s σ H _ I h) fun v s1 ⟨x,H1,I1,r1,q1⟩=>ho pins s1 σ H1 x v Q I1 r1 q1)
theorem opI {f:Value->Value->Sem Value} {C:Int->Int->Prop} {g:Int->Int->Int}
  (rule: ∀ (i j:Int) (t u:Tok) (s:Shared) (Q:Value->Shared->Prop) (E:Value->Shared->Prop),C i j->Q (.int (g i j) s.toks) {s with toks:=s.toks+1}->wpAny (model X.prog X.w) X.A (f (.int i t) (.int j u)) Q E s):
  OpR X f (rI C fun i j=> .int (g i j)):=by
 intro pins s σ H x y v u Q I rx ry h
 obtain ⟨i,j,rfl,rfl,hc,q⟩:=h
 obtain ⟨t,rfl⟩:=rx
 obtain ⟨t',rfl⟩:=ry
 exact rule i j t t' s _ _ hc ⟨.int (g i j),H,I.tok _,⟨_,rfl⟩,q⟩
theorem ztr {f:Value->Value->Sem Value} {g:Int->Int->Int}
  (rule: ∀ (i j:Int) (t u:Tok) (s:Shared) (Q:Value->Shared->Prop) (E:Value->Shared->Prop),Q (.int (g i j) s.toks) {s with toks:=s.toks+1}->wpAny (model X.prog X.w) X.A (f (.int i t) (.int j u)) Q E s):
  OpR X f (rI0 fun i j=> .int (g i j)):=by
 intro pins s σ H x y v u Q I rx ry h
 obtain ⟨i,j,rfl,rfl,q⟩:=h
 obtain ⟨t,rfl⟩:=rx
 obtain ⟨t',rfl⟩:=ry
 exact rule i j t t' s _ _ ⟨.int (g i j),H,I.tok _,⟨_,rfl⟩,q⟩
theorem zrZ {f:Value->Value->Sem Value} {g:Int->Int->Bool}
  (rule: ∀ (i j:Int) (t u:Tok) (s:Shared) (Q:Value->Shared->Prop) (E:Value->Shared->Prop),Q (.bool (g i j)) s->wpAny (model X.prog X.w) X.A (f (.int i t) (.int j u)) Q E s):
  OpR X f (rI0 fun i j=> .bl (g i j)):=by
 intro pins s σ H x y v u Q I rx ry h
 obtain ⟨i,j,rfl,rfl,q⟩:=h
 obtain ⟨t,rfl⟩:=rx
 obtain ⟨t',rfl⟩:=ry
 exact rule i j t t' s _ _ ⟨.bl (g i j),H,I,rfl,q⟩
def zr5 (i j:Int):Prop:=0<=j/\j<=1000000/\i.natAbs<2^64
def zsu (i j:Int):Prop:=(-(2^64)<i/\i<2^64)\/(-(2^64)<j/\j<2^64)
theorem zsu.ok {i j:Int} (h:zsu i j):IntMulOk i j:=by
 rcases h with ⟨h1,h2⟩ | ⟨h1,h2⟩
 ·exact .of_left (intBits_le_64 h1 h2)
 ·exact .of_right (intBits_le_64 h1 h2)
theorem two_pow_nn (k:Nat):(0:Int)<=2^k:=by
 rw [two_pow_cast]
 exact Int.natCast_nonneg _
theorem zrl:OpR X (binaryOp .Add) (rI0 fun i j=> .int (i+j)):=ztr fun _ _ _ _ _ _ _ q=>add_int q
theorem zqn:OpR X (binaryOp .Sub) (rI0 fun i j=> .int (i - j)):=ztr fun _ _ _ _ _ _ _ q=>sub_int q
theorem zq0:OpR X (binaryOp .Mult) (rI zsu fun i j=> .int (i*j)):=opI fun _ _ _ _ _ _ _ hc q=>mul_int q hc.ok
theorem zrV:OpR X (binaryOp .Mod) (rI (fun _ j=>0<j) fun i j=> .int (i % j)):=opI fun i j _ _ _ _ _ hc q=>by
 have h1:(0:Int)<j:=hc
 exact mod_int' (by omega) (by rw [Int.fmod_eq_emod_of_nonneg i (by omega)];exact q)
theorem zrm:OpR X (binaryOp .Pow) (rI zr5 fun i j=> .int (i^j.toNat)):=opI fun _ _ _ _ _ _ _ hc q=>pow_int_small hc.1 hc.2.1 hc.2.2 q
theorem zqX:OpR X (binaryOp .LShift) (rI zr5 fun i j=> .int (i*2^j.toNat)):=opI fun _ _ _ _ _ _ _ hc q=>lshift_int_small hc.1 hc.2.1 hc.2.2 q
theorem zqI:OpR X (binaryOp .RShift) (rI (fun _ j=>0<=j) fun i j=> .int (i / 2^j.toNat)):=opI fun i j _ _ _ _ _ hc q=>
 rshift_int hc (by rw [Int.fdiv_eq_ediv_of_nonneg i (two_pow_nn _)];exact q)
theorem zp8:OpR X (binaryOp .BitAnd) (rI0 fun i j=> .int (Builtin.bitAnd i j)):=ztr fun _ _ _ _ _ _ _ q=>and_int q
theorem unI {f:Value->Sem Value} {g:Int->Int}
  (rule: ∀ (i:Int) (t:Tok) (s:Shared) (Q:Value->Shared->Prop) (E:Value->Shared->Prop),Q (.int (g i) s.toks) {s with toks:=s.toks+1}->wpAny (model X.prog X.w) X.A (f (.int i t)) Q E s):
  UnR X f (rU fun i=> .int (g i)):=by
 intro pins s σ H x v Q I rx h
 obtain ⟨i,rfl,q⟩:=h
 obtain ⟨t,rfl⟩:=rx
 exact rule i t s _ _ ⟨.int (g i),H,I.tok _,⟨_,rfl⟩,q⟩
theorem zm3:UnR X (unaryOp .USub) (rU fun i=> .int (-i)):=unI fun _ _ _ _ _ q=>neg_int q
end
section
variable {X:Cx} {a b c:Expr} {ta tb tc:TE} {pos:Pos}
theorem zgO {pins:List (Addr×Obj)} {σ:St} {H:Hp} {s:Shared} {Q:VK} {k k':Bool} (I:Inv X pins σ H s) (q:Q (.bl k) H) (e:k=k'):EP X pins σ Q (.bool k') s:=by
 subst e
 exact ⟨.bl k,H,I,rfl,q⟩
theorem zss:OpR X (compareOp .Lt) (rI0 fun i j=> .bl (decide (i<j))):=zrZ fun _ _ _ _ _ _ _ q=>lt_int q
theorem zse:OpR X (compareOp .LtE) (rI0 fun i j=> .bl (decide (i<=j))):=zrZ fun _ _ _ _ _ _ _ q=>le_int q
theorem zsh:OpR X (compareOp .Gt) (rI0 fun i j=> .bl (decide (j<i))):=zrZ fun _ _ _ _ _ _ _ q=>gt_int q
theorem ztt:OpR X (compareOp .GtE) (rI0 fun i j=> .bl (decide (j<=i))):=zrZ fun _ _ _ _ _ _ _ q=>ge_int q
theorem zg8:OpR X (compareOp .Is) (fun x y H Q=>y= .non/\Q (.bl (decide (x= .non))) H):=by
 intro pins s σ H x y v u Q I rx ry h
 obtain ⟨rfl,q⟩:=h
 cases ry
 refine is_none_gen (zgO I q ?_)
 cases x<;>first
  | (cases rx;rfl)
  | (obtain ⟨t,rfl⟩:=rx;rfl)
theorem OpR.or {f:Value->Value->Sem Value} {r r':R2} (h:OpR X f r) (h':OpR X f r'):OpR X f (fun x y H Q=>r x y H Q\/r' x y H Q):=by
 intro pins s σ H x y v u Q I rx ry q
 rcases q with q | q
 ·exact h pins s σ H x y v u Q I rx ry q
 ·exact h' pins s σ H x y v u Q I rx ry q
theorem zoj {op:CmpOp} {r:R2} (ho:OpR X (compareOp op) r) (ha:PE X a ta) (hb:PE X b tb) (hm:behindInMarks op b=false):PE X (.Compare a [op] [b] pos) (tOp r ta tb):=by
 intro pins s σ H Q I h
 exact wpAny_Compare1 (ztm ha hb I h fun v u s2 x y H2 I2 rx ry q=>ho pins s2 σ H2 x y v u Q I2 rx ry q) hm
noncomputable def zsZ (t:TE):TT:=fun σ H Q=>t σ H fun x H'=> ∃ k,x= .bl k/\Q k H'
theorem zoL {op:CmpOp} {r:R2} (ho:OpR X (compareOp op) r) (ha:PE X a ta) (hb:PE X b tb) (hm:behindInMarks op b=false):PT X (.Compare a [op] [b] pos) (zsZ (tOp r ta tb)):=by
 intro pins s σ H Q I h
 refine wpAny_isTrue_Compare1 (thn (ha pins s σ H _ I h) fun v s1 ⟨x,H1,I1,r1,q1⟩=>thn (hb pins s1 σ H1 _ I1 q1) fun u s2 ⟨y,H2,I2,r2,q2⟩=>
   thn (ho pins s2 σ H2 x y v u _ I2 r1 r2 q2) fun c s3 ⟨z,H3,I3,r3,k,e,q3⟩=> ?_) hm
 subst e
 cases r3
 exact wpAny_truthy_bool ⟨H3,I3,q3⟩
theorem zil:(sizeLine:Nat)<2^63:=by rw [sizeLine_eq];decide
theorem zjn:OpR X (binaryOp .Add) (fun x y H Q=> ∃ i j,x= .str i/\y= .str j/\i.length+j.length<=sizeLine/\Q (.str (i++j)) H):=by
 intro pins s σ H x y v u Q I rx ry h
 obtain ⟨i,j,rfl,rfl,hz,q⟩:=h
 obtain ⟨t,rfl⟩:=rx
 obtain ⟨t',rfl⟩:=ry
 exact add_str (fun t' tk=>⟨.str (i++j),H,I.tok _,⟨_,rfl⟩,q⟩) hz
theorem zd1 {x:V} {us:List Value} (r:zbh [x] us): ∃ u,us=[u]/\zb2 x u:=by
 cases r with
 | cons r1 r2=>cases r2;exact ⟨_,rfl,r1⟩
theorem zrx {x y:V} {us:List Value} (r:zbh [x,y] us): ∃ u w',us=[u,w']/\zb2 x u/\zb2 y w':=by
 cases r with
 | cons r1 r2=>
  cases r2 with
  | cons r3 r4=>cases r4;exact ⟨_,_,rfl,r1,r3⟩
theorem zjD (hc:X.calm=true):zaZ X (.builtin "max") (fun xs H Q=> ∃ i j,xs=[.int i,.int j]/\Q (.int (if j>i then j else i)) H):=by
 intro pins s σ H xs us Q I r h
 obtain ⟨i,j,rfl,q⟩:=h
 obtain ⟨u,w',rfl,⟨t,rfl⟩,⟨t',rfl⟩⟩:=zrx r
 refine max_two_ints (I.ok.hd hc) fun h' tk k=>⟨_,H,I.kept k,?_,q⟩
 by_cases hj:j>i
 ·rw [qa4 hj,qa4 hj];exact ⟨_,rfl⟩
 ·rw [qa5 hj,qa5 hj];exact ⟨_,rfl⟩
theorem zkL (hc:X.calm=true):zaZ X (.builtin "min") (fun xs H Q=> ∃ i j,xs=[.int i,.int j]/\Q (.int (if j<i then j else i)) H):=by
 intro pins s σ H xs us Q I r h
 obtain ⟨i,j,rfl,q⟩:=h
 obtain ⟨u,w',rfl,⟨t,rfl⟩,⟨t',rfl⟩⟩:=zrx r
 refine min_two_ints (I.ok.hd hc) fun h' tk k=>⟨_,H,I.kept k,?_,q⟩
 by_cases hj:j<i
 ·rw [qa4 hj,qa4 hj];exact ⟨_,rfl⟩
 ·rw [qa5 hj,qa5 hj];exact ⟨_,rfl⟩
theorem zkg:zaZ X (.type "int") (fun xs H Q=>(∃ i,xs=[.int i]/\Q (.int i) H)\/ ∃ k,xs=[.bl k]/\Q (.int (if k then 1 else 0)) H):=by
 intro pins s σ H xs us Q I r h
 rcases h with ⟨i,rfl,q⟩ | ⟨k,rfl,q⟩
 ·obtain ⟨u,rfl,t,rfl⟩:=zd1 r
  exact call_int_int ⟨.int i,H,I,⟨_,rfl⟩,q⟩
 ·obtain ⟨u,rfl,r1⟩:=zd1 r
  cases r1
  exact call_int_bool ⟨.int (if k then 1 else 0),H,I.tok _,⟨_,rfl⟩,q⟩
end
structure zsd (h:Heap) (x dx C:Addr) (mA:Str->Option Value):Prop where
 obj:h.get? x=some (W.instObj C dx)
 ns:h.Ns1 dx mA
 ne:dx≠x
theorem zjw {h:Heap} {dx:Addr} {mA:Str->Option Value} (n:h.Ns1 dx mA): ∃ od,h.get? dx=some od/\ ∀ name,W.lookIn name od=some (mA name):=by
 obtain ⟨o,es,ep,ho,hd,hk,_,hm⟩:=n
 refine ⟨o,ho,fun name=> ?_⟩
 have e:=hm name
 unfold nsFind findBy at e
 rw [<- Array.find?_toList] at e
 unfold W.lookIn
 rw [hd]
 dsimp only
 split
 ·rename_i y q
  rw [q] at e
  exact congrArg some e
 ·rename_i q
  rw [q] at e
  have a:es.toList.any (·.refKey)=false:=by
   rw [List.any_eq_false]
   intro y hy
   obtain ⟨z,t,hkey⟩:=hk y (Array.mem_toList_iff.mp hy)
   simp [DictEntry.refKey,hkey]
  have a': ¬es.toList.any (·.refKey)=true:=by rw [a];exact Bool.false_ne_true
  rw [qa5 a']
  exact congrArg some e
theorem zsd.look {h:Heap} {x dx C:Addr} {mA:Str->Option Value} (I:zsd h x dx C mA): ∃ od,W.InstAt h x (W.instObj C dx) C (some od)/\ ∀ name,W.lookIn name od=some (mA name):=
 let ⟨od,ho,hl⟩:=zjw I.ns
 ⟨od,⟨I.obj,rfl,rfl,ho⟩,hl⟩
section
variable {prog:Program} {w:World} {A:Around} {E:Value->Shared->Prop} {s:Shared} {K:W.Frag} {x dx C f:Addr} {mA:Str->Option Value} {name:Str} {v:Value}
end
section
variable {P:Program} {w:World} {H H':Hp} {h h':Heap} {a C dx:Addr} {fs fs':List (Str×V)}
theorem zn2 (hok:HOk P w H h) (e:H a=some (.ins C dx fs)): ∃ mA,zsd h a dx C mA/\(∀ f,zsU (fs.lookup f) (mA f))/\PySem.Within mA (fs.map (·.1))/\fs.length<=1000/\H dx=some (.own a):=by
 obtain ⟨d,z,ne,ob,mA,n,r,q⟩:=(show zcd P w H h a (.ins C dx fs) from hok a _ e)
 exact ⟨mA,⟨ob,n,ne⟩,r,q,z,d⟩
end
structure Cls (K:W.Frag) (C:Addr):Prop where
 pg:W.plainGet K C Str.empty=true
 hd:W.hasDictIn K C=true
 po:W.plainOver K C=true
 sa:W.findIn K (.ref C) "__setattr__"=some (some (.builtin "object.__setattr__"))
theorem Cls.get {K:W.Frag} {C:Addr} (c:Cls K C) (f:Str):W.plainGet K C f=true:=c.pg
structure Con (K:W.Frag) (C:Addr) (f:Str) (v:V) (u:Value):Prop where
 at_:W.findIn K (.ref C) f=some (some u)
 rel:zb2 v u
 get:W.specialIn K u "__get__"=some none
 cp:W.copiedNames.contains f=false
structure zui (K:W.Frag) (C:Addr) (m:Str) (f:Addr):Prop where
 at_:W.findIn K (.ref C) m=some (some (.ref f))
 fn:W.isFn K (.ref f)=true
 kp:W.keepIn K (.ref f)=true
section
variable {X:Cx} {pins:List (Addr×Obj)} {σ:St} {H:Hp} {s:Shared} {a C dx:Addr} {fs:List (Str×V)} {f:Str} {v:V} {A:Around} {E:Value->Shared->Prop}
end
section
variable {X:Cx} {o e value:Expr} {f:Str} {pos pos' tpos:Pos} {ta tv:TE}
end
section
variable {X:Cx} {pins:List (Addr×Obj)} {σ:St} {H:Hp} {s:Shared} {A:Around} {E:Value->Shared->Prop} {Q:Value->Shared->Prop} {c:Value} {b:Bool}
inductive zij (K:W.Frag) (H:Hp):V->Value->Prop where
 | non:zij K H .non (.type "NoneType")
 | bl (x:Bool):zij K H (.bl x) (.type "bool")
 | int (i:Int):zij K H (.int i) (.type "int")
 | str (x:Str):zij K H (.str x) (.type "str")
 | flt (x:UInt64):zij K H (.flt x) (.type "float")
 | lst {a:Addr} {xs:List V} (e:H a=some (.lst xs)):zij K H (.ref a) (.type "list")
 | frz {a:Addr} {o:Obj} {xs:List V} (e:H a=some (.frz o (.lst xs))):zij K H (.ref a) (.type "list")
 | tup {a:Addr} {xs:List V} (e:H a=some (.tup xs)):zij K H (.ref a) (.type "tuple")
 | dK {a:Addr} {kvs:List (Key×V)} (e:H a=some (.dK kvs)):zij K H (.ref a) (.type "dict")
 | dT {a:Addr} {kvs:List (List Key×V)} (e:H a=some (.dT kvs)):zij K H (.ref a) (.type "dict")
 | ins {a C dx:Addr} {fs:List (Str×V)} (e:H a=some (.ins C dx fs)) (cl:Cls K C) (ha:W.findIn K (.ref C) "__class__"=some (some (.builtin "object.__class__")))
   (hn:W.specialIn K (.builtin "object.__class__") "__get__"=some (some (.builtin "getset_descriptor.__get__"))) (htk:W.takesIn K (.builtin "object.__class__")=some true)
   (hm:W.mroIn K C (.type "object")=some true):zij K H (.ref a) (.ref C)
theorem zln {x:V} {u t:Value} (I:Inv X pins σ H s) (rx:zb2 x u) (ty:zij X.K H x t) (e:W.kitOne X.K t c=some b) (h: ∀ tk,Q (.bool b) {s with toks:=tk}):
  wpAny (model X.prog X.w) A (call (.builtin "isinstance") [u,c]) Q E s:=by
 cases ty with
 | non=>cases (show u=Value.none from rx);exact W.kia_one W.kitx_none I.kIn True.intro e (fun z=>nomatch z) h
 | bl y=>cases (show u=Value.bool y from rx);exact W.kia_one W.kitx_bool I.kIn True.intro e (fun z=>nomatch z) h
 | int i=>obtain ⟨t,q⟩:=(show ∃ t,u=Value.int i t from rx);cases q;exact W.kia_one W.kitx_int I.kIn True.intro e (fun z=>nomatch z) h
 | str y=>obtain ⟨t,q⟩:=(show ∃ t,u=Value.str y t from rx);cases q;exact W.kia_one W.kitx_str I.kIn True.intro e (fun z=>nomatch z) h
 | flt y=>obtain ⟨t,q⟩:=(show ∃ t,u=Value.float y t from rx);cases q;exact W.kia_one W.kitx_float I.kIn True.intro e (fun z=>nomatch z) h
 | @lst a xs ea=>
  cases (show u=Value.ref a from rx)
  obtain ⟨_,_,n,_,h1⟩:=(show zcd X.prog X.w H s.heap a (.lst xs) from I.hok a _ ea)
  exact W.kia_one W.kitx_list I.kIn ⟨_,h1,rfl⟩ e (fun z=>nomatch z) h
 | @frz a ob xs ea=>
  cases (show u=Value.ref a from rx)
  obtain ⟨_,_,_,n,_,h1⟩:=(show zcd X.prog X.w H s.heap a (.frz ob (.lst xs)) from I.hok a _ ea)
  exact W.kia_one W.kitx_list I.kIn ⟨_,h1,rfl⟩ e (fun z=>nomatch z) h
 | @tup a xs ea=>
  cases (show u=Value.ref a from rx)
  obtain ⟨_,_,_,p⟩:=(show zcd X.prog X.w H s.heap a (.tup xs) from I.hok a _ ea)
  obtain ⟨o,h1,h2,_⟩:=p
  exact W.kia_one W.kitx_tuple I.kIn ⟨o,h1,h2⟩ e (fun z=>nomatch z) h
 | @dK a kvs ea=>
  cases (show u=Value.ref a from rx)
  obtain ⟨_,_,vs,_,p⟩:=(show zcd X.prog X.w H s.heap a (.dK kvs) from I.hok a _ ea)
  obtain ⟨o,es,ep,h1,h2,_⟩:=p
  exact W.kia_one W.kitx_dict I.kIn ⟨o,h1,h2.1⟩ e (fun z=>nomatch z) h
 | @dT a kvs ea=>
  cases (show u=Value.ref a from rx)
  obtain ⟨_,_,xs,_,o,es,ep,h1,h2,_⟩:=(show zcd X.prog X.w H s.heap a (.dT kvs) from I.hok a _ ea)
  exact W.kia_one W.kitx_dict I.kIn ⟨o,h1,h2.1⟩ e (fun z=>nomatch z) h
 | @ins a C dx fs ea cl ha hn htk hm=>
  cases (show u=Value.ref a from rx)
  obtain ⟨mA,O,_⟩:=zn2 I.hok ea
  obtain ⟨od,J,_⟩:=O.look
  exact W.kia_one (W.kitx_own (cl.get _) cl.hd ha hn htk hm) I.kIn J e (fun z=>nomatch z) h
end
structure zej (k:Nat) (A:Around):Prop where
 hd:A.handled=none
 dp:A.depth+3*k+5<recursionLimit
 un:A.units+16*k+200<cLine
theorem zej.mono {j k:Nat} {A:Around} (r:zej k A) (h:j<=k):zej j A:=⟨r.hd,by have:=r.dp;omega,by have:=r.un;omega⟩
theorem zej.deeper {k:Nat} {A:Around} (r:zej (k+1) A) (env:Env):zej k (A.deeper env):=
 ⟨r.hd,by have:=r.dp;show A.depth+1+3*k+5<_;omega,by have:=r.un;show A.units+3+16*k+200<_;omega⟩
theorem zej.depth {k:Nat} {A:Around} (r:zej k A):A.depth<recursionLimit:=by have:=r.dp;omega
theorem zej.units {k:Nat} {A:Around} (r:zej k A):A.units+64<cLine:=by have:=r.un;omega
noncomputable def zt5:TA:=fun _ H Q=>Q [] H
noncomputable def zqs (ta:TE) (tr:TA):TA:=fun σ H Q=>ta σ H fun x H1=>tr σ H1 fun xs H2=>Q (x::xs) H2
section
variable {X:Cx} {e:Expr} {es:List Expr} {te:TE} {t:TA} {pos:Pos}
theorem zeG:PA X [] zt5:=fun _ _ _ _ H Q I h=>Calls.spliced_nil ⟨[],H,I,.nil,h⟩
theorem zcj (ha:PE X e te) (hr:PA X es t) (hs:starEach (e::es) X.env=(false,eval e X.env)::starEach es X.env:=by rfl):PA X (e::es) (zqs te t):=by
 intro pos pins s σ H Q I h
 rw [hs]
 show wpAny _ _ (spliced ((false,eval e X.env)::backTo pos (starEach es X.env))) _ _ s
 refine Calls.spliced_cons (thn (ha pins s σ H _ I h) fun u s1 ⟨x,H1,I1,r1,q1⟩=> ?_)
 exact thn (hr pos pins s1 σ H1 _ I1 q1) fun us s2 ⟨xs,H2,I2,r2,q2⟩=>⟨x::xs,H2,I2,.cons r1 r2,q2⟩
noncomputable def zt1 (t:TA):TE:=fun σ H Q=>t σ H fun xs H1=>xs.length<=sizeLine/\ ∀ p,H1 p=none->Q (.ref p) (upd H1 p (.tup xs))
noncomputable def ztF (t:TA):TE:=fun σ H Q=>t σ H fun xs H1=>xs.length<=sizeLine/\ ∀ p,H1 p=none->Q (.ref p) (upd H1 p (.lst xs))
theorem zpQ {x1} (h:PA X es t):PE X (.Tuple es x1 pos) (zt1 t):=by
 intro pins s σ H Q I hq
 refine wpAny_Tuple_spliced (thn (h pos pins s σ H _ I hq) fun us s1 ⟨xs,H1,I1,r,z,q⟩=>⟨by rw [<- r.length];exact z,?_⟩)
 have hf:H1 s1.heap.objs.size=none:=I1.hok.fresh (qaV _)
 refine ⟨.ref s1.heap.objs.size,upd H1 s1.heap.objs.size (.tup xs),I1.laid (t':=s1.toks) (fun b u e=>qag _ e) (qaV _) ?_,rfl,q _ hf⟩
 exact ⟨z,us,r,⟨_,qar _ rfl,rfl,_,rfl,rfl⟩⟩
theorem znb (h:PA X es t):PE X (.List es pos) (ztF t):=by
 intro pins s σ H Q I hq
 refine wpAny_List_spliced (thn (h pos pins s σ H _ I hq) fun us s1 ⟨xs,H1,I1,r,z,q⟩=>⟨by rw [<- r.length];exact z,?_⟩)
 have hf:H1 s1.heap.objs.size=none:=I1.hok.fresh (qaV _)
 refine ⟨.ref s1.heap.objs.size,upd H1 s1.heap.objs.size (.lst xs),I1.laid (t':=s1.toks) (fun b u e=>qag _ e) (qaV _) ?_,rfl,q _ hf⟩
 exact ⟨z,us,0,r,qar _ rfl⟩
end
noncomputable abbrev Sp:=List V->Hp->VK->XK->Prop
noncomputable abbrev CXT:=List Env->Hp->Shared->XK->Value->Shared->Prop
structure zpq (P:Program) (w:World) (K:W.Frag) (mg:Str->Option Value) (base:Heap) (A:Around) (outer:List Env) (s:Shared) (H:Hp):Prop where
 frames:A.frames=some outer
 mod:Mod K mg base
 bs: ∀ b o,base.get? b=some o->s.heap.get? b=some o/\H b=none
 bsz:base.objs.size<=s.heap.objs.size
 funs:s.heap.FunFrames base outer
 frf: ∀ b∈frs outer,H b=none
 hok:HOk P w H s.heap
 bare:AllBare s.gens
 hand:zhj A H
def CE (outer:List Env) (P:Program) (w:World) (H:Hp) (s:Shared) (Q:VK) (u:Value) (s':Shared):Prop:=
 ∃ v H',s'.os=s.os/\AllBare s'.gens/\Un (frs outer) [] H H' s.heap s'.heap/\HOk P w H' s'.heap/\zb2 v u/\Q v H'
def CR (CX:CXT) (outer:List Env) (P:Program) (w:World) (H:Hp) (s:Shared) (Q:VK) (E:XK) (r:Result) (s':Shared):Prop:=
 match r with
 | .ok (.ret u)=>CE outer P w H s Q u s'
 | .ok _=>False
 | .error e=>CX outer H s E e s'
structure zbN (P:Program) (w:World) (K:W.Frag) (mg:Str->Option Value) (base:Heap) (CX:CXT) (k:Nat) (f:Addr) (fd:FuncData) (ps:List Str) (sp:Sp):Prop where
 len: ∀ vs H Q E,sp vs H Q E->vs.length=ps.length
 run: ∀ (A:Around) (outer:List Env) (s:Shared) (H:Hp) (args:Args) (us:List Value) (vs:List V) (Q:VK) (E:XK),zej k A->zpq P w K mg base A outer s H->BindsTo s fd args (ps.zip us)->zbh vs us->sp vs H Q E->
  codeAny (model P w) A (.call (.ref f) args) (CR CX outer P w H s Q E) s
section
variable {X:Cx} {pins:List (Addr×Obj)} {σ:St} {H:Hp} {s s':Shared}
theorem Inv.env0 (I:Inv X pins σ H s):zpq X.prog X.w X.K X.mg X.base X.A X.stack s H:=
 ⟨I.ok.frames,I.ok.mod,I.bs,qaS I.ok.bsz I.sz,I.stack,I.stkFree,I.hok,I.bare,I.handA⟩
theorem Inv.after {Q:VK} {u:Value} (I:Inv X pins σ H s) (h:CE X.stack X.prog X.w H s Q u s'):EP X pins σ Q u s':=by
 obtain ⟨v,H',os,bare,un,hok,r,q⟩:=h
 obtain ⟨hh,g,d,t,os'⟩:=s'
 obtain rfl:os'=s.os:=os
 exact ⟨v,H',I.call (h':=hh) (g':=g) (d':=d) (t':=t) (ch:=[]) un hok bare (fun b z=>absurd z (by simp)),r,q⟩
end
noncomputable def zsF (sp:Sp) (dvs:List V) (E:XK) (t:TA):TE:=fun σ H Q=>t σ H fun vs H1=>sp (vs++dvs) H1 Q E
def zaO (K:W.Frag) (fd:FuncData) (ps:List Str) (ds:List Value):Prop:=
 ∀ (s:Shared) (us:List Value),K.In s.heap->(us++ds).length=ps.length->BindsTo s fd ⟨us,[]⟩ (ps.zip (us++ds))
theorem zaO.all {K:W.Frag} {fd:FuncData} {ps:List Str} (h: ∀ us:List Value,us.length=ps.length->bindArgs fd ⟨us,[]⟩=pure (ps.zip us)):zaO K fd ps []:=fun s us _ hl=>by
 rw [List.append_nil] at hl ⊢
 exact .of_eq (h us hl)
def zez (CX:CXT) (X:Cx) (E:XK):Prop:= ∀ (pins:List (Addr×Obj)) (σ:St) (H:Hp) (s:Shared) (e:Value) (s':Shared),Inv X pins σ H s->CX X.stack H s E e s'->X.xe e s'
section
variable {X:Cx} {CX:CXT} {k:Nat} {f C:Addr} {fd:FuncData} {ps:List Str} {sp:Sp} {dvs:List V} {ds:List Value} {E:XK} {x m:Str} {p pos apos:Pos} {e o:Expr} {es:List Expr} {ta:TE} {t:TA}
theorem zri {pins:List (Addr×Obj)} {σ:St} {H:Hp} {s:Shared} {Q:VK} {us:List Value} {vs:List V} (F:zbN X.prog X.w X.K X.mg X.base CX k f fd ps sp) (hr:zej k X.A) (hb:zaO X.K fd ps ds) (hd:zbh dvs ds) (hx:zez CX X E)
  (I:Inv X pins σ H s) (r:zbh vs us) (h:sp (vs++dvs) H Q E):wpAny (model X.prog X.w) X.A (call (.ref f) us) (EP X pins σ Q) X.xe s:=by
 have r2:zbh (vs++dvs) (us++ds):=r.append hd
 have hl:(us++ds).length=ps.length:=by rw [<- r2.length];exact F.len _ _ _ _ h
 refine wpAny_call (codeAny_mono (F.run X.A X.stack s H ⟨us,[]⟩ (us++ds) (vs++dvs) Q E hr I.env0 (hb s us I.kIn hl) r2 h) fun r s' hq=> ?_)
 cases r with
 | error e=>exact hx pins σ H s e s' I hq
 | ok fl=>
  cases fl with
  | ret u=>exact I.after hq
  | next=>exact qa0 hq
  | brk=>exact qa0 hq
  | cont=>exact qa0 hq
theorem zhY (F:zbN X.prog X.w X.K X.mg X.base CX k f fd ps sp) (hr:zej k X.A) (hg:Gl X x) (hm:X.mg x=some (.ref f)) (hk:W.keepIn X.K (.ref f)=true) (hb:zaO X.K fd ps ds) (hd:zbh dvs ds) (hx:zez CX X E)
  (ha:PA X (e::es) t) (hdb:(x==("__debug__":Str))=false:=by decide) (he:starEach (e::es) X.env=(false,eval e X.env)::starEach es X.env:=by rfl) (hpl:(backTo pos (starEach es X.env)).any (·.1)=false:=by rfl):
  PE X (.Call (.Name x p) (e::es) [] pos) (zsF sp dvs E t):=by
 intro pins s σ H Q I h
 refine wpAny_Call_Name_kw (zhy I hg hm ?_ hdb)
 refine W.callWith_K (h₀:=X.base) I.ok.mod.kin hk (thn (ha pos pins s σ H _ I h) fun us s1 ⟨vs,H1,I1,r,q⟩=>⟨I1.kIn,?_⟩) he hpl
 exact zri F hr hb hd hx I1 r q
structure Mk (K:W.Frag) (C f:Addr):Prop where
 makes:W.makesIn K C=true
 init:W.findIn K (.ref C) "__init__"=some (some (.ref f))
 fn:W.isFn K (.ref f)=true
 kp:W.keepIn K (.ref C)=true
end
def PK (X:Cx) (kws:List Keyword) (t:TA):Prop:=
 ∀ (pos:Pos) (pins:List (Addr×Obj)) (s:Shared) (σ:St) (H:Hp) (Q:List V->Hp->Prop),Inv X pins σ H s->t σ H Q->wpAny (model X.prog X.w) X.A (evalAll ((backToKw pos (keywordEach kws X.env)).map (·.2))) (AP X pins σ Q) X.xe s
section
variable {X:Cx} {CX:CXT} {k:Nat} {f C:Addr} {fd:FuncData} {ps ks:List Str} {sp:Sp} {E:XK} {x m:Str} {p pos apos kpos:Pos} {e o:Expr} {es:List Expr} {kws:List Keyword} {te ta:TE} {t tk:TA} {nm:Option Str}
theorem zhT (ha:PE X e te) (hr:PK X kws t):PK X (⟨nm,e,kpos⟩::kws) (zqs te t):=by
 intro pos pins s σ H Q I h
 show wpAny _ _ (evalAll ((do let v<-eval e X.env;standAt pos;pure v)::(backToKw pos (keywordEach kws X.env)).map (·.2))) _ _ s
 refine wpAny_evalAll_cons (qaW (thn (ha pins s σ H _ I h) fun u s1 ⟨x,H1,I1,r1,q1⟩=>qaW (wpAny_standAt (qaX ?_))))
 exact thn (hr pos pins s1 σ H1 _ I1 q1) fun us s2 ⟨xs,H2,I2,r2,q2⟩=>⟨x::xs,H2,I2,.cons r1 r2,q2⟩
structure ztC (K:W.Frag) (fd:FuncData) (ps ks:List Str) (g:List Value->List Value->List Value) (gV:List V->List V->List V):Prop where
 to: ∀ (s:Shared) (us ws:List Value),K.In s.heap->(g us ws).length=ps.length->BindsTo s fd ⟨us,ks.zip ws⟩ (ps.zip (g us ws))
 rel: ∀ {vs:List V} {us:List Value} {zs:List V} {ws:List Value},zbh vs us->zbh zs ws->zbh (gV vs zs) (g us ws)
variable {g:List Value->List Value->List Value} {gV:List V->List V->List V}
end
structure zat (N P:List Str) (sc:Scope):Prop where
 kind:sc.kind= .function
 co:sc.isCoroutine=false
 gen:sc.isGenerator=false
 nd:N.Nodup
 pre:N.take P.length=P
 par: ∀ x∈P,sc.names.lookup x=some .local\/sc.names.lookup x=some .cell
 nofree: ∀ y∈sc.names,y.2≠ .free
theorem zg7 {kindOf:Str->Option NameKind} {x:Str}: ∀ {binds:List (Str×Value)} {m:Str->Option Value},(∀ v,(x,v)∉binds)->bindL kindOf binds m x=m x
 | [],_,_=>rfl
 | (n,v)::r,m,h=>by
  unfold bindL
  rw [zg7 fun w hw=>h w (qan _ hw)]
  split
  ·have:x≠n:=by rintro rfl;exact h v qau
   simp [this]
  ·rfl
theorem zg1 {kindOf:Str->Option NameKind} {x:Str}: ∀ {binds:List (Str×Value)} {m:Str->Option Value},(∀ v,(x,v)∉binds)->bindC kindOf binds m x=m x
 | [],_,_=>rfl
 | (n,v)::r,m,h=>by
  unfold bindC
  rw [zg1 fun w hw=>h w (qan _ hw)]
  split
  ·rfl
  ·have:x≠n:=by rintro rfl;exact h v qau
   simp [this]
theorem zgX {kindOf:Str->Option NameKind} {x:Str} {v:Value}: ∀ {P:List Str} {vs:List Value} {i:Nat} {m:Str->Option Value},P.Nodup->P[i]? = some x->vs[i]? = some v->kindOf x=some .local->
  bindL kindOf (P.zip vs) m x=some v
 | [],_,_,_,_,h,_,_=>by simp at h
 | _::_,[],_,_,_,_,h,_=>by simp at h
 | p::P,w::vs,0,m,nd,h1,h2,hk=>by
  simp at h1 h2;subst h1;subst h2
  show bindL kindOf ((p,w)::P.zip vs) m p=_
  unfold bindL
  rw [zg7 fun v hv=>(List.nodup_cons.mp nd).1 (List.of_mem_zip hv).1,qa4 hk]
  simp
 | p::P,w::vs,i+1,m,nd,h1,h2,hk=>by
  show bindL kindOf ((p,w)::P.zip vs) m x=_
  unfold bindL
  exact zgX (i:=i) (List.nodup_cons.mp nd).2 (by simpa using h1) (by simpa using h2) hk
theorem zha {kindOf:Str->Option NameKind} {x:Str} {v:Value}: ∀ {P:List Str} {vs:List Value} {i:Nat} {m:Str->Option Value},P.Nodup->P[i]? = some x->vs[i]? = some v->kindOf x≠some .local->
  bindC kindOf (P.zip vs) m x=some v
 | [],_,_,_,_,h,_,_=>by simp at h
 | _::_,[],_,_,_,_,h,_=>by simp at h
 | p::P,w::vs,0,m,nd,h1,h2,hk=>by
  simp at h1 h2;subst h1;subst h2
  show bindC kindOf ((p,w)::P.zip vs) m p=_
  unfold bindC
  rw [zg1 fun v hv=>(List.nodup_cons.mp nd).1 (List.of_mem_zip hv).1,qa5 hk]
  simp
 | p::P,w::vs,i+1,m,nd,h1,h2,hk=>by
  show bindC kindOf ((p,w)::P.zip vs) m x=_
  unfold bindC
  exact zha (i:=i) (List.nodup_cons.mp nd).2 (by simpa using h1) (by simpa using h2) hk
noncomputable def zem (N:List Str) (vs:List V):St:=vs.map some++List.replicate (N.length - vs.length) none
noncomputable def zhG (CX:CXT) (P:Program) (w:World) (K:W.Frag) (mg:Str->Option Value) (base:Heap) (N:List Str) (qual:Str) (scope:Scope) (f:Addr) (cd:Value) (A:Around) (outer:List Env) (s:Shared) (H:Hp) (E:XK):Cx where
 prog:=P
 w:=w
 K:=K
 mg:=mg
 base:=base
 A:=A.deeper (envOfC qual scope s.heap.objs.size f cd)
 N:=N
 s₀:=s
 H₀:=H
 env:=envOfC qual scope s.heap.objs.size f cd
 outer:=outer
 stack:=envOfC qual scope s.heap.objs.size f cd::outer
 ex:=[]
 calm:=true
 fn:=fun _=>true
 pn:=[]
 xe:=fun e s'=>wpAny (model P w) (A.deeper (envOfC qual scope s.heap.objs.size f cd)) (leaving (envOfC qual scope s.heap.objs.size f cd) e) (fun _ s''=>CX outer H s E e s'') (fun e' s''=>CX outer H s E e' s'') s'
theorem ziM {sc:Scope} {n:Nat} {x:Str} (h:sc.names.lookup x=some .cell): ∃ c,(cellsFrom n sc.names []).lookup x=some c:=by
 have q:=W.cellsFrom_some sc.names n [] (.inl h)
 exact Option.isSome_iff_exists.mp q
theorem zgL {CX:CXT} {P:Program} {w:World} {K:W.Frag} {mg:Str->Option Value} {base:Heap} {N ps:List Str} {qual:Str} {scope:Scope} {f:Addr} {cd:Value} {A:Around} {outer:List Env} {s s1:Shared} {H:Hp} {E:XK} {us:List Value} {vs:List V}
  (S:zat N ps scope) {cm:Bool} (hd:cm=true->A.handled=none) (e0:zpq P w K mg base A outer s H) (hl:vs.length=ps.length) (r:zbh vs us)
  (x:InCallC s s.heap.objs.size (bindL (envOfC qual scope s.heap.objs.size f cd).kindOf (ps.zip us) fun _=>none) (cellsFrom (s.heap.objs.size+1) scope.names []) (bindC (envOfC qual scope s.heap.objs.size f cd).kindOf (ps.zip us) fun _=>none) s1):
  Inv {zhG CX P w K mg base N qual scope f cd A outer s H E with calm:=cm} [] (zem N vs) H s1:=by
 have hpl:ps.length<=N.length:=by have:=congrArg List.length S.pre;rw [List.length_take] at this;omega
 obtain ⟨h1,tk,rfl,hk⟩:=x.done
 have noA: ∀ b:Addr,b∉(zhG CX P w K mg base N qual scope f cd A outer s H E).ex:=fun b z=>absurd (show b∈([]:List Addr) from z) (by simp)
 refine ⟨⟨e0.mod,S.kind,rfl,rfl,qaV _,fun y z c h1 h2=> ?_,fun y hy=> ?_,fun y c _ h=> ?_,hd,e0.hand,Around.frames_deeper e0.frames,.inr ⟨rfl,rfl⟩,fun b z=>absurd z (noA b),e0.bs,e0.bsz,fun b _ _=>noA b,fun b z=>absurd z (noA b),e0.funs,e0.frf⟩,
   rfl,e0.bare,Un.kept hk,⟨_,x.toInCall.ns,fun i y v h1 h2 h3=> ?_⟩,fun y c h=>⟨_,x.cell y c h⟩,e0.hok.fresh (qaV _),fun y c h=> ?_,fun p hp=>absurd (show p∈([]:List (Addr×Obj)) from hp) (by simp),e0.hok.kept hk,?_⟩
 ·exact name_of_addr x.apart (PySem.mem_of_lookup h1) (PySem.mem_of_lookup h2)
 ·have hy:scope.names.lookup y=some .cell\/scope.names.lookup y=some .free:=hy
  rcases hy with hy | hy
  ·exact ziM hy
  ·exact absurd rfl (S.nofree _ (PySem.mem_of_lookup hy))
 ·exact Nat.le_of_lt (x.above y c (PySem.mem_of_lookup h))
 ·have hi:i<vs.length:=by
   unfold zem at h2
   by_cases hi:i<vs.length
   ·exact hi
   ·rw [qaa (by simpa using hi)] at h2
    rw [List.getElem?_replicate] at h2
    split at h2<;>cases h2
  have ha:vs[i]? = some v:=by
   unfold zem at h2
   rw [qad (by simpa using hi),List.getElem?_map] at h2
   cases e:vs[i]? with
   | none=>rw [e] at h2;cases h2
   | some a=>rw [e] at h2;cases h2;rfl
  obtain ⟨u,hu,rv⟩:=r.get ha
  have hp:ps[i]? = some y:=by
   rw [<- S.pre,List.getElem?_take_of_lt (by omega)];exact h1
  have ndP:ps.Nodup:=by rw [<- S.pre];exact S.nd.sublist (List.take_sublist _ _)
  refine ⟨u,rv,?_⟩
  rcases S.par y (List.mem_of_getElem? hp) with k | k
  ·exact .inl ⟨k,zgX ndP hp hu k⟩
  ·obtain ⟨c,e⟩:=ziM (n:=s.heap.objs.size+1) k
   refine .inr ⟨.inl k,c,e,?_⟩
   have q:=x.cell y c e
   rw [zha ndP hp hu (by show scope.names.lookup y≠_;rw [k];decide)] at q
   exact q
 ·exact e0.hok.fresh (Nat.le_of_lt (x.above y c (PySem.mem_of_lookup h)))
 ·unfold zem
  show _=N.length
  rw [qav,qaH,List.length_replicate]
  omega
theorem zqM {CX:CXT} {P:Program} {w:World} {K:W.Frag} {mg:Str->Option Value} {base:Heap} {k:Nat} {f:Addr} {name qual:Str} {params:Arguments} {body:List Stmt} {scope:Scope} {dV kV doc pm cdv ct oc:Value} {an od:Option Addr}
  {osl:Array (Option Value)} {N ps:List Str} {sp:Sp} (lk:K.lookup f=some ⟨oc,od,.func (W.fnOf name qual params body scope dV kV doc pm an cdv ct),osl⟩) (hcd:W.codeIn K cdv qual=true) (S:zat N ps scope)
  (len: ∀ vs H Q E,sp vs H Q E->vs.length=ps.length)
  (hbody: ∀ (A:Around) (outer:List Env) (s:Shared) (H:Hp) (vs:List V) (Q:VK) (E:XK),zej k (A.deeper (envOfC qual scope s.heap.objs.size f cdv))->sp vs H Q E->
    ∃ t,PSs (zhG CX P w K mg base N qual scope f cdv A outer s H E) body t/\t {nx:=fun _ H'=>Q .non H',rt:=Q} (zem N vs) H):
  zbN P w K mg base CX (k+1) f (W.fnOf name qual params body scope dV kV doc pm an cdv ct) ps sp:=by
 refine ⟨len,fun A outer s H args us vs Q E hr e0 hb r hsp=> ?_⟩
 have hl:=len _ _ _ _ hsp
 have KX:K.In s.heap:=e0.mod.kin.keeps fun b o e=>(e0.bs b o e).1
 have lim:s.heap.NoLimit:=e0.mod.nolimit.keeps fun b o e=>(e0.bs b o e).1
 have hkind: ∀ y∈ps.zip us,scope.names.lookup y.1=some .local\/(scope.names.lookup y.1=some .cell/\((cellsFrom (s.heap.objs.size+1) scope.names []).lookup y.1).isSome=true):=fun ⟨n,v⟩ hy=>by
  rcases S.par n (List.of_mem_zip hy).1 with q | q
  ·exact .inl q
  ·exact .inr ⟨q,W.cellsFrom_some _ _ _ (.inl q)⟩
 refine codeAny_call_function hr.depth (KX _ _ lk) rfl S.co S.gen rfl (W.codeRec_of KX hcd) (hb _ _ _ _ ?_)
 refine wpAny_newFunctionEnv_cells S.kind hkind fun env he s1 x=> ?_
 subst he
 refine ⟨lim.keeps x.toInCall.keep,codeAny_func ?_⟩
 obtain ⟨t,ht,hq⟩:=hbody A outer s H vs Q E (hr.deeper _) hsp
 have I:Inv (zhG CX P w K mg base N qual scope f cdv A outer s H E) [] (zem N vs) H s1:=zgL (cm:=true) S (fun _=>hr.hd) e0 hl r x
 refine qaZ (ht [] s1 (zem N vs) H _ I hq) (fun fl s' hs=> ?_) fun e s' hs=>hs
 have fin: ∀ {σ':St} {H':Hp} {v:V} {u:Value},Inv (zhG CX P w K mg base N qual scope f cdv A outer s H E) [] σ' H' s'->zb2 v u->Q v H'->CE outer P w H s Q u s':=
  fun {σ' H' v u} J rv q=>⟨v,H',J.os,J.bare,J.base,J.hok,rv,q⟩
 cases fl with
 | ret u=>
  obtain ⟨v,σ',H',J,rv,q⟩:=hs
  exact fin J rv q
 | next=>
  obtain ⟨σ',H',J,q⟩:=hs
  exact fin (v:=V.non) (u:=Value.none) J rfl q
 | brk=>
  obtain ⟨_,_,_,q⟩:=hs
  exact qa0 q
 | cont=>
  obtain ⟨_,_,_,q⟩:=hs
  exact qa0 q
section
variable {X:Cx} {x:Str} {p pos:Pos} {e:Expr} {es:List Expr} {t:TA} {id T:String} {r:List V->Hp->VK->Prop}
noncomputable def tCB (r:List V->Hp->VK->Prop) (t:TA):TE:=fun σ H Q=>t σ H fun vs H1=>r vs H1 Q
theorem zdV (hc:zaZ X (.builtin id) r) (hg:Gl X x) (hm:X.mg x=none) (hv:bootBuiltins x=some (.builtin id)) (ha:PA X (e::es) t) (hn:x≠"__name__":=by decide) (hdb:(x==("__debug__":Str))=false:=by decide)
  (he:starEach (e::es) X.env=(false,eval e X.env)::starEach es X.env:=by rfl) (hpl:(backTo pos (starEach es X.env)).any (·.1)=false:=by rfl):PE X (.Call (.Name x p) (e::es) [] pos) (tCB r t):=by
 intro pins s σ H Q I h
 refine wpAny_Call_Name_kw (zik I hg hm hv ?_ hn hdb)
 exact PyProof.Rows.callWith_builtin1 (thn (ha pos pins s σ H _ I h) fun us s1 ⟨vs,H1,I1,r1,q1⟩=>hc pins s1 σ H1 vs us Q I1 r1 q1) he hpl
theorem zgH (hc:zaZ X (.type T) r) (hg:Gl X x) (hm:X.mg x=none) (hv:bootBuiltins x=some (.type T)) (ha:PA X (e::es) t) (hn:x≠"__name__":=by decide) (hdb:(x==("__debug__":Str))=false:=by decide)
  (he:starEach (e::es) X.env=(false,eval e X.env)::starEach es X.env:=by rfl) (hpl:(backTo pos (starEach es X.env)).any (·.1)=false:=by rfl):PE X (.Call (.Name x p) (e::es) [] pos) (tCB r t):=by
 intro pins s σ H Q I h
 refine wpAny_Call_Name_kw (zik I hg hm hv ?_ hn hdb)
 exact PyProof.Rows.callWith_type1 (thn (ha pos pins s σ H _ I h) fun us s1 ⟨vs,H1,I1,r1,q1⟩=>hc pins s1 σ H1 vs us Q I1 r1 q1) he hpl
end
end L2
namespace HT
open PySem PyProof.Rows
section
open PySem.SeqAt
open PySem.AutoSeq1 (wpAny_loadPart')
open PySem.MeetsSeq PySem.MeetsSeq2 PySem.MeetsSeq3
end
section
variable {prog:Program} {w:World} {A:Around} {E:Value->Shared->Prop} {s:Shared}
theorem zon {t b:Addr} {vs ws:List Value} {Q:Value->Shared->Prop} (ht:IsTup s.heap t vs.toArray) (hb:IsTup s.heap b ws.toArray) (hv:vs≠[])
  (h1:ws=[]->Q (.ref t) s) (h2:ws≠[]->Q (.ref s.heap.objs.size) {s with heap:=s.heap.push {cls:= .type "tuple",data:= .seq (vs++ws).toArray}})
  (hsz:vs.length+ws.length<=sizeLine):wpAny (model prog w) A (binaryOp .Add (.ref t) (.ref b)) Q E s:=by
 obtain ⟨⟨cls,dd,data,sl⟩,ho,hc,n,hd⟩:=id ht
 obtain ⟨⟨cls2,dd2,data2,sl2⟩,ho2,hc2,n2,hd2⟩:=id hb
 simp only at hc hd hc2 hd2
 subst hc hd hc2 hd2
 have e:vs.toArray++ws.toArray=(vs++ws).toArray:=by simp
 by_cases hw:ws=[]
 ·exact concat_meets ⟨_,ho,rfl⟩ ⟨_,ho2,rfl⟩ noFill_tuple_add seq_tuple_add PySem.F.slot_tuple_add PySem.F.entry_tuple_add (PySem.F.args_tuple_add_2 _ _)
   (tuple_addW1 t b vs.toArray ws.toArray n n2 dd dd2 sl sl2 (by simpa using hv) (by simp [hw])) ⟨ho,ho2,h1 hw⟩
 ·refine concat_meets ⟨_,ho,rfl⟩ ⟨_,ho2,rfl⟩ noFill_tuple_add seq_tuple_add PySem.F.slot_tuple_add PySem.F.entry_tuple_add (PySem.F.args_tuple_add_2 _ _)
   (tuple_addW2 t b vs.toArray ws.toArray n n2 dd dd2 sl sl2 (by simpa using hv) (by simpa using hw) (by rw [qaA,qaA];exact hsz)) ⟨ho,ho2,?_⟩
  rw [e]
  exact h2 hw
noncomputable def sIx (n d:Nat):Option Int->Nat
 | none=>d
 | some v=>if v<0 then (v+(n:Int)).toNat else min v.toNat n
theorem zkt (n d k:Nat):sIx n d (some (k:Int))=min k n:=by
 show (if (k:Int)<0 then ((k:Int)+(n:Int)).toNat else min (k:Int).toNat n)=min k n
 rw [qa5 (by omega),qaB]
theorem zqV (n d:Nat) (hd:d<=n) (o:Option Int):sIx n d o<=n:=by
 cases o with
 | none=>exact hd
 | some v=>
  show (if v<0 then (v+(n:Int)).toNat else min v.toNat n)<=n
  by_cases hv:v<0
  ·rw [qa4 hv];omega
  ·rw [qa5 hv];exact Nat.min_le_right _ _
theorem zkq (v:Int) (n d:Nat):(if v<0 then max (v+(n:Int)) 0 else min v (n:Int))=((sIx n d (some v):Nat):Int):=by
 show (if v<0 then max (v+(n:Int)) 0 else min v (n:Int))=(((if v<0 then (v+(n:Int)).toNat else min v.toNat n):Nat):Int)
 by_cases hv:v<0
 ·simp only [qa4 hv];omega
 ·simp only [qa5 hv];omega
theorem zi8 (lo hi:Option Int) (n:Nat):Builtin.Slice.sliceAdjust lo hi 1 (n:Int)=(((sIx n 0 lo:Nat):Int),((sIx n n hi:Nat):Int)):=by
 have h1: ¬((1:Int)<0):=by omega
 unfold Builtin.Slice.sliceAdjust
 simp only [h1,if_false]
 refine Prod.ext ?_ ?_
 ·cases lo with
  | none=>rfl
  | some v=>exact zkq v n 0
 ·cases hi with
  | none=>rfl
  | some v=>exact zkq v n n
theorem zi5 (i j:Nat):Builtin.Slice.slicePlaces (i:Int) (j:Int) 1=j - i:=by
 unfold Builtin.Slice.slicePlaces
 have h1:(1:Int)>0:=by omega
 simp only [h1,if_true,Int.ediv_one]
 split<;>omega
theorem zfR {v:Value} {o:Option Int} {Q:Option Int->Shared->Prop} (p:IsPart v o) (h:Q o s):wpAny (model prog w) A (Builtin.Slice.slicePartIndex v) Q E s:=by
 cases p with
 | none=>exact slicePart_none h
 | int i t=>exact slicePart_int h
theorem zdb {sl:Addr} {vl vu:Value} {lo hi:Option Int} {n:Nat} {Q:Int×Int×Nat->Shared->Prop} (hs:s.heap.IsSliceOf sl vl vu .none) (pl:IsPart vl lo) (pu:IsPart vu hi)
  (h:Q (((sIx n 0 lo:Nat):Int),1,sIx n n hi - sIx n 0 lo) s):wpAny (model prog w) A (Builtin.Slice.sliceApplied (.ref sl) (pure (n:Int))) Q E s:=by
 obtain ⟨os,hos,hcs,hds⟩:=id hs
 unfold Builtin.Slice.sliceApplied Builtin.Slice.sliceFields
 refine qaW (qaW (wpAny_field hos hds (x:=vl) rfl (qaW (wpAny_field hos hds (x:=vu) rfl (qaW (wpAny_field hos hds (x:= .none) rfl (qaX ?_)))))))
 refine qaW (slicePart_none ?_)
 show wpAny _ _ (if ((1:Int)==0)=true then _ else _) _ _ s
 rw [qa5 (by decide)]
 refine qaW (zfR pl (qaW (zfR pu (qaW (qaX ?_)))))
 show wpAny _ _ (match Builtin.Slice.sliceAdjust lo hi 1 (n:Int) with | (lo,hi)=>pure (lo,(1:Int),Builtin.Slice.slicePlaces lo hi 1)) _ _ s
 rw [zi8 lo hi n]
 show wpAny _ _ (pure (((sIx n 0 lo:Nat):Int),(1:Int),Builtin.Slice.slicePlaces ((sIx n 0 lo:Nat):Int) ((sIx n n hi:Nat):Int) 1)) _ _ s
 rw [zi5]
 exact qaX h
theorem zlT (xs:Array Value) (i k:Nat):((List.range k).filterMap fun (m:Nat)=>xs[((i:Int)+(m:Int)*1).toNat]?).toArray=((xs.toList.drop i).take k).toArray:=by
 have e:(fun (m:Nat)=>xs[((i:Int)+(m:Int)*1).toNat]?)=fun m=>xs[i+m]? := by
  funext m
  have:((i:Int)+(m:Int)*1).toNat=i+m:=by omega
  rw [this]
 rw [e]
 have:=pick_run xs i k
 rw [List.filterMap_map] at this
 have e2:((fun x=>xs[x]?)∘fun x=>i+x)=fun m=>xs[i+m]? := rfl
 rw [e2] at this
 rw [this]
theorem zet {t sl:Addr} {items:Array Value} {vl vu:Value} {lo hi:Option Int} {Q:Value->Shared->Prop} (ht:IsTup s.heap t items) (hs:s.heap.IsSliceOf sl vl vu .none) (pl:IsPart vl lo) (pu:IsPart vu hi)
  (hw: ¬(sIx items.size 0 lo=0/\sIx items.size items.size hi=items.size))
  (h:Q (.ref s.heap.objs.size) {s with heap:=s.heap.push {cls:= .type "tuple",data:= .seq ((items.toList.drop (sIx items.size 0 lo)).take (sIx items.size items.size hi - sIx items.size 0 lo)).toArray}})
  (hsz:items.size<=sizeLine):wpAny (model prog w) A (getItem (.ref t) (.ref sl)) Q E s:=by
 have htake:sizeOk (.seq ((items.toList.drop (sIx items.size 0 lo)).take (sIx items.size items.size hi - sIx items.size 0 lo)).toArray):=by
  show ((items.toList.drop (sIx items.size 0 lo)).take (sIx items.size items.size hi - sIx items.size 0 lo)).toArray.size<=sizeLine
  rw [qaA,List.length_take,List.length_drop,qas]
  omega
 have hj:sIx items.size items.size hi<=items.size:=zqV _ _ (qaV _) hi
 obtain ⟨os,hos,hcs,hds⟩:=id hs
 have hTs:s.TypeIs (.ref sl) "slice":=⟨os,hos,hcs⟩
 unfold getItem
 try with_reducible refine qaO ?_
 first | refine qaW (qaX ?_) | skip
 refine qaW (wpAny_sequenceKey ht.typeIs (by decide) ?_)
 refine qaW (wpAny_callSpecial?_slot (name:=Str.ofString "__getitem__") ht.typeIs PyProof.Rows.slot_tuple_getitem
   (wpAny_call_entry PyProof.Rows.slot_tuple_getitem ht.typeIs entry_tuple_getitem ?_ (args_tuple_getitem _ _)))
 show wpAny _ _ (Builtin.Tuple.tupleItemsOf (.ref t)>>=_) _ _ s
 refine qaW (tupleItemsOf_ ht ?_)
 refine qaW (wpAny_typeOf hTs ?_)
 rw [qa4 (by decide)]
 refine qaW (zdb hs pl pu ?_)
 have hno: ¬((((sIx items.size 0 lo:Nat):Int)==0 && (1:Int)==1 && (sIx items.size items.size hi - sIx items.size 0 lo)==items.size)=true):=by
  intro q
  rw [qaG,qaG] at q
  have q1:((sIx items.size 0 lo:Nat):Int)=0:=eq_of_beq q.1.1
  have q2:sIx items.size items.size hi - sIx items.size 0 lo=items.size:=eq_of_beq q.2
  exact hw ⟨by omega,by omega⟩
 show wpAny _ _ (if (((sIx items.size 0 lo:Nat):Int)==0 && (1:Int)==1 && (sIx items.size items.size hi - sIx items.size 0 lo)==items.size)=true then _ else _) _ _ s
 rw [qa5 hno,zlT]
 first
  | exact qaW (m:=Builtin.Tuple.tupleExact _) (qaC (qaX ⟨_,rfl,qaX h⟩) htake)
  | exact qaW (m:=Builtin.Tuple.tupleExact _) (qaC (qaW (qaX (qaX ⟨_,rfl,qaX h⟩))) htake)
  | exact qaW (qaW (m:=Builtin.Tuple.tupleExact _) (qaC (qaX (qaX ⟨_,rfl,qaX h⟩)) htake))
  | exact qaW (qaW (m:=Builtin.Tuple.tupleExact _) (qaC (qaX ⟨_,rfl,qaX h⟩) htake))
end
end HT
namespace L2
open PySem PySem.Spec PyProof.Rows
noncomputable abbrev TO:=St->Hp->(Option Int->Hp->Prop)->Prop
def PO (X:Cx) (e:Option Expr) (t:TO):Prop:=
 ∀ (pins:List (Addr×Obj)) (s:Shared) (σ:St) (H:Hp) (Q:Option Int->Hp->Prop),Inv X pins σ H s->t σ H Q->
  wpAny (model X.prog X.w) X.A (evalPart e X.env) (fun u s'=> ∃ o H',Inv X pins σ H' s'/\IsPart u o/\Q o H') X.xe s
noncomputable def znO:TO:=fun _ H Q=>Q none H
noncomputable def zsH (t:TE):TO:=fun σ H Q=>t σ H fun x H1=> ∃ i,x= .int i/\Q (some i) H1
theorem zcc {ns:List Int}: ∀ {us:List Value},zbh (ns.map V.int) us->IntsAre us ns:=by
 induction ns with
 | nil=>intro us r;rw [List.map_nil] at r;cases r;exact .nil
 | cons n ns ih=>
  intro us r
  rw [qaM] at r
  cases r with
  | cons r1 r2=>
   obtain ⟨t,e⟩:=r1
   subst e
   exact .cons n t (ih r2)
section
variable {X:Cx} {e:Expr} {te:TE} {lo hi:Option Expr} {tl th:TO} {pos p2:Pos}
theorem zo6:PO X none znO:=by
 intro pins s σ H Q I h
 rw [evalPart_none]
 exact qaX ⟨none,H,I,.none,h⟩
theorem zoP (h:PE X e te):PO X (some e) (zsH te):=by
 intro pins s σ H Q I hw
 rw [evalPart_some]
 refine thn (h pins s σ H _ I hw) fun u s1 ⟨x,H1,I1,r1,q1⟩=> ?_
 obtain ⟨i,rfl,q⟩:=q1
 obtain ⟨t,rfl⟩:=r1
 exact ⟨some i,H1,I1,.int i t,q⟩
def SlR (X:Cx) (r:V->Option Int->Option Int->Hp->VK->Prop):Prop:=
 ∀ (pins:List (Addr×Obj)) (s:Shared) (σ:St) (H:Hp) (x:V) (v vl vu:Value) (lo hi:Option Int) (sl:Addr) (Q:VK),Inv X pins σ H s->zb2 x v->s.heap.IsSliceOf sl vl vu .none->IsPart vl lo->IsPart vu hi->r x lo hi H Q->
  ∃ T id,typeLookup (.type T) "__getitem__"=pure (some (.builtin id))/\s.TypeIs v T/\wpAny (model X.prog X.w) X.A (getItem v (.ref sl)) (EP X pins σ Q) X.xe s
theorem SlR.or {r r':V->Option Int->Option Int->Hp->VK->Prop} (h:SlR X r) (h':SlR X r'):SlR X (fun x lo hi H Q=>r x lo hi H Q\/r' x lo hi H Q):=by
 intro pins s σ H x v vl vu lo hi sl Q I rx hs pl pu q
 rcases q with q | q
 ·exact h pins s σ H x v vl vu lo hi sl Q I rx hs pl pu q
 ·exact h' pins s σ H x v vl vu lo hi sl Q I rx hs pl pu q
noncomputable def tSl (r:V->Option Int->Option Int->Hp->VK->Prop) (te:TE) (tl th:TO):TE:=fun σ H Q=>te σ H fun x H1=>tl σ H1 fun l H2=>th σ H2 fun u H3=>r x l u H3 Q
theorem zl2 {r:V->Option Int->Option Int->Hp->VK->Prop} (hr:SlR X r) (he:PE X e te) (hl:PO X lo tl) (hu:PO X hi th):PE X (.Subscript e (.Slice lo hi none p2) pos) (tSl r te tl th):=by
 intro pins s σ H Q I h
 refine Subscript_ (thn (he pins s σ H _ I h) fun v s1 ⟨x,H1,I1,r1,q1⟩=> ?_)
 refine wpAny_Slice (thn (hl pins s1 σ H1 _ I1 q1) fun vl s2 ⟨l,H2,I2,pl,q2⟩=>thn (hu pins s2 σ H2 _ I2 q2) fun vu s3 ⟨u,H3,I3,pu,q3⟩=> ?_)
 rw [evalPart_none]
 refine qaX ?_
 have I4:Inv X pins σ H3 {s3 with heap:=s3.heap.push {cls:= .type "slice",data:= .fields #[vl,vu,.none]}}:=I3.kept (t':=s3.toks) fun b ob q=>qag _ q
 obtain ⟨T,id,hT,ht,hg⟩:=hr pins {s3 with heap:=s3.heap.push {cls:= .type "slice",data:= .fields #[vl,vu,.none]}} σ H3 x v vl vu l u s3.heap.objs.size Q I4 r1 (Heap.IsSliceOf.new ..) pl pu q3
 show wpAny (model X.prog X.w) X.A (subscriptTail e (.Slice lo hi none p2) v (.ref s3.heap.objs.size)) (EP X pins σ Q) X.xe {s3 with heap:=s3.heap.push {cls:= .type "slice",data:= .fields #[vl,vu,.none]}}
 exact tail_any (ops:=[.ref s3.heap.objs.size,v]) ht hT hg (by with_unfolding_all rfl)
noncomputable def znn (xs:List V) (lo hi:Option Int):List V:=(xs.drop (HT.sIx xs.length 0 lo)).take (HT.sIx xs.length xs.length hi - HT.sIx xs.length 0 lo)
theorem ze2 (xs:List V) (lo hi:Option Int):(znn xs lo hi).length<=xs.length:=by
 unfold znn
 rw [List.length_take,List.length_drop]
 omega
noncomputable def ztR (K:W.Frag):V->Option Int->Option Int->Hp->VK->Prop:=fun x lo hi H Q=> ∃ a xs,x= .ref a/\SqT K H a xs/\
 ¬ (HT.sIx xs.length 0 lo=0/\HT.sIx xs.length xs.length hi=xs.length)/\ ∀ p,H p=none->Q (.ref p) (upd H p (.tup (znn xs lo hi)))
theorem zpX:SlR X (ztR X.K):=by
 intro pins s σ H x v vl vu lo hi sl Q I rx hs pl pu h
 obtain ⟨a,xs,rfl,hx,hw,q⟩:=h
 cases rx
 obtain ⟨its,r,ht,hz⟩:=I.tuple hx
 have hlen:its.toArray.size=xs.length:=by rw [qaA];exact r.length.symm
 refine ⟨"tuple",_,PyProof.Rows.slot_tuple_getitem.lookup,ht.typeIs,?_⟩
 refine HT.zet ht hs pl pu (by rw [hlen];exact hw) ?_ (by rw [hlen];exact hz)
 rw [hlen]
 refine ⟨.ref s.heap.objs.size,_,I.laid (t':=s.toks) (o:= .tup (znn xs lo hi)) (fun b ob q=>qag _ q) (qaV _) ?_,rfl,q _ (I.hok.fresh (qaV _))⟩
 exact ⟨qaS (ze2 xs lo hi) hz,_,(r.drop (HT.sIx xs.length 0 lo)).take (HT.sIx xs.length xs.length hi - HT.sIx xs.length 0 lo),zk2.new _ _⟩
noncomputable def zs7 (K:W.Frag):R2:=fun x y H Q=> ∃ a b xs ys,x= .ref a/\y= .ref b/\SqT K H a xs/\SqT K H b ys/\xs≠[]/\xs.length+ys.length<=sizeLine/\
 (ys=[]->Q (.ref a) H)/\(ys≠[]-> ∀ p,H p=none->Q (.ref p) (upd H p (.tup (xs++ys))))
theorem zbh.nil_iff {xs:List V} {us:List Value} (r:zbh xs us):us=[]↔xs=[]:=by
 cases r with
 | nil=>simp
 | cons _ _=>simp
theorem zor:OpR X (binaryOp .Add) (zs7 X.K):=by
 intro pins s σ H x y v u Q I rx ry h
 obtain ⟨a,b,xs,ys,rfl,rfl,ha,hb,hx,hz,q1,q2⟩:=h
 cases rx
 cases ry
 obtain ⟨its,r1,p1,_⟩:=I.tuple ha
 obtain ⟨its2,r2,p2,_⟩:=I.tuple hb
 refine HT.zon p1 p2 (fun z=>hx (r1.nil_iff.mp z)) (fun z=>⟨.ref a,H,I,rfl,q1 (r2.nil_iff.mp z)⟩) (fun z=> ?_) (by rw [<- r1.length, <-r2.length];exact hz)
 refine ⟨.ref s.heap.objs.size,_,I.laid (t':=s.toks) (o:= .tup (xs++ys)) (fun b ob q=>qag _ q) (qaV _) ?_,rfl,q2 (fun w=>z (r2.nil_iff.mpr w)) _ (I.hok.fresh (qaV _))⟩
 exact ⟨by rw [qav];exact hz,_,r1.append r2,zk2.new _ _⟩
end
noncomputable def ixN (n:Nat) (i:Int):Option Nat:=if 0<=i then (if i<n then some i.toNat else none) else if -(n:Int)<=i then some (i+n).toNat else none
noncomputable def atI {α:Type} (xs:List α) (i:Int):Option α:=(ixN xs.length i).bind fun j=>xs[j]?
theorem zjV {n:Nat} {i:Int} {j:Nat} (h:ixN n i=some j):seqIndex? i n=some j/\j<n/\ -(n:Int)<=i/\i<n:=by
 unfold ixN at h
 by_cases h0:0<=i
 ·rw [qa4 h0] at h
  by_cases h1:i<n
  ·rw [qa4 h1] at h
   have e:i.toNat=j:=Option.some.inj h
   exact ⟨by rw [seqIndex_of h0 h1,e],by omega,by omega,h1⟩
  ·rw [qa5 h1] at h;cases h
 ·rw [qa5 h0] at h
  by_cases h1: -(n:Int)<=i
  ·rw [qa4 h1] at h
   have e:(i+n).toNat=j:=Option.some.inj h
   exact ⟨by rw [seqIndex_neg (by omega) h1,e],by omega,h1,by omega⟩
  ·rw [qa5 h1] at h;cases h
theorem zlh {α:Type} {xs:List α} {i:Int} {v:α} (h:atI xs i=some v): ∃ j,seqIndex? i xs.length=some j/\xs[j]? = some v/\j<xs.length/\ -(xs.length:Int)<=i/\i<xs.length:=by
 unfold atI at h
 cases e:ixN xs.length i with
 | none=>rw [e] at h;cases h
 | some j=>
  rw [e] at h
  obtain ⟨h1,h2,h3,h4⟩:=zjV e
  exact ⟨j,h1,h,h2,h3,h4⟩
theorem zc6 {α:Type} {xs:List α} {j:Nat} {v:α} (h:xs[j]? = some v):atI xs (j:Int)=some v:=by
 have hj:j<xs.length:=(qac.mp h).1
 have e:ixN xs.length (j:Int)=some j:=by
  unfold ixN
  rw [qa4 (by omega),qa4 (by omega)];simp
 unfold atI;rw [e];exact h
def zhU (b:Expr):Prop:= ∀ o i,subscripted b false o i=operate [o,i] (getItem o i)
def IxR (X:Cx) (r:R2):Prop:=
 ∀ (value slice:Expr) (pins:List (Addr×Obj)) (s:Shared) (σ:St) (H:Hp) (x y:V) (v u:Value) (Q:VK),Inv X pins σ H s->zb2 x v->zb2 y u->r x y H Q->
  subscripted slice false v u=operate [v,u] (getItem v u)->wpAny (model X.prog X.w) X.A (subscriptTail value slice v u) (EP X pins σ Q) X.xe s
def MtR (X:Cx) (id:String) (r:V->List V->Hp->VK->Prop):Prop:=
 ∀ (pins:List (Addr×Obj)) (s:Shared) (σ:St) (H:Hp) (x:V) (xs:List V) (v:Value) (us:List Value) (Q:VK),Inv X pins σ H s->zb2 x v->zbh xs us->r x xs H Q->
  wpAny (model X.prog X.w) X.A (call (.builtin id) (v::us)) (EP X pins σ Q) X.xe s
section
variable {X:Cx} {a b:Expr} {ta tb:TE} {pos:Pos}
theorem IxR.or {r r':R2} (h:IxR X r) (h':IxR X r'):IxR X (fun x y H Q=>r x y H Q\/r' x y H Q):=by
 intro value slice pins s σ H x y v u Q I rx ry q hs
 rcases q with q | q
 ·exact h value slice pins s σ H x y v u Q I rx ry q hs
 ·exact h' value slice pins s σ H x y v u Q I rx ry q hs
theorem zsk {r:R2} (hr:IxR X r) (ha:PE X a ta) (hb:PE X b tb) (hs:zhU b):PE X (.Subscript a b pos) (tOp r ta tb):=by
 intro pins s σ H Q I h
 exact Subscript_ (ztm ha hb I h fun v u s2 x y H2 I2 rx ry q=>hr a b pins s2 σ H2 x y v u Q I2 rx ry q (hs _ _))
noncomputable def ztY (K:W.Frag):R2:=fun x y H Q=> ∃ p xs i v,x= .ref p/\y= .int i/\SqL K H p xs/\atI xs i=some v/\Q v H
noncomputable def ztZ (K:W.Frag):R2:=fun x y H Q=> ∃ p xs i v,x= .ref p/\y= .int i/\SqT K H p xs/\atI xs i=some v/\Q v H
theorem zo7:IxR X (ztY X.K):=by
 intro value slice pins s σ H x y v u Q I rx ry h hs
 obtain ⟨p,xs,i,z,rfl,rfl,hq,he,q⟩:=h
 cases rx
 obtain ⟨t,rfl⟩:=ry
 obtain ⟨its,r,pl,hz⟩:=I.list hq
 obtain ⟨j,h1,h2,h3,h4,h5⟩:=zlh he
 obtain ⟨w,ew,rw'⟩:=r.get h2
 have hl:=r.length
 have hn:=zil
 have fin:EP X pins σ Q w s:=⟨z,H,I,rw',q⟩
 by_cases h0:0<=i
 ·have hj:i.toNat=j:=by
   rw [seqIndex_of h0 h5] at h1
   exact Option.some.inj h1
  exact item_listR pl.isList h0 (by omega) (by rw [hj];simpa using ew) fin hs
 ·have hj:(i+(its.toArray.size:Int)).toNat=j:=by
   rw [seqIndex_neg (by omega) h4] at h1
   rw [qaA, <-hl]
   exact Option.some.inj h1
  exact subscriptTail_builtinR (x:=w) pl.isList.typeIs slot_list_getitem.lookup
   (wpAny_getItem_list_neg (Q:=fun r s'=>r=w/\EP X pins σ Q r s') pl.isList (by omega) (by rw [qaA]<;>omega) (by omega) (by rw [hj];simpa using ew) ⟨rfl,fin⟩) hs
theorem zrn:IxR X (ztZ X.K):=by
 intro value slice pins s σ H x y v u Q I rx ry h hs
 obtain ⟨p,xs,i,z,rfl,rfl,hq,he,q⟩:=h
 cases rx
 obtain ⟨t,rfl⟩:=ry
 obtain ⟨its,r,pl,hz⟩:=I.tuple hq
 obtain ⟨j,h1,h2,h3,h4,h5⟩:=zlh he
 obtain ⟨w,ew,rw'⟩:=r.get h2
 have hl:=r.length
 have hn:=zil
 have fin:EP X pins σ Q w s:=⟨z,H,I,rw',q⟩
 exact subscriptTail_builtinR (x:=w) pl.typeIs slot_tuple_getitem.lookup
  (getItem_tuple (j:=j) (Q:=fun r s'=>r=w/\EP X pins σ Q r s') pl (by omega) (by omega) (by rw [qaA, <-hl];exact h1) (by simpa using ew) ⟨rfl,fin⟩) hs
theorem zjg (its:List Value) (n j:Nat) (u:Value):Obj.mapSeq (·.setIfInBounds j u) {cls:= .type "list",data:= .seq its.toArray n}={cls:= .type "list",data:= .seq (its.set j u).toArray n}:=by
 simp [Obj.mapSeq]
theorem Inv.lst {pins:List (Addr×Obj)} {σ:St} {H:Hp} {s:Shared} {p:Addr} {xs:List V} (I:Inv X pins σ H s) (h:H p=some (.lst xs)):
  ∃ (its:List Value) (n:Nat),zbh xs its/\s.heap.get? p=some {cls:= .type "list",data:= .seq its.toArray n}/\xs.length<=sizeLine:=by
 obtain ⟨z,its,n,r,e⟩:=I.hok p _ h
 exact ⟨its,n,r,e,z⟩
theorem Inv.lstUpd {pins:List (Addr×Obj)} {σ:St} {H:Hp} {s:Shared} {p:Addr} {xs ys:List V} {its its':List Value} {n n':Nat} {f:Obj->Obj} (I:Inv X pins σ H s) (h:H p=some (.lst xs))
  (ho:s.heap.get? p=some {cls:= .type "list",data:= .seq its.toArray n}) (hf:f {cls:= .type "list",data:= .seq its.toArray n}={cls:= .type "list",data:= .seq its'.toArray n'}) (r:zbh ys its') (hz:ys.length<=sizeLine) (t:Nat):
  Inv X pins σ (upd H p (.lst ys)) {s with heap:=s.heap.update p f,toks:=t}:=by
 have e:(s.heap.update p f).get? p=some {cls:= .type "list",data:= .seq its'.toArray n'}:=by
  rw [qal f ho (by rw [hf]<;>rfl),hf]
 refine I.write (x:=p) (e:=p) (by rw [h];trivial) (.inl rfl) (fun b u hb q=>(qah _ _ (Ne.symm hb)).trans q) ⟨_,e⟩ ?_
 exact ⟨hz,its',n',r,e⟩
noncomputable def zso:V->V->V->Hp->(Hp->Prop)->Prop:=fun o i v H Q=> ∃ p xs k j,o= .ref p/\i= .int k/\H p=some (.lst xs)/\ixN xs.length k=some j/\Q (upd H p (.lst (xs.set j v)))
theorem zmd:zsv X zso:=by
 intro pins s σ H o i v ov iv u Q I ro ri rv h
 obtain ⟨p,xs,k,j,rfl,rfl,hp,hj,q⟩:=h
 cases ro
 obtain ⟨t,rfl⟩:=ri
 obtain ⟨its,n,r,ho,hz⟩:=I.lst hp
 obtain ⟨h1,h2,h3,h4⟩:=zjV hj
 have hl:=r.length
 have hn:=zil
 have I':Inv X pins σ (upd H p (.lst (xs.set j v))) {s with heap:=s.heap.update p (Obj.mapSeq (·.setIfInBounds j u))}:=
  I.lstUpd hp ho (zjg its n j u) (r.set rv j) (by rw [qaI];exact hz) s.toks
 by_cases h0:0<=k
 ·have hk:k.toNat=j:=by
   rw [seqIndex_of h0 h4] at h1
   exact Option.some.inj h1
  exact W.ki_setAt ho h0 (by omega) (by rw [qaA, <-hl];exact h4) (by rw [hk];exact ⟨_,I',q⟩)
 ·have hk:(k+(its.toArray.size:Int)).toNat=j:=by
   rw [seqIndex_neg (by omega) h3] at h1
   rw [qaA, <-hl]
   exact Option.some.inj h1
  exact W.ki_setBack ho (by omega) (by rw [qaA, <-hl];exact h3) (by omega) (by rw [hk];exact ⟨_,I',q⟩)
theorem zgU (lo hi:Option Int) (n:Nat):(sliceBounds lo hi none n).1=((HT.sIx n 0 lo:Nat):Int)/\(sliceBounds lo hi none n).2.1=((HT.sIx n n hi:Nat):Int)/\(sliceBounds lo hi none n).2.2=1:=by
 refine ⟨?_,?_,rfl⟩
 ·cases lo with
  | none=>simp [sliceBounds,HT.sIx]
  | some i=>
   simp only [sliceBounds,HT.sIx,Option.getD_none,show (1:Int)>0 by decide,if_true]
   by_cases h:i<0
   ·simp only [h,if_true]<;>omega
   ·simp only [h,if_false]<;>omega
 ·cases hi with
  | none=>simp [sliceBounds,HT.sIx]
  | some i=>
   simp only [sliceBounds,HT.sIx,Option.getD_none,show (1:Int)>0 by decide,if_true]
   by_cases h:i<0
   ·simp only [h,if_true]<;>omega
   ·simp only [h,if_false]<;>omega
theorem zgw (its:List Value) (lo hi:Option Int):slicePick its.toArray lo hi none=((its.drop (HT.sIx its.length 0 lo)).take (HT.sIx its.length its.length hi - HT.sIx its.length 0 lo)).toArray:=by
 obtain ⟨h1,h2,h3⟩:=zgU lo hi its.toArray.size
 unfold slicePick
 rw [h1,h2,h3]
 simp only [sliceRange_one,pick_run,qaA]<;>rfl
noncomputable def ztL (K:W.Frag):V->Option Int->Option Int->Hp->VK->Prop:=fun x lo hi H Q=> ∃ a xs,x= .ref a/\SqL K H a xs/\ ∀ p,H p=none->Q (.ref p) (upd H p (.lst (znn xs lo hi)))
theorem znU:SlR X (ztL X.K):=by
 intro pins s σ H x v vl vu lo hi sl Q I rx hs pl pu h
 obtain ⟨a,xs,rfl,hx,q⟩:=h
 cases rx
 obtain ⟨its,r,ht,hz⟩:=I.list hx
 have hlen:=r.length
 refine ⟨"list",_,slot_list_getitem.lookup,ht.isList.typeIs,?_⟩
 refine wpAny_getItem_list_slice ht.isList hs pl pu .none (by simp) ?_ (by rw [qaA]<;>omega)
 rw [zgw, <-hlen]
 refine ⟨.ref s.heap.objs.size,_,I.laid (t':=s.toks) (o:= .lst (znn xs lo hi)) (fun b ob q=>qag _ q) (qaV _) ?_,rfl,q _ (I.hok.fresh (qaV _))⟩
 exact ⟨qaS (ze2 xs lo hi) hz,_,0,(r.drop (HT.sIx xs.length 0 lo)).take (HT.sIx xs.length xs.length hi - HT.sIx xs.length 0 lo),qar _ rfl⟩
theorem zgF:zaZ X (.builtin "len") (fun xs H Q=> ∃ p ys,xs=[.ref p]/\(SqL X.K H p ys\/SqT X.K H p ys)/\Q (.int ys.length) H):=by
 intro pins s σ H xs us Q I r h
 obtain ⟨p,ys,rfl,hq,q⟩:=h
 obtain ⟨u,rfl,rx⟩:=zd1 r
 cases rx
 have hn:=zil
 rcases hq with hq | hq
 ·obtain ⟨its,r',pl,hz⟩:=I.list hq
  have hlen:=r'.length
  exact Calls.call_len_list pl.isList (by simp only [qaA]<;>omega) ⟨.int ys.length,H,I.tok _,⟨s.toks+1,by rw [qaA,hlen]⟩,q⟩
 ·obtain ⟨its,r',pl,hz⟩:=I.tuple hq
  have hlen:=r'.length
  exact len_tuple pl (by simp only [qaA]<;>omega) ⟨.int ys.length,H,I.tok _,⟨s.toks+1,by rw [qaA,hlen]⟩,q⟩
theorem zgT:zaZ X (.type "list") (fun xs H Q=> ∃ p ys,xs=[.ref p]/\(SqL X.K H p ys\/SqT X.K H p ys)/\ ∀ l,H l=none->Q (.ref l) (upd H l (.lst ys))):=by
 intro pins s σ H xs us Q I r h
 obtain ⟨p,ys,rfl,hq,q⟩:=h
 obtain ⟨u,rfl,rx⟩:=zd1 r
 cases rx
 have fin: ∀ (its:List Value),zbh ys its->ys.length<=sizeLine-> ∀ (h':Heap) (c':Nat),(∀ b o',s.heap.get? b=some o'->h'.get? b=some o')->
   h'.get? s.heap.objs.size=some {cls:= .type "list",dict:=none,data:= .seq its.toArray c',slots:= #[]}->EP X pins σ Q (.ref s.heap.objs.size) {s with heap:=h'}:=fun its r' hz h' c' kp e=>
  ⟨.ref s.heap.objs.size,_,I.laid (t':=s.toks) kp (qaV _) (show zcd X.prog X.w _ h' _ (.lst ys) from ⟨hz,its,c',r',e⟩),rfl,q _ (I.hok.fresh (qaV _))⟩
 rcases hq with hq | hq
 ·obtain ⟨its,r',pl,hz⟩:=I.list hq
  have hlen:=r'.length
  obtain ⟨o,ho,hc,n,hd⟩:=pl.isList
  exact call_list_seq p (.inl rfl) ho hc hd (fun h' c' kp e=>fin its r' hz h' c' kp e) (by simp only [qaA]<;>omega)
 ·obtain ⟨its,r',pl,hz⟩:=I.tuple hq
  have hlen:=r'.length
  obtain ⟨o,ho,hc,n,hd⟩:=pl
  exact call_list_seq p (.inr rfl) ho hc hd (fun h' c' kp e=>fin its r' hz h' c' kp e) (by simp only [qaA]<;>omega)
theorem zgq:zaZ X (.type "tuple") (fun xs H Q=> ∃ p ys,xs=[.ref p]/\((SqL X.K H p ys/\ ∀ l,H l=none->Q (.ref l) (upd H l (.tup ys)))\/(SqT X.K H p ys/\Q (.ref p) H))):=by
 intro pins s σ H xs us Q I r h
 obtain ⟨p,ys,rfl,h⟩:=h
 obtain ⟨u,rfl,rx⟩:=zd1 r
 cases rx
 rcases h with ⟨hq,q⟩ | ⟨hq,q⟩
 ·obtain ⟨its,r',pl,hz⟩:=I.list hq
  have hlen:=r'.length
  refine call_tuple_list pl.isList (fun h' kp=> ?_) (by simp only [qaA]<;>omega)
  have I1:Inv X pins σ H {s with heap:=h'}:=I.kept (t':=s.toks) kp
  have I2:Inv X pins σ (upd H h'.objs.size (.tup ys)) {s with heap:=h'.push {cls:= .type "tuple",data:= .seq its.toArray}}:=
   I1.laid (t':=s.toks) (fun b o e=>qag _ e) (qaV _) (show zcd X.prog X.w _ _ _ (.tup ys) from ⟨hz,its,r',zk2.new _ _⟩)
  exact ⟨.ref h'.objs.size,_,I2,rfl,q _ (I1.hok.fresh (qaV _))⟩
 ·obtain ⟨its,r',pl,hz⟩:=I.tuple hq
  exact call_tuple_same pl ⟨.ref p,H,I,rfl,q⟩
def tyV (K:W.Frag) (T:String) (x:V) (H:Hp):Prop:=match x with
 | .str _=>T="str"
 | .int _=>T="int"
 | .ref p=>(T="list"/\ ∃ xs,SqL K H p xs)\/(T="tuple"/\ ∃ xs,SqT K H p xs)\/
   (T="dict"/\((∃ kvs,H p=some (.dK kvs))\/ ∃ kvs,H p=some (.dT kvs)))\/(T="set"/\ ∃ S n,H p=some (.set S n))
 | _=>False
theorem zq4 {pins:List (Addr×Obj)} {σ:St} {H:Hp} {s:Shared} {T:String} {x:V} {v:Value} (I:Inv X pins σ H s) (r:zb2 x v) (ty:tyV X.K T x H):
  s.TypeIs v T/\ ∀ a,v= .ref a-> ∃ ob,s.heap.get? a=some ob/\ob.dict=none:=by
 cases x with
 | str z=>
  obtain ⟨t,rfl⟩:=r
  cases (show T="str" from ty)
  exact ⟨typeIs_str s z t,fun _ e=>nomatch e⟩
 | int i=>
  obtain ⟨t,rfl⟩:=r
  cases (show T="int" from ty)
  exact ⟨typeIs_int s i t,fun _ e=>nomatch e⟩
 | ref p=>
  cases r
  rcases ty with ⟨rfl,xs,hq⟩ | ⟨rfl,xs,hq⟩ | ⟨rfl,hk⟩ | ⟨rfl,S,n,hk⟩
  ·obtain ⟨its,_,pl,_⟩:=I.list hq
   refine ⟨pl.isList.typeIs,fun a e=> ?_⟩
   cases e
   obtain ⟨o,n,e,c,hd,_⟩:=pl
   exact ⟨o,e,hd⟩
  ·obtain ⟨its,_,⟨o,e,c,n,_,hd⟩,_⟩:=I.tupleD hq
   refine ⟨⟨o,e,c⟩,fun a e2=> ?_⟩
   cases e2
   exact ⟨o,e,hd⟩
  ·have z: ∃ o,s.heap.get? p=some o/\o.ExactDict:=by
    rcases hk with ⟨kvs,hk⟩ | ⟨kvs,hk⟩
    ·obtain ⟨_,_,_,_,o,_,_,e,ex,_⟩:=I.hok p _ hk
     exact ⟨o,e,ex⟩
    ·obtain ⟨_,_,_,_,o,_,_,e,ex,_⟩:=I.hok p _ hk
     exact ⟨o,e,ex⟩
   obtain ⟨o,e,ex⟩:=z
   refine ⟨⟨o,e,ex.1⟩,fun a e2=> ?_⟩
   cases e2
   exact ⟨o,e,ex.2.1⟩
  ·obtain ⟨o,_,_,_,e,ex,_⟩:=I.hok p _ hk
   refine ⟨⟨o,e,ex.1⟩,fun a e2=> ?_⟩
   cases e2
   exact ⟨o,e,ex.2.1⟩
 | _=>exact qa0 ty
noncomputable def tBM (K:W.Frag) (T:String) (r:V->List V->Hp->VK->Prop) (to:TE) (t:TA):TE:=fun σ H Q=>to σ H fun x H1=>tyV K T x H1/\t σ H1 fun xs H2=>r x xs H2 Q
variable {o e:Expr} {es:List Expr} {to:TE} {t:TA} {name:Str} {apos cpos:Pos} {T id:String} {r:V->List V->Hp->VK->Prop}
theorem zps (pa:PlainAttrs T) (slot:Slot T name id) (hty:typeOf (.builtin id)=pure (.type "method_descriptor")) (hm:MtR X id r) (ho:PE X o to) (ha:PA X (e::es) t)
  (hbase:attributeBase o name X.env (eval o X.env)=eval o X.env:=by rfl)
  (hfew:((backTo cpos (starEach (e::es) X.env)).all (fun x=> !x.1) && (backToKw cpos (keywordEach [] X.env)).all (fun x=>x.1.isSome)
    && decide ((e::es).length+([]:List Keyword).length+(if ([]:List Keyword).isEmpty then 0 else 1)<30))=true:=by rfl)
  (hline:(apos.endLine==cpos.line)=true:=by rfl) (hs:starEach (e::es) X.env=(false,eval e X.env)::starEach es X.env:=by rfl) (hplain:(backTo cpos (starEach es X.env)).any (·.1)=false:=by rfl):
  PE X (.Call (.Attribute o name apos) (e::es) [] cpos) (tBM X.K T r to t):=by
 intro pins s σ H Q I h
 refine wpAny_Call_method_late hbase hfew hline rfl (thn (ho pins s σ H _ I h) fun v s1 ⟨x,H1,I1,r1,ty,q1⟩=> ?_)
 obtain ⟨h1,h2⟩:=zq4 I1 r1 ty
 refine ⟨T,id,pa,slot,hty,h1,h2,?_⟩
 have hA:=ha cpos pins s1 σ H1 _ I1 q1
 rw [hs] at hA ⊢
 refine Calls.callWith_builtin (by show (false || (backTo cpos (starEach es X.env)).any (·.1))=false;rw [hplain]<;>rfl) (Calls.evalArgs_plain ?_)
 exact thn hA fun us s2 ⟨vs,H2,I2,r2,q2⟩=>hm pins s2 σ H2 x vs v us Q I2 r1 r2 q2
end
def MtM (X:Cx) (id:String) (r:V->List V->Hp->VK->Prop):Prop:=
 ∀ (pins:List (Addr×Obj)) (s:Shared) (σ:St) (H:Hp) (x:V) (xs:List V) (v:Value) (us:List Value) (Q:VK),Inv X pins σ H s->zb2 x v->zbh xs us->r x xs H Q->
  wpAny (model X.prog X.w) X.A (call (.builtin id) (v::us)) (EP X pins σ Q) X.xe s
theorem zbh.one: ∀ {x:V} {us:List Value},zbh [x] us-> ∃ u,us=[u]/\zb2 x u
 | _,_,.cons r .nil=>⟨_,rfl,r⟩
theorem zbh.reverse {xs:List V} {us:List Value} (h:zbh xs us):zbh xs.reverse us.reverse:=by
 induction h with
 | nil=>exact .nil
 | cons r t ih=>rw [List.reverse_cons,List.reverse_cons];exact zbh.append ih (.cons r .nil)
theorem zbh.rep {xs:List V} {us:List Value} (h:zbh xs us): ∀ k:Nat,zbh (List.replicate k xs).flatten (List.replicate k us).flatten
 | 0=> .nil
 | k+1=>by
  rw [List.replicate_succ,List.replicate_succ,List.flatten_cons,List.flatten_cons]
  exact zbh.append h (zbh.rep h k)
theorem zg0 (its:List Value): ∀ (k:Nat) (acc:List Value),
  List.foldl (fun x1 x2=>x1++x2) acc.toArray (List.replicate k its.toArray)=(acc++(List.replicate k its).flatten).toArray
 | 0,acc=>by simp
 | k+1,acc=>by
  have e:acc.toArray++its.toArray=(acc++its).toArray:=by simp
  have e2:(acc++its)++(List.replicate k its).flatten=acc++(List.replicate (k+1) its).flatten:=by
   rw [List.replicate_succ,List.flatten_cons,List.append_assoc]
  rw [<- e2, <-zg0 its k (acc++its), <-e,List.replicate_succ,List.foldl_cons]
section
variable {X:Cx} {pins:List (Addr×Obj)} {σ:St} {H:Hp} {s:Shared} {l b:Addr} {xs ys zs:List V}
theorem Inv.lset {its its':List Value} {n:Nat} {f:Array Value->Array Value} {t':Nat} (I:Inv X pins σ H s) (hH:H l=some (.lst xs))
  (e:s.heap.get? l=some {cls:= .type "list",data:= .seq its.toArray n}) (hf:f its.toArray=its'.toArray) (hv:zbh ys its') (hz:ys.length<=sizeLine):
  Inv X pins σ (upd H l (.lst ys)) {s with heap:=s.heap.update l (Obj.mapSeq f),toks:=t'}:=by
 have q:=PySem.IsL.update e f
 rw [hf] at q
 refine I.write (x:=l) (e:=l) (by rw [hH];exact trivial) (.inl rfl) (fun b' u hb hu=>(qah s.heap (Obj.mapSeq f) (Ne.symm hb)).trans hu) ⟨_,q⟩ ?_
 exact ⟨hz,its',_,hv,q⟩
theorem Inv.lnew {its:List Value} {t':Nat} (I:Inv X pins σ H s) (hv:zbh ys its) (hz:ys.length<=sizeLine):
  Inv X pins σ (upd H s.heap.objs.size (.lst ys)) {s with heap:=s.heap.push {cls:= .type "list",data:= .seq its.toArray},toks:=t'}:=
 I.laid (fun _ _ q=>qag _ q) (qaV _) ⟨hz,its,0,hv,qar _ rfl⟩
theorem Inv.fresh (I:Inv X pins σ H s):H s.heap.objs.size=none:=I.hok.fresh (qaV _)
theorem Inv.lstM (I:Inv X pins σ H s) (hH:H l=some (.lst xs)):xs.length<=sizeLine/\ ∃ (its:List Value) (n:Nat),zbh xs its/\xs.length=its.length/\s.heap.get? l=some {cls:= .type "list",data:= .seq its.toArray n}:=by
 obtain ⟨z,its,n,r,e⟩:=I.hok l _ hH
 exact ⟨z,its,n,r,r.length,e⟩
theorem zmj {n:Nat} (h:n<=sizeLine):Builtin.List.listTooLong n=false:=by
 unfold Builtin.List.listTooLong
 exact decide_eq_false (by omega)
end
section
variable {X:Cx}
noncomputable def zox:V->List V->Hp->VK->Prop:=fun x vs H Q=> ∃ l xs y,x= .ref l/\vs=[y]/\H l=some (.lst xs)/\xs.length<sizeLine/\Q .non (upd H l (.lst (xs++[y])))
theorem zk0:MtM X "list.append" zox:=by
 intro pins s σ H x vs v us Q I rx rv h
 obtain ⟨l,xs,y,rfl,rfl,hH,hz,q⟩:=h
 cases rx
 obtain ⟨u,rfl,ru⟩:=rv.one
 obtain ⟨z,its,n,r,hl,e⟩:=I.lstM hH
 refine call_meets F.slot_list_append ⟨_,e,rfl⟩ F.entry_list_append (F.args_list_append_2 _ _) (PySem.list_append l its.toArray n u (by rw [qaA];omega)) ⟨e,?_⟩
 refine ⟨.non,_,I.lset (its':=its++[u]) hH e (by simp) (r.append (.cons ru .nil)) ?_,rfl,q⟩
 rw [qav,List.length_singleton]
 omega
noncomputable def zuf:R2:=fun x y H Q=> ∃ l b xs zs,x= .ref l/\y= .ref b/\H l=some (.lst xs)/\H b=some (.lst zs)/\xs.length+zs.length<=sizeLine/\ ∀ p,H p=none->Q (.ref p) (upd H p (.lst (xs++zs)))
theorem zrF:OpR X (binaryOp .Add) zuf:=by
 intro pins s σ H x y v u Q I rx ry h
 obtain ⟨l,b,xs,zs,rfl,rfl,hH,hB,hz,q⟩:=h
 cases rx
 cases ry
 obtain ⟨z,its,n,r,hl,e⟩:=I.lstM hH
 obtain ⟨z2,its2,n2,r2,hl2,e2⟩:=I.lstM hB
 refine PySem.P.add_list e e2 ?_ (by rw [qaA,qaA];omega)
 have ea:its.toArray++its2.toArray=(its++its2).toArray:=by simp
 rw [ea]
 exact ⟨.ref _,_,I.lnew (t':=s.toks) (r.append r2) (by rw [qav];omega),rfl,q _ I.fresh⟩
theorem znY {α:Type} (xs:List α) (k:Nat):(List.replicate k xs).flatten.length=k*xs.length:=by
 induction k with
 | zero=>simp
 | succ k ih=>rw [List.replicate_succ,List.flatten_cons,qav,ih,Nat.succ_mul,Nat.add_comm]
end
section
variable {prog:Program} {w:World} {A:Around} {E:Value->Shared->Prop} {s:Shared}
end
section
variable {X:Cx}
end
end L2
namespace Att
open PySem PySem.W PySem.Calls PyProof.Rows
theorem zff {P:Params} {h:Heap}: ∀ (ns:List Int) (vs:List Value),WellAll P h vs (ns.map WData.int)->IntsAre vs ns:=by
 intro ns
 induction ns with
 | nil=>
  intro vs w
  rw [List.map_nil] at w
  cases w
  exact .nil
 | cons n ns ih=>
  intro vs w
  rw [qaM] at w
  cases w with
  | cons a b=>
   cases a
   exact .cons _ _ (ih _ b)
theorem zkG {l:OpenLaw} {n:Nat} (hn:l.most=some n) {P:Params} {h:Heap} {args:List WData} {vals:List Value}
  (hpre:l.row.toRowW.claim.pre args=true) (hwl:WellAll P h vals args):
  ∃ a vs ns,vals=[Value.ref a]/\args=[WData.list (ns.map WData.int)]/\h.get? a=some {cls:= .type "list",data:= .seq vs.toArray}/\IntsAre vs ns/\ns.length<=n:=by
 have hsh:WShape.hasAll [] args [.list .int]=true:=(pre_splitW hpre).1
 have hc:l.pre.holds [] {args:=args}=true:=(pre_splitW hpre).2
 obtain ⟨d,r,rfl,h1,h2⟩:=hasAllW_cons hsh
 obtain rfl:=hasAllW_nil h2
 obtain ⟨xs,rfl,h3⟩:=hasW_list h1
 obtain ⟨ns,rfl⟩:=items_int h3
 have hlen:ns.length<=n:=by
  unfold OpenLaw.pre at hc
  have h4:(WTm.not (.lt (.lit (.int (n:Int))) (.len (.arg 0)))).holds [] {args:=[.list (ns.map .int)]}=true:=by
   have h4:=(holds_andW hc).1
   rw [hn] at h4
   exact h4
  have h5:=condW_of h4 (w_not (w_lt w_lit (w_len_list (w_arg rfl))))
  rw [qaH] at h5
  refine Nat.le_of_not_lt fun q=> ?_
  have q':(n:Int)<((ns.length:Nat):Int):=by omega
  first
   | (rw [decide_eq_true q'] at h5;exact absurd h5 (by decide))
   | (simp at h5;omega)
 cases hwl with
 | cons w1 w2=>
  cases w2
  cases w1 with
  | list ho hall=>exact ⟨_,_,ns,rfl,rfl,ho,zff ns _ hall,hlen⟩
theorem zjC (l:OpenLaw) (args:List WData):l.row.toRowW.claim.post args (.bool true) args=true:=
 postW_of (r:=l.row.toRowW) (X:=(true==true))
  (show WShape.has [] (.bool true) .bool=true by first | rfl | decide | simp [WShape.has,WShape.arms,WShape.armsAll])
  (show (WTm.eq .res (.lit (.bool true))).value [] {args:=args,res:=some (.bool true),after:=args}=some (.bool (true==true)) from w_eq_bool (w_res rfl) w_lit) rfl
theorem zh3 {l:OpenLaw} {n:Nat} {q:Program} {loose:List Str} {XP:(Str->Option Value)->Heap->Prop} {YP:World->Heap->Prop} {d:DefRec}
  (hn:l.most=some n) (hdf:d.params.defaults=[])
  (call: ∀ (w:World) (s₀ s₁:Shared) (mg mb:Str->Option Value) (fa:Addr) (o:Obj) (pm cd doc:Value) (a:Addr) (vs:List Value) (ns:List Int),
    Ground q loose [] XP w s₀ mg mb s₁.heap->YP w s₁.heap->
    s₁.heap.get? fa=some o->o.data= .func (docDef d.name d.params d.body d.scope pm cd doc)->s₁.heap.CodeRec cd d.name->mg d.name=some (.ref fa)->
    s₁.heap.get? a=some {cls:= .type "list",data:= .seq vs.toArray}->IntsAre vs ns->ns.length<=n->s₁.gens= #[]->
    codeAny (model l.prog w) callerA (.call (.ref fa) ⟨[.ref a],[]⟩) (fun r s'=>r= .ok (.ret (.bool true))/\OldK s₁.heap s'.heap/\s'.os=s₁.os/\AllBare s'.gens) s₁):
  WalkO q loose XP YP l.row.toRowW d [] (fun f vs=>PySem.call f vs):=by
 intro w s₀ s₁ mg mb G Y fa o pm cd doc dV kV ho hd hcd hD hmg hg args vals as hpre hlay hrd hwl hlo
 obtain rfl:dV= .none:=Dflts.none hD hdf
 obtain rfl:kV= .none:=Dflts.noKw hD
 obtain ⟨a,vs,ns,rfl,rfl,hobj,hints,hlen⟩:=zkG hn hpre hwl
 refine enter_call (codeAny_mono (call w s₀ s₁ mg mb fa o pm cd doc a vs ns G Y ho (fd_plain hd) hcd hmg hobj hints hlen hg) fun r s' hq=> ?_)
 obtain ⟨rfl,h2,h3,h4⟩:=hq
 exact ⟨.inl ⟨.bool true,.bool true,[],rfl,fun _=>rfl,.bool true,zjC l _,fun _=>⟨List.Pairwise.nil,fun _ hm=>(nomatch hm)⟩⟩,h2,h3,h4⟩
section
variable {prog:Program} {w:World} {A:Around} {E:Value->Shared->Prop} {s:Shared} {K:Frag}
end
end Att
namespace L2
open PySem PySem.Spec PyProof.Rows
theorem ze4: ∀ {vs:List Value} {ns:List Int},IntsAre vs ns->zbh (ns.map V.int) vs
 | _,_,.nil=> .nil
 | _,_,.cons n t h=> .cons ⟨t,rfl⟩ (ze4 h)
def ztg (H:Hp):Prop:= ∀ b,H b=none\/ ∃ o xs,H b=some (.frz o (.lst xs))
theorem zmG {P:Program} {w:World} {K:W.Frag} {mg mb:Str->Option Value} {CX:CXT} {k:Nat} {fa a:Addr} {fd:FuncData} {x:Str} {sp:Sp} {s₁:Shared} {vs:List Value} {ns:List Int}
  (KX:K.In s₁.heap) (hns:s₁.heap.Ns mainGlobals mg) (hb:s₁.heap.Ns builtinsNs mb) (hbb: ∀ x:Str,x≠"__name__"->mb x=bootBuiltins x) (hlim:s₁.heap.NoLimit) (hg:s₁.gens= #[])
  (ha:s₁.heap.get? a=some {cls:= .type "list",data:= .seq vs.toArray}) (hi:IntsAre vs ns) (hl:ns.length<=sizeLine) (hr:zej k callerA)
  (F: ∀ base:Heap,K.In base->base.Ns mainGlobals mg->zbN P w K mg base CX k fa fd [x] sp) (hbind: ∀ (s:Shared) (u:Value),BindsTo s fd ⟨[u],[]⟩ [(x,u)])
  (hsp: ∀ H:Hp,ztg H->SqL K H a (ns.map V.int)->sp [.ref a] H (fun v _=>v= .bl true) fun _ _ _=>False)
  (hCX: ∀ H e s',CX [] H s₁ (fun _ _ _=>False) e s'->False):
  codeAny (model P w) callerA (.call (.ref fa) ⟨[.ref a],[]⟩) (fun r s'=>r= .ok (.ret (.bool true))/\OldK s₁.heap s'.heap/\s'.os=s₁.os/\AllBare s'.gens) s₁:=by
 have rv:=ze4 hi
 have lenV:=hi.length
 have core: ∀ H:Hp,ztg H->SqL K H a (ns.map V.int)->HOk P w H s₁.heap->(∀ b,H b≠none->b=a)->(H a≠none->K.lookup a=none)->
   codeAny (model P w) callerA (.call (.ref fa) ⟨[.ref a],[]⟩) (fun r s'=>r= .ok (.ret (.bool true))/\OldK s₁.heap s'.heap/\s'.os=s₁.os/\AllBare s'.gens) s₁:=by
  intro H hO hS hok hA hK
  have base_of: ∀ {b:Addr} {o:Obj},s₁.heap.get? b=some o->H b=none->(zmf s₁.heap H).get? b=some o:=fun e n=>zl4 e n
  have noA: ∀ {b:Addr} {o:Obj} {es:Array DictEntry} {ep:Nat},s₁.heap.get? b=some o->o.data= .dict es ep->H b=none:=fun {b o es ep} e d=>by
   cases q:H b with
   | none=>rfl
   | some u=>
    have e':b=a:=hA b (by rw [q];simp)
    subst e'
    rw [ha] at e;cases e
    have d':Data.seq vs.toArray _=Data.dict es ep:=d
    cases d'
  have nsK: ∀ {b:Addr} {m:Str->Option Value},s₁.heap.Ns b m->(zmf s₁.heap H).Ns b m:=fun {b m} ⟨o,es,ep,e,d,r⟩=>⟨o,es,ep,base_of e (noA e d),d,r⟩
  have hKb:K.In (zmf s₁.heap H):=fun b o e=>base_of (KX b o e) (by
    cases q:H b with
    | none=>rfl
    | some u=>
      have e':b=a:=hA b (by rw [q];simp)
      subst e'
      rw [hK (by rw [q];simp)] at e;cases e)
  have hM:Mod K mg (zmf s₁.heap H):=⟨hKb,nsK hns,⟨mb,nsK hb,hbb⟩,let ⟨mc,h1,h2⟩:=hlim;⟨mc,nsK h1,h2⟩⟩
  have e0:zpq P w K mg (zmf s₁.heap H) callerA [] s₁ H:=⟨rfl,hM,fun b o e=>zoT e,Nat.le_of_eq (zjL _ _),trivial,fun b hb=>absurd (show b∈([]:List Addr) from hb) (by simp),hok,.of_eq hg,.inl rfl⟩
  refine codeAny_mono ((F _ hKb (nsK hns)).run callerA [] s₁ H ⟨[.ref a],[]⟩ [.ref a] [.ref a] _ _ hr e0 (hbind s₁ (.ref a)) (.cons rfl .nil) (hsp H hO hS)) fun r s' h=> ?_
  cases r with
  | error e=>exact (hCX H e s' h).elim
  | ok fl=>
   cases fl with
   | next=>exact qa0 h
   | brk=>exact qa0 h
   | cont=>exact qa0 h
   | ret u=>
    obtain ⟨v,H',os,bare,un,hok',r',q⟩:=h
    have q':v= .bl true:=q
    subst q'
    obtain rfl:u=Value.bool true:=r'
    refine ⟨rfl,OldK.of_keep fun b o e=> ?_,os,bare⟩
    cases q:H b with
    | none=>exact un.keep b o e q (by intro z;exact absurd (show b∈([]:List Addr) from z) (by simp)) (by simp)
    | some u=>
     rcases hO b with z | ⟨ob,xs,z⟩
     ·rw [q] at z;cases z
     ·have z2:=un.frzs b ob _ z
      obtain ⟨e1,_⟩:=hok b _ z
      obtain ⟨e2,_⟩:=hok' b _ z2
      rw [e] at e1;cases e1
      exact e2
 cases hk:K.lookup a with
 | some o=>
  have e:=KX a o hk
  rw [ha] at e
  cases e
  refine core (fun _=>none) (fun _=> .inl rfl) (.inr ⟨_,vs.toArray,_,hk,rfl,rfl,rfl,by rw [qaA,lenV];exact hl,by simpa using rv⟩) (fun b u z=>by have z':(none:Option HO)=some u:=z;cases z') (fun b z=>absurd rfl z) fun z=>absurd rfl z
 | none=>
  refine core (fun b=>if b=a then some (.frz {cls:= .type "list",data:= .seq vs.toArray} (.lst (ns.map V.int))) else none) (fun b=> ?_) (.inl (.inr ⟨{cls:= .type "list",data:= .seq vs.toArray},qa4 rfl⟩)) (fun b u z=> ?_) (fun b z=> ?_) fun _=>hk
  ·by_cases hb:b=a
   ·exact .inr ⟨_,_,qa4 hb⟩
   ·exact .inl (qa5 hb)
  ·by_cases hb:b=a
   ·have z':=(qa4 hb).symm.trans z
    cases z'
    subst hb
    exact ⟨ha,by rw [qaH];exact hl,vs,_,rv,ha⟩
   ·have z':=(qa5 hb).symm.trans z
    cases z'
  ·by_cases hb:b=a
   ·exact hb
   ·exact absurd (qa5 hb) z
theorem znr {l:W.OpenLaw} {n k:Nat} {q:Program} {loose:List Str} {XP:(Str->Option Value)->Heap->Prop} {YP:World->Heap->Prop} {d:DefRec} {K:Params->W.Frag} {CX:World->CXT} {sp:World->Sp} {x:Str}
  (hn:l.most=some n) (hn2:n<=sizeLine) (hdf:d.params.defaults=[]) (hr:zej k callerA)
  (hY: ∀ (w:World) (h:Heap),YP w h->(K w.params).In h)
  (F: ∀ (w:World) (mg:Str->Option Value) (fa:Addr) (h:Heap),(K w.params).In h->h.Ns mainGlobals mg->mg d.name=some (.ref fa)->
    ∃ fd:FuncData,(∀ (s:Shared) (u:Value),BindsTo s fd ⟨[u],[]⟩ [(x,u)])/\
      ∀ base:Heap,(K w.params).In base->base.Ns mainGlobals mg->zbN l.prog w (K w.params) mg base (CX w) k fa fd [x] (sp w))
  (hsp: ∀ (w:World) (H:Hp) (a:Addr) (ns:List Int),ns.length<=n->ztg H->SqL (K w.params) H a (ns.map V.int)->sp w [.ref a] H (fun v _=>v= .bl true) fun _ _ _=>False)
  (hCX: ∀ (w:World) (H:Hp) (s:Shared) (e:Value) (s':Shared),CX w [] H s (fun _ _ _=>False) e s'->False):
  W.WalkO q loose XP YP l.row.toRowW d [] (fun f vs=>PySem.call f vs):=by
 refine Att.zh3 hn hdf fun w s₀ s₁ mg mb fa o pm cd doc a vs ns G Y ho hd hcd hmg hobj hints hlen hg=> ?_
 have KX:=hY w _ Y
 obtain ⟨fd,hb,hF⟩:=F w mg fa _ KX G.T.g hmg
 exact zmG KX G.T.g G.T.b G.T.builtins G.T.nolimit hg hobj hints (qaS hlen hn2) hr hF hb (fun H hO hS=>hsp w H a ns hlen hO hS) fun H e s'=>hCX w H s₁ e s'
noncomputable def zev (s:Stmt):Arguments:=match s with
 | .FunctionDef _ a _ _ _ _ _ _ _ _=>a
 | _=>{posonlyargs:=[],args:=[],vararg:=none,kwonlyargs:=[],kw_defaults:=[],kwarg:=none,defaults:=[]}
noncomputable def zcH (s:Stmt):List Stmt:=match s with
 | .FunctionDef _ _ b _ _ _ _ _ _ _=>b
 | _=>[]
noncomputable def zah (s:Stmt):Scope:=match s with
 | .FunctionDef _ _ _ _ _ _ sc _ _ _=>sc
 | _=>{kind:= .function,names:=[],isGenerator:=false,isCoroutine:=false}
noncomputable abbrev CX0:CXT:=fun _ _ _ _ _ _=>False
noncomputable abbrev E0:XK:=fun _ _ _=>False
theorem zpN {X:Cx}:zez CX0 X E0:=fun _ _ _ _ _ _ _ h=>h.elim
structure Fun (K:W.Frag) (x qual:Str) (st:Stmt) (f:Addr) (fd:FuncData):Prop where
 ex: ∃ (oc:Value) (od:Option Addr) (kV doc pm:Value) (an:Option Addr) (cdv ct:Value) (osl:Array (Option Value)),
  fd=W.fnOf x qual (zev st) (zcH st) (zah st) .none kV doc pm an cdv ct/\K.lookup f=some ⟨oc,od,.func fd,osl⟩/\W.codeIn K cdv qual=true
 kp:W.keepIn K (.ref f)=true
section
variable {P:Program} {w:World} {K:W.Frag} {mg:Str->Option Value} {base:Heap}
theorem Fun.ok {x qual:Str} {st:Stmt} {f:Addr} {fd:FuncData} {N ps:List Str} {k:Nat} {sp:Sp} (F:Fun K x qual st f fd) (S:zat N ps (zah st)) (len: ∀ vs H Q E,sp vs H Q E->vs.length=ps.length)
  (hbody: ∀ (cdv:Value) (A:Around) (outer:List Env) (s:Shared) (H:Hp) (vs:List V) (Q:VK) (E:XK),zej k (A.deeper (envOfC qual (zah st) s.heap.objs.size f cdv))->sp vs H Q E->
    ∃ t,PSs (zhG CX0 P w K mg base N qual (zah st) f cdv A outer s H E).nox (zcH st) t/\t {nx:=fun _ H'=>Q .non H',rt:=Q} (zem N vs) H):zbN P w K mg base CX0 (k+1) f fd ps sp:=by
 obtain ⟨oc,od,kV,doc,pm,an,cdv,ct,osl,rfl,lk,hcd⟩:=F.ex
 refine zqM lk hcd S len fun A outer s H vs Q E hr hsp=> ?_
 obtain ⟨t,h,q⟩:=hbody cdv A outer s H vs Q E hr hsp
 exact ⟨t,h.nox,q⟩
theorem Fun.binds {x qual:Str} {st:Stmt} {f:Addr} {fd:FuncData} {ps:List Str} (F:Fun K x qual st f fd)
  (h: ∀ (kV doc pm:Value) (an:Option Addr) (cdv ct:Value) (us:List Value),us.length=ps.length->bindArgs (W.fnOf x qual (zev st) (zcH st) (zah st) .none kV doc pm an cdv ct) ⟨us,[]⟩=pure (ps.zip us)):zaO K fd ps []:=by
 obtain ⟨oc,od,kV,doc,pm,an,cdv,ct,osl,rfl,lk,hcd⟩:=F.ex
 exact .all (h kV doc pm an cdv ct)
theorem zaK {x qual:Str} {st:Stmt} {f:Addr} {oc:Value} {od an:Option Addr} {osl:Array (Option Value)} {kV doc pm cdv ct:Value} (l:K.lookup f=some ⟨oc,od,.func (W.fnOf x qual (zev st) (zcH st) (zah st) .none kV doc pm an cdv ct),osl⟩)
  (c:W.codeIn K cdv qual=true) (k:W.keepIn K (.ref f)=true):Fun K x qual st f (W.fnOf x qual (zev st) (zcH st) (zah st) .none kV doc pm an cdv ct):=⟨⟨oc,od,kV,doc,pm,an,cdv,ct,osl,rfl,l,c⟩,k⟩
end
section
variable {X:Cx}
theorem pv (i:Nat) {x:Str} {pos:Pos} (hN:X.N[i]? = some x:=by rfl) (hv:Vis X.env.scope x:=by first | exact Or.inl rfl | exact Or.inr (Or.inl rfl) | exact Or.inr (Or.inr rfl)) (hd:(x==("__debug__":Str))=false:=by decide)
  (hcd:(x==("__classdict__":Str))=false:=by decide):PE X (.Name x pos) (ztz i):=zm1 hN hv hd hcd
end
theorem zn6 {A B:Prop} (h:B):if false=true then A else B:=by
 rw [qa5 Bool.false_ne_true]
 exact h
theorem zoy {A B:Prop} (h:A):if true=true then A else B:=by
 rw [qa4 rfl]
 exact h
noncomputable def zbD (cells:List (Str×Addr)):List (Str×NameKind)->List (Str×Addr)->List (Str×Addr)
 | [],acc=>acc
 | (n,k)::r,acc=>if k== .free then zbD cells r ((n,(cells.lookup n).getD 0)::acc) else zbD cells r acc
theorem zdW {scope:Scope} {env:Env} (h: ∀ x∈scope.names,x.2= .free-> ∃ c,env.cells.lookup x.1=some c):closureFor scope env=pure (zbD env.cells scope.names []):=by
 simp only [closureFor]
 generalize hn:scope.names=names at h
 clear hn
 generalize hacc:([]:List (Str×Addr))=acc
 clear hacc
 have key: ∀ (names:List (Str×NameKind)) (acc:List (Str×Addr)),(∀ x∈names,x.2= .free-> ∃ c,env.cells.lookup x.1=some c)->
   (forIn (m:=Sem) names acc fun (x:Str×NameKind) (r:List (Str×Addr))=>(match x with
     | (name,kind)=>if (kind==NameKind.free)=true then do
         let a<-cellOf env name
         pure (ForInStep.yield ((name,a)::r))
       else pure (ForInStep.yield r)))=pure (zbD env.cells names acc):=by
  intro names
  induction names with
  | nil=>intro acc _;rfl
  | cons x r ih=>
   intro acc h
   obtain ⟨n,k⟩:=x
   rw [List.forIn_cons]
   unfold zbD
   by_cases hk:(k==NameKind.free)=true
   ·simp only [hk,if_true]
    obtain ⟨c,hc⟩:=h (n,k) qau (by simpa using hk)
    have e:cellOf env n=pure c:=by unfold cellOf;rw [show env.cells.lookup n=some c from hc]
    rw [e,show (env.cells.lookup n).getD 0=c by rw [show env.cells.lookup n=some c from hc];rfl]
    exact ih _ fun y hy=>h y (qan _ hy)
   ·simp only [hk,if_false]
    exact ih _ fun y hy=>h y (qan _ hy)
 have k:=key names acc h
 refine Eq.trans (congrArg (fun (z:Sem (List (Str×Addr)))=>z>>=fun r=>pure r) k) ?_
 rfl
theorem zes {cells:List (Str×Addr)}: ∀ {names:List (Str×NameKind)} {acc:List (Str×Addr)} {n:Str} {c:Addr},(n,c)∈zbD cells names acc->
  (n,c)∈acc\/((n,NameKind.free)∈names/\c=(cells.lookup n).getD 0)
 | [],_,_,_,h=> .inl h
 | (y,k)::r,acc,n,c,h=>by
  unfold zbD at h
  by_cases hk:(k==NameKind.free)=true
  ·rw [qa4 hk] at h
   have ek:k= .free:=by simpa using hk
   subst ek
   rcases zes h with h | ⟨h1,h2⟩
   ·rcases qaP.mp h with e | h
    ·cases e
     exact .inr ⟨qau,rfl⟩
    ·exact .inl h
   ·exact .inr ⟨qan _ h1,h2⟩
  ·rw [qa5 hk] at h
   rcases zes h with h | ⟨h1,h2⟩
   ·exact .inl h
   ·exact .inr ⟨qan _ h1,h2⟩
theorem zdM {cells:List (Str×Addr)} {x:Str} {c:Addr} (hc:cells.lookup x=some c): ∀ (names:List (Str×NameKind)) (acc:List (Str×Addr)),((x,NameKind.free)∈names\/acc.lookup x=some c)->(zbD cells names acc).lookup x=some c
 | [],acc,h=>h.elim (fun z=>nomatch z) id
 | (y,k)::r,acc,h=>by
  unfold zbD
  by_cases hk:(k==NameKind.free)=true
  ·rw [qa4 hk]
   refine zdM hc r _ ?_
   by_cases hy:x=y
   ·subst hy
    exact .inr (by rw [List.lookup_cons,beq_self_eq_true,hc];rfl)
   ·rcases h with h | h
    ·rcases qaP.mp h with e | h
     ·cases e;exact absurd rfl hy
     ·exact .inl h
    ·refine .inr ?_
     rw [List.lookup_cons,show (x==y)=false by simpa using hy]
     exact h
  ·rw [qa5 hk]
   refine zdM hc r _ ?_
   rcases h with h | h
   ·rcases qaP.mp h with e | h
    ·cases e;exact absurd rfl hk
    ·exact .inl h
   ·exact .inr h
theorem zc8: ∀ {names:List (Str×NameKind)} {n:Nat} {acc:List (Str×Addr)} {x:Str} {c:Addr},(x,c)∈cellsFrom n names acc->(x,c)∈acc\/(n<=c/\(x,NameKind.cell)∈names)
 | [],_,_,_,_,h=> .inl h
 | (y,k)::r,n,acc,x,c,h=>by
  unfold cellsFrom at h
  by_cases hk:(k==NameKind.cell)=true
  ·rw [qa4 hk] at h
   have ek:k= .cell:=by simpa using hk
   subst ek
   rcases zc8 h with h | ⟨h,h'⟩
   ·rcases qaP.mp h with e | h
    ·cases e;exact .inr ⟨qaV _,qau⟩
    ·exact .inl h
   ·exact .inr ⟨Nat.le_of_succ_le h,qan _ h'⟩
  ·rw [qa5 hk] at h
   rcases zc8 h with h | ⟨h,h'⟩
   ·exact .inl h
   ·exact .inr ⟨h,qan _ h'⟩
theorem zci {x:Str} {c:Addr}: ∀ (names:List (Str×NameKind)) (n:Nat) (acc:List (Str×Addr)),(x,NameKind.cell)∉names->acc.lookup x=some c->(cellsFrom n names acc).lookup x=some c
 | [],_,_,_,h=>h
 | (y,k)::r,n,acc,hn,h=>by
  unfold cellsFrom
  by_cases hk:(k==NameKind.cell)=true
  ·rw [qa4 hk]
   have ek:k= .cell:=by simpa using hk
   subst ek
   refine zci r _ _ (fun z=>hn (qan _ z)) ?_
   have hy:x≠y:=fun e=>hn (by rw [e];exact qau)
   rw [List.lookup_cons,show (x==y)=false by simpa using hy]
   exact h
  ·rw [qa5 hk]
   exact zci r _ _ (fun z=>hn (qan _ z)) h
theorem zce: ∀ (names:List (Str×NameKind)) (n:Nat) (acc:List (Str×Addr)),(∀ x c,(x,c)∈acc->c<n)->(acc.Pairwise fun x y=>x.2≠y.2)->(cellsFrom n names acc).Pairwise fun x y=>x.2≠y.2
 | [],_,_,_,h=>h
 | (y,k)::r,n,acc,hlt,h=>by
  unfold cellsFrom
  by_cases hk:(k==NameKind.cell)=true
  ·rw [qa4 hk]
   refine zce r (n+1) _ (fun x c hm=> ?_) (qay.mpr ⟨fun z hz e=> ?_,h⟩)
   ·rcases qaP.mp hm with e | hm
    ·cases e;exact Nat.lt_succ_self _
    ·exact Nat.lt_succ_of_lt (hlt x c hm)
   ·have:=hlt z.1 z.2 hz
    have e':n=z.2:=e
    exact qaN _ (e'▸this)
  ·rw [qa5 hk]
   exact zce r n acc hlt h
noncomputable def zoa (env:Env) (scope:Scope) (C:Addr):Env:=
 {scope:=relabel scope env,locals:=C,globals:=env.globals,cells:=cellsFrom (C+1) scope.names (zbD env.cells scope.names []),qual:=env.qual,func:=none,code:=env.code,frame:=env.frame,builtins:=env.builtins}
section
variable {M:Model} {A:Around} {E:Value->Shared->Prop} {s:Shared}
theorem zfK {scope:Scope} {env:Env} {cl:List (Str×Addr)} {Q:Env->Shared->Prop}
  (hQ: ∀ h',(∀ b o,s.heap.get? b=some o->h'.get? b=some o)->h'.Ns s.heap.objs.size (fun _=>none)->(∀ x c,(x,NameKind.cell)∈scope.names->(x,c)∈cellsFrom (s.heap.objs.size+1) scope.names cl->(x,c)∉cl->h'.IsCell c none)->
    Q {scope,locals:=s.heap.objs.size,globals:=env.globals,cells:=cellsFrom (s.heap.objs.size+1) scope.names cl,qual:=env.qual,func:=none,code:=env.code,frame:=env.frame,builtins:=env.builtins} {s with heap:=h'}):
  wpAny M A (newFunctionEnv scope env.globals cl [] env.qual none .none (some env)) Q E s:=by
 simp only [newFunctionEnv,Option.isSome_some,if_true]
 refine qaW (wpAny_alloc ?_)
 refine qaW (wpAny_layCells _ (fun name kind cells=>by cases hkc:kind==NameKind.cell<;>simp [hkc]) _ _ _ _ ?_)
 simp only [List.forIn_nil]
 refine qaW (qaX (qaX ?_))
 rw [show ({s with heap:=s.heap.push {cls:= .type "dict",data:= .dict #[]}}:Shared).heap.objs.size=s.heap.objs.size+1 from qaL ..]
 have key: ∀ (names:List (Str×NameKind)) (h:Heap) (acc:List (Str×Addr)) (x:Str) (c:Addr),(x,c)∈cellsFrom h.objs.size names acc->(x,c)∉acc->(pushCells h names).IsCell c none:=by
  intro names
  induction names with
  | nil=>intro h acc x c hm hn;exact absurd hm hn
  | cons y r ih=>
   intro h acc x c hm hn
   obtain ⟨n,k⟩:=y
   unfold cellsFrom at hm
   unfold pushCells
   by_cases hk:(k==NameKind.cell)=true
   ·rw [qa4 hk] at hm ⊢
    by_cases hin:(x,c)∈((n,h.objs.size)::acc)
    ·rcases qaP.mp hin with e | e
     ·cases e
      exact ⟨_,pushCells_keeps _ _ _ _ (qar _ rfl),rfl⟩
     ·exact absurd e hn
    ·refine ih (h.push {cls:= .type "cell",data:= .cell none}) ((n,h.objs.size)::acc) x c ?_ hin
     rw [qaL]
     exact hm
   ·rw [qa5 hk] at hm ⊢
    exact ih h acc x c hm hn
 refine hQ _ (fun b o e=>pushCells_keeps _ _ b o (qag _ e)) ((Heap.Ns.new s.heap (.type "dict")).keeps (pushCells_keeps _ _)) fun x c _ hm hn=> ?_
 refine key scope.names _ cl x c ?_ hn
 rw [qaL]
 exact hm
end
section
variable {prog:Program} {w:World} {A:Around} {E:Value->Shared->Prop} {R:Result->Shared->Prop} {s:Shared}
theorem zgJ {elt target iter:Expr} {ifs:List Expr} {scope:Scope} {pos:Pos} {it acc:Value} {env:Env} (I:Nat->Shared->Prop)
  (turn: ∀ n s,I n s->wpAny (model prog w) A (pyNext it) (fun r s₁=>match r with
    | none=>R (.ok .next) s₁
    | some v=>wpAny (model prog w) A (letOwnedTupleGo target it v) (fun _ s₁'=>wpAny (model prog w) A (assign target env v) (fun _ s₂=>
        wpAny (model prog w) A (forIn ifs true fun c r=>if r=true then do let ok<-isTrue c env (eval c env);pure (ForInStep.yield ok) else pure (ForInStep.yield r)) (fun ok s₃=>
          if ok=true then wpAny (model prog w) A (eval elt env) (fun x s₄=>
            wpAny (model prog w) A (call (.builtin "list.append") [acc,x]) (fun _ s₅=> ∃ m,m<n/\I m s₅) (fun _ _=>False) s₄) (fun _ _=>False) s₃
          else ∃ m,m<n/\I m s₃) (fun _ _=>False) s₂) (fun _ _=>False) s₁') (fun _ _=>False) s₁) (fun _ _=>False) s)
  (n:Nat) (h:I n s):
  codeAny (model prog w) A (.compLoop (.ListComp elt [⟨target,iter,ifs,0⟩] scope pos) 0 it acc env) R s:=by
 refine codeAny_loop rfl I (fun n s hI=> ?_) n h
 show wpAny _ A ((compTurn (.ListComp elt [⟨target,iter,ifs,0⟩] scope pos) 0 it acc env).onRaise (fun x=>do noteFrame x env;theTreesLotGoes x)) _ _ s
 refine wpAny_noted ?_
 rw [compTurn_list]
 refine qaW (wpAny_standAt (qaW (qaZ (turn n s hI) (fun r s₁ h₁=> ?_) fun _ _ h'=>h'.elim)))
 cases r with
 | none=>exact qaX h₁
 | some v=>
  refine qaW (qaZ h₁ (fun _ s₁' h₁'=> ?_) fun _ _ h'=>h'.elim)
  refine qaW (qaZ h₁' (fun _ s₂ h₂=>qaW (qaZ h₂ (fun ok s₃ h₃=> ?_) fun _ _ h'=>h'.elim)) fun _ _ h'=>h'.elim)
  cases ok with
  | false=>exact qaX ⟨rfl,h₃⟩
  | true=>
   exact qaW (qaW (qaZ h₃ (fun x s₄ h₄=>qaW (qaZ h₄ (fun _ s₅ h₅=>qaX (qaX ⟨rfl,h₅⟩)) fun _ _ h'=>h'.elim)) fun _ _ h'=>h'.elim))
end
noncomputable abbrev cxB (X:Cx) (scope:Scope) (N:List Str) (s:Shared) (H:Hp) (fp:List Addr):Cx:=
 {prog:=X.prog,w:=X.w,K:=X.K,mg:=X.mg,base:=X.base,A:=X.A,N:=N,s₀:=s,H₀:=H,env:=zoa X.env scope s.heap.objs.size,outer:=X.stack,stack:=X.stack,ex:=fp,
   fn:=fun x=>scope.names.lookup x==some .cell,calm:=X.calm,pn:=[],xe:=fun _ _=>False}
noncomputable def znm (Xn:List (Str×NameKind)) (XN:List Str) (names:List (Str×NameKind)) (N:List Str) (src:List (Option Nat)):Bool:=
 decide N.Nodup && decide (names.map (·.1)).Nodup && (src.length==N.length) &&
 names.all (fun x=>x.2 != .local || names.lookup x.1==some .local) &&
 names.all (fun x=>x.2 != .cell || names.lookup x.1==some .cell) &&
 names.all (fun x=>x.2 != .free || Xn.lookup x.1==some .cell || Xn.lookup x.1==some .free) &&
 (N.zip src).all (fun p=>match p.2 with
   | none=>true
   | some i=>XN[i]? == some p.1 && names.lookup p.1==some .free)
structure BOk (X:Cx) (scope:Scope) (N:List Str) (src:List (Option Nat)):Prop where
 kind:scope.kind= .function
 nd:N.Nodup
 keys:(scope.names.map (·.1)).Nodup
 len:src.length=N.length
 locs: ∀ x∈scope.names,x.2= .local->scope.names.lookup x.1=some .local
 cels: ∀ x∈scope.names,x.2= .cell->scope.names.lookup x.1=some .cell
 free: ∀ x∈scope.names,x.2= .free->X.env.kindOf x.1=some .cell\/X.env.kindOf x.1=some .free
 src: ∀ (k i:Nat) (x:Str),src[k]? = some (some i)->N[k]? = some x->X.N[i]? = some x/\scope.names.lookup x=some .free
theorem BOk.of {X:Cx} {scope:Scope} {N:List Str} {src:List (Option Nat)} {Xn:List (Str×NameKind)} {XN:List Str} (hk:scope.kind= .function) (hX:X.env.scope.names=Xn) (hN:X.N=XN)
  (h:znm Xn XN scope.names N src=true):BOk X scope N src:=by
 unfold znm at h
 simp only [qaG,qaD,List.all_eq_true,beq_iff_eq] at h
 obtain ⟨⟨⟨⟨⟨⟨h1,h2⟩,h3⟩,h4⟩,h4'⟩,h5⟩,h6⟩:=h
 refine ⟨hk,h1,h2,h3,fun x hx e=> ?_,fun x hx e=> ?_,fun x hx e=> ?_,fun k i x e1 e2=> ?_⟩
 ·have:=h4 x hx
  rw [e] at this
  simpa using this
 ·have:=h4' x hx
  rw [e] at this
  simpa using this
 ·have:=h5 x hx
  rw [e] at this
  unfold Env.kindOf
  rw [hX]
  simpa using this
 ·have hm:(x,some i)∈N.zip src:=by
   refine List.mem_iff_getElem?.mpr ⟨k,?_⟩
   rw [List.getElem?_zip_eq_some]
   exact ⟨e2,e1⟩
  have:=h6 _ hm
  dsimp only at this
  simp only [qaG,beq_iff_eq] at this
  rw [hN]
  exact this
noncomputable def bStart (src:List (Option Nat)) (σ:St):St:=src.map fun o=>o.bind fun i=>(σ[i]?).join
theorem zfM {scope:Scope} {env:Env} {x:Str}:(relabel scope env).names.lookup x=(scope.names.lookup x).map fun k=>if (k== .free && env.scope.kind== .function && env.kindOf x==some .cell) then .cell else k:=by
 show List.lookup x (scope.names.map _)=_
 induction scope.names with
 | nil=>rfl
 | cons y r ih=>
  obtain ⟨n,k⟩:=y
  rw [qaM]
  dsimp only
  by_cases hx:x=n
  ·subst hx
   by_cases hc:(k==NameKind.free && env.scope.kind== .function && env.kindOf x==some .cell)=true
   ·rw [qa4 hc,List.lookup_cons,List.lookup_cons,beq_self_eq_true]
    dsimp only [Option.map]
    rw [qa4 hc]
   ·rw [qa5 hc,List.lookup_cons,List.lookup_cons,beq_self_eq_true]
    dsimp only [Option.map]
    rw [qa5 hc]
  ·have hb:(x==n)=false:=by simpa using hx
   by_cases hc:(k==NameKind.free && env.scope.kind== .function && env.kindOf n==some .cell)=true
   ·rw [qa4 hc,List.lookup_cons,List.lookup_cons,hb]
    exact ih
   ·rw [qa5 hc,List.lookup_cons,List.lookup_cons,hb]
    exact ih
section
variable {X:Cx} {pins:List (Addr×Obj)} {σ:St} {H:Hp} {s:Shared} {scope:Scope} {N:List Str} {src:List (Option Nat)} {fp:List Addr}
theorem zpb (I:Inv X pins σ H s) (B:BOk X scope N src) {x:Str} {c:Addr} (h:(x,c)∈zbD X.env.cells scope.names []):X.env.cells.lookup x=some c/\(x,NameKind.free)∈scope.names:=by
 rcases zes h with z | ⟨z,e⟩
 ·exact nomatch z
 ·obtain ⟨c',hc⟩:=I.ok.has x (B.free _ z rfl)
  rw [hc] at e
  exact ⟨by rw [hc,e];rfl,z⟩
theorem zhp {l:List (Str×NameKind)} (h:(l.map (·.1)).Nodup) {x:Str} {j k:NameKind} (a:(x,j)∈l) (b:(x,k)∈l):j=k:=by
 induction l with
 | nil=>exact nomatch a
 | cons y r ih=>
  obtain ⟨h1,h2⟩:=List.nodup_cons.mp (show (y.1::r.map (·.1)).Nodup from h)
  rcases qaP.mp a with e | a<;>rcases qaP.mp b with e' | b
  ·rw [<- e] at e';cases e';rfl
  ·exact absurd (qaU.mpr ⟨_,b,by rw [<- e]⟩) h1
  ·exact absurd (qaU.mpr ⟨_,a,by rw [<- e']⟩) h1
  ·exact ih h2 a b
theorem zeo (I:Inv X pins σ H s): ∀ (names:List (Str×NameKind)) (acc:List (Str×Addr)),(∀ x∈names,x.2= .free-> ∃ c,X.env.cells.lookup x.1=some c)->(names.map (·.1)).Nodup->(∀ x c,(x,c)∈acc->X.env.cells.lookup x=some c/\x∉names.map (·.1))->
  (acc.Pairwise fun x y=>x.2≠y.2)->(zbD X.env.cells names acc).Pairwise fun x y=>x.2≠y.2
 | [],_,_,_,_,h=>h
 | (n,k)::r,acc,hf,nd,ha,h=>by
  unfold zbD
  obtain ⟨h1,h2⟩:=List.nodup_cons.mp (show (n::r.map (·.1)).Nodup from nd)
  by_cases hk:(k==NameKind.free)=true
  ·rw [qa4 hk]
   obtain ⟨c,hc⟩:=hf (n,k) qau (by simpa using hk)
   have hc:X.env.cells.lookup n=some c:=hc
   rw [show (X.env.cells.lookup n).getD 0=c by rw [hc];rfl]
   refine zeo I r _ (fun x hx=>hf x (qan _ hx)) h2 (fun x c' hm=> ?_) (qay.mpr ⟨fun y hy e=> ?_,h⟩)
   ·rcases qaP.mp hm with e | hm
    ·cases e;exact ⟨hc,h1⟩
    ·exact ⟨(ha x c' hm).1,fun z=>(ha x c' hm).2 (qan _ z)⟩
   ·obtain ⟨q1,q2⟩:=ha y.1 y.2 hy
    have e':c=y.2:=e
    rw [<- e'] at q1
    have:=I.ok.inj _ _ _ hc q1
    exact q2 (by rw [<- this];exact qau)
  ·rw [qa5 hk]
   exact zeo I r acc (fun x hx=>hf x (qan _ hx)) h2 (fun x c' hm=>⟨(ha x c' hm).1,fun z=>(ha x c' hm).2 (qan _ z)⟩) h
theorem zjW (I:Inv X pins σ H s) (B:BOk X scope N src) (hf: ∀ b∈fp,zlD X pins H b) (hfo: ∀ b∈fp, ∃ o,s.heap.get? b=some o) {h':Heap} (hk: ∀ b o,s.heap.get? b=some o->h'.get? b=some o) (hns:h'.Ns s.heap.objs.size (fun _=>none))
  (hce: ∀ x c,(x,NameKind.cell)∈scope.names->(x,c)∈cellsFrom (s.heap.objs.size+1) scope.names (zbD X.env.cells scope.names [])->(x,c)∉zbD X.env.cells scope.names []->h'.IsCell c none):
  Inv (cxB X scope N s H fp) [] (bStart src σ) H {s with heap:=h'}:=by
 have cin: ∀ {x:Str} {c:Addr},(x,c)∈zbD X.env.cells scope.names []->X.env.cells.lookup x=some c/\(x,NameKind.free)∈scope.names:=fun h=>zpb I B h
 have old: ∀ {x:Str} {c:Addr},X.env.cells.lookup x=some c->c<s.heap.objs.size:=fun {x c} h=>(let ⟨_,q⟩:=I.cell x c h;q.lt)
 have all: ∀ {x:Str} {c:Addr},(x,c)∈cellsFrom (s.heap.objs.size+1) scope.names (zbD X.env.cells scope.names [])->(X.env.cells.lookup x=some c/\(x,NameKind.free)∈scope.names)\/(s.heap.objs.size<c/\(x,NameKind.cell)∈scope.names):=fun {x c} h=>by
  rcases zc8 h with z | ⟨z,z'⟩
  ·exact .inl (cin z)
  ·exact .inr ⟨z,z'⟩
 have lk: ∀ {x:Str} {c:Addr},(zoa X.env scope s.heap.objs.size).cells.lookup x=some c->(x,c)∈cellsFrom (s.heap.objs.size+1) scope.names (zbD X.env.cells scope.names []):=fun h=>PySem.mem_of_lookup h
 have hasF: ∀ x∈scope.names,x.2= .free-> ∃ c,X.env.cells.lookup x.1=some c:=fun x hx e=>I.ok.has x.1 (B.free x hx e)
 have ap:(cellsFrom (s.heap.objs.size+1) scope.names (zbD X.env.cells scope.names [])).Pairwise fun x y=>x.2≠y.2:=
  zce _ _ _ (fun x c hm=>Nat.lt_succ_of_lt (old (cin hm).1)) (zeo I scope.names [] hasF B.keys (fun _ _ z=>nomatch z) .nil)
 have outer: ∀ {x:Str} {c:Addr},(x,NameKind.free)∈scope.names->X.env.cells.lookup x=some c->(zoa X.env scope s.heap.objs.size).cells.lookup x=some c:=fun {x c} h1 h2=>
  zci _ _ _ (fun z=>nomatch zhp B.keys h1 z) (zdM h2 scope.names [] (.inl h1))
 have kinds: ∀ x,(zoa X.env scope s.heap.objs.size).kindOf x=(scope.names.lookup x).map fun k=>if (k== .free && X.env.scope.kind== .function && X.env.kindOf x==some .cell) then .cell else k:=fun x=>zfM
 have ckind: ∀ x,((zoa X.env scope s.heap.objs.size).kindOf x=some .cell\/(zoa X.env scope s.heap.objs.size).kindOf x=some .free)->scope.names.lookup x=some .cell\/scope.names.lookup x=some .free:=fun x h=>by
  rw [kinds x] at h
  cases e:scope.names.lookup x with
  | none=>rw [e] at h;simp at h
  | some k=>
   rw [e] at h
   cases k<;>simp at h ⊢
 refine ⟨⟨I.ok.mod,B.kind,I.ok.glob,I.ok.blt,qaV _,fun x y c h1 h2=>name_of_addr ap (lk h1) (lk h2),fun x hx=> ?_,fun x c hfn hx=> ?_,I.ok.hd,I.handA,I.ok.frames,.inl rfl,fun b hb=> ?_,I.bs,qaS I.ok.bsz I.sz,fun b o e hb=> ?_,fun b hb hb'=> ?_,I.stack,I.stkFree⟩,
   rfl,I.bare,Un.kept hk,⟨_,hns,fun i x v h1 h2 h3=> ?_⟩,fun x c h=> ?_,I.hok.fresh (qaV _),fun x c h=> ?_,fun p hp=>absurd (show p∈([]:List (Addr×Obj)) from hp) (by simp),I.hok.kept hk,?_⟩
 ·-- has
  rcases ckind x hx with h | h
  ·exact Option.isSome_iff_exists.mp (W.cellsFrom_some scope.names _ _ (.inl h))
  ·have hm:=PySem.mem_of_lookup h
   obtain ⟨c,hc⟩:=hasF _ hm rfl
   exact ⟨c,outer hm hc⟩
 ·-- cab
  have hfn:scope.names.lookup x=some .cell:=by simpa using hfn
  rcases all (lk hx) with ⟨_,z⟩ | ⟨z,_⟩
  ·exact absurd (zhp B.keys z (PySem.mem_of_lookup hfn)) (by decide)
  ·exact Nat.le_of_lt z
 ·-- exf
  obtain ⟨o,ho⟩:=hfo b hb
  refine ⟨qaR (qaQ ho),fun x c hx z=> ?_⟩
  rcases all (lk hx) with ⟨q,_⟩ | ⟨q,_⟩
  ·exact (hf b hb).2.2.2.2.1 x c q z
  ·have:=qaQ ho
   rw [<- z] at this
   exact qaN _ (Nat.lt_trans q this)
 ·-- noex
  rcases (hf b hb).2.2.2.1 with z | z
  ·exact I.ok.noex b o e z
  ·exact qaN _ (qaw (qaw (qaQ e) I.ok.bsz) z)
 ·-- exfs
  rcases qaP.mp (I.stkSub b hb') with z | z
  ·exact (hf b hb).2.1 z
  ·exact (hf b hb).2.2.1 z
 ·-- loc
  unfold bStart at h2
  rw [List.getElem?_map] at h2
  cases e:src[i]? with
  | none=>rw [e] at h2;cases h2
  | some o=>
   rw [e] at h2
   cases o with
   | none=>cases h2
   | some j=>
    have h2:(σ[j]?).join=some v:=by simpa using h2
    have e3:σ[j]? = some (some v):=by
     cases q:σ[j]? with
     | none=>rw [q] at h2;cases h2
     | some z=>rw [q] at h2;simp at h2;rw [h2]
    obtain ⟨b1,b2⟩:=B.src i j x e h1
    have hm:=PySem.mem_of_lookup b2
    obtain ⟨m,hn,hl⟩:=I.loc
    have hfr:=B.free _ hm rfl
    obtain ⟨u,r,l⟩:=hl j x v b1 e3 (.inr hfr)
    rcases l with ⟨k,_⟩ | ⟨k,c,hc,q⟩
    ·rcases hfr with z | z<;>(have z':=k.symm.trans z;cases z')
    ·refine ⟨u,r,.inr ⟨?_,c,outer hm hc,q.keeps hk⟩⟩
     rw [kinds x,b2]
     dsimp only [Option.map]
     split
     ·exact .inl rfl
     ·exact .inr rfl
 ·-- cell
  rcases all (lk h) with ⟨q,_⟩ | ⟨q,q'⟩
  ·obtain ⟨v,z⟩:=I.cell x c q
   exact ⟨v,z.keeps hk⟩
  ·exact ⟨none,hce x c q' (lk h) fun z=>absurd (Nat.lt_trans q (old (cin z).1)) (qaN _)⟩
 ·-- freeC
  rcases all (lk h) with ⟨q,_⟩ | ⟨q,q'⟩
  ·exact I.freeC x c q
  ·exact I.hok.fresh (Nat.le_of_lt q)
 ·unfold bStart
  rw [qaH]
  exact B.len
end
def PCs (X:Cx) (ifs:List Expr) (t:TT):Prop:=
 ∀ (pins:List (Addr×Obj)) (s:Shared) (σ:St) (H:Hp) (Q:Bool->Hp->Prop),Inv X pins σ H s->t σ H Q->
  wpAny (model X.prog X.w) X.A (forIn ifs true fun c r=>if r=true then do let ok<-isTrue c X.env (eval c X.env);pure (ForInStep.yield ok) else pure (ForInStep.yield r)) (TP X pins σ Q) X.xe s
noncomputable def zt3:TT:=fun _ H Q=>Q true H
theorem znu {X:Cx}:PCs X [] zt3:=fun pins s σ H Q I h=>wpAny_tests_nil ⟨H,I,h⟩
theorem znS {X:Cx} {c:Expr} {t:TT} (h:PT X c t):PCs X [c] t:=fun pins s σ H Q I hw=>wpAny_tests_one (h pins s σ H Q I hw)
def zr0 (J:It) (g:TG) (tc:TT) (te:TE) (σ0:St) (H1:Hp) (D:Addr) (Q:Hp->Prop):Prop:=
 ∃ W:Nat->Nat->St->Hp->Prop,(∃ m,W 0 m σ0 (upd H1 D (.lst [])))/\ ∀ i m σ' H',W i m σ' H'->
  (J.stop i H'/\Q H')\/(J.go i H'/\ ∃ Nn:St->Hp->Prop,(∀ σ2 H2,Nn σ2 H2-> ∃ m',m'<m/\W (i+1) m' σ2 H2)/\ ∀ x H2,J.yld i H' x H2->g x σ' H2 fun σ2 H3=>tc σ2 H3 fun b H4=>
    if b=true then te σ2 H4 fun y H5=> ∃ xs,H5 D=some (.lst xs)/\xs.length<sizeLine/\Nn σ2 (upd H5 D (.lst (xs++[y]))) else Nn σ2 H4)
section
variable {X:Cx} {scope:Scope} {N:List Str} {src:List (Option Nat)} {tg iter elt:Expr} {ifs:List Expr} {pos:Pos}
theorem ziR {pins:List (Addr×Obj)} {σ:St} {H:Hp} {s₂:Shared} {it:Addr} {fp:List Addr} {tn:Nat->Heap->Prop} {J:It} {g:TG} {tc:TT} {te:TE} {Q:Addr->Hp->Prop} {E:Value->Shared->Prop} {RR:Value->Addr->Result->Shared->Prop}
  (B:BOk X scope N src)
  (hg: ∀ s H fp,PG (cxB X scope N s H fp) tg g) (ht: ∀ s H fp,PCs (cxB X scope N s H fp) ifs tc) (he: ∀ s H fp,PE (cxB X scope N s H fp) elt te)
  (I2:Inv X pins σ H s₂) (T:zqz X.prog X.w X.K tg J fp it tn) (st2:tn 0 s₂.heap) (f2: ∀ b∈fp,zlD X pins H b) (hw: ∀ D,H D=none->zr0 J g tc te (bStart src σ) H D (Q D))
  (hRR: ∀ D C H' s' m,Inv X pins σ H' s'->s'.heap.Ns C m->s₂.heap.objs.size<=C->C<s'.heap.objs.size->H' C=none->Q D H'->RR (.ref D) C (.ok .next) s'):
  wpAny (model X.prog X.w) X.A (newList []) (fun acc s₃=>wpAny (model X.prog X.w) X.A (newFunctionEnv scope X.env.globals (zbD X.env.cells scope.names []) [] X.env.qual none .none (some X.env)) (fun cenv s₄=>
    codeAny (model X.prog X.w) X.A (.compStart (.ListComp elt [⟨tg,iter,ifs,0⟩] scope pos) 0 (.ref it) acc {cenv with scope:=relabel scope X.env}) (RR acc cenv.locals) s₄) E s₃) E s₂:=by
 refine qaC (zfK fun h₁ hk₁ hns₁ hce₁=> ?_)
 dsimp only at hk₁ hns₁ hce₁ ⊢
 have hfresh:H s₂.heap.objs.size=none:=I2.hok.fresh (qaV _)
 have I3:Inv X pins σ (upd H s₂.heap.objs.size (.lst [])) {s₂ with heap:=s₂.heap.push {cls:= .type "list",dict:=none,data:= .seq ([]:List Value).toArray}}:=by
  have:=I2.lnew (its:=[]) (ys:=[]) (t':=s₂.toks) .nil (Nat.zero_le _)
  exact this
 obtain ⟨W,⟨m0,w0⟩,turn⟩:=hw _ hfresh
 generalize hD:s₂.heap.objs.size=D at*
 generalize hs3:({s₂ with heap:=s₂.heap.push {cls:= .type "list",dict:=none,data:= .seq ([]:List Value).toArray}}:Shared)=s₃ at*
 have hh3:s₂.heap.push {cls:= .type "list",dict:=none,data:= .seq ([]:List Value).toArray}=s₃.heap:=by rw [<- hs3]
 rw [hh3] at hk₁ hns₁ hce₁ ⊢
 have push3: ∀ b o,s₂.heap.get? b=some o->s₃.heap.get? b=some o:=fun b o e=>by rw [<- hs3];exact qag _ e
 have sz3:s₃.heap.objs.size=D+1:=by rw [<- hs3, <-hD];exact qaL ..
 have fpo: ∀ b∈fp, ∃ o,s₂.heap.get? b=some o/\ ∀ v,o.data≠ .cell v:=T.obj _ _ st2
 have fpD: ∀ b∈fp,b≠D:=fun b hb z=>by
  obtain ⟨o,e,_⟩:=fpo b hb
  have:=qaQ e
  rw [z, <-hD] at this
  exact qaN _ this
 have f3: ∀ b∈fp,zlD X pins (upd H D (.lst [])) b:=fun b hb=>⟨by rw [zaE (fpD b hb)];exact (f2 b hb).1,(f2 b hb).2⟩
 have I4:Inv (cxB X scope N s₃ (upd H D (.lst [])) fp) [] (bStart src σ) (upd H D (.lst [])) {s₃ with heap:=h₁}:=
  zjW I3 B f3 (fun b hb=>let ⟨o,e,_⟩:=fpo b hb;⟨o,push3 b o e⟩) hk₁ hns₁ hce₁
 have fB: ∀ {H':Hp},(∀ b∈fp,H' b=none)-> ∀ b∈fp,zlD (cxB X scope N s₃ (upd H D (.lst [])) fp) [] H' b:=fun {H'} hn b hb=>
  ⟨hn b hb,(I4.ok.exf b hb).1,I4.ok.exfs b hb,.inl hb,fun x c e=>(I4.ok.exf b hb).2 x c e,fun p hp=>absurd (show p∈([]:List (Addr×Obj)) from hp) (by simp)⟩
 have stat4: ∀ s',s'=({s₃ with heap:=h₁}:Shared)->codeAny (model X.prog X.w) X.A (.compLoop (.ListComp elt [⟨tg,iter,ifs,0⟩] scope pos) 0 (.ref it) (.ref D) (zoa X.env scope s₃.heap.objs.size)) (RR (.ref D) s₃.heap.objs.size) s':=by
  intro s' es
  refine zgJ (fun n s'=> ∃ i σ' H',Inv (cxB X scope N s₃ (upd H D (.lst [])) fp) [] σ' H' s'/\tn i s'.heap/\(∀ b∈fp,H' b=none)/\W i n σ' H') ?_ m0 ⟨0,_,_,by rw [es];exact I4,by rw [es];exact T.keep _ _ _ st2 fun b hb o e=>hk₁ b o (push3 b o e),fun b hb=>(f3 b hb).1,w0⟩
  rintro n s5 ⟨i,σ5,H5,I5,st5,fr5,w5⟩
  rcases turn i n σ5 H5 w5 with ⟨stop,qn⟩ | ⟨go,Nn,hN,step⟩
  ·refine thn (T.done (cxB X scope N s₃ (upd H D (.lst [])) fp) rfl rfl rfl i [] s5 σ5 H5 _ I5 (fB fr5) st5 stop) fun r s6 ⟨hr,I6⟩=> ?_
   subst hr
   obtain ⟨m,hnC,_⟩:=I6.loc
   have un:=I6.base
   have u2:Un (frs X.stack) fp H H5 s₂.heap s6.heap:=by
    refine Un.trans ?_ un
    have:=Un.laid (fs:=frs X.stack) (ex:=fp) (H:=H) (h:=s₂.heap) (h':=s₃.heap) (a:=D) (o:= .lst []) push3 (Nat.le_of_eq hD) hfresh
    exact this
   refine hRR D _ H5 s6 m (I2.call' (ch:=fp) (by rw [I6.os, <-hs3]) u2 I6.hok I6.bare fun b hb=> ?_) hnC (by rw [sz3];exact Nat.le_succ _) hnC.lt I6.free qn
   obtain ⟨q0,q1,q2,q3,q4,q5⟩:=f2 b hb
   exact ⟨q3,q1,q4,q5⟩
  ·refine thn (T.item (cxB X scope N s₃ (upd H D (.lst [])) fp) rfl rfl rfl i [] s5 σ5 H5 _ I5 (fB fr5) st5 go) fun r s6 ⟨u,hr,h6⟩=> ?_
   subst hr
   refine thn h6 fun _ s7 ⟨x,H7,I7,r7,y7,st7,fr7⟩=> ?_
   have I7':=I7.pinned (fB fr7) (T.obj _ _ st7)
   refine thn (hg _ _ _ _ s7 σ5 H7 x u _ I7' r7 (step x H7 y7)) fun _ s8 ⟨σ8,H8,I8,q8⟩=> ?_
   refine thn (ht _ _ _ _ s8 σ8 H8 _ I8 q8) fun ok s9 ⟨H9,I9,q9⟩=> ?_
   have again: ∀ {σ7:St} {Hz:Hp} {sz:Shared},Inv (cxB X scope N s₃ (upd H D (.lst [])) fp) ([]++zhb fp s7.heap) σ7 Hz sz->Nn σ7 Hz-> ∃ m,m<n/\ ∃ i σ' H',Inv (cxB X scope N s₃ (upd H D (.lst [])) fp) [] σ' H' sz/\tn i sz.heap/\(∀ b∈fp,H' b=none)/\W i m σ' H':=fun {σz Hz sz} Iz nz=>by
    obtain ⟨m',hm,wz⟩:=hN _ _ nz
    refine ⟨m',hm,i+1,_,_,Iz.unpinned,T.keep _ _ _ st7 fun b hb o e=>(Iz.pin (b,o) (qak _ (qak _ (zdy hb e)))).1,fun b hb=> ?_,wz⟩
    obtain ⟨o,e,d⟩:=T.obj _ _ st7 b hb
    exact (Iz.pin (b,o) (qak _ (qak _ (zdy hb e)))).2.1
   cases ok with
   | false=>
    rw [qa5 (by decide)] at q9
    rw [qa5 (by decide)]
    exact again I9 q9
   | true=>
    rw [qa4 rfl] at q9
    rw [qa4 rfl]
    refine thn (he _ _ _ _ s9 σ8 H9 _ I9 q9) fun y s10 ⟨yv,H10,I10,ry,xs,e10,z10,q10⟩=> ?_
    refine thn (zk0 (X:=cxB X scope N s₃ (upd H D (.lst [])) fp) _ s10 σ8 H10 (.ref D) [yv] (.ref D) [y] (fun _ Hf=>Nn σ8 Hf) I10 rfl (.cons ry .nil) ⟨D,xs,yv,rfl,rfl,e10,z10,q10⟩) fun _ s11 ⟨_,H11,I11,_,q11⟩=> ?_
    exact again I11 q11
 exact codeAny_compStart_list (stat4 _ (by rw [<- hs3])) (T.self _ 0 _ _ _ (T.keep _ _ _ st2 fun b hb o e=>hk₁ b o (push3 b o e)) (stat4 _ (by rw [<- hs3])))
noncomputable def zlQ (wi:TI) (g:TG) (tc:TT) (te:TE) (src:List (Option Nat)):TE:=fun σ H Q=>wi σ H fun J H1=> ∀ D,H1 D=none->zr0 J g tc te (bStart src σ) H1 D fun H'=>Q (.ref D) H'
theorem Inv.letGo {pins:List (Addr×Obj)} {σ:St} {H:Hp} {s:Shared} {C:Addr} {m:Str->Option Value} {h':Heap} (I:Inv X pins σ H s) (hn:s.heap.Ns C m) (hn':H C=none) (hC:X.s₀.heap.objs.size<=C) (hL:C≠X.env.locals) (hp: ∀ p∈X.pn++pins,p.1≠C) (hs:Heap.SameBut C s.heap h'):Inv X pins σ H {s with heap:=h'}:=by
 refine I.turned (t':=s.toks) (it:=C) (fun b o hb e=>(hs.2 b hb).trans e) hn' hL (.inr hC) (fun x c e z=> ?_) hp
 obtain ⟨v,o,ho,hd⟩:=I.cell x c e
 obtain ⟨o',es,ep,ho',hd',_⟩:=hn
 rw [z,ho'] at ho
 cases ho
 rw [hd'] at hd
 cases hd
theorem zkU {wi:TI} {g:TG} {tc:TT} {te:TE} (B:BOk X scope N src) (hi:PI X tg iter wi)
  (hg: ∀ s H fp,PG (cxB X scope N s H fp) tg g) (ht: ∀ s H fp,PCs (cxB X scope N s H fp) ifs tc) (he: ∀ s H fp,PE (cxB X scope N s H fp) elt te)
  (hs: ∀ x,foldedSetIterable iter X.env x=pure x:=by intro _;rfl):PE X (.ListComp elt [⟨tg,iter,ifs,0⟩] scope pos) (zlQ wi g tc te src):=by
 intro pins s σ H Q I h
 rw [eval_ListComp]
 refine wpAny_comprehension_free (use:=none) rfl hs (zdW fun x hx e=>I.ok.has x.1 (B.free x hx e)) B.kind B.locs ?_
 refine thn (hi pins s σ H _ I h) fun v s1 h1=>thn h1 fun itv s2 h2=> ?_
 obtain ⟨it,fp,tn,J,H2,e,I2,T,st2,f2,hw⟩:=h2
 subst e
 refine ziR (RR:=fun acc C=>compPost (model X.prog X.w) X.A X.xe none (EP X pins σ Q) acc C) (Q:=fun D H'=>Q (.ref D) H') B hg ht he I2 T st2 f2 hw ?_
 intro D C H' s' m I' hn hC hCs hf q
 refine ⟨m,hn,fun h' hs'=>⟨.ref D,H',I'.letGo hn hf (qaS I2.sz hC) (fun z=> ?_) (fun p hp z=> ?_) hs',rfl,q⟩⟩
 ·exact qaN _ (qaw (z▸I2.lt) hC)
 ·have:=qaQ (I2.pin p hp).1
  rw [z] at this
  exact qaN _ (qaw this hC)
theorem zjj {wi:TI} {g:TG} {tc:TT} {te:TE} {i:Nat} {y:Str} {py spos:Pos} (B:BOk X scope N src) (hi:PI X tg iter wi)
  (hg: ∀ s H fp,PG (cxB X scope N s H fp) tg g) (ht: ∀ s H fp,PCs (cxB X scope N s H fp) ifs tc) (he: ∀ s H fp,PE (cxB X scope N s H fp) elt te)
  (hN:X.N.Nodup) (hy:X.N[i]? = some y) (hx:Loc X.env.scope y) (hsw:swapsWith (.ListComp elt [⟨tg,iter,ifs,0⟩] scope pos) (some (.Name y py)) spos.line X.env=pure true)
  (hf:X.fn y=true\/X.env.scope.names.lookup y=some .local:=by first | exact .inl rfl | exact .inr rfl | assumption)
  (hs: ∀ x,foldedSetIterable iter X.env x=pure x:=by intro _;rfl):PS X (.Assign [.Name y py] (.ListComp elt [⟨tg,iter,ifs,0⟩] scope pos) spos) (zs2 (zlQ wi g tc te src) (zpc i)):=by
 intro pins s σ H D0 I h
 rw [exec_Assign_Name_used _ _ _ _ hsw]
 refine qaW (wpAny_standAt (qaW ?_))
 show wpAny _ X.A (do let _<-comprehension (.ListComp elt [⟨tg,iter,ifs,0⟩] scope pos) scope X.env _ (newList []) false (eval iter X.env) (some (assign (.Name y py) X.env))) _ _ s
 refine qaW (qaZ (wpAny_comprehension_free (use:=some (assign (.Name y py) X.env)) (Q:=fun _ s'=>SP X pins D0 .next s') rfl hs (zdW fun x hx e=>I.ok.has x.1 (B.free x hx e)) B.kind B.locs ?_)
   (fun _ s' hq=>qaX (qaX hq)) fun _ _ e=>e)
 refine thn (hi pins s σ H _ I h) fun v s1 h1=>thn h1 fun itv s2 h2=> ?_
 obtain ⟨it,fp,tn,J,H2,e,I2,T,st2,f2,hw⟩:=h2
 subst e
 refine ziR (RR:=fun acc C=>compPost (model X.prog X.w) X.A X.xe (some (assign (.Name y py) X.env)) (fun _ s'=>SP X pins D0 .next s') acc C) (Q:=fun D H'=>D0.nx (σ.set i (some (.ref D))) H') B hg ht he I2 T st2 f2 hw ?_
 intro D C H' s' m I' hn hC hCs hf' q
 show wpAny _ X.A (assign (.Name y py) X.env (.ref D)) _ _ _
 have hCL:C≠X.env.locals:=fun z=>qaN _ (qaw (z▸I2.lt) hC)
 have hCp: ∀ p∈X.pn++pins,p.1≠C:=fun p hp z=>by
  have:=qaQ (I2.pin p hp).1
  rw [z] at this
  exact qaN _ (qaw this hC)
 have hCc: ∀ x c,X.env.cells.lookup x=some c->c≠C:=fun x c e z=>by
  obtain ⟨v,hv⟩:=I2.cell x c e
  exact qaN _ (qaw (z▸hv.lt) hC)
 obtain ⟨oC,es,ep,hoC,hdC,hrest⟩:=hn
 have hCfs:C∉X.fs:=I2.nofs hC
 have Ip:Inv X (pins++[(C,oC)]) σ H' s':=I'.pins_of fun p hp=>by
  rcases qaK.mp hp with z | z
  ·exact I'.pin p (qak _ z)
  ·obtain rfl:p=(C,oC):=by simpa using z
   exact ⟨hoC,hf',hCL,hCfs,fun v z=>by have z':=hdC.symm.trans z;cases z'⟩
 refine wpAny_assign_Name (zd5 Ip hN hy hx (v:= .ref D) rfl (fun s3 I3=> ?_) hf)
 have hC3:=(I3.pin (C,oC) (by simp)).1
 refine ⟨m,⟨oC,es,ep,hC3,hdC,hrest⟩,fun h' hs'=> ?_⟩
 exact ⟨_,H',(I3.unpinned).letGo ⟨oC,es,ep,hC3,hdC,hrest⟩ hf' (qaS I2.sz hC) hCL hCp hs',q⟩
end
end L2
namespace L3
open PySem PySem.Spec PyProof.Rows L2
inductive D where
 | non | bl (b:Bool) | int (i:Int) | str (x:Str) | tup (xs:List D) | lst (xs:List D) | cel (n:Nat) | set (xs:List Int) | dct | fn (a:Addr) | scr (xs:List D) | exn (c:String)
inductive C where
 | lst (xs:List D) | dic (kvs:List (Int×D)) | dit (ks:List (List Int)) | ins (c:String) (fs:List (Str×D)) | dead
noncomputable abbrev Hh:=List C
structure Io where
 c:List (Option Addr)
 x:List Addr
def Io.Has (ι:Io) (a:Addr):Prop:=some a∈ι.c\/a∈ι.x
inductive R (α:Type) where
 | ok (a:α) (h:Hh) | exc (c:String) (h:Hh) | bad
noncomputable def M (α:Type):=Hh->R α
@[inline] noncomputable def M.bind {α β:Type} (m:M α) (f:α->M β):M β:=fun h=>match m h with
 | .ok a h'=>f a h'
 | .exc c h'=> .exc c h'
 | .bad=> .bad
@[inline] noncomputable def M.pure {α:Type} (a:α):M α:=fun h=> .ok a h
noncomputable instance:Monad M where
 pure:=M.pure
 bind:=M.bind
noncomputable def M.bad {α:Type}:M α:=fun _=> .bad
def KL (K:W.Frag) (a:Addr) (xs:List V):Prop:=SqL K (fun _=>none) a xs
mutual
noncomputable def Rel (K:W.Frag) (ι:Io) (H:Hp):D->V->Prop
 | .non,v=>v= .non
 | .bl b,v=>v= .bl b
 | .int i,v=>v= .int i
 | .str x,v=>v= .str x
 | .tup ds,v=> ∃ a vs,v= .ref a/\(H a=some (.tup vs)/\ ¬ι.Has a)/\zax K ι H ds vs
 | .lst ds,v=> ∃ a vs,v= .ref a/\(H a=some (.lst vs)/\ ¬ι.Has a)/\zax K ι H ds vs
 | .scr ds,v=> ∃ a vs,v= .ref a/\((Rd H a (.lst vs)/\ ¬ι.Has a)\/KL K a vs)/\zax K ι H ds vs
 | .cel n,v=> ∃ a,v= .ref a/\(ι.c[n]? = some (some a)\/ι.c[n]? = some none)
 | .set xs,v=> ∃ a,v= .ref a/\H a=some (.set (fun k=>xs.any (· == k)) xs.length)/\ ¬ι.Has a
 | .dct,v=> ∃ a,v= .ref a/\H a=some (.dK [])/\ ¬ι.Has a
 | .fn a,v=>v= .ref a
 | .exn c,v=> ∃ a o C head vs,v= .ref a/\(H a=some (.frz o (.own 0))/\ ¬ι.Has a)/\W.nsIn K mainGlobals (c:Str)=some (some (.ref C))/\o.cls= .ref C/\o.dict=none/\o.data= .fields vs/\vs[2]? = some .none/\vs[1]? = some head
noncomputable def zax (K:W.Frag) (ι:Io) (H:Hp):List D->List V->Prop
 | [],vs=>vs=[]
 | d::ds,vs=> ∃ v r,vs=v::r/\Rel K ι H d v/\zax K ι H ds r
end
structure zbQ (ι:Io) (H:Hp) (ι':Io) (H':Hp):Prop where
 old: ∀ (n:Nat) (o:Option Addr),ι.c[n]? = some o->ι'.c[n]? = some o\/ι'.c[n]? = some none
 new: ∀ a,some a∈ι'.c->some a∈ι.c\/H a=none
 hid:ι'.x=ι.x
 hidk: ∀ a∈ι.x,H' a=H a
 keep: ∀ b o,H b=some o-> ¬ι.Has b->H' b=some o
theorem zbQ.refl (ι:Io) (H:Hp):zbQ ι H ι H:=⟨fun _ _ h=> .inl h,fun _ h=> .inl h,rfl,fun _ _=>rfl,fun _ _ h _=>h⟩
theorem zbQ.nin {ι ι':Io} {H H':Hp} (s:zbQ ι H ι' H') {a:Addr} {o:HO} (h:H a=some o) (n: ¬ι.Has a): ¬ι'.Has a:=fun z=>by
 rcases z with z | z
 ·rcases s.new a z with z | z
  ·exact n (.inl z)
  ·rw [h] at z;cases z
 ·rw [s.hid] at z;exact n (.inr z)
theorem zbQ.trans {ι ι1 ι2:Io} {H H1 H2:Hp} (s:zbQ ι H ι1 H1) (t:zbQ ι1 H1 ι2 H2):zbQ ι H ι2 H2 where
 old:=fun n o h=>by
  rcases s.old n o h with h | h
  ·exact t.old n o h
  ·rcases t.old n _ h with h | h<;>exact .inr h
 new:=fun a h=>by
  rcases t.new a h with h | h
  ·exact s.new a h
  ·by_cases z:some a∈ι.c
   ·exact .inl z
   ·refine .inr ?_
    cases q:H a with
    | none=>rfl
    | some o=>
     by_cases z':a∈ι.x
     ·rw [s.hidk a z',q] at h;cases h
     ·rw [s.keep a o q (fun w=>w.elim z z')] at h;cases h
 hid:=t.hid.trans s.hid
 hidk:=fun a h=>(t.hidk a (by rw [s.hid];exact h)).trans (s.hidk a h)
 keep:=fun b o h n=>t.keep b o (s.keep b o h n) (s.nin h n)
structure Pass (ι:Io) (H:Hp) (ι':Io) (H':Hp):Prop where
 old: ∀ (n:Nat) (o:Option Addr),ι.c[n]? = some o->ι'.c[n]? = some o\/ι'.c[n]? = some none
 keep: ∀ b o,H b=some o-> ¬ι.Has b->H' b=some o/\ ¬ι'.Has b
theorem zbQ.pass {ι ι':Io} {H H':Hp} (s:zbQ ι H ι' H'):Pass ι H ι' H':=⟨s.old,fun b o h n=>⟨s.keep b o h n,s.nin h n⟩⟩
theorem Pass.rd {ι ι':Io} {H H':Hp} (s:Pass ι H ι' H') {a:Addr} {u:HO} (h:Rd H a u) (n: ¬ι.Has a):Rd H' a u/\ ¬ι'.Has a:=by
 rcases h with h | ⟨o,h⟩
 ·exact ⟨.inl (s.keep _ _ h n).1,(s.keep _ _ h n).2⟩
 ·exact ⟨.inr ⟨o,(s.keep _ _ h n).1⟩,(s.keep _ _ h n).2⟩
section
variable {K:W.Frag} {ι ι':Io} {H H':Hp}
mutual
theorem Rel.pass (s:Pass ι H ι' H'): ∀ {d:D} {v:V},Rel K ι H d v->Rel K ι' H' d v
 | .non,_,h=>by simpa [Rel] using h
 | .bl _,_,h=>by simpa [Rel] using h
 | .int _,_,h=>by simpa [Rel] using h
 | .str _,_,h=>by simpa [Rel] using h
 | .tup ds,v,h=>by
  simp only [Rel] at h ⊢
  obtain ⟨a,vs,e,h1,h2⟩:=h
  exact ⟨a,vs,e,s.keep _ _ h1.1 h1.2,zax.pass s h2⟩
 | .lst ds,v,h=>by
  simp only [Rel] at h ⊢
  obtain ⟨a,vs,e,h1,h2⟩:=h
  exact ⟨a,vs,e,s.keep _ _ h1.1 h1.2,zax.pass s h2⟩
 | .scr ds,v,h=>by
  simp only [Rel] at h ⊢
  obtain ⟨a,vs,e,h1,h2⟩:=h
  exact ⟨a,vs,e,h1.imp (fun z=>s.rd z.1 z.2) id,zax.pass s h2⟩
 | .cel n,v,h=>by
  simp only [Rel] at h ⊢
  obtain ⟨a,e,h⟩:=h
  refine ⟨a,e,?_⟩
  rcases h with h | h
  ·exact s.old n _ h
  ·rcases s.old n _ h with h | h<;>exact .inr h
 | .set xs,v,h=>by
  simp only [Rel] at h ⊢
  obtain ⟨a,e,h,n⟩:=h
  exact ⟨a,e,(s.keep _ _ h n).1,(s.keep _ _ h n).2⟩
 | .dct,v,h=>by
  simp only [Rel] at h ⊢
  obtain ⟨a,e,h,n⟩:=h
  exact ⟨a,e,(s.keep _ _ h n).1,(s.keep _ _ h n).2⟩
 | .fn _,_,h=>by simpa [Rel] using h
 | .exn _,_,h=>by
  simp only [Rel] at h ⊢
  obtain ⟨a,o,C,head,vs,e,h1,h2⟩:=h
  exact ⟨a,o,C,head,vs,e,s.keep _ _ h1.1 h1.2,h2⟩
theorem zax.pass (s:Pass ι H ι' H'): ∀ {ds:List D} {vs:List V},zax K ι H ds vs->zax K ι' H' ds vs
 | [],_,h=>by simpa [zax] using h
 | d::ds,_,h=>by
  simp only [zax] at h ⊢
  obtain ⟨v,r,e,h1,h2⟩:=h
  exact ⟨v,r,e,Rel.pass s h1,zax.pass s h2⟩
end
theorem Rel.step (s:zbQ ι H ι' H') {d:D} {v:V} (h:Rel K ι H d v):Rel K ι' H' d v:=h.pass s.pass
theorem zax.step (s:zbQ ι H ι' H') {ds:List D} {vs:List V} (h:zax K ι H ds vs):zax K ι' H' ds vs:=h.pass s.pass
theorem zax.nil:zax K ι H [] []:=by simp [zax]
theorem zax.cons {d:D} {ds:List D} {v:V} {vs:List V} (h:Rel K ι H d v) (t:zax K ι H ds vs):zax K ι H (d::ds) (v::vs):=by simp only [zax];exact ⟨v,vs,rfl,h,t⟩
theorem zax.length: ∀ {ds:List D} {vs:List V},zax K ι H ds vs->ds.length=vs.length
 | [],_,h=>by simp only [zax] at h;subst h;rfl
 | d::ds,_,h=>by
  simp only [zax] at h
  obtain ⟨v,r,rfl,_,h⟩:=h
  simp [zax.length h]
theorem zax.get: ∀ {ds:List D} {vs:List V} {i:Nat} {d:D},zax K ι H ds vs->ds[i]? = some d-> ∃ v,vs[i]? = some v/\Rel K ι H d v
 | [],_,_,_,_,e=>by simp at e
 | d::ds,_,i,x,h,e=>by
  simp only [zax] at h
  obtain ⟨v,r,rfl,h1,h2⟩:=h
  cases i with
  | zero=>simp at e;subst e;exact ⟨v,rfl,h1⟩
  | succ i=>simp at e;simpa using zax.get h2 e
theorem zax.getV: ∀ {ds:List D} {vs:List V} {i:Nat} {v:V},zax K ι H ds vs->vs[i]? = some v-> ∃ d,ds[i]? = some d/\Rel K ι H d v
 | [],_,_,_,h,e=>by simp only [zax] at h;subst h;simp at e
 | d::ds,_,i,x,h,e=>by
  simp only [zax] at h
  obtain ⟨v,r,rfl,h1,h2⟩:=h
  cases i with
  | zero=>simp at e;subst e;exact ⟨d,rfl,h1⟩
  | succ i=>simp at e;simpa using zax.getV h2 e
theorem zax.append: ∀ {ds es:List D} {vs ws:List V},zax K ι H ds vs->zax K ι H es ws->zax K ι H (ds++es) (vs++ws)
 | [],_,_,_,h,t=>by simp only [zax] at h;subst h;exact t
 | d::ds,es,_,ws,h,t=>by
  simp only [zax] at h
  obtain ⟨v,r,rfl,h1,h2⟩:=h
  exact zax.cons h1 (zax.append h2 t)
theorem zax.take: ∀ {ds:List D} {vs:List V} (n:Nat),zax K ι H ds vs->zax K ι H (ds.take n) (vs.take n)
 | _,_,0,_=>by simpa using zax.nil
 | [],_,n+1,h=>by simp only [zax] at h;subst h;exact zax.nil
 | d::ds,_,n+1,h=>by
  simp only [zax] at h
  obtain ⟨v,r,rfl,h1,h2⟩:=h
  exact zax.cons h1 (zax.take n h2)
theorem zax.drop: ∀ {ds:List D} {vs:List V} (n:Nat),zax K ι H ds vs->zax K ι H (ds.drop n) (vs.drop n)
 | _,_,0,h=>h
 | [],_,n+1,h=>by simp only [zax] at h;subst h;exact zax.nil
 | d::ds,_,n+1,h=>by
  simp only [zax] at h
  obtain ⟨v,r,rfl,h1,h2⟩:=h
  exact zax.drop n h2
theorem zax.reverse {ds:List D} {vs:List V} (h:zax K ι H ds vs):zax K ι H ds.reverse vs.reverse:=by
 induction ds generalizing vs with
 | nil=>simp only [zax] at h;subst h;exact zax.nil
 | cons d ds ih=>
  simp only [zax] at h
  obtain ⟨v,r,rfl,h1,h2⟩:=h
  rw [List.reverse_cons,List.reverse_cons]
  exact zax.append (ih h2) (zax.cons h1 zax.nil)
theorem zax.set {d:D} {v:V} (hd:Rel K ι H d v): ∀ {ds:List D} {vs:List V} (i:Nat),zax K ι H ds vs->zax K ι H (ds.set i d) (vs.set i v)
 | [],_,_,h=>by simp only [zax] at h;subst h;exact zax.nil
 | x::ds,_,i,h=>by
  simp only [zax] at h
  obtain ⟨w,r,rfl,h1,h2⟩:=h
  cases i with
  | zero=>exact zax.cons hd h2
  | succ i=>exact zax.cons h1 (zax.set hd i h2)
theorem zdq: ∀ {is:List Int} {vs:List V},zax K ι H (is.map D.int) vs↔vs=is.map V.int
 | [],vs=>by simp [zax]
 | i::is,vs=>by
  simp only [qaM,zax]
  constructor
  ·rintro ⟨v,r,rfl,h1,h2⟩
   simp only [Rel] at h1
   rw [h1,zdq.mp h2]
  ·rintro rfl
   exact ⟨_,_,rfl,by simp [Rel],zdq.mpr rfl⟩
noncomputable def CO (K:W.Frag) (ι:Io) (H:Hp):C->HO->Prop
 | .lst ds,o=> ∃ vs,o= .lst vs/\zax K ι H ds vs
 | .dic kvs,o=> ∃ vs,o= .dK vs/\Paired (fun (p:Int×D) (q:Key×V)=>q.1= .inl p.1/\Rel K ι H p.2 q.2) kvs vs
 | .dit ks,o=>o= .dT (ks.map fun k=>(k.map Sum.inl,V.bl true))
 | .ins c fs,o=> ∃ C dx vs,o= .ins C dx vs/\W.nsIn K mainGlobals (c:Str)=some (some (.ref C))/\Paired (fun (p:Str×D) (q:Str×V)=>q.1=p.1/\Rel K ι H p.2 q.2) fs vs
 | .dead,_=>False
theorem CO.pass {c:C} {o:HO} (s:Pass ι H ι' H') (h:CO K ι H c o):CO K ι' H' c o:=by
 cases c with
 | lst ds=>obtain ⟨vs,e,r⟩:=h;exact ⟨vs,e,r.pass s⟩
 | dic kvs=>
  obtain ⟨vs,e,r⟩:=h
  refine ⟨vs,e,?_⟩
  clear e
  induction r with
  | nil=>exact .nil
  | cons a t ih=>exact .cons ⟨a.1,a.2.pass s⟩ ih
 | dit ks=>exact h
 | ins c fs=>
  obtain ⟨C,dx,vs,e,hc,r⟩:=h
  refine ⟨C,dx,vs,e,hc,?_⟩
  clear e
  induction r with
  | nil=>exact .nil
  | cons a t ih=>exact .cons ⟨a.1,a.2.pass s⟩ ih
 | dead=>exact h
structure zbe (K:W.Frag) (ι:Io) (H:Hp) (h:Hh):Prop where
 len:h.length=ι.c.length
 inj: ∀ (m n:Nat) (a:Addr),ι.c[m]? = some (some a)->ι.c[n]? = some (some a)->m=n
 at_: ∀ (n:Nat) (a:Addr) (c:C),ι.c[n]? = some (some a)->h[n]? = some c-> ∃ o,H a=some o/\CO K ι H c o
 dead: ∀ (n:Nat),ι.c[n]? = some none->h[n]? = some .dead
 hidt: ∀ a∈ι.x,(∃ vs,H a=some (.lst vs))/\some a∉ι.c
noncomputable abbrev Sd:=List (Option D)
def zcP (K:W.Frag) (ι:Io) (H:Hp) (sd:Sd) (σ:L2.St):Prop:=sd.length=σ.length/\ ∀ (i:Nat) (d:D),sd[i]? = some (some d)-> ∃ v,σ[i]? = some (some v)/\Rel K ι H d v
theorem zcP.pass {sd:Sd} {σ:L2.St} (s:Pass ι H ι' H') (h:zcP K ι H sd σ):zcP K ι' H' sd σ:=⟨h.1,fun i d e=>let ⟨v,h1,h2⟩:=h.2 i d e;⟨v,h1,h2.pass s⟩⟩
theorem zcP.step {sd:Sd} {σ:L2.St} (s:zbQ ι H ι' H') (h:zcP K ι H sd σ):zcP K ι' H' sd σ:=⟨h.1,fun i d e=>let ⟨v,h1,h2⟩:=h.2 i d e;⟨v,h1,h2.step s⟩⟩
theorem zcP.set {sd:Sd} {σ:L2.St} {d:D} {v:V} (h:zcP K ι H sd σ) (r:Rel K ι H d v) (i:Nat):zcP K ι H (sd.set i (some d)) (σ.set i (some v)):=by
 refine ⟨by rw [qaI,qaI];exact h.1,fun j d' e=> ?_⟩
 by_cases hij:i=j
 ·subst hij
  by_cases hl:i<sd.length
  ·rw [qai hl] at e
   cases e
   exact ⟨v,by rw [qai (by rw [<- h.1];exact hl)],r⟩
  ·rw [List.getElem?_eq_none (by rw [qaI];omega)] at e
   cases e
 ·rw [qao hij] at e ⊢
  exact h.2 j d' e
end
noncomputable abbrev St:=L2.St
noncomputable abbrev XE:=String->Hp->Prop
def Fin {α:Type} (K:W.Frag) (E:XE) (ι:Io) (H:Hp) (r:R α) (P:α->Io->Hp->Prop):Prop:=match r with
 | .ok a h'=> ∀ ι' H',zbQ ι H ι' H'->zbe K ι' H' h'->P a ι' H'
 | .exc c h'=> ∀ ι' H',zbQ ι H ι' H'->zbe K ι' H' h'->E c H'
 | .bad=>False
section
variable {α β:Type} {K:W.Frag} {E:XE} {ι ι':Io} {H H':Hp}
theorem Fin.step {r:R α} {P:α->Io->Hp->Prop} (s:zbQ ι H ι' H') (h:Fin K E ι H r P):Fin K E ι' H' r P:=by
 cases r with
 | ok a h'=>exact fun ι2 H2 t hr=>h ι2 H2 (s.trans t) hr
 | exc c h'=>exact fun ι2 H2 t hr=>h ι2 H2 (s.trans t) hr
 | bad=>exact h
theorem Fin.bind {m:M α} {f:α->M β} {h:Hh} {P:β->Io->Hp->Prop} {P':α->Io->Hp->Prop} (q:Fin K E ι H ((m>>=f) h) P)
  (k: ∀ a h' ι' H',m h= .ok a h'->zbQ ι H ι' H'->zbe K ι' H' h'->Fin K E ι' H' (f a h') P->P' a ι' H'):Fin K E ι H (m h) P':=by
 have q':Fin K E ι H (M.bind m f h) P:=q
 unfold M.bind at q'
 cases e:m h with
 | ok a h'=>
  rw [e] at q'
  intro ι' H' s hr
  exact k a h' ι' H' e s hr (Fin.step s q')
 | exc c h'=>rw [e] at q';exact q'
 | bad=>rw [e] at q';exact q'
theorem Fin.out {a:α} {h:Hh} {P:α->Io->Hp->Prop} (hr:zbe K ι H h) (q:Fin K E ι H ((pure a:M α) h) P):P a ι H:=q ι H (zbQ.refl _ _) hr
end
noncomputable def zhS (K:W.Frag) (E:XE) (f:Sd->M D):TE:=fun σ H Q=> ∃ ι h sd,zcP K ι H sd σ/\zbe K ι H h/\Fin K E ι H (f sd h) fun d ι' H'=> ∀ v,Rel K ι' H' d v->Q v H'
noncomputable def zfO (K:W.Frag) (E:XE) (f:Sd->M Bool):TT:=fun σ H Q=> ∃ ι h sd,zcP K ι H sd σ/\zbe K ι H h/\Fin K E ι H (f sd h) fun b ι' H'=>Q b H'
noncomputable def ztH (K:W.Frag) (E:XE) (f:Sd->M (List D)):TA:=fun σ H Q=> ∃ ι h sd,zcP K ι H sd σ/\zbe K ι H h/\Fin K E ι H (f sd h) fun ds ι' H'=> ∀ vs,zax K ι' H' ds vs->Q vs H'
noncomputable abbrev SE (X:Cx) (E:XE) (e:Expr) (f:Sd->M D):Prop:=PE X e (zhS X.K E f)
noncomputable abbrev ST (X:Cx) (E:XE) (e:Expr) (f:Sd->M Bool):Prop:=PT X e (zfO X.K E f)
noncomputable abbrev SA (X:Cx) (E:XE) (es:List Expr) (f:Sd->M (List D)):Prop:=PA X es (ztH X.K E f)
noncomputable def zdB (K:W.Frag) (E:XE) (F:D->D->M D):R2:=fun x y H Q=> ∃ ι h d1 d2,Rel K ι H d1 x/\Rel K ι H d2 y/\zbe K ι H h/\Fin K E ι H (F d1 d2 h) fun d ι' H'=> ∀ v,Rel K ι' H' d v->Q v H'
noncomputable def zhv (K:W.Frag) (E:XE) (F:List D->M D):List V->Hp->VK->Prop:=fun xs H Q=> ∃ ι h ds,zax K ι H ds xs/\zbe K ι H h/\Fin K E ι H (F ds h) fun d ι' H'=> ∀ v,Rel K ι' H' d v->Q v H'
theorem PE.imp {X:Cx} {e:Expr} {t t':TE} (h:PE X e t) (m: ∀ σ H Q,t' σ H Q->t σ H Q):PE X e t':=fun pins s σ H Q I q=>h pins s σ H Q I (m _ _ _ q)
theorem PT.imp {X:Cx} {e:Expr} {t t':TT} (h:PT X e t) (m: ∀ σ H Q,t' σ H Q->t σ H Q):PT X e t':=fun pins s σ H Q I q=>h pins s σ H Q I (m _ _ _ q)
theorem PA.imp {X:Cx} {e:List Expr} {t t':TA} (h:PA X e t) (m: ∀ σ H Q,t' σ H Q->t σ H Q):PA X e t':=fun pos pins s σ H Q I q=>h pos pins s σ H Q I (m _ _ _ q)
theorem OpR.imp {X:Cx} {f:Value->Value->Sem Value} {r r':R2} (h:OpR X f r) (m: ∀ x y H Q,r' x y H Q->r x y H Q):OpR X f r':=fun pins s σ H x y v u Q I rx ry q=>h pins s σ H x y v u Q I rx ry (m _ _ _ _ q)
theorem zaZ.imp {X:Cx} {f:Value} {r r':List V->Hp->VK->Prop} (h:zaZ X f r) (m: ∀ xs H Q,r' xs H Q->r xs H Q):zaZ X f r':=by
 intro pins s σ H xs us Q I rx q
 exact h pins s σ H xs us Q I rx (m _ _ _ q)
theorem IxR.imp {X:Cx} {r r':R2} (h:IxR X r) (m: ∀ x y H Q,r' x y H Q->r x y H Q):IxR X r':=by
 intro value slice pins s σ H x y v u Q I rx ry q hs
 exact h value slice pins s σ H x y v u Q I rx ry (m _ _ _ _ q) hs
theorem PI.imp {X:Cx} {tg iter:Expr} {t t':TI} (h:PI X tg iter t) (m: ∀ σ H Q,t' σ H Q->t σ H Q):PI X tg iter t':=fun pins s σ H Q I q=>h pins s σ H Q I (m _ _ _ q)
theorem PG.imp {X:Cx} {tg:Expr} {t t':TG} (h:PG X tg t) (m: ∀ v σ H Q,t' v σ H Q->t v σ H Q):PG X tg t':=fun pins s σ H v u Q I r q=>h pins s σ H v u Q I r (m _ _ _ _ q)
theorem PS.imp {X:Cx} {st:Stmt} {t t':TS} (h:PS X st t) (m: ∀ D σ H,t' D σ H->t D σ H):PS X st t':=fun pins s σ H D I q=>h pins s σ H D I (m _ _ _ q)
theorem PSs.imp {X:Cx} {st:List Stmt} {t t':TS} (h:PSs X st t) (m: ∀ D σ H,t' D σ H->t D σ H):PSs X st t':=fun pins s σ H D I q=>h pins s σ H D I (m _ _ _ q)
section
variable {X:Cx} {E:XE} {a b e:Expr} {es:List Expr} {pos:Pos} {fa fb:Sd->M D}
theorem te2 {K:W.Frag} {F:D->D->M D} {r:R2} (hr: ∀ x y H Q,zdB K E F x y H Q->r x y H Q) (σ:St) (H:Hp) (Q:VK) (q:zhS K E (fun sd=>do let x<-fa sd;let y<-fb sd;F x y) σ H Q):tOp r (zhS K E fa) (zhS K E fb) σ H Q:=by
 obtain ⟨ι,h,sd,L,hh,q⟩:=q
 refine ⟨ι,h,sd,L,hh,Fin.bind q fun d1 h1 ι1 H1 e1 s1 hr1 q1 v r1=> ?_⟩
 refine ⟨ι1,h1,sd,L.step s1,hr1,Fin.bind q1 fun d2 h2 ι2 H2 e2 s2 hr2 q2 w r2=> ?_⟩
 exact hr _ _ _ _ ⟨ι2,h2,d1,d2,r1.step s2,r2,hr2,q2⟩
theorem zsG {op:Operator} {F:D->D->M D} (ho:OpR X (binaryOp op) (zdB X.K E F)) (ha:SE X E a fa) (hb:SE X E b fb):SE X E (.BinOp a op b pos) (fun sd=>do let x<-fa sd;let y<-fb sd;F x y):=
 PE.imp (zsX ho ha hb) (te2 fun _ _ _ _ q=>q)
theorem zrh {op:CmpOp} {F:D->D->M D} (ho:OpR X (compareOp op) (zdB X.K E F)) (ha:SE X E a fa) (hb:SE X E b fb) (hm:behindInMarks op b=false):SE X E (.Compare a [op] [b] pos) (fun sd=>do let x<-fa sd;let y<-fb sd;F x y):=
 PE.imp (zoj ho ha hb hm) (te2 fun _ _ _ _ q=>q)
theorem zsI {F:D->D->M D} (ho:IxR X (zdB X.K E F)) (ha:SE X E a fa) (hb:SE X E b fb) (hs:zhU b):SE X E (.Subscript a b pos) (fun sd=>do let x<-fa sd;let y<-fb sd;F x y):=
 PE.imp (zsk ho ha hb hs) (te2 fun _ _ _ _ q=>q)
noncomputable def zdA:D->M Bool
 | .bl b=>pure b
 | _=>M.bad
theorem zgx {K:W.Frag} {f:Sd->M D} (σ:St) (H:Hp) (Q:Bool->Hp->Prop) (q:zfO K E (fun sd=>do let x<-f sd;zdA x) σ H Q):(zhS K E f) σ H fun x H1=> ∃ c,x= .bl c/\Q c H1:=by
 obtain ⟨ι,h,sd,L,hh,q⟩:=q
 refine ⟨ι,h,sd,L,hh,Fin.bind q fun d1 h1 ι1 H1 e1 s1 hr1 q2 v r1=> ?_⟩
 cases d1 with
 | bl b=>simp only [Rel] at r1;exact ⟨b,r1,Fin.out hr1 q2⟩
 | _=>exact qa0 q2
theorem zru {op:CmpOp} {F:D->D->M D} (ho:OpR X (compareOp op) (zdB X.K E F)) (ha:SE X E a fa) (hb:SE X E b fb) (hm:behindInMarks op b=false):
  ST X E (.Compare a [op] [b] pos) (fun sd=>do let z<-(do let x<-fa sd;let y<-fb sd;F x y);zdA z):=by
 refine PT.imp (zoL ho ha hb hm) fun σ H Q q=> ?_
 have q1:=zgx (f:=fun sd=>do let x<-fa sd;let y<-fb sd;F x y) σ H Q q
 exact te2 (fun _ _ _ _ q=>q) σ H _ q1
theorem zrW {f:Sd->M D} (h:SE X E e f) (he: ∀ whole,isTrue e X.env whole=(do let v<-whole;standAt e.pos;holding [v] (truthy v)):=by intro _;rfl):ST X E e (fun sd=>do let x<-f sd;zdA x):=
 PT.imp (zrO h he) fun σ H Q q=>zgx σ H Q q
theorem zqa {t:Sd->M Bool} (ha:ST X E a t):ST X E (.UnaryOp .Not a pos) (fun sd=>do let c<-t sd;pure (!c)):=by
 refine PT.imp (zp4 ha) fun σ H Q ⟨ι,h,sd,L,hh,q⟩=>⟨ι,h,sd,L,hh,Fin.bind q fun c h1 ι1 H1 e1 s1 hr1 q1=> ?_⟩
 exact Fin.out hr1 q1
theorem zoi {t:Sd->M Bool} (ha:ST X E a t):PW X (.BoolOp .And [a] pos) (zfO X.K E t):=pw_and1 ha
theorem zqT {t:Sd->M Bool} (ha:ST X E a t):PW X (.BoolOp .Or [a] pos) (zfO X.K E t):=pw_or1 ha
theorem PW.imp {t t':TT} (h:PW X e t) (m: ∀ σ H Q,t' σ H Q->t σ H Q):PW X e t':=fun whole pins s σ H Q I q=>h whole pins s σ H Q I (m _ _ _ q)
theorem zq8 {rest:List Expr} {t u:Sd->M Bool} (ha:ST X E a t) (hb:PW X (.BoolOp .And (b::rest) pos) (zfO X.K E u)):PW X (.BoolOp .And (a::b::rest) pos) (zfO X.K E fun sd=>do let c<-t sd;if c=true then u sd else pure false):=by
 refine PW.imp (pw_and ha hb) fun σ H Q ⟨ι,h,sd,L,hh,q⟩=>⟨ι,h,sd,L,hh,Fin.bind q fun c h1 ι1 H1 e1 s1 hr1 q1=> ?_⟩
 cases c with
 | true=>exact zoy ⟨ι1,h1,sd,L.step s1,hr1,q1⟩
 | false=>exact zn6 (Fin.out hr1 q1)
theorem ztk {rest:List Expr} {t u:Sd->M Bool} (ha:ST X E a t) (hb:PW X (.BoolOp .Or (b::rest) pos) (zfO X.K E u)):PW X (.BoolOp .Or (a::b::rest) pos) (zfO X.K E fun sd=>do let c<-t sd;if c=true then pure true else u sd):=by
 refine PW.imp (pw_or ha hb) fun σ H Q ⟨ι,h,sd,L,hh,q⟩=>⟨ι,h,sd,L,hh,Fin.bind q fun c h1 ι1 H1 e1 s1 hr1 q1=> ?_⟩
 cases c with
 | false=>exact zn6 ⟨ι1,h1,sd,L.step s1,hr1,q1⟩
 | true=>exact zoy (Fin.out hr1 q1)
theorem zom {op:BoolOp} {vs:List Expr} {t:Sd->M Bool} (h:PW X (.BoolOp op vs pos) (zfO X.K E t)):ST X E (.BoolOp op vs pos) t:=h.pt
theorem zq3 {op:BoolOp} (h:SE X E a fa):SE X E (.BoolOp op [a] pos) fa:=zra h
theorem zqQ {rest:List Expr} (ha:SE X E a fa) (hb:SE X E (.BoolOp .And (b::rest) pos) fb):SE X E (.BoolOp .And (a::b::rest) pos) (fun sd=>do let c<-(do let x<-fa sd;zdA x);if c=true then fb sd else pure (.bl false)):=by
 refine PE.imp (zpu ha hb) fun σ H Q ⟨ι,h,sd,L,hh,q⟩=> ?_
 have q1:=zgx (K:=X.K) (E:=E) (f:=fa) σ H (fun c H1=>if c=true then zhS X.K E fb σ H1 Q else Q (.bl false) H1) ⟨ι,h,sd,L,hh,Fin.bind q fun c h1 ι1 H1 e1 s1 hr1 q1=> ?_⟩
 ·exact q1
 ·cases c with
  | true=>exact zoy ⟨ι1,h1,sd,L.step s1,hr1,q1⟩
  | false=>exact zn6 (Fin.out hr1 q1 _ (by simp [Rel]))
theorem zrE (ha:SE X E a fa):SE X E (.UnaryOp .Not a pos) (fun sd=>do let c<-(do let x<-fa sd;zdA x);pure (.bl (!c))):=by
 refine PE.imp (zrq ha) fun σ H Q ⟨ι,h,sd,L,hh,q⟩=> ?_
 have q1:=zgx (K:=X.K) (E:=E) (f:=fa) σ H (fun c H1=>Q (.bl (!c)) H1) ⟨ι,h,sd,L,hh,Fin.bind q fun c h1 ι1 H1 e1 s1 hr1 q1=> ?_⟩
 ·exact q1
 ·exact Fin.out hr1 q1 _ (by simp [Rel])
theorem zmh {c:Expr} {t:Sd->M Bool} (hc:ST X E c t) (ha:SE X E a fa) (hb:SE X E b fb):SE X E (.IfExp c a b pos) (fun sd=>do let c<-t sd;if c=true then fa sd else fb sd):=by
 refine PE.imp (zlH hc ha hb) fun σ H Q ⟨ι,h,sd,L,hh,q⟩=>⟨ι,h,sd,L,hh,Fin.bind q fun c h1 ι1 H1 e1 s1 hr1 q1=> ?_⟩
 cases c with
 | true=>exact zoy ⟨ι1,h1,sd,L.step s1,hr1,q1⟩
 | false=>exact zn6 ⟨ι1,h1,sd,L.step s1,hr1,q1⟩
noncomputable def zae (i:Nat):Sd->M D:=fun sd=>match sd[i]? with
 | some (some d)=>pure d
 | _=>M.bad
theorem zqO (i:Nat) {x:Str} (hN:X.N[i]? = some x) (hv:Vis X.env.scope x) (hd:(x==("__debug__":Str))=false:=by decide) (hcd:(x==("__classdict__":Str))=false:=by decide):SE X E (.Name x pos) (zae i):=by
 refine PE.imp (zm1 hN hv hd hcd) fun σ H Q ⟨ι,h,sd,L,hh,q⟩=> ?_
 unfold zae at q
 cases e:sd[i]? with
 | none=>rw [e] at q;exact qa0 q
 | some o=>
  rw [e] at q
  cases o with
  | none=>exact qa0 q
  | some d=>
   obtain ⟨v,e1,r⟩:=L.2 i d e
   exact ⟨v,e1,Fin.out hh q v r⟩
theorem zeP {K:W.Frag} {d:D} {v:V} (r: ∀ ι H,Rel K ι H d v) (σ:St) (H:Hp) (Q:VK) (q:zhS K E (fun _=>pure d) σ H Q):tC v σ H Q:=by
 obtain ⟨ι,h,sd,L,hh,q⟩:=q
 exact Fin.out hh q v (r _ _)
theorem zq7 {i:Int} {j:Nat}:SE X E (.Constant (.int i) j pos) (fun _=>pure (.int i)):=PE.imp zm4 (zeP fun _ _=>by simp [Rel])
theorem zts {i:Bool} {j:Nat}:SE X E (.Constant (.bool i) j pos) (fun _=>pure (.bl i)):=PE.imp zrk (zeP fun _ _=>by simp [Rel])
theorem zrP {j:Nat}:SE X E (.Constant .none j pos) (fun _=>pure .non):=PE.imp zp9 (zeP fun _ _=>by simp [Rel])
theorem zqR {i:Str} {j:Nat}:SE X E (.Constant (.str i) j pos) (fun _=>pure (.str i)):=PE.imp zmO (zeP fun _ _=>by simp [Rel])
theorem zqC:SA X E [] (fun _=>pure []):=PA.imp zeG fun σ H Q ⟨ι,h,sd,L,hh,q⟩=>Fin.out hh q [] zax.nil
theorem zny {fs:Sd->M (List D)} (ha:SE X E e fa) (hr:SA X E es fs) (hs:starEach (e::es) X.env=(false,eval e X.env)::starEach es X.env:=by rfl):SA X E (e::es) (fun sd=>do let x<-fa sd;let r<-fs sd;pure (x::r)):=by
 refine PA.imp (zcj ha hr hs) fun σ H Q ⟨ι,h,sd,L,hh,q⟩=>⟨ι,h,sd,L,hh,Fin.bind q fun d h1 ι1 H1 e1 s1 hr1 q1 v rv=> ?_⟩
 refine ⟨ι1,h1,sd,L.step s1,hr1,Fin.bind q1 fun ds h2 ι2 H2 e2 s2 hr2 q2 vs rvs=> ?_⟩
 exact Fin.out hr2 q2 _ (zax.cons (rv.step s2) rvs)
end
theorem zbe.nin {K:W.Frag} {ι:Io} {H:Hp} {h:Hh} (hr:zbe K ι H h) {p:Addr} (hp:H p=none): ¬ι.Has p:=fun z=>by
 rcases z with z | z
 ·obtain ⟨n,hn⟩:=List.mem_iff_getElem?.mp z
  have hl:n<h.length:=by rw [hr.len];exact (qac.mp hn).1
  obtain ⟨o,e,_⟩:=hr.at_ n p h[n] hn (by simp [hl])
  rw [hp] at e
  cases e
 ·obtain ⟨⟨o,e⟩,_⟩:=hr.hidt p z
  rw [hp] at e
  cases e
theorem zbe.laidS {K:W.Frag} {ι:Io} {H:Hp} {h:Hh} (hr:zbe K ι H h) {p:Addr} {o:HO} (hp:H p=none):zbQ ι H ι (upd H p o):=
 ⟨fun _ _ h=> .inl h,fun _ h=> .inl h,rfl,fun a ha=>zaE fun z=>hr.nin hp (.inr (z▸ha)),fun b o' h _=>by rw [zaE (zaY h hp)];exact h⟩
theorem zbe.laid {K:W.Frag} {ι:Io} {H:Hp} {h:Hh} {p:Addr} {o:HO} (hr:zbe K ι H h) (hp:H p=none):zbe K ι (upd H p o) h:=
 ⟨hr.len,hr.inj,fun n a c hn hc=>by
   obtain ⟨o',e2,e3⟩:=hr.at_ n a c hn hc
   exact ⟨o',by rw [zaE (zaY e2 hp)];exact e2,e3.pass (hr.laidS hp).pass⟩,hr.dead,fun a ha=>⟨by rw [zaE (show a≠p from fun z=>hr.nin hp (.inr (z▸ha)))];exact (hr.hidt a ha).1,(hr.hidt a ha).2⟩⟩
noncomputable def fits (n:Nat):M Unit:=if n<=sizeLine then pure () else M.bad
theorem Fin.fits {α:Type} {K:W.Frag} {E:XE} {ι:Io} {H:Hp} {n:Nat} {f:M α} {h:Hh} {P:α->Io->Hp->Prop} (q:Fin K E ι H ((do L3.fits n;f) h) P):n<=sizeLine/\Fin K E ι H (f h) P:=by
 have q':Fin K E ι H (M.bind (L3.fits n) (fun _=>f) h) P:=q
 unfold M.bind L3.fits at q'
 by_cases hn:n<=sizeLine
 ·rw [qa4 hn] at q'
  exact ⟨hn,q'⟩
 ·rw [qa5 hn] at q'
  exact qa0 q'
section
variable {X:Cx} {E:XE} {es:List Expr} {pos:Pos} {fs:Sd->M (List D)}
theorem zpj {K:W.Frag} {ι:Io} {H:Hp} {h:Hh} {ds:List D} {vs:List V} {Q:VK} (hr:zbe K ι H h) (rl:zax K ι H ds vs) (q:Fin K E ι H ((pure (.tup ds):M D) h) fun d ι' H'=> ∀ v,Rel K ι' H' d v->Q v H') {p:Addr} (hp:H p=none):Q (.ref p) (upd H p (.tup vs)):=
 q ι _ (hr.laidS hp) (hr.laid hp) _ (by
   simp only [Rel]
   exact ⟨p,vs,rfl,⟨za2,hr.nin hp⟩,rl.step (hr.laidS hp)⟩)
theorem zpi {K:W.Frag} {ι:Io} {H:Hp} {h:Hh} {ds:List D} {vs:List V} {Q:VK} (hr:zbe K ι H h) (rl:zax K ι H ds vs) (q:Fin K E ι H ((pure (.lst ds):M D) h) fun d ι' H'=> ∀ v,Rel K ι' H' d v->Q v H') {p:Addr} (hp:H p=none):Q (.ref p) (upd H p (.lst vs)):=
 q ι _ (hr.laidS hp) (hr.laid hp) _ (by
   simp only [Rel]
   exact ⟨p,vs,rfl,⟨za2,hr.nin hp⟩,rl.step (hr.laidS hp)⟩)
noncomputable def zbG (ds:List D):M D:=fun h=> .ok (.cel h.length) (h++[.lst ds])
theorem zsc {K:W.Frag} {ι:Io} {H:Hp} {h:Hh} {c0:C} {o0:HO} {Q:VK} (hr:zbe K ι H h) (co:CO K ι H c0 o0) (q:Fin K E ι H (.ok (.cel h.length) (h++[c0])) fun d ι' H'=> ∀ v,Rel K ι' H' d v->Q v H') {p:Addr} (hp:H p=none):Q (.ref p) (upd H p o0):=by
 have hlen:=hr.len
 have nh:=hr.nin hp
 have st:zbQ ι H ⟨ι.c++[some p],ι.x⟩ (upd H p o0):=by
  refine ⟨fun n o h=> .inl ?_,fun a h=> ?_,rfl,fun a ha=>zaE fun z=>nh (.inr (z▸ha)),fun b o' h _=>by rw [zaE (zaY h hp)];exact h⟩
  ·show (ι.c++[some p])[n]? = _
   rw [qad (qac.mp h).1];exact h
  ·rcases qaK.mp h with h | h
   ·exact .inl h
   ·simp at h;subst h;exact .inr hp
 have at_: ∀ (n:Nat) (a:Addr),(ι.c++[some p])[n]? = some (some a)->(ι.c[n]? = some (some a))\/(n=ι.c.length/\a=p):=fun n a h=>by
  by_cases hl:n<ι.c.length
  ·rw [qad hl] at h;exact .inl h
  ·rw [qaa (by omega)] at h
   have:n - ι.c.length=0:=by
    cases z:n - ι.c.length with
    | zero=>rfl
    | succ k=>rw [z] at h;simp at h
   rw [this] at h
   simp at h
   exact .inr ⟨by omega,h.symm⟩
 refine q _ _ st ⟨?_,fun m n a h1 h2=> ?_,fun n a c h1 h2=> ?_,fun n h1=> ?_,fun a ha=>⟨?_,fun z=> ?_⟩⟩ _ ?_
 ·show (h++[c0]).length=(ι.c++[some p]).length
  rw [qav,qav,hlen];rfl
 ·rcases at_ m a h1 with z1 | ⟨z1,z1'⟩<;>rcases at_ n a h2 with z2 | ⟨z2,z2'⟩
  ·exact hr.inj m n a z1 z2
  ·subst z2';exact absurd (.inl (List.mem_of_getElem? z1)) nh
  ·subst z1';exact absurd (.inl (List.mem_of_getElem? z2)) nh
  ·rw [z1,z2]
 ·rcases at_ n a h1 with z1 | ⟨z1,z1'⟩
  ·rw [qad (by rw [hlen];exact (qac.mp z1).1)] at h2
   obtain ⟨o',e2,e3⟩:=hr.at_ n a c z1 h2
   exact ⟨o',by rw [zaE (zaY e2 hp)];exact e2,e3.pass st.pass⟩
  ·subst z1 z1'
   rw [<- hlen,qaa (qaV _)] at h2
   simp at h2
   subst h2
   exact ⟨o0,za2,co.pass st.pass⟩
 ·have h1:(ι.c++[some p])[n]? = some none:=h1
  by_cases hl:n<ι.c.length
  ·rw [qad hl] at h1
   rw [qad (by rw [hlen];exact hl)]
   exact hr.dead n h1
  ·rw [qaa (by omega)] at h1
   cases z:n - ι.c.length with
   | zero=>rw [z] at h1;simp at h1
   | succ k=>rw [z] at h1;simp at h1
 ·rw [zaE (show a≠p from fun z=>nh (.inr (z▸ha)))]
  exact (hr.hidt a ha).1
 ·rcases qaK.mp z with z | z
  ·exact (hr.hidt a ha).2 z
  ·simp at z;subst z;exact nh (.inr ha)
 ·simp only [Rel]
  refine ⟨p,rfl,.inl ?_⟩
  show (ι.c++[some p])[h.length]? = _
  rw [hlen,qaa (qaV _)]
  simp
theorem zt7 {K:W.Frag} {ι:Io} {H:Hp} {h:Hh} {ds:List D} {vs:List V} {Q:VK} (hr:zbe K ι H h) (rl:zax K ι H ds vs) (q:Fin K E ι H (zbG ds h) fun d ι' H'=> ∀ v,Rel K ι' H' d v->Q v H') {p:Addr} (hp:H p=none):Q (.ref p) (upd H p (.lst vs)):=
 zsc hr (c0:= .lst ds) ⟨vs,rfl,rl⟩ q hp
theorem zp1 {x1} (h:SA X E es fs):SE X E (.Tuple es x1 pos) (fun sd=>do let ds<-fs sd;fits ds.length;pure (.tup ds)):=by
 refine PE.imp (zpQ h) fun σ H Q ⟨ι,h,sd,L,hh,q⟩=>⟨ι,h,sd,L,hh,Fin.bind q fun ds h1 ι1 H1 e1 s1 hr1 q1 vs rvs=> ?_⟩
 obtain ⟨z,q2⟩:=Fin.fits q1
 exact ⟨by rw [<- rvs.length];exact z,fun p hp=>zpj hr1 rvs q2 hp⟩
theorem zp6 (h:SA X E es fs):SE X E (.List es pos) (fun sd=>do let ds<-fs sd;fits ds.length;pure (.lst ds)):=by
 refine PE.imp (znb h) fun σ H Q ⟨ι,h,sd,L,hh,q⟩=>⟨ι,h,sd,L,hh,Fin.bind q fun ds h1 ι1 H1 e1 s1 hr1 q1 vs rvs=> ?_⟩
 obtain ⟨z,q2⟩:=Fin.fits q1
 exact ⟨by rw [<- rvs.length];exact z,fun p hp=>zpi hr1 rvs q2 hp⟩
theorem zos (h:SA X E es fs):SE X E (.List es pos) (fun sd=>do let ds<-fs sd;fits ds.length;zbG ds):=by
 refine PE.imp (znb h) fun σ H Q ⟨ι,h,sd,L,hh,q⟩=>⟨ι,h,sd,L,hh,Fin.bind q fun ds h1 ι1 H1 e1 s1 hr1 q1 vs rvs=> ?_⟩
 obtain ⟨z,q2⟩:=Fin.fits q1
 exact ⟨by rw [<- rvs.length];exact z,fun p hp=>zt7 hr1 rvs q2 hp⟩
end
inductive Out where
 | nx (sd:Sd) | rt (d:D) | bk (sd:Sd) | ct (sd:Sd)
noncomputable def zgC (K:W.Frag) (D0:zmU):Out->Io->Hp->Prop
 | .nx sd',ι',H'=> ∀ σ',zcP K ι' H' sd' σ'->D0.nx σ' H'
 | .rt d,ι',H'=> ∀ v,Rel K ι' H' d v->D0.rt v H'
 | .bk sd',ι',H'=> ∀ σ',zcP K ι' H' sd' σ'->D0.bk σ' H'
 | .ct sd',ι',H'=> ∀ σ',zcP K ι' H' sd' σ'->D0.ct σ' H'
noncomputable def ztI (K:W.Frag) (E:XE) (G:Sd->M Out):TS:=fun D0 σ H=> ∃ ι h sd,zcP K ι H sd σ/\zbe K ι H h/\Fin K E ι H (G sd h) (zgC K D0)
noncomputable abbrev SS (X:Cx) (E:XE) (st:Stmt) (G:Sd->M Out):Prop:=PS X st (ztI X.K E G)
noncomputable abbrev SSs (X:Cx) (E:XE) (st:List Stmt) (G:Sd->M Out):Prop:=PSs X st (ztI X.K E G)
noncomputable def andThen (o:Out) (g:Sd->M Out):M Out:=match o with
 | .nx sd=>g sd
 | o=>pure o
section
variable {X:Cx} {E:XE} {pos:Pos}
theorem zrj:SSs X E [] (fun sd=>pure (.nx sd)):=PSs.imp zo2 fun D0 σ H ⟨ι,h,sd,L,hh,q⟩=>Fin.out hh q σ L
theorem znL {st:Stmt} {rest:List Stmt} {g g':Sd->M Out} (h1:SS X E st g) (h2:SSs X E rest g'):SSs X E (st::rest) (fun sd=>do let o<-g sd;andThen o g'):=by
 refine PSs.imp (zmq h1 h2) fun D0 σ H ⟨ι,h,sd,L,hh,q⟩=>⟨ι,h,sd,L,hh,Fin.bind q fun o h1 ι1 H1 e1 s1 hr1 q1=> ?_⟩
 cases o with
 | nx sd'=>exact fun σ' L'=>⟨ι1,h1,sd',L',hr1,q1⟩
 | rt d=>exact Fin.out (E:=E) (P:=zgC X.K D0) hr1 q1
 | bk sd'=>exact Fin.out (E:=E) (P:=zgC X.K D0) hr1 q1
 | ct sd'=>exact Fin.out (E:=E) (P:=zgC X.K D0) hr1 q1
theorem zpw {st:Stmt} {g:Sd->M Out} (h1:SS X E st g):SSs X E [st] g:=zn4 h1
theorem zq5 {e:Expr} {f:Sd->M D} (he:SE X E e f) (hs:swapsWith e none pos.line X.env=pure false:=by rfl):SS X E (.Expr e pos) (fun sd=>do let _<-f sd;pure (.nx sd)):=by
 refine PS.imp (zoJ he hs) fun D0 σ H ⟨ι,h,sd,L,hh,q⟩=>⟨ι,h,sd,L,hh,Fin.bind q fun d h1 ι1 H1 e1 s1 hr1 q1 v rv=> ?_⟩
 exact Fin.out hr1 q1 σ (L.step s1)
theorem ztj {e:Expr} {f:Sd->M D} (he:SE X E e f):SS X E (.Return (some e) pos) (fun sd=>do let d<-f sd;pure (.rt d)):=by
 refine PS.imp (zrg he) fun D0 σ H ⟨ι,h,sd,L,hh,q⟩=>⟨ι,h,sd,L,hh,Fin.bind q fun d h1 ι1 H1 e1 s1 hr1 q1 v rv=> ?_⟩
 exact Fin.out hr1 q1 v rv
theorem ztJ {c:Expr} {a b:List Stmt} {t:Sd->M Bool} {g g':Sd->M Out} (hc:ST X E c t) (ha:SSs X E a g) (hb:SSs X E b g'):SS X E (.If c a b pos) (fun sd=>do let c<-t sd;if c=true then g sd else g' sd):=by
 refine PS.imp (zta hc ha hb) fun D0 σ H ⟨ι,h,sd,L,hh,q⟩=>⟨ι,h,sd,L,hh,Fin.bind q fun c h1 ι1 H1 e1 s1 hr1 q1=> ?_⟩
 cases c with
 | true=>exact zoy ⟨ι1,h1,sd,L.step s1,hr1,q1⟩
 | false=>exact zn6 ⟨ι1,h1,sd,L.step s1,hr1,q1⟩
noncomputable def zql (K:W.Frag) (E:XE) (g:D->Sd->M Sd):TG:=fun v σ H Q=> ∃ ι h sd d,zcP K ι H sd σ/\zbe K ι H h/\Rel K ι H d v/\Fin K E ι H (g d sd h) fun sd' ι' H'=> ∀ σ',zcP K ι' H' sd' σ'->Q σ' H'
noncomputable def zto (K:W.Frag) (E:XE) (g:List D->Sd->M Sd):TGs:=fun vs σ H Q=> ∃ ι h sd ds,zcP K ι H sd σ/\zbe K ι H h/\zax K ι H ds vs/\Fin K E ι H (g ds sd h) fun sd' ι' H'=> ∀ σ',zcP K ι' H' sd' σ'->Q σ' H'
noncomputable abbrev SG (X:Cx) (E:XE) (tg:Expr) (g:D->Sd->M Sd):Prop:=PG X tg (zql X.K E g)
noncomputable abbrev SGs (X:Cx) (E:XE) (tgs:List Expr) (g:List D->Sd->M Sd):Prop:=PGs X tgs (zto X.K E g)
noncomputable def zaM (i:Nat):D->Sd->M Sd:=fun d sd=>pure (sd.set i (some d))
theorem zoU (i:Nat) {x:Str} (hN:X.N.Nodup) (hi:X.N[i]? = some x) (hx:Loc X.env.scope x) (hf:X.fn x=true\/X.env.scope.names.lookup x=some .local):SG X E (.Name x pos) (zaM i):=by
 refine PG.imp (zoY hN hi hx hf) fun v σ H Q ⟨ι,h,sd,d,L,hh,r,q⟩=> ?_
 exact Fin.out hh q _ (L.set r i)
theorem PGs.imp {tgs:List Expr} {t t':TGs} (h:PGs X tgs t) (m: ∀ v σ H Q,t' v σ H Q->t v σ H Q):PGs X tgs t':=fun pins s σ H v u Q I r q=>h pins s σ H v u Q I r (m _ _ _ _ q)
noncomputable def zc7:List D->Sd->M Sd:=fun ds sd=>match ds with | []=>pure sd | _=>M.bad
noncomputable def zaR (g:D->Sd->M Sd) (gs:List D->Sd->M Sd):List D->Sd->M Sd:=fun ds sd=>match ds with
 | []=>M.bad
 | d::r=>do let sd1<-g d sd;gs r sd1
theorem znD:SGs X E [] zc7:=by
 refine PGs.imp zop fun v σ H Q ⟨ι,h,sd,ds,L,hh,r,q⟩=> ?_
 cases ds with
 | nil=>simp only [zax] at r;exact ⟨r,Fin.out hh q _ L⟩
 | cons d r=>exact qa0 q
theorem zmm {e:Expr} {es:List Expr} {g:D->Sd->M Sd} {gs:List D->Sd->M Sd} (h1:SG X E e g) (h2:SGs X E es gs)
  (hs:(assignEach (e::es) X.env).map (·.2)=assign e X.env::(assignEach es X.env).map (·.2):=by rfl):SGs X E (e::es) (zaR g gs):=by
 refine PGs.imp (zmD h1 h2 hs) fun v σ H Q ⟨ι,h,sd,ds,L,hh,r,q⟩=> ?_
 cases ds with
 | nil=>exact qa0 q
 | cons d ds=>
  simp only [zax] at r
  obtain ⟨v1,vr,rfl,r1,r2⟩:=r
  refine ⟨v1,vr,rfl,ι,h,sd,d,L,hh,r1,Fin.bind q fun sd1 h1 ι1 H1 e1 s1 hr1 q1 σ1 L1=> ?_⟩
  exact ⟨ι1,h1,sd1,ds,L1,hr1,r2.step s1,q1⟩
noncomputable def zcX (n:Nat) (gs:List D->Sd->M Sd):D->Sd->M Sd:=fun d sd=>match d with
 | .tup ds=>if ds.length=n then gs ds sd else M.bad
 | _=>M.bad
theorem zdd {K:W.Frag} {ι:Io} {H:Hp} {ds:List D} {v:V} (h:Rel K ι H (.tup ds) v): ∃ a vs,v= .ref a/\SqT K H a vs/\zax K ι H ds vs:=by
 simp only [Rel] at h
 obtain ⟨a,vs,e,h1,h2⟩:=h
 exact ⟨a,vs,e,.inl (.inl h1.1),h2⟩
theorem zlc {K:W.Frag} {ι:Io} {H:Hp} {ds:List D} {v:V} (h:Rel K ι H (.scr ds) v): ∃ a vs,v= .ref a/\SqL K H a vs/\zax K ι H ds vs:=by
 simp only [Rel] at h
 obtain ⟨a,vs,e,h1,h2⟩:=h
 refine ⟨a,vs,e,?_,h2⟩
 rcases h1 with h1 | h1
 ·exact .inl h1.1
 ·rcases h1 with h1 | h1
  ·rcases h1 with h1 | ⟨o,h1⟩<;>cases h1
  ·exact .inr h1
theorem zdk {K:W.Frag} {ι:Io} {H:Hp} {ds:List D} {v:V} (h:Rel K ι H (.lst ds) v): ∃ a vs,v= .ref a/\SqL K H a vs/\zax K ι H ds vs:=by
 simp only [Rel] at h
 obtain ⟨a,vs,e,h1,h2⟩:=h
 exact ⟨a,vs,e,.inl (.inl h1.1),h2⟩
theorem zpI {es:List Expr} {k:Nat} {gs:List D->Sd->M Sd} {n:Nat} (hc:X.calm=true) (h:SGs X E es gs)
  (hn:(assignEach es X.env).length=n:=by rfl) (hst:(assignEach es X.env).findIdx? (·.1)=none:=by rfl):SG X E (.Tuple es k pos) (zcX n gs):=by
 refine PG.imp (zrQ hc h hn hst) fun v σ H Q ⟨ι,h,sd,d,L,hh,r,q⟩=> ?_
 cases d with
 | tup ds=>
  obtain ⟨a,vs,e,h1,h2⟩:=zdd r
  have q:Fin X.K E ι H ((if ds.length=n then gs ds sd else M.bad) h) _:=q
  by_cases hl:ds.length=n
  ·rw [qa4 hl] at q
   exact ⟨a,vs,e,h1,by rw [<- h2.length];exact hl,ι,h,sd,ds,L,hh,h2,q⟩
  ·rw [qa5 hl] at q
   exact qa0 q
 | _=>exact qa0 q
theorem zsN {tg e:Expr} {f:Sd->M D} {g:D->Sd->M Sd} (he:SE X E e f) (hg:SG X E tg g) (hs:swapsWithSole [tg] e pos.line X.env=pure false:=by rfl) (hw:swappedStores [tg] e X.env=pure none:=by rfl)
  (h1:(assignEach [tg] X.env).map (·.2)=[assign tg X.env]:=by rfl):SS X E (.Assign [tg] e pos) (fun sd=>do let d<-f sd;let sd'<-g d sd;pure (.nx sd')):=by
 refine PS.imp (zrf he hg hs hw h1) fun D0 σ H ⟨ι,h,sd,L,hh,q⟩=>⟨ι,h,sd,L,hh,Fin.bind q fun d h1 ι1 H1 e1 s1 hr1 q1 v rv=> ?_⟩
 exact ⟨ι1,h1,sd,d,L.step s1,hr1,rv,Fin.bind q1 fun sd' h2 ι2 H2 e2 s2 hr2 q2=>Fin.out hr2 q2⟩
theorem zs6 (i:Nat) {x:Str} {e:Expr} {f:Sd->M D} {pos':Pos} (hN:X.N.Nodup) (hi:X.N[i]? = some x) (hx:Loc X.env.scope x) (hf:X.fn x=true\/X.env.scope.names.lookup x=some .local) (he:SE X E e f) (hs:swapsWith e (some (.Name x pos')) pos.line X.env=pure false:=by rfl):
  SS X E (.Assign [.Name x pos'] e pos) (fun sd=>do let d<-f sd;pure (.nx (sd.set i (some d)))):=by
 refine PS.imp (zpR hN hi hx he hs hf) fun D0 σ H ⟨ι,h,sd,L,hh,q⟩=>⟨ι,h,sd,L,hh,Fin.bind q fun d h1 ι1 H1 e1 s1 hr1 q1 v rv=> ?_⟩
 exact Fin.out hr1 q1 _ ((L.step s1).set rv i)
theorem zsV {i j:Nat} {x y:Str} {a b:Expr} {fs:Sd->M (List D)} {px py pt:Pos} {kt k2 pt2} (hp:PS X (.Assign [.Tuple [.Name x px,.Name y py] kt pt] (.Tuple [a,b] k2 pt2) pos) (ztx i j (ztH X.K E fs))):
  SS X E (.Assign [.Tuple [.Name x px,.Name y py] kt pt] (.Tuple [a,b] k2 pt2) pos) (fun sd=>do let ds<-fs sd;match ds with | [d,d']=>pure (.nx ((sd.set i (some d)).set j (some d'))) | _=>M.bad):=by
 refine PS.imp hp fun D0 σ H ⟨ι,h,sd,L,hh,q⟩=>⟨ι,h,sd,L,hh,Fin.bind q fun ds h1 ι1 H1 e1 s1 hr1 q1 vs rv=> ?_⟩
 match ds,rv,q1 with
 | [d,d'],rv,q1=>
  simp only [zax] at rv
  obtain ⟨v,r,rfl,r1,v',r',rfl,r2,rfl⟩:=rv
  exact ⟨v,v',rfl,Fin.out hr1 q1 _ (((L.step s1).set r1 i).set r2 j)⟩
 | [],_,q1=>exact qa0 q1
 | [_],_,q1=>exact qa0 q1
 | _::_::_::_,_,q1=>exact qa0 q1
def zs8 (H H2:Hp):Prop:=H2=H\/ ∃ q vs,H q=none/\H2=upd H q (.tup vs)
theorem zs8.step {K:W.Frag} {ι:Io} {H H2:Hp} {h:Hh} (g:zs8 H H2) (hr:zbe K ι H h):zbQ ι H ι H2/\zbe K ι H2 h:=by
 rcases g with e | ⟨q,vs,hq,e⟩
 ·subst e;exact ⟨zbQ.refl _ _,hr⟩
 ·subst e;exact ⟨hr.laidS hq,hr.laid hq⟩
structure zpm (K:W.Frag) (ι:Io) (H:Hp) (J:It) (ds:List D):Prop where
 go: ∀ ι' H' (i:Nat),Pass ι H ι' H'->i<ds.length->J.go i H'
 yld: ∀ ι' H' h (i:Nat) x H2,Pass ι H ι' H'->zbe K ι' H' h->i<ds.length->J.yld i H' x H2->zs8 H' H2/\ ∃ d,ds[i]? = some d/\Rel K ι' H2 d x
 stop: ∀ ι' H',Pass ι H ι' H'->J.stop ds.length H'
noncomputable def zsE (K:W.Frag) (E:XE) (f:Sd->M (List D)):TI:=fun σ H Q=> ∃ ι h sd,zcP K ι H sd σ/\zbe K ι H h/\Fin K E ι H (f sd h) fun ds ι' H'=> ∀ J,zpm K ι' H' J ds->Q J H'
noncomputable abbrev SI (X:Cx) (E:XE) (tg iter:Expr) (f:Sd->M (List D)):Prop:=PI X tg iter (zsE X.K E f)
noncomputable def zd7:D->M (List D)
 | .tup ds=>pure ds
 | .lst ds=>pure ds
 | _=>M.bad
theorem zmL {K:W.Frag} {ι:Io} {H:Hp} {a:Addr} {vs:List V} {ds:List D} (h: ∀ ι' H',Pass ι H ι' H'->SqT K H' a vs) (rl:zax K ι H ds vs):zpm K ι H (Itt K a) ds where
 go:=fun ι' H' i s hi=>⟨vs,vs[i]'(by rw [<- rl.length];exact hi),h ι' H' s,by simp⟩
 yld:=fun ι' H' _ i x H2 s _ hi ⟨e,y⟩=>by
  subst e
  have hx:=y vs (h ι' _ s)
  obtain ⟨d,e1,e2⟩:=rl.getV hx
  exact ⟨.inl rfl,d,e1,e2.pass s⟩
 stop:=fun ι' H' s=>⟨vs,h ι' H' s,by rw [rl.length];exact qaV _⟩
theorem zlJ {K:W.Frag} {ι:Io} {H:Hp} {a:Addr} {vs:List V} {ds:List D} (h: ∀ ι' H',Pass ι H ι' H'->SqL K H' a vs) (rl:zax K ι H ds vs):zpm K ι H (Itl K a) ds where
 go:=fun ι' H' i s hi=>⟨vs,vs[i]'(by rw [<- rl.length];exact hi),h ι' H' s,by simp⟩
 yld:=fun ι' H' _ i x H2 s _ hi ⟨e,y⟩=>by
  subst e
  have hx:=y vs (h ι' _ s)
  obtain ⟨d,e1,e2⟩:=rl.getV hx
  exact ⟨.inl rfl,d,e1,e2.pass s⟩
 stop:=fun ι' H' s=>⟨vs,h ι' H' s,by rw [rl.length];exact qaV _⟩
theorem Pass.refl (ι:Io) (H:Hp):Pass ι H ι H:=(zbQ.refl ι H).pass
theorem znq {K:W.Frag} {ι:Io} {H:Hp} {ds:List D} {v:V} (h:Rel K ι H (.tup ds) v): ∃ a vs,v= .ref a/\(∀ ι' H',Pass ι H ι' H'->SqT K H' a vs)/\zax K ι H ds vs:=by
 simp only [Rel] at h
 obtain ⟨a,vs,e,h1,h2⟩:=h
 exact ⟨a,vs,e,fun ι' H' s=> .inl (.inl (s.keep _ _ h1.1 h1.2).1),h2⟩
theorem zpf {K:W.Frag} {ι:Io} {H:Hp} {ds:List D} {v:V} (h:Rel K ι H (.lst ds) v): ∃ a vs,v= .ref a/\(∀ ι' H',Pass ι H ι' H'->SqL K H' a vs)/\zax K ι H ds vs:=by
 simp only [Rel] at h
 obtain ⟨a,vs,e,h1,h2⟩:=h
 exact ⟨a,vs,e,fun ι' H' s=> .inl (.inl (s.keep _ _ h1.1 h1.2).1),h2⟩
end
end L3
namespace L2
open PySem PySem.Spec PyProof.Rows
noncomputable def zuc (K:W.Frag) (tl:TE):TI:=fun σ H R=>tl σ H fun x H1=> ∃ a,x= .ref a/\(((∃ xs,SqL K H1 a xs)/\R (Itl K a) H1)\/((∃ xs,SqT K H1 a xs)/\R (Itt K a) H1))
theorem zpZ {X:Cx} {tg:Expr} {l:Expr} {tl:TE} (hl:PE X l tl):PI X tg l (zuc X.K tl):=by
 intro pins s σ H R I h
 refine thn (hl pins s σ H _ I h) fun v s1 ⟨x,H1,I1,r1,q1⟩=> ?_
 obtain ⟨a,e,⟨⟨xs,hq⟩,q⟩ | ⟨⟨xs,hq⟩,q⟩⟩:=q1
 ·subst e
  cases r1
  obtain ⟨its,rv,p,hz⟩:=I1.list hq
  refine wpAny_pyIter_list p.isList ?_
  refine ⟨s1.heap.objs.size,[s1.heap.objs.size],_,_,H1,rfl,I1.kept (t':=s1.toks) fun b o e=>qag _ e,zkY a _,⟨_,qar _ rfl,rfl,rfl⟩,fun b hb=> ?_,q⟩
  have e:b=s1.heap.objs.size:=by simpa using hb
  subst e
  exact I1.fpOk (qaV _) (I1.hok.fresh (qaV _))
 ·subst e
  cases r1
  obtain ⟨its,rv,p,hz⟩:=I1.tuple hq
  refine wpAny_pyIter_tuple (show s1.heap.IsTuple a its.toArray from p) ?_
  refine ⟨s1.heap.objs.size,[s1.heap.objs.size],_,_,H1,rfl,I1.kept (t':=s1.toks) fun b o e=>qag _ e,ziZ a _,⟨_,qar _ rfl,rfl,rfl⟩,fun b hb=> ?_,q⟩
  have e:b=s1.heap.objs.size:=by simpa using hb
  subst e
  exact I1.fpOk (qaV _) (I1.hok.fresh (qaV _))
end L2
namespace L3
open PySem PySem.Spec PyProof.Rows L2
section
variable {X:Cx} {E:XE} {pos:Pos}
theorem zp2 {tg e:Expr} {f:Sd->M D} (he:SE X E e f):SI X E tg e (fun sd=>do let d<-f sd;zd7 d):=by
 refine PI.imp (zpZ he) fun σ H Q ⟨ι,h,sd,L,hh,q⟩=>⟨ι,h,sd,L,hh,Fin.bind q fun d h1 ι1 H1 e1 s1 hr1 q1 v rv=> ?_⟩
 cases d with
 | lst ds=>
  obtain ⟨a,vs,e,h1',h2⟩:=zpf rv
  exact ⟨a,e,.inl ⟨⟨vs,h1' _ _ (Pass.refl _ _)⟩,Fin.out hr1 q1 _ (zlJ h1' h2)⟩⟩
 | tup ds=>
  obtain ⟨a,vs,e,h1',h2⟩:=znq rv
  exact ⟨a,e,.inr ⟨⟨vs,h1' _ _ (Pass.refl _ _)⟩,Fin.out hr1 q1 _ (zmL h1' h2)⟩⟩
 | _=>exact qa0 q1
noncomputable def zfC (lo:Int) (n:Nat):List D:=(List.range n).map fun (k:Nat)=>D.int (lo+(k:Int))
theorem zmr {K:W.Frag} {ι:Io} {H:Hp} {lo:Int} {n:Nat}:zpm K ι H (Itr lo n) (zfC lo n) where
 go:=fun ι' H' i s hi=>by show i<n;simpa [zfC] using hi
 yld:=fun ι' H' _ i x H2 s _ hi ⟨e,y⟩=>by
  subst e y
  have hi:i<n:=by simpa [zfC] using hi
  refine ⟨.inl rfl,.int (lo+i),?_,by simp [Rel]⟩
  simp [zfC,hi]
 stop:=fun ι' H' s=>by
  show n<=(zfC lo n).length
  simp [zfC]
noncomputable def zdN (j:Int):Bool:=decide (-(2^62)<=j) && decide (j<2^62)
noncomputable def zkp:List D->M (List D)
 | [.int j]=>if zdN j=true then pure (zfC 0 j.toNat) else M.bad
 | _=>M.bad
theorem ze6 {j:Int} (h:zdN j=true): -(2^62)<=j/\j<2^62:=by
 unfold zdN at h
 simpa using h
theorem zoe {tg a:Expr} {p:Pos} {fs:Sd->M (List D)} (hg:Gl X "range") (hm:X.mg "range"=none) (ha:SA X E [a] fs) (hs:starEach [a] X.env=[(false,eval a X.env)]:=by rfl):
  SI X E tg (.Call (.Name "range" p) [a] [] pos) (fun sd=>do let ds<-fs sd;zkp ds):=by
 refine PI.imp (zkT hg hm ha hs) fun σ H Q ⟨ι,h,sd,L,hh,q⟩=>⟨ι,h,sd,L,hh,Fin.bind q fun ds h1 ι1 H1 e1 s1 hr1 q1 vs rv=> ?_⟩
 match ds,rv,q1 with
 | [.int j],rv,q1=>
  simp only [zax,Rel] at rv
  obtain ⟨v,r,rfl,rfl,rfl⟩:=rv
  have q1:Fin X.K E ι1 H1 ((if zdN j=true then (pure (zfC 0 j.toNat):M (List D)) else M.bad) h1) _:=q1
  by_cases hj:zdN j=true
  ·rw [qa4 hj] at q1
   exact ⟨j,rfl,(ze6 hj).1,(ze6 hj).2,Fin.out hr1 q1 _ zmr⟩
  ·rw [qa5 hj] at q1
   exact qa0 q1
 | [],_,q1=>exact qa0 q1
 | .non::_,_,q1=>exact qa0 q1
 | .bl _::_,_,q1=>exact qa0 q1
 | .str _::_,_,q1=>exact qa0 q1
 | .tup _::_,_,q1=>exact qa0 q1
 | .lst _::_,_,q1=>exact qa0 q1
 | .cel _::_,_,q1=>exact qa0 q1
 | .set _::_,_,q1=>exact qa0 q1
 | .dct::_,_,q1=>exact qa0 q1
 | .fn _::_,_,q1=>exact qa0 q1
 | .scr _::_,_,q1=>exact qa0 q1
 | .exn _::_,_,q1=>exact qa0 q1
 | .int _::_::_,_,q1=>exact qa0 q1
noncomputable def za3 (body:D->Sd->M Out):List D->Sd->M Out
 | [],sd=>pure (.nx sd)
 | x::r,sd=>do
  let o<-body x sd
  match o with
  | .nx sd'=>za3 body r sd'
  | .ct sd'=>za3 body r sd'
  | .bk sd'=>pure (.nx sd')
  | .rt d=>pure (.rt d)
theorem zsD {tg iter:Expr} {body:List Stmt} {fi:Sd->M (List D)} {g:D->Sd->M Sd} {gb:Sd->M Out} (hc:X.calm=true) (hp:PassesOwn (model X.prog X.w) X.A X.env X.xe) (hi:SI X E tg iter fi) (hg:SG X E tg g) (hb:SSs X E body gb)
  (hs: ∀ x,foldedSetIterable iter X.env x=pure x:=by intro _;rfl):SS X E (.For tg iter body [] pos) (fun sd=>do let ds<-fi sd;za3 (fun x sd=>do let sd1<-g x sd;gb sd1) ds sd):=by
 refine PS.imp (zp5 hp hc hi hg hb hs) fun D0 σ H ⟨ι,h,sd,L,hh,q⟩=>⟨ι,h,sd,L,hh,Fin.bind q fun ds h1 ι1 H1 e1 s1 hr1 q1 J ok=> ?_⟩
 refine ⟨fun i m σ' H'=>m=ds.length - i/\i<=ds.length/\ ∃ ι' h' sd',zbQ ι1 H1 ι' H'/\zcP X.K ι' H' sd' σ'/\zbe X.K ι' H' h'/\Fin X.K E ι' H' (za3 (fun x sd=>do let sd1<-g x sd;gb sd1) (ds.drop i) sd' h') (zgC X.K D0),
   ⟨_,rfl,Nat.zero_le _,ι1,h1,sd,zbQ.refl _ _,L.step s1,hr1,by simpa using q1⟩,?_⟩
 rintro i m σ2 H2 ⟨rfl,hi2,ι2,h2,sd2,s2,L2,hr2,q2⟩
 by_cases hlt:i<ds.length
 ·right
  refine ⟨ok.go ι2 H2 i s2.pass hlt,fun σ' H'=>i+1<=ds.length/\ ∃ ι' h' sd',zbQ ι1 H1 ι' H'/\zcP X.K ι' H' sd' σ'/\zbe X.K ι' H' h'/\Fin X.K E ι' H' (za3 (fun x sd=>do let sd1<-g x sd;gb sd1) (ds.drop (i+1)) sd' h') (zgC X.K D0),
    fun σ' H' p=>⟨ds.length - (i+1),by omega,rfl,p.1,p.2⟩,fun x H3 y=> ?_⟩
  obtain ⟨gr,d,ed,rd⟩:=ok.yld ι2 H2 h2 i x H3 s2.pass hr2 hlt y
  obtain ⟨s3,hr3⟩:=gr.step hr2
  have edr:ds.drop i=d::ds.drop (i+1):=by
   rw [qae hlt]
   rw [qaf hlt] at ed
   rw [Option.some.inj ed]
  rw [edr] at q2
  have q3:Fin X.K E ι2 H3 (za3 (fun x sd=>do let sd1<-g x sd;gb sd1) (d::ds.drop (i+1)) sd2 h2) (zgC X.K D0):=Fin.step s3 q2
  refine ⟨ι2,h2,sd2,d,L2.step s3,hr3,rd,?_⟩
  have q5:Fin X.K E ι2 H3 ((g d sd2>>=fun sd1=>(gb sd1>>=fun o=>(match o with
    | .nx sd'=>za3 (fun x sd=>do let sd1<-g x sd;gb sd1) (ds.drop (i+1)) sd'
    | .ct sd'=>za3 (fun x sd=>do let sd1<-g x sd;gb sd1) (ds.drop (i+1)) sd'
    | .bk sd'=>pure (.nx sd')
    | .rt d=>pure (.rt d):M Out))) h2) (zgC X.K D0):=by
   have e:(za3 (fun x sd=>do let sd1<-g x sd;gb sd1) (d::ds.drop (i+1)) sd2 h2)=((g d sd2>>=fun sd1=>(gb sd1>>=fun o=>(match o with
     | .nx sd'=>za3 (fun x sd=>do let sd1<-g x sd;gb sd1) (ds.drop (i+1)) sd'
     | .ct sd'=>za3 (fun x sd=>do let sd1<-g x sd;gb sd1) (ds.drop (i+1)) sd'
     | .bk sd'=>pure (.nx sd')
     | .rt d=>pure (.rt d):M Out))) h2):=by
    show M.bind (M.bind (g d sd2) gb) _ h2=M.bind (g d sd2) _ h2
    unfold M.bind
    cases g d sd2 h2<;>rfl
   rw [<- e]
   exact q3
  refine Fin.bind q5 fun sd6 h6 ι6 H6 e6 s6 hr6 q6 σ6 L6=> ?_
  refine ⟨ι6,h6,sd6,L6,hr6,Fin.bind q6 fun o h7 ι7 H7 e7 s7 hr7 q7=> ?_⟩
  have st7:zbQ ι1 H1 ι7 H7:=((s2.trans s3).trans s6).trans s7
  cases o with
  | nx sd'=>exact fun σ' L'=>⟨hlt,ι7,h7,sd',st7,L',hr7,q7⟩
  | ct sd'=>exact fun σ' L'=>⟨hlt,ι7,h7,sd',st7,L',hr7,q7⟩
  | bk sd'=>exact fun σ' L'=>Fin.out (E:=E) (P:=zgC X.K D0) hr7 q7 σ' L'
  | rt d=>exact fun v rv=>Fin.out (E:=E) (P:=zgC X.K D0) hr7 q7 v rv
 ·left
  have e:i=ds.length:=by omega
  subst e
  refine ⟨ok.stop ι2 H2 s2.pass,?_⟩
  rw [List.drop_length] at q2
  exact Fin.out (E:=E) (P:=zgC X.K D0) hr2 q2 σ2 L2
noncomputable def zbl (f:D->M (Option D)):List D->M (List D)
 | []=>pure []
 | x::r=>do
  let o<-f x
  let ys<-zbl f r
  pure (match o with | some y=>y::ys | none=>ys)
noncomputable def za6 (g:D->Sd->M Sd) (tc:Sd->M Bool) (te:Sd->M D) (sd:Sd) (x:D):M (Option D):=do
 let sd1<-g x sd
 let c<-tc sd1
 if c=true then do
  let y<-te sd1
  pure (some y)
 else pure none
end
noncomputable def Io.hide (ι:Io) (p:Addr):Io:=⟨ι.c,p::ι.x⟩
noncomputable def Io.show (ι:Io):Io:=⟨ι.c,ι.x.tail⟩
theorem zlE {ι:Io} {a:Addr} (h:ι.show.Has a):ι.Has a:=h.imp id List.mem_of_mem_tail
section
variable {K:W.Frag} {ι ι':Io} {H H':Hp} {p:Addr} {o:HO} {h:Hh}
theorem ze1 (hp:H p=none):Pass ι H (ι.hide p) (upd H p o):=⟨fun _ _ z=> .inl z,fun b o' hb n=>⟨by rw [zaE (zaY hb hp)];exact hb,fun z=>by
  rcases z with z | z
  · exact n (.inl z)
  · rcases qaP.mp z with z | z
    · rw [z,hp] at hb;cases hb
    · exact n (.inr z)⟩⟩
theorem zg4:Pass ι H ι.show H:=⟨fun _ _ z=> .inl z,fun b o' hb n=>⟨hb,fun z=>n (zlE z)⟩⟩
theorem zea (hp:p∈ι.x):Pass ι H ι (upd H p o):=⟨fun _ _ z=> .inl z,fun b o' hb n=>⟨by rw [zaE (show b≠p from fun z=>n (.inr (z▸hp)))];exact hb,n⟩⟩
theorem zbe.hide {ws:List V} (hr:zbe K ι H h) (hp:H p=none):zbe K (ι.hide p) (upd H p (.lst ws)) h:=
 ⟨hr.len,hr.inj,fun n a c h1 h2=>by
   obtain ⟨o',e2,e3⟩:=hr.at_ n a c h1 h2
   exact ⟨o',by rw [zaE (zaY e2 hp)];exact e2,e3.pass (ze1 hp)⟩,hr.dead,fun a ha=>by
   rcases qaP.mp ha with z | z
   · subst z;exact ⟨⟨ws,za2⟩,fun z=>hr.nin hp (.inl z)⟩
   · refine ⟨?_,(hr.hidt a z).2⟩
     rw [zaE (show a≠p from fun w=>hr.nin hp (.inr (w▸z)))]
     exact (hr.hidt a z).1⟩
theorem zbe.hid {ws:List V} (hr:zbe K ι H h) (hp:p∈ι.x):zbe K ι (upd H p (.lst ws)) h:=
 ⟨hr.len,hr.inj,fun n a c h1 h2=>by
   obtain ⟨o',e2,e3⟩:=hr.at_ n a c h1 h2
   have ne:a≠p:=fun z=>(hr.hidt p hp).2 (z▸List.mem_of_getElem? h1)
   exact ⟨o',by rw [zaE ne];exact e2,e3.pass (zea hp)⟩,hr.dead,fun a ha=>by
   refine ⟨?_,(hr.hidt a ha).2⟩
   by_cases z:a=p
   · subst z;exact ⟨ws,za2⟩
   · rw [zaE z];exact (hr.hidt a ha).1⟩
theorem zbe.show (hr:zbe K ι H h):zbe K ι.show H h:=
 ⟨hr.len,hr.inj,fun n a c h1 h2=>by
   obtain ⟨o',e2,e3⟩:=hr.at_ n a c h1 h2
   exact ⟨o',e2,e3.pass zg4⟩,hr.dead,fun a ha=>hr.hidt a (List.mem_of_mem_tail ha)⟩
theorem zgW {ι1 ι2:Io} {H1 H2:Hp} (hp:H p=none) (hpx:p∉ι.x) (hx:ι1.x=p::ι.x) (s:zbQ ι H ι1.show H1) (t:zbQ ι1 H1 ι2 H2):zbQ ι H ι2.show (upd H2 p o) where
 old:=fun n q h=>by
  rcases s.old n q h with h | h
  ·exact t.old n q h
  ·rcases t.old n _ h with h | h<;>exact .inr h
 new:=fun a h=>by
  rcases t.new a h with h | h
  ·exact s.new a h
  ·by_cases z:some a∈ι.c
   ·exact .inl z
   ·refine .inr ?_
    cases q:H a with
    | none=>rfl
    | some o=>
     by_cases z':a∈ι.x
     ·rw [s.hidk a z',q] at h;cases h
     ·rw [s.keep a o q (fun w=>w.elim z z')] at h;cases h
 hid:=by
  show ι2.x.tail=ι.x
  rw [t.hid,hx]
  rfl
 hidk:=fun a ha=>by
  have z:a≠p:=fun z=>hpx (z▸ha)
  rw [zaE z,t.hidk a (by rw [hx];exact qan _ ha)]
  exact s.hidk a ha
 keep:=fun b q hb n=>by
  have ne:b≠p:=zaY hb hp
  rw [zaE ne]
  refine t.keep b q (s.keep b q hb n) fun z=> ?_
  rcases z with z | z
  ·rcases s.new b z with z | z
   ·exact n (.inl z)
   ·rw [hb] at z;cases z
  ·rw [hx] at z
   rcases qaP.mp z with z | z
   ·exact ne z
   ·exact n (.inr z)
theorem zbQ.shown {ι2:Io} {H2:Hp} {r:List Addr} (hx:ι.x=p::r) (t:zbQ ι H ι2 H2):zbQ ι.show H ι2.show H2 where
 old:=t.old
 new:=t.new
 hid:=by show ι2.x.tail=ι.x.tail;rw [t.hid]
 hidk:=fun a ha=>t.hidk a (List.mem_of_mem_tail ha)
 keep:=fun b q hb n=>by
  by_cases z:b=p
  ·subst z
   rw [t.hidk b (by rw [hx];exact qau)]
   exact hb
  ·refine t.keep b q hb fun w=> ?_
   rcases w with w | w
   ·exact n (.inl w)
   ·rw [hx] at w
    rcases qaP.mp w with w | w
    ·exact z w
    ·exact n (.inr (by show b∈ι.x.tail;rw [hx];exact w))
theorem Fin.bindB {α β:Type} {E:XE} {m:M α} {f:α->M β} {P:β->Io->Hp->Prop} {P':α->Io->Hp->Prop} {ιb:Io} {Hb:Hp} (q:Fin K E ιb Hb ((m>>=f) h) P)
  (conv: ∀ ι' H' h',zbQ ι H ι' H'->zbe K ι' H' h'-> ∃ ι'',zbQ ιb Hb ι'' H'/\zbe K ι'' H' h')
  (k: ∀ a h' ι' H',m h= .ok a h'->zbQ ι H ι' H'->zbe K ι' H' h'->Fin K E ιb Hb (f a h') P->P' a ι' H'):Fin K E ι H (m h) P':=by
 have q':Fin K E ιb Hb (M.bind m f h) P:=q
 unfold M.bind at q'
 cases e:m h with
 | ok a h'=>
  rw [e] at q'
  intro ι' H' s hr
  exact k a h' ι' H' e s hr q'
 | exc c h'=>
  rw [e] at q'
  intro ι' H' s hr
  obtain ⟨ι'',s2,hr2⟩:=conv ι' H' h' s hr
  exact q' _ _ s2 hr2
 | bad=>rw [e] at q';exact q'
end
noncomputable instance:LawfulMonad M:=LawfulMonad.mk' M
 (id_map:=fun x=>by
   funext h
   show M.bind x (fun a=>M.pure (id a)) h=x h
   unfold M.bind M.pure
   cases x h<;>rfl)
 (pure_bind:=fun x f=>rfl)
 (bind_assoc:=fun x f g=>by
   funext h
   show M.bind (M.bind x f) g h=M.bind x (fun a=>M.bind (f a) g) h
   unfold M.bind
   cases x h<;>rfl)
noncomputable def zap (src:List (Option Nat)) (sd:Sd):Sd:=src.map fun o=>o.bind fun i=>(sd[i]?).join
theorem zcP.bStart {K:W.Frag} {ι:Io} {H:Hp} {sd:Sd} {σ:L2.St} {src:List (Option Nat)} (h:zcP K ι H sd σ):zcP K ι H (zap src sd) (bStart src σ):=by
 refine ⟨by unfold zap L2.bStart;rw [qaH,qaH],fun i d e=> ?_⟩
 unfold zap at e
 unfold L2.bStart
 rw [List.getElem?_map] at e ⊢
 cases z:src[i]? with
 | none=>rw [z] at e;cases e
 | some o=>
  rw [z] at e
  cases o with
  | none=>cases e
  | some j=>
   have e:(sd[j]?).join=some d:=by simpa using e
   cases w:sd[j]? with
   | none=>rw [w] at e;cases e
   | some q=>
    rw [w] at e
    have e:q=some d:=by simpa using e
    subst e
    obtain ⟨v,h1,h2⟩:=h.2 j d w
    exact ⟨v,by simp [h1],h2⟩
def zaH (g:D->Sd->M Sd) (src:List (Option Nat)):Prop:= ∀ x sd h sd1 h1,sd.length=src.length->(∀ (i:Nat),src[i]? = some none->sd[i]? = some none)->g x sd h= .ok sd1 h1->sd1.length=sd.length/\ ∀ (i:Nat) d,src[i]? ≠ some none->sd[i]? = some (some d)->sd1[i]? = some (some d)
def zcW (g:List D->Sd->M Sd) (src:List (Option Nat)):Prop:= ∀ x sd h sd1 h1,g x sd h= .ok sd1 h1->sd1.length=sd.length/\ ∀ (i:Nat) d,src[i]? ≠ some none->sd[i]? = some (some d)->sd1[i]? = some (some d)
theorem zli {i:Nat} {src:List (Option Nat)} (h:src[i]? = some none): ∀ x sd h sd1 h1,zaM i x sd h= .ok sd1 h1->sd1.length=sd.length/\ ∀ (j:Nat) d,src[j]? ≠ some none->sd[j]? = some (some d)->sd1[j]? = some (some d):=fun x sd h0 sd1 h1 e=>by
 have e:R.ok (sd.set i (some x)) h0= .ok sd1 h1:=e
 cases e
 refine ⟨qaI,fun j d hj e=> ?_⟩
 rw [qao (show i≠j from fun z=>hj (z▸h))]
 exact e
theorem zaH.name {i:Nat} {src:List (Option Nat)} (h:src[i]? = some none):zaH (zaM i) src:=fun x sd h0 sd1 h1 _ _ e=>zli h x sd h0 sd1 h1 e
theorem zcW.nil {src:List (Option Nat)}:zcW zc7 src:=fun x sd h sd1 h1 e=>by
 cases x with
 | nil=>
  have e:R.ok sd h= .ok sd1 h1:=e
  cases e
  exact ⟨rfl,fun _ _ _ z=>z⟩
 | cons _ _=>cases (show R.bad=R.ok sd1 h1 from e)
theorem zcW.cons {i:Nat} {gs:List D->Sd->M Sd} {src:List (Option Nat)} (h:src[i]? = some none) (t:zcW gs src):zcW (zaR (zaM i) gs) src:=fun x sd h0 sd1 h1 e=>by
 cases x with
 | nil=>cases (show R.bad=R.ok sd1 h1 from e)
 | cons d r=>
  have e:gs r (sd.set i (some d)) h0= .ok sd1 h1:=e
  obtain ⟨e1,e2⟩:=t r _ h0 sd1 h1 e
  refine ⟨by rw [e1,qaI],fun j d' hj z=>e2 j d' hj ?_⟩
  rw [qao (show i≠j from fun z=>hj (z▸h))]
  exact z
theorem zaH.tup {n:Nat} {gs:List D->Sd->M Sd} {src:List (Option Nat)} (t:zcW gs src):zaH (zcX n gs) src:=fun x sd h0 sd1 h1 _ _ e=>by
 cases x with
 | tup ds=>
  have e:(if ds.length=n then gs ds sd else M.bad) h0= .ok sd1 h1:=e
  by_cases hl:ds.length=n
  ·rw [qa4 hl] at e;exact t _ _ _ _ _ e
  ·rw [qa5 hl] at e;cases (show R.bad=R.ok sd1 h1 from e)
 | _=>cases (show R.bad=R.ok sd1 h1 from e)
section
variable {X:Cx} {E:XE} {scope:Scope} {N:List Str} {src:List (Option Nat)} {tg iter elt:Expr} {ifs:List Expr} {pos:Pos}
noncomputable abbrev SCs (X:Cx) (E:XE) (ifs:List Expr) (t:Sd->M Bool):Prop:=PCs X ifs (zfO X.K E t)
theorem zpJ:SCs X E [] (fun _=>pure true):=fun pins s σ H Q I ⟨ι,h,sd,L,hh,q⟩=>znu pins s σ H Q I (Fin.out hh q)
theorem zqJ {c:Expr} {t:Sd->M Bool} (h:ST X E c t):SCs X E [c] t:=znS h
theorem blk {K:W.Frag} {g:D->Sd->M Sd} {tc:Sd->M Bool} {te:Sd->M D} {J:It} {ds:List D} {ι:Io} {H:Hp} {h:Hh} {sd:Sd} {σ:L2.St} {Q:VK} {p:Addr} (hk:zaH g src) (L:zcP K ι H sd σ) (hr:zbe K ι H h) (ok:zpm K ι H J ds) (hz:ds.length<=sizeLine)
  (q:Fin K E ι H ((do let ys<-zbl (za6 g tc te (zap src sd)) ds;pure (D.lst ys)) h) fun d ι' H'=> ∀ v,Rel K ι' H' d v->Q v H') (hp:H p=none):
  zr0 J (zql K E g) (zfO K E tc) (zhS K E te) (bStart src σ) H p fun H'=>Q (.ref p) H':=by
 generalize hP:(fun (d:D) (ι':Io) (H':Hp)=> ∀ v,Rel K ι' H' d v->Q v H')=P at q
 generalize hf:za6 g tc te (zap src sd)=f at q
 have hpx:p∉ι.x:=fun z=>hr.nin hp (.inr z)
 have h0len:(zap src sd).length=src.length:=by unfold zap;rw [qaH]
 have h0non: ∀ (i:Nat),src[i]? = some none->(zap src sd)[i]? = some none:=fun i e=>by unfold zap;rw [List.getElem?_map,e];rfl
 refine ⟨fun i m σ' H'=>m=ds.length - i/\i<=ds.length/\ ∃ ι' h' done vs,ι'.x=p::ι.x/\zbQ ι H ι'.show H'/\zcP K ι' H' (zap src sd) σ'/\zbe K ι' H' h'/\H' p=some (.lst vs)/\zax K ι' H' done vs/\done.length<=i/\
     Fin K E ι H ((do let ys<-zbl f (ds.drop i);pure (D.lst (done++ys))) h') P,
   ⟨_,rfl,Nat.zero_le _,ι.hide p,h,[],[],rfl,?_,L.bStart.pass (ze1 hp),hr.hide hp,za2,zax.nil,qaV _,?_⟩,?_⟩
 ·have:=hr.laidS (o:= .lst []) hp
  exact ⟨this.old,this.new,this.hid,this.hidk,this.keep⟩
 ·simpa using q
 rintro i m σ2 H2 ⟨rfl,hi2,ι2,h2,done,vs,hx2,s2,L2,hr2,e2,rl2,dl2,q2⟩
 have ps2:Pass ι H ι2 H2:=⟨s2.old,fun b o hb n=>⟨s2.keep b o hb n,fun z=>by
   rcases z with z | z
   · exact s2.nin hb n (.inl z)
   · rw [hx2] at z
     rcases qaP.mp z with z | z
     · rw [z,hp] at hb;cases hb
     · exact n (.inr z)⟩⟩
 have hp2:p∈ι2.x:=by rw [hx2];exact qau
 have base: ∀ {ι':Io} {H':Hp},zbQ ι2 H2 ι' H'->zbQ ι H ι'.show H':=fun t=>s2.trans (t.shown hx2)
 by_cases hlt:i<ds.length
 ·right
  refine ⟨ok.go ι2 H2 i ps2 hlt,fun σ' H'=>i+1<=ds.length/\ ∃ ι' h' done vs,ι'.x=p::ι.x/\zbQ ι H ι'.show H'/\zcP K ι' H' (zap src sd) σ'/\zbe K ι' H' h'/\H' p=some (.lst vs)/\zax K ι' H' done vs/\done.length<=i+1/\
    Fin K E ι H ((do let ys<-zbl f (ds.drop (i+1));pure (D.lst (done++ys))) h') P,fun σ' H' z=>⟨ds.length - (i+1),by omega,rfl,z.1,z.2⟩,fun x H3 y=> ?_⟩
  obtain ⟨gr,d,ed,rd⟩:=ok.yld ι2 H2 h2 i x H3 ps2 hr2 hlt y
  obtain ⟨s3,hr3⟩:=gr.step hr2
  have edr:ds.drop i=d::ds.drop (i+1):=by
   rw [qae hlt]
   rw [qaf hlt] at ed
   rw [Option.some.inj ed]
  rw [edr] at q2
  have q3:=q2
  have st3:zbQ ι2 H2 ι2 H3:=s3
  have e3:H3 p=some (.lst vs):=by rw [s3.hidk p hp2];exact e2
  have eq1:(do let ys<-zbl f (d::ds.drop (i+1));pure (D.lst (done++ys)):M D)=(g d (zap src sd)>>=fun sd1=>tc sd1>>=fun c=>if c=true then (te sd1>>=fun y=>zbl f (ds.drop (i+1))>>=fun ys=>pure (D.lst (done++[y]++ys))) else (zbl f (ds.drop (i+1))>>=fun ys=>pure (D.lst (done++ys)))):=by
   rw [zbl]
   rw [<- hf]
   simp only [za6,bind_assoc]
   refine congrArg _ (funext fun sd1=> ?_)
   refine congrArg _ (funext fun c=> ?_)
   cases c with
   | true=>simp only [if_true,bind_assoc,pure_bind,List.append_assoc,List.cons_append,List.nil_append]
   | false=>simp only [qax,if_false,pure_bind]
  rw [eq1] at q3
  refine ⟨ι2,h2,zap src sd,d,L2.step s3,hr3,rd,?_⟩
  refine Fin.bindB q3 (fun ι' H' h' s hr'=>⟨ι'.show,base (s3.trans s),hr'.show⟩) fun sd4 h4 ι4 H4 e4 s4 hr4 q4 σ4 L4=> ?_
  have hx4:ι4.x=p::ι.x:=by rw [s4.hid];exact hx2
  obtain ⟨k1,k2⟩:=hk d _ h2 sd4 h4 h0len h0non e4
  refine ⟨ι4,h4,sd4,L4,hr4,Fin.bindB q4 (fun ι' H' h' s hr'=>⟨ι'.show,base ((s3.trans s4).trans s),hr'.show⟩) fun c h5 ι5 H5 e5 s5 hr5 q5=> ?_⟩
  have hx5:ι5.x=p::ι.x:=by rw [s5.hid];exact hx4
  have sub: ∀ {ι':Io} {H':Hp},zcP K ι' H' sd4 σ4->zcP K ι' H' (zap src sd) σ4:=fun {ι' H'} z=>⟨by rw [<- k1];exact z.1,fun j d' e=>z.2 j d' (k2 j d' (fun w=>by rw [h0non j w] at e;cases e) e)⟩
  have st5:zbQ ι2 H2 ι5 H5:=(s3.trans s4).trans s5
  cases c with
  | false=>
   exact zn6 ⟨hlt,ι5,h5,done,vs,hx5,base st5,sub (L4.step s5),hr5,by rw [st5.hidk p hp2];exact e2,rl2.step st5,Nat.le_succ_of_le dl2,q5⟩
  | true=>
   refine zoy ⟨ι5,h5,sd4,L4.step s5,hr5,Fin.bindB q5 (fun ι' H' h' s hr'=>⟨ι'.show,base (st5.trans s),hr'.show⟩) fun yd h6 ι6 H6 e6 s6 hr6 q6 y ry=> ?_⟩
   have st6:zbQ ι2 H2 ι6 H6:=st5.trans s6
   have hx6:ι6.x=p::ι.x:=by rw [s6.hid];exact hx5
   have hp6:p∈ι6.x:=by rw [hx6];exact qau
   have e6':H6 p=some (.lst vs):=by rw [st6.hidk p hp2];exact e2
   refine ⟨vs,e6',by rw [<- rl2.length];omega,hlt,ι6,h6,done++[yd],vs++[y],hx6,zgW hp hpx hx2 s2 st6,?_,hr6.hid hp6,za2,?_,?_,?_⟩
   ·exact ((sub (L4.step s5)).step s6).pass (zea hp6)
   ·exact ((rl2.step st6).append (zax.cons ry zax.nil)).pass (zea hp6)
   ·rw [qav,List.length_singleton];omega
   ·exact q6
 ·left
  have e:i=ds.length:=by omega
  subst e
  refine ⟨ok.stop ι2 H2 ps2,?_⟩
  rw [List.drop_length] at q2
  have q3:P (.lst done) ι2.show H2:=by
   have:Fin K E ι H ((pure (D.lst (done++[])):M D) h2) P:=q2
   rw [List.append_nil] at this
   exact this _ _ s2 hr2.show
  rw [<- hP] at q3
  refine q3 (.ref p) ?_
  simp only [Rel]
  refine ⟨p,vs,rfl,⟨e2,fun z=> ?_⟩,rl2.pass zg4⟩
  rcases z with z | z
  ·exact (hr2.hidt p (by rw [hx2];exact qau)).2 z
  ·exact hpx (by have z:p∈ι2.x.tail:=z;rw [hx2] at z;exact z)
noncomputable def zaB (fi:Sd->M (List D)) (g:D->Sd->M Sd) (tc:Sd->M Bool) (te:Sd->M D) (src:List (Option Nat)):Sd->M D:=fun sd=>do
 let ds<-fi sd
 fits ds.length
 let ys<-zbl (za6 g tc te (zap src sd)) ds
 pure (D.lst ys)
theorem zk3 {K:W.Frag} {fi:Sd->M (List D)} {g:D->Sd->M Sd} {tc:Sd->M Bool} {te:Sd->M D} (hk:zaH g src) (σ:L2.St) (H:Hp) (Q:VK) (q:zhS K E (zaB fi g tc te src) σ H Q):
  zlQ (zsE K E fi) (zql K E g) (zfO K E tc) (zhS K E te) src σ H Q:=by
 obtain ⟨ι,h,sd,L,hh,q⟩:=q
 refine ⟨ι,h,sd,L,hh,Fin.bind q fun ds h1 ι1 H1 e1 s1 hr1 q1 J ok p hp=> ?_⟩
 obtain ⟨z,q2⟩:=Fin.fits q1
 exact blk hk (L.step s1) hr1 ok z q2 hp
theorem zj3 {fi:Sd->M (List D)} {g:D->Sd->M Sd} {tc:Sd->M Bool} {te:Sd->M D} (B:BOk X scope N src) (hk:zaH g src) (hi:SI X E tg iter fi)
  (hg: ∀ s H fp,SG (cxB X scope N s H fp) E tg g) (ht: ∀ s H fp,SCs (cxB X scope N s H fp) E ifs tc) (he: ∀ s H fp,SE (cxB X scope N s H fp) E elt te)
  (hs: ∀ x,foldedSetIterable iter X.env x=pure x:=by intro _;rfl):SE X E (.ListComp elt [⟨tg,iter,ifs,0⟩] scope pos) (zaB fi g tc te src):=
 PE.imp (zkU B hi hg ht he hs) (zk3 hk)
theorem zku {fi:Sd->M (List D)} {g:D->Sd->M Sd} {tc:Sd->M Bool} {te:Sd->M D} (i:Nat) {y:Str} {py spos:Pos} (B:BOk X scope N src) (hk:zaH g src) (hi:SI X E tg iter fi)
  (hg: ∀ s H fp,SG (cxB X scope N s H fp) E tg g) (ht: ∀ s H fp,SCs (cxB X scope N s H fp) E ifs tc) (he: ∀ s H fp,SE (cxB X scope N s H fp) E elt te)
  (hN:X.N.Nodup) (hy:X.N[i]? = some y) (hx:Loc X.env.scope y) (hf:X.fn y=true\/X.env.scope.names.lookup y=some .local) (hsw:swapsWith (.ListComp elt [⟨tg,iter,ifs,0⟩] scope pos) (some (.Name y py)) spos.line X.env=pure true)
  (hs: ∀ x,foldedSetIterable iter X.env x=pure x:=by intro _;rfl):SS X E (.Assign [.Name y py] (.ListComp elt [⟨tg,iter,ifs,0⟩] scope pos) spos) (fun sd=>do let d<-zaB fi g tc te src sd;pure (.nx (sd.set i (some d)))):=by
 refine PS.imp (zjj B hi hg ht he hN hy hx hsw hf hs) fun D0 σ H ⟨ι,h,sd,L,hh,q⟩=>zk3 hk σ H _ ⟨ι,h,sd,L,hh,Fin.bind q fun d h1 ι1 H1 e1 s1 hr1 q1 v rv=> ?_⟩
 exact Fin.out (E:=E) (P:=zgC X.K D0) hr1 q1 _ ((L.step s1).set rv i)
end
section
variable {K:W.Frag} {ι:Io} {H:Hp} {h:Hh} {n:Nat} {a:Addr}
theorem zfs {o:HO} (hn:ι.c[n]? = some (some a)):Pass ι H ι (upd H a o):=⟨fun _ _ z=> .inl z,fun b o' hb nb=>⟨by rw [zaE (show b≠a from fun z=>nb (.inl (z▸List.mem_of_getElem? hn)))];exact hb,nb⟩⟩
theorem zbe.cellS {o:HO} (hr:zbe K ι H h) (hn:ι.c[n]? = some (some a)):zbQ ι H ι (upd H a o):=
 ⟨fun _ _ z=> .inl z,fun _ z=> .inl z,rfl,fun b hb=>zaE fun z=>(hr.hidt b hb).2 (z▸List.mem_of_getElem? hn),fun b o' hb nb=>((zfs hn).keep b o' hb nb).1⟩
theorem zbe.cellO {c':C} {o':HO} (hr:zbe K ι H h) (hn:ι.c[n]? = some (some a)) (co:CO K ι H c' o'):zbe K ι (upd H a o') (h.set n c'):=by
 refine ⟨by rw [qaI];exact hr.len,hr.inj,fun m b c hm hc=> ?_,fun m hm=> ?_,fun b hb=>⟨?_,(hr.hidt b hb).2⟩⟩
 ·by_cases e:n=m
  ·subst e
   rw [hn] at hm
   cases hm
   rw [qai (by rw [hr.len];exact (qac.mp hn).1)] at hc
   cases hc
   exact ⟨o',za2,co.pass (zfs hn)⟩
  ·rw [qao e] at hc
   obtain ⟨o2,e2,e3⟩:=hr.at_ m b c hm hc
   have ne:b≠a:=fun z=>by subst z;exact e (hr.inj n m b hn hm)
   exact ⟨o2,by rw [zaE ne];exact e2,e3.pass (zfs hn)⟩
 ·have e:n≠m:=fun z=>by subst z;rw [hn] at hm;cases hm
  rw [qao e]
  exact hr.dead m hm
 ·rw [zaE (show b≠a from fun z=>(hr.hidt b hb).2 (z▸List.mem_of_getElem? hn))]
  exact (hr.hidt b hb).1
theorem zbe.cell {ds':List D} {vs':List V} (hr:zbe K ι H h) (hn:ι.c[n]? = some (some a)) (rl:zax K ι H ds' vs'):zbe K ι (upd H a (.lst vs')) (h.set n (.lst ds')):=hr.cellO hn ⟨vs',rfl,rl⟩
theorem zbe.read {ds:List D} {v:V} (hr:zbe K ι H h) (r:Rel K ι H (.cel n) v) (e:h[n]? = some (.lst ds)): ∃ a vs,v= .ref a/\ι.c[n]? = some (some a)/\H a=some (.lst vs)/\zax K ι H ds vs:=by
 simp only [Rel] at r
 obtain ⟨a,e1,r | r⟩:=r
 ·obtain ⟨o,e3,vs,rfl,e4⟩:=hr.at_ n a _ r e
  exact ⟨a,vs,e1,r,e3,e4⟩
 ·rw [hr.dead n r] at e
  cases e
end
noncomputable def zaw (n:Nat):M (List D):=fun h=>match h[n]? with
 | some (.lst ds)=> .ok ds h
 | _=> .bad
noncomputable def zcg (n:Nat) (ds:List D):M Unit:=fun h=> .ok () (h.set n (.lst ds))
theorem zcR {n:Nat} {h h':Hh} {ds:List D} (e:zaw n h= .ok ds h'):h'=h/\h[n]? = some (.lst ds):=by
 unfold zaw at e
 cases z:h[n]? with
 | none=>rw [z] at e;cases e
 | some c=>
  rw [z] at e
  cases c with
  | lst xs=>cases e;exact ⟨rfl,rfl⟩
  | dic _=>cases e
  | dit ks=>cases e
  | ins _ _=>cases e
  | dead=>cases e
noncomputable def ofO {α:Type}:Option α->M α
 | some a=>pure a
 | none=>M.bad
noncomputable def dIx:D->D->M D:=fun x y=>match x,y with
 | .tup ds,.int i=>ofO (atI ds i)
 | .lst ds,.int i=>ofO (atI ds i)
 | .scr ds,.int i=>ofO (atI ds i)
 | .cel n,.int i=>do let ds<-zaw n;ofO (atI ds i)
 | _,_=>M.bad
theorem zf8 {K:W.Frag} {ι:Io} {H:Hp} {ds:List D} {vs:List V} {i:Int} {d:D} (rl:zax K ι H ds vs) (e:atI ds i=some d): ∃ v,atI vs i=some v/\Rel K ι H d v:=by
 unfold atI at e ⊢
 rw [<- rl.length]
 cases z:ixN ds.length i with
 | none=>rw [z] at e;cases e
 | some j=>
  rw [z] at e
  have e:ds[j]? = some d:=e
  exact rl.get e
section
variable {X:Cx} {E:XE}
theorem Fin.ofO {α:Type} {K:W.Frag} {ι:Io} {H:Hp} {h:Hh} {o:Option α} {P:α->Io->Hp->Prop} (hr:zbe K ι H h) (q:Fin K E ι H (L3.ofO o h) P): ∃ a,o=some a/\P a ι H:=by
 cases o with
 | none=>exact qa0 q
 | some a=>exact ⟨a,rfl,Fin.out hr q⟩
theorem zt0:IxR X (zdB X.K E dIx):=by
 refine IxR.imp (zo7.or zrn) fun x y H Q ⟨ι,h,d1,d2,r1,r2,hr,q⟩=> ?_
 cases d2 with
 | int i=>
  simp only [Rel] at r2
  cases d1 with
  | tup ds=>
   obtain ⟨a,vs,e,h1,h2⟩:=zdd r1
   obtain ⟨d,e1,q⟩:=Fin.ofO hr q
   obtain ⟨v,e2,rv⟩:=zf8 h2 e1
   exact .inr ⟨a,vs,i,v,e,r2,h1,e2,q v rv⟩
  | lst ds=>
   obtain ⟨a,vs,e,h1,h2⟩:=zdk r1
   obtain ⟨d,e1,q⟩:=Fin.ofO hr q
   obtain ⟨v,e2,rv⟩:=zf8 h2 e1
   exact .inl ⟨a,vs,i,v,e,r2,h1,e2,q v rv⟩
  | scr ds=>
   obtain ⟨a,vs,e,h1,h2⟩:=zlc r1
   obtain ⟨d,e1,q⟩:=Fin.ofO hr q
   obtain ⟨v,e2,rv⟩:=zf8 h2 e1
   exact .inl ⟨a,vs,i,v,e,r2,h1,e2,q v rv⟩
  | cel n=>
   have q:Fin X.K E ι H ((zaw n>>=fun ds=>L3.ofO (atI ds i)) h) _:=q
   have q':Fin X.K E ι H (M.bind (zaw n) (fun ds=>L3.ofO (atI ds i)) h) _:=q
   unfold M.bind at q'
   cases z:zaw n h with
   | bad=>rw [z] at q';exact qa0 q'
   | exc c h'=>unfold zaw at z;split at z<;>cases z
   | ok ds h'=>
    rw [z] at q'
    obtain ⟨rfl,z2⟩:=zcR z
    obtain ⟨a,vs,e,hn,hH,rl⟩:=hr.read r1 z2
    obtain ⟨d,e1,q⟩:=Fin.ofO hr q'
    obtain ⟨v,e2,rv⟩:=zf8 rl e1
    exact .inl ⟨a,vs,i,v,e,r2,SqL.of hH,e2,q v rv⟩
  | _=>exact qa0 q
 | _=>cases d1<;>exact qa0 q
noncomputable def zjA (o i d:D):M Unit:=match o,i with
 | .cel n,.int k=>do
  let ds<-zaw n
  let j<-ofO (ixN ds.length k)
  zcg n (ds.set j d)
 | _,_=>M.bad
theorem zqZ {o i:Expr} {pos:Pos} {fo fi:Sd->M D} (hp: ∀ {t:zrY},zsv X t->PG X (.Subscript o i pos) (ztw (zhS X.K E fo) (zhS X.K E fi) t)):
  SG X E (.Subscript o i pos) (fun d sd=>do let x<-fo sd;let y<-fi sd;zjA x y d;pure sd):=by
 refine PG.imp (hp zmd) fun v σ H Q ⟨ι,h,sd,d,L,hr,rd,q⟩=>⟨ι,h,sd,L,hr,Fin.bind q fun x h1 ι1 H1 e1 s1 hr1 q1 xv rx=> ?_⟩
 refine ⟨ι1,h1,sd,L.step s1,hr1,Fin.bind q1 fun y h2 ι2 H2 e2 s2 hr2 q2 yv ry=> ?_⟩
 cases x with
 | cel n=>
  cases y with
  | int k=>
   have rx2:=rx.step s2
   have q3:Fin X.K E ι2 H2 ((zaw n>>=fun ds=>(ofO (ixN ds.length k)>>=fun j=>zcg n (ds.set j d)>>=fun _=>pure sd)) h2) (fun sd' ι' H'=> ∀ σ',zcP X.K ι' H' sd' σ'->Q σ' H'):=by
    have e:(do zjA (.cel n) (.int k) d;pure sd:M Sd)=(zaw n>>=fun ds=>(ofO (ixN ds.length k)>>=fun j=>zcg n (ds.set j d)>>=fun _=>pure sd)):=by
     show ((zaw n>>=fun ds=>(ofO (ixN ds.length k)>>=fun j=>zcg n (ds.set j d)))>>=fun _=>pure sd)=_
     simp only [bind_assoc]
    rw [<- e]
    exact q2
   have q':Fin X.K E ι2 H2 (M.bind (zaw n) (fun ds=>(ofO (ixN ds.length k)>>=fun j=>zcg n (ds.set j d)>>=fun _=>pure sd)) h2) _:=q3
   unfold M.bind at q'
   cases z:zaw n h2 with
   | bad=>rw [z] at q';exact qa0 q'
   | exc c h'=>unfold zaw at z;split at z<;>cases z
   | ok ds h'=>
    rw [z] at q'
    obtain ⟨rfl,z2⟩:=zcR z
    obtain ⟨a,vs,e,hn,hH,rl⟩:=hr2.read rx2 z2
    simp only [Rel] at ry
    have q4:Fin X.K E ι2 H2 (M.bind (ofO (ixN ds.length k)) (fun j=>zcg n (ds.set j d)>>=fun _=>pure sd) h') _:=q'
    unfold M.bind at q4
    cases z3:ixN ds.length k with
    | none=>rw [z3] at q4;exact qa0 q4
    | some j=>
     rw [z3] at q4
     have q5:Fin X.K E ι2 H2 (R.ok sd (h'.set n (.lst (ds.set j d)))) (fun sd' ι' H'=> ∀ σ',zcP X.K ι' H' sd' σ'->Q σ' H'):=q4
     refine ⟨a,vs,k,j,e,ry,hH,by rw [<- rl.length];exact z3,?_⟩
     have rd2:=(rd.step s1).step s2
     exact q5 ι2 _ (hr2.cellS hn) (hr2.cell hn (rl.set rd2 j)) σ (((L.step s1).step s2).step (hr2.cellS hn))
  | _=>exact qa0 q2
 | _=>cases y<;>exact qa0 q2
end
noncomputable abbrev E0x:XE:=fun _ _=>False
noncomputable def zbP (K:W.Frag) (n:Nat) (F:List D->M D):Sp:=fun vs H Q _=>vs.length=n/\ ∃ ι h ds,zax K ι H ds vs/\zbe K ι H h/\Fin K E0x ι H (F ds h) fun d ι' H'=> ∀ v,Rel K ι' H' d v->Q v H'
noncomputable def zf0 (n:Nat) (ds:List D):Sd:=ds.map some++List.replicate (n - ds.length) none
noncomputable def zcw:Out->M D
 | .nx _=>pure .non
 | .rt d=>pure d
 | _=>M.bad
noncomputable def zcN (n:Nat) (G:Sd->M Out) (ds:List D):M D:=do let o<-G (zf0 n ds);zcw o
theorem zeq {K:W.Frag} {ι:Io} {H:Hp} {ds:List D} {vs:List V} {N:List Str} (h:zax K ι H ds vs):zcP K ι H (zf0 N.length ds) (L2.zem N vs):=by
 have hl:=h.length
 unfold zf0 L2.zem
 refine ⟨by simp [hl],fun i d e=> ?_⟩
 by_cases hi:i<ds.length
 ·rw [qad (by simpa using hi),List.getElem?_map] at e
  cases z:ds[i]? with
  | none=>rw [z] at e;cases e
  | some d'=>
   rw [z] at e
   cases e
   obtain ⟨v,h1,h2⟩:=h.get z
   exact ⟨v,by rw [qad (by rw [qaH, <-hl];exact hi),List.getElem?_map,h1];rfl,h2⟩
 ·rw [qaa (by simpa using hi),List.getElem?_replicate] at e
  split at e<;>cases e
section
variable {P:Program} {w:World} {K:W.Frag} {mg:Str->Option Value} {base:Heap}
theorem zbf {x qual:Str} {st:Stmt} {f:Addr} {fd:FuncData} {N ps:List Str} {k:Nat} {G:Sd->M Out} (F:Fun K x qual st f fd) (S:zat N ps (zah st))
  (hb: ∀ (cdv:Value) (A:Around) (outer:List Env) (s:Shared) (H:Hp) (E:XK),zej k (A.deeper (envOfC qual (zah st) s.heap.objs.size f cdv))->SSs (zhG CX0 P w K mg base N qual (zah st) f cdv A outer s H E).nox E0x (zcH st) G):
  zbN P w K mg base CX0 (k+1) f fd ps (zbP K ps.length (zcN N.length G)):=by
 refine F.ok S (fun vs H Q E h=>h.1) fun cdv A outer s H vs Q E hr ⟨hl,ι,h,ds,rl,hh,q⟩=>⟨_,hb cdv A outer s H E hr,ι,h,zf0 N.length ds,zeq rl,hh,?_⟩
 refine Fin.bind q fun o h1 ι1 H1 e1 s1 hr1 q1=> ?_
 cases o with
 | nx sd=>exact fun σ' _=>Fin.out hr1 q1 _ (by simp [Rel])
 | rt d=>exact fun v rv=>Fin.out hr1 q1 v rv
 | bk sd=>exact qa0 q1
 | ct sd=>exact qa0 q1
end
section
variable {X:Cx} {e:Expr} {es:List Expr} {pos p:Pos}
noncomputable def zaj (n:Nat) (F:List D->M D) (ds:List D):M D:=if ds.length=n then F ds else M.bad
theorem znz {k:Nat} {f:Addr} {fd:FuncData} {ps:List Str} {n:Nat} {F:List D->M D} {fs:Sd->M (List D)} {x:Str} (G:zbN X.prog X.w X.K X.mg X.base CX0 k f fd ps (zbP X.K n F)) (hr:zej k X.A) (hg:Gl X x) (hm:X.mg x=some (.ref f)) (hk:W.keepIn X.K (.ref f)=true) (hb:zaO X.K fd ps [])
  (ha:SA X E0x (e::es) fs) (hdb:(x==("__debug__":Str))=false:=by decide) (he:starEach (e::es) X.env=(false,eval e X.env)::starEach es X.env:=by rfl) (hpl:(backTo pos (starEach es X.env)).any (·.1)=false:=by rfl):
  SE X E0x (.Call (.Name x p) (e::es) [] pos) (fun sd=>do let ds<-fs sd;zaj n F ds):=by
 refine PE.imp (zhY G hr hg hm hk hb (dvs:=[]) .nil (E:=fun _ _ _=>False) zpN ha hdb he hpl) fun σ H Q ⟨ι,h,sd,L,hh,q⟩=>⟨ι,h,sd,L,hh,Fin.bind q fun ds h1 ι1 H1 e1 s1 hr1 q1 vs rv=> ?_⟩
 show zbP X.K n F (vs++[]) H1 Q _
 rw [List.append_nil]
 unfold zaj at q1
 by_cases hl:ds.length=n
 ·rw [qa4 hl] at q1
  exact ⟨by rw [<- rv.length];exact hl,ι1,h1,ds,rv,hr1,q1⟩
 ·rw [qa5 hl] at q1
  exact qa0 q1
end
section
variable {X:Cx} {E:XE}
theorem Fin.guard {α:Type} {K:W.Frag} {ι:Io} {H:Hp} {h:Hh} {c:Prop} [Decidable c] {f:M α} {P:α->Io->Hp->Prop} (q:Fin K E ι H ((if c then f else M.bad) h) P):c/\Fin K E ι H (f h) P:=by
 by_cases hc:c
 ·rw [qa4 hc] at q;exact ⟨hc,q⟩
 ·rw [qa5 hc] at q;exact qa0 q
theorem zl1:OpR X (binaryOp .Add) (fun x y H Q=> ∃ a b ys,x= .ref a/\y= .ref b/\SqT X.K H a []/\SqT X.K H b ys/\Q (.ref b) H):=by
 intro pins s σ H x y v u Q I rx ry h
 obtain ⟨a,b,ys,rfl,rfl,ha,hb,q⟩:=h
 cases rx
 cases ry
 obtain ⟨its,r1,p1,_⟩:=I.tuple ha
 obtain ⟨its2,r2,p2,_⟩:=I.tuple hb
 cases r1
 obtain ⟨⟨cls,dd,data,sl⟩,ho,hc,n,hd⟩:=id p1
 obtain ⟨⟨cls2,dd2,data2,sl2⟩,ho2,hc2,n2,hd2⟩:=id p2
 simp only at hc hd hc2 hd2
 subst hc hd hc2 hd2
 exact concat_meets ⟨_,ho,rfl⟩ ⟨_,ho2,rfl⟩ noFill_tuple_add seq_tuple_add PySem.F.slot_tuple_add PySem.F.entry_tuple_add (PySem.F.args_tuple_add_2 _ _)
   (tuple_addW0 a b _ _ n n2 dd dd2 sl sl2 (by simp)) ⟨ho,ho2,⟨.ref b,H,I,rfl,q⟩⟩
noncomputable def zbb (x y:D):M D:=match x,y with
 | .int i,.int j=>pure (.int (i+j))
 | .tup xs,.tup ys=>do fits (xs.length+ys.length);pure (.tup (xs++ys))
 | .lst xs,.lst ys=>do fits (xs.length+ys.length);pure (.lst (xs++ys))
 | .str x,.str y=>do fits (x.length+y.length);pure (.str (x++y))
 | _,_=>M.bad
theorem zav:OpR X (binaryOp .Add) (zdB X.K E zbb):=by
 refine OpR.imp (zrl.or (zl1.or (zor.or (zrF.or zjn)))) fun x y H Q ⟨ι,h,d1,d2,r1,r2,hr,q⟩=> ?_
 unfold zbb at q
 split at q
 ·simp only [Rel] at r1 r2
  exact .inl ⟨_,_,r1,r2,Fin.out hr q _ (by simp [Rel])⟩
 ·rename_i xs ys
  right
  obtain ⟨a,vs,e,h1,h2⟩:=zdd r1
  obtain ⟨b,ws,e',h1',h2'⟩:=zdd r2
  obtain ⟨z,q⟩:=Fin.fits q
  cases xs with
  | nil=>
   simp only [zax] at h2
   subst h2
   exact .inl ⟨a,b,ws,e,e',h1,h1',Fin.out hr q _ (by rw [<- e'];exact r2)⟩
  | cons x0 xr=>
   refine .inr (.inl ⟨a,b,vs,ws,e,e',h1,h1',fun z=> ?_,by rw [<- h2.length, <-h2'.length];exact z,fun z=> ?_,fun z p hp=>zpj hr (h2.append h2') q hp⟩)
   ·subst z
    have:=h2.length
    cases this
   ·subst z
    have:=h2'.length
    cases ys with
    | nil=>rw [List.append_nil] at q;exact Fin.out hr q _ (by rw [<- e];exact r1)
    | cons _ _=>cases this
 ·rename_i xs ys
  right;right;right;left
  simp only [Rel] at r1 r2
  obtain ⟨a,vs,e,h1,h2⟩:=r1
  obtain ⟨b,ws,e',h1',h2'⟩:=r2
  obtain ⟨z,q⟩:=Fin.fits q
  exact ⟨a,b,vs,ws,e,e',h1.1,h1'.1,by rw [<- h2.length, <-h2'.length];exact z,fun p hp=>zpi hr (h2.append h2') q hp⟩
 ·simp only [Rel] at r1 r2
  obtain ⟨z,q⟩:=Fin.fits q
  exact .inr (.inr (.inr (.inr ⟨_,_,r1,r2,z,Fin.out hr q _ (by simp [Rel])⟩)))
 ·exact qa0 q
noncomputable def dII (C:Int->Int->Bool) (g:Int->Int->D) (x y:D):M D:=match x,y with
 | .int i,.int j=>if C i j=true then pure (g i j) else M.bad
 | _,_=>M.bad
theorem zhV {f:Value->Value->Sem Value} {C:Int->Int->Bool} {C':Int->Int->Prop} {g:Int->Int->V} {g':Int->Int->D} (ho:OpR X f (rI C' g)) (hc: ∀ i j,C i j=true->C' i j) (hg: ∀ i j ι H,Rel X.K ι H (g' i j) (g i j)):OpR X f (zdB X.K E (dII C g')):=by
 refine OpR.imp ho fun x y H Q ⟨ι,h,d1,d2,r1,r2,hr,q⟩=> ?_
 unfold dII at q
 split at q
 ·simp only [Rel] at r1 r2
  obtain ⟨c,q⟩:=Fin.guard q
  exact ⟨_,_,r1,r2,hc _ _ c,Fin.out hr q _ (hg _ _ _ _)⟩
 ·exact qa0 q
theorem zfZ {f:Value->Value->Sem Value} {g:Int->Int->V} {g':Int->Int->D} (ho:OpR X f (rI0 g)) (hg: ∀ i j ι H,Rel X.K ι H (g' i j) (g i j)):OpR X f (zdB X.K E (dII (fun _ _=>true) g')):=by
 refine OpR.imp ho fun x y H Q ⟨ι,h,d1,d2,r1,r2,hr,q⟩=> ?_
 unfold dII at q
 split at q
 ·simp only [Rel] at r1 r2
  obtain ⟨c,q⟩:=Fin.guard q
  exact ⟨_,_,r1,r2,Fin.out hr q _ (hg _ _ _ _)⟩
 ·exact qa0 q
noncomputable def zjt:=dII (fun _ _=>true) fun i j=> .int (i - j)
theorem zex:OpR X (binaryOp .Sub) (zdB X.K E zjt):=zfZ zqn fun _ _ _ _=>by simp [Rel]
noncomputable def zbr (i:Int):Bool:=decide (-(2^64)<i) && decide (i<2^64)
theorem zcZ {i:Int} (h:zbr i=true): -(2^64)<i/\i<2^64:=by unfold zbr at h;simpa using h
theorem zmp:OpR X (binaryOp .FloorDiv) (rI (fun _ j=>0<j/\j<2^64) fun i j=> .int (i / j)):=opI fun i j _ _ _ _ _ hc q=>by
 refine floordiv_int (by omega) (by rw [Int.fdiv_eq_ediv_of_nonneg _ (by omega)];exact q) (.inl (PyProof.noPylong_of_log2 ?_))
 have h1:j.natAbs<2^64:=by omega
 have h0:j.natAbs≠0:=by omega
 exact Nat.lt_trans ((Nat.log2_lt h0).mpr h1) (by decide)
noncomputable def zl7:=dII (fun _ j=>decide (0<j) && decide (j<2^64)) fun i j=> .int (i / j)
theorem zir:OpR X (binaryOp .FloorDiv) (zdB X.K E zl7):=zhV zmp (fun i j h=>by simpa using h) fun _ _ _ _=>by simp [Rel]
noncomputable def zml:=dII (fun _ j=>decide (0<j)) fun i j=> .int (i % j)
theorem zdL:OpR X (binaryOp .Mod) (zdB X.K E zml):=zhV zrV (fun i j h=>by simpa using h) fun _ _ _ _=>by simp [Rel]
noncomputable def zpn (i j:Int):Bool:=decide (0<=j) && decide (j<=1000000) && decide (i.natAbs<2^64)
noncomputable def zr6:=dII zpn fun i j=> .int (i^j.toNat)
theorem ziL {i j:Int} (h:zpn i j=true):zr5 i j:=by unfold zpn at h;simpa [zr5,and_assoc] using h
theorem zn5:OpR X (binaryOp .Pow) (zdB X.K E zr6):=zhV zrm (fun _ _=>ziL) fun _ _ _ _=>by simp [Rel]
noncomputable def zsy:=dII zpn fun i j=> .int (i*2^j.toNat)
theorem znX:OpR X (binaryOp .LShift) (zdB X.K E zsy):=zhV zqX (fun _ _=>ziL) fun _ _ _ _=>by simp [Rel]
noncomputable def zsA:=dII (fun _ j=>decide (0<=j)) fun i j=> .int (i / 2^j.toNat)
theorem znK:OpR X (binaryOp .RShift) (zdB X.K E zsA):=zhV zqI (fun i j h=>by simpa using h) fun _ _ _ _=>by simp [Rel]
noncomputable def zsw:=dII (fun _ _=>true) fun i j=> .int (Builtin.bitAnd i j)
theorem znG:OpR X (binaryOp .BitAnd) (zdB X.K E zsw):=zfZ zp8 fun _ _ _ _=>by simp [Rel]
noncomputable def dLt:=dII (fun _ _=>true) fun i j=> .bl (decide (i<j))
theorem zkN:OpR X (compareOp .Lt) (zdB X.K E dLt):=zfZ zss fun _ _ _ _=>by simp [Rel]
noncomputable def dLe:=dII (fun _ _=>true) fun i j=> .bl (decide (i<=j))
theorem zrD:OpR X (compareOp .LtE) (zdB X.K E dLe):=zfZ zse fun _ _ _ _=>by simp [Rel]
noncomputable def dGt:=dII (fun _ _=>true) fun i j=> .bl (decide (j<i))
theorem zfQ:OpR X (compareOp .Gt) (zdB X.K E dGt):=zfZ zsh fun _ _ _ _=>by simp [Rel]
noncomputable def dGe:=dII (fun _ _=>true) fun i j=> .bl (decide (j<=i))
theorem zjU:OpR X (compareOp .GtE) (zdB X.K E dGe):=zfZ ztt fun _ _ _ _=>by simp [Rel]
noncomputable def zju:D->M D
 | .int i=>pure (.int (-i))
 | _=>M.bad
theorem zrI {a:Expr} {pos:Pos} {fa:Sd->M D} (ha:SE X E a fa):SE X E (.UnaryOp .USub a pos) (fun sd=>do let x<-fa sd;zju x):=by
 refine PE.imp (zrU zm3 ha) fun σ H Q ⟨ι,h,sd,L,hh,q⟩=>⟨ι,h,sd,L,hh,Fin.bind q fun d h1 ι1 H1 e1 s1 hr1 q1 v rv=> ?_⟩
 cases d with
 | int i=>simp only [Rel] at rv;exact ⟨i,rv,Fin.out hr1 q1 _ (by simp [Rel])⟩
 | _=>exact qa0 q1
mutual
noncomputable def pd:D->Option PyData
 | .non=>some .none
 | .bl b=>some (.bool b)
 | .int i=>some (.int i)
 | .str x=>some (.str x)
 | .tup xs=>(pdL xs).map .tuple
 | .lst xs=>(pdL xs).map .list
 | .scr xs=>(pdL xs).map .list
 | _=>none
noncomputable def pdL:List D->Option (List PyData)
 | []=>some []
 | x::xs=>match pd x,pdL xs with
  | some a,some r=>some (a::r)
  | _,_=>none
end
mutual
theorem zfo {pins:List (Addr×Obj)} {σ:L2.St} {H:Hp} {s:Shared} {ι:Io} (I:Inv X pins σ H s): ∀ {d:D} {v:V} {u:Value} {p:PyData},Rel X.K ι H d v->zb2 v u->pd d=some p-> ∃ as,Reads s.heap u p as
 | .non,v,u,p,r,ru,e=>by simp only [Rel] at r;subst r;cases ru;cases e;exact ⟨_,.none⟩
 | .bl b,v,u,p,r,ru,e=>by simp only [Rel] at r;subst r;cases ru;cases e;exact ⟨_,.bool _⟩
 | .int i,v,u,p,r,ru,e=>by simp only [Rel] at r;subst r;obtain ⟨t,rfl⟩:=ru;cases e;exact ⟨_,.int _ _⟩
 | .str i,v,u,p,r,ru,e=>by simp only [Rel] at r;subst r;obtain ⟨t,rfl⟩:=ru;cases e;exact ⟨_,.str _ _⟩
 | .tup ds,v,u,p,r,ru,e=>by
  obtain ⟨a,vs,rfl,h1,h2⟩:=zdd r
  cases ru
  obtain ⟨its,rv,pl,_⟩:=I.tuple h1
  obtain ⟨o,ho,hc,n,hd⟩:=pl
  unfold pd at e
  cases z:pdL ds with
  | none=>rw [z] at e;cases e
  | some ps=>
   rw [z] at e;cases e
   obtain ⟨as,q⟩:=zgM I h2 rv z
   exact ⟨_,.tuple ho hc hd (by simpa using q)⟩
 | .lst ds,v,u,p,r,ru,e=>by
  obtain ⟨a,vs,rfl,h1,h2⟩:=zdk r
  cases ru
  obtain ⟨its,rv,pl,_⟩:=I.list h1
  obtain ⟨o,ho,hc,n,hd⟩:=pl.isList
  unfold pd at e
  cases z:pdL ds with
  | none=>rw [z] at e;cases e
  | some ps=>
   rw [z] at e;cases e
   obtain ⟨as,q⟩:=zgM I h2 rv z
   exact ⟨_,.list ho hc hd (by simpa using q)⟩
 | .scr ds,v,u,p,r,ru,e=>by
  obtain ⟨a,vs,rfl,h1,h2⟩:=zlc r
  cases ru
  obtain ⟨its,rv,pl,_⟩:=I.list h1
  obtain ⟨o,ho,hc,n,hd⟩:=pl.isList
  unfold pd at e
  cases z:pdL ds with
  | none=>rw [z] at e;cases e
  | some ps=>
   rw [z] at e;cases e
   obtain ⟨as,q⟩:=zgM I h2 rv z
   exact ⟨_,.list ho hc hd (by simpa using q)⟩
 | .cel n,_,_,_,_,_,e=>by cases e
 | .set xs,_,_,_,_,_,e=>by cases e
 | .dct,_,_,_,_,_,e=>by cases e
 | .fn _,_,_,_,_,_,e=>by cases e
 | .exn _,_,_,_,_,_,e=>by cases e
theorem zgM {pins:List (Addr×Obj)} {σ:L2.St} {H:Hp} {s:Shared} {ι:Io} (I:Inv X pins σ H s): ∀ {ds:List D} {vs:List V} {us:List Value} {ps:List PyData},zax X.K ι H ds vs->zbh vs us->pdL ds=some ps-> ∃ as,ReadsAll s.heap us ps as
 | [],vs,us,ps,r,ru,e=>by simp only [zax] at r;subst r;cases ru;cases e;exact ⟨_,.nil⟩
 | d::ds,vs,us,ps,r,ru,e=>by
  simp only [zax] at r
  obtain ⟨v,vr,rfl,r1,r2⟩:=r
  cases ru with
  | cons ru1 ru2=>
   unfold pdL at e
   cases z:pd d with
   | none=>rw [z] at e;cases e
   | some a=>
    cases z2:pdL ds with
    | none=>rw [z,z2] at e;cases e
    | some b=>
     rw [z,z2] at e
     cases e
     obtain ⟨as,q1⟩:=zfo I r1 ru1 z
     obtain ⟨bs,q2⟩:=zgM I r2 ru2 z2
     exact ⟨_,.cons q1 q2⟩
end
noncomputable def zeI (a b:PyData):Bool:=a.canLay0 && b.canLay0 && decide (min a.depth b.depth<=60)
noncomputable def zhg (neg:Bool) (x y:D):M D:=match pd x,pd y with
 | some a,some b=>if zeI a b=true then pure (.bl (if neg then !PyData.eqv a b else PyData.eqv a b)) else M.bad
 | _,_=>M.bad
noncomputable def dEq:=zhg false
noncomputable def dNe:=zhg true
theorem zf4 {a b:PyData} (h:zeI a b=true):a.canLay0=true/\b.canLay0=true/\min a.depth b.depth<=60:=by unfold zeI at h;simpa [and_assoc] using h
theorem zie {K:W.Frag} {ι:Io} {H:Hp} {h:Hh} {neg:Bool} {x y:D} {P:D->Io->Hp->Prop} (q:Fin K E ι H (zhg neg x y h) P): ∃ a b,pd x=some a/\pd y=some b/\zeI a b=true/\Fin K E ι H ((pure (.bl (if neg then !PyData.eqv a b else PyData.eqv a b)):M D) h) P:=by
 unfold zhg at q
 cases e1:pd x with
 | none=>rw [e1] at q;exact qa0 q
 | some a=>
  cases e2:pd y with
  | none=>rw [e1,e2] at q;exact qa0 q
  | some b=>
   rw [e1,e2] at q
   obtain ⟨c,q⟩:=Fin.guard q
   exact ⟨a,b,rfl,rfl,c,q⟩
theorem zbE (hu:X.A.units+60<cLine):OpR X (compareOp .Eq) (zdB X.K E dEq):=by
 intro pins s σ H x y v u Q I rx ry ⟨ι,h,d1,d2,r1,r2,hr,q⟩
 obtain ⟨a,b,e1,e2,c,q2⟩:=zie q
 obtain ⟨c1,c2,c3⟩:=zf4 c
 obtain ⟨as,ra⟩:=zfo I r1 rx e1
 obtain ⟨bs,rb⟩:=zfo I r2 ry e2
 exact SeqAt.compareEq_reads ra rb c1 c2 (by omega) ⟨.bl _,H,I,rfl,Fin.out hr q2 (.bl _) (by simp [Rel])⟩
theorem zdc (hu:X.A.units+60<cLine):OpR X (compareOp .NotEq) (zdB X.K E dNe):=by
 intro pins s σ H x y v u Q I rx ry ⟨ι,h,d1,d2,r1,r2,hr,q⟩
 obtain ⟨a,b,e1,e2,c,q2⟩:=zie q
 obtain ⟨c1,c2,c3⟩:=zf4 c
 obtain ⟨as,ra⟩:=zfo I r1 rx e1
 obtain ⟨bs,rb⟩:=zfo I r2 ry e2
 exact SeqAt.compareNe_reads ra rb c1 c2 (by omega) ⟨.bl _,H,I,rfl,Fin.out hr q2 (.bl _) (by simp [Rel])⟩
noncomputable def zkH (a:PyData) (xs:List PyData):Bool:=a.canLay0 && PyData.canLayAll0 xs && decide (min (PyData.depthAll xs) a.depth<=50)
theorem zig {a:PyData} {xs:List PyData} (h:zkH a xs=true):a.canLay0=true/\PyData.canLayAll0 xs=true/\min (PyData.depthAll xs) a.depth<=50:=by unfold zkH at h;simpa [and_assoc] using h
noncomputable def zlC (neg:Bool) (x c:D):M D:=match pd x,c with
 | some a,.tup ds=>match pdL ds with
  | some xs=>if zkH a xs=true then pure (.bl (if neg then !xs.any (fun y=>PyData.eqv y a) else xs.any fun y=>PyData.eqv y a)) else M.bad
  | none=>M.bad
 | some a,.lst ds=>match pdL ds with
  | some xs=>if zkH a xs=true then pure (.bl (if neg then !xs.any (fun y=>PyData.eqv y a) else xs.any fun y=>PyData.eqv y a)) else M.bad
  | none=>M.bad
 | _,_=>M.bad
noncomputable def dIn:=zlC false
noncomputable def zbY:=zlC true
theorem ziK {K:W.Frag} {ι:Io} {H:Hp} {h:Hh} {neg:Bool} {x c:D} {P:D->Io->Hp->Prop} (q:Fin K E ι H (zlC neg x c h) P): ∃ a ds xs,pd x=some a/\pdL ds=some xs/\(c= .tup ds\/c= .lst ds)/\zkH a xs=true/\
  Fin K E ι H ((pure (.bl (if neg then !xs.any (fun y=>PyData.eqv y a) else xs.any fun y=>PyData.eqv y a)):M D) h) P:=by
 unfold zlC at q
 cases e1:pd x with
 | none=>rw [e1] at q;exact qa0 q
 | some a=>
  rw [e1] at q
  cases c with
  | tup ds=>
   dsimp only at q
   cases e2:pdL ds with
   | none=>rw [e2] at q;exact qa0 q
   | some xs=>
    rw [e2] at q
    obtain ⟨c,q⟩:=Fin.guard q
    exact ⟨a,ds,xs,rfl,e2,.inl rfl,c,q⟩
  | lst ds=>
   dsimp only at q
   cases e2:pdL ds with
   | none=>rw [e2] at q;exact qa0 q
   | some xs=>
    rw [e2] at q
    obtain ⟨c,q⟩:=Fin.guard q
    exact ⟨a,ds,xs,rfl,e2,.inr rfl,c,q⟩
  | _=>exact qa0 q
theorem znj (hu:X.A.units+60<cLine):OpR X (compareOp .In) (zdB X.K E dIn):=by
 intro pins s σ H x y v u Q I rx ry ⟨ι,h,d1,d2,r1,r2,hr,q⟩
 obtain ⟨a,ds,xs,e1,e2,ec,c,q2⟩:=ziK q
 obtain ⟨c1,c2,c3⟩:=zig c
 obtain ⟨as,ra⟩:=zfo I r1 rx e1
 rcases ec with rfl | rfl
 ·obtain ⟨bs,rb⟩:=zfo I r2 ry (p:= .tuple xs) (by unfold pd;rw [e2];rfl)
  exact SeqAt.in_tuple_reads rb ra c2 c1 (by omega) ⟨.bl _,H,I,rfl,Fin.out hr q2 (.bl _) (by simp [Rel])⟩
 ·obtain ⟨bs,rb⟩:=zfo I r2 ry (p:= .list xs) (by unfold pd;rw [e2];rfl)
  exact SeqAt.in_list_reads rb ra c2 c1 (by omega) ⟨.bl _,H,I,rfl,Fin.out hr q2 (.bl _) (by simp [Rel])⟩
theorem zbH (hu:X.A.units+60<cLine):OpR X (compareOp .NotIn) (zdB X.K E zbY):=by
 intro pins s σ H x y v u Q I rx ry ⟨ι,h,d1,d2,r1,r2,hr,q⟩
 obtain ⟨a,ds,xs,e1,e2,ec,c,q2⟩:=ziK q
 obtain ⟨c1,c2,c3⟩:=zig c
 obtain ⟨as,ra⟩:=zfo I r1 rx e1
 rcases ec with rfl | rfl
 ·obtain ⟨bs,rb⟩:=zfo I r2 ry (p:= .tuple xs) (by unfold pd;rw [e2];rfl)
  exact SeqAt.notIn_tuple_reads rb ra c2 c1 (by omega) ⟨.bl _,H,I,rfl,Fin.out hr q2 (.bl _) (by simp [Rel])⟩
 ·obtain ⟨bs,rb⟩:=zfo I r2 ry (p:= .list xs) (by unfold pd;rw [e2];rfl)
  exact SeqAt.notIn_list_reads rb ra c2 c1 (by omega) ⟨.bl _,H,I,rfl,Fin.out hr q2 (.bl _) (by simp [Rel])⟩
end
end L3
namespace HT
open PySem PySem.Spec PyProof.Rows L2
section
variable {prog:Program} {w:World} {A:Around} {E:Value->Shared->Prop} {s:Shared}
theorem zdH {t sl:Addr} {items:Array Value} {vl vu:Value} {lo hi:Option Int} {Q:Value->Shared->Prop} (ht:IsTup s.heap t items) (hs:s.heap.IsSliceOf sl vl vu .none) (pl:IsPart vl lo) (pu:IsPart vu hi)
  (hw:sIx items.size 0 lo=0/\sIx items.size items.size hi=items.size) (h:Q (.ref t) s):wpAny (model prog w) A (getItem (.ref t) (.ref sl)) Q E s:=by
 obtain ⟨os,hos,hcs,hds⟩:=id hs
 have hTs:s.TypeIs (.ref sl) "slice":=⟨os,hos,hcs⟩
 unfold getItem
 try with_reducible refine qaO ?_
 first | refine qaW (qaX ?_) | skip
 refine qaW (wpAny_sequenceKey ht.typeIs (by decide) ?_)
 refine qaW (wpAny_callSpecial?_slot (name:=Str.ofString "__getitem__") ht.typeIs PyProof.Rows.slot_tuple_getitem
   (wpAny_call_entry PyProof.Rows.slot_tuple_getitem ht.typeIs entry_tuple_getitem ?_ (args_tuple_getitem _ _)))
 show wpAny _ _ (Builtin.Tuple.tupleItemsOf (.ref t)>>=_) _ _ s
 refine qaW (tupleItemsOf_ ht ?_)
 refine qaW (wpAny_typeOf hTs ?_)
 rw [qa4 (by decide)]
 refine qaW (zdb hs pl pu ?_)
 show wpAny _ _ (if (((sIx items.size 0 lo:Nat):Int)==0 && (1:Int)==1 && (sIx items.size items.size hi - sIx items.size 0 lo)==items.size)=true then _ else _) _ _ s
 rw [hw.1,hw.2,qa4 (by simp)]
 refine qaW (m:=Builtin.Tuple.tupleIsExact _) (qaW (wpAny_typeOf ht.typeIs (qaX ?_)))
 rw [qa4 (by decide)]
 refine qaW (wpAny_rule ?_)
 exact qaX ⟨_,rfl,qaX h⟩
theorem zeM {sl:Addr} {t:Tok} {n:Nat} {Q:Int×Int×Nat->Shared->Prop} (hs:s.heap.IsSliceOf sl .none .none (.int (-1) t))
  (h:Q ((n:Int) - 1, -1,n) s):wpAny (model prog w) A (Builtin.Slice.sliceApplied (.ref sl) (pure (n:Int))) Q E s:=by
 obtain ⟨os,hos,hcs,hds⟩:=id hs
 unfold Builtin.Slice.sliceApplied Builtin.Slice.sliceFields
 refine qaW (qaW (wpAny_field hos hds (x:= .none) rfl (qaW (wpAny_field hos hds (x:= .none) rfl (qaW (wpAny_field hos hds (x:= .int (-1) t) rfl (qaX ?_)))))))
 refine qaW (slicePart_int ?_)
 show wpAny _ _ (if ((-1:Int)==0)=true then _ else _) _ _ s
 rw [qa5 (by decide)]
 refine qaW (slicePart_none (qaW (slicePart_none (qaW (qaX ?_)))))
 show wpAny _ _ (pure ((n:Int) - 1,(-1:Int),Builtin.Slice.slicePlaces ((n:Int) - 1) (-1) (-1))) _ _ s
 have e:Builtin.Slice.slicePlaces ((n:Int) - 1) (-1) (-1)=n:=by
  unfold Builtin.Slice.slicePlaces
  rw [qa5 (by decide)]
  have:(-(-1):Int)=1:=by decide
  rw [this,Int.ediv_one]
  split<;>omega
 rw [e]
 exact qaX h
theorem zms (xs:Array Value):((List.range xs.size).filterMap fun (m:Nat)=>xs[((xs.size:Int) - 1+(m:Int)*(-1)).toNat]?).toArray=xs.toList.reverse.toArray:=by
 congr 1
 have e: ∀ n,n<=xs.size->(List.range n).filterMap (fun (m:Nat)=>xs[((xs.size:Int) - 1+(m:Int)*(-1)).toNat]?)=(xs.toList.reverse).take n:=by
  intro n
  induction n with
  | zero=>intro _;simp
  | succ n ih=>
   intro hn
   rw [List.range_succ,List.filterMap_append,ih (by omega),List.take_add_one]
   congr 1
   have e1:((xs.size:Int) - 1+(n:Int)*(-1)).toNat=xs.size - 1 - n:=by omega
   rw [qat,List.filterMap_nil,e1]
   have h1:xs.size - 1 - n<xs.size:=by omega
   rw [List.getElem?_reverse (by simp;omega)]
   simp [h1]
 rw [e _ (qaV _),List.take_of_length_le (by simp)]
theorem zer {t sl:Addr} {items:Array Value} {tk:Tok} {Q:Value->Shared->Prop} (ht:IsTup s.heap t items) (hs:s.heap.IsSliceOf sl .none .none (.int (-1) tk))
  (h:Q (.ref s.heap.objs.size) {s with heap:=s.heap.push {cls:= .type "tuple",data:= .seq items.toList.reverse.toArray}})
  (hsz:items.size<=sizeLine):wpAny (model prog w) A (getItem (.ref t) (.ref sl)) Q E s:=by
 have htake:sizeOk (.seq items.toList.reverse.toArray):=by
  show items.toList.reverse.toArray.size<=sizeLine
  simpa using hsz
 obtain ⟨os,hos,hcs,hds⟩:=id hs
 have hTs:s.TypeIs (.ref sl) "slice":=⟨os,hos,hcs⟩
 unfold getItem
 try with_reducible refine qaO ?_
 first | refine qaW (qaX ?_) | skip
 refine qaW (wpAny_sequenceKey ht.typeIs (by decide) ?_)
 refine qaW (wpAny_callSpecial?_slot (name:=Str.ofString "__getitem__") ht.typeIs PyProof.Rows.slot_tuple_getitem
   (wpAny_call_entry PyProof.Rows.slot_tuple_getitem ht.typeIs entry_tuple_getitem ?_ (args_tuple_getitem _ _)))
 show wpAny _ _ (Builtin.Tuple.tupleItemsOf (.ref t)>>=_) _ _ s
 refine qaW (tupleItemsOf_ ht ?_)
 refine qaW (wpAny_typeOf hTs ?_)
 rw [qa4 (by decide)]
 refine qaW (zeM hs ?_)
 show wpAny _ _ (if ((((items.size:Int) - 1)==0 && (-1:Int)==1 && items.size==items.size)=true) then _ else _) _ _ s
 rw [qa5 (by simp),zms]
 first
  | exact qaW (m:=Builtin.Tuple.tupleExact _) (qaC (qaX ⟨_,rfl,qaX h⟩) htake)
  | exact qaW (m:=Builtin.Tuple.tupleExact _) (qaC (qaW (qaX (qaX ⟨_,rfl,qaX h⟩))) htake)
  | exact qaW (qaW (m:=Builtin.Tuple.tupleExact _) (qaC (qaX (qaX ⟨_,rfl,qaX h⟩)) htake))
  | exact qaW (qaW (m:=Builtin.Tuple.tupleExact _) (qaC (qaX ⟨_,rfl,qaX h⟩) htake))
end
end HT
namespace L2
open PySem PySem.Spec PyProof.Rows
section
variable {X:Cx} {e:Expr} {te:TE} {pos p2:Pos}
theorem zoM:SlR X (fun x lo hi H Q=> ∃ a xs,x= .ref a/\SqT X.K H a xs/\(HT.sIx xs.length 0 lo=0/\HT.sIx xs.length xs.length hi=xs.length)/\Q (.ref a) H):=by
 intro pins s σ H x v vl vu lo hi sl Q I rx hs pl pu h
 obtain ⟨a,xs,rfl,hx,hw,q⟩:=h
 cases rx
 obtain ⟨its,r,ht,hz⟩:=I.tuple hx
 have hlen:its.toArray.size=xs.length:=by rw [qaA];exact r.length.symm
 refine ⟨"tuple",_,PyProof.Rows.slot_tuple_getitem.lookup,ht.typeIs,?_⟩
 exact HT.zdH ht hs pl pu (by rw [hlen];exact hw) ⟨.ref a,H,I,rfl,q⟩
theorem zpW {st:Expr} (he:PE X e te) (hst:PE X st (tC (.int (-1)))):PE X (.Subscript e (.Slice none none (some st) p2) pos) (fun σ H Q=>te σ H fun x H1=> ∃ a xs,x= .ref a/\SqT X.K H1 a xs/\ ∀ p,H1 p=none->Q (.ref p) (upd H1 p (.tup xs.reverse))):=by
 intro pins s σ H Q I h
 refine Subscript_ (thn (he pins s σ H _ I h) fun v s1 ⟨x,H1,I1,r1,q1⟩=> ?_)
 obtain ⟨a,xs,rfl,hx,q⟩:=q1
 cases r1
 refine wpAny_Slice ?_
 rw [evalPart_none]
 refine qaX (qaX ?_)
 rw [evalPart_some]
 refine thn (hst pins s1 σ H1 (fun z Hz=>z= .int (-1)/\Hz=H1) I1 ⟨rfl,rfl⟩) fun u s2 ⟨z,Hz,I2,rz,ez,eH⟩=> ?_
 subst ez eH
 obtain ⟨t,rfl⟩:=rz
 have I4:Inv X pins σ Hz {s2 with heap:=s2.heap.push {cls:= .type "slice",data:= .fields #[.none,.none,.int (-1) t]}}:=I2.kept (t':=s2.toks) fun b ob q=>qag _ q
 obtain ⟨its,r,ht,hz⟩:=I4.tuple hx
 have hlen:its.toArray.size=xs.length:=by rw [qaA];exact r.length.symm
 show wpAny (model X.prog X.w) X.A (subscriptTail e (.Slice none none (some st) p2) (.ref a) (.ref s2.heap.objs.size)) (EP X pins σ Q) X.xe {s2 with heap:=s2.heap.push {cls:= .type "slice",data:= .fields #[.none,.none,.int (-1) t]}}
 refine tail_any (ops:=[.ref a,.ref s2.heap.objs.size]) ht.typeIs PyProof.Rows.slot_tuple_getitem.lookup (HT.zer ht ⟨_,qar _ rfl,rfl,rfl⟩ ?_ (by rw [hlen];exact hz)) (by with_unfolding_all rfl)
 refine ⟨.ref _,_,I4.laid (t':=s2.toks) (o:= .tup xs.reverse) (fun b ob q=>qag _ q) (qaV _) ?_,rfl,q _ (I4.hok.fresh (qaV _))⟩
 refine ⟨by rw [List.length_reverse];exact hz,its.reverse,r.reverse,?_⟩
 exact zk2.new _ _
theorem zeK:fillsNumberSlot (.type "tuple") "mul"=pure false:=
 PySem.fillsNumberSlot_seq (id:="tuple.__mul__") (r:=some (.builtin "tuple.__rmul__")) F.slot_tuple_mul.lookup (by decide +kernel) F.slot_tuple_rmul.lookup (by decide +kernel)
theorem zg3:seqRepeat? (.type "tuple")=pure (some (.builtin "tuple.__mul__")):=by
 unfold seqRepeat?
 rw [PySem.seqSlot_of (T:="tuple") (name:="__mul__") (id:="tuple.__mul__") F.slot_tuple_mul.lookup (by decide +kernel),PySem.seqSlot_of (T:="tuple") (name:="__rmul__") (id:="tuple.__rmul__") F.slot_tuple_rmul.lookup (by decide +kernel)]
 rfl
theorem zfF (k:Int) (t:Tok) (l:Addr) (items:Array Value) (n:Nat) (dd:Option Addr) (sl:Array (Option Value)):
  Meets (Builtin.«int.__rmul__» ⟨[.int k t,.ref l],[]⟩) (fun _ R s=>s.heap.get? l=some {cls:= .type "tuple",dict:=dd,data:= .seq items n,slots:=sl}/\R (.ok (.ret Value.notImplemented)) s):=
 .of_wp fun prog w A R s h=>by obtain ⟨hp,g,d,tk,os⟩:=s;obtain ⟨hl,h⟩:=h;wp_walk;exact ⟨_,rfl,h⟩
theorem zjz (k:Int) (t:Tok) (l:Addr) (items:Array Value) (n:Nat) (dd:Option Addr) (sl:Array (Option Value)) (hne:items.isEmpty=false) (hk:2<=k) (hk2:k<1000) (hz:items.size*k.toNat<=sizeLine):
  Meets (Builtin.«tuple.__mul__» ⟨[.ref l,.int k t],[]⟩) (fun _ R s=>s.heap.get? l=some {cls:= .type "tuple",dict:=dd,data:= .seq items n,slots:=sl}/\
    R (.ok (.ret (.ref s.heap.objs.size))) {s with heap:=s.heap.push {cls:= .type "tuple",data:= .seq ((List.replicate k.toNat items).foldl (· ++ ·) #[])}}):=
 .of_wp fun prog w A R s h=>by
  obtain ⟨hp,g,d,tk,os⟩:=s;obtain ⟨hl,h⟩:=h
  unfold Builtin.«tuple.__mul__» 
  wp_walk
  have hk63: ¬(decide (k< -2^63) || decide (k>=2^63))=true:=by
   rw [Bool.or_eq_true,qaD,qaD]
   omega
  rw [qa5 hk63]
  dsimp only
  have ht:IsTup hp l items:=⟨_,hl,rfl,_,rfl⟩
  refine qaW (tupleItemsOf_ ht ?_)
  have h1: ¬(items.isEmpty || k==1)=true:=by
   rw [hne,Bool.false_or,beq_iff_eq]
   omega
  rw [qa5 h1]
  have h2: ¬(decide (k<=0) || items.isEmpty)=true:=by
   rw [hne,Bool.or_false,qaD]
   omega
  rw [qa5 h2]
  have hk0:((k.toNat:Nat):Int)=k:=Int.toNat_of_nonneg (by omega)
  have hm:((items.size:Nat):Int)*k=((items.size*k.toNat:Nat):Int):=by rw [Int.natCast_mul,hk0]
  have hsl:(sizeLine:Nat)=16777216:=by decide
  have h3: ¬((items.size:Int)*k>(2^63 - 1) / 8):=by
   rw [hm]
   omega
  rw [qa5 h3]
  have h4: ¬Builtin.Tuple.tupleTooMany ((items.size:Int)*k)=true:=by
   unfold Builtin.Tuple.tupleTooMany
   rw [hm,qaD]
   omega
  rw [qa5 h4]
  have hsz:sizeOk (.seq (List.foldl (fun x1 x2=>x1++x2) #[] (List.replicate k.toNat items))):=by
   show (List.foldl (fun x1 x2=>x1++x2) #[] (List.replicate k.toNat items)).size<=sizeLine
   have e: ∀ (m:Nat) (acc:Array Value),(List.foldl (fun x1 x2=>x1++x2) acc (List.replicate m items)).size=acc.size+m*items.size:=by
    intro m
    induction m with
    | zero=>intro acc;simp
    | succ m ih=>intro acc;rw [List.replicate_succ,List.foldl_cons,ih,Array.size_append,Nat.succ_mul];omega
   rw [e,Nat.mul_comm]
   simpa using hz
  exact qaW (m:=Builtin.Tuple.tupleExact _) (qaC (qaX ⟨_,rfl,h⟩) hsz)
theorem znP:OpR X (binaryOp .Mult) (fun x y H Q=> ∃ a k xs,x= .ref a/\y= .int k/\SqT X.K H a xs/\xs≠[]/\2<=k/\k<1000/\xs.length*k.toNat<=sizeLine/\ ∀ p,H p=none->Q (.ref p) (upd H p (.tup (List.replicate k.toNat xs).flatten))):=by
 intro pins s σ H x y v u Q I rx ry h
 obtain ⟨a,k,xs,rfl,rfl,hx,hne,h1,h2,hz,q⟩:=h
 cases rx
 obtain ⟨t,rfl⟩:=ry
 obtain ⟨its,r,ht,_⟩:=I.tuple hx
 have hl:=r.length
 obtain ⟨⟨cls,dd,data,sl⟩,ho,hc,n,hd⟩:=id ht
 simp only at hc hd
 subst hc hd
 have hemp:its.toArray.isEmpty=false:=by
  cases its with
  | nil=>cases r;exact absurd rfl hne
  | cons _ _=>simp
 refine wpAny_binaryOp_repeat_ref (T:="tuple") (U:="int") (by decide) ⟨_,ho,rfl⟩ (fun s'=>typeIs_int s' k t) zeK F.fills_int_mul F.slot_int_rmul zg3 F.slot_int_index.lookup
  (call_meets F.slot_int_rmul (typeIs_int s k t) F.entry_int_rmul (F.args_int_rmul_2 _ _) (zfF k t a its.toArray n dd sl)
    ⟨ho,rfl,⟨_,ho,rfl⟩,call_meets F.slot_tuple_mul ⟨_,ho,rfl⟩ F.entry_tuple_mul (F.args_tuple_mul_2 _ _) (zjz k t a its.toArray n dd sl hemp h1 h2 (by rw [qaA, <-hl];exact hz)) ⟨ho,?_⟩⟩)
 have hnew:List.foldl (fun x1 x2=>x1++x2) #[] (List.replicate k.toNat its.toArray)=(List.replicate k.toNat its).flatten.toArray:=by
  have:=zg0 its k.toNat []
  rw [List.nil_append] at this
  exact this
 rw [hnew]
 refine ⟨.ref _,_,I.laid (t':=s.toks) (o:= .tup (List.replicate k.toNat xs).flatten) (fun b ob q=>qag _ q) (qaV _) ?_,rfl,q _ (I.hok.fresh (qaV _))⟩
 exact ⟨by rw [znY,Nat.mul_comm];exact hz,_,r.rep k.toNat,zk2.new _ _⟩
end
end L2
namespace LT
open PySem PySem.Spec PyProof.Rows
noncomputable abbrev Up (xs:Array Nat):Prop:=xs.toList.Pairwise (· < ·)
theorem Up.lt {xs:Array Nat} (h:Up xs) {i j:Nat} {a b:Nat} (hi:xs[i]? = some a) (hj:xs[j]? = some b) (hij:i<j):a<b:=by
 have hi':xs.toList[i]? = some a:=by simpa using hi
 have hj':xs.toList[j]? = some b:=by simpa using hj
 obtain ⟨h1,e1⟩:=qac.mp hi'
 obtain ⟨h2,e2⟩:=qac.mp hj'
 have:=List.pairwise_iff_getElem.mp h i j h1 h2 hij
 rw [e1,e2] at this
 exact this
theorem zgd {xs:Array Nat} (h:Up xs) (j:Nat): ∀ (fuel lo hi:Nat),hi - lo<=fuel->lo<=hi->hi<=xs.size->(∀ i a,i<lo->xs[i]? = some a->a<j)->(∀ i a,hi<=i->xs[i]? = some a->j<=a)->
  let r:=SetTable.below.go xs j fuel lo hi
  r<=xs.size/\(∀ i a,i<r->xs[i]? = some a->a<j)/\(∀ i a,r<=i->xs[i]? = some a->j<=a)
 | 0,lo,hi,hf,hl,hs,h1,h2=>by
  have e:lo=hi:=by omega
  subst e
  exact ⟨hs,h1,h2⟩
 | fuel+1,lo,hi,hf,hl,hs,h1,h2=>by
  unfold SetTable.below.go
  by_cases hlt:lo<hi
  ·rw [qa4 hlt]
   have hm:(lo+hi) / 2<xs.size:=by omega
   have em:xs[(lo+hi) / 2]? = some xs[(lo+hi) / 2]:=by simp [hm]
   have eg:xs.getD ((lo+hi) / 2) j=xs[(lo+hi) / 2]:=by simp [Array.getD,hm]
   dsimp only
   by_cases hc:xs.getD ((lo+hi) / 2) j<j
   ·rw [qa4 hc]
    refine zgd h j fuel _ hi (by omega) (by omega) hs (fun i a hi' e=> ?_) h2
    rw [eg] at hc
    by_cases z:i=(lo+hi) / 2
    ·subst z;rw [em] at e;cases e;exact hc
    ·exact Nat.lt_trans (h.lt e em (by omega)) hc
   ·rw [qa5 hc]
    refine zgd h j fuel lo _ (by omega) (by omega) (by omega) h1 fun i a hi' e=> ?_
    rw [eg] at hc
    by_cases z:i=(lo+hi) / 2
    ·subst z;rw [em] at e;cases e;omega
    ·have:=h.lt em e (by omega)
     omega
  ·rw [qa5 hlt]
   have e:lo=hi:=by omega
   subst e
   exact ⟨hs,h1,h2⟩
theorem zgi {xs:Array Nat} (h:Up xs) (j:Nat):SetTable.below xs j<=xs.size/\(∀ i a,i<SetTable.below xs j->xs[i]? = some a->a<j)/\(∀ i a,SetTable.below xs j<=i->xs[i]? = some a->j<=a):=
 zgd h j xs.size 0 xs.size (by omega) (Nat.zero_le _) (qaV _) (fun _ _ z=>absurd z (Nat.not_lt_zero _)) fun i a z e=>by
  have:=(qab.mp e).1
  omega
theorem zfU {xs:Array Nat} (h:Up xs) {k a:Nat} (e:xs[k]? = some a):SetTable.below xs (a+1)=k+1:=by
 obtain ⟨h1,h2,h3⟩:=zgi h (a+1)
 by_cases c:SetTable.below xs (a+1)<=k
 ·have:=h3 k a c e
  omega
 ·by_cases c2:k+1<SetTable.below xs (a+1)
  ·have hl:k+1<xs.size:=by omega
   have e2:xs[k+1]? = some xs[k+1]:=by simp [hl]
   have a1:=h2 (k+1) _ c2 e2
   have a2:=h.lt e e2 (by omega)
   omega
  ·omega
theorem zfT {xs:Array Nat} (h:Up xs):SetTable.below xs 0=0:=by
 obtain ⟨h1,h2,h3⟩:=zgi h 0
 by_cases c:SetTable.below xs 0=0
 ·exact c
 ·have hl:0<xs.size:=by omega
  exact absurd (h2 0 _ (by omega) (show xs[0]? = some xs[0] by simp [hl])) (Nat.not_lt_zero _)
theorem zlp {xs:Array Nat} (h:Up xs) {j:Nat} (hn:xs[SetTable.below xs j]? ≠ some j):Up (SetTable.insertAt xs (SetTable.below xs j) j):=by
 obtain ⟨h1,h2,h3⟩:=zgi h j
 show (SetTable.insertAt xs (SetTable.below xs j) j).toList.Pairwise (· < ·)
 rw [SetTable.toList_insertAt]
 rw [List.pairwise_append]
 have hsplit:xs.toList.take (SetTable.below xs j)++xs.toList.drop (SetTable.below xs j)=xs.toList:=List.take_append_drop ..
 have hp:(xs.toList.take (SetTable.below xs j)++xs.toList.drop (SetTable.below xs j)).Pairwise (· < ·):=by rw [hsplit];exact h
 obtain ⟨p1,p2,p3⟩:=List.pairwise_append.mp hp
 have tk: ∀ a∈xs.toList.take (SetTable.below xs j),a<j:=fun a ha=>by
  obtain ⟨i,hi⟩:=List.mem_iff_getElem?.mp ha
  rw [List.getElem?_take] at hi
  split at hi
  ·rename_i hlt
   exact h2 i a hlt (by simpa using hi)
  ·cases hi
 have dr: ∀ a∈xs.toList.drop (SetTable.below xs j),j<a:=fun a ha=>by
  obtain ⟨i,hi⟩:=List.mem_iff_getElem?.mp ha
  rw [List.getElem?_drop] at hi
  have hi':xs[SetTable.below xs j+i]? = some a:=by simpa using hi
  have a1:=h3 _ a (by omega) hi'
  rcases Nat.lt_or_eq_of_le a1 with z | z
  ·exact z
  ·subst z
   exfalso
   cases i with
   | zero=>exact hn hi'
   | succ i=>
    have hl:=(qab.mp hi').1
    have e0:xs[SetTable.below xs j]? = some xs[SetTable.below xs j]:=by
     have:SetTable.below xs j<xs.size:=by omega
     simp [this]
    have b1:=h3 _ _ (qaV _) e0
    have b2:=h.lt e0 hi' (by omega)
    omega
 refine ⟨p1,qay.mpr ⟨dr,p2⟩,fun a ha b hb=> ?_⟩
 rcases qaP.mp hb with z | z
 ·rw [z];exact tk a ha
 ·exact p3 a ha b z
structure zhI (t:SetTable) (led:Bool):Prop where
 up:Up t.place
 nod:t.dummies= #[]
 led:t.led=led
theorem zim {j:Nat}:SetTable.has #[] j=false:=by
 unfold SetTable.has
 simp
theorem zlm {t:SetTable} {led:Bool} (g:zhI t led) {j:Nat} (h:t.slot j= .empty):t.place[SetTable.below t.place j]? ≠ some j:=fun e=>by
 unfold SetTable.slot at h
 dsimp only at h
 rw [e] at h
 simp at h
theorem ziD {t:SetTable} {led:Bool} (g:zhI t led) (f:Nat->Int) (h:Int): ∀ (fuel:Nat) (p:SetTable.Probe) (j:Nat) (d:Option Nat),p.dummy=none->SetTable.probe.go t f h fuel p=some (.empty j d)->t.slot j= .empty/\d=none
 | 0,_,_,_,_,e=>by cases e
 | fuel+1,p,j,d,hp,e=>by
  unfold SetTable.probe.go at e
  have adv: ∀ q:SetTable.Probe,q.dummy=none->(t.advance q).dummy=none:=fun q hq=>by
   unfold SetTable.advance
   split<;>exact hq
  split at e
  ·rename_i hs
   cases e
   exact ⟨hs,hp⟩
  ·rename_i hs
   exfalso
   unfold SetTable.slot at hs
   dsimp only at hs
   rw [g.nod,zim] at hs
   split at hs<;>simp at hs
  ·split at e
   ·cases e
   ·exact ziD g f h fuel _ j d (adv p hp) e
theorem zgf {t:SetTable} {led:Bool} (g:zhI t led) {h:Int} {j:Nat} {b:Bool} (e:t.freeSlot h=some (j,b)):t.place[SetTable.below t.place j]? ≠ some j:=by
 unfold SetTable.freeSlot at e
 split at e
 ·rename_i j' d' hpr
  obtain ⟨h1,h2⟩:=ziD g _ _ _ _ _ _ rfl hpr
  subst h2
  cases e
  exact zlm g h1
 ·cases e
theorem zlG (n:Nat):Up (Array.range n):=by
 show (Array.range n).toList.Pairwise (· < ·)
 rw [Array.toList_range]
 exact List.pairwise_lt_range
theorem zcs {t:SetTable} {led:Bool} (g:zhI t led) (n:Nat):zhI (t.standIn n) led:=⟨zlG n,rfl,g.led⟩
theorem zh2 {t:SetTable} {led:Bool} (g:zhI t led) (es:Array (Int×Value)) (h:Int) (x:Value):zhI (layNew t es h x).2.1 led:=by
 unfold layNew
 split
 ·rename_i slot wasDummy e
  have g2:zhI (t.put slot).1 led:=by
   refine ⟨zlp g.up (zgf g e),?_,g.led⟩
   show (if SetTable.has t.dummies slot then _ else t.dummies)= #[]
   rw [g.nod,zim]
   rfl
  show zhI ((t.put slot).1.orStandIn _) led
  unfold SetTable.orStandIn
  split
  ·exact g2
  ·exact zcs g2 _
 ·exact zcs g _
theorem zkb {mask finger moves:Nat} {led plain:Bool} {hs:Array Int} {t:SetTable} {o:Array Nat} (e:SetTable.laid mask finger moves led plain hs=some (t,o)):zhI t led:=by
 unfold SetTable.laid at e
 cases z:SetTable.layClean mask hs with
 | none=>rw [z] at e;cases e
 | some owner=>
  rw [z] at e
  have e:some (({mask,place:=(((List.range (mask+1)).filterMap fun j=>(owner.getD j none).map (j, ·)).map (·.1)).toArray,dummies:= #[],finger,led,moves,plain}:SetTable),_)=some (t,o):=e
  cases e
  refine ⟨?_,rfl,rfl⟩
  show (((List.range (mask+1)).filterMap fun j=>(owner.getD j none).map (j, ·)).map (·.1)).toArray.toList.Pairwise (· < ·)
  rw [List.toList_toArray,List.map_filterMap]
  have sub:List.Sublist ((List.range (mask+1)).filterMap fun j=>((owner.getD j none).map (j, ·)).map (·.1)) (List.range (mask+1)):=by
   generalize List.range (mask+1)=l
   induction l with
   | nil=>exact .slnil
   | cons a r ih=>
    rw [qat]
    cases q:owner.getD a none with
    | none=>exact ih.cons a
    | some v=>exact ih.cons₂ a
  exact List.pairwise_lt_range.sublist sub
theorem zgg {t:SetTable} {led:Bool} (g:zhI t led) (es:Array (Int×Value)) (wanted:Nat):zhI (relayAll t es wanted).2.1 led:=by
 unfold relayAll
 split
 ·rename_i t' order e
  have g2:zhI t' t.led:=zkb e
  rw [g.led] at g2
  dsimp only
  split
  ·exact g2
  ·exact zcs g _
 ·exact zcs g _
noncomputable def zc0 (w:World):Bool:= !w.params.followText "set-order"
def zgB (prog:Program) (w:World) (h:Heap) (a:Addr) (S:Int->Bool) (n:Nat):Prop:=
 ∃ ob es ep tb,(h.get? a=some ob/\ob.ExactSet/\ob.data= .set es ep tb)/\ElemsOf (intKind prog w) es.toList/\(∀ k,S k=true↔ ∃ e∈es.toList,(intKind prog w).is k e.2=true)/\
  (es.size<scanBound/\tb.fits es.size=true/\es.size=n)/\zhI tb (zc0 w)
theorem zgB.move {prog:Program} {w:World} {h h':Heap} {a:Addr} {S S':Int->Bool} {n n':Nat} (g:zgB prog w h a S n) (k: ∀ ob,h.get? a=some ob->h'.get? a=some ob) (e: ∀ k,S k=S' k) (en:n=n'):zgB prog w h' a S' n':=by
 obtain ⟨ob,es,ep,tb,⟨h1,h2,h3⟩,h4,h5,⟨h6,h7,h8⟩,h9⟩:=g
 exact ⟨ob,es,ep,tb,⟨k ob h1,h2,h3⟩,h4,fun z=>by rw [<- e z];exact h5 z,⟨h6,h7,h8.trans en⟩,h9⟩
section
variable {prog:Program} {w:World} {A:Around} {E:Value->Shared->Prop} {s:Shared}
theorem stored {a:Addr} {ob:Obj} {es es':Array (Int×Value)} {ep:Nat} {tb tb':SetTable} {S:Int->Bool} {R:Unit->Shared->Prop} (ho:s.heap.get? a=some ob) (hx:ob.ExactSet) (hd:ob.data= .set es ep tb)
  (hE:ElemsOf (intKind prog w) es'.toList) (hS: ∀ k,S k=true↔ ∃ e∈es'.toList,(intKind prog w).is k e.2=true) (hb:es'.size<scanBound) (hf:tb'.fits es'.size=true) (hg:zhI tb' (zc0 w))
  (q: ∀ h',Heap.SameBut a s.heap h'->h'.get? a=some {ob with data:= .set es' (ep+1) tb'}->zgB prog w h' a S es'.size->R () {s with heap:=h'}):wpAny (model prog w) A (storeSet a es' tb') R E s:=by
 have put:=putSet_of es' tb' hd
 have at1:(s.heap.update a (Obj.putSet es' tb')).get? a=some {ob with data:= .set es' (ep+1) tb'}:=by
  have z:=qal (Obj.putSet es' tb') ho (by rw [put];rfl)
  rwa [put] at z
 exact wpAny_storeSet_of ho hd (q _ (Heap.SameBut.update ..) at1 ⟨_,es',ep+1,tb',⟨at1,hx,rfl⟩,hE,hS,⟨hb,hf,rfl⟩,hg⟩) (fits_of_scanBound hb)
theorem zt9 {a:Addr} {S:Int->Bool} {n:Nat} {k:Int} {t:Tok} {Q:Bool->Shared->Prop} (g:zgB prog w s.heap a S n) (room:n+1<scanBound)
  (q: ∀ h' b,Heap.SameBut a s.heap h'->zgB prog w h' a (fun z=>S z || decide (z=k)) (if S k then n else n+1)->Q b {s with heap:=h'}):
  wpAny (model prog w) A (setAddHashed a (.int k t) ((intKind prog w).hash k)) Q E s:=by
 have kis:(intKind prog w).is k (.int k t)=true:=intKind_is _ _ _ _
 obtain ⟨ob,es,ep,tb,⟨h1,h2,h3⟩,h4,h5,⟨h6,h7,h8⟩,h9⟩:=g
 have scn:(Value.int k t).scannable=true:=rfl
 unfold setAddHashed setAddHashedIn
 refine qaO (qaW (wpAny_setState_of h1 h3 h7 ?_))
 dsimp only
 rw [qa4 (byScan_of scn h6 h4)]
 refine qaW ?_
 unfold setAddByScan
 refine qaW (wpAny_rule (qaW (wpAny_setScan_of kis h1 h3 h7 h4 ?_)))
 cases fi:List.findIdx? (fun e=>(intKind prog w).is k e.2) es.toList with
 | some j=>
  obtain ⟨lj,pj,_⟩:=List.findIdx?_eq_some_iff_getElem.mp fi
  have inS:S k=true:=(h5 k).mpr ⟨_,List.getElem_mem lj,pj⟩
  refine qaX (qaX ?_)
  have z:=q s.heap false (Heap.SameBut.refl ..) ⟨ob,es,ep,tb,⟨h1,h2,h3⟩,h4,fun y=> ?_,⟨h6,h7,by rw [inS];exact h8⟩,h9⟩
  ·exact z
  ·rw [<- h5 y,Bool.or_eq_true,qaD]
   exact ⟨fun c=>c.elim id fun c=>by rw [c];exact inS,.inl⟩
 | none=>
  have noS:S k=false:=by
   rw [<- Bool.not_eq_true,h5 k]
   rintro ⟨e,he,pe⟩
   have:=List.findIdx?_eq_none_iff.mp fi e he
   rw [pe] at this
   cases this
  have L1:=layNew_perm tb es ((intKind prog w).hash k) (.int k t)
  have L2:=layNew_fits tb es ((intKind prog w).hash k) (.int k t)
  have L3:=zh2 h9 es ((intKind prog w).hash k) (.int k t)
  generalize hl:layNew tb es ((intKind prog w).hash k) (.int k t)=ln at L1 L2 L3 ⊢
  obtain ⟨es1,tb1,wd,gv⟩:=ln
  dsimp only at L1 L2 L3 ⊢
  rw [Array.toList_push] at L1
  have E1:ElemsOf (intKind prog w) es1.toList:=(h4.push kis scn).perm L1
  have M1: ∀ y,(S y || decide (y=k))=true↔ ∃ e∈es1.toList,(intKind prog w).is y e.2=true:=mem_push_iff kis h5 L1
  have Z1:es1.size=n+1:=by
   have z:=L1.length_eq
   rw [qav,qas,qas] at z
   rw [z,h8];rfl
  have B1:es1.size<scanBound:=by rw [Z1];exact room
  have quiet: ∀ (b:Bool) (s1:Shared) (R:Unit->Shared->Prop),R () s1->wpAny (model prog w) A (match b with | true=>rule "set.scan.the-table-gave-way" | false=>pure ()) R E s1:=fun b s1 R z=>by
   cases b
   ·exact qaX z
   ·exact wpAny_rule z
  have fin: ∀ (s1:Shared) (h':Heap),s1={s with heap:=h'}->Heap.SameBut a s.heap h'->zgB prog w h' a (fun y=>S y || decide (y=k)) es1.size->Q true s1:=fun s1 h' e1 sb gg=>by
   subst e1
   have z:=q h' true sb
   rw [noS] at z
   exact z (by rw [Z1] at gg;exact gg)
  refine qaW (quiet _ _ _ ?_)
  have tail: ∀ (gw:Bool->Sem Unit),(∀ (b:Bool) (s1:Shared) (R:Unit->Shared->Prop),R () s1->wpAny (model prog w) A (gw b) R E s1)->wpAny (model prog w) A (do
      storeSet a es1 tb1
      if (!wd && tb1.tooFull)=true then do
        gw (relayAll tb1 es1 (SetTable.grown es1.size)).2.2
        storeSet a (relayAll tb1 es1 (SetTable.grown es1.size)).1 (relayAll tb1 es1 (SetTable.grown es1.size)).2.1
        pure (some true)
      else pure (some true)) (fun r s'=>wpAny (model prog w) A (match r with | some b=>pure b | none=>setAddHashedIn a (.int k t) ((intKind prog w).hash k) 99999) Q E s') E s:=by
   intro gw hgw
   refine qaW (stored h1 h2 h3 E1 M1 B1 L2 L3 fun h' sb at1 gg=> ?_)
   by_cases full:(!wd && tb1.tooFull)=true
   ·rw [qa4 full]
    have P2:=relayAll_perm tb1 es1 (SetTable.grown es1.size)
    have F2:=relayAll_fits tb1 es1 (SetTable.grown es1.size)
    have G2:=zgg L3 es1 (SetTable.grown es1.size)
    generalize relayAll tb1 es1 (SetTable.grown es1.size)=rl at P2 F2 G2 ⊢
    obtain ⟨es2,tb2,gv2⟩:=rl
    dsimp only at P2 F2 G2 ⊢
    have Z2:es2.size=es1.size:=by
     have z:=P2.length_eq
     rwa [qas,qas] at z
    refine qaW (hgw _ _ _ (qaW (stored (s:={s with heap:=h'}) (S:=fun y=>S y || decide (y=k)) at1 h2 rfl (E1.perm P2) (fun y=>(M1 y).trans ?_) (by rw [Z2];exact B1) F2 G2 fun h'' sb2 _ gg2=> ?_)))
    ·exact ⟨fun ⟨e,he,pe⟩=>⟨e,P2.mem_iff.mpr he,pe⟩,fun ⟨e,he,pe⟩=>⟨e,P2.mem_iff.mp he,pe⟩⟩
    ·exact qaX (qaX (fin _ h'' rfl (sb.trans sb2) (by rw [Z2] at gg2;exact gg2)))
   ·rw [qa5 full]
    exact qaX (qaX (fin _ h' rfl sb gg))
  split
  ·rw [hashByValue_scannable 8 scn]
   refine qaW (qaX ?_)
   exact tail _ fun b s1 R z=>by cases b<;>first | exact qaX z | exact wpAny_rule z
  ·refine qaW (qaX ?_)
   exact tail _ fun b s1 R z=>by cases b<;>first | exact qaX z | exact wpAny_rule z
end
section
variable {prog:Program} {w:World} {A:Around} {R:Result->Shared->Prop} {it:Addr} {fp wr:List Addr} {G:Array GenState->Array GenState->Prop} {n:Nat} {P:Nat->Value->Prop} {St:Nat->Shared->Prop}
theorem zty (W:WalksS prog w A.in1 it fp wr G n P St) (a:Addr) (ha:a∉fp) (val:Nat->Int) (hval: ∀ i v,P i v-> ∃ t,v= .int (val i) t) (room:n+1<scanBound):
  ∀ (left i:Nat) (s:Shared),n - i=left->i<=n->St i s->zgB prog w s.heap a (fun z=>(firstMet val i).any (· == z)) (firstMet val i).length->
   (∀ s',Moved (a::wr) G s s'->zgB prog w s'.heap a (fun z=>(firstMet val n).any (· == z)) (firstMet val n).length->R (.ok (.ret .none)) s')->
   codeAny (model prog w) A (.builtin "set.update.loop" ⟨[.ref a,.ref it],[]⟩) R s:=by
 have awr:a∉wr:=fun z=>ha (W.sub _ z)
 have more: ∀ b∈wr,b∈a::wr:=fun b z=> .tail _ z
 intro left
 induction left with
 | zero=>
  intro i s hleft hin st g q
  obtain rfl:i=n:=by omega
  refine codeAny_builtin F.entry_set_update_loop ?_
  rw [qap F.plain_set_update_loop _]
  show wpAny _ _ (pyNext (.ref it)>>=_) _ _ _
  refine qaW (W.done s _ _ st fun s' mv=> ?_)
  exact qaX (q s' (mv.mono more) (g.move (fun ob e=>mv.heap a ob awr e) (fun _=>rfl) rfl))
 | succ left ih=>
  intro i s hleft hin st g q
  have hi:i<n:=by omega
  refine codeAny_builtin F.entry_set_update_loop ?_
  rw [qap F.plain_set_update_loop _]
  show wpAny _ _ (pyNext (.ref it)>>=_) _ _ _
  refine qaW (W.item i s _ _ hi st fun v s1 pv st1 mv=> ?_)
  obtain ⟨t,rfl⟩:=hval i v pv
  have g1:zgB prog w s1.heap a (fun z=>(firstMet val i).any (· == z)) (firstMet val i).length:=g.move (fun ob e=>mv.heap a ob awr e) (fun _=>rfl) rfl
  show wpAny _ _ (holding [Value.int (val i) t] (setAdd a (.int (val i) t))>>=_) _ _ _
  refine qaW (qaO ?_)
  unfold setAdd
  refine qaO (qaW ((intKind prog w).pyHash (k:=val i) (intKind_is _ _ _ _) ?_))
  have few:=firstMet_length_le val i
  refine zt9 (s:={s1 with toks:=s1.toks+1}) g1 (by omega) fun h2 b sb g2=> ?_
  have g3:zgB prog w h2 a (fun z=>(firstMet val (i+1)).any (· == z)) (firstMet val (i+1)).length:=
   g2.move (fun _ e=>e) (fun z=>by rw [firstMet_succ,step_any]) (by rw [firstMet_succ,step_length])
  have off: ∀ b,b≠a->h2.get? b=s1.heap.get? b:=fun b hb=>sb.2 b hb
  refine qaX ⟨plainId_quiet F.plain_set_update_loop _,ih (i+1) _ (by omega) hi (W.frame _ s1 _ _ st1 (Nat.le_succ _) fun b hb ob e=> ?_) g3 fun s3 mv3 g4=> ?_⟩
  ·rw [off b fun z=>ha (z▸hb)]
   exact e
  ·refine q s3 (.trans W.gtrans ((mv.mono more).then_heap (Nat.le_succ _) fun b ob hb e=> ?_) mv3) g4
   rw [off b fun z=>hb (z▸ .head _)]
   exact e
end
section
variable {prog:Program} {w:World} {A:Around} {E:Value->Shared->Prop} {s:Shared}
theorem zng (h:Heap):zgB prog w (h.push {cls:= .type "set",dict:=none,data:= .set #[] 0 (.fresh 0 0 (zc0 w))}) h.objs.size (fun _=>false) 0:=
 ⟨_, #[],0,_,⟨qar _ rfl,⟨rfl,rfl,rfl⟩,rfl⟩,fun e he=>by simp at he,fun k=>by simp,⟨by decide,rfl,rfl⟩,⟨List.Pairwise.nil,rfl,rfl⟩⟩
theorem ztU (x:Value) {Q:Value->Shared->Prop} (q:Q (.ref s.heap.objs.size) {s with heap:=s.heap.push {cls:= .type "set",dict:=none,data:= .set #[] 0 (.fresh 0 0 (zc0 w))}}):
  codeAny (model prog w) A (.call (.builtin "set.__new__") ⟨[.type "set",x],[]⟩) (wants Q E) s:=by
 refine codeAny_of_tree ?_
 show wpAny _ _ (do checkBuiltinCall "set.__new__" ⟨[.type "set",x],[]⟩;again (.builtin "set.__new__" ⟨[.type "set",x],[]⟩)) _ _ _
 refine qaW (wpAny_of_eq (F.newCall_set_1 x) (qaX ⟨plainId_quiet F.plain_set_new _,codeAny_builtin F.entry_set_new ?_⟩))
 rw [qap F.plain_set_new _]
 unfold Builtin.«set.__new__» Builtin.Frozenset.newClass
 have self:=sub_set_self
 obtain ⟨hp,gs,dr,tk,os⟩:=s
 dsimp only
 wp_walk
 refine wpAny_askSetting (qaX ?_)
 dsimp only
 simp only [newObj]
 exact qaW (wpAny_alloc (qaX (qaX q)))
theorem ztE {l:Addr} {T:String} {items:Array Value} {ns:List Int} {Q:Value->Shared->Prop} (hh:A.handled=none) (hT:(T="list"/\s.heap.IsList l items)\/(T="tuple"/\s.heap.IsTuple l items)) (hi:IntsAre items.toList ns) (room:items.size+1<scanBound)
  (q: ∀ (h':Heap) (tk:Nat),zgB prog w h' s.heap.objs.size (fun z=>(firstMet (fun i=>ns.getD i 0) items.size).any (· == z)) (firstMet (fun i=>ns.getD i 0) items.size).length->(∀ b ob,s.heap.get? b=some ob->h'.get? b=some ob)->
    Q (.ref s.heap.objs.size) {s with heap:=h',toks:=tk}):wpAny (model prog w) A (call (.type "set") [.ref l]) Q E s:=by
 obtain ⟨c,tl,hmro⟩:=F.called_set.mro
 have hmade:=F.called_set.made
 have hsub:=F.called_set.sub
 refine wpAny_call (codeAny_of_tree ?_)
 show wpAny _ _ (callAny (.type "set") _) _ _ _
 refine qaX ⟨Code.quiet_builtin _ (by decide +kernel),codeAny_builtin F.entry_type_call ?_⟩
 rw [Around.under_plain (weight_type_call_type "set" [.ref l] []) rfl]
 have hnt:=F.called_set.notType
 have hcc:=F.called_set.canCreate
 have htc:=F.typeCall_set_1 (.ref l)
 repeat' (first | assumption | wp_step)
 refine codeAny_mono (ztU (.ref l) (E:=E) (Q:=fun v s1=>v= .ref s.heap.objs.size/\s1={s with heap:=s.heap.push {cls:= .type "set",dict:=none,data:= .set #[] 0 (.fresh 0 0 (zc0 w))}}) ⟨rfl,rfl⟩) fun r s1 hr=> ?_
 cases r with
 | error e=>exact hr
 | ok fl=>
  cases fl with
  | ret v=>
   obtain ⟨rfl,rfl⟩:=hr
   have laid:(s.heap.push {cls:= .type "set",dict:=none,data:= .set #[] 0 (.fresh 0 0 (zc0 w))}).get? s.heap.objs.size=some {cls:= .type "set",dict:=none,data:= .set #[] 0 (.fresh 0 0 (zc0 w))}:=qar _ rfl
   have isSet:Shared.TypeIs {s with heap:=s.heap.push {cls:= .type "set",dict:=none,data:= .set #[] 0 (.fresh 0 0 (zc0 w))}} (.ref s.heap.objs.size) "set":=⟨_,laid,rfl⟩
   have hli:=F.called_set.init.lookup
   have hbi:=F.called_set.init.bind (.ref s.heap.objs.size)
   repeat' (first | assumption | wp_step)
   refine codeAny_mono (codeAny_call_builtin (R:=wants (fun z s2=>z= .none/\ ∃ h' tk,s2={s with heap:=h',toks:=tk}/\
       zgB prog w h' s.heap.objs.size (fun z=>(firstMet (fun i=>ns.getD i 0) items.size).any (· == z)) (firstMet (fun i=>ns.getD i 0) items.size).length/\(∀ b ob,s.heap.get? b=some ob->h'.get? b=some ob)) E) F.called_set.init.plain F.entry_set_init (check_set_init_1 isSet ?_)) fun r2 s2 hr2=> ?_
   ·have keepL: ∀ ob,s.heap.get? l=some ob->(s.heap.push {cls:= .type "set",dict:=none,data:= .set #[] 0 (.fresh 0 0 (zc0 w))}).get? l=some ob:=fun ob e=>qag _ e
    have hval: ∀ (i:Nat) (v:Value),items[i]? = some v-> ∃ t,v= .int ((fun i=>ns.getD i 0) i) t:=fun i v hv=>IntsAre.int_at hi i v (by rw [Array.getElem?_toList];exact hv)
    have hh3:A.in1.in1.in1.handled=none:=by simp [hh]
    have done1: ∀ (l0:Addr) (h0:Heap) (s':Shared),l0=s.heap.objs.size->Moved [l0,(s.heap.push {cls:= .type "set",dict:=none,data:= .set #[] 0 (.fresh 0 0 (zc0 w))}).objs.size] (fun a b=>b=a) {s with heap:=h0} s'->(∀ b ob,s.heap.get? b=some ob->h0.get? b=some ob)->
      (∀ b ob,s.heap.get? b=some ob->s'.heap.get? b=some ob)/\s'={s with heap:=s'.heap,toks:=s'.toks}:=fun l0 h0 s' e0 mv k0=>by
     refine ⟨fun b ob e=>mv.heap b ob (fun z=> ?_) (k0 b ob e),?_⟩
     ·have lt:=qaQ e
      rw [qaL,e0] at z
      simp only [qaP,qaF,or_false] at z
      rcases z with z | z
      ·exact qaN _ (z▸lt)
      ·exact qaN _ (Nat.lt_of_succ_lt (z▸lt))
     ·obtain ⟨h',g',d',tk',os'⟩:=s'
      have eg:g'=s.gens:=mv.gens
      have ed:d'=s.drawn:=mv.drawn
      have eo:os'=s.os:=mv.os
      subst eg ed eo
      rfl
    unfold Builtin.«set.__init__» noKeywords Builtin.Frozenset.updateFrom
    generalize hPI:pyIter=PI
    rcases hT with ⟨rfl,hl⟩ | ⟨rfl,hl⟩
    ·obtain ⟨⟨ocl,odi,oda,osl⟩,hol,hcl,nl,hdl⟩:=hl
     simp only at hcl hdl
     subst hcl hdl
     have hol':=keepL _ hol
     have f1:=F.sub_list_set
     have f2:=F.sub_list_frozenset
     have f3:(Value.type "list"==Value.type "dict")=false:=by decide
     wp_walk
     subst hPI
     have hl1:(s.heap.push {cls:= .type "set",dict:=none,data:= .set #[] 0 (.fresh 0 0 (zc0 w))}).IsList l items:=⟨_,hol',rfl,nl,rfl⟩
     refine wpAny_pyIter_list hl1 ?_
     refine qaW (wpAny_runValue ?_)
     have ltl:l<s.heap.objs.size:=qaQ hol
     have szp:(s.heap.push {cls:= .type "set",dict:=none,data:= .set #[] 0 (.fresh 0 0 (zc0 w))}).objs.size=s.heap.objs.size+1:=qaL ..
     have ne1:l≠(s.heap.push {cls:= .type "set",dict:=none,data:= .set #[] 0 (.fresh 0 0 (zc0 w))}).objs.size:=by rw [szp];exact qaR (Nat.lt_succ_of_lt ltl)
     have ne2:s.heap.objs.size∉[(s.heap.push {cls:= .type "set",dict:=none,data:= .set #[] 0 (.fresh 0 0 (zc0 w))}).objs.size,l]:=by
      rw [szp]
      simp only [qaP,qaF,or_false]
      rintro (z | z)
      ·exact Nat.succ_ne_self _ z.symm
      ·exact qaN _ (z▸ltl)
     refine zty ((Walks.list hh3 _ l ne1 items).toS) s.heap.objs.size ne2 (fun i=>ns.getD i 0) hval room _ 0 _ rfl (Nat.zero_le _) ⟨⟨_,qar _ rfl,rfl,rfl⟩,hl1.push _⟩ ?g0 fun s' mv gg=> ?_
     case g0=>exact (zng s.heap).move (fun ob e=>qag _ e) (fun _=>rfl) rfl
     obtain ⟨k1,k2⟩:=done1 _ _ s' rfl mv fun b ob e=>qag _ (qag _ e)
     exact qaX (qaX ⟨rfl,s'.heap,s'.toks,k2,gg,k1⟩)
    ·obtain ⟨⟨ocl,odi,oda,osl⟩,hol,hcl,nl,hdl⟩:=hl
     simp only at hcl hdl
     subst hcl hdl
     have hol':=keepL _ hol
     have f1:=F.sub_tuple_set
     have f2:=F.sub_tuple_frozenset
     have f3:(Value.type "tuple"==Value.type "dict")=false:=by decide
     wp_walk
     subst hPI
     have hl1:(s.heap.push {cls:= .type "set",dict:=none,data:= .set #[] 0 (.fresh 0 0 (zc0 w))}).IsTuple l items:=⟨_,hol',rfl,nl,rfl⟩
     refine wpAny_pyIter_tuple hl1 ?_
     refine qaW (wpAny_runValue ?_)
     have ltl:l<s.heap.objs.size:=qaQ hol
     have szp:(s.heap.push {cls:= .type "set",dict:=none,data:= .set #[] 0 (.fresh 0 0 (zc0 w))}).objs.size=s.heap.objs.size+1:=qaL ..
     have ne1:l≠(s.heap.push {cls:= .type "set",dict:=none,data:= .set #[] 0 (.fresh 0 0 (zc0 w))}).objs.size:=by rw [szp];exact qaR (Nat.lt_succ_of_lt ltl)
     have ne2:s.heap.objs.size∉[(s.heap.push {cls:= .type "set",dict:=none,data:= .set #[] 0 (.fresh 0 0 (zc0 w))}).objs.size,l]:=by
      rw [szp]
      simp only [qaP,qaF,or_false]
      rintro (z | z)
      ·exact Nat.succ_ne_self _ z.symm
      ·exact qaN _ (z▸ltl)
     refine zty ((Walks.tuple hh3 _ l ne1 items).toS) s.heap.objs.size ne2 (fun i=>ns.getD i 0) hval room _ 0 _ rfl (Nat.zero_le _) ⟨⟨_,qar _ rfl,rfl,rfl⟩,⟨_,qag _ hol',rfl,nl,rfl⟩⟩ ?g0 fun s' mv gg=> ?_
     case g0=>exact (zng s.heap).move (fun ob e=>qag _ e) (fun _=>rfl) rfl
     obtain ⟨k1,k2⟩:=done1 _ _ s' rfl mv fun b ob e=>qag _ (qag _ e)
     exact qaX (qaX ⟨rfl,s'.heap,s'.toks,k2,gg,k1⟩)
   ·cases r2 with
    | error e=>exact hr2
    | ok fl2=>
     cases fl2 with
     | ret z=>
      obtain ⟨rfl,h',tk,rfl,gg,k1⟩:=hr2
      repeat' (first | assumption | wp_step)
      exact q _ _ gg k1
     | _=>exact hr2.elim
  | _=>exact hr.elim
end
theorem zaT:Slot "set_iterator" "__next__" "set_iterator.__next__":= .of (owner:="set_iterator") (n:="__next__") (by rw [typeLookup_type,builtinLookup_eq_fast];kernel_rfl) (by decide +kernel) (by decide +kernel) (by decide +kernel) (by first | exact .inl (by decide +kernel) | exact .inr (by decide +kernel)) (by rw [isSubtype_type];kernel_rfl)
theorem zdY:Slot "set_iterator" "__iter__" "set_iterator.__iter__":= .of (owner:="set_iterator") (n:="__iter__") (by rw [typeLookup_type,builtinLookup_eq_fast];kernel_rfl) (by decide +kernel) (by decide +kernel) (by decide +kernel) (by first | exact .inl (by decide +kernel) | exact .inr (by decide +kernel)) (by rw [isSubtype_type];kernel_rfl)
theorem zcz:entryFor table "set_iterator.__next__"=some Builtin.«set_iterator.__next__» := entryFor_of_tree (by kernel_rfl)
theorem zfG:entryFor table "set_iterator.__iter__"=some Builtin.«dict_keyiterator.__iter__» := entryFor_alias (id':="dict_keyiterator.__iter__") (by kernel_rfl) rfl (by decide +kernel) (by kernel_rfl)
theorem zc4 (a:Value):argsOk "set_iterator.__next__" ⟨[a],[]⟩:=by unfold argsOk;kernel_rfl
theorem zgp (a:Value):argsOk "set_iterator.__iter__" ⟨[a],[]⟩:=by unfold argsOk;kernel_rfl
theorem zfL:entryFor table "set.__iter__"=some Builtin.«frozenset.__iter__» := entryFor_alias (id':="frozenset.__iter__") (by kernel_rfl) rfl (by decide +kernel) (by kernel_rfl)
def SIt (h:Heap) (it a:Addr) (first:Value) (i n ep:Nat):Prop:=h.get? it=some {cls:= .type "set_iterator",dict:=none,data:= .fields #[first,.int i 0,.ref a,.int n 0,.int ep 0],slots:= #[]}
structure zii (h:Heap) (a:Addr) (es:Array (Int×Value)) (ep:Nat) (tb:SetTable):Prop where
 at_: ∃ ob,h.get? a=some ob/\ob.ExactSet/\ob.data= .set es ep tb
 fits:tb.fits es.size=true
section
variable {prog:Program} {w:World} {A:Around} {E:Value->Shared->Prop} {s:Shared}
theorem zlx {it a:Addr} {first:Value} {i n ep:Nat} {es:Array (Int×Value)} {tb:SetTable} {Q:Option Value->Shared->Prop} (hI:SIt s.heap it a first i n ep) (hS:zii s.heap a es ep tb) (hn:es.size=n) (slot:Nat) (hf:first= .int slot 0)
  (q:wpAny (model prog w) A.in1 (do
    match<-setNext a slot i ep with
    | some (x,next)=>
      setField (.ref it) 0 (rawInt next)
      setField (.ref it) 1 (rawInt ((i:Int)+1))
      ret x
    | none=>setField (.ref it) 2 .none;raiseNew (<- newExc (.type "StopIteration") [])) (fun f s'=> ∃ v,f= .done (.ret v)/\Q (some v) s') (fun e s'=>wpAny (model prog w) A (do if<-isInstance e (.type "StopIteration") then pure none else throw e) Q E s') s):
  wpAny (model prog w) A (pyNext (.ref it)) Q E s:=by
 obtain ⟨ob,ho,hx,hd⟩:=hS.at_
 subst hf
 have tI:s.TypeIs (.ref it) "set_iterator":=⟨_,hI,rfl⟩
 unfold pyNext
 refine qaW (wpAny_attempt (wpAny_callSpecial?_slot (name:=Str.ofString "__next__") tI zaT (wpAny_call_entry zaT tI zcz ?_ (zc4 _))))
 unfold Builtin.«set_iterator.__next__»
 refine qaW (m:=slotArgs "__next__" 0 _) (qaX ?_)
 refine qaW (m:=fieldsOf (.ref it)) ?_
 unfold fieldsOf
 refine qaW (wpAny_load hI (qaX ?_))
 refine qaW (wpAny_setEntries_of ho hd hS.fits ?_)
 have same: ¬(((es.size:Nat):Int) != (n:Int))=true:=by rw [hn];simp
 rw [qa5 same]
 exact qaZ q (fun f s' ⟨v,e,z⟩=>⟨v,e,qaX z⟩) fun e s' z=>z
theorem zkv {it:Addr} {r:Shared->Prop} {Q:Option Value->Shared->Prop} (hh:A.handled=none) (q: ∀ h',(∀ b ob,s.heap.get? b=some ob->h'.get? b=some ob)->Q none {s with heap:=h'}):
  wpAny (model prog w) A.in1 (do raiseNew (<- newExc (.type "StopIteration") []):Sem PySem.Fin) (fun f s'=> ∃ v,f= .done (.ret v)/\Q (some v) s') (fun e s'=>wpAny (model prog w) A (do if<-isInstance e (.type "StopIteration") then pure none else throw e) Q E s') s:=by
 refine qaW ?_
 simp only [newExc,newTuple]
 refine qaW (qaC ?_ (by size_fits))
 refine qaW (m:=firstArgMember _ _) (wpAny_of_eq (a:=Value.none) (by first | rfl | (simp only [firstArgMember];rfl)) ?_)
 refine qaC ?_ (by size_fits)
 simp only [raiseNew]
 refine qaW (wpAny_handled ?_)
 rw [show A.in1.handled=none from hh]
 refine qaW (qaX (wpAny_throw ?_))
 refine qaW (wpAny_isInstance (T:="StopIteration") (b:=true) ⟨_,qar _ rfl,rfl⟩ isSubtype_stop ?_)
 exact qaX (q _ fun b ob e=>qag _ (qag _ e))
theorem zf2 {es:Array (Int×Value)} {tb:SetTable} (hf:tb.fits es.size=true):tb.place.size=es.size:=by
 unfold SetTable.fits at hf
 simp only [qaG,beq_iff_eq] at hf
 exact hf.1
theorem zdT {a:Addr} {ep i slot:Nat} {es:Array (Int×Value)} {tb:SetTable} {R:Option (Value×Nat)->Shared->Prop} (hS:zii s.heap a es ep tb) (led:tb.led=true) (bt:w.params.followText "set-order"=false) (pl:(!tb.plain && decide (es.size>1))=false)
  (q:R (match es[SetTable.below tb.place slot]?, tb.place[SetTable.below tb.place slot]? with | some (_,x),some j=>some (x,j+1) | _,_=>none) s):wpAny (model prog w) A (setNext a slot i ep) R E s:=by
 obtain ⟨ob,ho,hx,hd⟩:=hS.at_
 unfold setNext
 refine qaW (wpAny_setState_of ho hd hS.fits ?_)
 dsimp only
 unfold setsByText
 refine qaW (qaW (wpAny_askSetting (qaX ?_)))
 dsimp only
 rw [show (model prog w).w.params.followText "set-order"=false from bt]
 simp only [qax,if_false]
 show wpAny _ _ (if (!tb.plain && decide (es.size>1))=true then _ else _) _ _ _
 rw [qa5 (by rw [pl];exact Bool.false_ne_true)]
 refine qaW ?_
 show wpAny _ _ (if (!tb.led && !es.isEmpty)=true then _ else _) _ _ _
 rw [qa5 (by rw [led];exact Bool.false_ne_true)]
 exact qaX (qaX q)
theorem zeF {a:Addr} {ep i slot:Nat} {es:Array (Int×Value)} {tb:SetTable} {R:Option (Value×Nat)->Shared->Prop} (hS:zii s.heap a es ep tb) (bt:w.params.followText "set-order"=true)
  (q:R (((pickOrder (w.params.setOrder a ep) es)[i]?).map fun e=>(e.2,slot)) s):wpAny (model prog w) A (setNext a slot i ep) R E s:=by
 obtain ⟨ob,ho,hx,hd⟩:=hS.at_
 unfold setNext
 refine qaW (wpAny_setState_of ho hd hS.fits ?_)
 dsimp only
 unfold setsByText
 refine qaW (qaW (wpAny_askSetting (qaX ?_)))
 dsimp only
 rw [show (model prog w).w.params.followText "set-order"=true from bt]
 simp only [if_true]
 rw [qa5 (by simp)]
 refine qaW ?_
 unfold setWalk
 refine qaW (wpAny_setState_of ho hd hS.fits ?_)
 dsimp only
 unfold setsByText
 refine qaW (qaW (wpAny_askSetting (qaX ?_)))
 dsimp only
 rw [show (model prog w).w.params.followText "set-order"=true from bt]
 simp only [if_true]
 refine qaW (wpAny_askSetting (qaX (qaX q)))
theorem zk9 {it a:Addr} {n ep i slot nx:Nat} {x:Value} {es:Array (Int×Value)} {tb:SetTable} {Q:Option Value->Shared->Prop} (hI:SIt s.heap it a (.int slot 0) i n ep) (hS:zii s.heap a es ep tb) (hn:es.size=n)
  (st: ∀ (R:Option (Value×Nat)->Shared->Prop) (E':Value->Shared->Prop),R (some (x,nx)) s->wpAny (model prog w) A.in1 (setNext a slot i ep) R E' s)
  (q: ∀ h',SIt h' it a (.int nx 0) (i+1) n ep->Heap.SameBut it s.heap h'->Q (some x) {s with heap:=h'}):wpAny (model prog w) A (pyNext (.ref it)) Q E s:=by
 refine zlx hI hS hn slot rfl (qaW (st _ _ ?_))
 dsimp only
 refine qaW (wpAny_setField_rec hI (by simp) fun h1 a1 sb1=> ?_)
 refine qaW (wpAny_setField_rec (s:={s with heap:=h1}) a1 (by simp) fun h2 a2 sb2=> ?_)
 refine qaX ⟨x,rfl,q h2 ?_ (sb1.trans sb2)⟩
 unfold SIt
 rw [a2]
 simp [rawInt]
theorem zm6 {it a:Addr} {n ep i slot:Nat} {es:Array (Int×Value)} {tb:SetTable} {Q:Option Value->Shared->Prop} (hh:A.handled=none) (hI:SIt s.heap it a (.int slot 0) i n ep) (hS:zii s.heap a es ep tb) (hn:es.size=n)
  (st: ∀ (R:Option (Value×Nat)->Shared->Prop) (E':Value->Shared->Prop),R none s->wpAny (model prog w) A.in1 (setNext a slot i ep) R E' s)
  (q: ∀ h',(∀ b ob,b≠it->s.heap.get? b=some ob->h'.get? b=some ob)->Q none {s with heap:=h'}):wpAny (model prog w) A (pyNext (.ref it)) Q E s:=by
 refine zlx hI hS hn slot rfl (qaW (st _ _ ?_))
 dsimp only
 refine qaW (wpAny_setField_rec hI (by simp) fun h1 a1 sb1=> ?_)
 exact zkv (r:=fun _=>True) (it:=it) (s:={s with heap:=h1}) hh fun h' k=>q h' fun b ob hb e=>k b ob ((sb1.2 b hb).trans e)
end
theorem zdz {α:Type}: ∀ {l:List α} {i:Nat} {x:α},l[i]? = some x->List.Perm l (x::l.eraseIdx i)
 | [],_,_,e=>by simp at e
 | a::r,0,x,e=>by simp at e;subst e;exact .rfl
 | a::r,i+1,x,e=>by
  have e:r[i]? = some x:=by simpa using e
  exact ((zdz e).cons a).trans (.swap x a _)
theorem zeB {α:Type} {l:List α} {i:Nat} {x:α} (e:l[i]? = some x):(l.eraseIdx i).length+1=l.length:=by
 have:=(zdz e).length_eq
 rw [qaE] at this
 exact this.symm
theorem zhm {α:Type} (nx:Nat->Nat): ∀ (fuel k:Nat) (left:List α) (out:Array α),left.length=fuel->List.Perm (pickOrder.go nx fuel k left out).toList (out.toList++left)
 | 0,k,left,out,h=>by
  have:left=[]:=List.length_eq_zero_iff.mp h
  subst this
  simp [pickOrder.go]
 | fuel+1,k,left,out,h=>by
  unfold pickOrder.go
  have hl:nx k % left.length<left.length:=Nat.mod_lt _ (by omega)
  have e:left[nx k % left.length]? = some left[nx k % left.length]:=by simp [hl]
  rw [e]
  dsimp only
  have hz:=zeB e
  refine (zhm nx fuel (k+1) _ _ (by omega)).trans ?_
  rw [Array.toList_push,List.append_assoc]
  exact List.Perm.append_left _ (zdz e).symm
theorem zcI {α:Type} (nx:Nat->Nat) (xs:Array α):List.Perm (pickOrder nx xs).toList xs.toList:=by
 have:=zhm nx xs.size 0 xs.toList #[] (by simp)
 simpa [pickOrder] using this
section
variable {prog:Program} {w:World} {A:Around} {E:Value->Shared->Prop} {s:Shared}
theorem ziW {src:Source} {n:Nat} {Q:Nat->Shared->Prop} (hn:n≠0) (q: ∀ k d,k<n->Q k {s with drawn:=d}):wpAny (model prog w) A (choose src n) Q E s:=fun Γ p hΓ=>⟨hn,q _ _ (Nat.mod_lt _ (Nat.pos_of_ne_zero hn))⟩
theorem zeE {α:Type}: ∀ (fuel:Nat) (xs:List α) (s:Shared) (Q:List α->Shared->Prop),xs.length<=fuel->(∀ ys d,List.Perm ys xs->Q ys {s with drawn:=d})->wpAny (model prog w) A (drawOrder fuel xs) Q E s
 | 0,xs,s,Q,h,q=>by
  have:xs=[]:=List.length_eq_zero_iff.mp (by omega)
  subst this
  unfold drawOrder
  exact qaX (q [] s.drawn .rfl)
 | fuel+1,[],s,Q,h,q=>by
  unfold drawOrder
  exact qaX (q [] s.drawn .rfl)
 | fuel+1,x::r,s,Q,h,q=>by
  unfold drawOrder
  refine qaW (ziW (by simp) fun k d hk=> ?_)
  have e:(x::r)[k]? = some (x::r)[k]:=by simp [hk]
  rw [e]
  dsimp only
  have hz:=zeB e
  refine qaW (zeE fuel ((x::r).eraseIdx k) {s with drawn:=d} _ (by omega) fun ys d' p=>qaX ?_)
  exact q _ d' ((p.cons _).trans (zdz e).symm)
theorem zi0 {it a tp:Addr} {n ep i p:Nat} {x:Value} {es:Array (Int×Value)} {tb:SetTable} {ps:Array Value} {Q:Option Value->Shared->Prop} (hI:SIt s.heap it a (.ref tp) i n ep) (hS:zii s.heap a es ep tb) (hn:es.size=n)
  (hT:s.heap.get? tp=some {cls:= .type "tuple",data:= .seq ps}) (hp:ps[i]? = some (.int (p:Nat) 0)) (he:(es[p]?).map (·.2)=some x)
  (q: ∀ h',SIt h' it a (.ref tp) (i+1) n ep->Heap.SameBut it s.heap h'->Q (some x) {s with heap:=h'}):wpAny (model prog w) A (pyNext (.ref it)) Q E s:=by
 obtain ⟨ob,ho,hx,hd⟩:=hS.at_
 have tI:s.TypeIs (.ref it) "set_iterator":=⟨_,hI,rfl⟩
 unfold pyNext
 refine qaW (wpAny_attempt (wpAny_callSpecial?_slot (name:=Str.ofString "__next__") tI zaT (wpAny_call_entry zaT tI zcz ?_ (zc4 _))))
 unfold Builtin.«set_iterator.__next__»
 refine qaW (m:=slotArgs "__next__" 0 _) (qaX ?_)
 refine qaW (m:=fieldsOf (.ref it)) ?_
 unfold fieldsOf
 refine qaW (wpAny_load hI (qaX ?_))
 refine qaW (wpAny_setEntries_of ho hd hS.fits ?_)
 have same: ¬(((es.size:Nat):Int) != (n:Int))=true:=by rw [hn];simp
 rw [qa5 same]
 refine qaW (m:=seqItems? (.ref tp)) ?_
 unfold seqItems?
 refine qaW (wpAny_load hT (qaX ?_))
 dsimp only
 rw [show ((i:Nat):Int).toNat=i from qaB i,hp]
 dsimp only
 refine qaW (m:=setNextDrawn a _ _) ?_
 unfold setNextDrawn
 refine qaW (wpAny_setState_of ho hd hS.fits ?_)
 dsimp only
 rw [show ((ep:Nat):Int).toNat=ep from qaB ep,show ((p:Nat):Int).toNat=p from qaB p,qa5 (by simp)]
 cases ee:es[p]? with
 | none=>rw [ee] at he;cases he
 | some e=>
  rw [ee] at he
  cases he
  dsimp only
  refine qaX ?_
  refine qaW (wpAny_setField_rec hI (by simp) fun h2 a2 sb2=> ?_)
  refine qaX ⟨_,rfl,qaX (q h2 ?_ sb2)⟩
  unfold SIt
  rw [a2]
  simp [rawInt]
theorem zjM {it a tp:Addr} {n ep i:Nat} {es:Array (Int×Value)} {tb:SetTable} {ps:Array Value} {Q:Option Value->Shared->Prop} (hh:A.handled=none) (hI:SIt s.heap it a (.ref tp) i n ep) (hS:zii s.heap a es ep tb) (hn:es.size=n)
  (hT:s.heap.get? tp=some {cls:= .type "tuple",data:= .seq ps}) (hp:ps[i]? = none)
  (q: ∀ h',(∀ b ob,b≠it->s.heap.get? b=some ob->h'.get? b=some ob)->Q none {s with heap:=h'}):wpAny (model prog w) A (pyNext (.ref it)) Q E s:=by
 obtain ⟨ob,ho,hx,hd⟩:=hS.at_
 have tI:s.TypeIs (.ref it) "set_iterator":=⟨_,hI,rfl⟩
 unfold pyNext
 refine qaW (wpAny_attempt (wpAny_callSpecial?_slot (name:=Str.ofString "__next__") tI zaT (wpAny_call_entry zaT tI zcz ?_ (zc4 _))))
 unfold Builtin.«set_iterator.__next__»
 refine qaW (m:=slotArgs "__next__" 0 _) (qaX ?_)
 refine qaW (m:=fieldsOf (.ref it)) ?_
 unfold fieldsOf
 refine qaW (wpAny_load hI (qaX ?_))
 refine qaW (wpAny_setEntries_of ho hd hS.fits ?_)
 have same: ¬(((es.size:Nat):Int) != (n:Int))=true:=by rw [hn];simp
 rw [qa5 same]
 refine qaW (m:=seqItems? (.ref tp)) ?_
 unfold seqItems?
 refine qaW (wpAny_load hT (qaX ?_))
 dsimp only
 rw [show ((i:Nat):Int).toNat=i from qaB i,hp]
 dsimp only
 refine qaW (wpAny_setField_rec hI (by simp) fun h1 a1 sb1=> ?_)
 refine qaW (wpAny_setField_rec (s:={s with heap:=h1}) a1 (by simp) fun h2 a2 sb2=> ?_)
 refine qaZ (zkv (Q:=Q) (E:=E) (r:=fun _=>True) (it:=it) (s:={s with heap:=h2}) hh fun h' k=>q h' fun b ob hb e=>k b ob ((sb2.2 b hb).trans ((sb1.2 b hb).trans e))) (fun f s' ⟨v,e,z⟩=>⟨v,e,qaX z⟩) fun e s' z=>z
theorem zfb {it a:Addr} {first:Value} {i n ep:Nat} {Q:Value->Shared->Prop} (hI:SIt s.heap it a first i n ep) (q:Q (.ref it) s):wpAny (model prog w) A (pyIter (.ref it)) Q E s:=by
 have tI:s.TypeIs (.ref it) "set_iterator":=⟨_,hI,rfl⟩
 refine wpAny_pyIter_slot tI zdY (wpAny_call_entry zdY tI zfG ?_ (zgp _))
 show wpAny _ _ (ret (.ref it)) _ _ _
 exact qaX ⟨_,rfl,"set_iterator",_,tI,zaT.lookup,q⟩
theorem zii.keep {h h':Heap} {a:Addr} {es:Array (Int×Value)} {ep:Nat} {tb:SetTable} (x:zii h a es ep tb) (k: ∀ ob,h.get? a=some ob->h'.get? a=some ob):zii h' a es ep tb:=
 ⟨let ⟨ob,h1,h2⟩:=x.at_;⟨ob,k ob h1,h2⟩,x.fits⟩
noncomputable def zgK (tb:SetTable):Nat->Nat
 | 0=>0
 | i+1=>tb.place.getD i 0+1
theorem zjd (hh:A.handled=none) {it a:Addr} {ep:Nat} {es:Array (Int×Value)} {tb:SetTable} (hne:a≠it) (up:Up tb.place) (led:tb.led=true) (bt:w.params.followText "set-order"=false) (pl:(!tb.plain && decide (es.size>1))=false) (hf:tb.fits es.size=true):
  Walks prog w A it [it,a] [it] es.size (fun i v=> ∃ e,es.toList[i]? = some e/\v=e.2) (fun i h=>SIt h it a (.int (zgK tb i:Nat) 0) i es.size ep/\zii h a es ep tb) where
 sub:=fun b hb=>by simp at hb;simp [hb]
 frame:=fun i h h' st k=>⟨k it (by simp) _ st.1,st.2.keep fun ob e=>k a (by simp) ob e⟩
 item:=fun i s Q E hi st q=>by
  have pz:=zf2 hf
  have hi2:i<tb.place.size:=by omega
  have bl:SetTable.below tb.place (zgK tb i)=i:=by
   cases i with
   | zero=>exact zfT up
   | succ i=>
    have hi3:i<tb.place.size:=by omega
    have e:tb.place[i]? = some (tb.place.getD i 0):=by simp [hi3,Array.getD]
    exact zfU up e
  have ep':tb.place.getD i 0=tb.place[i]:=by simp [hi2,Array.getD]
  refine zk9 (nx:=zgK tb (i+1)) (x:=es[i].2) st.1 st.2 rfl (fun R E' r=>zdT st.2 led bt pl ?_) fun h' a1 sb=> ?_
  ·rw [bl]
   have e1:es[i]? = some es[i]:=by simp [hi]
   have e2:tb.place[i]? = some tb.place[i]:=by simp [hi2]
   rw [e1,e2]
   show R (some (es[i].2,tb.place[i]+1)) s
   have e3:zgK tb (i+1)=tb.place[i]+1:=by show tb.place.getD i 0+1=_;rw [ep']
   rw [<- e3]
   exact r
  ·exact q _ h' s.toks ⟨es[i],by simp [hi],rfl⟩ ⟨a1,st.2.keep fun ob e=>(sb.2 a hne).trans e⟩ fun b ob hb e=>(sb.2 b fun z=>hb (by simp [z])).trans e
 done:=fun s Q E st q=>by
  have pz:=zf2 hf
  have bl:SetTable.below tb.place (zgK tb es.size)=es.size:=by
   cases hz:es.size with
   | zero=>exact zfT up
   | succ i=>
    have hi3:i<tb.place.size:=by omega
    have e:tb.place[i]? = some (tb.place.getD i 0):=by simp [hi3,Array.getD]
    exact zfU up e
  refine zm6 hh st.1 st.2 rfl (fun R E' r=>zdT st.2 led bt pl ?_) fun h' k=>q h' s.toks fun b ob hb e=>k b ob (fun z=>hb (by simp [z])) e
  rw [bl]
  have e1:es[es.size]? = none:=by simp
  rw [e1]
  exact r
 self:=fun i s Q E st q=>zfb st.1 q
theorem zjy (hh:A.handled=none) {it a:Addr} {ep:Nat} {es:Array (Int×Value)} {tb:SetTable} (hne:a≠it) (bt:w.params.followText "set-order"=true) (hf:tb.fits es.size=true):
  Walks prog w A it [it,a] [it] es.size (fun i v=> ∃ e,(pickOrder (w.params.setOrder a ep) es).toList[i]? = some e/\v=e.2) (fun i h=>SIt h it a (.int (0:Nat) 0) i es.size ep/\zii h a es ep tb) where
 sub:=fun b hb=>by simp at hb;simp [hb]
 frame:=fun i h h' st k=>⟨k it (by simp) _ st.1,st.2.keep fun ob e=>k a (by simp) ob e⟩
 item:=fun i s Q E hi st q=>by
  have pz:(pickOrder (w.params.setOrder a ep) es).size=es.size:=by
   have:=(zcI (w.params.setOrder a ep) es).length_eq
   simpa using this
  have hi2:i<(pickOrder (w.params.setOrder a ep) es).size:=by omega
  refine zk9 (nx:=0) (x:=(pickOrder (w.params.setOrder a ep) es)[i].2) st.1 st.2 rfl (fun R E' r=>zeF st.2 bt ?_) fun h' a1 sb=> ?_
  ·have e1:(pickOrder (w.params.setOrder a ep) es)[i]? = some (pickOrder (w.params.setOrder a ep) es)[i]:=by simp [hi2]
   rw [e1]
   exact r
  ·exact q _ h' s.toks ⟨(pickOrder (w.params.setOrder a ep) es)[i],by simp [hi2],rfl⟩ ⟨a1,st.2.keep fun ob e=>(sb.2 a hne).trans e⟩ fun b ob hb e=>(sb.2 b fun z=>hb (by simp [z])).trans e
 done:=fun s Q E st q=>by
  have pz:(pickOrder (w.params.setOrder a ep) es).size=es.size:=by
   have:=(zcI (w.params.setOrder a ep) es).length_eq
   simpa using this
  refine zm6 hh st.1 st.2 rfl (fun R E' r=>zeF st.2 bt ?_) fun h' k=>q h' s.toks fun b ob hb e=>k b ob (fun z=>hb (by simp [z])) e
  have e1:(pickOrder (w.params.setOrder a ep) es)[es.size]? = none:=by simp [pz]
  rw [e1]
  exact r
 self:=fun i s Q E st q=>zfb st.1 q
theorem zi1 (hh:A.handled=none) {it a tp:Addr} {ep:Nat} {es:Array (Int×Value)} {tb:SetTable} {ys:List Nat} (hne:a≠it) (hne2:tp≠it) (hp:List.Perm ys (List.range es.size)):
  Walks prog w A it [it,a,tp] [it] es.size (fun i v=> ∃ e,(ys.filterMap (es[·]?))[i]? = some e/\v=e.2) (fun i h=>SIt h it a (.ref tp) i es.size ep/\zii h a es ep tb/\h.get? tp=some {cls:= .type "tuple",data:= .seq (ys.map fun (i:Nat)=>rawInt i).toArray}) where
 sub:=fun b hb=>by simp at hb;simp [hb]
 frame:=fun i h h' st k=>⟨k it (by simp) _ st.1,st.2.1.keep fun ob e=>k a (by simp) ob e,k tp (by simp) _ st.2.2⟩
 item:=fun i s Q E hi st q=>by
  have hl:ys.length=es.size:=by simpa using hp.length_eq
  have hi2:i<ys.length:=by omega
  have lt: ∀ y∈ys,y<es.size:=fun y hy=>by simpa using hp.mem_iff.mp hy
  have lti:=lt _ (List.getElem_mem hi2)
  have fm: ∀ (zs:List Nat),(∀ y∈zs,y<es.size)-> ∀ (j:Nat) (y:Nat),zs[j]? = some y->(zs.filterMap (es[·]?))[j]? = es[y]? := by
   intro zs
   induction zs with
   | nil=>intro _ j y e;simp at e
   | cons z r ih=>
    intro hz j y e
    have lz:=hz z (.head _)
    rw [List.filterMap_cons_some (b:=es[z]) (by simp [lz])]
    cases j with
    | zero=>simp at e;subst e;simp [lz]
    | succ j=>simpa using ih (fun y hy=>hz y (.tail _ hy)) j y (by simpa using e)
  refine zi0 (p:=ys[i]) (x:=es[ys[i]].2) st.1 st.2.1 rfl st.2.2 (by simp [hi2,rawInt]) (by simp [lti]) fun h' a1 sb=> ?_
  refine q _ h' s.toks ⟨es[ys[i]],?_,rfl⟩ ⟨a1,st.2.1.keep fun ob e=>(sb.2 a hne).trans e,(sb.2 tp hne2).trans st.2.2⟩ fun b ob hb e=>(sb.2 b fun z=>hb (by simp [z])).trans e
  rw [fm ys lt i ys[i] (by simp [hi2])]
  simp [lti]
 done:=fun s Q E st q=>by
  have hl:ys.length=es.size:=by simpa using hp.length_eq
  exact zjM hh st.1 st.2.1 rfl st.2.2 (by simp [hl]) fun h' k=>q h' s.toks fun b ob hb e=>k b ob (fun z=>hb (by simp [z])) e
 self:=fun i s Q E st q=>zfb st.1 q
end
section
variable {prog:Program} {w:World} {A:Around} {E:Value->Shared->Prop} {s:Shared}
structure zoo (prog:Program) (w:World) (a it:Addr) (es:Array (Int×Value)) (ord:List (Int×Value)) (fp:List Addr) (St:Nat->Heap->Prop):Prop where
 walks: ∀ A:Around,A.handled=none->Walks prog w A it fp [it] es.size (fun i v=> ∃ e,ord[i]? = some e/\v=e.2) St
 perm:List.Perm ord es.toList
 mem:it∈fp
theorem zte {a:Addr} {S:Int->Bool} {n:Nat} {Q:Value->Shared->Prop} (g:zgB prog w s.heap a S n)
  (q: ∀ it es ep tb ord fp St h' d,(∃ ob,s.heap.get? a=some ob/\ob.ExactSet/\ob.data= .set es ep tb)->zoo prog w a it es ord fp St->St 0 h'->s.heap.objs.size<=it->(∀ b ob,s.heap.get? b=some ob->h'.get? b=some ob)->(∀ b∈fp,b=a\/s.heap.objs.size<=b)->es.size<scanBound->
    Q (.ref it) {s with heap:=h',drawn:=d}):wpAny (model prog w) A (pyIter (.ref a)) Q E s:=by
 obtain ⟨ob,es,ep,tb,⟨h1,h2,h3⟩,h4,h5,⟨h6,h7,h8⟩,h9⟩:=g
 have tS:s.TypeIs (.ref a) "set":=⟨ob,h1,h2.1⟩
 have lta:a<s.heap.objs.size:=qaQ h1
 refine wpAny_pyIter_slot tS F.slot_set_iter (wpAny_call_entry F.slot_set_iter tS zfL ?_ (F.args_set_iter_1 _))
 unfold Builtin.«frozenset.__iter__»
 refine qaW (m:=Builtin.Frozenset.slot0 "__iter__" _) (qaX ?_)
 refine qaW (m:=Builtin.Frozenset.sizeOf a) ?_
 unfold Builtin.Frozenset.sizeOf
 refine qaW (wpAny_setEntries_of h1 h3 h7 (qaX ?_))
 refine qaW (m:=setDrawn a) ?_
 unfold setDrawn
 refine qaW (wpAny_setState_of h1 h3 h7 ?_)
 dsimp only
 unfold setsByText
 refine qaW (qaW (wpAny_askSetting (qaX (qaX ?_))))
 dsimp only
 have sobj: ∀ {h':Heap},(∀ b ob,s.heap.get? b=some ob->h'.get? b=some ob)->zii h' a es ep tb:=fun k=>⟨⟨ob,k _ _ h1,h2,h3⟩,h7⟩
 by_cases dr:(!(model prog w).w.params.followText "set-order" && (!tb.plain && decide (es.size>1)))=true
 ·show wpAny _ _ (if (!(model prog w).w.params.followText "set-order" && (!tb.plain && decide (es.size>1)))=true then _ else _) _ _ _
  rw [qa4 dr]
  refine qaW (zeE es.size (List.range es.size) s _ (by simp) fun ys d hp=> ?_)
  have hl:ys.length=es.size:=by simpa using hp.length_eq
  have small:es.size<=sizeLine:=fits_of_scanBound h6
  refine qaW ?_
  unfold newTuple
  refine qaC ?_ (by show (ys.map fun (i:Nat)=>rawInt i).toArray.size<=sizeLine;simp [hl];exact small)
  unfold setEpoch
  refine qaW (qaW (wpAny_setState_of (s:={s with heap:=_,drawn:=d}) (qag _ h1) h3 h7 (qaX ?_)))
  dsimp only
  refine qaW (qaC (qaX ⟨_,rfl,"set_iterator",_,⟨_,qar _ rfl,rfl⟩,zaT.lookup,?_⟩))
  have z1:(s.heap.push {cls:= .type "tuple",dict:=none,data:= .seq (ys.map fun (i:Nat)=>rawInt i).toArray}).objs.size=s.heap.objs.size+1:=qaL ..
  have kp: ∀ (o2:Obj) b ob,s.heap.get? b=some ob->((s.heap.push {cls:= .type "tuple",dict:=none,data:= .seq (ys.map fun (i:Nat)=>rawInt i).toArray}).push o2).get? b=some ob:=fun o2 b ob e=>qag _ (qag _ e)
  refine q _ es ep tb (ys.filterMap (es[·]?)) [(s.heap.push {cls:= .type "tuple",dict:=none,data:= .seq (ys.map fun (i:Nat)=>rawInt i).toArray}).objs.size,a,s.heap.objs.size] _ _ d ⟨ob,h1,h2,h3⟩ ⟨fun A' hA=>zi1 (tb:=tb) (ep:=ep) hA ?_ ?_ hp,?_,.head _⟩ ⟨?_,sobj (kp _),?_⟩ ?_ (kp _) (fun b hb=> ?_) h6
  ·rw [z1];exact qaR (Nat.lt_succ_of_lt lta)
  ·rw [z1];exact qaR (Nat.lt_succ_self _)
  ·refine (hp.filterMap _).trans ?_
   rw [filterMap_getElem?_range]
  ·exact qar _ rfl
  ·exact qag _ (qar _ rfl)
  ·rw [z1];exact Nat.le_succ _
  ·simp only [qaP,qaF,or_false] at hb
   rcases hb with z | z | z
   ·right;rw [z,z1];exact Nat.le_succ _
   ·exact .inl z
   ·right;rw [z];exact qaV _
 ·show wpAny _ _ (if (!(model prog w).w.params.followText "set-order" && (!tb.plain && decide (es.size>1)))=true then _ else _) _ _ _
  rw [qa5 dr]
  refine qaW (qaX ?_)
  unfold setEpoch
  refine qaW (qaW (wpAny_setState_of h1 h3 h7 (qaX ?_)))
  dsimp only
  refine qaW (qaC (qaX ⟨_,rfl,"set_iterator",_,⟨_,qar _ rfl,rfl⟩,zaT.lookup,?_⟩))
  have kp: ∀ (o2:Obj) b ob,s.heap.get? b=some ob->(s.heap.push o2).get? b=some ob:=fun o2 b ob e=>qag _ e
  have fpl: ∀ b∈[s.heap.objs.size,a],b=a\/s.heap.objs.size<=b:=fun b hb=>by
   simp only [qaP,qaF,or_false] at hb
   rcases hb with z | z
   ·right;rw [z];exact qaV _
   ·exact .inl z
  cases bt:w.params.followText "set-order" with
  | true=>
   exact q _ es ep tb _ [s.heap.objs.size,a] _ _ s.drawn ⟨ob,h1,h2,h3⟩ ⟨fun A' hA=>zjy (tb:=tb) (ep:=ep) hA (qaR lta) bt h7,zcI _ _,.head _⟩ ⟨qar _ rfl,sobj (kp _)⟩ (qaV _) (kp _) fpl h6
  | false=>
   have pl:(!tb.plain && decide (es.size>1))=false:=by
    rw [show (model prog w).w.params.followText "set-order"=false from bt] at dr
    simpa using dr
   have led:tb.led=true:=by
    rw [h9.led]
    unfold zc0
    rw [bt]
    rfl
   exact q _ es ep tb _ [s.heap.objs.size,a] _ _ s.drawn ⟨ob,h1,h2,h3⟩ ⟨fun A' hA=>zjd (tb:=tb) (ep:=ep) hA (qaR lta) h9.up led bt pl h7,.rfl,.head _⟩ ⟨qar _ rfl,sobj (kp _)⟩ (qaV _) (kp _) fpl h6
theorem zlU {a:Addr} {S:Int->Bool} {n:Nat} {Q:List Value->Shared->Prop} (hh:A.handled=none) (g:zgB prog w s.heap a S n)
  (q: ∀ vs s' es ep tb,(∃ ob,s.heap.get? a=some ob/\ob.ExactSet/\ob.data= .set es ep tb)->List.Perm vs (es.toList.map (·.2))->(∀ b ob,s.heap.get? b=some ob->s'.heap.get? b=some ob)->s'.gens=s.gens->s'.os=s.os->Q vs s'):wpAny (model prog w) A (collect (.ref a)) Q E s:=by
 have tS: ∀ {h':Heap} {s':Shared},s'.heap=h'->(∀ b ob,s.heap.get? b=some ob->h'.get? b=some ob)->s'.TypeIs (.ref a) "set":=fun {h' s'} e k=>by
  obtain ⟨ob,es,ep,tb,⟨h1,h2,h3⟩,_⟩:=g
  exact ⟨ob,by rw [e];exact k _ _ h1,h2.1⟩
 have lta:a<s.heap.objs.size:=by
  obtain ⟨ob,es,ep,tb,⟨h1,h2,h3⟩,_⟩:=g
  exact qaQ h1
 unfold collect
 refine qaW (wpAny_runValue (codeAny_builtin F.entry_proto_collect ?_))
 rw [qap F.plain_proto_collect _]
 show wpAny _ _ (newList []>>=fun l=>again (.builtin "list.__iadd__" ⟨[l,.ref a],[]⟩)) _ _ _
 refine qaW (qaC (qaX ⟨plainId_quiet F.plain_list_iadd _,codeAny_builtin F.entry_list_iadd ?_⟩))
 rw [qap F.plain_list_iadd _]
 show wpAny _ _ (Builtin.List.listExtendWith (.ref s.heap.objs.size) (.ref a) (.ref s.heap.objs.size)) _ _ _
 unfold Builtin.List.listExtendWith
 have k1: ∀ b ob,s.heap.get? b=some ob->(s.heap.push {cls:= .type "list",data:= .seq ([]:List Value).toArray}).get? b=some ob:=fun b ob e=>qag _ e
 refine qaW (wpAny_typeOf (tS rfl k1) ?_)
 have nsame:Builtin.List.listSameRef (.ref s.heap.objs.size) (.ref a)=false:=by
  simp only [Builtin.List.listSameRef,beq_eq_false_iff_ne]
  exact fun z=>qaN _ (z▸lta)
 have nl:(Value.type "set"==Value.type "list")=false:=by decide
 have nt:(Value.type "set"==Value.type "tuple")=false:=by decide
 simp only [nsame,nl,nt,Bool.or_false,qax,if_false]
 refine qaW (zte (g.move (fun ob e=>k1 _ _ e) (fun _=>rfl) rfl) fun it es ep tb ord fp St h2 d hob W st0 lit k2 fpl few=> ?_)
 refine qaW (qaO ?_)
 unfold Builtin.List.listLengthHint
 have k12: ∀ b ob,s.heap.get? b=some ob->h2.get? b=some ob:=fun b ob e=>k2 b ob (k1 b ob e)
 refine qaW (wpAny_specialOf (tS rfl k12) F.slot_set_len.lookup ?_)
 have sp:splitId "set.__len__"=some ("set","__len__"):=by decide +kernel
 dsimp only
 rw [sp]
 dsimp only
 refine qaW (wpAny_isInstance (tS rfl k12) sub_set_self ?_)
 rw [qa5 (by decide)]
 rw [qa4 (by decide +kernel)]
 refine qaW (wpAny_typeOf (tS rfl k12) (qaX ?_))
 rw [qa4 (by decide +kernel)]
 refine qaW (wpAny_rule ?_)
 have l2:h2.get? s.heap.objs.size=some {cls:= .type "list",data:= .seq ([]:List Value).toArray}:=k2 _ _ (qar _ rfl)
 refine qaW ?_
 unfold Builtin.List.listTouch
 show wpAny _ _ (updateSeq s.heap.objs.size (·.push .none)>>=fun _=>updateSeq s.heap.objs.size (·.pop)) _ _ _
 refine qaW (wpAny_updateSeq l2 rfl ?_)
 have l3:=qal (Obj.mapSeq (·.push Value.none)) l2 rfl
 refine wpAny_updateSeq l3 rfl ?_
 have l4:=qal (Obj.mapSeq (·.pop)) l3 rfl
 have oth: ∀ b ob,b≠s.heap.objs.size->h2.get? b=some ob->((h2.update s.heap.objs.size (Obj.mapSeq (·.push Value.none))).update s.heap.objs.size (Obj.mapSeq (·.pop))).get? b=some ob:=fun b ob hb e=>
  (qah _ _ (Ne.symm hb)).trans ((qah _ _ (Ne.symm hb)).trans e)
 have nfp:s.heap.objs.size∉fp:=fun z=>by
  rcases fpl _ z with z | z
  ·exact qaN _ (z▸lta)
  ·rw [show ({s with heap:=s.heap.push {cls:= .type "list",data:= .seq ([]:List Value).toArray}}:Shared).heap.objs.size=s.heap.objs.size+1 from qaL ..] at z
   exact qaN _ z
 have fin: ∀ (s':Shared) (vs:Array Value) (c:Nat),(∀ b ob,s.heap.get? b=some ob->s'.heap.get? b=some ob)->s'.gens=s.gens->s'.os=s.os->s'.heap.get? s.heap.objs.size=some {cls:= .type "list",dict:=none,data:= .seq vs c,slots:= #[]}->ItemsOf (fun i v=> ∃ e,ord[i]? = some e/\v=e.2) vs es.size->
   wpAny (model prog w) A (load s.heap.objs.size>>=fun o=>match o.data with | .seq xs _=>pure xs.toList | _=>unsupported "internal:collect") Q E s':=fun s' vs c k g1 g2 e it1=>by
  refine qaW (wpAny_load e (qaX (q vs.toList s' es ep tb ?_ ?_ k g1 g2)))
  ·obtain ⟨ob,o1,o2⟩:=hob
   obtain ⟨ob',es',ep',tb',⟨p1,p2,p3⟩,_⟩:=g
   have:=k1 _ _ p1
   rw [o1] at this
   cases this
   exact ⟨ob,p1,o2⟩
  ·have hl:ord.length=es.size:=by simpa using W.perm.length_eq
   have e2:vs.toList=ord.map (·.2):=by
    apply List.ext_getElem?
    intro i
    by_cases hi:i<es.size
    ·have hv0:i<vs.size:=by rw [it1.1];exact hi
     have hv:vs[i]? = some vs[i]:=by simp [hv0]
     obtain ⟨e,e1,e2⟩:=it1.2 i _ hv
     rw [List.getElem?_map,e1,Array.getElem?_toList,hv,e2]
     rfl
    ·rw [List.getElem?_eq_none (by simp [it1.1];omega),List.getElem?_eq_none (by simp [hl];omega)]
   rw [e2]
   exact W.perm.map _
 have Wk:=(W.walks A.in1 hh).toS
 refine qaX ⟨plainId_quiet F.plain_extend_loop _,codeAny_extend_loopS Wk ?_ _ nfp _ es.size 0 _ _ _ rfl (Nat.zero_le _) ?_ l4 (ItemsOf.nil _) fun s' vs c mv e it1=> ?_⟩
 ·exact fits_of_scanBound few
 ·exact (W.walks A.in1 hh).frame 0 h2 _ st0 fun b hb ob e=>oth b ob (fun z=>nfp (z▸hb)) e
 ·refine fin s' vs c (fun b ob e'=>mv.heap b ob ?_ (oth b ob ?_ (k12 b ob e'))) mv.gens mv.os e it1
  ·intro z
   rcases qaP.mp z with z | z
   ·exact qaN _ (z▸qaQ e')
   ·simp only [qaP,qaF,or_false] at z
    have:=qaQ e'
    rw [z] at this
    exact qaN _ (qaw this (qaS (by rw [qaL];exact Nat.le_succ _) lit))
  ·exact fun z=>qaN _ (z▸qaQ e')
end
noncomputable def zmX (x:Int):List Int->List Int
 | []=>[x]
 | y::r=>if x<=y then x::y::r else y::zmX x r
noncomputable def zb0:List Int->List Int
 | []=>[]
 | x::r=>zmX x (zb0 r)
theorem zfw (x:Int): ∀ l:List Int,List.Perm (zmX x l) (x::l)
 | []=> .rfl
 | y::r=>by
  unfold zmX
  split
  ·exact .rfl
  ·exact ((zfw x r).cons y).trans (.swap x y r)
theorem zlF {x z:Int} {l:List Int}:z∈zmX x l↔z=x\/z∈l:=by rw [(zfw x l).mem_iff,qaP]
theorem zkJ (x:Int): ∀ l:List Int,l.Pairwise (· <= ·)->(zmX x l).Pairwise (· <= ·)
 | [],_=>by unfold zmX;simp
 | y::r,h=>by
  obtain ⟨h1,h2⟩:=qay.mp h
  unfold zmX
  split
  ·rename_i hxy
   refine qay.mpr ⟨fun z hz=> ?_,h⟩
   rcases qaP.mp hz with e | hz
   ·rw [e];exact hxy
   ·exact Int.le_trans hxy (h1 z hz)
  ·rename_i hxy
   refine qay.mpr ⟨fun z hz=> ?_,zkJ x r h2⟩
   rcases zlF.mp hz with e | hz
   ·rw [e];omega
   ·exact h1 z hz
theorem zaN: ∀ l:List Int,List.Perm (zb0 l) l
 | []=> .rfl
 | x::r=>(zfw x _).trans ((zaN r).cons x)
theorem zdw: ∀ l:List Int,(zb0 l).Pairwise (· <= ·)
 | []=> .nil
 | x::r=>zkJ x _ (zdw r)
theorem zeW {a b:List Int} (hp:a.Perm b) (h:a.Pairwise (· <= ·)):a=zb0 b:=W.ksm_same (hp.trans (zaN b).symm) h (zdw b)
noncomputable def zfD (ns:List Int):List Int:=zb0 (ns.foldl step_dedup [])
theorem zkF (ns:List Int): ∀ (acc:List Int) (k:Int),(ns.foldl step_dedup acc).any (· == k)=(acc.any (· == k) || ns.any (· == k)):=by
 induction ns with
 | nil=>intro acc k;simp
 | cons x r ih=>
  intro acc k
  rw [List.foldl_cons,ih,step_any]
  simp only [List.any_cons]
  have:(x==k)=decide (k=x):=by
   by_cases h:k=x
   ·subst h;simp
   ·have h': ¬x=k:=fun e=>h e.symm
    simp [h,h']
  rw [this,Bool.or_assoc]
theorem zkd {ns:List Int} {k:Int}:k∈ns.foldl step_dedup []↔k∈ns:=by
 have:=zkF ns [] k
 simp only [List.any_nil,Bool.false_or] at this
 have e: ∀ l:List Int,k∈l↔(l.any fun x=>x==k)=true:=fun l=>by
  rw [List.any_eq_true]
  constructor
  ·exact fun h=>⟨k,h,by simp⟩
  ·rintro ⟨x,h,c⟩
   have c:x=k:=by simpa using c
   rw [<- c]
   exact h
 rw [e,e,this]
theorem zfg (ns:List Int): ∀ acc:List Int,acc.Nodup->(ns.foldl step_dedup acc).Nodup:=by
 induction ns with
 | nil=>intro acc h;exact h
 | cons x r ih=>
  intro acc h
  refine ih _ ?_
  unfold step_dedup
  split
  ·exact h
  ·rename_i hx
   rw [List.nodup_append]
   refine ⟨h,by simp,fun a ha b hb=> ?_⟩
   simp only [List.mem_singleton] at hb
   subst hb
   intro e
   subst e
   exact hx (List.any_eq_true.mpr ⟨a,ha,by simp⟩)
theorem zdX {ns:List Int} {k:Int}:k∈zfD ns↔k∈ns:=by unfold zfD;rw [(zaN _).mem_iff,zkd]
theorem zgr (ns:List Int):(zfD ns).Pairwise (· < ·):=by
 have h1:=zdw (ns.foldl step_dedup [])
 have h2:(zfD ns).Nodup:=(zaN _).nodup_iff.mpr (zfg ns [] List.nodup_nil)
 exact (List.Pairwise.and h1 h2).imp fun ⟨a,b⟩=>by omega
theorem ze0 (ns:List Int):firstMet (fun i=>ns.getD i 0) ns.length=ns.foldl step_dedup []:=by
 unfold firstMet
 congr 1
 apply List.ext_getElem?
 intro i
 by_cases hi:i<ns.length
 ·simp [hi,List.getD]
 ·rw [List.getElem?_eq_none (by simp;omega),List.getElem?_eq_none (by omega)]
theorem zfi: ∀ {fm ms:List Int},fm.Nodup->(∀ k,k∈fm->k∈ms)->ms.length<=fm.length->List.Perm ms fm
 | [],ms,_,_,h=>by
  have:ms=[]:=List.length_eq_zero_iff.mp (by simpa using h)
  subst this
  exact .rfl
 | x::r,ms,nd,hm,h=>by
  obtain ⟨n1,n2⟩:=List.nodup_cons.mp nd
  have hx:=hm x (.head _)
  have p:=List.perm_cons_erase hx
  have hl:=p.length_eq
  rw [qaE] at hl h
  refine p.trans ((zfi n2 (fun k hk=> ?_) (by omega)).cons x)
  have hne:k≠x:=fun e=>n1 (e▸hk)
  rcases qaP.mp (p.mem_iff.mp (hm k (.tail _ hk))) with e | e
  ·exact absurd e hne
  ·exact e
section
variable {prog:Program} {w:World} {A:Around} {E:Value->Shared->Prop} {s:Shared}
theorem zgI {l l':List Value} {ns:List Int} (p:List.Perm l l') (h:IntsAre l' ns): ∃ ms,IntsAre l ms/\List.Perm ms ns:=by
 induction p generalizing ns with
 | nil=>exact ⟨ns,h,.rfl⟩
 | cons x _ ih=>
  cases h with
  | cons n t h=>
   obtain ⟨ms,h1,h2⟩:=ih h
   exact ⟨n::ms,.cons n t h1,h2.cons n⟩
 | swap x y l=>
  cases h with
  | cons n t h=>
   cases h with
   | cons n' t' h=>exact ⟨n'::n::_,.cons n' t' (.cons n t h),.swap _ _ _⟩
 | trans _ _ ih1 ih2=>
  obtain ⟨ms,h1,h2⟩:=ih2 h
  obtain ⟨ms',h3,h4⟩:=ih1 h1
  exact ⟨ms',h3,h4.trans h2⟩
theorem zf3: ∀ {es:List (Int×Value)},ElemsOf (intKind prog w) es-> ∃ ms,IntsAre (es.map (·.2)) ms/\ ∀ k,k∈ms↔ ∃ e∈es,(intKind prog w).is k e.2=true
 | [],_=>⟨[],.nil,fun k=>by simp⟩
 | e::r,h=>by
  obtain ⟨ms,h1,h2⟩:=zf3 (ElemsOf.tail h)
  obtain ⟨⟨k,hk,_⟩,_⟩:=ElemsOf.head h
  obtain ⟨t,ht⟩:=Value.isInt_shape (k:=k) (v:=e.2) hk
  refine ⟨k::ms,by rw [qaM,ht];exact .cons k t h1,fun z=> ?_⟩
  rw [qaP,h2 z]
  constructor
  ·rintro (c | ⟨e',c1,c2⟩)
   ·exact ⟨e,.head _,by rw [c];exact hk⟩
   ·exact ⟨e',.tail _ c1,c2⟩
  ·rintro ⟨e',c1,c2⟩
   rcases qaP.mp c1 with c | c
   ·subst c;exact .inl ((intKind prog w).inj _ _ _ c2 hk)
   ·exact .inr ⟨e',c,c2⟩
theorem zfh {x:Value} {Q:Value->Shared->Prop} (hc: ∀ E':Value->Shared->Prop,wpAny (model prog w) A.in1 (collect x) (fun vs s1=> ∃ ns,IntsAre vs ns/\vs.length<64/\ ∀ out e h',IntsAre out (zb0 ns)->(∀ b ob,s1.heap.get? b=some ob->h'.get? b=some ob)->
      h'.get? s1.heap.objs.size=some (seqObj "list" out.toArray e)->Q (.ref s1.heap.objs.size) {s1 with heap:=h'}) E' s):wpAny (model prog w) A (call (.builtin "sorted") [x]) Q E s:=by
 refine Calls.call_function_entry kind_sorted plain_sorted entry_sorted (args_sorted1 _) ?_
 unfold Builtin.«sorted»
 refine qaW (m:=checkCount "sorted" 1 1 _) (qaX ?_)
 refine qaW (m:=collect x) (qaZ (hc _) (fun vs s1 ⟨ns,hI,h64,q⟩=> ?_) fun _ _ z=>z)
 have small:vs.length<=sizeLine:=qaS (Nat.le_of_lt h64) (by decide)
 refine qaW (wpAny_newList ?_ small)
 have at0:(s1.heap.push {cls:= .type "list",data:= .seq vs.toArray}).get? s1.heap.objs.size=some (seqObj "list" vs.toArray 0):=qar _ rfl
 refine qaW (qaO (wpAny_call_entry slot_list_sort ⟨_,at0,rfl⟩ entry_list_sort (list_sort_tree (s:={s1 with heap:=s1.heap.push {cls:= .type "list",data:= .seq vs.toArray}}) at0 hI h64 fun out ns' a1 a2 a3=>⟨_,rfl,?_⟩) (args_list_sort _)))
 obtain ⟨e,he⟩:=sortedHeap_at (out:=out) at0
 refine qaX ⟨_,rfl,q out.toList e _ ?_ (fun b ob eb=> ?_) (by simpa using he)⟩
 ·rw [<- zeW a2 a3];exact a1
 ·have lt:=qaQ eb
  rw [sortedHeap_old (qaR lt) (by rw [qaL];exact Nat.lt_succ_of_lt lt)]
  exact qag _ eb
theorem zhB {l:Addr} {vs:List Value} {Q:List Value->Shared->Prop} (hl:s.heap.IsTuple l vs.toArray) (small:vs.length<=sizeLine)
  (q: ∀ h',(∀ b ob,s.heap.get? b=some ob->h'.get? b=some ob)->Q vs {s with heap:=h'}):wpAny (model prog w) A (collect (.ref l)) Q E s:=by
 obtain ⟨ob,ho,hc,n,hd⟩:=id hl
 unfold collect
 refine qaW (wpAny_runValue (codeAny_builtin F.entry_proto_collect ?_))
 rw [qap F.plain_proto_collect _]
 show wpAny _ _ (newList []>>=fun d=>again (.builtin "list.__iadd__" ⟨[d,.ref l],[]⟩)) _ _ _
 refine qaW (qaC (qaX ⟨plainId_quiet F.plain_list_iadd _,codeAny_builtin F.entry_list_iadd ?_⟩))
 rw [qap F.plain_list_iadd _]
 show wpAny _ _ (Builtin.List.listExtendWith (.ref s.heap.objs.size) (.ref l) (.ref s.heap.objs.size)) _ _ _
 unfold Builtin.List.listExtendWith
 have ho':(s.heap.push {cls:= .type "list",data:= .seq ([]:List Value).toArray}).get? l=some ob:=qag _ ho
 have d0:(s.heap.push {cls:= .type "list",data:= .seq ([]:List Value).toArray}).get? s.heap.objs.size=some (seqObj "list" #[] 0):=qar _ rfl
 refine qaW (wpAny_typeOf (T:="tuple") ⟨ob,ho',hc⟩ ?_)
 rw [qa4 (by simp)]
 refine qaW (listItems_at ho' hd ?_)
 refine qaW (listItems_at d0 rfl ?_)
 rw [qa5 (by simp)]
 refine qaW (listUpdate_at (xs:= #[]) (n:=0) d0 rfl ?_ (Nat.zero_le _) (by show (#[]++vs.toArray).size<=sizeLine+1;simp;omega))
 refine qaX ?_
 show wpAny _ _ (load s.heap.objs.size>>=fun o=>match o.data with | .seq xs _=>pure xs.toList | _=>unsupported "internal:collect") _ _ _
 refine qaW (wpAny_load (get?_update_seq d0 _) ?_)
 have z:=q ((s.heap.push {cls:= .type "list",data:= .seq ([]:List Value).toArray}).update s.heap.objs.size (Obj.mapSeq fun x=>x++vs.toArray)) fun b ob e=>(qah _ _ (fun z=>qaN _ (z▸qaQ e))).trans (qag _ e)
 show wpAny _ _ (pure ((#[]:Array Value)++vs.toArray).toList) _ _ _
 rw [show ((#[]:Array Value)++vs.toArray).toList=vs by simp]
 exact qaX z
end
end LT
namespace L2
open PySem PySem.Spec PyProof.Rows LT
section
variable {X:Cx}
noncomputable def zll (P:Program) (w:World) (p:Addr) (ns:List Int):HO:= .ext fun h=>zgB P w h p (fun z=>(ns.foldl step_dedup []).any (· == z)) (ns.foldl step_dedup []).length
theorem zke (ns:List Int):(ns.foldl step_dedup []).length<=ns.length:=by
 rw [<- ze0]
 exact firstMet_length_le _ _
theorem zkK (hc:X.calm=true):zaZ X (.type "set") (fun xs H Q=> ∃ (a:Addr) (ns:List Int),xs=[.ref a]/\(SqL X.K H a (ns.map V.int)\/SqT X.K H a (ns.map V.int))/\ns.length<4000/\ ∀ p,H p=none->Q (.ref p) (upd H p (zll X.prog X.w p ns))):=by
 intro pins s σ H xs us Q I r h
 obtain ⟨a,ns,rfl,hq,hl,q⟩:=h
 obtain ⟨u,rfl,rx⟩:=zd1 r
 cases rx
 have fin: ∀ (items:Array Value),items.size=ns.length-> ∀ (h':Heap) (tk:Nat),zgB X.prog X.w h' s.heap.objs.size (fun z=>(firstMet (fun i=>ns.getD i 0) items.size).any (· == z)) (firstMet (fun i=>ns.getD i 0) items.size).length->(∀ b ob,s.heap.get? b=some ob->h'.get? b=some ob)->
   EP X pins σ Q (.ref s.heap.objs.size) {s with heap:=h',toks:=tk}:=fun items hz h' tk g k=>by
  rw [hz,ze0] at g
  refine ⟨.ref s.heap.objs.size,_,I.laid (t':=tk) (o:=zll X.prog X.w s.heap.objs.size ns) k (qaV _) ⟨g,?_,fun h1 h2 z e=>z.move e (fun _=>rfl) rfl⟩,rfl,q _ (I.hok.fresh (qaV _))⟩
  obtain ⟨ob,es,ep,tb,⟨h1,_⟩,_⟩:=g
  exact ⟨ob,h1⟩
 have room:ns.length+1<scanBound:=by
  have:scanBound=4096:=rfl
  omega
 rcases hq with hq | hq
 ·obtain ⟨its,r',pl,_⟩:=I.list hq
  have hz:its.toArray.size=ns.length:=by rw [qaA, <-r'.length,qaH]
  exact ztE (I.ok.hd hc) (.inl ⟨rfl,pl.isList⟩) (by simpa using zcc r') (by rw [hz];exact room) fun h' tk g k=>fin _ hz h' tk g k
 ·obtain ⟨its,r',pl,_⟩:=I.tuple hq
  have hz:its.toArray.size=ns.length:=by rw [qaA, <-r'.length,qaH]
  exact ztE (I.ok.hd hc) (.inr ⟨rfl,pl⟩) (by simpa using zcc r') (by rw [hz];exact room) fun h' tk g k=>fin _ hz h' tk g k
theorem Inv.grown {pins:List (Addr×Obj)} {σ:St} {H:Hp} {s s':Shared} (I:Inv X pins σ H s) (ho:s'.os=s.os) (hg:s'.gens=s.gens) (k: ∀ b ob,s.heap.get? b=some ob->s'.heap.get? b=some ob):Inv X pins σ H s':=
 I.call' (ch:=[]) ho (Un.kept k) (I.hok.kept k) (by rw [hg];exact I.bare) fun b z=>nomatch z
theorem zlK {out:List Value} {ms:List Int} (h:IntsAre out ms):zbh (ms.map V.int) out:=ze4 h
theorem zeD (hc:X.calm=true):zaZ X (.builtin "sorted") (fun xs H Q=> ∃ (p:Addr) (ns:List Int),xs=[.ref p]/\((((ns.foldl step_dedup []).length<64/\H p=some (zll X.prog X.w p ns))/\ ∀ l,H l=none->Q (.ref l) (upd H l (.lst ((zfD ns).map V.int))))\/
    ((ns.length<64/\(SqL X.K H p (ns.map V.int)\/SqT X.K H p (ns.map V.int)))/\ ∀ l,H l=none->Q (.ref l) (upd H l (.lst ((zb0 ns).map V.int)))))):=by
 intro pins s σ H xs us Q I r h
 obtain ⟨p,ns,rfl,h⟩:=h
 obtain ⟨u,rfl,rx⟩:=zd1 r
 cases rx
 have fin: ∀ (s1:Shared) (ms:List Int),ms.length<=64->(∀ b ob,s.heap.get? b=some ob->s1.heap.get? b=some ob)->s1.gens=s.gens->s1.os=s.os->(∀ l,H l=none->Q (.ref l) (upd H l (.lst ((zb0 ms).map V.int))))-> ∀ out e h',IntsAre out (zb0 ms)->(∀ b ob,s1.heap.get? b=some ob->h'.get? b=some ob)->
   h'.get? s1.heap.objs.size=some (seqObj "list" out.toArray e)->EP X pins σ Q (.ref s1.heap.objs.size) {s1 with heap:=h'}:=fun s1 ms hm k g1 o1 q out e h' hi k2 e2=>by
  have I1:=I.grown o1 g1 k
  refine ⟨.ref s1.heap.objs.size,_,I1.laid (t':=s1.toks) (o:= .lst ((zb0 ms).map V.int)) k2 (qaV _) ⟨?_,out,e,zlK hi,e2⟩,rfl,q _ (I1.hok.fresh (qaV _))⟩
  rw [qaH,(zaN ms).length_eq]
  exact qaS hm (by decide)
 rcases h with ⟨⟨hl,hs⟩,q⟩ | ⟨⟨hl,hq⟩,q⟩
 ·obtain ⟨g,_⟩:=(show zcd X.prog X.w H s.heap p (zll X.prog X.w p ns) from I.hok p _ hs)
  refine zfh fun E'=>zlU (show X.A.in1.handled=none from I.ok.hd hc) g fun vs s1 es ep tb hob pv k g1 o1=> ?_
  obtain ⟨ob',es',ep',tb',⟨a1,a2,a3⟩,h4,h5,⟨h6,h7,h8⟩,h9⟩:=g
  obtain ⟨ob,b1,b2,b3⟩:=hob
  rw [a1] at b1
  cases b1
  rw [a3] at b3
  cases b3
  obtain ⟨ms,m1,m2⟩:=zf3 h4
  obtain ⟨ms',m3,m4⟩:=zgI pv m1
  have len:ms.length=(ns.foldl step_dedup []).length:=by
   rw [<- m1.length,qaH,qas]
   exact h8
  have pm:List.Perm ms (ns.foldl step_dedup []):=zfi (zfg ns [] List.nodup_nil) (fun z hz=>by
    rw [m2 z, <-h5 z]
    exact List.any_eq_true.mpr ⟨z,hz,by simp⟩) (Nat.le_of_eq len)
  have es1:zb0 ms'=zfD ns:=by
   unfold zfD
   exact zeW ((zaN ms').trans (m4.trans pm)) (zdw ms')
  have lm:ms'.length<64:=by
   rw [m4.length_eq,len]
   exact hl
  refine ⟨ms',m3,by rw [m3.length];omega,fun out e h' hi k2 e2=> ?_⟩
  exact fin s1 ms' (by omega) k g1 o1 (by rw [es1];exact q) out e h' hi k2 e2
 ·rcases hq with hq | hq
  ·obtain ⟨its,r',pl,hz⟩:=I.list hq
   have hi:=zcc r'
   have lz:its.length=ns.length:=by rw [<- r'.length,qaH]
   refine zfh fun E'=>collect_list pl.isList ?_ (by rw [lz, <-qaH (f:=V.int)];exact hz)
   refine ⟨ns,hi,by omega,fun out e h' hi2 k2 e2=> ?_⟩
   refine fin {s with heap:=(s.heap.push (seqObj "list" #[] 0)).update s.heap.objs.size (Obj.mapSeq fun x=>x++its.toArray)} ns (by omega) (fun b ob eb=> ?_) rfl rfl q out e h' hi2 k2 e2
   exact (qah _ _ (fun z=>qaN _ (z▸qaQ eb))).trans (qag _ eb)
  ·obtain ⟨its,r',pl,hz⟩:=I.tuple hq
   have hi:=zcc r'
   have lz:its.length=ns.length:=by rw [<- r'.length,qaH]
   refine zfh fun E'=>zhB pl (by rw [lz, <-qaH (f:=V.int)];exact hz) fun h1 k1=> ?_
   refine ⟨ns,hi,by omega,fun out e h' hi2 k2 e2=> ?_⟩
   exact fin {s with heap:=h1} ns (by omega) k1 rfl rfl q out e h' hi2 k2 e2
theorem zj1 (hc:X.calm=true):zaZ X (.builtin "all") (fun xs H Q=> ∃ (a:Addr) (bs:List Bool),xs=[.ref a]/\SqL X.K H a (bs.map V.bl)/\Q (.bl (bs.all id)) H):=by
 intro pins s σ H xs us Q I r h
 obtain ⟨a,bs,rfl,hq,q⟩:=h
 obtain ⟨u,rfl,rx⟩:=zd1 r
 cases rx
 obtain ⟨its,r',pl,hz⟩:=I.list hq
 have hlt:a<s.heap.objs.size:=by obtain ⟨_,e,_⟩:=pl.isList;exact qaQ e
 refine call_all_walk (wpAny_pyIter_list pl.isList ?_)
 refine ⟨s.heap.objs.size,[s.heap.objs.size,a],[s.heap.objs.size],its.toArray.size,_,_,fun i=>(bs[i]?).getD true,rfl,Walks.list (A:=X.A.in1) (I.ok.hd hc) _ a (qaR hlt) its.toArray,⟨⟨_,qar _ rfl,rfl,rfl⟩,pl.isList.push _⟩,fun i v s' Q' E' hP hQ=> ?_,fun h' tk hk=> ?_⟩
 ·have hv:its[i]? = some v:=by simpa using hP
  obtain ⟨hi,_⟩:=qac.mp hv
  have hlen:bs.length=its.length:=by rw [<- r'.length,qaH]
  have hb:(bs.map V.bl)[i]? = some (V.bl bs[i]):=by simp [hlen,hi]
  obtain ⟨u',hu,ru⟩:=r'.get hb
  rw [hv] at hu
  cases hu
  cases ru
  have e:(bs[i]?).getD true=bs[i]:=by simp [hlen,hi]
  have hQ:Q' ((bs[i]?).getD true) s':=hQ
  rw [e] at hQ
  exact wpAny_truthy_bool hQ
 ·have e:((List.range its.toArray.size).all fun i=>(bs[i]?).getD true)=bs.all id:=by
   have hlen:bs.length=its.length:=by rw [<- r'.length,qaH]
   rw [qaA, <-hlen]
   rw [Bool.eq_iff_iff,List.all_eq_true,List.all_eq_true]
   constructor
   ·intro h x hx
    obtain ⟨i,hi⟩:=List.mem_iff_getElem?.mp hx
    have hl:=(qac.mp hi).1
    have:=h i (by simpa using hl)
    rw [hi] at this
    exact this
   ·intro h i hi
    have hl:i<bs.length:=by simpa using hi
    have e1:bs[i]? = some bs[i]:=by simp [hl]
    rw [e1]
    exact h _ (List.getElem_mem hl)
  rw [e]
  refine ⟨.bl _,H,I.grown (s':={s with heap:=h',toks:=tk}) rfl rfl fun b ob eb=>hk b ob (fun z=> ?_) (qag _ eb),rfl,q⟩
  simp only [qaP,qaF,or_false] at z
  exact qaN _ (z▸qaQ eb)
theorem zks (hc:X.calm=true):zaZ X (.builtin "sum") (fun xs H Q=> ∃ (a:Addr) (ns:List Int),xs=[.ref a]/\SqL X.K H a (ns.map V.int)/\Q (.int ns.sum) H):=by
 intro pins s σ H xs us Q I r h
 obtain ⟨a,ns,rfl,hq,q⟩:=h
 obtain ⟨u,rfl,rx⟩:=zd1 r
 cases rx
 obtain ⟨its,r',pl,hz⟩:=I.list hq
 have hi:=zcc r'
 obtain ⟨ys,hy⟩:=hi.allInts.items
 have hl:s.heap.IsList a (intItems ys):=hy▸pl.isList
 refine sum_intListG (I.ok.hd hc) hl fun h' tk t' hk=> ?_
 have e1:ns=ys.toList.map (·.1):=by
  rw [<- nums_intItems, <-hy]
  exact (show numsOf its.toArray.toList=ns from hi.numsOf).symm
 have e2:preSum (numAt ys) ys.size=ns.sum:=by rw [preSum_eq,List.take_of_length_le (by simp),e1]
 rw [e2]
 exact ⟨.int ns.sum,H,I.grown (s':={s with heap:=h',toks:=tk}) rfl rfl hk,⟨t',rfl⟩,q⟩
end
end L2
namespace L3
open PySem PySem.Spec PyProof.Rows L2 LT
section
variable {X:Cx} {E:XE} {e:Expr} {es:List Expr} {pos p:Pos} {fs:Sd->M (List D)} {x:Str}
theorem zl9 {id:String} {F:List D->M D} (hc:zaZ X (.builtin id) (zhv X.K E F)) (hg:Gl X x) (hm:X.mg x=none) (hv:bootBuiltins x=some (.builtin id)) (ha:SA X E (e::es) fs) (hn:x≠"__name__":=by decide) (hdb:(x==("__debug__":Str))=false:=by decide)
  (he:starEach (e::es) X.env=(false,eval e X.env)::starEach es X.env:=by rfl) (hpl:(backTo pos (starEach es X.env)).any (·.1)=false:=by rfl):SE X E (.Call (.Name x p) (e::es) [] pos) (fun sd=>do let ds<-fs sd;F ds):=
 PE.imp (zdV hc hg hm hv ha hn hdb he hpl) fun σ H Q ⟨ι,h,sd,L,hh,q⟩=>⟨ι,h,sd,L,hh,Fin.bind q fun ds h1 ι1 H1 e1 s1 hr1 q1 vs rv=>⟨ι1,h1,ds,rv,hr1,q1⟩⟩
theorem zlt {T:String} {F:List D->M D} (hc:zaZ X (.type T) (zhv X.K E F)) (hg:Gl X x) (hm:X.mg x=none) (hv:bootBuiltins x=some (.type T)) (ha:SA X E (e::es) fs) (hn:x≠"__name__":=by decide) (hdb:(x==("__debug__":Str))=false:=by decide)
  (he:starEach (e::es) X.env=(false,eval e X.env)::starEach es X.env:=by rfl) (hpl:(backTo pos (starEach es X.env)).any (·.1)=false:=by rfl):SE X E (.Call (.Name x p) (e::es) [] pos) (fun sd=>do let ds<-fs sd;F ds):=
 PE.imp (zgH hc hg hm hv ha hn hdb he hpl) fun σ H Q ⟨ι,h,sd,L,hh,q⟩=>⟨ι,h,sd,L,hh,Fin.bind q fun ds h1 ι1 H1 e1 s1 hr1 q1 vs rv=>⟨ι1,h1,ds,rv,hr1,q1⟩⟩
noncomputable def zm7:D->M (List D)
 | .tup ds=>pure ds
 | .lst ds=>pure ds
 | .scr ds=>pure ds
 | .cel n=>zaw n
 | _=>M.bad
theorem zec {K:W.Frag} {ι:Io} {H:Hp} {h:Hh} {d:D} {v:V} {α:Type} {f:List D->M α} {P:α->Io->Hp->Prop} (hr:zbe K ι H h) (r:Rel K ι H d v) (q:Fin K E ι H ((do let ds<-zm7 d;f ds) h) P):
  ∃ a vs ds,v= .ref a/\((SqL K H a vs/\ ∀ ts,d≠ .tup ts)\/(SqT K H a vs/\d= .tup ds))/\zax K ι H ds vs/\Fin K E ι H (f ds h) P:=by
 cases d with
 | tup ds=>
  obtain ⟨a,vs,e,h1,h2⟩:=zdd r
  exact ⟨a,vs,ds,e,.inr ⟨h1,rfl⟩,h2,q⟩
 | lst ds=>
  obtain ⟨a,vs,e,h1,h2⟩:=zdk r
  exact ⟨a,vs,ds,e,.inl ⟨h1,fun _ z=>by cases z⟩,h2,q⟩
 | scr ds=>
  obtain ⟨a,vs,e,h1,h2⟩:=zlc r
  exact ⟨a,vs,ds,e,.inl ⟨h1,fun _ z=>by cases z⟩,h2,q⟩
 | cel n=>
  have q':Fin K E ι H (M.bind (zaw n) f h) P:=q
  unfold M.bind at q'
  cases z:zaw n h with
  | bad=>rw [z] at q';exact qa0 q'
  | exc c h'=>unfold zaw at z;split at z<;>cases z
  | ok ds h'=>
   rw [z] at q'
   obtain ⟨rfl,z2⟩:=zcR z
   obtain ⟨a,vs,e,hn,hH,rl⟩:=hr.read r z2
   exact ⟨a,vs,ds,e,.inl ⟨SqL.of hH,fun _ z=>by cases z⟩,rl,q'⟩
 | _=>exact qa0 q
theorem zlS {K:W.Frag} {H:Hp} {a:Addr} {vs:List V} {d:D} {ds:List D} (h:(SqL K H a vs/\ ∀ ts,d≠ .tup ts)\/(SqT K H a vs/\d= .tup ds)):SqL K H a vs\/SqT K H a vs:=h.imp And.left And.left
theorem zsP {K:W.Frag} {ι:Io} {H:Hp} {d:D} {xs:List V} (h:zax K ι H [d] xs): ∃ v,xs=[v]/\Rel K ι H d v:=by
 simp only [zax] at h
 obtain ⟨v,r,rfl,h1,rfl⟩:=h
 exact ⟨v,rfl,h1⟩
noncomputable def zm8 {α:Type} (f:D->M α):List D->M α
 | [d]=>f d
 | _=>M.bad
theorem zcr {α:Type} {K:W.Frag} {ι:Io} {H:Hp} {h:Hh} {f:D->M α} {ds:List D} {xs:List V} {P:α->Io->Hp->Prop} (rl:zax K ι H ds xs) (q:Fin K E ι H (zm8 f ds h) P): ∃ d v,xs=[v]/\Rel K ι H d v/\Fin K E ι H (f d h) P:=by
 match ds,rl,q with
 | [d],rl,q=>
  obtain ⟨v,e,r⟩:=zsP rl
  exact ⟨d,v,e,r,q⟩
 | [],_,q=>exact qa0 q
 | _::_::_,_,q=>exact qa0 q
noncomputable def zek:List D->M D:=zm8 fun d=>do let ds<-zm7 d;pure (.int ds.length)
theorem zaS:zaZ X (.builtin "len") (zhv X.K E zek):=by
 refine zaZ.imp zgF fun xs H Q ⟨ι,h,ds,rl,hr,q⟩=> ?_
 obtain ⟨d,v,e,r,q⟩:=zcr rl q
 obtain ⟨a,vs,ds',e',hs,rl',q⟩:=zec hr r q
 exact ⟨a,vs,by rw [e,e'],zlS hs,Fin.out hr q _ (by rw [rl'.length];simp [Rel])⟩
noncomputable def zcT:List D->M D:=zm8 fun d=>do let ds<-zm7 d;pure (.tup ds)
theorem zba:zaZ X (.type "tuple") (zhv X.K E zcT):=by
 refine zaZ.imp zgq fun xs H Q ⟨ι,h,ds,rl,hr,q⟩=> ?_
 obtain ⟨d,v,e,r,q⟩:=zcr rl q
 obtain ⟨a,vs,ds',e',hs,rl',q⟩:=zec hr r q
 refine ⟨a,vs,by rw [e,e'],?_⟩
 rcases hs with ⟨hs,_⟩ | ⟨hs,hd⟩
 ·exact .inl ⟨hs,fun l hl=>zpj hr rl' q hl⟩
 ·exact .inr ⟨hs,Fin.out hr q _ (by rw [<- e', <-hd];exact r)⟩
noncomputable def zfz:List D->M D:=zm8 fun d=>do let ds<-zm7 d;pure (.lst ds)
theorem zew:zaZ X (.type "list") (zhv X.K E zfz):=by
 refine zaZ.imp zgT fun xs H Q ⟨ι,h,ds,rl,hr,q⟩=> ?_
 obtain ⟨d,v,e,r,q⟩:=zcr rl q
 obtain ⟨a,vs,ds',e',hs,rl',q⟩:=zec hr r q
 exact ⟨a,vs,by rw [e,e'],zlS hs,fun l hl=>zpi hr rl' q hl⟩
noncomputable def two2 (g:Int->Int->Int):List D->M D
 | [.int i,.int j]=>pure (.int (g i j))
 | _=>M.bad
theorem two2_inv {K:W.Frag} {ι:Io} {H:Hp} {h:Hh} {g:Int->Int->Int} {ds:List D} {xs:List V} {P:D->Io->Hp->Prop} (hr:zbe K ι H h) (rl:zax K ι H ds xs) (q:Fin K E ι H (two2 g ds h) P): ∃ i j,xs=[.int i,.int j]/\P (.int (g i j)) ι H:=by
 unfold two2 at q
 split at q
 ·simp only [zax,Rel] at rl
  obtain ⟨v,r,rfl,rfl,v',r',rfl,rfl,rfl⟩:=rl
  exact ⟨_,_,rfl,Fin.out hr q⟩
 ·exact qa0 q
noncomputable def znM:=two2 fun i j=>if j>i then j else i
noncomputable def znJ:=two2 fun i j=>if j<i then j else i
theorem zje (hc:X.calm=true):zaZ X (.builtin "max") (zhv X.K E znM):=by
 refine zaZ.imp (zjD hc) fun xs H Q ⟨ι,h,ds,rl,hr,q⟩=> ?_
 obtain ⟨i,j,e,q⟩:=two2_inv hr rl q
 exact ⟨i,j,e,q _ (by simp [Rel])⟩
theorem zi3 (hc:X.calm=true):zaZ X (.builtin "min") (zhv X.K E znJ):=by
 refine zaZ.imp (zkL hc) fun xs H Q ⟨ι,h,ds,rl,hr,q⟩=> ?_
 obtain ⟨i,j,e,q⟩:=two2_inv hr rl q
 exact ⟨i,j,e,q _ (by simp [Rel])⟩
noncomputable def zlw:List D->Option (List Bool)
 | []=>some []
 | .bl b::r=>(zlw r).map (b:: ·)
 | _=>none
noncomputable def zdI:List D->Option (List Int)
 | []=>some []
 | .int i::r=>(zdI r).map (i:: ·)
 | _=>none
theorem zeX {K:W.Frag} {ι:Io} {H:Hp}: ∀ {ds:List D} {vs:List V} {bs:List Bool},zax K ι H ds vs->zlw ds=some bs->vs=bs.map V.bl
 | [],_,_,h,e=>by simp only [zax] at h;subst h;cases e;rfl
 | d::ds,_,bs,h,e=>by
  simp only [zax] at h
  obtain ⟨v,r,rfl,h1,h2⟩:=h
  cases d with
  | bl b=>
   unfold zlw at e
   cases z:zlw ds with
   | none=>rw [z] at e;cases e
   | some cs=>
    rw [z] at e
    cases e
    simp only [Rel] at h1
    rw [h1,zeX h2 z]
    rfl
  | _=>cases e
theorem zdt {K:W.Frag} {ι:Io} {H:Hp}: ∀ {ds:List D} {vs:List V} {bs:List Int},zax K ι H ds vs->zdI ds=some bs->vs=bs.map V.int
 | [],_,_,h,e=>by simp only [zax] at h;subst h;cases e;rfl
 | d::ds,_,bs,h,e=>by
  simp only [zax] at h
  obtain ⟨v,r,rfl,h1,h2⟩:=h
  cases d with
  | int b=>
   unfold zdI at e
   cases z:zdI ds with
   | none=>rw [z] at e;cases e
   | some cs=>
    rw [z] at e
    cases e
    simp only [Rel] at h1
    rw [h1,zdt h2 z]
    rfl
  | _=>cases e
theorem Fin.ofOb {α β:Type} {K:W.Frag} {ι:Io} {H:Hp} {h:Hh} {o:Option α} {f:α->M β} {P:β->Io->Hp->Prop} (q:Fin K E ι H ((do let a<-L3.ofO o;f a) h) P): ∃ a,o=some a/\Fin K E ι H (f a h) P:=by
 cases o with
 | none=>exact qa0 q
 | some a=>exact ⟨a,rfl,q⟩
noncomputable def zqy:List D->M D:=zm8 fun d=>match d with
 | .lst ds=>do let bs<-ofO (zlw ds);pure (.bl (bs.all id))
 | _=>M.bad
theorem zfe (hc:X.calm=true):zaZ X (.builtin "all") (zhv X.K E zqy):=by
 refine zaZ.imp (zj1 hc) fun xs H Q ⟨ι,h,ds,rl,hr,q⟩=> ?_
 obtain ⟨d,v,e,r,q⟩:=zcr rl q
 cases d with
 | lst ds=>
  obtain ⟨a,vs,e',h1,h2⟩:=zdk r
  obtain ⟨bs,eb,q⟩:=Fin.ofOb q
  have:=zeX h2 eb
  subst this
  exact ⟨a,bs,by rw [e,e'],h1,Fin.out hr q _ (by simp [Rel])⟩
 | _=>exact qa0 q
noncomputable def zpk:List D->M D:=zm8 fun d=>match d with
 | .lst ds=>do let bs<-ofO (zdI ds);pure (.int bs.sum)
 | _=>M.bad
theorem zg9 (hc:X.calm=true):zaZ X (.builtin "sum") (zhv X.K E zpk):=by
 refine zaZ.imp (zks hc) fun xs H Q ⟨ι,h,ds,rl,hr,q⟩=> ?_
 obtain ⟨d,v,e,r,q⟩:=zcr rl q
 cases d with
 | lst ds=>
  obtain ⟨a,vs,e',h1,h2⟩:=zdk r
  obtain ⟨bs,eb,q⟩:=Fin.ofOb q
  have:=zdt h2 eb
  subst this
  exact ⟨a,bs,by rw [e,e'],h1,Fin.out hr q _ (by simp [Rel])⟩
 | _=>exact qa0 q
noncomputable def zfp:List D->M D:=zm8 fun d=>do
 let ds<-zm7 d
 let ns<-ofO (zdI ds)
 if ns.length<64 then pure (.lst ((zb0 ns).map D.int)) else M.bad
theorem zeA (hc:X.calm=true):zaZ X (.builtin "sorted") (zhv X.K E zfp):=by
 refine zaZ.imp (zeD hc) fun xs H Q ⟨ι,h,ds,rl,hr,q⟩=> ?_
 obtain ⟨d,v,e,r,q⟩:=zcr rl q
 obtain ⟨a,vs,ds',e',hs,rl',q⟩:=zec hr r q
 obtain ⟨ns,en,q⟩:=Fin.ofOb q
 have:=zdt rl' en
 subst this
 obtain ⟨hl,q⟩:=Fin.guard q
 exact ⟨a,ns,by rw [e,e'],.inr ⟨⟨hl,zlS hs⟩,fun l hl=>zpi hr (zdq.mpr rfl) q hl⟩⟩
noncomputable def zcb (d:D):M D:=do
 let ds<-zm7 d
 let ns<-ofO (zdI ds)
 if (ns.foldl step_dedup []).length<64/\ns.length<4000 then pure (.lst ((zfD ns).map D.int)) else M.bad
theorem ziV {p1 p2 pos2:Pos} {f:Sd->M D} (hc:X.calm=true) (hg1:Gl X "sorted") (hm1:X.mg "sorted"=none) (hg2:Gl X "set") (hm2:X.mg "set"=none) (he:SE X E e f)
  (h1:starEach [.Call (.Name "set" p2) [e] [] pos2] X.env=[(false,eval (.Call (.Name "set" p2) [e] [] pos2) X.env)]:=by rfl) (h2:starEach [e] X.env=[(false,eval e X.env)]:=by rfl):
  SE X E (.Call (.Name "sorted" p1) [.Call (.Name "set" p2) [e] [] pos2] [] pos) (fun sd=>do let d<-f sd;zcb d):=by
 refine PE.imp (zdV (zeD hc) hg1 hm1 boot_sorted (zcj (zgH (zkK hc) hg2 hm2 PyProof.Rows.boot_set (zcj he zeG h2) (he:=h2)) zeG h1) (he:=h1)) fun σ H Q ⟨ι,h,sd,L,hh,q⟩=>⟨ι,h,sd,L,hh,Fin.bind q fun d h1 ι1 H1 e1 s1 hr1 q1 v rv=> ?_⟩
 obtain ⟨a,vs,ds',e',hs,rl',q2⟩:=zec hr1 rv q1
 obtain ⟨ns,en,q3⟩:=Fin.ofOb q2
 have:=zdt rl' en
 subst this
 obtain ⟨hl,q4⟩:=Fin.guard q3
 refine ⟨a,ns,by rw [e'],zlS hs,hl.2,fun p hp=> ?_⟩
 have hr2:zbe X.K ι1 (upd H1 p (zll X.prog X.w p ns)) h1:=hr1.laid hp
 exact ⟨p,ns,rfl,.inl ⟨⟨hl.1,za2⟩,fun l hl'=>zpi hr2 (zdq.mpr rfl) (Fin.step (hr1.laidS hp) q4) hl'⟩⟩
end
noncomputable def tyD:D->M String
 | .non=>pure "NoneType"
 | .bl _=>pure "bool"
 | .int _=>pure "int"
 | .str _=>pure "str"
 | .tup _=>pure "tuple"
 | .lst _=>pure "list"
 | .dct=>pure "dict"
 | .cel n=>do let _<-zaw n;pure "list"
 | _=>M.bad
noncomputable def zjK:List String:=["NoneType","bool","int","str","tuple","list","dict"]
noncomputable def isB (T t:String):Bool:=t==T || (t=="bool" && T=="int")
noncomputable def zfm (T:String) (d:D):M D:=do let t<-tyD d;pure (.bl (isB T t))
def zhP (T:String):Prop:= ∀ (K:W.Frag), ∀ t∈zjK,W.kitOne K (.type t) (.type T)=some (isB T t)
noncomputable def ztG (t T:String):Option Bool:=if ((Value.type t)==(Value.type T))=true then some true else if W.kitMeta T=true then (fastBuiltinMro t).map (·.contains (Value.type T)) else none
theorem zeT {T:String} (h:(zjK.all fun t=>ztG t T==some (isB T t))=true):zhP T:=fun K t ht=>by
 have:=List.all_eq_true.mp h t ht
 have e:W.kitOne K (.type t) (.type T)=ztG t T:=rfl
 rw [e]
 exact beq_iff_eq.mp this
theorem zls:zhP "int":=zeT (by decide +kernel)
theorem zgc:zhP "bool":=zeT (by decide +kernel)
theorem zcQ:zhP "tuple":=zeT (by decide +kernel)
theorem znx:zhP "str":=zeT (by decide +kernel)
section
variable {X:Cx} {E:XE} {α:Type}
theorem zoV {K:W.Frag} {ι:Io} {H:Hp} {h:Hh} {d:D} {v:V} {f:String->M α} {P:α->Io->Hp->Prop} (hr:zbe K ι H h) (r:Rel K ι H d v) (q:Fin K E ι H ((do let t<-tyD d;f t) h) P):
  ∃ t,t∈zjK/\zij K H v (.type t)/\Fin K E ι H (f t h) P:=by
 cases d with
 | non=>simp only [Rel] at r;subst r;exact ⟨_,by decide,.non,q⟩
 | bl b=>simp only [Rel] at r;subst r;exact ⟨_,by decide,.bl b,q⟩
 | int b=>simp only [Rel] at r;subst r;exact ⟨_,by decide,.int b,q⟩
 | str b=>simp only [Rel] at r;subst r;exact ⟨_,by decide,.str b,q⟩
 | tup ds=>
  simp only [Rel] at r
  obtain ⟨a,vs,e,h1,h2⟩:=r
  subst e
  exact ⟨_,by decide,.tup h1.1,q⟩
 | lst ds=>
  simp only [Rel] at r
  obtain ⟨a,vs,e,h1,h2⟩:=r
  subst e
  exact ⟨_,by decide,.lst h1.1,q⟩
 | dct=>
  simp only [Rel] at r
  obtain ⟨a,e,h1,h2⟩:=r
  subst e
  exact ⟨_,by decide,.dK h1,q⟩
 | cel n=>
  have q':Fin K E ι H (M.bind (zaw n) (fun _=>f "list") h) P:=by
   have e:(do let t<-tyD (.cel n);f t:M α)=(zaw n>>=fun _=>f "list"):=by
    show ((zaw n>>=fun _=>pure "list")>>=f)=_
    simp only [bind_assoc,pure_bind]
   rw [e] at q
   exact q
  unfold M.bind at q'
  cases z:zaw n h with
  | bad=>rw [z] at q';exact qa0 q'
  | exc c h'=>unfold zaw at z;split at z<;>cases z
  | ok ds h'=>
   rw [z] at q'
   obtain ⟨rfl,z2⟩:=zcR z
   obtain ⟨a,vs,e,hn,hH,rl⟩:=hr.read r z2
   subst e
   exact ⟨_,by decide,.lst hH,q'⟩
 | _=>exact qa0 q
theorem zlN:zaZ X (.builtin "isinstance") (fun xs H Q=> ∃ x t T b,xs=[x,.ty T]/\zij X.K H x t/\W.kitOne X.K t (.type T)=some b/\Q (.bl b) H):=by
 intro pins s σ H xs us Q I r h
 obtain ⟨x,t,T,b,rfl,ty,e,q⟩:=h
 cases r with
 | cons r1 r2=>
  cases r2 with
  | cons r3 r4=>
   cases r4
   cases r3
   exact zln I r1 ty e fun tk=>⟨.bl b,H,I.tok tk,rfl,q⟩
theorem zqo {a:Expr} {x:Str} {T:String} {p1 p2 pos:Pos} {fa:Sd->M D} (hk:zhP T) (hg:Gl X "isinstance") (hm:X.mg "isinstance"=none) (hgT:Gl X x) (hmT:X.mg x=none) (hvT:bootBuiltins x=some (.type T)) (ha:SE X E a fa)
  (hn:x≠"__name__":=by decide) (hd:(x==("__debug__":Str))=false:=by decide)
  (h1:starEach [a,.Name x p2] X.env=(false,eval a X.env)::starEach [.Name x p2] X.env:=by rfl) (h2:starEach [.Name x p2] X.env=[(false,eval (.Name x p2) X.env)]:=by rfl)
  (hpl:(backTo pos (starEach [.Name x p2] X.env)).any (·.1)=false:=by rfl):
  SE X E (.Call (.Name "isinstance" p1) [a,.Name x p2] [] pos) (fun sd=>do let d<-fa sd;zfm T d):=by
 refine PE.imp (zdV zlN hg hm PyProof.Rows.boot_isinstance (zcj ha (zcj (zjG (v:= .ty T) hgT hmT hvT rfl hn hd) zeG h2) h1) (he:=h1) (hpl:=hpl)) fun σ H Q ⟨ι,h,sd,L,hh,q⟩=>⟨ι,h,sd,L,hh,Fin.bind q fun d h1 ι1 H1 e1 s1 hr1 q1 v rv=> ?_⟩
 obtain ⟨t,ht,ty,q2⟩:=zoV hr1 rv q1
 exact ⟨v,.type t,T,isB T t,rfl,ty,hk X.K t ht,Fin.out hr1 q2 _ (by simp [Rel])⟩
noncomputable def zfX (xs:List D) (lo hi:Option Int):List D:=(xs.drop (HT.sIx xs.length 0 lo)).take (HT.sIx xs.length xs.length hi - HT.sIx xs.length 0 lo)
noncomputable def dSl (d:D) (lo hi:Option Int):M D:=match d with
 | .tup ds=>pure (.tup (zfX ds lo hi))
 | .lst ds=>pure (.lst (zfX ds lo hi))
 | _=>M.bad
noncomputable def ztQ (K:W.Frag) (E:XE) (f:Sd->M (Option Int)):TO:=fun σ H Q=> ∃ ι h sd,zcP K ι H sd σ/\zbe K ι H h/\Fin K E ι H (f sd h) fun o ι' H'=>Q o H'
noncomputable abbrev SO (X:Cx) (E:XE) (e:Option Expr) (f:Sd->M (Option Int)):Prop:=PO X e (ztQ X.K E f)
theorem PO.imp {e:Option Expr} {t t':TO} (h:PO X e t) (m: ∀ σ H Q,t' σ H Q->t σ H Q):PO X e t':=fun pins s σ H Q I q=>h pins s σ H Q I (m _ _ _ q)
noncomputable def zbx:Sd->M (Option Int):=fun _=>pure none
noncomputable def znt:D->M (Option Int)
 | .int i=>pure (some i)
 | _=>M.bad
noncomputable def zbt (f:Sd->M D):Sd->M (Option Int):=fun sd=>do let d<-f sd;znt d
theorem zb5:SO X E none zbx:=PO.imp zo6 fun σ H Q ⟨ι,h,sd,L,hh,q⟩=>Fin.out hh q
theorem zb8 {e:Expr} {f:Sd->M D} (h:SE X E e f):SO X E (some e) (zbt f):=by
 refine PO.imp (zoP h) fun σ H Q ⟨ι,h,sd,L,hh,q⟩=>⟨ι,h,sd,L,hh,Fin.bind q fun d h1 ι1 H1 e1 s1 hr1 q1 v rv=> ?_⟩
 cases d with
 | int i=>simp only [Rel] at rv;exact ⟨i,rv,Fin.out hr1 q1⟩
 | _=>exact qa0 q1
noncomputable def cSl (f:Sd->M D) (lo hi:Sd->M (Option Int)):Sd->M D:=fun sd=>do let d<-f sd;let l<-lo sd;let u<-hi sd;dSl d l u
theorem zby {e:Expr} {lo hi:Option Expr} {p2 pos:Pos} {f:Sd->M D} {fl fh:Sd->M (Option Int)} (he:SE X E e f) (hl:SO X E lo fl) (hu:SO X E hi fh):SE X E (.Subscript e (.Slice lo hi none p2) pos) (cSl f fl fh):=by
 refine PE.imp (zl2 (zoM.or (zpX.or znU)) he hl hu) fun σ H Q ⟨ι,h,sd,L,hh,q⟩=>⟨ι,h,sd,L,hh,Fin.bind q fun d h1 ι1 H1 e1 s1 hr1 q1 v rv=> ?_⟩
 refine ⟨ι1,h1,sd,L.step s1,hr1,Fin.bind q1 fun l h2 ι2 H2 e2 s2 hr2 q2=> ?_⟩
 refine ⟨ι2,h2,sd,(L.step s1).step s2,hr2,Fin.bind q2 fun u h3 ι3 H3 e3 s3 hr3 q3=> ?_⟩
 have rv3:=(rv.step s2).step s3
 cases d with
 | tup ds=>
  obtain ⟨a,vs,e,k1,k2⟩:=zdd rv3
  by_cases hw:HT.sIx vs.length 0 l=0/\HT.sIx vs.length vs.length u=vs.length
  ·refine .inl ⟨a,vs,e,k1,hw,?_⟩
   have ec:zfX ds l u=ds:=by
    unfold zfX
    rw [k2.length,hw.1,hw.2, <-k2.length]
    simp
   refine Fin.out hr3 q3 _ ?_
   rw [ec, <-e]
   exact rv3
  ·refine .inr (.inl ⟨a,vs,e,k1,hw,fun p hp=>zpj hr3 ?_ q3 hp⟩)
   unfold zfX znn
   rw [k2.length]
   exact zax.take _ (zax.drop _ k2)
 | lst ds=>
  obtain ⟨a,vs,e,k1,k2⟩:=zdk rv3
  refine .inr (.inr ⟨a,vs,e,k1,fun p hp=>zpi hr3 ?_ q3 hp⟩)
  unfold zfX znn
  rw [k2.length]
  exact zax.take _ (zax.drop _ k2)
 | _=>exact qa0 q3
noncomputable def znF:D->M D
 | .tup ds=>pure (.tup ds.reverse)
 | _=>M.bad
theorem zpV {e:Expr} {p2 pos p3 p4:Pos} {j:Nat} {f:Sd->M D} (he:SE X E e f):SE X E (.Subscript e (.Slice none none (some (.UnaryOp .USub (.Constant (.int 1) j p3) p4)) p2) pos) (fun sd=>do let d<-f sd;znF d):=by
 refine PE.imp (zpW he (PE.imp (zrU zm3 zm4) fun σ H Q q=>⟨1,rfl,q⟩)) fun σ H Q ⟨ι,h,sd,L,hh,q⟩=>⟨ι,h,sd,L,hh,Fin.bind q fun d h1 ι1 H1 e1 s1 hr1 q1 v rv=> ?_⟩
 cases d with
 | tup ds=>
  obtain ⟨a,vs,e,k1,k2⟩:=zdd rv
  exact ⟨a,vs,e,k1,fun p hp=>zpj hr1 k2.reverse q1 hp⟩
 | _=>exact qa0 q1
noncomputable def zdh (x y:D):M D:=match x,y with
 | .int i,.int j=>if (zbr i || zbr j)=true then pure (.int (i*j)) else M.bad
 | .tup xs,.int k=>if xs≠[]/\2<=k/\k<1000/\xs.length*k.toNat<=sizeLine then pure (.tup (List.replicate k.toNat xs).flatten) else M.bad
 | _,_=>M.bad
theorem zax.rep {K:W.Frag} {ι:Io} {H:Hp} {ds:List D} {vs:List V} (h:zax K ι H ds vs): ∀ n,zax K ι H (List.replicate n ds).flatten (List.replicate n vs).flatten
 | 0=>zax.nil
 | n+1=>by
  rw [List.replicate_succ,List.replicate_succ,List.flatten_cons,List.flatten_cons]
  exact zax.append h (zax.rep h n)
theorem zbI:OpR X (binaryOp .Mult) (zdB X.K E zdh):=by
 refine OpR.imp (zq0.or znP) fun x y H Q ⟨ι,h,d1,d2,r1,r2,hr,q⟩=> ?_
 unfold zdh at q
 split at q
 ·simp only [Rel] at r1 r2
  obtain ⟨c,q⟩:=Fin.guard q
  refine .inl ⟨_,_,r1,r2,?_,Fin.out hr q _ (by simp [Rel])⟩
  rcases (Bool.or_eq_true _ _).mp c with z | z
  ·exact .inl (zcZ z)
  ·exact .inr (zcZ z)
 ·simp only [Rel] at r2
  obtain ⟨a,vs,e,k1,k2⟩:=zdd r1
  obtain ⟨⟨c1,c2,c3,c4⟩,q⟩:=Fin.guard q
  refine .inr ⟨a,_,vs,e,r2,k1,fun z=>c1 ?_,c2,c3,by rw [<- k2.length];exact c4,fun p hp=>zpj hr (k2.rep _) q hp⟩
  subst z
  exact List.eq_nil_of_length_eq_zero k2.length
 ·exact qa0 q
theorem zi7 {pins:List (Addr×Obj)} {σ:L2.St} {H:Hp} {s:Shared} (I:Inv X pins σ H s):sysModules<s.heap.objs.size:=
 Nat.lt_trans (by decide) (show mainGlobals<s.heap.objs.size from (I.mod.glob.keeps I.bk).lt)
theorem zmn {pos:Pos}:PE X (.Dict [] [] pos) (fun _ H Q=> ∀ p,H p=none->Q (.ref p) (upd H p (.dK []))):=fun pins s σ H Q I h=>
 wpAny_Dict_empty ⟨.ref s.heap.objs.size,_,I.laid (a:=s.heap.objs.size) (o:= .dK []) (t':=s.toks) (fun _ _ q=>qag _ q) (qaV _)
   ⟨Nat.zero_le _,beq_eq_false_iff_ne.mpr (Ne.symm (qaR (zi7 I))),[],.nil,Heap.DictOf.new s.heap⟩,rfl,h _ (I.hok.fresh (qaV _))⟩
theorem zlY {pos:Pos}:SE X E (.Dict [] [] pos) (fun _=>pure .dct):=by
 refine PE.imp zmn fun σ H Q ⟨ι,h,sd,L,hh,q⟩ p hp=> ?_
 exact q ι _ (hh.laidS hp) (hh.laid hp) _ (by
   simp only [Rel]
   exact ⟨p,rfl,za2,hh.nin hp⟩)
mutual
noncomputable def pdH (h:Hh):D->Option PyData
 | .non=>some .none
 | .bl b=>some (.bool b)
 | .int i=>some (.int i)
 | .str x=>some (.str x)
 | .tup xs=>(zjs h xs).map .tuple
 | .lst xs=>(zjs h xs).map .list
 | .cel n=>match h[n]? with
  | some (.lst ds)=>(pdL ds).map .list
  | _=>none
 | _=>none
noncomputable def zjs (h:Hh):List D->Option (List PyData)
 | []=>some []
 | x::xs=>match pdH h x,zjs h xs with
  | some a,some r=>some (a::r)
  | _,_=>none
end
mutual
theorem zla {pins:List (Addr×Obj)} {σ:L2.St} {H:Hp} {s:Shared} {ι:Io} {h:Hh} (I:Inv X pins σ H s) (hr:zbe X.K ι H h): ∀ {d:D} {v:V} {u:Value} {p:PyData},Rel X.K ι H d v->zb2 v u->pdH h d=some p-> ∃ as,Reads s.heap u p as
 | .non,v,u,p,r,ru,e=>by simp only [Rel] at r;subst r;cases ru;simp only [pdH] at e;cases e;exact ⟨_,.none⟩
 | .bl b,v,u,p,r,ru,e=>by simp only [Rel] at r;subst r;cases ru;simp only [pdH] at e;cases e;exact ⟨_,.bool _⟩
 | .int i,v,u,p,r,ru,e=>by simp only [Rel] at r;subst r;obtain ⟨t,rfl⟩:=ru;simp only [pdH] at e;cases e;exact ⟨_,.int _ _⟩
 | .str i,v,u,p,r,ru,e=>by simp only [Rel] at r;subst r;obtain ⟨t,rfl⟩:=ru;simp only [pdH] at e;cases e;exact ⟨_,.str _ _⟩
 | .tup ds,v,u,p,r,ru,e=>by
  obtain ⟨a,vs,rfl,h1,h2⟩:=zdd r
  cases ru
  obtain ⟨its,rv,pl,_⟩:=I.tuple h1
  obtain ⟨o,ho,hc,n,hd⟩:=pl
  simp only [pdH] at e
  cases z:zjs h ds with
  | none=>rw [z] at e;cases e
  | some ps=>
   rw [z] at e;cases e
   obtain ⟨as,q⟩:=zhQ I hr h2 rv z
   exact ⟨_,.tuple ho hc hd (by simpa using q)⟩
 | .lst ds,v,u,p,r,ru,e=>by
  obtain ⟨a,vs,rfl,h1,h2⟩:=zdk r
  cases ru
  obtain ⟨its,rv,pl,_⟩:=I.list h1
  obtain ⟨o,ho,hc,n,hd⟩:=pl.isList
  simp only [pdH] at e
  cases z:zjs h ds with
  | none=>rw [z] at e;cases e
  | some ps=>
   rw [z] at e;cases e
   obtain ⟨as,q⟩:=zhQ I hr h2 rv z
   exact ⟨_,.list ho hc hd (by simpa using q)⟩
 | .cel m,v,u,p,r,ru,e=>by
  simp only [pdH] at e
  cases z0:h[m]? with
  | none=>rw [z0] at e;cases e
  | some c=>
   rw [z0] at e
   cases c with
   | dit ks=>cases e
   | ins _ _=>cases e
   | dead=>cases e
   | dic _=>cases e
   | lst ds=>
    obtain ⟨a,vs,rfl,hn,hH,rl⟩:=hr.read r z0
    cases ru
    obtain ⟨its,rv,pl,_⟩:=I.list (SqL.of hH)
    obtain ⟨o,ho,hc,n,hd⟩:=pl.isList
    cases z:pdL ds with
    | none=>simp only [z] at e;cases e
    | some ps=>
     simp only [z] at e;cases e
     obtain ⟨as,q⟩:=zgM I rl rv z
     exact ⟨_,.list ho hc hd (by simpa using q)⟩
 | .scr ds,_,_,_,_,_,e=>by simp only [pdH] at e;cases e
 | .set xs,_,_,_,_,_,e=>by simp only [pdH] at e;cases e
 | .dct,_,_,_,_,_,e=>by simp only [pdH] at e;cases e
 | .fn _,_,_,_,_,_,e=>by simp only [pdH] at e;cases e
 | .exn _,_,_,_,_,_,e=>by simp only [pdH] at e;cases e
theorem zhQ {pins:List (Addr×Obj)} {σ:L2.St} {H:Hp} {s:Shared} {ι:Io} {h:Hh} (I:Inv X pins σ H s) (hr:zbe X.K ι H h): ∀ {ds:List D} {vs:List V} {us:List Value} {ps:List PyData},zax X.K ι H ds vs->zbh vs us->zjs h ds=some ps-> ∃ as,ReadsAll s.heap us ps as
 | [],vs,us,ps,r,ru,e=>by simp only [zax] at r;subst r;cases ru;simp only [zjs] at e;cases e;exact ⟨_,.nil⟩
 | d::ds,vs,us,ps,r,ru,e=>by
  simp only [zax] at r
  obtain ⟨v,vr,rfl,r1,r2⟩:=r
  cases ru with
  | cons ru1 ru2=>
   simp only [zjs] at e
   cases z:pdH h d with
   | none=>rw [z] at e;cases e
   | some a=>
    cases z2:zjs h ds with
    | none=>rw [z,z2] at e;cases e
    | some b=>
     rw [z,z2] at e
     cases e
     obtain ⟨as,q1⟩:=zla I hr r1 ru1 z
     obtain ⟨bs,q2⟩:=zhQ I hr r2 ru2 z2
     exact ⟨_,.cons q1 q2⟩
end
noncomputable def zpH (x y:D):M D:=fun h=>match pdH h x,pdH h y with
 | some a,some b=>if zeI a b=true then .ok (.bl (PyData.eqv a b)) h else .bad
 | _,_=> .bad
theorem zrs (hu:X.A.units+60<cLine):OpR X (compareOp .Eq) (zdB X.K E zpH):=by
 intro pins s σ H x y v u Q I rx ry ⟨ι,h,d1,d2,r1,r2,hr,q⟩
 unfold zpH at q
 cases e1:pdH h d1 with
 | none=>rw [e1] at q;exact qa0 q
 | some a=>
  cases e2:pdH h d2 with
  | none=>rw [e1,e2] at q;exact qa0 q
  | some b=>
   rw [e1,e2] at q
   dsimp only at q
   by_cases c:zeI a b=true
   ·rw [qa4 c] at q
    obtain ⟨c1,c2,c3⟩:=zf4 c
    obtain ⟨as,ra⟩:=zla I hr r1 rx e1
    obtain ⟨bs,rb⟩:=zla I hr r2 ry e2
    exact SeqAt.compareEq_reads ra rb c1 c2 (by omega) ⟨.bl _,H,I,rfl,q ι H (zbQ.refl _ _) hr (.bl _) (by simp [Rel])⟩
   ·rw [qa5 c] at q
    exact qa0 q
end
noncomputable abbrev FE:=Sd->M D
noncomputable abbrev FT:=Sd->M Bool
noncomputable abbrev FA:=Sd->M (List D)
noncomputable abbrev FS:=Sd->M Out
noncomputable def cOp (F:D->D->M D) (a b:FE):FE:=fun sd=>do let x<-a sd;let y<-b sd;F x y
noncomputable def cUn (F:D->M D) (a:FE):FE:=fun sd=>do let x<-a sd;F x
noncomputable def zau (F:List D->M D) (a:FA):FE:=fun sd=>do let ds<-a sd;F ds
noncomputable def zbM (F:D->D->M D) (a b:FE):FT:=fun sd=>do let z<-(do let x<-a sd;let y<-b sd;F x y);zdA z
noncomputable def zfB (a:FE):FT:=fun sd=>do let x<-a sd;zdA x
noncomputable def zeR (t:FT):FT:=fun sd=>do let c<-t sd;pure (!c)
noncomputable def zne (t u:FT):FT:=fun sd=>do let c<-t sd;if c=true then u sd else pure false
noncomputable def tOr (t u:FT):FT:=fun sd=>do let c<-t sd;if c=true then pure true else u sd
noncomputable def zhO (a b:FE):FE:=fun sd=>do let c<-(do let x<-a sd;zdA x);if c=true then b sd else pure (.bl false)
noncomputable def cOr (a b:FE):FE:=fun sd=>do let c<-(do let x<-a sd;zdA x);if c=true then pure (.bl true) else b sd
noncomputable def zpr (a:FE):FE:=fun sd=>do let c<-(do let x<-a sd;zdA x);pure (.bl (!c))
noncomputable def cIf (t:FT) (a b:FE):FE:=fun sd=>do let c<-t sd;if c=true then a sd else b sd
noncomputable def cK (d:D):FE:=fun _=>pure d
noncomputable def zai:FA:=fun _=>pure []
noncomputable def zab (a:FE) (r:FA):FA:=fun sd=>do let x<-a sd;let r<-r sd;pure (x::r)
noncomputable def zaG (fs:FA):FE:=fun sd=>do let ds<-fs sd;fits ds.length;pure (.tup ds)
noncomputable def zbo (fs:FA):FE:=fun sd=>do let ds<-fs sd;fits ds.length;pure (.lst ds)
noncomputable def ziX (fs:FA):FE:=fun sd=>do let ds<-fs sd;fits ds.length;zbG ds
noncomputable def zc9:FS:=fun sd=>pure (.nx sd)
noncomputable def zal (g g':FS):FS:=fun sd=>do let o<-g sd;andThen o g'
noncomputable def za5 (i:Nat) (f:FE):FS:=fun sd=>do let d<-f sd;pure (.nx (sd.set i (some d)))
noncomputable def zbg (f:FE):FS:=fun sd=>do let d<-f sd;pure (.rt d)
noncomputable def sIf (t:FT) (g g':FS):FS:=fun sd=>do let c<-t sd;if c=true then g sd else g' sd
noncomputable def zhr (fi:FA) (g:D->Sd->M Sd) (gb:FS):FS:=fun sd=>do let ds<-fi sd;za3 (fun x sd=>do let sd1<-g x sd;gb sd1) ds sd
noncomputable def zfS (f:FE) (g:D->Sd->M Sd):FS:=fun sd=>do let d<-f sd;let sd'<-g d sd;pure (.nx sd')
noncomputable def zn8 (f:FE):FS:=fun sd=>do let _<-f sd;pure (.nx sd)
noncomputable def iSq (f:FE):FA:=fun sd=>do let d<-f sd;zd7 d
noncomputable def zhE (fs:FA):FA:=fun sd=>do let ds<-fs sd;zkp ds
noncomputable def zhR (fo fi:FE):D->Sd->M Sd:=fun d sd=>do let x<-fo sd;let y<-fi sd;zjA x y d;pure sd
section
variable {X:Cx} {E:XE} {a b e c:Expr} {es:List Expr} {pos p p1 p2:Pos} {fa fb f:FE} {fs:FA} {x:Str}
theorem zac (i:Nat) (hN:X.N[i]? = some x:=by rfl) (hv:Vis X.env.scope x:=by first | exact Or.inl rfl | exact Or.inr (Or.inl rfl) | exact Or.inr (Or.inr rfl)) (hd:(x==("__debug__":Str))=false:=by decide) (hcd:(x==("__classdict__":Str))=false:=by decide):SE X E (.Name x pos) (zae i):=zqO i hN hv hd hcd
theorem zaf {i:Int} {j:Nat}:SE X E (.Constant (.int i) j pos) (cK (.int i)):=zq7
theorem zhs {i:Bool} {j:Nat}:SE X E (.Constant (.bool i) j pos) (cK (.bl i)):=zts
theorem zdg {j:Nat}:SE X E (.Constant .none j pos) (cK .non):=zrP
theorem zbv {i:Str} {j:Nat}:SE X E (.Constant (.str i) j pos) (cK (.str i)):=zqR
theorem zaX {op:Operator} {F:D->D->M D} (ho:OpR X (binaryOp op) (zdB X.K E F)) (ha:SE X E a fa) (hb:SE X E b fb):SE X E (.BinOp a op b pos) (cOp F fa fb):=zsG ho ha hb
theorem zdK {op:CmpOp} {F:D->D->M D} (ho:OpR X (compareOp op) (zdB X.K E F)) (ha:SE X E a fa) (hb:SE X E b fb) (hm:behindInMarks op b=false:=by rfl):SE X E (.Compare a [op] [b] pos) (cOp F fa fb):=zrh ho ha hb hm
theorem zay {op:CmpOp} {F:D->D->M D} (ho:OpR X (compareOp op) (zdB X.K E F)) (ha:SE X E a fa) (hb:SE X E b fb) (hm:behindInMarks op b=false:=by rfl):ST X E (.Compare a [op] [b] pos) (zbM F fa fb):=zru ho ha hb hm
theorem zaC (ha:SE X E a fa) (hb:SE X E b fb) (hs:zhU b:=by intro _ _;rfl):SE X E (.Subscript a b pos) (cOp dIx fa fb):=zsI zt0 ha hb hs
theorem znZ (ha:SE X E a fa):SE X E (.UnaryOp .USub a pos) (cUn zju fa):=zrI ha
theorem zmC (ha:SE X E a fa):SE X E (.UnaryOp .Not a pos) (zpr fa):=zrE ha
theorem zfn {op:BoolOp} (h:SE X E a fa):SE X E (.BoolOp op [a] pos) fa:=zq3 h
theorem zeL {rest:List Expr} (ha:SE X E a fa) (hb:SE X E (.BoolOp .And (b::rest) pos) fb):SE X E (.BoolOp .And (a::b::rest) pos) (zhO fa fb):=zqQ ha hb
theorem zbw (h:SE X E e f) (he: ∀ whole,isTrue e X.env whole=(do let v<-whole;standAt e.pos;holding [v] (truthy v)):=by intro _;rfl):ST X E e (zfB f):=zrW h he
theorem zbC {t:FT} (ha:ST X E a t):ST X E (.UnaryOp .Not a pos) (zeR t):=zqa ha
theorem zhz {t:FT} (ha:ST X E a t):PW X (.BoolOp .And [a] pos) (zfO X.K E t):=zoi ha
theorem zda {t:FT} (ha:ST X E a t):PW X (.BoolOp .Or [a] pos) (zfO X.K E t):=zqT ha
theorem zkW {rest:List Expr} {t u:FT} (ha:ST X E a t) (hb:PW X (.BoolOp .And (b::rest) pos) (zfO X.K E u)):PW X (.BoolOp .And (a::b::rest) pos) (zfO X.K E (zne t u)):=zq8 ha hb
theorem zc3 {rest:List Expr} {t u:FT} (ha:ST X E a t) (hb:PW X (.BoolOp .Or (b::rest) pos) (zfO X.K E u)):PW X (.BoolOp .Or (a::b::rest) pos) (zfO X.K E (tOr t u)):=ztk ha hb
theorem zbA {op:BoolOp} {vs:List Expr} {t:FT} (h:PW X (.BoolOp op vs pos) (zfO X.K E t)):ST X E (.BoolOp op vs pos) t:=zom h
theorem zpS {t:FT} (hc:ST X E c t) (ha:SE X E a fa) (hb:SE X E b fb):SE X E (.IfExp c a b pos) (cIf t fa fb):=zmh hc ha hb
theorem zlA {env:Env} (h: ∀ v p,e≠ .Starred v p):starEach (e::es) env=(false,eval e env)::starEach es env:=by
 cases e<;>first | rfl | exact absurd rfl (h _ _)
theorem zad:SA X E [] zai:=zqC
theorem zaa (ha:SE X E e fa) (hr:SA X E es fs) (hs:starEach (e::es) X.env=(false,eval e X.env)::starEach es X.env:=by exact zlA (fun _ _ z=>nomatch z)):SA X E (e::es) (zab fa fs):=zny ha hr hs
theorem zaF {k} (h:SA X E es fs):SE X E (.Tuple es k pos) (zaG fs):=zp1 h
theorem zbj (h:SA X E es fs):SE X E (.List es pos) (zbo fs):=zp6 h
theorem ziF (h:SA X E es fs):SE X E (.List es pos) (ziX fs):=zos h
theorem znC:SE X E (.Dict [] [] pos) (cK .dct):=zlY
theorem zsT {p3 p4:Pos} {j:Nat} (he:SE X E e f):SE X E (.Subscript e (.Slice none none (some (.UnaryOp .USub (.Constant (.int 1) j p3) p4)) p2) pos) (cUn znF f):=zpV he
theorem zaJ {id:String} {F:List D->M D} (hc:zaZ X (.builtin id) (zhv X.K E F)) (hv:bootBuiltins x=some (.builtin id)) (hm:X.mg x=none) (ha:SA X E (e::es) fs) (hg:Gl X x:=by rfl) (hn:x≠"__name__":=by decide) (hdb:(x==("__debug__":Str))=false:=by decide)
  (he:starEach (e::es) X.env=(false,eval e X.env)::starEach es X.env:=by rfl) (hpl:(backTo pos (starEach es X.env)).any (·.1)=false:=by rfl):SE X E (.Call (.Name x p) (e::es) [] pos) (zau F fs):=zl9 hc hg hm hv ha hn hdb he hpl
theorem zbn {T:String} {F:List D->M D} (hc:zaZ X (.type T) (zhv X.K E F)) (hv:bootBuiltins x=some (.type T)) (hm:X.mg x=none) (ha:SA X E (e::es) fs) (hg:Gl X x:=by rfl) (hn:x≠"__name__":=by decide) (hdb:(x==("__debug__":Str))=false:=by decide)
  (he:starEach (e::es) X.env=(false,eval e X.env)::starEach es X.env:=by rfl) (hpl:(backTo pos (starEach es X.env)).any (·.1)=false:=by rfl):SE X E (.Call (.Name x p) (e::es) [] pos) (zau F fs):=zlt hc hg hm hv ha hn hdb he hpl
theorem zeJ {T:String} (hk:zhP T) (hvT:bootBuiltins x=some (.type T)) (hm:X.mg "isinstance"=none) (hmT:X.mg x=none) (ha:SE X E a fa) (hg:Gl X "isinstance":=by rfl) (hgT:Gl X x:=by rfl)
  (hn:x≠"__name__":=by decide) (hd:(x==("__debug__":Str))=false:=by decide)
  (h1:starEach [a,.Name x p2] X.env=(false,eval a X.env)::starEach [.Name x p2] X.env:=by rfl) (h2:starEach [.Name x p2] X.env=[(false,eval (.Name x p2) X.env)]:=by rfl)
  (hpl:(backTo pos (starEach [.Name x p2] X.env)).any (·.1)=false:=by rfl):SE X E (.Call (.Name "isinstance" p1) [a,.Name x p2] [] pos) (cUn (zfm T) fa):=zqo hk hg hm hgT hmT hvT ha hn hd h1 h2 hpl
theorem zgD {pos2:Pos} (hc:X.calm=true) (hm1:X.mg "sorted"=none) (hm2:X.mg "set"=none) (he:SE X E e f) (hg1:Gl X "sorted":=by rfl) (hg2:Gl X "set":=by rfl)
  (h1:starEach [.Call (.Name "set" p2) [e] [] pos2] X.env=[(false,eval (.Call (.Name "set" p2) [e] [] pos2) X.env)]:=by rfl) (h2:starEach [e] X.env=[(false,eval e X.env)]:=by rfl):
  SE X E (.Call (.Name "sorted" p1) [.Call (.Name "set" p2) [e] [] pos2] [] pos) (cUn zcb f):=ziV hc hg1 hm1 hg2 hm2 he h1 h2
theorem zam {k:Nat} {g:Addr} {fd:FuncData} {ps:List Str} {n:Nat} {F:List D->M D} (G:zbN X.prog X.w X.K X.mg X.base CX0 k g fd ps (zbP X.K n F)) (hr:zej k X.A) (hm:X.mg x=some (.ref g)) (hk:W.keepIn X.K (.ref g)=true) (hb:zaO X.K fd ps [])
  (ha:SA X E0x (e::es) fs) (hg:Gl X x:=by rfl) (hdb:(x==("__debug__":Str))=false:=by decide) (he:starEach (e::es) X.env=(false,eval e X.env)::starEach es X.env:=by rfl) (hpl:(backTo pos (starEach es X.env)).any (·.1)=false:=by rfl):
  SE X E0x (.Call (.Name x p) (e::es) [] pos) (zau (zaj n F) fs):=znz G hr hg hm hk hb ha hdb he hpl
theorem zaW:SSs X E [] zc9:=zrj
theorem zan {st:Stmt} {g:FS} (h1:SS X E st g):SSs X E [st] g:=zpw h1
theorem zag {st:Stmt} {rest:List Stmt} {g g':FS} (h1:SS X E st g) (h2:SSs X E rest g'):SSs X E (st::rest) (zal g g'):=znL h1 h2
theorem zaA (he:SE X E e f):SS X E (.Return (some e) pos) (zbg f):=ztj he
theorem zdG {ys ns:List Stmt} {t:FT} {g g':FS} (hc:ST X E c t) (ha:SSs X E ys g) (hb:SSs X E ns g'):SS X E (.If c ys ns pos) (sIf t g g'):=ztJ hc ha hb
theorem zpU (he:SE X E e f) (hs:swapsWith e none pos.line X.env=pure false:=by rfl):SS X E (.Expr e pos) (zn8 f):=zq5 he hs
theorem zaI (i:Nat) (hN:X.N.Nodup) (he:SE X E e f) (hi:X.N[i]? = some x:=by rfl) (hx:Loc X.env.scope x:=by first | exact Or.inl rfl | exact Or.inr rfl) (hf:X.fn x=true\/X.env.scope.names.lookup x=some .local:=by first | exact Or.inl rfl | exact Or.inr rfl)
  (hs:swapsWith e (some (.Name x p)) pos.line X.env=pure false:=by rfl):SS X E (.Assign [.Name x p] e pos) (za5 i f):=zs6 i hN hi hx hf he hs
theorem zfr {tg:Expr} {g:D->Sd->M Sd} (he:SE X E e f) (hg:SG X E tg g) (hs:swapsWithSole [tg] e pos.line X.env=pure false:=by rfl) (hw:swappedStores [tg] e X.env=pure none:=by rfl)
  (h1:(assignEach [tg] X.env).map (·.2)=[assign tg X.env]:=by rfl):SS X E (.Assign [tg] e pos) (zfS f g):=zsN he hg hs hw h1
theorem zaq (i:Nat) (hN:X.N.Nodup) (hi:X.N[i]? = some x:=by rfl) (hx:Loc X.env.scope x:=by first | exact Or.inl rfl | exact Or.inr rfl) (hf:X.fn x=true\/X.env.scope.names.lookup x=some .local:=by first | exact Or.inl rfl | exact Or.inr rfl):SG X E (.Name x pos) (zaM i):=zoU i hN hi hx hf
theorem zc1:SGs X E [] zc7:=znD
theorem za1 {g:D->Sd->M Sd} {gs:List D->Sd->M Sd} (h1:SG X E e g) (h2:SGs X E es gs) (hs:(assignEach (e::es) X.env).map (·.2)=assign e X.env::(assignEach es X.env).map (·.2):=by rfl):SGs X E (e::es) (zaR g gs):=zmm h1 h2 hs
theorem zdU {k n:Nat} {gs:List D->Sd->M Sd} (hc:X.calm=true) (h:SGs X E es gs) (hn:(assignEach es X.env).length=n:=by rfl) (hst:(assignEach es X.env).findIdx? (·.1)=none:=by rfl):SG X E (.Tuple es k pos) (zcX n gs):=zpI hc h hn hst
theorem zlr (ho:SE X E a fa) (hi:SE X E b fb) (ha: ∀ v,assign (.Subscript a b pos) X.env v=(do
      let ov<-holding [v] (eval a X.env)
      let iv<-holding [v,ov] (eval b X.env)
      standAt pos
      holding [v,ov,iv] (setItem ov iv v)
      release [v,ov,iv] []):=by intro _;rfl):SG X E (.Subscript a b pos) (zhR fa fb):=zqZ fun hs=>zq6 ho hi hs ha
theorem zbL {tg:Expr} (he:SE X E e f):SI X E tg e (iSq f):=zp2 he
theorem zfN {tg:Expr} (hm:X.mg "range"=none) (ha:SA X E [a] fs) (hg:Gl X "range":=by rfl) (hs:starEach [a] X.env=[(false,eval a X.env)]:=by rfl):SI X E tg (.Call (.Name "range" p) [a] [] pos) (zhE fs):=zoe hg hm ha hs
theorem zeO {tg iter:Expr} {body:List Stmt} {fi:FA} {g:D->Sd->M Sd} {gb:FS} (hc:X.calm=true) (hp:PassesOwn (model X.prog X.w) X.A X.env X.xe) (hi:SI X E tg iter fi) (hg:SG X E tg g) (hb:SSs X E body gb)
  (hs: ∀ x,foldedSetIterable iter X.env x=pure x:=by intro _;rfl):SS X E (.For tg iter body [] pos) (zhr fi g gb):=zsD hc hp hi hg hb hs
theorem zbX:SCs X E [] (fun _=>pure true):=zpJ
theorem zeh {t:FT} (h:ST X E c t):SCs X E [c] t:=zqJ h
theorem zbp {scope:Scope} {N:List Str} {src:List (Option Nat)} {tg iter elt:Expr} {ifs:List Expr} {fi:FA} {g:D->Sd->M Sd} {tc:FT} {te:FE} (hc:X.calm=true) (B:BOk X scope N src) (hk:zaH g src) (hi:SI X E tg iter fi)
  (hg: ∀ s H fp,SG (cxB X scope N s H fp) E tg g) (ht: ∀ s H fp,SCs (cxB X scope N s H fp) E ifs tc) (he: ∀ s H fp,SE (cxB X scope N s H fp) E elt te)
  (hs: ∀ x,foldedSetIterable iter X.env x=pure x:=by intro _;rfl):SE X E (.ListComp elt [⟨tg,iter,ifs,0⟩] scope pos) (zaB fi g tc te src):=zj3 B hk hi hg ht he hs
theorem zhk {scope:Scope} {N:List Str} {src:List (Option Nat)} {tg iter elt:Expr} {ifs:List Expr} {fi:FA} {g:D->Sd->M Sd} {tc:FT} {te:FE} (i:Nat) {y:Str} {py spos:Pos} (hc:X.calm=true) (hN:X.N.Nodup) (B:BOk X scope N src) (hk:zaH g src) (hi:SI X E tg iter fi)
  (hg: ∀ s H fp,SG (cxB X scope N s H fp) E tg g) (ht: ∀ s H fp,SCs (cxB X scope N s H fp) E ifs tc) (he: ∀ s H fp,SE (cxB X scope N s H fp) E elt te)
  (hy:X.N[i]? = some y:=by rfl) (hx:Loc X.env.scope y:=by first | exact Or.inl rfl | exact Or.inr rfl) (hf:X.fn y=true\/X.env.scope.names.lookup y=some .local:=by first | exact Or.inl rfl | exact Or.inr rfl) (hsw:swapsWith (.ListComp elt [⟨tg,iter,ifs,0⟩] scope pos) (some (.Name y py)) spos.line X.env=pure true:=by rfl)
  (hs: ∀ x,foldedSetIterable iter X.env x=pure x:=by intro _;rfl):SS X E (.Assign [.Name y py] (.ListComp elt [⟨tg,iter,ifs,0⟩] scope pos) spos) (za5 i (zaB fi g tc te src)):=zku i B hk hi hg ht he hN hy hx hf hsw hs
end
theorem zbe.empty {K:W.Frag} {H:Hp}:zbe K ⟨[],[]⟩ H []:=⟨rfl,fun m n a h=>by simp at h,fun n a c h=>by simp at h,fun n h=>by simp at h,fun a h=>by cases h⟩
theorem zsg {K:W.Frag} {F:List D->M D} {H:Hp} {a:Addr} {ns:List Int} (hS:SqL K H a (ns.map V.int)) (hm: ∃ h',F [.scr (ns.map D.int)] []= .ok (.bl true) h'):zbP K 1 F [.ref a] H (fun v _=>v= .bl true) fun _ _ _=>False:=by
 obtain ⟨h',e⟩:=hm
 refine ⟨rfl,⟨[],[]⟩,[],[.scr (ns.map D.int)],zax.cons ?_ zax.nil,zbe.empty,?_⟩
 ·simp only [Rel]
  refine ⟨a,ns.map V.int,rfl,?_,zdq.mpr rfl⟩
  rcases hS with h | h
  ·exact .inl ⟨h,fun z=>by rcases z with z | z<;>cases z⟩
  ·exact .inr (.inr h)
 ·rw [e]
  intro ι1 H1 s hr v rv
  simpa [Rel] using rv
section
variable {sd:Sd} {a b:FE} {fs:FA} {t u:FT} {g g':FS} {F:D->D->M D}
@[simp] theorem zcm:cOp F a b sd=(do let x<-a sd;let y<-b sd;F x y):=rfl
@[simp] theorem zmJ {F:D->M D}:cUn F a sd=(do let x<-a sd;F x):=rfl
@[simp] theorem zbO {F:List D->M D}:zau F fs sd=(do let ds<-fs sd;F ds):=rfl
@[simp] theorem ze7:zbM F a b sd=(do let z<-(do let x<-a sd;let y<-b sd;F x y);zdA z):=rfl
@[simp] theorem zp7:zfB a sd=(do let x<-a sd;zdA x):=rfl
@[simp] theorem zqN:zeR t sd=(do let c<-t sd;pure (!c)):=rfl
@[simp] theorem zqD:zne t u sd=(do let c<-t sd;if c=true then u sd else pure false):=rfl
@[simp] theorem zsJ:tOr t u sd=(do let c<-t sd;if c=true then pure true else u sd):=rfl
@[simp] theorem ziN:zhO a b sd=(do let c<-(do let x<-a sd;zdA x);if c=true then b sd else pure (.bl false)):=rfl
@[simp] theorem zs4:cOr a b sd=(do let c<-(do let x<-a sd;zdA x);if c=true then pure (.bl true) else b sd):=rfl
@[simp] theorem zly:zpr a sd=(do let c<-(do let x<-a sd;zdA x);pure (.bl (!c))):=rfl
@[simp] theorem zsQ:cIf t a b sd=(do let c<-t sd;if c=true then a sd else b sd):=rfl
@[simp] theorem zfE {d:D}:cK d sd=pure d:=rfl
@[simp] theorem zbi:zai sd=pure []:=rfl
@[simp] theorem za0:zab a fs sd=(do let x<-a sd;let r<-fs sd;pure (x::r)):=rfl
@[simp] theorem zgQ:zaG fs sd=(do let ds<-fs sd;fits ds.length;pure (.tup ds)):=rfl
@[simp] theorem ziQ:zbo fs sd=(do let ds<-fs sd;fits ds.length;pure (.lst ds)):=rfl
@[simp] theorem zgn:ziX fs sd=(do let ds<-fs sd;fits ds.length;zbG ds):=rfl
@[simp] theorem zg6:zc9 sd=pure (.nx sd):=rfl
@[simp] theorem zbB:zal g g' sd=(do let o<-g sd;andThen o g'):=rfl
@[simp] theorem zdo {i:Nat}:za5 i a sd=(do let d<-a sd;pure (.nx (sd.set i (some d)))):=rfl
@[simp] theorem zdm:zbg a sd=(do let d<-a sd;pure (.rt d)):=rfl
@[simp] theorem zkf:sIf t g g' sd=(do let c<-t sd;if c=true then g sd else g' sd):=rfl
@[simp] theorem zlq {fi:FA} {gt:D->Sd->M Sd}:zhr fi gt g sd=(do let ds<-fi sd;za3 (fun x sd=>do let sd1<-gt x sd;g sd1) ds sd):=rfl
@[simp] theorem zix {gt:D->Sd->M Sd}:zfS a gt sd=(do let d<-a sd;let sd'<-gt d sd;pure (.nx sd')):=rfl
@[simp] theorem zoO:zn8 a sd=(do let _<-a sd;pure (.nx sd)):=rfl
@[simp] theorem zoG:iSq a sd=(do let d<-a sd;zd7 d):=rfl
@[simp] theorem zhi:zhE fs sd=(do let ds<-fs sd;zkp ds):=rfl
@[simp] theorem zhx {d:D}:zhR a b d sd=(do let x<-a sd;let y<-b sd;zjA x y d;pure sd):=rfl
@[simp] theorem zde {i:Nat} {d:D}:zaM i d sd=pure (sd.set i (some d)):=rfl
@[simp] theorem zhu:andThen (.nx sd) g=g sd:=rfl
@[simp] theorem zrX {d:D}:andThen (.rt d) g=pure (.rt d):=rfl
@[simp] theorem zsK:zcw (.nx sd)=pure .non:=rfl
@[simp] theorem zfI {d:D}:zcw (.rt d)=pure d:=rfl
@[simp] theorem zd8 {c:Bool}:zdA (.bl c)=pure c:=rfl
@[simp] theorem zsx {lo hi:Sd->M (Option Int)}:cSl a lo hi sd=(do let d<-a sd;let l<-lo sd;let u<-hi sd;dSl d l u):=rfl
@[simp] theorem zoh:zbx sd=pure none:=rfl
@[simp] theorem zof:zbt a sd=(do let d<-a sd;znt d):=rfl
@[simp] theorem zrC {i:Int}:znt (.int i)=pure (some i):=rfl
@[simp] theorem ztf {ds:List D} {lo hi:Option Int}:dSl (.tup ds) lo hi=pure (.tup (zfX ds lo hi)):=rfl
@[simp] theorem zs9 {ds:List D}:znF (.tup ds)=pure (.tup ds.reverse):=rfl
@[simp] theorem zre {i:Int}:zju (.int i)=pure (.int (-i)):=rfl
@[simp] theorem zdF {i j:Int}:zbb (.int i) (.int j)=pure (.int (i+j)):=rfl
@[simp] theorem znc {xs ys:List D}:zbb (.tup xs) (.tup ys)=(do fits (xs.length+ys.length);pure (.tup (xs++ys))):=rfl
@[simp] theorem zm5 {xs ys:List D}:zbb (.lst xs) (.lst ys)=(do fits (xs.length+ys.length);pure (.lst (xs++ys))):=rfl
@[simp] theorem zpg {i j:Int}:zjt (.int i) (.int j)=pure (.int (i - j)):=rfl
@[simp] theorem zsR {i j:Int}:zsw (.int i) (.int j)=pure (.int (Builtin.bitAnd i j)):=rfl
@[simp] theorem zr2 {i j:Int}:dLt (.int i) (.int j)=pure (.bl (decide (i<j))):=rfl
@[simp] theorem zt8 {i j:Int}:dLe (.int i) (.int j)=pure (.bl (decide (i<=j))):=rfl
@[simp] theorem ztW {i j:Int}:dGt (.int i) (.int j)=pure (.bl (decide (j<i))):=rfl
@[simp] theorem zsS {i j:Int}:dGe (.int i) (.int j)=pure (.bl (decide (j<=i))):=rfl
@[simp] theorem zrH {ds:List D}:zek [.tup ds]=pure (.int ds.length):=rfl
@[simp] theorem zmW {ds:List D}:zek [.lst ds]=pure (.int ds.length):=rfl
@[simp] theorem zmN {ds:List D}:zek [.scr ds]=pure (.int ds.length):=rfl
@[simp] theorem zrc {ds:List D}:zcT [.tup ds]=pure (.tup ds):=rfl
@[simp] theorem zho {ds:List D}:zcT [.lst ds]=pure (.tup ds):=rfl
@[simp] theorem zpx {ds:List D}:zfz [.tup ds]=pure (.lst ds):=rfl
@[simp] theorem zsY {ds:List D}:zd7 (.tup ds)=pure ds:=rfl
@[simp] theorem zrN {ds:List D}:zd7 (.lst ds)=pure ds:=rfl
@[simp] theorem zoA {F:List D->M D} {x:D}:zaj 1 F [x]=F [x]:=rfl
@[simp] theorem zbR {F:List D->M D} {x y:D}:zaj 2 F [x,y]=F [x,y]:=rfl
@[simp] theorem zod {F:List D->M D} {x y z:D}:zaj 3 F [x,y,z]=F [x,y,z]:=rfl
@[simp] theorem zc2 {body:D->Sd->M Out}:za3 body [] sd=pure (.nx sd):=rfl
theorem zbK {body:D->Sd->M Out} {x:D} {r:List D}:za3 body (x::r) sd=(do let o<-body x sd;match o with | .nx sd'=>za3 body r sd' | .ct sd'=>za3 body r sd' | .bk sd'=>pure (.nx sd') | .rt d=>pure (.rt d)):=rfl
@[simp] theorem zkP {gs:List D->Sd->M Sd} {x y:D}:zcX 2 gs (.tup [x,y]) sd=gs [x,y] sd:=rfl
@[simp] theorem zk6:zc7 [] sd=pure sd:=rfl
@[simp] theorem ziz {gt:D->Sd->M Sd} {gs:List D->Sd->M Sd} {x:D} {r:List D}:zaR gt gs (x::r) sd=(do let sd1<-gt x sd;gs r sd1):=rfl
@[simp] theorem zkM {n:Nat} {k:Int} {d:D}:zjA (.cel n) (.int k) d=(do let ds<-zaw n;let j<-ofO (ixN ds.length k);zcg n (ds.set j d)):=rfl
@[simp] theorem zsW {ds:List D} {i:Int}:dIx (.tup ds) (.int i)=ofO (atI ds i):=rfl
@[simp] theorem zjS {ds:List D} {i:Int}:dIx (.lst ds) (.int i)=ofO (atI ds i):=rfl
@[simp] theorem zth {ds:List D} {i:Int}:dIx (.scr ds) (.int i)=ofO (atI ds i):=rfl
@[simp] theorem zjT {n:Nat} {i:Int}:dIx (.cel n) (.int i)=(do let ds<-zaw n;ofO (atI ds i)):=rfl
@[simp] theorem zeN {α:Type} {x:α}:ofO (some x)=pure x:=rfl
@[simp] theorem zkc {x:D} {r:List D}:atI (x::r) 0=some x:=by unfold atI ixN;simp
@[simp] theorem zqP {x y:D} {r:List D}:atI (x::y::r) 1=some y:=by
 have:=zc6 (xs:=x::y::r) (j:=1) (v:=y) rfl
 simpa using this
end
theorem zaD {n:Nat} (h:n<=1000):fits n=pure ():=by
 unfold fits
 rw [qa4 (qaS h (by decide))]
theorem zio {i j:Int} (h:(zbr i || zbr j)=true):zdh (.int i) (.int j)=pure (.int (i*j)):=by
 show (if (zbr i || zbr j)=true then _ else _)=_
 rw [qa4 h]
theorem ziE {i:Int} (h: -1000000000000000<i) (h':i<1000000000000000):zbr i=true:=by unfold zbr;simp;omega
theorem ze8 {i j:Int} (h: -1000000000000000<i) (h':i<1000000000000000):zdh (.int i) (.int j)=pure (.int (i*j)):=zio (by rw [ziE h h'];rfl)
theorem zg5 {i j:Int} (h: -1000000000000000<j) (h':j<1000000000000000):zdh (.int i) (.int j)=pure (.int (i*j)):=zio (by rw [ziE h h'];simp)
theorem zds {i j:Int} (h:0<j):zml (.int i) (.int j)=pure (.int (i % j)):=by
 show (if (decide (0<j))=true then _ else _)=_
 rw [qa4 (by simpa using h)]
theorem zih {i j:Int} (h:0<j) (h':j<2^64):zl7 (.int i) (.int j)=pure (.int (i / j)):=by
 show (if (decide (0<j) && decide (j<2^64))=true then _ else _)=_
 rw [qa4 (by rw [qaG];exact ⟨by simpa using h,by simpa using h'⟩)]
theorem zid {i j:Int}:dEq (.int i) (.int j)=pure (.bl (i==j)):=by
 unfold dEq zhg
 simp only [pd]
 rw [qa4 (show zeI (.int i) (.int j)=true from rfl)]
 rfl
theorem zr3 {i j:Int}:dNe (.int i) (.int j)=pure (.bl (!(i==j))):=by
 unfold dNe zhg
 simp only [pd]
 rw [qa4 (show zeI (.int i) (.int j)=true from rfl)]
 rfl
def wp {α:Type} (m:M α) (h:Hh) (P:α->Hh->Prop):Prop:= ∃ a h',m h= .ok a h'/\P a h'
section
variable {α β:Type} {h:Hh} {P P':α->Hh->Prop}
theorem zar {a:α}:wp (pure a:M α) h P↔P a h:=⟨fun ⟨b,h',e,q⟩=>by cases (show R.ok a h=R.ok b h' from e);exact q,fun q=>⟨a,h,rfl,q⟩⟩
theorem zas {m:M β} {f:β->M α}:wp (m>>=f) h P↔wp m h fun b h'=>wp (f b) h' P:=by
 constructor
 ·rintro ⟨a,h',e,q⟩
  have e:M.bind m f h= .ok a h':=e
  unfold M.bind at e
  cases z:m h with
  | ok b h1=>rw [z] at e;exact ⟨b,h1,z,a,h',e,q⟩
  | exc c h1=>rw [z] at e;cases e
  | bad=>rw [z] at e;cases e
 ·rintro ⟨b,h1,e,a,h',e2,q⟩
  refine ⟨a,h',?_,q⟩
  show M.bind m f h=_
  unfold M.bind
  rw [e]
  exact e2
theorem zhK {m:M α} (q:wp m h P) (k: ∀ a h',P a h'->P' a h'):wp m h P':=by
 obtain ⟨a,h',e,q⟩:=q
 exact ⟨a,h',e,k _ _ q⟩
theorem zdp {n:Nat} {ds:List D} {P:List D->Hh->Prop} (e:h[n]? = some (.lst ds)):wp (zaw n) h P↔P ds h:=by
 unfold wp zaw
 rw [e]
 exact ⟨fun ⟨b,h',e,q⟩=>by cases e;exact q,fun q=>⟨_,_,rfl,q⟩⟩
theorem ziJ {n:Nat} {ds:List D} {P:Unit->Hh->Prop}:wp (zcg n ds) h P↔P () (h.set n (.lst ds)):=⟨fun ⟨b,h',e,q⟩=>by cases (show R.ok () (h.set n (.lst ds))=R.ok b h' from e);exact q,fun q=>⟨_,_,rfl,q⟩⟩
theorem ziH {ds:List D} {P:D->Hh->Prop}:wp (zbG ds) h P↔P (.cel h.length) (h++[.lst ds]):=⟨fun ⟨b,h',e,q⟩=>by cases (show R.ok (D.cel h.length) (h++[C.lst ds])=R.ok b h' from e);exact q,fun q=>⟨_,_,rfl,q⟩⟩
end
theorem zel {f:D->M (Option D)} {k:D->Option D}: ∀ {ds:List D},(∀ x∈ds,f x=pure (k x))->zbl f ds=pure (ds.filterMap k)
 | [],_=>rfl
 | x::r,hf=>by
  rw [zbl,hf x qau,zel fun y hy=>hf y (qan _ hy)]
  simp only [pure_bind]
  cases e:k x<;>simp [qat,e]
theorem zcS {fi:FA} {g:D->Sd->M Sd} {tc:FT} {te:FE} {src:List (Option Nat)} {sd:Sd} {ds:List D} {k:D->Option D} (hi:fi sd=pure ds) (hl:ds.length<=1000) (hf: ∀ x∈ds,za6 g tc te (zap src sd) x=pure (k x)):zaB fi g tc te src sd=pure (.lst (ds.filterMap k)):=by
 unfold zaB
 rw [hi]
 simp only [pure_bind]
 rw [zaD hl]
 simp only [pure_bind]
 rw [zel hf]
 simp only [pure_bind]
theorem zgP {fi:FA} {g:D->Sd->M Sd} {tc:FT} {te:FE} {src:List (Option Nat)} {sd:Sd} {ds:List D} {k:D->D} (hi:fi sd=pure ds) (hl:ds.length<=1000) (hf: ∀ x∈ds,za6 g tc te (zap src sd) x=pure (some (k x))):zaB fi g tc te src sd=pure (.lst (ds.map k)):=by
 rw [zcS (k:=fun x=>some (k x)) hi hl hf]
 simp
theorem zgo: ∀ bs:List Bool,zlw (bs.map D.bl)=some bs
 | []=>rfl
 | b::r=>by rw [qaM,zlw,zgo r];rfl
theorem zbJ: ∀ bs:List Int,zdI (bs.map D.int)=some bs
 | []=>rfl
 | b::r=>by rw [qaM,zdI,zbJ r];rfl
theorem zhA (bs:List Bool):zqy [.lst (bs.map D.bl)]=pure (.bl (bs.all id)):=by
 show (do let bs<-ofO (zlw (bs.map D.bl));pure (.bl (bs.all id)):M D)=_
 rw [zgo]
 rfl
theorem zjX {d:D} {xs:List Int} (e:zm7 d=pure (xs.map D.int)) (h:(xs.foldl step_dedup []).length<64) (h2:xs.length<4000):zcb d=pure (.lst ((zfD xs).map D.int)):=by
 unfold zcb
 rw [e]
 show (do let ns<-ofO (zdI (xs.map D.int));if (ns.foldl step_dedup []).length<64/\ns.length<4000 then pure (.lst ((zfD ns).map D.int)) else M.bad:M D)=_
 rw [zbJ]
 show (if (xs.foldl step_dedup []).length<64/\xs.length<4000 then (pure (.lst ((zfD xs).map D.int)):M D) else M.bad)=_
 rw [qa4 ⟨h,h2⟩]
theorem zgG {xs:List Int} (h:xs.length<64):zcb (.lst (xs.map D.int))=pure (.lst ((zfD xs).map D.int)):=zjX rfl (Nat.lt_of_le_of_lt (zke xs) h) (by omega)
theorem zjk {xs:List Int} (h:xs.length<64):zfp [.tup (xs.map D.int)]=pure (.lst ((zb0 xs).map D.int)):=by
 show (do let ns<-ofO (zdI (xs.map D.int));if ns.length<64 then pure (.lst ((zb0 ns).map D.int)) else M.bad:M D)=_
 rw [zbJ]
 show (if xs.length<64 then (pure (.lst ((zb0 xs).map D.int)):M D) else M.bad)=_
 rw [qa4 h]
noncomputable def kn:D->Bool
 | .non | .bl _ | .int _ | .str _ | .tup _ | .lst _ | .dct=>true
 | _=>false
noncomputable def isT:D->Bool
 | .tup _=>true
 | _=>false
noncomputable def isI:D->Bool
 | .int _=>true
 | _=>false
theorem zd4 {d:D} (k:kn d=true):zfm "tuple" d=pure (.bl (isT d)):=by
 cases d<;>simp [kn] at k<;>simp [zfm,tyD,isB,isT]
theorem zjR {d:D} (k:kn d=true):zfm "int" d=pure (.bl (isI d || (match d with | .bl _=>true | _=>false))):=by
 cases d<;>simp [kn] at k<;>simp [zfm,tyD,isB,isI]
theorem zm9 {d:D} (k:kn d=true):zfm "bool" d=pure (.bl (match d with | .bl _=>true | _=>false)):=by
 cases d<;>simp [kn] at k<;>simp [zfm,tyD,isB,isI]
mutual
noncomputable def good:D->Bool
 | .non | .bl _ | .int _=>true
 | .str x=>PyData.strOk x
 | .tup ds=>decide (ds.length<64) && zdf ds
 | .lst ds=>decide (ds.length<64) && zdf ds
 | _=>false
noncomputable def zdf:List D->Bool
 | []=>true
 | d::r=>good d && zdf r
end
theorem zfj: ∀ {ds:List D},zdf ds=true↔ ∀ d∈ds,good d=true
 | []=>by simp [zdf]
 | d::r=>by simp [zdf,zfj (ds:=r)]
theorem zf9 {d:D} (g:good d=true):kn d=true:=by cases d<;>simp [good,kn] at g ⊢
theorem zn3 {ds:List D}:good (.tup ds)=true↔ds.length<64/\ ∀ d∈ds,good d=true:=by simp [good,zfj]
theorem zkA {ds:List D}:good (.lst ds)=true↔ds.length<64/\ ∀ d∈ds,good d=true:=by simp [good,zfj]
mutual
theorem zgy: ∀ {d:D},good d=true-> ∃ p,pd d=some p/\p.canLay0=true
 | .non,_=>⟨.none,rfl,rfl⟩
 | .bl b,_=>⟨.bool b,rfl,rfl⟩
 | .int i,_=>⟨.int i,rfl,rfl⟩
 | .str x,g=>⟨.str x,rfl,by simpa [good,PyData.canLay0] using g⟩
 | .tup ds,g=>by
  have g2:zdf ds=true:=by simp [good] at g;exact g.2
  obtain ⟨ps,e,c⟩:=zgm g2
  exact ⟨.tuple ps,by unfold pd;rw [e];rfl,c⟩
 | .lst ds,g=>by
  have g2:zdf ds=true:=by simp [good] at g;exact g.2
  obtain ⟨ps,e,c⟩:=zgm g2
  exact ⟨.list ps,by unfold pd;rw [e];rfl,c⟩
 | .cel _,g=>by simp [good] at g
 | .set _,g=>by simp [good] at g
 | .dct,g=>by simp [good] at g
 | .fn _,g=>by simp [good] at g
 | .scr _,g=>by simp [good] at g
 | .exn _,g=>by simp [good] at g
theorem zgm: ∀ {ds:List D},zdf ds=true-> ∃ ps,pdL ds=some ps/\PyData.canLayAll0 ps=true
 | [],_=>⟨[],rfl,rfl⟩
 | d::r,g=>by
  simp [zdf] at g
  obtain ⟨p,e,c⟩:=zgy g.1
  obtain ⟨ps,e2,c2⟩:=zgm g.2
  exact ⟨p::ps,by unfold pdL;rw [e,e2],by simp [PyData.canLayAll0,c,c2]⟩
end
theorem zbW: ∀ xs:List Int,pdL (xs.map D.int)=some (xs.map PyData.int)
 | []=>rfl
 | x::r=>by rw [qaM,pdL,zbW r];rfl
theorem za4: ∀ xs:List Int,PyData.canLayAll0 (xs.map PyData.int)=true
 | []=>rfl
 | x::r=>by simp [PyData.canLayAll0,PyData.canLay0,za4 r]
theorem zbm: ∀ xs:List Int,PyData.depthAll (xs.map PyData.int)=0
 | []=>rfl
 | x::r=>by simp [PyData.depthAll,PyData.depth,zbm r]
theorem zeb: ∀ xs ys:List Int,PyData.eqvAll (xs.map PyData.int) (ys.map PyData.int)=(xs==ys)
 | [],[]=>rfl
 | [],_::_=>rfl
 | _::_,[]=>rfl
 | x::xs,y::ys=>by
  simp only [qaM,PyData.eqvAll,PyData.eqv,zeb xs ys]
  rfl
theorem zlW (xs ys:List Int):dNe (.lst (xs.map D.int)) (.lst (ys.map D.int))=pure (.bl (!(xs==ys))):=by
 show zhg true _ _=_
 unfold zhg
 have e1:pd (.lst (xs.map D.int))=some (.list (xs.map PyData.int)):=by unfold pd;rw [zbW];rfl
 have e2:pd (.lst (ys.map D.int))=some (.list (ys.map PyData.int)):=by unfold pd;rw [zbW];rfl
 rw [e1,e2]
 have c:zeI (.list (xs.map PyData.int)) (.list (ys.map PyData.int))=true:=by
  unfold zeI
  simp [PyData.canLay0,za4,PyData.depth,zbm]
 simp only [c,if_true,PyData.eqv,zeb]
theorem zhW {ds:List D} (g:good (.tup ds)=true):dEq (.tup ds) (.tup [])=pure (.bl ds.isEmpty):=by
 obtain ⟨p,e,c⟩:=zgy g
 have g2:=g
 unfold pd at e
 cases z:pdL ds with
 | none=>rw [z] at e;cases e
 | some ps=>
  rw [z] at e
  cases e
  show zhg false _ _=_
  unfold zhg
  have e1:pd (.tup ds)=some (.tuple ps):=by unfold pd;rw [z];rfl
  have e2:pd (.tup [])=some (.tuple []):=rfl
  rw [e1,e2]
  have c':zeI (.tuple ps) (.tuple [])=true:=by
   unfold zeI
   rw [c]
   simp [PyData.canLay0,PyData.canLayAll0,PyData.depth,PyData.depthAll]
  simp only [c',if_true]
  cases ds with
  | nil=>cases z;rfl
  | cons d r=>
   unfold pdL at z
   cases z1:pd d with
   | none=>rw [z1] at z;cases z
   | some a=>
    cases z2:pdL r with
    | none=>rw [z1,z2] at z;cases z
    | some b=>rw [z1,z2] at z;cases z;rfl
theorem zeQ (k:Int): ∀ xs:List Int,((xs.map PyData.int).any fun y=>PyData.eqv y (.int k))=xs.any (· == k)
 | []=>rfl
 | x::r=>by simp only [qaM,List.any_cons,zeQ k r];rfl
theorem zf5 (k:Int) (xs:List Int):dIn (.int k) (.tup (xs.map D.int))=pure (.bl (xs.any (· == k))):=by
 show zlC false (.int k) (.tup (xs.map D.int))=_
 unfold zlC
 simp only [pd]
 rw [zbW]
 have c:zkH (.int k) (xs.map PyData.int)=true:=by
  unfold zkH
  simp [PyData.canLay0,za4,PyData.depth,zbm]
 simp only [c,if_true,zeQ]
 rfl
end L3
namespace L2
open PySem PySem.Spec PyProof.Rows LT
section
variable {X:Cx}
theorem zk7 (hc:X.calm=true):zaZ X (.builtin "any") (fun xs H Q=> ∃ (a:Addr) (bs:List Bool),xs=[.ref a]/\SqL X.K H a (bs.map V.bl)/\Q (.bl (bs.any id)) H):=by
 intro pins s σ H xs us Q I r h
 obtain ⟨a,bs,rfl,hq,q⟩:=h
 obtain ⟨u,rfl,rx⟩:=zd1 r
 cases rx
 obtain ⟨its,r',pl,hz⟩:=I.list hq
 have hlt:a<s.heap.objs.size:=by obtain ⟨_,e,_⟩:=pl.isList;exact qaQ e
 refine call_any_walk (wpAny_pyIter_list pl.isList ?_)
 refine ⟨s.heap.objs.size,[s.heap.objs.size,a],[s.heap.objs.size],its.toArray.size,_,_,fun i=>(bs[i]?).getD true,rfl,Walks.list (A:=X.A.in1) (I.ok.hd hc) _ a (qaR hlt) its.toArray,⟨⟨_,qar _ rfl,rfl,rfl⟩,pl.isList.push _⟩,fun i v s' Q' E' hP hQ=> ?_,fun h' tk hk=> ?_⟩
 ·have hv:its[i]? = some v:=by simpa using hP
  obtain ⟨hi,_⟩:=qac.mp hv
  have hlen:bs.length=its.length:=by rw [<- r'.length,qaH]
  have hb:(bs.map V.bl)[i]? = some (V.bl bs[i]):=by simp [hlen,hi]
  obtain ⟨u',hu,ru⟩:=r'.get hb
  rw [hv] at hu
  cases hu
  cases ru
  have e:(bs[i]?).getD true=bs[i]:=by simp [hlen,hi]
  have hQ:Q' ((bs[i]?).getD true) s':=hQ
  rw [e] at hQ
  exact wpAny_truthy_bool hQ
 ·have e:((List.range its.toArray.size).any fun i=>(bs[i]?).getD true)=bs.any id:=by
   have hlen:bs.length=its.length:=by rw [<- r'.length,qaH]
   rw [qaA, <-hlen]
   rw [Bool.eq_iff_iff,List.any_eq_true,List.any_eq_true]
   constructor
   ·rintro ⟨i,hi,h⟩
    have hl:i<bs.length:=by simpa using hi
    have e1:bs[i]? = some bs[i]:=by simp [hl]
    rw [e1] at h
    exact ⟨bs[i],List.getElem_mem hl,h⟩
   ·rintro ⟨x,hx,h⟩
    obtain ⟨i,hi⟩:=List.mem_iff_getElem?.mp hx
    have hl:=(qac.mp hi).1
    refine ⟨i,by simpa using hl,?_⟩
    rw [hi]
    exact h
  rw [e]
  refine ⟨.bl _,H,I.grown (s':={s with heap:=h',toks:=tk}) rfl rfl fun b ob eb=>hk b ob (fun z=> ?_) (qag _ eb),rfl,q⟩
  simp only [qaP,qaF,or_false] at z
  exact qaN _ (z▸qaQ eb)
end
end L2
namespace L3
open PySem PySem.Spec PyProof.Rows L2 LT
section
variable {X:Cx} {E:XE} {a b c o e:Expr} {pos apos cpos:Pos} {fa fb fc fo fe:FE}
noncomputable def zs0:List D->M D:=zm8 fun d=>match d with
 | .lst ds=>do let bs<-ofO (zlw ds);pure (.bl (bs.any id))
 | _=>M.bad
theorem zjI (hc:X.calm=true):zaZ X (.builtin "any") (zhv X.K E zs0):=by
 refine zaZ.imp (zk7 hc) fun xs H Q ⟨ι,h,ds,rl,hr,q⟩=> ?_
 obtain ⟨d,v,e,r,q⟩:=zcr rl q
 cases d with
 | lst ds=>
  obtain ⟨a,vs,e',h1,h2⟩:=zdk r
  obtain ⟨bs,eb,q⟩:=Fin.ofOb q
  have:=zeX h2 eb
  subst this
  exact ⟨a,bs,by rw [e,e'],h1,Fin.out hr q _ (by simp [Rel])⟩
 | _=>exact qa0 q
noncomputable def zia:D->M Unit
 | .cel n=>do let _<-zaw n;pure ()
 | _=>M.bad
theorem zkh {α:Type} {K:W.Frag} {ι:Io} {H:Hp} {h:Hh} {n:Nat} {f:List D->M α} {P:α->Io->Hp->Prop} (q:Fin K E ι H ((zaw n>>=f) h) P): ∃ ds,h[n]? = some (.lst ds)/\Fin K E ι H (f ds h) P:=by
 have q':Fin K E ι H (M.bind (zaw n) f h) P:=q
 unfold M.bind at q'
 cases z:zaw n h with
 | bad=>rw [z] at q';exact qa0 q'
 | exc c h'=>unfold zaw at z;split at z<;>cases z
 | ok ds h'=>
  rw [z] at q'
  obtain ⟨rfl,z2⟩:=zcR z
  exact ⟨ds,z2,q'⟩
end
end L3
namespace Att
open PySem PySem.W PySem.Calls PyProof.Rows
end Att
namespace L2
open PySem PySem.Spec PyProof.Rows
end L2
namespace L3
open PySem PySem.Spec PyProof.Rows L2 LT
section
variable {X:Cx} {E:XE}
noncomputable def zjl (i j:Int):Bool:=decide (Builtin.Int.intBits i+Builtin.Int.intBits j<=2^26)
theorem zjZ {i j:Int} (h:zjl i j=true):IntMulOk i j:=by
 unfold zjl at h
 rw [qaD] at h
 unfold IntMulOk
 intro z
 rw [qaG] at z
 have z2:=z.2
 unfold Builtin.Int.intTooBig at z2
 have hb:bitsLine=2^27:=rfl
 rw [qaD,hb] at z2
 omega
theorem zoF:OpR X (binaryOp .Mult) (rI (fun i j=>IntMulOk i j) fun i j=> .int (i*j)):=opI fun _ _ _ _ _ _ _ hc q=>mul_int q hc
noncomputable def zca:=dII (fun i j=>zbr i || zbr j || zjl i j) fun i j=> .int (i*j)
theorem zbk:OpR X (binaryOp .Mult) (zdB X.K E zca):=zhV (zoF) (fun i j h=>by
  rw [Bool.or_eq_true] at h
  rcases h with h | h
  · rcases (Bool.or_eq_true _ _).mp h with z | z
    · have:=zcZ z
      exact IntMulOk.of_left (intBits_le_64 this.1 this.2)
    · have:=zcZ z
      exact IntMulOk.of_right (intBits_le_64 this.1 this.2)
  · exact zjZ h) fun _ _ _ _=>by simp [Rel]
end
end L3
namespace PySem
open Sem (wp)
open AutoSeq1 (wpAny_loadPart')
section
variable {prog:Program} {w:World} {A:Around} {E:Value->Shared->Prop} {s:Shared}
end
end PySem
namespace L2
open PySem PySem.Spec PyProof.Rows LT
section
variable {X:Cx}
end
end L2
namespace L3
open PySem PySem.Spec PyProof.Rows L2 LT
section
variable {X:Cx} {E:XE} {e:Expr} {f:FE}
end
@[simp] theorem zaP {d:D} {r:Sd}:zae 0 (some d::r)=pure d:=rfl
@[simp] theorem zaV {n:Nat} {x:Option D} {r:Sd}:zae (n+1) (x::r)=zae n r:=rfl
noncomputable def zee (m:Int):Int->List D->Bool
 | _,[]=>true
 | l,.int i::r=>decide (l<=i) && decide (i<m) && zee m (i+1) r
 | _,_::_=>false
theorem zb1 {m:Int}: ∀ {xs:List Int} {l:Int},zee m l (xs.map D.int)=true↔xs.Pairwise (· < ·)/\ ∀ x∈xs,l<=x/\x<m
 | [],l=>by simp [zee]
 | x::r,l=>by
  rw [qaM,zee,qaG,qaG,zb1 (xs:=r) (l:=x+1),qay]
  simp only [qaD,qaP,forall_eq_or_imp]
  constructor
  ·rintro ⟨⟨h1,h2⟩,h3,h4⟩
   refine ⟨⟨fun y hy=> ?_,h3⟩,⟨h1,h2⟩,fun y hy=> ?_⟩
   ·have:=(h4 y hy).1;omega
   ·have:=h4 y hy;omega
  ·rintro ⟨⟨h1,h2⟩,⟨h3,h4⟩,h5⟩
   refine ⟨⟨h3,h4⟩,h2,fun y hy=> ?_⟩
   have a1:=h1 y hy
   have a2:=h5 y hy
   omega
theorem zf7 {m:Int}: ∀ {ts:List D} {l:Int},zee m l ts=true->ts.all isI=true
 | [],_,_=>rfl
 | d::r,l,h=>by
  cases d<;>first
   | (simp [zee] at h;done)
   | (rw [zee,qaG] at h;rw [List.all_cons,zf7 h.2];rfl)
theorem zhH: ∀ {ts:List D},ts.all isI=true-> ∃ xs:List Int,ts=xs.map D.int
 | [],_=>⟨[],rfl⟩
 | d::r,h=>by
  rw [List.all_cons,qaG] at h
  obtain ⟨xs,e⟩:=zhH h.2
  cases d<;>first
   | (simp [isI] at h;done)
   | (rename_i i;exact ⟨i::xs,by rw [e];rfl⟩)
theorem zeS {m:Int}: ∀ {ts:List D} {l:Int},zee m l ts=true->l<=m->(ts.length:Int)<=m - l
 | [],l,_,h=>by simp;omega
 | d::r,l,h,hl=>by
  cases d<;>first
   | (simp [zee] at h;done)
   | (rename_i i
      rw [zee,qaG,qaG,qaD,qaD] at h
      have:=zeS h.2 (by omega)
      simp
      omega)
def Bx (b:Nat) (h:Hh):Prop:= ∃ z:Int,h[b]? = some (.lst [.int z])
def Ext (b:Nat) (h h':Hh):Prop:=Bx b h'/\ ∀ (n:Nat) (c:C),n≠b->h[n]? = some c->h'[n]? = some c
theorem Ext.refl {b:Nat} {h:Hh} (q:Bx b h):Ext b h h:=⟨q,fun _ _ _ e=>e⟩
theorem Ext.trans {b:Nat} {h h1 h2:Hh} (p:Ext b h h1) (q:Ext b h1 h2):Ext b h h2:=⟨q.1,fun n c hn e=>q.2 n c hn (p.2 n c hn e)⟩
theorem Bx.set {b:Nat} {h:Hh} {z:Int} (q:Bx b h):Ext b h (h.set b (.lst [.int z])):=by
 obtain ⟨y,e⟩:=q
 have hl:=(qac.mp e).1
 exact ⟨⟨z,qai hl⟩,fun n c hn e=>by rw [qao (Ne.symm hn)];exact e⟩
theorem Bx.push {b:Nat} {h:Hh} {c:C} (q:Bx b h):Ext b h (h++[c]):=by
 obtain ⟨y,e⟩:=q
 have hl:=(qac.mp e).1
 refine ⟨⟨y,by rw [qad hl];exact e⟩,fun n c' hn e=> ?_⟩
 rw [qad (qac.mp e).1]
 exact e
theorem zcY {j:Int} (h0:0<=j) (h:j<1000):zkp [.int j]=pure (zfC 0 j.toNat):=by
 show (if zdN j=true then _ else _)=_
 rw [qa4 (by unfold zdN;simp;omega)]
theorem zgz {n:Nat} {d:D} (h:d∈zfC 0 n): ∃ i:Int,d= .int i/\0<=i/\i<n:=by
 unfold zfC at h
 obtain ⟨k,hk,e⟩:=qaU.mp h
 have:=List.mem_range.mp hk
 exact ⟨0+(k:Int),e.symm,by omega,by omega⟩
theorem zeZ {n:Nat}:(zfC 0 n).length=n:=by unfold zfC;simp
theorem zdx (n:Nat):zfC 0 n=((List.range n).map fun (k:Nat)=>(k:Int)).map D.int:=by unfold zfC;simp
theorem zmY {α:Type} {c:Prop} [Decidable c] {a b:M α} {h:Hh} {P:α->Hh->Prop}:wp (if c then a else b) h P↔if c then wp a h P else wp b h P:=by split<;>exact Iff.rfl
theorem zoH {m:Int} (h0:0<=m) (h:m<=1000):zsy (.int 1) (.int m)=pure (.int (1*2^m.toNat)):=by
 show (if zpn 1 m=true then _ else _)=_
 rw [qa4 (by unfold zpn;simp;omega)]
theorem zow {i m:Int} (h0:0<=m):zsA (.int i) (.int m)=pure (.int (i / 2^m.toNat)):=by
 show (if decide (0<=m)=true then _ else _)=_
 rw [qa4 (by simpa using h0)]
theorem znB:zr6 (.int 10) (.int 12)=pure (.int 1000000000000):=by
 unfold zr6 dII
 simp only
 rw [qa4 (by decide)]
 rfl
theorem zn7 (i:Int):Builtin.bitAnd i 1=i % 2:=by
 exact bitAnd_m1 i
theorem zen {f:D->M (Option D)} {k:D->Option D} {h:Hh}: ∀ {ds:List D} {P:List D->Hh->Prop},(∀ x∈ds,wp (f x) h fun o h'=>o=k x/\h'=h)->P (ds.filterMap k) h->wp (zbl f ds) h P
 | [],P,_,q=>by rw [zbl,zar];exact q
 | x::r,P,hf,q=>by
  rw [zbl,zas]
  refine zhK (hf x qau) ?_
  rintro o h' ⟨rfl,rfl⟩
  rw [zas]
  refine zen (k:=k) (fun y hy=>hf y (qan _ hy)) ?_
  rw [zar]
  cases e:k x with
  | none=>rw [qat,e] at q;exact q
  | some y=>rw [qat,e] at q;exact q
theorem zjm {fi:FA} {g:D->Sd->M Sd} {tc:FT} {te:FE} {src:List (Option Nat)} {sd:Sd} {ds:List D} {k:D->Option D} {h:Hh} {P:D->Hh->Prop} (hi:fi sd=pure ds) (hl:ds.length<=1000) (hf: ∀ x∈ds,wp (za6 g tc te (zap src sd) x) h fun o h'=>o=k x/\h'=h) (q:P (.lst (ds.filterMap k)) h):wp (zaB fi g tc te src sd) h P:=by
 unfold zaB
 rw [hi]
 simp only [pure_bind]
 rw [zaD hl]
 simp only [pure_bind]
 rw [zas]
 refine zen hf ?_
 rw [zar]
 exact q
theorem zol {xs:List Int} {i:Int} (h:xs.Pairwise (· < ·)) (hi:i∉xs):(zb0 (xs++[i])).Pairwise (· < ·):=by
 have hn:(xs++[i]).Nodup:=by
  rw [List.nodup_append]
  refine ⟨h.imp fun z=>by omega,by simp,fun a ha b hb=> ?_⟩
  simp at hb
  subst hb
  exact fun z=>hi (z▸ha)
 have hn2:(zb0 (xs++[i])).Nodup:=(zaN _).nodup_iff.mpr hn
 exact ((zdw (xs++[i])).and hn2).imp fun ⟨a,b⟩=>by omega
end L3
namespace L2
open PySem PySem.Spec PyProof.Rows L3
theorem zcd.there {P:Program} {w:World} {H:Hp} {h:Heap} {a:Addr} {o:HO} (x:zcd P w H h a o): ∃ ob,h.get? a=some ob:=by
 cases o with
 | lst xs=>obtain ⟨_,_,_,_,e⟩:=x;exact ⟨_,e⟩
 | tup xs=>obtain ⟨_,_,_,ob,e,_⟩:=x;exact ⟨ob,e⟩
 | dK kvs=>obtain ⟨_,_,_,_,ob,_,_,e,_⟩:=x;exact ⟨ob,e⟩
 | dT kvs=>obtain ⟨_,_,_,_,ob,_,_,e,_⟩:=x;exact ⟨ob,e⟩
 | set S n=>obtain ⟨ob,_,_,_,e,_⟩:=x;exact ⟨ob,e⟩
 | ins C dx fs=>obtain ⟨_,_,_,e,_⟩:=x;exact ⟨_,e⟩
 | own y=>exact x
 | xd fs=>obtain ⟨_,⟨ob,_,_,e,_⟩,_⟩:=x;exact ⟨ob,e⟩
 | rng lo hi=>obtain ⟨_,_,_,e⟩:=x;exact ⟨_,e⟩
 | frz ob u=>exact ⟨ob,x.1⟩
 | tbl ps=>exact ⟨_,x⟩
 | met f y=>exact ⟨_,x⟩
 | ext φ=>exact x.2.1
structure HS (H H':Hp) (h:Heap):Prop where
 free: ∀ b o,h.get? b=some o->H b=none->H' b=none
 tups: ∀ b xs,H b=some (.tup xs)->H' b=some (.tup xs)
 frzs: ∀ b o u,H b=some (.frz o u)->H' b=some (.frz o u)
 tbls: ∀ b ps,H b=some (.tbl ps)-> ∃ more,H' b=some (.tbl (ps++more))
structure FlB (P:Program) (w:World) (l:List Env) (H:Hp) (h:Heap) (H':Hp) (B:Heap):Prop where
 old: ∀ b o,h.get? b=some o->b∉frs l-> ∃ o',B.get? b=some o'/\(H b=none->o'=o)
 trk: ∀ b u,H' b=some u-> ∃ o,B.get? b=some o
 ok:HOk P w H' B
structure Fl (P:Program) (w:World) (l:List Env) (H:Hp) (s:Shared) (a C:Addr) (fl:Value) (H':Hp) (s':Shared):Prop where
 os:s'.os=s.os
 bare:AllBare s'.gens
 base: ∃ B:Heap,Fly B l a (.ref C) fl s'.heap/\FlB P w l H s.heap H' B
 slot: ∀ b o,s.heap.get? b=some o->H b=none->b∈frs l-> ∃ sl,s'.heap.get? b=some {o with slots:=sl}
 hs:HS H H' s.heap
section
variable {P:Program} {w:World} {l:List Env} {H H':Hp} {s s':Shared} {a C:Addr} {fl:Value}
theorem Fl.un (y:Fl P w l H s a C fl H' s'):Un (frs l) [] H H' s.heap s'.heap:=by
 obtain ⟨B,y1,y2⟩:=y.base
 refine ⟨fun b o e n hb _=> ?_,fun b o e n hb _=>y.slot b o e n hb,fun b o e n _=>y.hs.free b o e n,fun b o e _=> ?_,y.hs.tups,y.hs.frzs,y.hs.tbls⟩
 ·obtain ⟨o',e',q⟩:=y2.old b o e hb
  rw [<- q n]
  exact y1.stays b o' e'
 ·by_cases hb:b∈frs l
  ·obtain ⟨_,o',e',_⟩:=y1.frames.mem hb
   exact ⟨o',e'⟩
  ·obtain ⟨o',e',_⟩:=y2.old b o e hb
   exact ⟨o',y1.stays b o' e'⟩
theorem Fl.hok (y:Fl P w l H s a C fl H' s'):HOk P w H' s'.heap:=by
 obtain ⟨B,y1,y2⟩:=y.base
 exact y2.ok.kept y1.stays
theorem Fl.exc (y:Fl P w l H s a C fl H' s'): ∃ head,zhN s'.heap a (.ref C) head:=by
 obtain ⟨B,y1,y2⟩:=y.base
 obtain ⟨hd,z,_⟩:=y1.exc
 exact ⟨hd,z⟩
theorem Fl.fresh (y:Fl P w l H s a C fl H' s'):s.heap.get? a=none/\H' a=none/\a∉frs l:=by
 obtain ⟨B,y1,y2⟩:=y.base
 have nf:a∉frs l:=fun z=>by
  obtain ⟨_,o,e,n⟩:=y1.frames.mem z
  obtain ⟨_,⟨ob,vs,e2,_,_,d,_⟩,_⟩:=y1.exc
  rw [e] at e2
  cases e2
  exact n vs d
 refine ⟨?_,?_,nf⟩
 ·cases q:s.heap.get? a with
  | none=>rfl
  | some o=>
   obtain ⟨o',e,_⟩:=y2.old a o q nf
   rw [y1.new] at e
   cases e
 ·cases q:H' a with
  | none=>rfl
  | some u=>
   obtain ⟨o',e⟩:=y2.trk a u q
   rw [y1.new] at e
   cases e
theorem Fl.mv {B h':Heap} {fl':Value} (os:s'.os=s.os) (bare:AllBare s'.gens) (slot: ∀ b o,s.heap.get? b=some o->H b=none->b∈frs l-> ∃ sl,s'.heap.get? b=some {o with slots:=sl}) (hs:HS H H' s.heap)
  (fr:s'.heap.FunFrames B l) (z:Fly B l a (.ref C) fl' h') (y:FlB P w l H s.heap H' B) (u:s'.heap.UpToSlots h'):Fl P w l H s a C fl' H' {s' with heap:=h'}:=by
 refine ⟨os,bare,⟨B,z,y⟩,fun b o e n hb=> ?_,hs⟩
 obtain ⟨sl,e2⟩:=slot b o e n hb
 obtain ⟨_,o2,e3,n3⟩:=fr.mem hb
 rw [e2] at e3
 cases e3
 obtain ⟨sl',e4⟩:=u b _ e2 n3
 exact ⟨sl',e4⟩
section
variable {M:Model} {A:Around} {E:Value->Shared->Prop} {env:Env} {outer:List Env} {L:Addr} {Q:Unit->Shared->Prop}
theorem Fl.note (y:Fl P w (env::outer) H s a C .none H' s') (hfr:A.frames=some (env::outer)) (hf:env.frame=some L) (k: ∀ h',Fl P w (env::outer) H s a C (rawInt L) H' {s' with heap:=h'}->Q () {s' with heap:=h'}):
  wpAny M A (noteFrame (.ref a) env) Q E s':=by
 obtain ⟨B,y1,y2⟩:=y.base
 exact zoq hfr hf y1 fun h' z u=>k h' (Fl.mv y.os y.bare y.slot y.hs y1.frames z y2 u)
theorem Fl.off (y:Fl P w l H s a C fl H' s') (k: ∀ h',Fl P w l H s a C .none H' {s' with heap:=h'}->Q () {s' with heap:=h'}):wpAny M A (setFlight (.ref a) none) Q E s':=by
 obtain ⟨B,y1,y2⟩:=y.base
 exact zf1 y1 fun h' z u=>k h' (Fl.mv y.os y.bare y.slot y.hs y1.frames z y2 fun b o e n=>⟨o.slots,u b o e n⟩)
end
end
structure zfJ (X:Cx):Prop where
 stk:X.stack=X.env::X.outer
 frm:X.env.frame=some X.env.locals
 ex:X.ex=[]
theorem zfJ.frs {X:Cx} (z:zfJ X):frs X.stack=X.env.locals::frs X.outer:=by
 rw [z.stk]
 unfold L2.frs
 rw [qat,z.frm]
section
variable {X:Cx} {pins:List (Addr×Obj)} {σ:St} {H H':Hp} {s s':Shared} {a C:Addr} {M:Model} {E:Value->Shared->Prop} {Q:Unit->Shared->Prop}
theorem Inv.below (I:Inv X pins σ H s) {b:Addr} {o:Obj} (e:X.s₀.heap.get? b=some o):b≠X.env.locals:=qaR (qaw (qaQ e) I.ok.above)
theorem Fl.made {h':Heap} {vs:List Value} (z:zfJ X) (I:Inv X pins σ H s) (m:Heap.MadeExcOf s.heap h' a (.ref C) vs) (k: ∀ s2,Fl X.prog X.w X.outer X.H₀ X.s₀ a C .none H s2->Q () s2):wpAny M X.A (leaving X.env (.ref a)) Q E {s with heap:=h'}:=by
 have nex: ∀ b,b∉X.ex:=fun b h=>by rw [z.ex] at h;cases h
 have hfr:=I.ok.frames
 have hl:=I.stack
 have hin: ∀ env∈X.stack, ∀ b,env.frame=some b->b∈frs X.stack:=fun env he b hb=>List.mem_filterMap.mpr ⟨env,he,hb⟩
 have hl2:=W.funFrames_hide hl hin
 have hl3:h'.FunFrames (W.hideAll s.heap (frs X.stack)) X.stack:=hl2.of_keeps fun b o e _=>⟨o,m.keeps b o e,rfl⟩
 have inB: ∀ {b:Addr} {o:Obj},s.heap.get? b=some o->b∉frs X.stack->(W.hideAll s.heap (frs X.stack)).get? b=some o:=fun e n=>W.hideAll_get _ e n
 have ofB: ∀ {b:Addr} {o:Obj},(W.hideAll s.heap (frs X.stack)).get? b=some o->s.heap.get? b=some o:=fun e=>W.of_hideAll _ e
 have trk: ∀ b u,H b=some u->b∉frs X.stack:=fun b u e hm=>by rw [I.stkFree b hm] at e;cases e
 have newB:(W.hideAll s.heap (frs X.stack)).get? a=none:=by
  cases q:(W.hideAll s.heap (frs X.stack)).get? a with
  | none=>rfl
  | some o=>have:=ofB q;rw [m.new] at this;cases this
 have hst:=z.stk
 refine zh1 (B:=W.hideAll s.heap (frs X.stack)) (by rw [<- hst];exact hfr) (by rw [<- hst];exact hl3) z.frm (zme m) (fun b o e=>m.keeps b o (ofB e)) newB fun h2 q u=>k _ ?_
 have nin: ∀ b o,X.s₀.heap.get? b=some o->b∉frs X.outer->b∉frs X.stack:=fun b o e hb hm=>by
  rw [z.frs] at hm
  rcases qaP.mp hm with r | r
  ·exact I.below e r
  ·exact hb r
 refine ⟨I.os,I.bare,⟨_,q,fun b o e hb=> ?_,fun b v e=> ?_,fun b v e=> ?_⟩,fun b o e n hb=> ?_,fun b o e n=>I.base.free b o e n (nex b),I.base.tups,I.base.frzs,I.base.tbls⟩
 ·obtain ⟨o1,e1⟩:=I.base.there b o e (nex b)
  refine ⟨o1,inB e1 (nin b o e hb),fun n=> ?_⟩
  have e3:=I.base.keep b o e n hb (nex b)
  rw [e1] at e3
  cases e3
  rfl
 ·obtain ⟨o,e1⟩:=(I.hok b v e).there
  exact ⟨o,inB e1 (trk b v e)⟩
 ·refine (I.hok b v e).stay (fun c o hc e1=>inB e1 ?_) (fun _ r=>r) fun _ _ r=>r
  rcases hc with rfl | hc
  ·exact trk _ v e
  ·exact trk _ _ hc
 ·obtain ⟨sl,e1⟩:=I.base.slot b o e n hb (nex b)
  have hb2:b∈frs X.stack:=by rw [z.frs];exact qan _ hb
  obtain ⟨_,o3,e3,n3⟩:=hl.mem hb2
  rw [e1] at e3
  cases e3
  obtain ⟨sl4,e4⟩:=u b _ (m.keeps b _ e1) n3
  exact ⟨sl4,e4⟩
end
noncomputable def CXE (P:Program) (w:World):CXT:=fun outer H s E e s'=> ∃ a C H',e= .ref a/\Fl P w outer H s a C .none H' s'/\E e (some C) H'
end L2
namespace L3
open PySem PySem.Spec PyProof.Rows L2
def zb6 (K:W.Frag) (c:String) (C:Addr):Prop:=W.nsIn K mainGlobals (c:Str)=some (some (.ref C))
noncomputable def zrR (K:W.Frag) (E:XE):XK:=fun _ oc H'=> ∃ c C,oc=some C/\zb6 K c C/\E c H'
noncomputable def zsp (K:W.Frag) (E:XK):XE:=fun c H'=> ∀ C v,zb6 K c C->E v (some C) H'
def zo3 (X:Cx) (E:XE):Prop:= ∀ (pins:List (Addr×Obj)) (σ:St) (H:Hp) (s:Shared) (h':Heap) (a C:Addr) (c:String) (vs:List Value),Inv X pins σ H s->zb6 X.K c C->Heap.MadeExcOf s.heap h' a (.ref C) vs->E c H->X.xe (.ref a) {s with heap:=h'}
section
variable {P:Program} {w:World} {K:W.Frag} {mg:Str->Option Value} {base:Heap} {N:List Str} {qual:Str} {scope:Scope} {f:Addr} {cd:Value} {A:Around} {outer:List Env} {s:Shared} {H:Hp} {E:XK}
theorem zq1:zfJ (zhG (CXE P w) P w K mg base N qual scope f cd A outer s H E):=⟨rfl,rfl,rfl⟩
theorem zl5:zo3 (zhG (CXE P w) P w K mg base N qual scope f cd A outer s H E) (zsp K E):=by
 intro pins σ H1 s1 h' a C c vs I hc m he
 exact Fl.made zq1 I m fun s3 y3=>⟨a,C,H1,rfl,y3,he _ _ hc⟩
end
noncomputable def noX {α:Type} (m:M α):M α:=fun h=>match m h with
 | .exc _ _=> .bad
 | r=>r
theorem Fin.noX {α:Type} {K:W.Frag} {E E':XE} {ι:Io} {H:Hp} {m:M α} {h:Hh} {P:α->Io->Hp->Prop} (q:Fin K E ι H (L3.noX m h) P):Fin K E' ι H (m h) P:=by
 unfold L3.noX at q
 cases e:m h with
 | ok a h'=>rw [e] at q;exact q
 | exc c h'=>rw [e] at q;exact qa0 q
 | bad=>rw [e] at q;exact q
noncomputable def spE (K:W.Frag) (n:Nat) (F:List D->M D):Sp:=fun vs H Q E=>vs.length=n/\ ∃ ι h ds,zax K ι H ds vs/\zbe K ι H h/\Fin K (zsp K E) ι H (F ds h) fun d ι' H'=> ∀ v,Rel K ι' H' d v->Q v H'
section
variable {P:Program} {w:World} {K:W.Frag} {mg:Str->Option Value} {base:Heap}
theorem zrt {x qual:Str} {st:Stmt} {f:Addr} {fd:FuncData} {N ps:List Str} {k:Nat} {G:Sd->M Out} (F:Fun K x qual st f fd) (S:zat N ps (zah st))
  (hb: ∀ (cdv:Value) (A:Around) (outer:List Env) (s:Shared) (H:Hp) (E:XK),zej k (A.deeper (envOfC qual (zah st) s.heap.objs.size f cdv))->SSs (zhG (CXE P w) P w K mg base N qual (zah st) f cdv A outer s H E) (zsp K E) (zcH st) G):
  zbN P w K mg base (CXE P w) (k+1) f fd ps (spE K ps.length (zcN N.length G)):=by
 obtain ⟨oc,od,kV,doc,pm,an,cdv,ct,osl,rfl,lk,hcd⟩:=F.ex
 refine zqM lk hcd S (fun vs H Q E h=>h.1) fun A outer s H vs Q E hr ⟨hl,ι,h,ds,rl,hh,q⟩=>⟨_,hb cdv A outer s H E hr,ι,h,zf0 N.length ds,zeq rl,hh,?_⟩
 refine Fin.bind q fun o h1 ι1 H1 e1 s1 hr1 q1=> ?_
 cases o with
 | nx sd=>exact fun σ' _=>Fin.out hr1 q1 _ (by simp [Rel])
 | rt d=>exact fun v rv=>Fin.out hr1 q1 v rv
 | bk sd=>exact qa0 q1
 | ct sd=>exact qa0 q1
end
section
variable {X:Cx} {E:XE} {e:Expr} {es:List Expr} {pos p:Pos}
theorem Fin.exmono {α:Type} {K:W.Frag} {E E':XE} {ι:Io} {H:Hp} {r:R α} {P:α->Io->Hp->Prop} (m: ∀ c H',E c H'->E' c H') (q:Fin K E ι H r P):Fin K E' ι H r P:=by
 cases r with
 | ok a h'=>exact q
 | exc c h'=>exact fun ι2 H2 t hr=>m _ _ (q ι2 H2 t hr)
 | bad=>exact q
theorem zmI {k:Nat} {f:Addr} {fd:FuncData} {ps:List Str} {n:Nat} {F:List D->M D} {fs:Sd->M (List D)} {x:Str} (G:zbN X.prog X.w X.K X.mg X.base (CXE X.prog X.w) k f fd ps (spE X.K n F)) (hx:zez (CXE X.prog X.w) X (zrR X.K E)) (hr:zej k X.A) (hg:Gl X x) (hm:X.mg x=some (.ref f)) (hk:W.keepIn X.K (.ref f)=true) (hb:zaO X.K fd ps [])
  (ha:SA X E (e::es) fs) (hdb:(x==("__debug__":Str))=false:=by decide) (he:starEach (e::es) X.env=(false,eval e X.env)::starEach es X.env:=by rfl) (hpl:(backTo pos (starEach es X.env)).any (·.1)=false:=by rfl):
  SE X E (.Call (.Name x p) (e::es) [] pos) (zau (zaj n F) fs):=by
 refine PE.imp (zhY G hr hg hm hk hb (dvs:=[]) .nil hx ha hdb he hpl) fun σ H Q ⟨ι,h,sd,L,hh,q⟩=>⟨ι,h,sd,L,hh,Fin.bind q fun ds h1 ι1 H1 e1 s1 hr1 q1 vs rv=> ?_⟩
 show spE X.K n F (vs++[]) H1 Q _
 rw [List.append_nil]
 unfold zaj at q1
 by_cases hl:ds.length=n
 ·rw [qa4 hl] at q1
  exact ⟨by rw [<- rv.length];exact hl,ι1,h1,ds,rv,hr1,Fin.exmono (fun c H' z C v hc=>⟨c,C,rfl,hc,z⟩) q1⟩
 ·rw [qa5 hl] at q1
  exact qa0 q1
theorem zmF {k:Nat} {f:Addr} {fd:FuncData} {ps:List Str} {n:Nat} {F:List D->M D} {fs:Sd->M (List D)} {x:Str} (G:zbN X.prog X.w X.K X.mg X.base CX0 k f fd ps (zbP X.K n F)) (hr:zej k X.A) (hg:Gl X x) (hm:X.mg x=some (.ref f)) (hk:W.keepIn X.K (.ref f)=true) (hb:zaO X.K fd ps [])
  (ha:SA X E (e::es) fs) (hdb:(x==("__debug__":Str))=false:=by decide) (he:starEach (e::es) X.env=(false,eval e X.env)::starEach es X.env:=by rfl) (hpl:(backTo pos (starEach es X.env)).any (·.1)=false:=by rfl):
  SE X E (.Call (.Name x p) (e::es) [] pos) (zau (zaj n fun ds=>noX (F ds)) fs):=by
 refine PE.imp (zhY G hr hg hm hk hb (dvs:=[]) .nil (E:=fun _ _ _=>False) zpN ha hdb he hpl) fun σ H Q ⟨ι,h,sd,L,hh,q⟩=>⟨ι,h,sd,L,hh,Fin.bind q fun ds h1 ι1 H1 e1 s1 hr1 q1 vs rv=> ?_⟩
 show zbP X.K n F (vs++[]) H1 Q _
 rw [List.append_nil]
 unfold zaj at q1
 by_cases hl:ds.length=n
 ·rw [qa4 hl] at q1
  exact ⟨by rw [<- rv.length];exact hl,ι1,h1,ds,rv,hr1,Fin.noX q1⟩
 ·rw [qa5 hl] at q1
  exact qa0 q1
end
end L3
namespace L2
open PySem PySem.Spec PyProof.Rows L3
structure zdQ (k:Nat) (A:Around):Prop where
 dp:A.depth+3*k+5<recursionLimit
 un:A.units+16*k+200<cLine
theorem zdQ.of {k:Nat} {A:Around} (r:zej k A):zdQ k A:=⟨r.dp,r.un⟩
theorem zdQ.deeper {k:Nat} {A:Around} (r:zdQ (k+1) A) (env:Env):zdQ k (A.deeper env):=
 ⟨by have:=r.dp;show A.depth+1+3*k+5<_;omega,by have:=r.un;show A.units+3+16*k+200<_;omega⟩
structure FnH (P:Program) (w:World) (K:W.Frag) (mg:Str->Option Value) (base:Heap) (k:Nat) (f:Addr) (fd:FuncData) (ps:List Str) (sp:Sp):Prop where
 len: ∀ vs H Q E,sp vs H Q E->vs.length=ps.length
 run: ∀ (A:Around) (outer:List Env) (s:Shared) (H:Hp) (args:Args) (us:List Value) (vs:List V) (Q:VK),zdQ k A->zpq P w K mg base A outer s H->BindsTo s fd args (ps.zip us)->zbh vs us->sp vs H Q E0->
  codeAny (model P w) A (.call (.ref f) args) (CR CX0 outer P w H s Q E0) s
theorem zpG {P:Program} {w:World} {K:W.Frag} {mg:Str->Option Value} {base:Heap} {k:Nat} {f:Addr} {name qual:Str} {params:Arguments} {body:List Stmt} {scope:Scope} {dV kV doc pm cdv ct oc:Value} {an od:Option Addr}
  {osl:Array (Option Value)} {N ps:List Str} {sp:Sp} (lk:K.lookup f=some ⟨oc,od,.func (W.fnOf name qual params body scope dV kV doc pm an cdv ct),osl⟩) (hcd:W.codeIn K cdv qual=true) (S:zat N ps scope)
  (len: ∀ vs H Q E,sp vs H Q E->vs.length=ps.length)
  (hbody: ∀ (A:Around) (outer:List Env) (s:Shared) (H:Hp) (vs:List V) (Q:VK),zdQ k (A.deeper (envOfC qual scope s.heap.objs.size f cdv))->sp vs H Q E0->
    ∃ t,PSs ({zhG CX0 P w K mg base N qual scope f cdv A outer s H E0 with calm:=false}:Cx).nox body t/\t {nx:=fun _ H'=>Q .non H',rt:=Q} (zem N vs) H):
  FnH P w K mg base (k+1) f (W.fnOf name qual params body scope dV kV doc pm an cdv ct) ps sp:=by
 refine ⟨len,fun A outer s H args us vs Q hr e0 hb r hsp=> ?_⟩
 have hl:=len _ _ _ _ hsp
 have KX:K.In s.heap:=e0.mod.kin.keeps fun b o e=>(e0.bs b o e).1
 have lim:s.heap.NoLimit:=e0.mod.nolimit.keeps fun b o e=>(e0.bs b o e).1
 have hkind: ∀ y∈ps.zip us,scope.names.lookup y.1=some .local\/(scope.names.lookup y.1=some .cell/\((cellsFrom (s.heap.objs.size+1) scope.names []).lookup y.1).isSome=true):=fun ⟨n,v⟩ hy=>by
  rcases S.par n (List.of_mem_zip hy).1 with q | q
  ·exact .inl q
  ·exact .inr ⟨q,W.cellsFrom_some _ _ _ (.inl q)⟩
 refine codeAny_call_function (by have:=hr.dp;omega) (KX _ _ lk) rfl S.co S.gen rfl (W.codeRec_of KX hcd) (hb _ _ _ _ ?_)
 refine wpAny_newFunctionEnv_cells S.kind hkind fun env he s1 x=> ?_
 subst he
 refine ⟨lim.keeps x.toInCall.keep,codeAny_func ?_⟩
 obtain ⟨t,ht,hq⟩:=hbody A outer s H vs Q (hr.deeper _) hsp
 have I:Inv {zhG CX0 P w K mg base N qual scope f cdv A outer s H E0 with calm:=false} [] (zem N vs) H s1:=zgL (cm:=false) S (fun z=>by cases z) e0 hl r x
 refine qaZ (ht.nox [] s1 (zem N vs) H _ I hq) (fun fl s' hs=> ?_) fun e s' hs=>hs
 have fin: ∀ {σ':St} {H':Hp} {v:V} {u:Value},Inv {zhG CX0 P w K mg base N qual scope f cdv A outer s H E0 with calm:=false} [] σ' H' s'->zb2 v u->Q v H'->CE outer P w H s Q u s':=
  fun {σ' H' v u} J rv q=>⟨v,H',J.os,J.bare,J.base,J.hok,rv,q⟩
 cases fl with
 | ret u=>
  obtain ⟨v,σ',H',J,rv,q⟩:=hs
  exact fin J rv q
 | next=>
  obtain ⟨σ',H',J,q⟩:=hs
  exact fin (v:=V.non) (u:=Value.none) J rfl q
 | brk=>
  obtain ⟨_,_,_,q⟩:=hs
  exact qa0 q
 | cont=>
  obtain ⟨_,_,_,q⟩:=hs
  exact qa0 q
section
variable {X:Cx} {pins:List (Addr×Obj)} {σ:St} {H H':Hp} {s s':Shared} {a:Addr} {o:Obj}
theorem Inv.track (I:Inv X pins σ H s) (hH:H a=none) (ho:s.heap.get? a=some o) (h0:X.s₀.heap.get? a=none) (hL:a≠X.env.locals) (hc: ∀ x c,X.env.cells.lookup x=some c->c≠a) (hp: ∀ p∈X.pn++pins,p.1≠a):
  Inv X pins σ (upd H a (.frz o (.own 0))) s:=by
 have un: ∀ {b:Addr} {u:HO},H b=some u->upd H a (.frz o (.own 0)) b=some u:=fun e=>by rw [zaE (zaY e hH)];exact e
 refine ⟨I.ok,I.os,I.bare,⟨I.base.keep,I.base.slot,fun b ob e n hx=> ?_,I.base.there,fun b xs e=>un (I.base.tups b xs e),fun b ob u e=>un (I.base.frzs b ob u e),fun b ps e=> ?_⟩,I.loc,I.cell,?_,fun x c e=> ?_,fun p q=> ?_,fun b u e=> ?_,I.len⟩
 ·rw [zaE (fun z=>by subst z;rw [h0] at e;cases e)]
  exact I.base.free b ob e n hx
 ·obtain ⟨m,e1⟩:=I.base.tbls b ps e
  exact ⟨m,un e1⟩
 ·rw [zaE (Ne.symm hL)]
  exact I.free
 ·rw [zaE (hc x c e)]
  exact I.freeC x c e
 ·obtain ⟨e1,e2,e3⟩:=I.pin p q
  exact ⟨e1,by rw [zaE (hp p q)];exact e2,e3⟩
 ·by_cases hb:b=a
  ·subst hb
   rw [za2] at e
   cases e
   exact ⟨ho,o,ho⟩
  ·rw [zaE hb] at e
   exact (I.hok b u e).stay (fun _ _ _ z=>z) (fun c z=>un z) fun c xs z=>un z
theorem zoR {M:Model} {A:Around} {E:Value->Shared->Prop} {i:Nat} {x:Str} {pos:Pos} {Q:Unit->Shared->Prop} (I:Inv X pins σ H s) (hN:X.N.Nodup) (hi:X.N[i]? = some x) (hk:X.env.scope.names.lookup x=some .local)
  (h: ∀ s',Inv X pins (σ.set i none) H s'->Q () s'):wpAny M A (do bindName X.env x .none;unbindBehindTheSuite X.env x pos) Q E s:=by
 obtain ⟨m,hn,hl⟩:=id I.loc
 have hcls:(X.env.scope.kind== .class || (X.env.scope.kind== .module && X.env.locals != X.env.globals))=false:=by rw [I.ok.kind];rfl
 have hiσ:i<σ.length:=by rw [I.len];exact (qac.mp hi).1
 have cne:=I.cne
 refine wpAny_nameGoes_keeps hk hn hcls fun h' v hn' hs=> ?_
 obtain ⟨oL,_,_,hoL,_⟩:=id hn
 refine h _ ⟨I.ok,I.os,I.bare,⟨fun b ob e n hb hx=> ?_,fun b ob e n hb hx=> ?_,I.base.free,fun b ob e hx=> ?_,I.base.tups,I.base.frzs,I.base.tbls⟩,⟨_,hn',fun j y v' e1 e2 e3=> ?_⟩,fun y c e=> ?_,I.free,I.freeC,fun p hp=> ?_,fun b ob e=> ?_,by simpa using I.len⟩
 ·exact (hs.2 b (I.below e)).trans (I.base.keep b ob e n hb hx)
 ·obtain ⟨sl,e1⟩:=I.base.slot b ob e n hb hx
  exact ⟨sl,(hs.2 b (I.below e)).trans e1⟩
 ·obtain ⟨o',e1⟩:=I.base.there b ob e hx
  exact ⟨o',(hs.2 b (I.below e)).trans e1⟩
 ·by_cases hj:j=i
  ·subst hj
   rw [qai hiσ] at e2
   cases e2
  ·rw [qao (Ne.symm hj)] at e2
   obtain ⟨u',r',q⟩:=hl j y v' e1 e2 e3
   refine ⟨u',r',?_⟩
   rcases q with ⟨k,e⟩ | ⟨k,c,e,z⟩
   ·refine .inl ⟨k,?_⟩
    have:y≠x:=fun e=>hj (zga hN e1 (e▸hi))
    simp [this,e]
   ·exact .inr ⟨k,c,e,z.sameBut hs (cne y c e)⟩
 ·obtain ⟨w',z⟩:=I.cell y c e
  exact ⟨w',z.sameBut hs (cne y c e)⟩
 ·obtain ⟨e,n,ne,nf,d⟩:=I.pin p hp
  exact ⟨(hs.2 p.1 ne).trans e,n,ne,nf,d⟩
 ·refine (I.hok b ob e).stay (fun c w' hc q=>(hs.2 c ?_).trans q) (fun _ q=>q) fun _ _ q=>q
  rintro rfl
  rcases hc with rfl | hc
  ·rw [I.free] at e;cases e
  ·rw [I.free] at hc;cases hc
end
section
variable {X:Cx} {pins:List (Addr×Obj)} {σ:St} {H H':Hp} {s s':Shared} {a C CE:Addr} {ce en:Str} {pce pos:Pos} {b₀:Stmt} {suite:List Stmt} {j:Nat} {Q:Flow->Shared->Prop} {E:Value->Shared->Prop}
theorem Fl.caught (z:zfJ X) (I:Inv X pins σ H s) (y:Fl X.prog X.w X.stack H s a C .none H' s') (hN:X.N.Nodup) (hj:X.N[j]? = some en) (hen:X.env.scope.names.lookup en=some .local) (hg:Gl X ce) (hm:X.mg ce=some (.ref CE)) (hx:W.exmOne X.K (.ref C) (.ref CE)=some true)
  (k: ∀ s6,Inv X pins (σ.set j (some (.ref a))) H' s6->(∃ head,zhN s6.heap a (.ref C) head)->wpAny (model X.prog X.w) (X.A.mark (some (.ref a))) (execs (b₀::suite) X.env)
    (fun f s4=>wpAny (model X.prog X.w) X.A (do bindName X.env en .none;unbindBehindTheSuite X.env en pos) (fun _ s5=>Q f s5) E s4) (fun _ _=>False) s6) (hd:(ce==("__debug__":Str))=false:=by decide):
  wpAny (model X.prog X.w) X.A (noteFrame (.ref a) X.env) (fun _ s2=>wpAny (model X.prog X.w) X.A (setFlight (.ref a) none) (fun _ s3=>
    wpAny (model X.prog X.w) X.A (handleBy (.ref a) X.env [.ExceptHandler (some (.Name ce pce)) (some en) (b₀::suite) pos]) Q E s3) E s2) E s':=by
 have hfr:=I.ok.frames
 rw [z.stk] at hfr y
 refine y.note hfr z.frm fun h3 y3=> ?_
 refine y3.off fun h4 y4=> ?_
 have ev: ∀ {hp fl},Fl X.prog X.w (X.env::X.outer) H s a C fl H' {s' with heap:=hp}->Inv X pins σ H' {s' with heap:=hp}:=fun {hp fl} y=>by
  have u:=y.un
  rw [<- z.stk] at u
  exact I.call' y.os u y.hok y.bare fun b q=>absurd q (by simp)
 have I4:=ev y4
 obtain ⟨hd4,x4⟩:=y4.exc
 have LT:W.Looks (model X.prog X.w) h4 (typeOf (.ref a)) (.ref C):=by
  obtain ⟨ob,vs,e1,e2,_⟩:=x4
  exact e2▸(W.Looks.ld e1).andThen .now
 refine wpAny_handleBy_cons (codeAny_handlers_test ?_) (by intro q;cases q)
 refine Calls.Name_function_global I4.ok.kind hg (Calls.loadGlobal_global (by rw [I4.ok.glob];exact I4.mod.glob.keeps I4.bk) hm ?_) hd
 refine (W.exm_one I4.kIn LT hx).here ?_
 refine codeAny_handlers_suite_as ?_
 refine y4.off fun h5 y5=> ?_
 have I5:=ev y5
 obtain ⟨hd5,x5⟩:=y5.exc
 have na:a≠X.env.locals/\ ∀ x c,X.env.cells.lookup x=some c->c≠a:=by
  obtain ⟨f1,f2,f3⟩:=y.fresh
  refine ⟨fun q=> ?_,fun x c e q=> ?_⟩
  ·obtain ⟨m,⟨oL,_,_,hoL,_⟩,_⟩:=I.loc
   rw [<- q,f1] at hoL
   cases hoL
  ·obtain ⟨v,oc,hoc,_⟩:=I.cell x c e
   rw [q,f1] at hoc
   cases hoc
 refine zhd I5 hN hj (.inl hen) (v:= .ref a) rfl (fun s6 I6 ⟨b,sb,hb⟩=> ?_) (.inr hen)
 refine qaZ (k s6 I6 ⟨hd5,x5.keep fun ob e=>(sb.2 a fun q=> ?_).trans e⟩) (fun _ _ q=>q) fun _ _ q=>q.elim
 rcases hb with hb | hb
 ·exact na.1 (q.trans hb)
 ·exact na.2 en b hb q.symm
end
noncomputable abbrev zkr:List Value:=[.type "ValueError",.type "Exception",.type "BaseException",.type "object"]
theorem zoK {K:W.Frag} {h:Heap} {mg:Str->Option Value} {x:Str} {C:Addr} {bm:List Value} {nid:String} (X:K.In h) (hm:mg x=some (.ref C)) (q:W.excIn K C bm nid=true):OwnCls x C bm nid mg h:=by
 refine ⟨hm,?_⟩
 unfold W.excIn at q
 split at q
 ·rename_i dd cdt sl lk
  split at q
  ·rename_i C2 tl y0 y1 y2 y3 nn y5 hmro hsl
   simp only [qaG,beq_iff_eq,Bool.not_eq_true'] at q
   obtain ⟨⟨⟨⟨⟨rfl,rfl⟩,q3⟩,q4⟩,q5⟩,q6⟩:=q
   obtain ⟨z1,z2,z3,z4,z5,z6,z7,z8,z9,z10,z11⟩:=cdt
   dsimp only at hmro q3 q5 q6
   subst hmro q3
   obtain rfl:sl= #[y0,y1,y2,y3,some (.builtin nn),y5]:=by
    obtain ⟨ll⟩:=sl
    dsimp only at hsl
    rw [hsl]
   exact ⟨tl,z4,z1,z5,z2,z6,z7,z8,z9,z10,dd,y0,y1,y2,y3,y5,_,X _ _ lk,.of_isNs (W.isNs_of_in X q5),W.nsMap_none_of_in X q5 q6,W.tail_of_in X q4⟩
  ·cases q
 ·cases q
noncomputable def Cx.re (X:Cx) (pn:List (Addr×Obj)) (xe:Value->Shared->Prop):Cx:={X with pn:=pn,xe:=xe}
section
variable {X:Cx} {pins pins':List (Addr×Obj)} {σ:St} {H H':Hp} {s s':Shared} {xe:Value->Shared->Prop}
theorem Inv.re (I:Inv X pins σ H s) (xe:Value->Shared->Prop):Inv (X.re (X.pn++pins) xe) [] σ H s:=
 ⟨⟨I.ok.mod,I.ok.kind,I.ok.glob,I.ok.blt,I.ok.above,I.ok.inj,I.ok.has,I.ok.cab,I.ok.hd,I.ok.hx,I.ok.frames,I.ok.stk,I.ok.exf,I.ok.bs,I.ok.bsz,I.ok.noex,I.ok.exfs,I.ok.funs,I.ok.frf⟩,I.os,I.bare,I.base,I.loc,I.cell,I.free,I.freeC,fun p hp=>I.pin p (by simpa [Cx.re] using hp),I.hok,I.len⟩
theorem Inv.unre (I:Inv (X.re (X.pn++pins) xe) pins' σ H s):Inv X pins σ H s:=
 ⟨⟨I.ok.mod,I.ok.kind,I.ok.glob,I.ok.blt,I.ok.above,I.ok.inj,I.ok.has,I.ok.cab,I.ok.hd,I.ok.hx,I.ok.frames,I.ok.stk,I.ok.exf,I.ok.bs,I.ok.bsz,I.ok.noex,I.ok.exfs,I.ok.funs,I.ok.frf⟩,I.os,I.bare,I.base,I.loc,I.cell,I.free,I.freeC,fun p hp=>I.pin p (List.mem_append_left _ hp),I.hok,I.len⟩
theorem SP.unre {D:zmU} {f:Flow} (h:SP (X.re (X.pn++pins) xe) pins' D f s'):SP X pins D f s':=by
 cases f with
 | next=>obtain ⟨σ',H',I,q⟩:=h;exact ⟨σ',H',I.unre,q⟩
 | brk=>obtain ⟨σ',H',I,q⟩:=h;exact ⟨σ',H',I.unre,q⟩
 | cont=>obtain ⟨σ',H',I,q⟩:=h;exact ⟨σ',H',I.unre,q⟩
 | ret u=>obtain ⟨v,σ',H',I,r,q⟩:=h;exact ⟨v,σ',H',I.unre,r,q⟩
end
end L2
namespace L3
open PySem PySem.Spec PyProof.Rows L2
section
variable {X:Cx} {pins:List (Addr×Obj)} {σ:L2.St} {H:Hp} {s:Shared} {a C:Addr} {o:Obj} {vs:Array Value} {head:Value} {c:String} {gk en pe:Str} {p1 p2 p3:Pos} {j k:Nat} {fk:Addr} {fdk:FuncData} {Fk:List D->M D} {Qv:VK} {ι:Io} {h:Hh}
theorem zkz (I:Inv X pins σ H s) (hH:H a=none) (ho:s.heap.get? a=some o) (ob:o.cls= .ref C/\o.dict=none/\o.data= .fields vs/\vs[2]? = some .none/\vs[1]? = some head)
  (h0:X.s₀.heap.get? a=none) (hL:a≠X.env.locals) (hcl: ∀ x c,X.env.cells.lookup x=some c->c≠a) (hp: ∀ p∈X.pn++pins,p.1≠a) (hj:X.N[j]? = some en) (hσ:σ[j]? = some (some (.ref a))) (hen:X.env.scope.names.lookup en=some .local)
  (FH:FnH X.prog X.w X.K X.mg X.base k fk fdk [pe] (zbP X.K 1 Fk)) (hb:zaO X.K fdk [pe] []) (hg:Gl X gk) (hm:X.mg gk=some (.ref fk)) (kp:W.keepIn X.K (.ref fk)=true) (hr:zdQ k X.A) (hc:zb6 X.K c C) (hh:zbe X.K ι H h)
  (q:Fin X.K E0x ι (upd H a (.frz o (.own 0))) (Fk [.exn c] h) fun d ι' H'=> ∀ v,Rel X.K ι' H' d v->Qv v H') (hd:(gk==("__debug__":Str))=false:=by decide) (hd2:(en==("__debug__":Str))=false:=by decide):
  wpAny (model X.prog X.w) (X.A.mark (some (.ref a))) (eval (.Call (.Name gk p1) [.Name en p2] [] p3) X.env) (fun u s8=> ∃ v H8,Inv X pins σ H8 s8/\zb2 v u/\Qv v H8) (fun _ _=>False) s:=by
 have It:=I.track hH ho h0 hL hcl hp
 have E0':=It.env0
 refine wpAny_Call_Name_kw (Calls.Name_function_global I.ok.kind hg (Calls.loadGlobal_global (by rw [I.ok.glob];exact I.mod.glob.keeps I.bk) hm ?_) hd)
 refine W.callWith_K (h₀:=X.base) I.ok.mod.kin kp ?_
 refine Calls.spliced_cons ?_
 obtain ⟨m,hn,hl⟩:=It.loc
 obtain ⟨u,r,l⟩:=hl j en (.ref a) hj hσ (.inl hen)
 obtain rfl:u=Value.ref a:=r
 have hme:m en=some (.ref a):=by
  rcases l with ⟨_,e⟩ | ⟨e,_⟩
  ·exact e
  ·exfalso
   have e':X.env.scope.names.lookup en=some .cell\/X.env.scope.names.lookup en=some .free:=e
   rw [hen] at e'
   rcases e' with e' | e'<;>cases e'
 refine wpAny_Name (wpAny_loadName_local I.ok.kind hen hn hme ?_) hd2
 refine Calls.spliced_nil ⟨It.kIn,?_⟩
 have e0:zpq X.prog X.w X.K X.mg X.base (X.A.mark (some (.ref a))) X.stack s (upd H a (.frz o (.own 0))):=
  ⟨It.ok.frames,E0'.mod,E0'.bs,E0'.bsz,E0'.funs,E0'.frf,E0'.hok,E0'.bare,.inr ⟨a,o,.ref C,head,vs,rfl,za2,ob⟩⟩
 have sp:zbP X.K 1 Fk [.ref a] (upd H a (.frz o (.own 0))) Qv E0:=
  ⟨rfl,ι,h,[.exn c],zax.cons (by simp only [Rel];exact ⟨a,o,C,head,vs,rfl,⟨za2,hh.nin hH⟩,hc,ob⟩) zax.nil,hh.laid hH,q⟩
 refine wpAny_call (codeAny_mono (FH.run (X.A.mark (some (.ref a))) X.stack s _ ⟨[.ref a],[]⟩ [.ref a] [.ref a] Qv ⟨hr.dp,hr.un⟩ e0 (hb s [.ref a] It.kIn rfl) (.cons rfl .nil) sp) fun r s' hq=> ?_)
 cases r with
 | error e=>exact qa0 hq
 | ok fl=>
  cases fl with
  | ret u=>exact It.after hq
  | next=>exact qa0 hq
  | brk=>exact qa0 hq
  | cont=>exact qa0 hq
end
noncomputable def zh0 (known:List String) (gb:FS) (Fk:List D->M D):FS:=fun sd h=>match gb sd h with
 | .exc c h1=>if known.contains c=true then (do let d<-noX (Fk [.exn c]);pure (.rt d):M Out) h1 else .bad
 | r=>r
section
variable {X:Cx} {E:XE} {body:List Stmt} {ce en gk pe x:Str} {pce p1 p2 p3 p4 p5 hp pos:Pos} {CE fk:Addr} {fdk:FuncData} {Fk:List D->M D} {gb:FS} {j k i:Nat} {known:List String}
theorem zl3 {st:Stmt} {fin:Sd->D->M Out} {gt:FS} (hgt: ∀ sd h,gt sd h=match gb sd h with
      | .exc c h1=>if known.contains c=true then (do let d<-noX (Fk [.exn c]);fin sd d:M Out) h1 else .bad
      | r=>r)
  (z:zfJ X) (hN:X.N.Nodup) (hj:X.N[j]? = some en) (hen:X.env.scope.names.lookup en=some .local) (hg:Gl X ce) (hm:X.mg ce=some (.ref CE))
  (hkn: ∀ c∈known, ∀ C,zb6 X.K c C->W.exmOne X.K (.ref C) (.ref CE)=some true) (hd:(ce==("__debug__":Str))=false)
  (hb: ∀ pn xe E',zez (CXE X.prog X.w) (X.re pn xe) (zrR X.K E')->SSs (X.re pn xe) E' body gb)
  (hst: ∀ (X':Cx) (pins:List (Addr×Obj)) (σ:L2.St) (H:Hp) (s:Shared) (a:Addr) (D0:zmU) (sd:Sd) (Q:Flow->Shared->Prop) (Ef:Value->Shared->Prop) (pn:List (Addr×Obj)) (xe:Value->Shared->Prop),X'=X.re pn xe->Inv X' pins (σ.set j (some (.ref a))) H s->sd.length=X.N.length->
    (∀ Qv:VK,(∀ d ι' H' h',zbe X.K ι' H' h'->Fin X.K E ι' H' (fin sd d h') (zgC X.K D0)-> ∀ v,Rel X.K ι' H' d v->Qv v H')->
      wpAny (model X.prog X.w) (X.A.mark (some (.ref a))) (eval (.Call (.Name gk p1) [.Name en p2] [] p3) X.env) (fun u s8=> ∃ v H8,Inv X' pins (σ.set j (some (.ref a))) H8 s8/\zb2 v u/\Qv v H8) (fun _ _=>False) s)->
    (∀ f s9,SP X' pins D0 f s9->Q f s9)->
    wpAny (model X.prog X.w) (X.A.mark (some (.ref a))) (execs [st] X.env) (fun f s4=>wpAny (model X.prog X.w) X.A (do bindName X.env en .none;unbindBehindTheSuite X.env en hp) (fun _ s5=>Q f s5) Ef s4) (fun _ _=>False) s)
  (FH:FnH X.prog X.w X.K X.mg X.base k fk fdk [pe] (zbP X.K 1 Fk)) (hbk:zaO X.K fdk [pe] []) (hgk:Gl X gk) (hmk:X.mg gk=some (.ref fk)) (kp:W.keepIn X.K (.ref fk)=true) (hr:zdQ k X.A) (hd2:(gk==("__debug__":Str))=false) (hd3:(en==("__debug__":Str))=false):
  SS X E (.Try body [.ExceptHandler (some (.Name ce pce)) (some en) [st] hp] [] [] pos) gt:=by
 intro pins s σ H D0 I ⟨ι,h,sd,L,hh,q⟩
 refine wpAny_Try_except ?_
 rw [hgt] at q
 let xe':Value->Shared->Prop:=fun e s₁=>wpAny (model X.prog X.w) X.A (noteFrame e X.env) (fun _ s₂=>wpAny (model X.prog X.w) X.A (setFlight e none) (fun _ s₃=>wpAny (model X.prog X.w) X.A (handleBy e X.env [.ExceptHandler (some (.Name ce pce)) (some en) [st] hp]) (SP X pins D0) X.xe s₃) X.xe s₂) X.xe s₁
 cases hres:gb sd h with
 | bad=>rw [hres] at q;exact qa0 q
 | ok o1 h1=>
  rw [hres] at q
  have run:=hb (X.pn++pins) xe'
   E0x (fun pins' σ' H1 s1 e s2 I1 hx=>by obtain ⟨a,C,H2,_,_,c,C',_,_,w⟩:=hx;exact w.elim) [] s σ H D0 (I.re _) ⟨ι,h,sd,L,hh,by rw [hres];exact q⟩
  refine qaZ run (fun f s1 hs=> ?_) fun _ _ w=>w
  have hs':=hs.unre
  cases f with
  | next=>exact wpAny_execs_nil hs'
  | ret u=>exact hs'
  | brk=>exact hs'
  | cont=>exact hs'
 | exc c h1=>
  rw [hres] at q
  by_cases hk:known.contains c=true
  ·simp only [hk,if_true] at q
   have run:=hb (X.pn++pins) xe'
    (fun c' H'=>c'=c/\ ∃ ι',zbQ ι H ι' H'/\zbe X.K ι' H' h1) (fun pins' σ' H1 s1 e s2 I1 hx=>by
      obtain ⟨a,C,H2,rfl,y,c',C',e1,hc,rfl,ι',st1,hr1⟩:=hx
      cases e1
      have z':zfJ (X.re (X.pn++pins) xe'):=⟨z.stk,z.frm,z.ex⟩
      obtain ⟨f1,f2,f3⟩:=y.fresh
      refine Fl.caught (X:=X.re (X.pn++pins) xe') (b₀:=st) (suite:=[]) (pce:=pce) (pos:=hp) (Q:=SP X pins D0) (E:=X.xe) z' I1 y hN hj hen hg hm (hkn c' (by simpa using hk) C hc) (fun s6 I6 ⟨head,x6⟩=> ?_) hd
      obtain ⟨o,vs,ho,ob⟩:=x6
      have hnil: ∀ b,b∉X.ex:=fun b h=>by rw [z.ex] at h;cases h
      refine hst _ pins' σ' H2 s6 a D0 sd (SP X pins D0) X.xe _ _ rfl I6 (L.1.trans I.len) (fun Qv hQ=> ?_) fun f s9 w=>w.unre
      have hσ:(σ'.set j (some (V.ref a)))[j]? = some (some (.ref a)):=qai (by rw [I1.len];exact (qac.mp hj).1)
      refine zkz (X:=X.re _ _) I6 f2 ho ob ?_ (fun w=> ?_) (fun x c e w=> ?_) (fun p hp w=> ?_) hj hσ hen FH hbk hgk hmk kp hr hc hr1 ?_ hd2 hd3
      · cases w:X.s₀.heap.get? a with
        | none=>exact w
        | some ob=>
          obtain ⟨o',e'⟩:=I1.base.there a ob w (hnil a)
          rw [f1] at e'
          cases e'
      · obtain ⟨m,⟨oL,_,_,hoL,_⟩,_⟩:=I1.loc
        have hoL:s1.heap.get? X.env.locals=some oL:=hoL
        rw [<- show a=X.env.locals from w,f1] at hoL
        cases hoL
      · obtain ⟨v,oc,hoc,_⟩:=I1.cell x c e
        rw [w,f1] at hoc
        cases hoc
      · have e:=(I1.pin p hp).1
        rw [w,f1] at e
        cases e
      · have q1:=Fin.step (st1.trans (hr1.laidS (o:= .frz o (.own 0)) f2)) q
        exact Fin.noX (Fin.bind q1 fun d h' ι8 H8 e8 s8 hr8 q8 v rv=>hQ d ι8 H8 h' hr8 q8 v rv))
    [] s σ H {nx:=fun _ _=>False,rt:=fun _ _=>False} (I.re _) ⟨ι,h,sd,L,hh,by rw [hres];exact fun ι' H' st1 hr1=>⟨rfl,ι',st1,hr1⟩⟩
   refine qaZ run (fun f s1 hs=> ?_) fun _ _ w=>w
   cases f with
   | next=>obtain ⟨_,_,_,w⟩:=hs;exact w.elim
   | brk=>obtain ⟨_,_,_,w⟩:=hs;exact w.elim
   | cont=>obtain ⟨_,_,_,w⟩:=hs;exact w.elim
   | ret u=>obtain ⟨_,_,_,_,_,w⟩:=hs;exact w.elim
  ·simp only [hk] at q
   exact qa0 q
theorem zqY (z:zfJ X) (hN:X.N.Nodup) (hj:X.N[j]? = some en) (hen:X.env.scope.names.lookup en=some .local) (hg:Gl X ce) (hm:X.mg ce=some (.ref CE))
  (hkn: ∀ c∈known, ∀ C,zb6 X.K c C->W.exmOne X.K (.ref C) (.ref CE)=some true)
  (hb: ∀ pn xe E',zez (CXE X.prog X.w) (X.re pn xe) (zrR X.K E')->SSs (X.re pn xe) E' body gb)
  (FH:FnH X.prog X.w X.K X.mg X.base k fk fdk [pe] (zbP X.K 1 Fk)) (hbk:zaO X.K fdk [pe] []) (hgk:Gl X gk) (hmk:X.mg gk=some (.ref fk)) (kp:W.keepIn X.K (.ref fk)=true) (hr:zdQ k X.A)
  (hd:(ce==("__debug__":Str))=false:=by decide) (hd2:(gk==("__debug__":Str))=false:=by decide) (hd3:(en==("__debug__":Str))=false:=by decide):
  SS X E (.Try body [.ExceptHandler (some (.Name ce pce)) (some en) [.Return (some (.Call (.Name gk p1) [.Name en p2] [] p3)) p4] hp] [] [] pos) (zh0 known gb Fk):=by
 refine zl3 (fin:=fun _ d=>pure (.rt d)) (p1:=p1) (p2:=p2) (p3:=p3) (fun sd h=>rfl) z hN hj hen hg hm hkn hd hb (fun X' pins σ H s a D0 sd Q Ef pn xe hX I6 hl ev hQ=> ?_) FH hbk hgk hmk kp hr hd2 hd3
 subst hX
 refine wpAny_execs_cons ?_
 refine wpAny_Return_some (qaZ (ev (fun v H'=>D0.rt v H') fun d ι' H' h' hr1 q v rv=>Fin.out hr1 q v rv) (fun u s8 hv=> ?_) fun _ _ w=>w)
 obtain ⟨v,H8,I8,rv,qv⟩:=hv
 exact zoR (X:=X.re pn xe) I8 hN hj hen fun s9 I9=>hQ _ s9 ⟨v,_,H8,I9,rv,qv⟩
noncomputable def ziy (c:String):FS:=fun _ h=> .exc c h
theorem zpe {c:String} {C:Addr} {nid:String} {msg:Str} {jj:Nat} {np cpos:Pos} (hc:X.calm=true) (hp:zo3 X E) (hX:W.excIn X.K C zkr "ValueError.__new__"=true) (hcl:zb6 X.K c C) (hg:Gl X (c:Str)) (hd:((c:Str)==("__debug__":Str))=false:=by decide):
  SS X E (.Raise (some (.Call (.Name (c:Str) np) [.Constant (.str msg) jj p2] [] cpos)) none pos) (ziy c):=by
 intro pins s σ H D0 I ⟨ι,h,sd,L,hh,q⟩
 have hE:E c H:=q ι H (zbQ.refl _ _) hh
 have hm:X.mg (c:Str)=some (.ref C):=W.mg_of I.ok.mod.kin I.ok.mod.glob hcl
 obtain ⟨tl,N,nm,qq,bs,hdct,sn,sub,ab,col,dd,k0,k1,k2,k3,k5,mN,hC,hNs,hni,T⟩:=(zoK (x:=(c:Str)) I.ok.mod.kin hm hX).obj
 refine wpAny_Raise_call_subT (C:=C) (nm:=nm) (q:=qq) (N:=N) (bs:=bs) (bm:=tl) (hdct:=hdct) (sn:=sn) (sub:=sub) (ab:=ab) (col:=col) (dd:=dd) (k0:=k0) (k1:=k1) (k2:=k2) (k3:=k3) (k5:=k5)
  PySem.F.excBase_ValueError (mN:=mN) (T.hasType PySem.F.excBase_ValueError.hasBase) (I.ok.hd hc) rfl hni (zhy I hg hm ⟨rfl,?_⟩ hd)
 refine Calls.evalArgs_plain (x:=eval (.Constant (.str msg) jj p2) X.env) (rest:=[]) ?_
 refine Calls.spliced_cons (thn (zmO pins s σ H (fun v H1=>H1=H) I rfl) fun u s1 hu=> ?_)
 obtain ⟨v,H1,I1,rv,rfl⟩:=hu
 refine Calls.spliced_nil ⟨rfl,by show 1<=sizeLine;decide,I1.bk _ _ hC,hNs.keeps I1.bk,T.keeps I1.bk,fun h' e m=> ?_⟩
 exact hp pins σ H1 s1 h' e C c _ I1 hcl m hE
end
end L3
namespace L3
open PySem PySem.W
theorem zgE {K:Frag} {C:Addr} {name:Str} {a g:Value} (hc:(clsIn K C).isSome=true) (ha:findIn K (.ref C) name=some (some a)) (hg:specialIn K a "__get__"=some (some g)) (ht:takesIn K a=some true):findObj K C none name=some (.bind g a):=by
 obtain ⟨cd,hc⟩:=Option.isSome_iff_exists.mp hc
 unfold findObj
 rw [hc,Option.bind_some,ha,Option.bind_some]
 simp [hg,ht]
section
variable {prog:Program} {w:World} {A:Around} {E:Value->Shared->Prop} {s:Shared} {K:Frag} {x D:Addr} {ox:Obj}
theorem zjP {Q:Option Value->Shared->Prop} (X:K.In s.heap) (I:InstAt s.heap x ox D none) (hc:(clsIn K D).isSome=true) (hga:findIn K (.ref D) "__getattribute__"=some (some (.builtin "BaseException.__getattribute__"))) (hk:findIn K (.ref D) "__getattr__"=some none)
  (ha:findIn K (.ref D) "__class__"=some (some (.builtin "object.__class__"))) (hn:specialIn K (.builtin "object.__class__") "__get__"=some (some (.builtin "getset_descriptor.__get__"))) (htk:takesIn K (.builtin "object.__class__")=some true)
  (hm:mroIn K D (.type "object")=some true) (hmB:mroIn K D (.type "BaseException")=some true) (h:Q (some (.ref D)) {s with toks:=s.toks+1}):wpAny (model prog w) A (getAttr? (.ref x) "__class__") Q E s:=by
 obtain ⟨hh,g,d,t,os⟩:=s
 have L0:=I.type (M:=model prog w)
 have L1:=looks_findIn (M:=model prog w) X hga
 have L2:=looks_findIn (M:=model prog w) X hk
 have L3:=looks_find (M:=model prog w) X I (zgE hc ha hn htk)
 have LB:Looks (model prog w) hh (isInstance (.ref x) (.type "BaseException")) true:=L0.andThen (looks_mroIn X hmB)
 have f3:=PySem.F.attr_ValueError.ga.bind (.ref x)
 have hx2:(Value.builtin "BaseException.__getattribute__"==Value.builtin "object.__getattribute__")=false:=by decide +kernel
 unfold getAttr? getAttrBy? getAttrBy
 refine qaW (wpAny_mkText (qaW (wpAny_attempt (qaO (qaW (L0.at (qaW (L1.at ?_))))))))
 dsimp only
 rw [hx2,Bool.and_false,qa5 Bool.false_ne_true]
 unfold getAttrByItsOwn hookBefore
 rw [qa4 (show onTheHeap (Value.ref D)=true from rfl)]
 refine qaW (L2.at ?_)
 refine qaW (wpAny_attempt (qaO ?_))
 unfold callGetattribute
 rw [qa5 (by simp)]
 unfold boundAndCalled
 rw [f3]
 refine qaW (qaX ?_)
 refine wpAny_call (codeAny_call_builtin PySem.F.attr_ValueError.ga.plain PySem.F.entry_bexc_ga ?_)
 have kd:builtinKind "BaseException.__getattribute__"=some .slot:=by decide +kernel
 have sp:splitId "BaseException.__getattribute__"=some ("BaseException","__getattribute__"):=by decide +kernel
 have ag:=PySem.F.args_bexc_ga (.ref x) (.str "__class__" t)
 simp only [checkBuiltinCall,kd,sp]
 refine qaW (LB.at ?_)
 rw [qa5 (by decide)]
 refine wpAny_of_eq (a:=()) ag ?_
 unfold Builtin.«object.__getattribute__»
 refine qaW (qaX ?_)
 refine qaW (qaX ?_)
 refine qaW (L0.at ?_)
 refine qaW (L3.at ?_)
 dsimp only
 unfold Builtin.ObjectAttr.bindTo
 dsimp only
 refine qaW (qaO (wpAny_call (class_get (s:=⟨hh,g,d,t+1,os⟩) X I hm ?_)))
 refine qaX ?_
 dsimp only
 refine wpAny_of_eq (a:=Value.ref D) rfl ?_
 exact qaX h
end
end L3
namespace L3
open PySem PySem.Spec PyProof.Rows L2
noncomputable def kxb (K:W.Frag) (C:Addr):Bool:=(W.clsIn K C).isSome && W.findIn K (.ref C) "__getattribute__"==some (some (.builtin "BaseException.__getattribute__")) && W.findIn K (.ref C) "__getattr__"==some none && W.findIn K (.ref C) "__class__"==some (some (.builtin "object.__class__"))
 && W.specialIn K (.builtin "object.__class__") "__get__"==some (some (.builtin "getset_descriptor.__get__")) && W.takesIn K (.builtin "object.__class__")==some true && W.mroIn K C (.type "object")==some true && W.mroIn K C (.type "BaseException")==some true
theorem zmA {K:W.Frag} {x C:Addr} {ox:Obj} (h:kxb K C=true):W.KitX K (.ref x) (.ref C) (fun h=>W.InstAt h x ox C none):=by
 unfold kxb at h
 simp only [qaG,beq_iff_eq] at h
 obtain ⟨⟨⟨⟨⟨⟨⟨h1,h2⟩,h3⟩,h4⟩,h5⟩,h6⟩,h7⟩,h8⟩:=h
 refine ⟨fun _ _ _ I=>I.type,fun M hp X _=> ?_,fun hp tp dd its n sl X htp=> ?_,fun X I k=>zjP X I h1 h2 h3 h4 h5 h6 h7 h8 k⟩
 ·obtain ⟨cd,hc⟩:=Option.isSome_iff_exists.mp h1
  unfold W.clsIn at hc
  split at hc
  ·rename_i lk
   intro A' Q' E' s' k q
   unfold isType loadHead
   exact qaW (wpAny_loadPart (k _ _ (X _ _ lk)) (qaX q))
  ·cases hc
 ·refine Bool.eq_false_iff.mpr fun q=> ?_
  have e:C=tp:=Value.ref.inj (beq_iff_eq.mp q)
  subst e
  obtain ⟨cd,hc⟩:=Option.isSome_iff_exists.mp h1
  unfold W.clsIn at hc
  split at hc
  ·rename_i lk
   have z:=(X _ _ lk).symm.trans htp
   cases z
  ·cases hc
structure ztd (K:W.Frag) (CE:Addr) (names:List String) (c:String) (C:Addr):Prop where
 exc:W.excIn K C zkr "ValueError.__new__"=true
 cov:W.exmOne K (.ref C) (.ref CE)=some true
 kx:kxb K C=true
 ve:W.kitOne K (.ref C) (.type "ValueError")=some true
 one: ∀ c'∈names, ∀ C',zb6 K c' C'->W.kitOne K (.ref C) (.ref C')=some (c==c')
def zlB (K:W.Frag) (CE:Addr) (names:List String):Prop:= ∀ c∈names, ∀ C,zb6 K c C->ztd K CE names c C
noncomputable def zlf (K:W.Frag) (CE:Addr) (tab:List (String×Addr)):Bool:=tab.all fun p=>W.nsIn K mainGlobals (p.1:Str)==some (some (.ref p.2)) && W.excIn K p.2 zkr "ValueError.__new__" && W.exmOne K (.ref p.2) (.ref CE)==some true && kxb K p.2 && W.kitOne K (.ref p.2) (.type "ValueError")==some true
 && tab.all fun r=>W.kitOne K (.ref p.2) (.ref r.2)==some (p.1==r.1)
theorem zlB.of {K:W.Frag} {CE:Addr} {tab:List (String×Addr)} (h:zlf K CE tab=true):zlB K CE (tab.map (·.1)):=by
 unfold zlf at h
 rw [List.all_eq_true] at h
 have key: ∀ c∈tab.map (·.1), ∀ C,zb6 K c C->(c,C)∈tab:=fun c hc C hC=>by
  obtain ⟨p,hp,rfl⟩:=qaU.mp hc
  have h1:=h p hp
  simp only [qaG,beq_iff_eq] at h1
  have e:=h1.1.1.1.1.1
  unfold zb6 at hC
  rw [hC] at e
  cases e
  exact hp
 intro c hc C hC
 have h1:=h _ (key c hc C hC)
 simp only [qaG,beq_iff_eq,List.all_eq_true] at h1
 obtain ⟨⟨⟨⟨⟨a1,a2⟩,a3⟩,a4⟩,a5⟩,a6⟩:=h1
 exact ⟨a2,a3,a4,a5,fun c' hc' C' hC'=>a6 _ (key c' hc' C' hC')⟩
theorem zlB.known {K:W.Frag} {CE:Addr} {names:List String} (h:zlB K CE names): ∀ c∈names, ∀ C,zb6 K c C->W.exmOne K (.ref C) (.ref CE)=some true:=fun c hc C hC=>(h c hc C hC).cov
noncomputable def zjr (names:List String) (T:String):D->M D
 | .exn c=>if names.contains c && names.contains T then pure (.bl (c==T)) else M.bad
 | _=>M.bad
noncomputable def zpt (names:List String):D->M D
 | .exn c=>if names.contains c then pure (.bl true) else M.bad
 | _=>M.bad
section
variable {X:Cx} {E:XE}
theorem zin:zaZ X (.builtin "isinstance") (fun xs H Q=> ∃ a o C vs x u b,xs=[.ref a,x]/\H a=some (.frz o (.own 0))/\(o.cls= .ref C/\o.dict=none/\o.data= .fields vs)/\kxb X.K C=true/\zb2 x u/\(∀ u',zb2 x u'->u'=u)/\W.kitOne X.K (.ref C) u=some b/\Q (.bl b) H):=by
 intro pins s σ H xs us Q I r h
 obtain ⟨a,o,C,vs,x,u,b,rfl,hH,⟨o1,o2,o3⟩,hk,hu,hu2,e,q⟩:=h
 cases r with
 | cons r1 r2=>
  cases r2 with
  | cons r3 r4=>
   cases r4
   cases r1
   have:=hu2 _ r3
   subst this
   have ho:=(I.hok a _ hH).1
   refine W.kia_one (zmA (x:=a) (ox:=o) hk) I.kIn ⟨ho,o1,by unfold W.notCls;rw [o3],by rw [o2];trivial⟩ e (fun z=>nomatch z) fun tk=>⟨.bl b,H,I.tok tk,rfl,q⟩
variable {a:Expr} {p1 p2 pos:Pos} {fa:FE} {CE CC:Addr} {names:List String}
theorem zeY {c':String} (hx:zlB X.K CE names) (hc':names.contains c'=true) (hcl:zb6 X.K c' CC) (hm:X.mg "isinstance"=none) (hmC:X.mg (c':Str)=some (.ref CC)) (ha:SE X E a fa) (hg:Gl X "isinstance":=by rfl) (hgC:Gl X (c':Str):=by rfl)
  (hd:((c':Str)==("__debug__":Str))=false:=by decide)
  (h1:starEach [a,.Name (c':Str) p2] X.env=(false,eval a X.env)::starEach [.Name (c':Str) p2] X.env:=by rfl) (h2:starEach [.Name (c':Str) p2] X.env=[(false,eval (.Name (c':Str) p2) X.env)]:=by rfl)
  (hpl:(backTo pos (starEach [.Name (c':Str) p2] X.env)).any (·.1)=false:=by rfl):
  SE X E (.Call (.Name "isinstance" p1) [a,.Name (c':Str) p2] [] pos) (cUn (zjr names c') fa):=by
 refine PE.imp (zdV zin hg hm PyProof.Rows.boot_isinstance (zcj ha (zcj (zoQ (v:= .ref CC) hgC hmC rfl hd) zeG h2) h1) (he:=h1) (hpl:=hpl)) fun σ H Q ⟨ι,h,sd,L,hh,q⟩=>⟨ι,h,sd,L,hh,Fin.bind q fun d h1 ι1 H1 e1 s1 hr1 q1 v rv=> ?_⟩
 cases d with
 | exn c=>
  obtain ⟨hg1,q2⟩:=Fin.guard (show Fin X.K E ι1 H1 ((if (names.contains c && names.contains c')=true then (pure (.bl (c==c')):M D) else M.bad) h1) _ from q1)
  rw [qaG] at hg1
  simp only [Rel] at rv
  obtain ⟨b,o,C,head,vs,rfl,⟨r1,_⟩,r2,r3,r4,r5,_⟩:=rv
  have ok:=hx c (by simpa using hg1.1) C r2
  exact ⟨b,o,C,vs,.ref CC,.ref CC,c==c',rfl,r1,⟨r3,r4,r5⟩,ok.kx,rfl,fun u' z=>z,ok.one c' (by simpa using hc') CC hcl,Fin.out hr1 q2 _ (by simp [Rel])⟩
 | _=>exact qa0 q1
theorem zrM (hx:zlB X.K CE names) (hm:X.mg "isinstance"=none) (hmT:X.mg "ValueError"=none) (ha:SE X E a fa) (hg:Gl X "isinstance":=by rfl) (hgT:Gl X "ValueError":=by rfl)
  (h1:starEach [a,.Name "ValueError" p2] X.env=(false,eval a X.env)::starEach [.Name "ValueError" p2] X.env:=by rfl) (h2:starEach [.Name "ValueError" p2] X.env=[(false,eval (.Name "ValueError" p2) X.env)]:=by rfl)
  (hpl:(backTo pos (starEach [.Name "ValueError" p2] X.env)).any (·.1)=false:=by rfl):
  SE X E (.Call (.Name "isinstance" p1) [a,.Name "ValueError" p2] [] pos) (cUn (zpt names) fa):=by
 refine PE.imp (zdV zin hg hm PyProof.Rows.boot_isinstance (zcj ha (zcj (zjG (v:= .ty "ValueError") hgT hmT (by decide +kernel) rfl) zeG h2) h1) (he:=h1) (hpl:=hpl)) fun σ H Q ⟨ι,h,sd,L,hh,q⟩=>⟨ι,h,sd,L,hh,Fin.bind q fun d h1 ι1 H1 e1 s1 hr1 q1 v rv=> ?_⟩
 cases d with
 | exn c=>
  obtain ⟨hg1,q2⟩:=Fin.guard (show Fin X.K E ι1 H1 ((if names.contains c=true then (pure (.bl true):M D) else M.bad) h1) _ from q1)
  simp only [Rel] at rv
  obtain ⟨b,o,C,head,vs,rfl,⟨r1,_⟩,r2,r3,r4,r5,_⟩:=rv
  have ok:=hx c (by simpa using hg1) C r2
  exact ⟨b,o,C,vs,.ty "ValueError",.type "ValueError",true,rfl,r1,⟨r3,r4,r5⟩,ok.kx,rfl,fun u' z=>z,ok.ve,Fin.out hr1 q2 _ (by simp [Rel])⟩
 | _=>exact qa0 q1
end
end L3
namespace L3
open PySem
section
variable {prog:Program} {w:World} {A:Around} {E:Value->Shared->Prop} {s:Shared}
theorem zmK {l:Addr} {xs:Array (Int×Tok)} {Q:Value->Shared->Prop} (hh:zph A s.heap) (hl:s.heap.IsList l (intItems xs))
  (k: ∀ h' tk t',(∀ b o,s.heap.get? b=some o->h'.get? b=some o)->Q (.int (preSum (numAt xs) xs.size) t') {s with heap:=h',toks:=tk}):wpAny (model prog w) A (call (.builtin "sum") [.ref l]) Q E s:=by
 refine call_sum_walkG (iter_intList hl fun s₂ e st hfp hlI=> ?_)
 subst e
 rcases hh with hh | ⟨ha,cls,head,hh,hX⟩
 ·refine ⟨_,_,_,_,_,_,numAt xs,rfl,Walks.list (A:=A.in1) hh _ l hlI (intItems xs),st,hfp,(fun _ _=>intItems_at),fun h' tk t' hk=> ?_⟩
  simpa [intItems] using k h' tk t' (old_kept hk)
 ·obtain ⟨ob,vs,x1,x2⟩:=id hX
  have hX2:=hX.keep (h':=s.heap.push {cls:= .type "list_iterator",data:= .fields #[.ref l,.int 0 0]}) fun o e=>qag _ e
  refine ⟨_,_,_,_,_,_,numAt xs,rfl,zji (A:=A.in1) (ha:=ha) (cls:=cls) (head:=head) hh _ l hlI (qaR (qaQ x1)) (intItems xs),⟨st.1,st.2,hX2⟩,fun b hb=> ?_,(fun _ _=>intItems_at),fun h' tk t' hk=> ?_⟩
  ·simp only [qaP,qaF,or_false] at hb
   rcases hb with z | z | z
   ·exact hfp b (by simp [z])
   ·exact hfp b (by simp [z])
   ·rw [z]
    show ha<(s.heap.push _).objs.size
    rw [qaL]
    exact Nat.lt_succ_of_lt (qaQ x1)
  ·simpa [intItems] using k h' tk t' (old_kept hk)
end
end L3
namespace L2
open PySem PySem.Spec PyProof.Rows L3
section
variable {X:Cx}
theorem ziY:MtM X "list.extend" (fun x vs H Q=> ∃ l b xs zs,x= .ref l/\vs=[.ref b]/\H l=some (.lst xs)/\SqT X.K H b zs/\xs.length+zs.length<=sizeLine/\Q .non (upd H l (.lst (xs++zs)))):=by
 intro pins s σ H x vs v us Q I rx rv h
 obtain ⟨l,b,xs,zs,rfl,rfl,hH,hB,hz,q⟩:=h
 cases rx
 obtain ⟨u,rfl,ru⟩:=zd1 rv
 cases ru
 obtain ⟨z,its,n,r,hl,e⟩:=I.lstM hH
 obtain ⟨its2,r2,⟨ob,e2,c2,n2,d2⟩,z2⟩:=I.tuple hB
 have l2:=r2.length
 have hsz:its.toArray.size+its2.toArray.size<=sizeLine:=by rw [qaA,qaA];omega
 refine wpAny_call (codeAny_call_builtin F.slot_list_extend.plain F.entry_list_extend (F.slot_list_extend.check _ _ _ _ _ _ _ _ ⟨_,e,rfl⟩ (F.args_list_extend_2 _ _) ?_))
 unfold Builtin.«list.extend»
 refine qaW (qaX ?_)
 unfold Builtin.List.listExtendWith
 refine qaW (wpAny_typeOf ⟨ob,e2,c2⟩ ?_)
 have h1:(Builtin.List.listSameRef (.ref l) (.ref b) || Value.type "tuple"==Value.type "list" || Value.type "tuple"==Value.type "tuple")=true:=by simp
 simp only [h1,if_true]
 unfold Builtin.List.listItems
 refine qaW (qaW (wpAny_seqItems e2 d2 (qaX ?_)))
 refine qaW (qaW (wpAny_seqItems e rfl (qaX ?_)))
 rw [qa5 (by rw [zmj hsz,Bool.and_false];exact Bool.false_ne_true)]
 refine qaW (wpAny_updateSeq e rfl ?_ (by rw [qaA];omega))
 refine qaX ?_
 refine ⟨.non,_,I.lset (its':=its++its2) hH e (by simp) (r.append r2) ?_,rfl,q⟩
 rw [qav]
 omega
theorem zjN:zaZ X (.builtin "sum") (fun xs H Q=> ∃ (a:Addr) (ns:List Int),xs=[.ref a]/\SqL X.K H a (ns.map V.int)/\Q (.int ns.sum) H):=by
 intro pins s σ H xs us Q I r h
 obtain ⟨a,ns,rfl,hq,q⟩:=h
 obtain ⟨u,rfl,rx⟩:=zd1 r
 cases rx
 obtain ⟨its,r',pl,hz⟩:=I.list hq
 have hi:=zcc r'
 obtain ⟨ys,hy⟩:=hi.allInts.items
 have hl:s.heap.IsList a (intItems ys):=hy▸pl.isList
 refine zmK I.hand hl fun h' tk t' hk=> ?_
 have e1:ns=ys.toList.map (·.1):=by
  rw [<- nums_intItems, <-hy]
  exact (show numsOf its.toArray.toList=ns from hi.numsOf).symm
 have e2:preSum (numAt ys) ys.size=ns.sum:=by rw [preSum_eq,List.take_of_length_le (by simp),e1]
 rw [e2]
 exact ⟨.int ns.sum,H,I.grown (s':={s with heap:=h',toks:=tk}) rfl rfl hk,⟨t',rfl⟩,q⟩
theorem zfV: ∀ {bs:List Bool} {its:List Value},zbh (bs.map V.bl) its->its=bs.map Value.bool
 | [],_,h=>by cases h;rfl
 | b::bs,_,h=>by
  cases h with
  | cons r t=>cases r;rw [zfV t];rfl
theorem zkR:MtR X "list.index" (fun x vs H Q=> ∃ (l:Addr) (bs:List Bool) (j:Nat),x= .ref l/\vs=[.bl true]/\SqL X.K H l (bs.map V.bl)/\bs[j]? = some true/\(∀ m,m<j->bs[m]? = some false)/\Q (.int (j:Int)) H):=by
 intro pins s σ H x vs v us Q I rx rv h
 obtain ⟨l,bs,j,rfl,rfl,hq,hj,hno,q⟩:=h
 cases rx
 obtain ⟨u,rfl,ru⟩:=zd1 rv
 cases ru
 obtain ⟨its,r,pl,hz⟩:=I.list hq
 have eit:=zfV r
 subst eit
 obtain ⟨ob,e1,c1,n1,d1⟩:=pl.isList
 obtain ⟨cc,dd,dt,sl⟩:=ob
 dsimp only at c1 d1
 subst c1 d1
 have hlt:j<bs.length:=(qac.mp hj).1
 rw [qaH] at hz
 have sz:(j:Int)<2^63 - 1:=by
  have:sizeLine<2^40:=by decide
  omega
 refine call_meets F.slot_list_index ⟨_,e1,rfl⟩ F.entry_list_index (F.args_list_index_2 _ _)
  (PySem.SeqAt.list_indexAt l _ n1 dd sl (.bool true) (fun v=>match v with | .bool b=>b | _=>false) j (by simpa using hlt) sz ?_ ?_) ⟨e1,fun y hy=> ?_,⟨.int j,H,I.tok _,⟨_,rfl⟩,q⟩⟩
 ·have:=(qac.mp hj).2
  simp [this]
 ·intro m hm hmj
  have:=(qac.mp (hno m hmj)).2
  simp [this]
 ·obtain ⟨b,_,rfl⟩:=qaU.mp (List.mem_toArray.mp hy)
  have:=PySem.SeqAt.EqAt.bool_bool (A:=X.A.in1) (s:=s) b true
  simpa using this
end
end L2
namespace L3
open PySem PySem.Spec PyProof.Rows L2
noncomputable def zuh (f:FE):FE:=fun sd=>noX (f sd)
noncomputable def zud (f:FS):FS:=fun sd=>noX (f sd)
section
variable {X:Cx} {E:XE} {a e o:Expr} {es:List Expr} {pos p cpos apos:Pos} {f fo fe fa:FE} {fs:FA} {x:Str}
theorem znV {k:Nat} {g:Addr} {fd:FuncData} {ps:List Str} {n:Nat} {F:List D->M D} (G:zbN X.prog X.w X.K X.mg X.base (CXE X.prog X.w) k g fd ps (spE X.K n F)) (hx:zez (CXE X.prog X.w) X (zrR X.K E)) (hr:zej k X.A) (hm:X.mg x=some (.ref g)) (hk:W.keepIn X.K (.ref g)=true) (hb:zaO X.K fd ps [])
  (ha:SA X E (e::es) fs) (hg:Gl X x:=by rfl) (hdb:(x==("__debug__":Str))=false:=by decide) (he:starEach (e::es) X.env=(false,eval e X.env)::starEach es X.env:=by rfl) (hpl:(backTo pos (starEach es X.env)).any (·.1)=false:=by rfl):
  SE X E (.Call (.Name x p) (e::es) [] pos) (zau (zaj n F) fs):=zmI G hx hr hg hm hk hb ha hdb he hpl
theorem zj0 {k:Nat} {g:Addr} {fd:FuncData} {ps:List Str} {n:Nat} {F:List D->M D} (G:zbN X.prog X.w X.K X.mg X.base CX0 k g fd ps (zbP X.K n F)) (hr:zej k X.A) (hm:X.mg x=some (.ref g)) (hk:W.keepIn X.K (.ref g)=true) (hb:zaO X.K fd ps [])
  (ha:SA X E (e::es) fs) (hg:Gl X x:=by rfl) (hdb:(x==("__debug__":Str))=false:=by decide) (he:starEach (e::es) X.env=(false,eval e X.env)::starEach es X.env:=by rfl) (hpl:(backTo pos (starEach es X.env)).any (·.1)=false:=by rfl):
  SE X E (.Call (.Name x p) (e::es) [] pos) (zau (zaj n fun ds=>noX (F ds)) fs):=zmF G hr hg hm hk hb ha hdb he hpl
theorem znH {c:String} {C CE:Addr} {names:List String} {msg:Str} {jj:Nat} {np p2:Pos} (hc:X.calm=true) (hp:zo3 X E) (hX:zlB X.K CE names) (hn:names.contains c=true) (hcl:zb6 X.K c C) (hg:Gl X (c:Str):=by rfl) (hd:((c:Str)==("__debug__":Str))=false:=by decide):
  SS X E (.Raise (some (.Call (.Name (c:Str) np) [.Constant (.str msg) jj p2] [] cpos)) none pos) (ziy c):=zpe (nid:="") hc hp (hX c (by simpa using hn) C hcl).exc hcl hg hd
theorem zog {scope:Scope} {N:List Str} {src:List (Option Nat)} {tg iter elt:Expr} {ifs:List Expr} {fi:FA} {g:D->Sd->M Sd} {tc:FT} {te:FE} (B:BOk X scope N src) (hk:zaH g src) (hi:SI X E tg iter fi)
  (hg: ∀ s H fp,SG (cxB X scope N s H fp) E tg g) (ht: ∀ s H fp,SCs (cxB X scope N s H fp) E ifs tc) (he: ∀ s H fp,SE (cxB X scope N s H fp) E elt te)
  (hs: ∀ x,foldedSetIterable iter X.env x=pure x:=by intro _;rfl):SE X E (.ListComp elt [⟨tg,iter,ifs,0⟩] scope pos) (zaB fi g tc te src):=zj3 B hk hi hg ht he hs
noncomputable def zoB:List D->M D
 | [.int i]=>pure (.int i)
 | [.bl b]=>pure (.int (if b then 1 else 0))
 | _=>M.bad
theorem zi9:zaZ X (.type "int") (zhv X.K E zoB):=by
 refine zaZ.imp zkg fun xs H Q ⟨ι,h,ds,rl,hr,q⟩=> ?_
 unfold zoB at q
 split at q
 ·simp only [zax,Rel] at rl
  obtain ⟨v,r,rfl,rfl,rfl⟩:=rl
  exact .inl ⟨_,rfl,Fin.out hr q _ (by simp [Rel])⟩
 ·simp only [zax,Rel] at rl
  obtain ⟨v,r,rfl,rfl,rfl⟩:=rl
  exact .inr ⟨_,rfl,Fin.out hr q _ (by simp [Rel])⟩
 ·exact qa0 q
theorem zjc:zaZ X (.builtin "sum") (zhv X.K E zpk):=by
 refine zaZ.imp zjN fun xs H Q ⟨ι,h,ds,rl,hr,q⟩=> ?_
 obtain ⟨d,v,e,r,q⟩:=zcr rl q
 cases d with
 | lst ds=>
  obtain ⟨a,vs,e',h1,h2⟩:=zdk r
  obtain ⟨ns,en,q⟩:=Fin.ofOb q
  have:=zdt h2 en
  subst this
  exact ⟨a,ns,by rw [e,e'],h1,Fin.out hr q _ (by simp [Rel])⟩
 | _=>exact qa0 q
noncomputable def zqe:D->M D
 | .lst ds=>do
  let bs<-ofO (zlw ds)
  let j<-ofO (bs.findIdx? id)
  pure (.int j)
 | _=>M.bad
theorem zo0 {jj:Nat} {p2:Pos} (ho:SE X E o fo)
  (hbase:attributeBase o "index" X.env (eval o X.env)=eval o X.env:=by rfl)
  (hfew:((backTo cpos (starEach [.Constant (.bool true) jj p2] X.env)).all (fun x=> !x.1) && (backToKw cpos (keywordEach [] X.env)).all (fun x=>x.1.isSome)
    && decide (([.Constant (.bool true) jj p2]:List Expr).length+([]:List Keyword).length+(if ([]:List Keyword).isEmpty then 0 else 1)<30))=true:=by rfl)
  (hline:(apos.endLine==cpos.line)=true:=by rfl) (hs:starEach [.Constant (.bool true) jj p2] X.env=(false,eval (.Constant (.bool true) jj p2) X.env)::starEach [] X.env:=by rfl) (hplain:(backTo cpos (starEach [] X.env)).any (·.1)=false:=by rfl):
  SE X E (.Call (.Attribute o "index" apos) [.Constant (.bool true) jj p2] [] cpos) (cUn zqe fo):=by
 refine PE.imp (zps PySem.F.plainAttrs_list PySem.F.slot_list_index PySem.F.type_list_index zkR ho (zcj zrk zeG hs) hbase hfew hline hs hplain) fun σ H Q ⟨ι,h,sd,L,hh,q⟩=>⟨ι,h,sd,L,hh,Fin.bind q fun d h1 ι1 H1 e1 s1 hr1 q1 v rv=> ?_⟩
 cases d with
 | lst ds=>
  obtain ⟨a,vs,e',h1',h2⟩:=zdk rv
  obtain ⟨bs,en,q2⟩:=Fin.ofOb q1
  obtain ⟨j,ej,q3⟩:=Fin.ofOb q2
  have:=zeX h2 en
  subst this
  subst e'
  refine ⟨.inl ⟨rfl,_,h1'⟩,a,bs,j,rfl,rfl,h1',?_,fun m hm=> ?_,Fin.out hr1 q3 _ (by simp [Rel])⟩
  ·obtain ⟨h3,h4,_⟩:=List.findIdx?_eq_some_iff_getElem.mp ej
   rw [qaf h3]
   simpa using h4
  ·obtain ⟨h3,h4,h5⟩:=List.findIdx?_eq_some_iff_getElem.mp ej
   rw [qaf (by omega)]
   simpa using h5 m hm
 | _=>exact qa0 q1
noncomputable def zdO (x y:D):M D:=match x,y with
 | .cel n,.tup zs=>do
  let ds<-zaw n
  fits (ds.length+zs.length)
  zcg n (ds++zs)
  pure .non
 | _,_=>M.bad
noncomputable def zhL (fo fe:FE):FE:=fun sd=>do
 let x<-fo sd
 zia x
 let y<-fe sd
 zdO x y
theorem zl6 (ho:SE X E o fo) (he:SE X E e fe)
  (hbase:attributeBase o "extend" X.env (eval o X.env)=eval o X.env:=by rfl)
  (hfew:((backTo cpos (starEach [e] X.env)).all (fun x=> !x.1) && (backToKw cpos (keywordEach [] X.env)).all (fun x=>x.1.isSome)
    && decide (([e]:List Expr).length+([]:List Keyword).length+(if ([]:List Keyword).isEmpty then 0 else 1)<30))=true:=by rfl)
  (hline:(apos.endLine==cpos.line)=true:=by rfl) (hs:starEach [e] X.env=(false,eval e X.env)::starEach [] X.env:=by rfl) (hplain:(backTo cpos (starEach [] X.env)).any (·.1)=false:=by rfl):
  SE X E (.Call (.Attribute o "extend" apos) [e] [] cpos) (zhL fo fe):=by
 refine PE.imp (zps PySem.F.plainAttrs_list PySem.F.slot_list_extend PySem.F.type_list_extend ziY ho (zcj he zeG hs) hbase hfew hline hs hplain) fun σ H Q ⟨ι,h,sd,L,hh,q⟩=>⟨ι,h,sd,L,hh,Fin.bind q fun d h1 ι1 H1 e1 s1 hr1 q1 v rv=> ?_⟩
 cases d with
 | cel n=>
  have q2:Fin X.K E ι1 H1 ((zaw n>>=fun _=>fe sd>>=fun y=>zdO (.cel n) y) h1) (fun d ι' H'=> ∀ v,Rel X.K ι' H' d v->Q v H'):=by
   have ee:(zia (.cel n)>>=fun _=>fe sd>>=fun y=>zdO (.cel n) y:M D)=(zaw n>>=fun _=>fe sd>>=fun y=>zdO (.cel n) y):=by
    show ((zaw n>>=fun _=>pure ())>>=fun _=>fe sd>>=fun y=>zdO (.cel n) y)=_
    simp only [bind_assoc,pure_bind]
   rw [<- ee]
   exact q1
  obtain ⟨ds,e2,q3⟩:=zkh q2
  obtain ⟨a,vs,rfl,hn,hH,rl⟩:=hr1.read rv e2
  refine ⟨.inl ⟨rfl,vs,SqL.of hH⟩,ι1,h1,sd,L.step s1,hr1,Fin.bind q3 fun y h3 ι3 H3 e3 s3 hr3 q4 w rw'=> ?_⟩
  have rv3:=rv.step s3
  cases y with
  | tup zs=>
   have q5:Fin X.K E ι3 H3 ((zaw n>>=fun ds=>fits (ds.length+zs.length)>>=fun _=>zcg n (ds++zs)>>=fun _=>pure D.non) h3) (fun d ι' H'=> ∀ v,Rel X.K ι' H' d v->Q v H'):=q4
   obtain ⟨ds3,e4,q6⟩:=zkh q5
   obtain ⟨a3,vs3,ea,hn3,hH3,rl3⟩:=hr3.read rv3 e4
   cases ea
   obtain ⟨b,ws,eb,hb,rlb⟩:=zdd rw'
   obtain ⟨z,q7⟩:=Fin.fits q6
   refine ⟨a,b,vs3,ws,rfl,by rw [eb],hH3,hb,by rw [<- rl3.length, <-rlb.length];exact z,?_⟩
   have q8:Fin X.K E ι3 H3 (R.ok D.non (h3.set n (.lst (ds3++zs)))) (fun d ι' H'=> ∀ v,Rel X.K ι' H' d v->Q v H'):=q7
   exact q8 ι3 _ (hr3.cellS hn3) (hr3.cell hn3 (rl3.append rlb)) _ (by simp [Rel])
  | _=>exact qa0 q4
 | _=>exact qa0 q1
end
section
variable {P:Program} {w:World} {K:W.Frag} {mg:Str->Option Value} {base:Heap}
theorem zqm {x qual:Str} {st:Stmt} {f:Addr} {fd:FuncData} {N ps:List Str} {k:Nat} {G:Sd->M Out} (F:Fun K x qual st f fd) (S:zat N ps (zah st))
  (hb: ∀ (cdv:Value) (A:Around) (outer:List Env) (s:Shared) (H:Hp),zdQ k (A.deeper (envOfC qual (zah st) s.heap.objs.size f cdv))->SSs ({zhG CX0 P w K mg base N qual (zah st) f cdv A outer s H E0 with calm:=false}:Cx).nox E0x (zcH st) G):
  FnH P w K mg base (k+1) f fd ps (zbP K ps.length (zcN N.length G)):=by
 obtain ⟨oc,od,kV,doc,pm,an,cdv,ct,osl,rfl,lk,hcd⟩:=F.ex
 refine zpG lk hcd S (fun vs H Q E h=>h.1) fun A outer s H vs Q hr ⟨hl,ι,h,ds,rl,hh,q⟩=>⟨_,hb cdv A outer s H hr,ι,h,zf0 N.length ds,zeq rl,hh,?_⟩
 refine Fin.bind q fun o h1 ι1 H1 e1 s1 hr1 q1=> ?_
 cases o with
 | nx sd=>exact fun σ' _=>Fin.out hr1 q1 _ (by simp [Rel])
 | rt d=>exact fun v rv=>Fin.out hr1 q1 v rv
 | bk sd=>exact qa0 q1
 | ct sd=>exact qa0 q1
end
section
variable {X:Cx} {E:XE} {body:List Stmt} {ce en gk pe x:Str} {pce p1 p2 p3 p4 p5 hp pos:Pos} {CE fk:Addr} {fdk:FuncData} {Fk:List D->M D} {gb:FS} {k:Nat} {known:List String}
theorem zqg (j:Nat) (z:zfJ X) (hN:X.N.Nodup) (hm:X.mg ce=some (.ref CE)) (hkn:zlB X.K CE known)
  (FH:FnH X.prog X.w X.K X.mg X.base k fk fdk [pe] (zbP X.K 1 Fk)) (hbk:zaO X.K fdk [pe] []) (hmk:X.mg gk=some (.ref fk)) (kp:W.keepIn X.K (.ref fk)=true) (hr:zdQ k X.A)
  (hb: ∀ pn xe E',zez (CXE X.prog X.w) (X.re pn xe) (zrR X.K E')->SSs (X.re pn xe) E' body gb)
  (hj:X.N[j]? = some en:=by rfl) (hen:X.env.scope.names.lookup en=some .local:=by rfl) (hg:Gl X ce:=by rfl) (hgk:Gl X gk:=by rfl)
  (hd:(ce==("__debug__":Str))=false:=by decide) (hd2:(gk==("__debug__":Str))=false:=by decide) (hd3:(en==("__debug__":Str))=false:=by decide):
  SS X E (.Try body [.ExceptHandler (some (.Name ce pce)) (some en) [.Return (some (.Call (.Name gk p1) [.Name en p2] [] p3)) p4] hp] [] [] pos) (zh0 known gb Fk):=zqY z hN hj hen hg hm hkn.known hb FH hbk hgk hmk kp hr hd hd2 hd3
end
noncomputable def zpY (Fs:List (List D->M D)) (i:D):M (List D->M D):=match i with
 | .int j=>(match ixN Fs.length j with
   | some m=>ofO Fs[m]?
   | none=>M.bad)
 | _=>M.bad
noncomputable def zsj (n:Nat) (Fs:List (List D->M D)) (fi:FE) (fs:FA):FE:=fun sd=>do
 let i<-fi sd
 let F<-zpY Fs i
 let ds<-fs sd
 zaj n F ds
structure Fns (X:Cx) (n:Nat) (addrs:List Addr) (Fs:List (List D->M D)):Prop where
 len:Fs.length=addrs.length
 ok: ∀ (m:Nat) (F:List D->M D) (a:Addr),Fs[m]? = some F->addrs[m]? = some a-> ∃ k fd ps,zbN X.prog X.w X.K X.mg X.base (CXE X.prog X.w) k a fd ps (spE X.K n F)/\zej k X.A/\W.keepIn X.K (.ref a)=true/\zaO X.K fd ps []
section
variable {X:Cx} {E:XE} {e ix:Expr} {es fes:List Expr} {pos p q3 q4:Pos} {fi:FE} {fs:FA} {x:Str}
end
end L3
namespace L2
open PySem PySem.Spec PyProof.Rows
section
variable {X:Cx} {tg:Expr}
end
end L2
namespace L3
open PySem PySem.Spec PyProof.Rows L2
section
variable {X:Cx} {E:XE} {e o:Expr} {f fo fe:FE} {pos apos cpos:Pos}
noncomputable def zb7 (tc:FT) (gb:FS):Nat->FS
 | 0,_=>M.bad
 | n+1,sd=>do
  let b<-tc sd
  if b=true then
   let o<-gb sd
   match o with
   | .nx sd'=>zb7 tc gb n sd'
   | .ct sd'=>zb7 tc gb n sd'
   | .bk sd'=>pure (.nx sd')
   | .rt d=>pure (.rt d)
  else pure (.nx sd)
noncomputable def zhq (n:Nat) (tc:FT) (gb:FS):FS:=zb7 tc gb n
theorem zkB {c:Expr} {body:List Stmt} {tc:FT} {gb:FS} (n:Nat) (hp:PassesOwn (model X.prog X.w) X.A X.env X.xe) (hc:ST X E c tc) (hb:SSs X E body gb):SS X E (.While c body [] pos) (zhq n tc gb):=by
 refine PS.imp (zmM hp hc hb) fun D0 σ H ⟨ι,h,sd,L,hh,q⟩=> ?_
 refine ⟨fun m σ' H'=> ∃ ι' h' sd',zcP X.K ι' H' sd' σ'/\zbe X.K ι' H' h'/\Fin X.K E ι' H' (zb7 tc gb m sd' h') (zgC X.K D0),⟨n,ι,h,sd,L,hh,q⟩,?_⟩
 rintro m σ2 H2 ⟨ι2,h2,sd2,L2,hr2,q2⟩
 cases m with
 | zero=>exact qa0 q2
 | succ m=>
  refine ⟨ι2,h2,sd2,L2,hr2,Fin.bind q2 fun b h3 ι3 H3 e3 s3 hr3 q3=> ?_⟩
  cases b with
  | true=>
   refine ⟨fun σ' H'=> ∃ ι' h' sd',zcP X.K ι' H' sd' σ'/\zbe X.K ι' H' h'/\Fin X.K E ι' H' (zb7 tc gb m sd' h') (zgC X.K D0),fun σ' H' p=>⟨m,by omega,p⟩,ι3,h3,sd2,L2.step s3,hr3,Fin.bind q3 fun o h7 ι7 H7 e7 s7 hr7 q7=> ?_⟩
   cases o with
   | nx sd'=>exact fun σ' L'=>⟨ι7,h7,sd',L',hr7,q7⟩
   | ct sd'=>exact fun σ' L'=>⟨ι7,h7,sd',L',hr7,q7⟩
   | bk sd'=>exact fun σ' L'=>Fin.out (E:=E) (P:=zgC X.K D0) hr7 q7 σ' L'
   | rt d=>exact fun v rv=>Fin.out (E:=E) (P:=zgC X.K D0) hr7 q7 v rv
  | false=>exact Fin.out (E:=E) (P:=zgC X.K D0) hr3 q3 σ2 (L2.step s3)
end
end L3
namespace L3
open PySem
open Sem (wp)
open AutoSeq1 (wpAny_loadPart')
section
variable {prog:Program} {w:World} {A:Around} {E:Value->Shared->Prop} {s:Shared}
end
end L3
namespace L3
open PySem
section
variable {prog:Program} {w:World} {A:Around} {E:Value->Shared->Prop} {s:Shared}
end
end L3
namespace L2
open PySem PySem.Spec PyProof.Rows
section
variable {X:Cx} {pins:List (Addr×Obj)} {σ:St} {H:Hp} {s:Shared} {h':Heap}
end
section
variable {X:Cx} {elts:List Expr} {k:Nat} {tpos:Pos}
end
end L2
namespace L3
open PySem PySem.Spec PyProof.Rows L2
section
variable {X:Cx} {E:XE} {elts:List Expr} {k:Nat} {tpos pos:Pos}
end
end L3
namespace L3
open PySem PyProof.Rows
section
open PySem.SeqAt
open PySem.AutoSeq1 (wpAny_loadPart')
open PySem.MeetsSeq PySem.MeetsSeq2 PySem.MeetsSeq3
section
variable {prog:Program} {w:World} {A:Around} {E:Value->Shared->Prop} {s:Shared}
end
end
end L3
namespace L3
open PySem
section
variable {prog:Program} {w:World} {A:Around} {R:Result->Shared->Prop} {I:Addr} {fp wr:List Addr} {n:Nat} {P:Nat->Value->Prop} {St:Nat->Heap->Prop} {h0:Heap}
end
section
variable {prog:Program} {w:World} {A:Around} {E:Value->Shared->Prop} {s:Shared}
end
end L3
namespace L2
open PySem PySem.Spec PyProof.Rows L3
section
variable {X:Cx}
end
end L2
namespace L3
open PySem PySem.Spec PyProof.Rows L2
section
variable {X:Cx} {E:XE}
end
section
variable {X:Cx} {E:XE}
noncomputable def ztN (d:D):M Bool:=do let ds<-zm7 d;pure (!ds.isEmpty)
noncomputable def ztF (f:FE):FT:=fun sd=>do let d<-f sd;ztN d
end
section
variable {X:Cx} {E:XE}
noncomputable def zp3:D->Option Bool
 | .non=>some true
 | .int _=>some false
 | .tup _=>some false
 | .lst _=>some false
 | _=>none
noncomputable def zjb (x y:D):M D:=match y with
 | .non=>do let b<-ofO (zp3 x);pure (.bl b)
 | _=>M.bad
noncomputable def zjF (x y:D):M D:=match y with
 | .non=>do let b<-ofO (zp3 x);pure (.bl (!b))
 | _=>M.bad
theorem ziT {K:W.Frag} {ι:Io} {H:Hp} {x:D} {v:V} {u:Value} {b:Bool} (r:Rel K ι H x v) (rv:zb2 v u) (e:zp3 x=some b):(u=Value.none/\b=true)\/(u≠Value.none/\b=false):=by
 cases x with
 | non=>
  simp only [Rel] at r
  subst r
  cases rv
  cases e
  exact .inl ⟨rfl,rfl⟩
 | int i=>
  simp only [Rel] at r
  subst r
  obtain ⟨t,rfl⟩:=rv
  cases e
  exact .inr ⟨(fun z=>by cases z),rfl⟩
 | tup ds=>
  obtain ⟨a,vs,rfl,_,_⟩:=zdd r
  cases rv
  cases e
  exact .inr ⟨(fun z=>by cases z),rfl⟩
 | lst ds=>
  obtain ⟨a,vs,rfl,_,_⟩:=zdk r
  cases rv
  cases e
  exact .inr ⟨(fun z=>by cases z),rfl⟩
 | _=>cases e
theorem zg8:OpR X (compareOp .Is) (zdB X.K E zjb):=by
 intro pins s σ H x y v u Q I rx ry ⟨ι,h,d1,d2,r1,r2,hr,q⟩
 cases d2 with
 | non=>
  obtain ⟨b,eb,q⟩:=Fin.ofOb (show Fin X.K E ι H ((do let b<-ofO (zp3 d1);pure (.bl b):M D) h) _ from q)
  simp only [Rel] at r2
  subst r2
  cases ry
  rcases ziT r1 rx eb with ⟨rfl,rfl⟩ | ⟨hv,rfl⟩
  ·exact is_none_none (zgO I (Fin.out hr q _ (by simp [Rel])) rfl)
  ·exact is_none_ne hv (zgO I (Fin.out hr q _ (by simp [Rel])) rfl)
 | _=>exact qa0 q
theorem zo1:OpR X (compareOp .IsNot) (zdB X.K E zjF):=by
 intro pins s σ H x y v u Q I rx ry ⟨ι,h,d1,d2,r1,r2,hr,q⟩
 cases d2 with
 | non=>
  obtain ⟨b,eb,q⟩:=Fin.ofOb (show Fin X.K E ι H ((do let b<-ofO (zp3 d1);pure (.bl (!b)):M D) h) _ from q)
  simp only [Rel] at r2
  subst r2
  cases ry
  rcases ziT r1 rx eb with ⟨rfl,rfl⟩ | ⟨hv,rfl⟩
  ·exact isnot_none_none (zgO I (Fin.out hr q _ (by simp [Rel])) rfl)
  ·exact isnot_none_ne hv (zgO I (Fin.out hr q _ (by simp [Rel])) rfl)
 | _=>exact qa0 q
end
section
variable {X:Cx} {E:XE} {scope:Scope} {N:List Str} {src:List (Option Nat)} {tg iter elt:Expr} {ifs:List Expr} {pos:Pos}
theorem ztM {K:W.Frag} {g:D->Sd->M Sd} {tc:Sd->M Bool} {te:Sd->M D} {J:It} {ds:List D} {ι:Io} {H:Hp} {h:Hh} {sd:Sd} {σ:L2.St} {Q:VK} {p:Addr} (hk:zaH g src) (L:zcP K ι H sd σ) (hr:zbe K ι H h) (ok:zpm K ι H J ds) (hz:ds.length<=sizeLine)
  (q:Fin K E ι H ((do let ys<-zbl (za6 g tc te (zap src sd)) ds;zbG ys) h) fun d ι' H'=> ∀ v,Rel K ι' H' d v->Q v H') (hp:H p=none):
  zr0 J (zql K E g) (zfO K E tc) (zhS K E te) (bStart src σ) H p fun H'=>Q (.ref p) H':=by
 generalize hP:(fun (d:D) (ι':Io) (H':Hp)=> ∀ v,Rel K ι' H' d v->Q v H')=P at q
 generalize hf:za6 g tc te (zap src sd)=f at q
 have hpx:p∉ι.x:=fun z=>hr.nin hp (.inr z)
 have h0len:(zap src sd).length=src.length:=by unfold zap;rw [qaH]
 have h0non: ∀ (i:Nat),src[i]? = some none->(zap src sd)[i]? = some none:=fun i e=>by unfold zap;rw [List.getElem?_map,e];rfl
 refine ⟨fun i m σ' H'=>m=ds.length - i/\i<=ds.length/\ ∃ ι' h' done vs,ι'.x=p::ι.x/\zbQ ι H ι'.show H'/\zcP K ι' H' (zap src sd) σ'/\zbe K ι' H' h'/\H' p=some (.lst vs)/\zax K ι' H' done vs/\done.length<=i/\
     Fin K E ι H ((do let ys<-zbl f (ds.drop i);zbG (done++ys)) h') P,
   ⟨_,rfl,Nat.zero_le _,ι.hide p,h,[],[],rfl,?_,L.bStart.pass (ze1 hp),hr.hide hp,za2,zax.nil,qaV _,?_⟩,?_⟩
 ·have:=hr.laidS (o:= .lst []) hp
  exact ⟨this.old,this.new,this.hid,this.hidk,this.keep⟩
 ·simpa using q
 rintro i m σ2 H2 ⟨rfl,hi2,ι2,h2,done,vs,hx2,s2,L2,hr2,e2,rl2,dl2,q2⟩
 have ps2:Pass ι H ι2 H2:=⟨s2.old,fun b o hb n=>⟨s2.keep b o hb n,fun z=>by
   rcases z with z | z
   · exact s2.nin hb n (.inl z)
   · rw [hx2] at z
     rcases qaP.mp z with z | z
     · rw [z,hp] at hb;cases hb
     · exact n (.inr z)⟩⟩
 have hp2:p∈ι2.x:=by rw [hx2];exact qau
 have base: ∀ {ι':Io} {H':Hp},zbQ ι2 H2 ι' H'->zbQ ι H ι'.show H':=fun t=>s2.trans (t.shown hx2)
 by_cases hlt:i<ds.length
 ·right
  refine ⟨ok.go ι2 H2 i ps2 hlt,fun σ' H'=>i+1<=ds.length/\ ∃ ι' h' done vs,ι'.x=p::ι.x/\zbQ ι H ι'.show H'/\zcP K ι' H' (zap src sd) σ'/\zbe K ι' H' h'/\H' p=some (.lst vs)/\zax K ι' H' done vs/\done.length<=i+1/\
    Fin K E ι H ((do let ys<-zbl f (ds.drop (i+1));zbG (done++ys)) h') P,fun σ' H' z=>⟨ds.length - (i+1),by omega,rfl,z.1,z.2⟩,fun x H3 y=> ?_⟩
  obtain ⟨gr,d,ed,rd⟩:=ok.yld ι2 H2 h2 i x H3 ps2 hr2 hlt y
  obtain ⟨s3,hr3⟩:=gr.step hr2
  have edr:ds.drop i=d::ds.drop (i+1):=by
   rw [qae hlt]
   rw [qaf hlt] at ed
   rw [Option.some.inj ed]
  rw [edr] at q2
  have q3:=q2
  have st3:zbQ ι2 H2 ι2 H3:=s3
  have e3:H3 p=some (.lst vs):=by rw [s3.hidk p hp2];exact e2
  have eq1:(do let ys<-zbl f (d::ds.drop (i+1));zbG (done++ys):M D)=(g d (zap src sd)>>=fun sd1=>tc sd1>>=fun c=>if c=true then (te sd1>>=fun y=>zbl f (ds.drop (i+1))>>=fun ys=>zbG (done++[y]++ys)) else (zbl f (ds.drop (i+1))>>=fun ys=>zbG (done++ys))):=by
   rw [zbl]
   rw [<- hf]
   simp only [za6,bind_assoc]
   refine congrArg _ (funext fun sd1=> ?_)
   refine congrArg _ (funext fun c=> ?_)
   cases c with
   | true=>simp only [if_true,bind_assoc,pure_bind,List.append_assoc,List.cons_append,List.nil_append]
   | false=>simp only [qax,if_false,pure_bind]
  rw [eq1] at q3
  refine ⟨ι2,h2,zap src sd,d,L2.step s3,hr3,rd,?_⟩
  refine Fin.bindB q3 (fun ι' H' h' s hr'=>⟨ι'.show,base (s3.trans s),hr'.show⟩) fun sd4 h4 ι4 H4 e4 s4 hr4 q4 σ4 L4=> ?_
  have hx4:ι4.x=p::ι.x:=by rw [s4.hid];exact hx2
  obtain ⟨k1,k2⟩:=hk d _ h2 sd4 h4 h0len h0non e4
  refine ⟨ι4,h4,sd4,L4,hr4,Fin.bindB q4 (fun ι' H' h' s hr'=>⟨ι'.show,base ((s3.trans s4).trans s),hr'.show⟩) fun c h5 ι5 H5 e5 s5 hr5 q5=> ?_⟩
  have hx5:ι5.x=p::ι.x:=by rw [s5.hid];exact hx4
  have sub: ∀ {ι':Io} {H':Hp},zcP K ι' H' sd4 σ4->zcP K ι' H' (zap src sd) σ4:=fun {ι' H'} z=>⟨by rw [<- k1];exact z.1,fun j d' e=>z.2 j d' (k2 j d' (fun w=>by rw [h0non j w] at e;cases e) e)⟩
  have st5:zbQ ι2 H2 ι5 H5:=(s3.trans s4).trans s5
  cases c with
  | false=>
   exact zn6 ⟨hlt,ι5,h5,done,vs,hx5,base st5,sub (L4.step s5),hr5,by rw [st5.hidk p hp2];exact e2,rl2.step st5,Nat.le_succ_of_le dl2,q5⟩
  | true=>
   refine zoy ⟨ι5,h5,sd4,L4.step s5,hr5,Fin.bindB q5 (fun ι' H' h' s hr'=>⟨ι'.show,base (st5.trans s),hr'.show⟩) fun yd h6 ι6 H6 e6 s6 hr6 q6 y ry=> ?_⟩
   have st6:zbQ ι2 H2 ι6 H6:=st5.trans s6
   have hx6:ι6.x=p::ι.x:=by rw [s6.hid];exact hx5
   have hp6:p∈ι6.x:=by rw [hx6];exact qau
   have e6':H6 p=some (.lst vs):=by rw [st6.hidk p hp2];exact e2
   refine ⟨vs,e6',by rw [<- rl2.length];omega,hlt,ι6,h6,done++[yd],vs++[y],hx6,zgW hp hpx hx2 s2 st6,?_,hr6.hid hp6,za2,?_,?_,?_⟩
   ·exact ((sub (L4.step s5)).step s6).pass (zea hp6)
   ·exact ((rl2.step st6).append (zax.cons ry zax.nil)).pass (zea hp6)
   ·rw [qav,List.length_singleton];omega
   ·exact q6
 ·left
  have e:i=ds.length:=by omega
  subst e
  refine ⟨ok.stop ι2 H2 ps2,?_⟩
  rw [List.drop_length] at q2
  have hin:p∈ι2.x:=hp2
  have hpc:some p∉ι2.c:=(hr2.hidt p hin).2
  have htl:ι2.x.tail=ι.x:=by rw [hx2];rfl
  have q3:Fin K E ι H (zbG done h2) P:=by
   have:Fin K E ι H ((zbG (done++[]):M D) h2) P:=q2
   rw [List.append_nil] at this
   exact this
  have hmem: ∀ a,some a∈ι2.c++[some p]↔some a∈ι2.c\/a=p:=fun a=>by simp
  have ps:Pass ι2 H2 ⟨ι2.c++[some p],ι.x⟩ H2:=by
   refine ⟨fun n o h=> .inl ?_,fun b o hb n=>⟨hb,fun z=> ?_⟩⟩
   ·show (ι2.c++[some p])[n]? = _
    rw [qad (qac.mp h).1]
    exact h
   ·rcases z with z | z
    ·rcases (hmem b).mp z with z | z
     ·exact n (.inl z)
     ·exact n (.inr (z▸hin))
    ·exact n (.inr (by rw [hx2];exact qan _ z))
  have st:zbQ ι H ⟨ι2.c++[some p],ι.x⟩ H2:=by
   refine ⟨fun n o h=> ?_,fun a h=> ?_,rfl,s2.hidk,s2.keep⟩
   ·rcases s2.old n o h with z | z
    ·left
     have z:ι2.c[n]? = some o:=z
     show (ι2.c++[some p])[n]? = _
     rw [qad (qac.mp z).1]
     exact z
    ·right
     have z:ι2.c[n]? = some none:=z
     show (ι2.c++[some p])[n]? = _
     rw [qad (qac.mp z).1]
     exact z
   ·rcases (hmem a).mp h with z | z
    ·exact s2.new a z
    ·exact .inr (z▸hp)
  have hr3:zbe K ⟨ι2.c++[some p],ι.x⟩ H2 (h2++[.lst done]):=by
   have hl:=hr2.len
   refine ⟨by simp [hl],fun a b c ha hb=> ?_,fun n a c ha hc=> ?_,fun n hn=> ?_,fun a ha=> ?_⟩
   ·have ha:(ι2.c++[some p])[a]? = some (some c):=ha
    have hb:(ι2.c++[some p])[b]? = some (some c):=hb
    have key: ∀ n,(ι2.c++[some p])[n]? = some (some c)->(n<ι2.c.length/\ι2.c[n]? = some (some c))\/(n=ι2.c.length/\c=p):=fun n hn=>by
     by_cases hlt':n<ι2.c.length
     ·rw [qad hlt'] at hn
      exact .inl ⟨hlt',hn⟩
     ·have:=(qac.mp hn).1
      rw [qav,List.length_singleton] at this
      have e:n=ι2.c.length:=by omega
      subst e
      rw [qaa (qaV _)] at hn
      simp at hn
      exact .inr ⟨rfl,hn.symm⟩
    rcases key a ha with ⟨l1,a1⟩ | ⟨a1,a2⟩<;>rcases key b hb with ⟨l2,b1⟩ | ⟨b1,b2⟩
    ·exact hr2.inj a b c a1 b1
    ·exact absurd (List.mem_of_getElem? a1) (b2▸hpc)
    ·exact absurd (List.mem_of_getElem? b1) (a2▸hpc)
    ·omega
   ·have ha:(ι2.c++[some p])[n]? = some (some a):=ha
    by_cases hlt':n<ι2.c.length
    ·rw [qad hlt'] at ha
     rw [qad (by omega)] at hc
     obtain ⟨o',e2',e3'⟩:=hr2.at_ n a c ha hc
     exact ⟨o',e2',e3'.pass ps⟩
    ·have:=(qac.mp ha).1
     rw [qav,List.length_singleton] at this
     have e:n=ι2.c.length:=by omega
     subst e
     rw [qaa (qaV _)] at ha
     rw [<- hl,qaa (qaV _)] at hc
     simp at ha hc
     subst ha
     subst hc
     exact ⟨_,e2,vs,rfl,rl2.pass ps⟩
   ·have hn:(ι2.c++[some p])[n]? = some none:=hn
    by_cases hlt':n<ι2.c.length
    ·rw [qad hlt'] at hn
     rw [qad (by omega)]
     exact hr2.dead n hn
    ·have:=(qac.mp hn).1
     rw [qav,List.length_singleton] at this
     have e:n=ι2.c.length:=by omega
     subst e
     rw [qaa (qaV _)] at hn
     simp at hn
   ·have h1:=hr2.hidt a (by rw [hx2];exact qan _ ha)
    exact ⟨h1.1,fun z=>by
      rcases (hmem a).mp z with z | z
      · exact h1.2 z
      · exact hpx (z▸ha)⟩
  have q4:P (.cel h2.length) ⟨ι2.c++[some p],ι.x⟩ H2:=q3 _ _ st hr3
  rw [<- hP] at q4
  refine q4 (.ref p) ?_
  simp only [Rel]
  refine ⟨p,rfl,.inl ?_⟩
  show (ι2.c++[some p])[h2.length]? = _
  rw [hr2.len,qaa (qaV _)]
  simp
noncomputable def zh4 (fi:Sd->M (List D)) (g:D->Sd->M Sd) (tc:Sd->M Bool) (te:Sd->M D) (src:List (Option Nat)):Sd->M D:=fun sd=>do
 let ds<-fi sd
 fits ds.length
 let ys<-zbl (za6 g tc te (zap src sd)) ds
 zbG ys
theorem zmo {K:W.Frag} {fi:Sd->M (List D)} {g:D->Sd->M Sd} {tc:Sd->M Bool} {te:Sd->M D} (hk:zaH g src) (σ:L2.St) (H:Hp) (Q:VK) (q:zhS K E (zh4 fi g tc te src) σ H Q):
  zlQ (zsE K E fi) (zql K E g) (zfO K E tc) (zhS K E te) src σ H Q:=by
 obtain ⟨ι,h,sd,L,hh,q⟩:=q
 refine ⟨ι,h,sd,L,hh,Fin.bind q fun ds h1 ι1 H1 e1 s1 hr1 q1 J ok p hp=> ?_⟩
 obtain ⟨z,q2⟩:=Fin.fits q1
 exact ztM hk (L.step s1) hr1 ok z q2 hp
theorem zob {fi:FA} {g:D->Sd->M Sd} {tc:FT} {te:FE} (hc:X.calm=true) (B:BOk X scope N src) (hk:zaH g src) (hi:SI X E tg iter fi)
  (hg: ∀ s H fp,SG (cxB X scope N s H fp) E tg g) (ht: ∀ s H fp,SCs (cxB X scope N s H fp) E ifs tc) (he: ∀ s H fp,SE (cxB X scope N s H fp) E elt te)
  (hs: ∀ x,foldedSetIterable iter X.env x=pure x:=by intro _;rfl):SE X E (.ListComp elt [⟨tg,iter,ifs,0⟩] scope pos) (zh4 fi g tc te src):=
 PE.imp (zkU B hi hg ht he hs) (zmo hk)
end
end L3
namespace L3
open PySem
open Sem (wp)
open AutoSeq1 (wpAny_loadPart')
section
variable {prog:Program} {w:World} {A:Around} {E:Value->Shared->Prop} {s:Shared}
end
end L3
namespace L2
open PySem PySem.Spec PyProof.Rows
section
variable {X:Cx} {elts:List Expr} {k:Nat} {tpos:Pos}
end
end L2
namespace L3
open PySem PySem.Spec PyProof.Rows L2
section
variable {X:Cx} {E:XE} {elts:List Expr} {k:Nat} {tpos pos:Pos}
end
end L3
namespace L2
open PySem PySem.Spec PyProof.Rows
section
variable {κ:Type} [DecidableEq κ]
end
section
variable {X:Cx}
end
end L2
namespace L3
open PySem PySem.Spec PyProof.Rows L2
section
variable {X:L2.Cx} {E:XE}
end
open LT
section
variable {h:Hh}
end
end L3
namespace L3
open PySem PySem.Spec PyProof.Rows L2
structure Fd (K:W.Frag) (x:Str) (st:Stmt) (a:Addr) (d:FuncData):Prop where
 e:W.nsIn K mainGlobals x=some (some (.ref a))
 F:Fun K x x st a d
section
variable {X:Cx} {E:XE}
end
end L3
namespace L3
open PySem PyProof.Rows HT
section
open PySem.SeqAt
open PySem.AutoSeq1 (wpAny_loadPart')
open PySem.MeetsSeq PySem.MeetsSeq2 PySem.MeetsSeq3
end
section
variable {prog:Program} {w:World} {A:Around} {E:Value->Shared->Prop} {s:Shared}
end
end L3
namespace L3
open PySem PyProof.Rows
section
open PySem.SeqAt
open PySem.AutoSeq1 (wpAny_loadPart')
open PySem.MeetsSeq PySem.MeetsSeq2 PySem.MeetsSeq3
section
variable {prog:Program} {w:World} {A:Around} {E:Value->Shared->Prop} {s:Shared}
end
end
open PySem.Spec L2
section
variable {X:Cx} {E:XE}
end
end L3
namespace L2
open PySem PySem.Spec PyProof.Rows
section
variable {X:Cx}
theorem zkC:zaZ X (.builtin "abs") (fun xs H Q=> ∃ i,xs=[.int i]/\Q (.int (if i<0 then -i else i)) H):=by
 intro pins s σ H xs us Q I r h
 obtain ⟨i,rfl,q⟩:=h
 obtain ⟨u,rfl,t,rfl⟩:=zd1 r
 exact call_abs_int fun u tk=>⟨.int (if i<0 then -i else i),H,I.tok _,⟨_,rfl⟩,q⟩
end
end L2
namespace L3
open PySem PySem.Spec PyProof.Rows L2
section
variable {X:Cx} {E:XE}
noncomputable def zq9:List D->M D
 | [.int i]=>pure (.int (if i<0 then -i else i))
 | _=>M.bad
theorem zgZ:zaZ X (.builtin "abs") (zhv X.K E zq9):=by
 refine zaZ.imp zkC fun xs H Q ⟨ι,h,ds,rl,hr,q⟩=> ?_
 unfold zq9 at q
 split at q
 ·simp only [zax,Rel] at rl
  obtain ⟨v,r,rfl,rfl,rfl⟩:=rl
  exact ⟨_,rfl,Fin.out hr q _ (by simp [Rel])⟩
 ·exact qa0 q
noncomputable def zpl (i j:Nat) (fs:FA):FS:=fun sd=>do let ds<-fs sd;match ds with | [d,d']=>pure (.nx ((sd.set i (some d)).set j (some d'))) | _=>M.bad
theorem zrd {x y:Str} {a b:Expr} {fs:FA} {px py pt pos:Pos} {kt k2 pt2} (i j:Nat) (hc:X.calm=true) (hN:X.N.Nodup) (ha:SA X E [a,b] fs) (hi:X.N[i]? = some x:=by rfl) (hj:X.N[j]? = some y:=by rfl) (hij:i≠j:=by decide)
  (hx:X.env.scope.names.lookup x=some .local:=by rfl) (hy:X.env.scope.names.lookup y=some .local:=by rfl)
  (hw:swappedStores [.Tuple [.Name x px,.Name y py] kt pt] (.Tuple [a,b] k2 pt2) X.env=pure (some [x,y]):=by rfl)
  (hs:swapsWithSole [.Tuple [.Name x px,.Name y py] kt pt] (.Tuple [a,b] k2 pt2) pos.line X.env=pure false:=by rfl):
  SS X E (.Assign [.Tuple [.Name x px,.Name y py] kt pt] (.Tuple [a,b] k2 pt2) pos) (zpl i j fs):=zsV (zqi hc hN hi hj hij hx hy ha hw hs)
end
open Classical in
section
variable {X:Cx} {E:XE} {scope:Scope} {N:List Str} {src:List (Option Nat)} {tg iter elt:Expr} {ifs:List Expr} {pos:Pos}
end
end L3
namespace L3
open PySem PySem.Spec PyProof.Rows L2
section
variable {X:Cx} {E:XE} {pos:Pos}
end
end L3
namespace L2
open PySem PySem.Spec PyProof.Rows
section
variable {X:Cx}
end
end L2
namespace L3
open PySem PySem.Spec PyProof.Rows L2
section
variable {X:L2.Cx} {E:XE}
theorem zmg:OpR X (binaryOp .FloorDiv) (rI (fun _ j=>0<j/\j<2^8000) fun i j=> .int (i / j)):=opI fun i j _ _ _ _ _ hc q=>by
 refine floordiv_int (by omega) (by rw [Int.fdiv_eq_ediv_of_nonneg _ (by omega)];exact q) (.inl (PyProof.noPylong_of_log2 ?_))
 have h1:j.natAbs<2^8000:=by omega
 have h0:j.natAbs≠0:=by omega
 exact Nat.lt_trans ((Nat.log2_lt h0).mpr h1) (by decide)
noncomputable def zfa:=dII (fun _ j=>decide (0<j) && decide (j<2^8000)) fun i j=> .int (i / j)
theorem zeV:OpR X (binaryOp .FloorDiv) (zdB X.K E zfa):=zhV zmg (fun i j h=>by simpa using h) fun _ _ _ _=>by simp [Rel]
end
section
variable {X:L2.Cx} {E:XE}
end
end L3
namespace L2
open PySem PySem.Spec PyProof.Rows
section
variable {X:Cx}
end
end L2
namespace L3
open PySem PySem.Spec PyProof.Rows L2
section
variable {X:L2.Cx} {E:XE}
end
theorem ziO {P:Program} {w:World} {K:W.Frag} {mg:Str->Option Value} {base:Heap} {CX:CXT} {k n:Nat} {f:Addr} {fd:FuncData} {ps:List Str} (hn:n=ps.length:=by rfl):zbN P w K mg base CX k f fd ps (zbP K n fun _=>M.bad):=
 ⟨fun vs H Q E h=>hn▸h.1,fun A outer s H args us vs Q E hr he hb hv hs=>by obtain ⟨_,_,_,_,_,_,q⟩:=hs;exact qa0 q⟩
open LT
def Gro (h h':Hh):Prop:= ∃ t,h'=h++t
theorem Gro.refl {h:Hh}:Gro h h:=⟨[],by simp⟩
theorem Gro.trans {h h1 h2:Hh} (a:Gro h h1) (b:Gro h1 h2):Gro h h2:=by
 obtain ⟨t,rfl⟩:=a
 obtain ⟨u,rfl⟩:=b
 exact ⟨t++u,by simp⟩
theorem Gro.get {h h':Hh} {n:Nat} {c:C} (g:Gro h h') (e:h[n]? = some c):h'[n]? = some c:=by
 obtain ⟨t,rfl⟩:=g
 rw [qad (qac.mp e).1]
 exact e
theorem Gro.ext {b:Nat} {h h':Hh} (q:Bx b h) (g:Gro h h'):Ext b h h':=by
 obtain ⟨z,e⟩:=q
 exact ⟨⟨z,g.get e⟩,fun n c _ e=>g.get e⟩
def Ev {α:Type} (m:M α) (a:α):Prop:= ∀ h, ∃ h',m h= .ok a h'/\Gro h h'
section
variable {α β:Type} {m:M α} {a:α} {f:α->M β} {b:β} {h:Hh} {P:α->Hh->Prop}
theorem Ev.pure:Ev (Pure.pure a:M α) a:=fun h=>⟨h,rfl,.refl⟩
theorem Ev.of (e:m=Pure.pure a):Ev m a:=e▸ .pure
theorem Ev.bind (x:Ev m a) (y:Ev (f a) b):Ev (m>>=f) b:=fun h=>by
 obtain ⟨h1,e1,g1⟩:=x h
 obtain ⟨h2,e2,g2⟩:=y h1
 refine ⟨h2,?_,g1.trans g2⟩
 show M.bind m f h=_
 unfold M.bind
 rw [e1]
 exact e2
theorem Ev.wp (x:Ev m a) (k: ∀ h',Gro h h'->P a h'):wp m h P:=by
 obtain ⟨h1,e1,g1⟩:=x h
 exact ⟨a,h1,e1,k h1 g1⟩
theorem Ev.of_wp (x: ∀ h,L3.wp m h fun r h'=>r=a/\Gro h h'):Ev m a:=fun h=>by
 obtain ⟨r,h1,e1,rfl,g⟩:=x h
 exact ⟨h1,e1,g⟩
theorem Ev.noX (x:Ev m a):Ev (L3.noX m) a:=fun h=>by
 obtain ⟨h1,e1,g1⟩:=x h
 refine ⟨h1,?_,g1⟩
 unfold L3.noX
 rw [e1]
end
@[simp] theorem zl8 {α:Type} {a:α}:noX (pure a:M α)=pure a:=rfl
noncomputable def zgS {α:Type} (c:String):M α:=fun h=> .exc c h
@[simp] theorem zjp {α β:Type} {c:String} {f:α->M β}:((zgS c:M α)>>=f)=zgS c:=rfl
@[simp] theorem zmk {c:String} {sd:Sd}:ziy c sd=zgS c:=rfl
theorem zpd {names:List String} {gb:FS} {F:List D->M D} {sd:Sd} {o:Out} (x:Ev (gb sd) o):Ev (zh0 names gb F sd) o:=fun h=>by
 obtain ⟨h1,e1,g1⟩:=x h
 refine ⟨h1,?_,g1⟩
 unfold zh0
 rw [e1]
theorem zi4 {names:List String} {gb:FS} {F:List D->M D} {sd:Sd} {c:String} {d:D} (e:gb sd=zgS c) (hc:names.contains c=true) (ek:F [.exn c]=pure d):zh0 names gb F sd=pure (.rt d):=by
 funext h
 unfold zh0
 rw [e]
 show (if names.contains c=true then (do let d<-noX (F [.exn c]);pure (.rt d):M Out) h else .bad)=_
 rw [qa4 hc,ek]
 rfl
theorem zpP {n:Nat} {Fs:List (List D->M D)} {fi:FE} {fs:FA} {sd:Sd}:zsj n Fs fi fs sd=(do let i<-fi sd;let F<-zpY Fs i;let ds<-fs sd;zaj n F ds):=rfl
noncomputable def tI (xs:List Int):D:= .tup (xs.map D.int)
noncomputable def zcV (o:List Int×Int):D:= .tup [tI o.1,.int o.2]
noncomputable def zbq (m:Int) (os:List (List Int×Int)):D:= .tup [.int m,.tup (os.map zcV)]
structure Stk (m:Int) (os:List (List Int×Int)):Prop where
 m0:1<=m
 m1:m<=10
 len:os.length<=12
 up: ∀ o∈os,o.1.Pairwise (· < ·)
 bd: ∀ o∈os, ∀ x∈o.1,0<=x/\x<m
 ne: ∀ o∈os,o.1≠[]
 pos: ∀ o∈os,0<o.2
theorem Stk.olen {m:Int} {os:List (List Int×Int)} (s:Stk m os): ∀ o∈os,o.1.length<=10:=fun o ho=>by
 have h:=zeS (m:=m) (ts:=o.1.map D.int) (l:=0) (zb1.mpr ⟨s.up o ho,fun x hx=>s.bd o ho x hx⟩) (by have:=s.m0;omega)
 rw [qaH] at h
 have:=s.m1
 omega
theorem zlb {fo fe:FE} {sd:Sd}:zhL fo fe sd=(do let x<-fo sd;zia x;let y<-fe sd;zdO x y):=rfl
theorem zoX {n:Nat}:zia (.cel n)=(do let _<-zaw n;pure ()):=rfl
theorem zmi {n:Nat} {zs:List D}:zdO (.cel n) (.tup zs)=(do let ds<-zaw n;fits (ds.length+zs.length);zcg n (ds++zs);pure .non):=rfl
theorem zkZ {xs:List Int} {m:Int} (m0:0<=m) (h:xs.Pairwise (· < ·)) (b: ∀ x∈xs,0<=x/\x<m):(xs.length:Int)<=m:=by
 have:=zeS (m:=m) (ts:=xs.map D.int) (l:=0) (zb1.mpr ⟨h,b⟩) m0
 rw [qaH] at this
 omega
theorem zmt {xs:List Int} {m:Int} (m0:0<=m) (b: ∀ x∈xs,0<=x/\x<m):((zfD xs).length:Int)<=m:=zkZ m0 (zgr xs) fun x hx=>b x (zdX.mp hx)
theorem zhJ {xs:List Int} {m:Int} (m0:0<=m) (m1:m<=60) (b: ∀ x∈xs,0<=x/\x<m):(xs.foldl step_dedup []).length<64:=by
 have h:=zmt m0 b
 unfold zfD at h
 rw [(zaN _).length_eq] at h
 omega
theorem zhc {n:Nat} {h:Hh} {xs:List Int} {P:D->Hh->Prop} (e:h[n]? = some (.lst (xs.map D.int))) (h1:(xs.foldl step_dedup []).length<64) (h2:xs.length<4000) (k:P (.lst ((zfD xs).map D.int)) h):wp (zcb (.cel n)) h P:=by
 unfold zcb
 show wp (zaw n>>=_) h P
 rw [zas,zdp e]
 show wp (do let ns<-ofO (zdI (xs.map D.int));if (ns.foldl step_dedup []).length<64/\ns.length<4000 then pure (.lst ((zfD ns).map D.int)) else M.bad:M D) h P
 rw [zbJ]
 show wp (if (xs.foldl step_dedup []).length<64/\xs.length<4000 then (pure (.lst ((zfD xs).map D.int)):M D) else M.bad) h P
 rw [qa4 ⟨h1,h2⟩,zar]
 exact k
theorem zqx: ∀ {xs ys:List Int},xs.Pairwise (· < ·)->ys.Pairwise (· < ·)->(∀ k,k∈xs↔k∈ys)->xs=ys:=by
 intro xs ys hx hy hm
 have nx:xs.Nodup:=hx.imp fun z=>by omega
 have ny:ys.Nodup:=hy.imp fun z=>by omega
 have p:List.Perm xs ys:=(List.perm_ext_iff_of_nodup nx ny).mpr hm
 exact (zeW p (hx.imp fun z=>by omega)).trans (zeW (List.Perm.refl ys) (hy.imp fun z=>by omega)).symm
theorem ziP {x y:D} {a b:PyData} (e1:pd x=some a) (e2:pd y=some b) (h:zeI a b=true):dEq x y=pure (.bl (PyData.eqv a b)):=by
 show zhg false x y=_
 unfold zhg
 rw [e1,e2]
 simp only [h,if_true]
 rfl
theorem zkx (xs:List Int):pd (tI xs)=some (.tuple (xs.map PyData.int)):=by unfold tI pd;rw [zbW];rfl
theorem zpK (xs ys:List Int):dEq (tI xs) (tI ys)=pure (.bl (xs==ys)):=by
 rw [ziP (zkx xs) (zkx ys) (by unfold zeI;simp [PyData.canLay0,za4,PyData.depth,zbm])]
 simp only [PyData.eqv,zeb]
theorem zpa (xs ys:List Int):dEq (.lst (xs.map D.int)) (.lst (ys.map D.int))=pure (.bl (xs==ys)):=by
 have e1:pd (.lst (xs.map D.int))=some (.list (xs.map PyData.int)):=by unfold pd;rw [zbW];rfl
 have e2:pd (.lst (ys.map D.int))=some (.list (ys.map PyData.int)):=by unfold pd;rw [zbW];rfl
 rw [ziP e1 e2 (by unfold zeI;simp [PyData.canLay0,za4,PyData.depth,zbm])]
 simp only [PyData.eqv,zeb]
theorem zkl (xs:List Int):zpk [.lst (xs.map D.int)]=pure (.int xs.sum):=by
 show (do let bs<-ofO (zdI (xs.map D.int));pure (.int bs.sum):M D)=_
 rw [zbJ]
 rfl
def gk (d:D):Prop:=kn d=true/\ ∀ ds,d= .tup ds->ds.length<64/\ ∀ x∈ds,kn x=true
theorem zey {os:List (List Int×Int)} {i:Int} (h0:0<=i) (h1:i<os.length):atI (os.map zcV) i=some (zcV (os.getD i.toNat ([],0))):=by
 have hl:i.toNat<os.length:=by omega
 have:=zc6 (xs:=os.map zcV) (j:=i.toNat) (v:=zcV (os.getD i.toNat ([],0))) (by simp [hl,List.getD])
 rw [<- this]
 congr 1
 omega
noncomputable def zcU (os:List (List Int×Int)) (ls:List Int):List (List Int×Int):=ls.map fun i=>os.getD i.toNat ([],0)
theorem zfx {os:List (List Int×Int)} {ls:List Int} (b: ∀ x∈ls,0<=x/\x<os.length): ∀ o∈zcU os ls,o∈os:=fun o ho=>by
 obtain ⟨i,hi,rfl⟩:=qaU.mp ho
 have:=b i hi
 have hl:i.toNat<os.length:=by omega
 simp [List.getD,hl]
theorem zcf (k:Int) (xs:List Int):zbY (.int k) (.lst (xs.map D.int))=pure (.bl (!xs.any (· == k))):=by
 show zlC true (.int k) (.lst (xs.map D.int))=_
 unfold zlC
 simp only [pd]
 rw [zbW]
 have c:zkH (.int k) (xs.map PyData.int)=true:=by
  unfold zkH
  simp [PyData.canLay0,za4,PyData.depth,zbm]
 simp only [c,if_true,zeQ]
theorem zhw {xs:List Int} (h:xs.length<64):zfp [.lst (xs.map D.int)]=pure (.lst ((zb0 xs).map D.int)):=by
 show (do let ns<-ofO (zdI (xs.map D.int));if ns.length<64 then pure (.lst ((zb0 ns).map D.int)) else M.bad:M D)=_
 rw [zbJ]
 show (if xs.length<64 then (pure (.lst ((zb0 xs).map D.int)):M D) else M.bad)=_
 rw [qa4 h]
theorem zfP {xs:List Int} (h:xs.Nodup):(zb0 xs).Pairwise (· < ·):=by
 have h1:=zdw xs
 have h2:(zb0 xs).Nodup:=(zaN xs).nodup_iff.mpr h
 exact (List.pairwise_and_iff.mpr ⟨h1,h2⟩).imp fun z=>by have:=z.1;have:=z.2;omega
theorem zhD {xs ys:List Int} (h:xs.Nodup) (hm: ∀ k,k∈xs↔k∈ys):zb0 xs=zfD ys:=zqx (zfP h) (zgr ys) fun k=>by rw [(zaN xs).mem_iff,zdX,hm]
theorem zfv {xs:List Int} {m:Int} (m0:0<=m) (h:xs.Nodup) (b: ∀ x∈xs,0<=x/\x<m):(xs.length:Int)<=m:=by
 rw [<- (zaN xs).length_eq]
 exact zkZ m0 (zfP h) fun x hx=>b x ((zaN xs).mem_iff.mp hx)
theorem zcK {p:Int->Bool} {k:D->Option D} (e: ∀ i:Int,k (.int i)=if p i=true then some (.int i) else none): ∀ xs:List Int,(xs.map D.int).filterMap k=(xs.filter p).map D.int
 | []=>rfl
 | x::r=>by
  rw [qaM,qat,e,List.filter_cons,zcK e r]
  cases p x<;>simp
theorem zle {xs:List D} {t:Int} (t0:0<=t) (t1:t<(xs.length:Int)): ∃ d,atI xs t=some d/\d∈xs:=by
 have ht:t.toNat<xs.length:=by omega
 refine ⟨xs[t.toNat],?_,List.getElem_mem ht⟩
 have:=zc6 (xs:=xs) (j:=t.toNat) (v:=xs[t.toNat]) (by simp [ht])
 rw [<- this]
 congr 1
 omega
theorem zfl {xs:List D} {t:Int} {h:Hh} {P:D->Hh->Prop} (t0:0<=t) (t1:t<(xs.length:Int)) (k: ∀ d∈xs,P d h):wp (ofO (atI xs t)) h P:=by
 obtain ⟨d,ed,hd⟩:=zle t0 t1
 rw [ed,zeN,zar]
 exact k d hd
theorem zsL {i j:Int}:znJ [.int i,.int j]=pure (.int (if j<i then j else i)):=rfl
theorem zsl {i j:Int}:znM [.int i,.int j]=pure (.int (if j>i then j else i)):=rfl
theorem zmc (xs:List Int):dNe (tI xs) (.tup [])=pure (.bl (!xs.isEmpty)):=by
 show zhg true _ _=_
 unfold zhg
 rw [zkx xs,show pd (.tup [])=some (.tuple []) from rfl]
 have c:zeI (.tuple (xs.map PyData.int)) (.tuple [])=true:=by
  unfold zeI
  simp [PyData.canLay0,PyData.canLayAll0,za4,PyData.depth,PyData.depthAll,zbm]
 simp only [c,if_true,PyData.eqv]
 cases xs<;>rfl
theorem zj8 (n:Nat):((List.range n).map fun (k:Nat)=>(k:Int)).Pairwise (· < ·):=by
 rw [List.pairwise_map]
 exact List.pairwise_lt_range.imp fun z=>by omega
theorem zgV {n:Nat}: ∀ x∈(List.range n).map fun (k:Nat)=>(k:Int),0<=x/\x<n:=fun x hx=>by
 obtain ⟨k,hk,rfl⟩:=qaU.mp hx
 have:=List.mem_range.mp hk
 omega
section
variable {α β:Type} {m:M α} {a:α} {f:α->M β} {c:String}
end
theorem zrG {g:FS} {sd:Sd}:zud g sd=noX (g sd):=rfl
theorem zqt {g:FE} {sd:Sd}:zuh g sd=noX (g sd):=rfl
theorem zmH (xs:List D) {k:Int} (h:0<=k):L3.zfX xs none (some k)=xs.take k.toNat:=by
 have e:=HT.zkt xs.length xs.length k.toNat
 rw [Int.toNat_of_nonneg h] at e
 unfold L3.zfX
 have e0:HT.sIx xs.length 0 none=0:=rfl
 rw [e0,e]
 simp
theorem ziq (xs:List D) {k:Int} (h:0<=k):L3.zfX xs (some k) none=xs.drop k.toNat:=by
 have e:=HT.zkt xs.length 0 k.toNat
 rw [Int.toNat_of_nonneg h] at e
 unfold L3.zfX
 have e0:HT.sIx xs.length xs.length none=xs.length:=rfl
 rw [e0,e]
 by_cases hk:k.toNat<=xs.length
 ·rw [Nat.min_eq_left hk,List.take_of_length_le (by rw [List.length_drop];omega)]
 ·rw [Nat.min_eq_right (by omega),List.drop_eq_nil_of_le (show xs.length<=k.toNat by omega)]
  simp
theorem zo4 (bs:List Bool):zs0 [.lst (bs.map D.bl)]=pure (.bl (bs.any id)):=by
 show (do let bs<-ofO (zlw (bs.map D.bl));pure (.bl (bs.any id)):M D)=_
 rw [zgo]
 rfl
theorem ztX {i j:Bool}:dEq (.bl i) (.bl j)=pure (.bl (i==j)):=by
 unfold dEq zhg
 simp only [pd]
 rw [qa4 (show zeI (.bool i) (.bool j)=true from rfl)]
 rfl
end L3
namespace K41
open PySem PySem.Spec PyProof.Rows L2 L3
noncomputable def zcq:List String:=["NoStock","NoOffer","NoThing","NoCover","NoPaper","NoNumber","NotFull","NotInRow","NoText","NoRow","TooMany"]
noncomputable def G_29:FS:=zal (sIf (zbM dLt (zae 1) (zau zek (zab (zae 0) zai))) (zbg (cOp dIx (zae 0) (zae 1))) zc9) (zbg (cOp zbb (cOp zdh (cK (.int 6151)) (zae 1)) (cK (.int 29))))
noncomputable def F_29:List D->M D:=zcN 2 G_29
theorem d_29 (x0 x1:D):F_29 [x0,x1]=(do let o<-G_29 [some x0,some x1];zcw o):=rfl
noncomputable def zdu:FS:=zal (za5 4 (cOp zml (cOp zbb (cOp zbb (cOp zbb (cOp zdh (zae 4) (cK (.int 48271))) (cOp zdh (cOp zdh (cK (.int 7)) (zae 5)) (zae 5))) (cOp zdh (cK (.int 11)) (zae 1))) (cK (.int 1))) (cK (.int 2147483647)))) (za5 3 (cOp zbb (cOp zdh (zae 3) (cK (.int 2147483647))) (zae 4)))
noncomputable def G_30:FS:=zal (za5 2 (zau (zaj 2 F_29) (zab (zae 0) (zab (zae 1) zai)))) (zal (sIf (zbM dEq (cOp zml (zae 2) (cK (.int 2))) (cK (.int 0))) (zbg (ziX (zab (cOp zl7 (zae 2) (cK (.int 2))) zai))) zc9) (zal (za5 3 (cK (.int 0))) (zal (za5 4 (cOp zml (zae 2) (cK (.int 2147483647)))) (zal (zhr (zhE (zab (cK (.int 24)) zai)) (zaM 5) zdu) (zbg (ziX (zab (zae 3) zai)))))))
noncomputable def F_30:List D->M D:=zcN 6 G_30
theorem d_30 (x0 x1:D):F_30 [x0,x1]=(do let o<-G_30 [some x0,some x1,none,none,none,none];zcw o):=rfl
noncomputable def G_31:FS:=zal (za5 2 (cOp zml (cOp dIx (zae 0) (cK (.int 0))) (zae 1))) (zal (zfS (cOp zl7 (cOp dIx (zae 0) (cK (.int 0))) (zae 1)) (zhR (zae 0) (cK (.int 0)))) (zbg (zae 2)))
noncomputable def F_31:List D->M D:=zcN 3 G_31
theorem d_31 (x0 x1:D):F_31 [x0,x1]=(do let o<-G_31 [some x0,some x1,none];zcw o):=rfl
noncomputable def zcl:FE:=zae 0
noncomputable def zch:FT:=zbM dEq (cOp zsw (cOp zsA (zae 1) (zae 0)) (cK (.int 1))) (cK (.int 1))
noncomputable def zck:FE:=cOp zml (cOp zbb (zae 1) (cOp zdh (zae 2) (zae 0))) (zae 3)
noncomputable def G_35:FS:=zal (za5 2 (zau (zaj 2 F_31) (zab (zae 0) (zab (cK (.int 3)) zai)))) (zal (sIf (zbM dEq (zae 2) (cK (.int 0))) (zal (za5 3 (cOp zbb (cK (.int 1)) (zau (zaj 2 F_31) (zab (zae 0) (zab (cOp zjt (cOp zsy (cK (.int 1)) (zae 1)) (cK (.int 1))) zai))))) (zbg (zau zcT (zab (zaB (zhE (zab (zae 1) zai)) (zaM 0) zch zcl [none,some 3]) zai)))) zc9) (zal (zfS (zaG (zab (zau (zaj 2 F_31) (zab (zae 0) (zab (zae 1) zai))) (zab (cOp dIx (zbo (zab (cK (.int 1)) (zab (cOp zbb (cK (.int 1)) (zau (zaj 2 F_31) (zab (zae 0) (zab (cK (.int 3)) zai)))) zai))) (cOp zjt (zae 2) (cK (.int 1)))) zai))) (zcX 2 (zaR (zaM 4) (zaR (zaM 5) zc7)))) (zbg (zau zcT (zab (cUn zcb (zaB (zhE (zab (cOp zbb (cK (.int 1)) (zau (zaj 2 F_31) (zab (zae 0) (zab (cK (.int 4)) zai)))) zai)) (zaM 0) (fun _=>pure true) zck [none,some 4,some 5,some 1])) zai)))))
noncomputable def F_35:List D->M D:=zcN 6 G_35
theorem d_35 (x0 x1:D):F_35 [x0,x1]=(do let o<-G_35 [some x0,some x1,none,none,none,none];zcw o):=rfl
noncomputable def zc5:FE:=ziX (zab (zau (zaj 2 F_35) (zab (zae 1) (zab (zae 2) zai))) (zab (cOp zbb (cK (.int 1)) (zau (zaj 2 F_31) (zab (zae 1) (zab (zae 3) zai)))) zai))
noncomputable def zeg:FE:=zae 0
noncomputable def zd2:FT:=zbM dIn (zae 1) (cOp dIx (zae 0) (cK (.int 0)))
noncomputable def zbF:FS:=sIf (zbM zpH (zaB (iSq (zae 5)) (zaM 0) zd2 zeg [none,some 6]) (zbo zai)) (zal (za5 7 (cOp dIx (zae 5) (zau (zaj 2 F_31) (zab (zae 0) (zab (zau zek (zab (zae 5) zai)) zai))))) (zfS (zau zcT (zab (zau zfp (zab (cOp zbb (cOp dIx (zae 7) (cK (.int 0))) (zaG (zab (zae 6) zai))) zai)) zai)) (zhR (zae 7) (cK (.int 0))))) zc9
noncomputable def zdR:FE:=zaG (zab (cOp dIx (zae 0) (cK (.int 0))) (zab (cOp dIx (zae 0) (cK (.int 1))) zai))
noncomputable def G_36:FS:=zal (za5 3 (cOp zbb (cK (.int 1)) (zau (zaj 2 F_31) (zab (zae 0) (zab (zae 1) zai))))) (zal (za5 4 (cOp dIx (zbo (zab (cK (.int 3)) (zab (cK (.int 9)) (zab (cK (.int 50)) (zab (cOp zr6 (cK (.int 10)) (cK (.int 12))) zai))))) (zau (zaj 2 F_31) (zab (zae 0) (zab (cK (.int 4)) zai))))) (zal (za5 5 (zaB (zhE (zab (cOp zbb (cK (.int 1)) (zau (zaj 2 F_31) (zab (zae 0) (zab (zae 2) zai)))) zai)) (zaM 0) (fun _=>pure true) zc5 [none,some 0,some 3,some 4])) (zal (zhr (zhE (zab (zae 3) zai)) (zaM 6) zbF) (zbg (zaG (zab (zae 3) (zab (zau zcT (zab (zaB (iSq (zae 5)) (zaM 0) (fun _=>pure true) zdR [none]) zai)) zai)))))))
noncomputable def F_36:List D->M D:=zcN 8 G_36
theorem d_36 (x0 x1 x2:D):F_36 [x0,x1,x2]=(do let o<-G_36 [some x0,some x1,some x2,none,none,none,none,none];zcw o):=rfl
noncomputable def zcy:FE:=zae 0
noncomputable def zcE:FT:=zbM dNe (zae 0) (zae 1)
noncomputable def zcD:FE:=zaG (zab (zau zcT (zab (zaB (iSq (zae 0)) (zaM 0) zcE zcy [none,some 2]) zai)) (zab (zae 1) zai))
noncomputable def zcx:FE:=zae 0
noncomputable def zcB:FT:=zbM dNe (cOp dIx (zae 0) (cK (.int 0))) (zaG zai)
noncomputable def G_37:FS:=zal (zfS (zae 1) (zcX 2 (zaR (zaM 2) (zaR (zaM 3) zc7)))) (zal (za5 4 (zau (zaj 2 F_31) (zab (zae 0) (zab (zae 2) zai)))) (zal (za5 5 (zaB (iSq (zae 3)) (zcX 2 (zaR (zaM 0) (zaR (zaM 1) zc7))) (fun _=>pure true) zcD [none,none,some 4])) (zbg (zaG (zab (zae 2) (zab (zau zcT (zab (zaB (iSq (zae 5)) (zaM 0) zcB zcx [none]) zai)) zai))))))
noncomputable def F_37:List D->M D:=zcN 6 G_37
theorem d_37 (x0 x1:D):F_37 [x0,x1]=(do let o<-G_37 [some x0,some x1,none,none,none,none];zcw o):=rfl
noncomputable def zdZ:FE:=zae 0
noncomputable def zdS:FT:=zne (zbM zbY (zae 0) (zae 1)) (zbM zbY (zae 0) (zae 2))
noncomputable def G_43:FS:=zbg (zaB (zhE (zab (zau zek (zab (cOp dIx (zae 0) (cK (.int 1))) zai)) zai)) (zaM 0) zdS zdZ [none,some 1,some 2])
noncomputable def F_43:List D->M D:=zcN 3 G_43
theorem d_43 (x0 x1 x2:D):F_43 [x0,x1,x2]=(do let o<-G_43 [some x0,some x1,some x2];zcw o):=rfl
noncomputable def zdv:FE:=zae 0
noncomputable def zdl:FT:=zbM zbY (zae 0) (zae 1)
noncomputable def zdn:FS:=za5 2 (cOp zbb (zae 2) (zaB (iSq (cOp dIx (cOp dIx (cOp dIx (zae 0) (cK (.int 1))) (zae 3)) (cK (.int 0)))) (zaM 0) zdl zdv [none,some 2]))
noncomputable def G_38:FS:=zal (za5 2 (zbo zai)) (zal (zhr (iSq (zae 1)) (zaM 3) zdn) (zbg (zau zcT (zab (zau zfp (zab (zae 2) zai)) zai))))
noncomputable def F_38:List D->M D:=zcN 4 G_38
theorem d_38 (x0 x1:D):F_38 [x0,x1]=(do let o<-G_38 [some x0,some x1,none,none];zcw o):=rfl
noncomputable def zaL:FT:=zbM dGt (zae 3) (cK (.int 0))
noncomputable def zaQ:FS:=zpl 2 3 (zab (zae 3) (zab (cOp zml (zae 2) (zae 3)) zai))
noncomputable def G_40:FS:=zal (zpl 2 3 (zab (zau zq9 (zab (zae 0) zai)) (zab (zau zq9 (zab (zae 1) zai)) zai))) (zal (zhq 20000 zaL zaQ) (zbg (zaG (zab (cOp zfa (zae 0) (zae 2)) (zab (cOp zfa (zae 1) (zae 2)) zai)))))
noncomputable def F_40:List D->M D:=zcN 4 G_40
theorem d_40 (x0 x1:D):F_40 [x0,x1]=(do let o<-G_40 [some x0,some x1,none,none];zcw o):=rfl
noncomputable def zct:FS:=zfS (zau (zaj 2 F_40) (zab (cOp zbb (cOp zca (zae 1) (cOp dIx (zae 3) (cK (.int 1)))) (cOp zca (cOp dIx (zae 3) (cK (.int 0))) (zae 2))) (zab (cOp zca (zae 2) (cOp dIx (zae 3) (cK (.int 1)))) zai))) (zcX 2 (zaR (zaM 1) (zaR (zaM 2) zc7)))
noncomputable def G_42:FS:=zal (zfS (zaG (zab (cK (.int 0)) (zab (cK (.int 1)) zai))) (zcX 2 (zaR (zaM 1) (zaR (zaM 2) zc7)))) (zal (zhr (iSq (zae 0)) (zaM 3) zct) (zbg (zaG (zab (zae 1) (zab (zae 2) zai)))))
noncomputable def F_42:List D->M D:=zcN 4 G_42
theorem d_42 (x0:D):F_42 [x0]=(do let o<-G_42 [some x0,none,none,none];zcw o):=rfl
noncomputable def zbV:FE:=zaG (zab (cK (.int 0)) (zab (cK (.int 1)) zai))
noncomputable def zcM:FE:=zae 0
noncomputable def zcL:FT:=zbM zbY (zae 0) (zae 1)
noncomputable def zcC:FE:=cOp dIx (cOp dIx (zae 1) (cK (.int 1))) (zae 0)
noncomputable def zcv:FE:=cOp dIx (zae 1) (zae 0)
noncomputable def zbd:FS:=sIf (zbM dIn (zae 6) (cOp dIx (zae 8) (cK (.int 0)))) (zal (zfS (zau (zaj 1 F_42) (zab (zaB (iSq (cOp dIx (zae 8) (cK (.int 0)))) (zaM 0) (fun _=>pure true) zcv [none,some 5]) zai)) (zcX 2 (zaR (zaM 9) (zaR (zaM 10) zc7)))) (zal (za5 11 (zau (zaj 2 F_40) (zab (cOp zjt (cOp zca (cOp dIx (zae 8) (cK (.int 1))) (zae 10)) (zae 9)) (zab (zae 10) zai)))) (sIf (tOr (zbM zjb (zae 7) (cK .non)) (zbM dLt (cOp zca (cOp dIx (zae 11) (cK (.int 0))) (cOp dIx (zae 7) (cK (.int 1)))) (cOp zca (cOp dIx (zae 7) (cK (.int 0))) (cOp dIx (zae 11) (cK (.int 1)))))) (za5 7 (zae 11)) zc9))) zc9
noncomputable def zbU:FS:=zal (za5 7 (cK .non)) (zal (zhr (iSq (zaB (iSq (zau (zaj 3 F_43) (zab (zae 1) (zab (zae 2) (zab (zae 3) zai))))) (zaM 0) (fun _=>pure true) zcC [none,some 1])) (zaM 8) zbd) (zal (za5 7 (cIf (zbM zjb (zae 7) (cK .non)) (zaG (zab (cK (.int 9)) (zab (cK (.int 1)) zai))) (zae 7))) (zfS (cOp dIx (zbo (zab (zae 7) (zab (zae 7) (zab (zau (zaj 2 F_40) (zab (cOp dIx (zae 7) (cK (.int 0))) (zab (cOp zca (cOp dIx (zae 7) (cK (.int 1))) (cK (.int 2))) zai))) zai)))) (zau (zaj 2 F_31) (zab (zae 0) (zab (cK (.int 3)) zai)))) (zhR (zae 5) (zae 6)))))
noncomputable def G_44:FS:=zal (za5 4 (zau (zaj 2 F_38) (zab (zae 1) (zab (zae 2) zai)))) (zal (za5 5 (zh4 (zhE (zab (cOp dIx (zae 1) (cK (.int 0))) zai)) (zaM 0) (fun _=>pure true) zbV [none])) (zal (zhr (iSq (zaB (zhE (zab (cOp dIx (zae 1) (cK (.int 0))) zai)) (zaM 0) zcL zcM [none,some 4])) (zaM 6) zbU) (zbg (zaG (zab (cK (.str "bear")) (zab (zau zcT (zab (zae 5) zai)) zai))))))
noncomputable def F_44:List D->M D:=zcN 12 G_44
theorem d_44 (x0 x1 x2 x3:D):F_44 [x0,x1,x2,x3]=(do let o<-G_44 [some x0,some x1,some x2,some x3,none,none,none,none,none,none,none,none];zcw o):=rfl
noncomputable def G_45 (F_45:List D->M D):FS:=zal (za5 5 (zau (zaj 3 F_43) (zab (zae 1) (zab (zae 2) (zab (zae 3) zai))))) (zal (sIf (tOr (zbM dEq (zae 4) (cK (.int 0))) (tOr (zbM dEq (zae 5) (zbo zai)) (zbM dEq (zau (zaj 2 F_31) (zab (zae 0) (zab (cK (.int 4)) zai))) (cK (.int 0))))) (zbg (zau (zaj 4 F_44) (zab (zae 0) (zab (zae 1) (zab (zae 2) (zab (zae 3) zai)))))) zc9) (zal (za5 6 (cOp dIx (zae 5) (zau (zaj 2 F_31) (zab (zae 0) (zab (zau zek (zab (zae 5) zai)) zai))))) (zal (za5 7 (zau (zaj 5 F_45) (zab (zae 0) (zab (zae 1) (zab (cOp zbb (zae 2) (zbo (zab (zae 6) zai))) (zab (zae 3) (zab (cOp zjt (zae 4) (cK (.int 1))) zai))))))) (zbg (zaG (zab (cK (.str "cases")) (zab (zae 6) (zab (zae 7) (zab (zau (zaj 5 F_45) (zab (zae 0) (zab (zae 1) (zab (zae 2) (zab (cOp zbb (zae 3) (zbo (zab (zae 6) zai))) (zab (cOp zjt (zae 4) (cK (.int 1))) zai)))))) zai)))))))))
noncomputable def F_45:Nat->List D->M D
 | 0=>fun _=>M.bad
 | k+1=>zcN 8 (G_45 (F_45 k))
theorem d_45 (k:Nat) (x0 x1 x2 x3 x4:D):F_45 (k+1) [x0,x1,x2,x3,x4]=(do let o<-G_45 (F_45 k) [some x0,some x1,some x2,some x3,some x4,none,none,none];zcw o):=rfl
noncomputable def G_32:FS:=zbg (zhO (cUn (zfm "int") (zae 0)) (zpr (cUn (zfm "bool") (zae 0))))
noncomputable def F_32:List D->M D:=zcN 1 G_32
theorem d_32 (x0:D):F_32 [x0]=(do let o<-G_32 [some x0];zcw o):=rfl
noncomputable def G_41:FS:=zal (sIf (tOr (zeR (zfB (cUn (zfm "tuple") (zae 0)))) (tOr (zbM dNe (zau zek (zab (zae 0) zai)) (cK (.int 2))) (tOr (zeR (zfB (zau (zaj 1 F_32) (zab (cOp dIx (zae 0) (cK (.int 0))) zai)))) (zeR (zfB (zau (zaj 1 F_32) (zab (cOp dIx (zae 0) (cK (.int 1))) zai))))))) (zbg (cK (.bl false))) zc9) (zbg (zhO (cOp dGt (cOp dIx (zae 0) (cK (.int 1))) (cK (.int 0))) (cOp dEq (zau (zaj 2 F_40) (zab (cOp dIx (zae 0) (cK (.int 0))) (zab (cOp dIx (zae 0) (cK (.int 1))) zai))) (zae 0))))
noncomputable def F_41:List D->M D:=zcN 1 G_41
theorem d_41 (x0:D):F_41 [x0]=(do let o<-G_41 [some x0];zcw o):=rfl
noncomputable def zdE:FE:=cOp dIx (cOp dIx (cOp dIx (zae 1) (cK (.int 1))) (zae 0)) (cK (.int 1))
noncomputable def G_39:FS:=zbg (zau zpk (zab (zaB (iSq (zae 1)) (zaM 0) (fun _=>pure true) zdE [none,some 0]) zai))
noncomputable def F_39:List D->M D:=zcN 2 G_39
theorem d_39 (x0 x1:D):F_39 [x0,x1]=(do let o<-G_39 [some x0,some x1];zcw o):=rfl
noncomputable def zbS:FE:=zhO (zau (zaj 1 F_41) (zab (zae 0) zai)) (cOp dGe (cOp dIx (zae 0) (cK (.int 0))) (cK (.int 0)))
noncomputable def zcJ:FE:=zae 0
noncomputable def zcA:FT:=zbM dNe (cOp dIx (cOp dIx (zae 1) (cK (.int 1))) (zae 0)) (zaG (zab (cK (.int 0)) (zab (cK (.int 1)) zai)))
noncomputable def zcG:FE:=cOp dIx (cOp dIx (zae 1) (cK (.int 1))) (zae 0)
noncomputable def zbs:FS:=zal (zfS (zau (zaj 1 F_42) (zab (zaB (iSq (cOp dIx (cOp dIx (cOp dIx (zae 0) (cK (.int 1))) (zae 5)) (cK (.int 0)))) (zaM 0) (fun _=>pure true) zcG [none,some 1]) zai)) (zcX 2 (zaR (zaM 6) (zaR (zaM 7) zc7)))) (sIf (zbM dGt (zae 6) (cOp zca (cOp dIx (cOp dIx (cOp dIx (zae 0) (cK (.int 1))) (zae 5)) (cK (.int 1))) (zae 7))) (zbg (cK .non)) zc9)
noncomputable def G_46 (F_46:List D->M D):FS:=zal (sIf (tOr (zeR (zfB (cUn (zfm "tuple") (zae 1)))) (tOr (zbM dEq (zae 1) (zaG zai)) (zeR (zfB (cUn (zfm "str") (cOp dIx (zae 1) (cK (.int 0)))))))) (zbg (cK .non)) zc9) (zal (sIf (zbM dEq (cOp dIx (zae 1) (cK (.int 0))) (cK (.str "bear"))) (zal (za5 4 (zhO (cOp dEq (zau zek (zab (zae 1) zai)) (cK (.int 2))) (zhO (cUn (zfm "tuple") (cOp dIx (zae 1) (cK (.int 1)))) (cOp dEq (zau zek (zab (cOp dIx (zae 1) (cK (.int 1))) zai)) (cOp dIx (zae 0) (cK (.int 0))))))) (zal (sIf (tOr (zeR (zfB (zae 4))) (zeR (zfB (zau zqy (zab (zaB (iSq (cOp dIx (zae 1) (cK (.int 1)))) (zaM 0) (fun _=>pure true) zbS [none]) zai))))) (zbg (cK .non)) zc9) (zal (sIf (zbM dNe (zaB (iSq (zau (zaj 2 F_38) (zab (zae 0) (zab (zae 2) zai)))) (zaM 0) zcA zcJ [none,some 1]) (zbo zai)) (zbg (cK .non)) zc9) (zal (zhr (iSq (zau (zaj 3 F_43) (zab (zae 0) (zab (zae 2) (zab (zae 3) zai))))) (zaM 5) zbs) (zbg (zau (zaj 1 F_42) (zab (cOp zbb (zau zfz (zab (cOp dIx (zae 1) (cK (.int 1))) zai)) (zbo (zab (zaG (zab (zau (zaj 2 F_39) (zab (zae 0) (zab (zae 2) zai))) (zab (cK (.int 1)) zai))) zai))) zai))))))) zc9) (zal (sIf (tOr (zbM dNe (cOp dIx (zae 1) (cK (.int 0))) (cK (.str "cases"))) (tOr (zbM dNe (zau zek (zab (zae 1) zai)) (cK (.int 4))) (zeR (zfB (zau (zaj 1 F_32) (zab (cOp dIx (zae 1) (cK (.int 1))) zai)))))) (zbg (cK .non)) zc9) (zal (sIf (zbM zbY (cOp dIx (zae 1) (cK (.int 1))) (zau (zaj 3 F_43) (zab (zae 0) (zab (zae 2) (zab (zae 3) zai))))) (zbg (cK .non)) zc9) (zal (za5 8 (zau (zaj 4 F_46) (zab (zae 0) (zab (cOp dIx (zae 1) (cK (.int 2))) (zab (cOp zbb (zae 2) (zbo (zab (cOp dIx (zae 1) (cK (.int 1))) zai))) (zab (zae 3) zai)))))) (zal (za5 9 (zau (zaj 4 F_46) (zab (zae 0) (zab (cOp dIx (zae 1) (cK (.int 3))) (zab (zae 2) (zab (cOp zbb (zae 3) (zbo (zab (cOp dIx (zae 1) (cK (.int 1))) zai))) zai)))))) (zal (sIf (tOr (zbM zjb (zae 8) (cK .non)) (zbM zjb (zae 9) (cK .non))) (zbg (cK .non)) zc9) (zbg (cIf (zbM dLe (cOp zca (cOp dIx (zae 8) (cK (.int 0))) (cOp dIx (zae 9) (cK (.int 1)))) (cOp zca (cOp dIx (zae 9) (cK (.int 0))) (cOp dIx (zae 8) (cK (.int 1))))) (zae 8) (zae 9)))))))))
noncomputable def F_46:Nat->List D->M D
 | 0=>fun _=>M.bad
 | k+1=>zcN 10 (G_46 (F_46 k))
theorem d_46 (k:Nat) (x0 x1 x2 x3:D):F_46 (k+1) [x0,x1,x2,x3]=(do let o<-G_46 (F_46 k) [some x0,some x1,some x2,some x3,none,none,none,none,none,none];zcw o):=rfl
noncomputable def G_47 (F_47:List D->M D):FS:=zal (sIf (zne (zbM dEq (cOp dIx (zae 1) (cK (.int 0))) (cK (.str "cases"))) (zbM dGt (zau (zaj 2 F_31) (zab (zae 0) (zab (cK (.int 3)) zai))) (cK (.int 0)))) (zal (za5 2 (zbo (zab (cOp zbb (zaG (zab (cOp dIx (zae 1) (cK (.int 0))) (zab (zau (zaj 2 F_31) (zab (zae 0) (zab (cK (.int 10)) zai))) zai))) (cSl (zae 1) (zbt (cK (.int 2))) zbx)) (zab (cOp zbb (cSl (zae 1) zbx (zbt (cK (.int 2)))) (zaG (zab (cOp dIx (zae 1) (cK (.int 3))) (zab (cOp dIx (zae 1) (cK (.int 2))) zai)))) (zab (cSl (zae 1) zbx (zbt (cK (.int 3)))) (zab (cOp zbb (zae 1) (zaG (zab (cK (.int 0)) zai))) zai)))))) (zal (za5 2 (cOp zbb (zae 2) (zbo (zab (cOp zbb (cSl (zae 1) zbx (zbt (cK (.int 2)))) (zaG (zab (zau (zaj 2 F_47) (zab (zae 0) (zab (cOp dIx (zae 1) (cK (.int 2))) zai))) (zab (cOp dIx (zae 1) (cK (.int 3))) zai)))) (zab (cOp zbb (cSl (zae 1) zbx (zbt (cK (.int 3)))) (zaG (zab (zau (zaj 2 F_47) (zab (zae 0) (zab (cOp dIx (zae 1) (cK (.int 3))) zai))) zai))) zai))))) (zbg (cOp dIx (cOp zbb (zae 2) (zbo (zab (cOp zbb (cSl (zae 1) zbx (zbt (cK (.int 2)))) (zaG (zab (cOp dIx (zae 1) (cK (.int 2))) (zab (cOp dIx (zae 1) (cK (.int 2))) zai)))) zai))) (zau (zaj 2 F_31) (zab (zae 0) (zab (cK (.int 7)) zai))))))) zc9) (zal (za5 2 (zbo (zab (zau zfz (zab (zae 1) zai)) (zab (cSl (zae 1) zbx (zbt (cK (.int 1)))) (zab (cOp zbb (zae 1) (cSl (zae 1) (zbt (cUn zju (cK (.int 1)))) zbx)) (zab (cOp zbb (zaG (zab (cK (.str "case")) zai)) (cSl (zae 1) (zbt (cK (.int 1))) zbx)) (zab (cK .non) (zab (zaG zai) (zab (cUn znF (zae 1)) (zab (zaG (zab (cK (.str "bear")) (zab (cK .non) zai))) zai)))))))))) (zal (sIf (zbM dEq (cOp dIx (zae 1) (cK (.int 0))) (cK (.str "bear"))) (zal (za5 3 (zau (zaj 2 F_31) (zab (zae 0) (zab (zau zek (zab (cOp dIx (zae 1) (cK (.int 1))) zai)) zai)))) (zal (zfS (cOp dIx (cOp dIx (zae 1) (cK (.int 1))) (zae 3)) (zcX 2 (zaR (zaM 4) (zaR (zaM 5) zc7)))) (zal (za5 6 (zbo (zab (zaG (zab (cOp zbb (zae 4) (zae 5)) (zab (zae 5) zai))) (zab (zaG (zab (zae 4) (zab (cOp zdh (zae 5) (cK (.int 3))) zai))) (zab (zaG (zab (cUn zju (cK (.int 1))) (zab (cK (.int 1)) zai))) (zab (zaG (zab (cK (.int 2)) (zab (cK (.int 0)) zai))) (zab (zaG (zab (cK (.bl true)) (zab (cK (.int 1)) zai))) (zab (cK .non) (zab (zaG (zab (cOp zdh (cK (.int 2)) (zae 4)) (zab (cOp zdh (cK (.int 2)) (zae 5)) zai))) zai))))))))) (zal (za5 7 (cOp zbb (cOp zbb (cSl (cOp dIx (zae 1) (cK (.int 1))) zbx (zbt (zae 3))) (zaG (zab (cOp dIx (cOp zbb (zae 6) (zbo (zab (zaG (zab (cK (.int 7)) (zab (cK (.int 1)) zai))) zai))) (zau (zaj 2 F_31) (zab (zae 0) (zab (cK (.int 8)) zai)))) zai))) (cSl (cOp dIx (zae 1) (cK (.int 1))) (zbt (cOp zbb (zae 3) (cK (.int 1)))) zbx))) (za5 2 (cOp zbb (zae 2) (zbo (zab (zaG (zab (cK (.str "bear")) (zab (zae 7) zai))) (zab (zaG (zab (cK (.str "bear")) (zab (zae 7) zai))) (zab (zaG (zab (cK (.str "bear")) (zab (zae 7) zai))) (zab (zaG (zab (cK (.str "bear")) (zab (zau zfz (zab (zae 7) zai)) zai))) (zab (zaG (zab (cK (.str "bear")) (zab (cSl (zae 7) (zbt (cK (.int 1))) zbx) zai))) zai)))))))))))) zc9) (zbg (cOp dIx (zae 2) (zau (zaj 2 F_31) (zab (zae 0) (zab (zau zek (zab (zae 2) zai)) zai)))))))
noncomputable def F_47:Nat->List D->M D
 | 0=>fun _=>M.bad
 | k+1=>zcN 8 (G_47 (F_47 k))
theorem d_47 (k:Nat) (x0 x1:D):F_47 (k+1) [x0,x1]=(do let o<-G_47 (F_47 k) [some x0,some x1,none,none,none,none,none,none];zcw o):=rfl
noncomputable def G_33:FS:=zal (za5 1 (zbo (zab (cK .non) (zab (cK (.bl true)) (zab (cK (.int 7)) (zab (cK (.str "")) (zab (cK (.str "0")) (zab (zaG zai) (zab (zbo zai) (zab (cK .dct) (zab (zaG (zab (cK (.int 1)) (zab (cK (.int 2)) zai))) (zab (zaG (zab (cK (.int 0)) zai)) (zab (zaG (zab (cK (.int 1)) (zab (cK (.int 0)) zai))) (zab (cUn zju (cK (.int 1))) (zab (zaG (zab (cK (.int 0)) (zab (cK (.int 1)) zai))) (zab (zbo (zab (zaG (zab (cK (.int 1)) (zab (cK (.int 0)) (zab (cK (.int 1)) zai)))) zai)) (zab (cK (.bl false)) (zab (zaG (zab (zaG (zab (cK (.int 0)) (zab (cK (.int 1)) zai))) zai)) zai)))))))))))))))))) (zbg (cOp dIx (zae 1) (zau (zaj 2 F_31) (zab (zae 0) (zab (cK (.int 16)) zai)))))
noncomputable def F_33:List D->M D:=zcN 2 G_33
theorem d_33 (x0:D):F_33 [x0]=(do let o<-G_33 [some x0,none];zcw o):=rfl
noncomputable def zgv:FE:=zau zoB (zab (zae 0) zai)
noncomputable def G_34:FS:=zal (za5 1 (zbo (zab (cUn (zjr zcq "NoStock") (zae 0)) (zab (cUn (zjr zcq "NoOffer") (zae 0)) (zab (cUn (zjr zcq "NoThing") (zae 0)) (zab (cUn (zjr zcq "NoCover") (zae 0)) zai)))))) (zal (za5 1 (cOp zbb (zae 1) (zbo (zab (cUn (zjr zcq "NoPaper") (zae 0)) (zab (cUn (zjr zcq "NoNumber") (zae 0)) (zab (cUn (zjr zcq "NotFull") (zae 0)) (zab (cUn (zjr zcq "NotInRow") (zae 0)) zai))))))) (zal (za5 1 (cOp zbb (zae 1) (zbo (zab (cUn (zjr zcq "NoText") (zae 0)) (zab (cUn (zjr zcq "NoRow") (zae 0)) (zab (cUn (zjr zcq "TooMany") (zae 0)) zai)))))) (zal (sIf (tOr (zeR (zfB (cUn (zpt zcq) (zae 0)))) (zbM dNe (zau zpk (zab (zaB (iSq (zae 1)) (zaM 0) (fun _=>pure true) zgv [none]) zai)) (cK (.int 1)))) (zbg (cK (.str "! none of the classes"))) zc9) (zal (za5 2 (zbo (zab (cK (.str "stock")) (zab (cK (.str "offer")) (zab (cK (.str "thing")) (zab (cK (.str "cover")) (zab (cK (.str "paper")) (zab (cK (.str "number")) (zab (cK (.str "full")) (zab (cK (.str "in row")) (zab (cK (.str "text")) (zab (cK (.str "row")) (zab (cK (.str "many")) zai))))))))))))) (zbg (cOp zbb (cK (.str "! ")) (cOp dIx (zae 2) (cUn zqe (zae 1)))))))))
noncomputable def F_34:List D->M D:=zcN 3 G_34
theorem d_34 (x0:D):F_34 [x0]=(do let o<-G_34 [some x0,none,none];zcw o):=rfl
noncomputable def G_0:FS:=zbg (zhO (cUn (zfm "int") (zae 0)) (zpr (cUn (zfm "bool") (zae 0))))
noncomputable def F_0:List D->M D:=zcN 1 G_0
theorem d_0 (x0:D):F_0 [x0]=(do let o<-G_0 [some x0];zcw o):=rfl
noncomputable def G_1:FS:=zbg (zhO (cUn (zfm "tuple") (zae 0)) (cOp dEq (zau zek (zab (zae 0) zai)) (cK (.int 2))))
noncomputable def F_1:List D->M D:=zcN 1 G_1
theorem d_1 (x0:D):F_1 [x0]=(do let o<-G_1 [some x0];zcw o):=rfl
noncomputable def zak:FT:=zbM dGt (zae 3) (cK (.int 0))
noncomputable def zao:FS:=zal (za5 4 (cOp zml (zae 2) (zae 3))) (zal (za5 2 (zae 3)) (za5 3 (zae 4)))
noncomputable def G_3:FS:=zal (za5 2 (zae 0)) (zal (za5 3 (zae 1)) (zal (zhq 20000 zak zao) (zbg (zae 2))))
noncomputable def F_3:List D->M D:=zcN 5 G_3
theorem d_3 (x0 x1:D):F_3 [x0,x1]=(do let o<-G_3 [some x0,some x1,none,none,none];zcw o):=rfl
noncomputable def G_5:FS:=zal (sIf (tOr (zeR (zfB (zau (zaj 1 F_1) (zab (zae 0) zai)))) (tOr (zeR (zfB (zau (zaj 1 F_0) (zab (cOp dIx (zae 0) (cK (.int 0))) zai)))) (zeR (zfB (zau (zaj 1 F_0) (zab (cOp dIx (zae 0) (cK (.int 1))) zai)))))) (zbg (cK (.bl false))) zc9) (zbg (zhO (cOp dGt (cOp dIx (zae 0) (cK (.int 1))) (cK (.int 0))) (cOp dEq (zau (zaj 2 F_3) (zab (cOp dIx (zae 0) (cK (.int 0))) (zab (cOp dIx (zae 0) (cK (.int 1))) zai))) (cK (.int 1)))))
noncomputable def F_5:List D->M D:=zcN 1 G_5
theorem d_5 (x0:D):F_5 [x0]=(do let o<-G_5 [some x0];zcw o):=rfl
noncomputable def G_21:FS:=zbg (zhO (zau (zaj 1 F_5) (zab (zae 0) zai)) (cOp dGe (cOp dIx (zae 0) (cK (.int 0))) (cK (.int 0))))
noncomputable def F_21:List D->M D:=zcN 1 G_21
theorem d_21 (x0:D):F_21 [x0]=(do let o<-G_21 [some x0];zcw o):=rfl
noncomputable def zcF:FE:=zau (zaj 1 F_21) (zab (zae 0) zai)
noncomputable def G_20:FS:=zal (sIf (tOr (zeR (zfB (cUn (zfm "tuple") (zae 0)))) (zbM dNe (zau zek (zab (zae 0) zai)) (zae 1))) (zbg (cK (.bl false))) zc9) (zbg (zau zqy (zab (zaB (iSq (zae 0)) (zaM 0) (fun _=>pure true) zcF [none]) zai)))
noncomputable def F_20:List D->M D:=zcN 2 G_20
theorem d_20 (x0 x1:D):F_20 [x0,x1]=(do let o<-G_20 [some x0,some x1];zcw o):=rfl
noncomputable def za7:FS:=zn8 (zhL (zae 1) (cOp dIx (zae 2) (cK (.int 0))))
noncomputable def G_19:FS:=zal (za5 1 (ziX zai)) (zal (zhr (iSq (zae 0)) (zaM 2) za7) (zbg (zau zcT (zab (cUn zcb (zae 1)) zai))))
noncomputable def F_19:List D->M D:=zcN 3 G_19
theorem d_19 (x0:D):F_19 [x0]=(do let o<-G_19 [some x0,none,none];zcw o):=rfl
noncomputable def zbT:FE:=cOp dIx (cOp dIx (zae 1) (cK (.int 1))) (zae 0)
noncomputable def G_27:FS:=zbg (zau (zaj 1 F_19) (zab (zaB (iSq (zae 1)) (zaM 0) (fun _=>pure true) zbT [none,some 0]) zai))
noncomputable def F_27:List D->M D:=zcN 2 G_27
theorem d_27 (x0 x1:D):F_27 [x0,x1]=(do let o<-G_27 [some x0,some x1];zcw o):=rfl
noncomputable def zdi:FE:=zae 0
noncomputable def zdr:FT:=zne (zbM zbY (zae 0) (zae 1)) (zbM zbY (zae 0) (zae 2))
noncomputable def G_26:FS:=zbg (zaB (zhE (zab (zau zek (zab (cOp dIx (zae 0) (cK (.int 1))) zai)) zai)) (zaM 0) zdr zdi [none,some 1,some 2])
noncomputable def F_26:List D->M D:=zcN 3 G_26
theorem d_26 (x0 x1 x2:D):F_26 [x0,x1,x2]=(do let o<-G_26 [some x0,some x1,some x2];zcw o):=rfl
noncomputable def G_2:FS:=zal (za5 2 (zau (zaj 2 F_3) (zab (zae 0) (zab (zae 1) zai)))) (zbg (zaG (zab (cOp zfa (zae 0) (zae 2)) (zab (cOp zfa (zae 1) (zae 2)) zai))))
noncomputable def F_2:List D->M D:=zcN 3 G_2
theorem d_2 (x0 x1:D):F_2 [x0,x1]=(do let o<-G_2 [some x0,some x1,none];zcw o):=rfl
noncomputable def zcu:FS:=zal (za5 1 (cOp zbb (cOp zca (zae 1) (cOp dIx (zae 3) (cK (.int 1)))) (cOp zca (cOp dIx (zae 3) (cK (.int 0))) (zae 2)))) (za5 2 (cOp zca (zae 2) (cOp dIx (zae 3) (cK (.int 1)))))
noncomputable def G_6:FS:=zal (za5 1 (cK (.int 0))) (zal (za5 2 (cK (.int 1))) (zal (zhr (iSq (zae 0)) (zaM 3) zcu) (zbg (zau (zaj 2 F_2) (zab (zae 1) (zab (zae 2) zai))))))
noncomputable def F_6:List D->M D:=zcN 4 G_6
theorem d_6 (x0:D):F_6 [x0]=(do let o<-G_6 [some x0,none,none,none];zcw o):=rfl
noncomputable def G_4:FS:=zbg (cOp dLt (cOp zca (cOp dIx (zae 0) (cK (.int 0))) (cOp dIx (zae 1) (cK (.int 1)))) (cOp zca (cOp dIx (zae 1) (cK (.int 0))) (cOp dIx (zae 0) (cK (.int 1)))))
noncomputable def F_4:List D->M D:=zcN 2 G_4
theorem d_4 (x0 x1:D):F_4 [x0,x1]=(do let o<-G_4 [some x0,some x1];zcw o):=rfl
noncomputable def zeC:FE:=cOp dIx (zae 1) (zae 0)
noncomputable def G_22:FS:=zal (za5 2 (zau (zaj 1 F_6) (zab (zaB (iSq (cOp dIx (zae 0) (cK (.int 0)))) (zaM 0) (fun _=>pure true) zeC [none,some 1]) zai))) (zbg (zpr (zau (zaj 2 F_4) (zab (zaG (zab (cOp dIx (zae 0) (cK (.int 1))) (zab (cK (.int 1)) zai))) (zab (zae 2) zai)))))
noncomputable def F_22:List D->M D:=zcN 3 G_22
theorem d_22 (x0 x1:D):F_22 [x0,x1]=(do let o<-G_22 [some x0,some x1,none];zcw o):=rfl
noncomputable def zeH:FE:=cOp dIx (cOp dIx (cOp dIx (zae 1) (cK (.int 1))) (zae 0)) (cK (.int 1))
noncomputable def G_28:FS:=zbg (zau zpk (zab (zaB (iSq (zae 1)) (zaM 0) (fun _=>pure true) zeH [none,some 0]) zai))
noncomputable def F_28:List D->M D:=zcN 2 G_28
theorem d_28 (x0 x1:D):F_28 [x0,x1]=(do let o<-G_28 [some x0,some x1];zcw o):=rfl
noncomputable def zbz:FE:=cOp dNe (cOp dIx (zae 1) (zae 0)) (zaG (zab (cK (.int 0)) (zab (cK (.int 1)) zai)))
noncomputable def zb3:FE:=zau (zaj 2 F_22) (zab (cOp dIx (cOp dIx (zae 1) (cK (.int 1))) (zae 0)) (zab (zae 2) zai))
noncomputable def G_25:FS:=zal (sIf (zeR (zfB (zau (zaj 2 F_20) (zab (zae 2) (zab (cOp dIx (zae 0) (cK (.int 0))) zai))))) (zbg (cK (.bl false))) zc9) (zal (sIf (zfB (zau zs0 (zab (zaB (iSq (zau (zaj 2 F_27) (zab (zae 0) (zab (zae 3) zai)))) (zaM 0) (fun _=>pure true) zbz [none,some 2]) zai))) (zbg (cK (.bl false))) zc9) (zal (sIf (zeR (zfB (zau zqy (zab (zaB (iSq (zau (zaj 3 F_26) (zab (zae 0) (zab (zae 3) (zab (zae 4) zai))))) (zaM 0) (fun _=>pure true) zb3 [none,some 0,some 2]) zai)))) (zbg (cK (.bl false))) zc9) (zal (za5 5 (zau (zaj 1 F_6) (zab (cOp zbb (zae 2) (zaG (zab (zaG (zab (zau (zaj 2 F_28) (zab (zae 0) (zab (zae 3) zai))) (zab (cK (.int 1)) zai))) zai))) zai))) (zbg (zpr (zau (zaj 2 F_4) (zab (zae 5) (zab (zae 1) zai))))))))
noncomputable def F_25:List D->M D:=zcN 6 G_25
theorem d_25 (x0 x1 x2 x3 x4:D):F_25 [x0,x1,x2,x3,x4]=(do let o<-G_25 [some x0,some x1,some x2,some x3,some x4,none];zcw o):=rfl
noncomputable def G_24 (F_24:List D->M D):FS:=zal (sIf (tOr (zeR (zfB (cUn (zfm "tuple") (zae 2)))) (zbM zbY (zau zek (zab (zae 2) zai)) (zaG (zab (cK (.int 2)) (zab (cK (.int 4)) zai))))) (zbg (cK (.bl false))) zc9) (zal (sIf (zbM dEq (zau zek (zab (zae 2) zai)) (cK (.int 2))) (zbg (zhO (cOp dEq (cOp dIx (zae 2) (cK (.int 0))) (cK (.str "bear"))) (zau (zaj 5 F_25) (zab (zae 0) (zab (zae 1) (zab (cOp dIx (zae 2) (cK (.int 1))) (zab (zae 3) (zab (zae 4) zai)))))))) zc9) (zal (za5 5 (cOp dIx (zae 2) (cK (.int 1)))) (zal (sIf (tOr (zbM dNe (cOp dIx (zae 2) (cK (.int 0))) (cK (.str "cases"))) (tOr (zeR (zfB (zau (zaj 1 F_0) (zab (zae 5) zai)))) (zbM zbY (zae 5) (zau (zaj 3 F_26) (zab (zae 0) (zab (zae 3) (zab (zae 4) zai))))))) (zbg (cK (.bl false))) zc9) (zal (sIf (zeR (zfB (zau (zaj 5 F_24) (zab (zae 0) (zab (zae 1) (zab (cOp dIx (zae 2) (cK (.int 2))) (zab (cOp zbb (zae 3) (zaG (zab (zae 5) zai))) (zab (zae 4) zai)))))))) (zbg (cK (.bl false))) zc9) (zbg (zau (zaj 5 F_24) (zab (zae 0) (zab (zae 1) (zab (cOp dIx (zae 2) (cK (.int 3))) (zab (zae 3) (zab (cOp zbb (zae 4) (zaG (zab (zae 5) zai))) zai)))))))))))
noncomputable def F_24:Nat->List D->M D
 | 0=>fun _=>M.bad
 | k+1=>zcN 6 (G_24 (F_24 k))
theorem d_24 (k:Nat) (x0 x1 x2 x3 x4:D):F_24 (k+1) [x0,x1,x2,x3,x4]=(do let o<-G_24 (F_24 k) [some x0,some x1,some x2,some x3,some x4,none];zcw o):=rfl
noncomputable def G_23:FS:=zal (sIf (zeR (zfB (zau (zaj 1 fun ds=>noX (F_5 ds)) (zab (zae 1) zai)))) (ziy "NoNumber") zc9) (zbg (zau (zaj 5 fun ds=>noX (F_24 8 ds)) (zab (zae 0) (zab (zae 1) (zab (zae 2) (zab (zaG zai) (zab (zaG zai) zai)))))))
noncomputable def F_23:List D->M D:=zcN 3 G_23
theorem d_23 (x0 x1 x2:D):F_23 [x0,x1,x2]=(do let o<-G_23 [some x0,some x1,some x2];zcw o):=rfl
noncomputable def G_48:FS:=zh0 zcq (zbg (zau (zaj 3 F_23) (zab (zae 0) (zab (zae 1) (zab (zae 2) zai))))) F_34
noncomputable def F_48:List D->M D:=zcN 4 G_48
theorem d_48 (x0 x1 x2:D):F_48 [x0,x1,x2]=(do let o<-G_48 [some x0,some x1,some x2,none];zcw o):=rfl
noncomputable def G_49:FS:=zal (za5 3 (zau (zaj 4 (F_46 8)) (zab (zae 0) (zab (zae 2) (zab (zbo zai) (zab (zbo zai) zai)))))) (zal (za5 4 (zau (zaj 3 F_48) (zab (zae 0) (zab (zae 1) (zab (zae 2) zai))))) (zal (za5 5 (zhO (cOp zjF (zae 3) (cK .non)) (cOp dGe (cOp zca (cOp dIx (zae 3) (cK (.int 0))) (cOp dIx (zae 1) (cK (.int 1)))) (cOp zca (cOp dIx (zae 1) (cK (.int 0))) (cOp dIx (zae 3) (cK (.int 1))))))) (zbg (zhO (cUn (zfm "bool") (zae 4)) (cOp dEq (zae 4) (zae 5))))))
noncomputable def F_49:List D->M D:=zcN 6 G_49
theorem d_49 (x0 x1 x2:D):F_49 [x0,x1,x2]=(do let o<-G_49 [some x0,some x1,some x2,none,none,none];zcw o):=rfl
noncomputable def zgb:FS:=sIf (zeR (zfB (zau (zaj 3 F_49) (zab (zae 3) (zab (zae 7) (zab (zae 8) zai)))))) (zbg (cK (.bl false))) zc9
noncomputable def zdj:FS:=zhr (iSq (zbo (zab (zae 4) (zab (zau (zaj 2 (F_47 8)) (zab (zae 2) (zab (zae 4) zai))) (zab (zau (zaj 2 (F_47 8)) (zab (zae 2) (zab (zae 4) zai))) (zab (zau (zaj 1 F_33) (zab (zae 2) zai)) zai)))))) (zaM 8) zgb
noncomputable def zfd:FS:=zal (za5 2 (zau (zaj 2 F_30) (zab (zae 0) (zab (zae 1) zai)))) (zal (za5 3 (zau (zaj 3 F_36) (zab (zae 2) (zab (cK (.int 8)) (zab (cK (.int 9)) zai))))) (zal (sIf (zbM dEq (zau (zaj 2 F_31) (zab (zae 2) (zab (cK (.int 4)) zai))) (cK (.int 0))) (za5 3 (zau (zaj 2 F_37) (zab (zae 2) (zab (zae 3) zai)))) zc9) (zal (za5 4 (zau (zaj 5 (F_45 6)) (zab (zae 2) (zab (zae 3) (zab (zbo zai) (zab (zbo zai) (zab (cK (.int 4)) zai))))))) (zal (zfS (zau (zaj 4 (F_46 8)) (zab (zae 3) (zab (zae 4) (zab (zbo zai) (zab (zbo zai) zai))))) (zcX 2 (zaR (zaM 5) (zaR (zaM 6) zc7)))) (zal (zhr (iSq (zbo (zab (zaG (zab (zae 5) (zab (zae 6) zai))) (zab (zau (zaj 2 F_40) (zab (cOp zbb (cOp zdh (zae 5) (cK (.int 9))) (cK (.int 1))) (zab (cOp zdh (zae 6) (cK (.int 9))) zai))) (zab (zau (zaj 2 F_40) (zab (cOp zjt (cOp zdh (zae 5) (cK (.int 9))) (cK (.int 1))) (zab (cOp zdh (zae 6) (cK (.int 9))) zai))) zai))))) (zaM 7) zdj) (zal (za5 9 (cOp dIx (zbo (zab (cK .non) (zab (cK (.int 3)) (zab (zaG (zab (cK (.int 2)) (zab (cK (.int 4)) zai))) (zab (zaG (zab (cK (.int 1)) (zab (cK (.int 0)) zai))) (zab (zaG (zab (cK (.bl true)) (zab (cK (.int 1)) zai))) (zab (cK (.str "1")) (zab (zaG (zab (cK (.int 1)) (zab (cK (.int 2)) (zab (cK (.int 3)) zai)))) (zab (zbo (zab (cK (.int 1)) (zab (cK (.int 2)) zai))) zai))))))))) (zau (zaj 2 F_31) (zab (zae 2) (zab (cK (.int 8)) zai))))) (sIf (zbM dNe (zau (zaj 3 F_48) (zab (zae 3) (zab (zae 9) (zab (zae 4) zai)))) (cK (.str "! number"))) (zbg (cK (.bl false))) zc9)))))))
noncomputable def G_50:FS:=zal (zhr (zhE (zab (zau znM (zab (cK (.int 1)) (zab (zau znJ (zab (zau zek (zab (zae 0) zai)) (zab (cK (.int 3)) zai))) zai))) zai)) (zaM 1) zfd) (zbg (cK (.bl true)))
noncomputable def F_50:List D->M D:=zcN 10 G_50
theorem d_50 (x0:D):F_50 [x0]=(do let o<-G_50 [some x0,none,none,none,none,none,none,none,none,none];zcw o):=rfl
end K41
set_option genInjectivity false
set_option genSizeOf false
set_option genSizeOfSpec false
namespace K41
open PySem PySem.Spec PyProof.Rows L2 L3
set_option hygiene false in
local macro_rules
|`(tactic|ext a)=>`(tactic|refine zaa ?_ ?_)
|`(tactic|ext b)=>`(tactic|refine zam (k:=1) (g:=t.a_31) (fd:=t.d_31) (ps:=["box","many"]) ?_ ?_ ?_ ?_ ?_ ?_)
|`(tactic|ext c)=>`(tactic|refine zaC ?_ ?_)
|`(tactic|ext d)=>`(tactic|refine zaX ?_ ?_ ?_)
|`(tactic|ext e)=>`(tactic|exact (hr.mono (by decide)))
|`(tactic|ext f)=>`(tactic|refine zag ?_ ?_)
|`(tactic|ext g)=>`(tactic|exact zad)
|`(tactic|ext h)=>`(tactic|exact zaf)
|`(tactic|ext i)=>`(tactic|exact zac 0)
|`(tactic|ext j)=>`(tactic|exact zac 1)
|`(tactic|ext k)=>`(tactic|refine zan ?_)
|`(tactic|ext l)=>`(tactic|refine zay ?_ ?_ ?_)
|`(tactic|ext m)=>`(tactic|exact (BOk.of (Xn:=(zah s_44).names) (XN:=["box","stock","taken","out","had","found","thing","room","offer","top","bottom","here"]) rfl rfl rfl (by decide +kernel)))
|`(tactic|ext n)=>`(tactic|exact (hr.mono (by omega)))
|`(tactic|ext o)=>`(tactic|exact (zaH.name (i:=0) rfl))
|`(tactic|ext p)=>`(tactic|refine zaA ?_)
|`(tactic|ext q)=>`(tactic|refine zaF ?_)
|`(tactic|ext r)=>`(tactic|refine zam (k:=1) (g:=t.a_40) (fd:=t.d_40) (ps:=["top","bottom"]) ?_ ?_ ?_ ?_ ?_ ?_)
|`(tactic|ext s)=>`(tactic|refine zaJ (id:="len") ?_ ?_ ?_ ?_)
|`(tactic|ext t)=>`(tactic|refine zdG ?_ ?_ ?_)
|`(tactic|ext u)=>`(tactic|exact (BOk.of (Xn:=(zah s_46).names) (XN:=["stock","thing","taken","out","good","offer","top","bottom","one","other"]) rfl rfl rfl (by decide +kernel)))
|`(tactic|ext v)=>`(tactic|exact zac 2)
|`(tactic|ext w)=>`(tactic|exact (BOk.of (Xn:=(zah s_36).names) (XN:=["box","most","lots","many","far","rows","thing","row"]) rfl rfl rfl (by decide +kernel)))
|`(tactic|ext x)=>`(tactic|exact T.n_isinstance)
|`(tactic|ext y)=>`(tactic|refine zam (k:=1) (g:=t.a_43) (fd:=t.d_43) (ps:=["stock","taken","out"]) ?_ ?_ ?_ ?_ ?_ ?_)
|`(tactic|ext z)=>`(tactic|refine zbj ?_)
|`(tactic|ext A)=>`(tactic|exact (zbE (zcO hr)))
|`(tactic|ext B)=>`(tactic|exact zac 3)
|`(tactic|ext C)=>`(tactic|refine zbn (T:="tuple") ?_ ?_ ?_ ?_)
|`(tactic|ext D)=>`(tactic|exact (BOk.of (Xn:=(zah s_25).names) (XN:=["stock","least","bearing","taken","left_out","shown"]) rfl rfl rfl (by decide +kernel)))
|`(tactic|ext E)=>`(tactic|refine zeO ?_ ?_ ?_ ?_ ?_)
|`(tactic|ext F)=>`(tactic|refine zeJ ?_ ?_ ?_ ?_ ?_)
|`(tactic|ext G)=>`(tactic|exact (BOk.of (Xn:=(zah s_37).names) (XN:=["box","stock","many","offers","gone","left"]) rfl rfl rfl (by decide +kernel)))
|`(tactic|ext H)=>`(tactic|exact T.F_31.kp)
|`(tactic|ext I)=>`(tactic|exact (BOk.of (Xn:=(zah s_35).names) (XN:=["box","many","way","bits","first","step"]) rfl rfl rfl (by decide +kernel)))
|`(tactic|ext J)=>`(tactic|exact PassesOwn.never)
|`(tactic|ext K)=>`(tactic|refine zbL ?_)
|`(tactic|ext L)=>`(tactic|refine zaI 2 ?_ ?_)
|`(tactic|ext M)=>`(tactic|exact (by decide +kernel))
|`(tactic|ext N)=>`(tactic|refine zam (k:=5+d) (g:=t.a_24) (fd:=t.d_24) (ps:=["stock","least","thing","taken","left_out"]) ?_ ?_ ?_ ?_ ?_ ?_)
|`(tactic|ext O)=>`(tactic|refine zam (k:=1) (g:=t.a_32) (fd:=t.d_32) (ps:=["thing"]) ?_ ?_ ?_ ?_ ?_ ?_)
|`(tactic|ext P)=>`(tactic|refine zam (k:=2) (g:=t.a_42) (fd:=t.d_42) (ps:=["some"]) ?_ ?_ ?_ ?_ ?_ ?_)
|`(tactic|ext Q)=>`(tactic|refine zdK ?_ ?_ ?_)
|`(tactic|ext R)=>`(tactic|refine zc3 ?_ ?_)
|`(tactic|ext S)=>`(tactic|refine zam (k:=1) (g:=t.a_0) (fd:=t.d_0) (ps:=["thing"]) ?_ ?_ ?_ ?_ ?_ ?_)
|`(tactic|ext T)=>`(tactic|exact rfl)
|`(tactic|ext U)=>`(tactic|refine zam (k:=3+d) (g:=t.a_45) (fd:=t.d_45) (ps:=["box","stock","taken","out","deep"]) ?_ ?_ ?_ ?_ ?_ ?_)
|`(tactic|ext V)=>`(tactic|refine za1 ?_ ?_)
|`(tactic|ext W)=>`(tactic|refine zam (k:=2+d) (g:=t.a_46) (fd:=t.d_46) (ps:=["stock","thing","taken","out"]) ?_ ?_ ?_ ?_ ?_ ?_)
|`(tactic|ext X)=>`(tactic|refine zam (k:=10) (g:=t.a_46) (fd:=t.d_46) (ps:=["stock","thing","taken","out"]) ?_ ?_ ?_ ?_ ?_ ?_)
|`(tactic|ext Y)=>`(tactic|exact ok_31 T)
|`(tactic|ext Z)=>`(tactic|refine zam (k:=1) (g:=t.a_26) (fd:=t.d_26) (ps:=["stock","taken","left_out"]) ?_ ?_ ?_ ?_ ?_ ?_)
|`(tactic|ext aa)=>`(tactic|exact zav)
|`(tactic|ext ab)=>`(tactic|refine zam (k:=15) (g:=t.a_48) (fd:=t.d_48) (ps:=["stock","least","thing"]) ?_ ?_ ?_ ?_ ?_ ?_)
|`(tactic|ext ac)=>`(tactic|refine zbw ?_)
|`(tactic|ext ad)=>`(tactic|refine zby ?_ ?_ ?_)
|`(tactic|ext ae)=>`(tactic|exact (zdc (zcO hr)))
|`(tactic|ext af)=>`(tactic|exact zac 5)
|`(tactic|ext ag)=>`(tactic|exact T.m_31)
|`(tactic|ext ah)=>`(tactic|exact T.b_31)
|`(tactic|ext ai)=>`(tactic|refine zbC ?_)
|`(tactic|ext aj)=>`(tactic|refine zam (k:=1) (g:=t.a_4) (fd:=t.d_4) (ps:=["fraction","other"]) ?_ ?_ ?_ ?_ ?_ ?_)
|`(tactic|ext ak)=>`(tactic|refine zam (k:=1+d) (g:=t.a_47) (fd:=t.d_47) (ps:=["box","paper"]) ?_ ?_ ?_ ?_ ?_ ?_)
|`(tactic|ext al)=>`(tactic|refine zam (k:=1) (g:=t.a_38) (fd:=t.d_38) (ps:=["stock","lot"]) ?_ ?_ ?_ ?_ ?_ ?_)
|`(tactic|ext am)=>`(tactic|refine zam (k:=9) (g:=t.a_47) (fd:=t.d_47) (ps:=["box","paper"]) ?_ ?_ ?_ ?_ ?_ ?_)
|`(tactic|ext an)=>`(tactic|refine zam (k:=1) (g:=t.a_3) (fd:=t.d_3) (ps:=["top","bottom"]) ?_ ?_ ?_ ?_ ?_ ?_)
|`(tactic|ext ao)=>`(tactic|exact T.n_tuple)
|`(tactic|ext ap)=>`(tactic|exact (zbH (zcO hr)))
|`(tactic|ext aq)=>`(tactic|exact zac 4)
|`(tactic|ext ar)=>`(tactic|refine zeL ?_ ?_)
|`(tactic|ext as)=>`(tactic|refine zaI 3 ?_ ?_)
|`(tactic|ext au)=>`(tactic|exact T.n_len)
|`(tactic|ext av)=>`(tactic|exact zaW)
|`(tactic|ext aw)=>`(tactic|exact zbv)
|`(tactic|ext ax)=>`(tactic|refine zfr ?_ ?_)
|`(tactic|ext ay)=>`(tactic|refine zbA ?_)
|`(tactic|ext az)=>`(tactic|refine zaI 4 ?_ ?_)
|`(tactic|ext aA)=>`(tactic|exact zac 7)
|`(tactic|ext aB)=>`(tactic|refine zfN ?_ ?_)
|`(tactic|ext aC)=>`(tactic|exact T.x_exc)
|`(tactic|ext aD)=>`(tactic|exact T.n_range)
|`(tactic|ext aE)=>`(tactic|refine zdU ?_ ?_)
|`(tactic|ext aF)=>`(tactic|refine zda ?_)
|`(tactic|ext aG)=>`(tactic|refine zb8 ?_)
|`(tactic|ext aH)=>`(tactic|refine zaI 1 ?_ ?_)
|`(tactic|ext aI)=>`(tactic|refine zfn ?_)
|`(tactic|ext aJ)=>`(tactic|(ext h;ext g))
|`(tactic|ext aK)=>`(tactic|(ext k;ext p))
|`(tactic|ext aL)=>`(tactic|(ext a;ext i))
|`(tactic|ext aM)=>`(tactic|(ext q;ext a))
|`(tactic|ext aN)=>`(tactic|(ext h;ext a))
|`(tactic|ext aO)=>`(tactic|(ext aL;ext a))
|`(tactic|ext aP)=>`(tactic|(ext d;ext aa))
|`(tactic|ext aQ)=>`(tactic|(ext c;ext j))
|`(tactic|ext aR)=>`(tactic|(ext c;ext i))
|`(tactic|ext aS)=>`(tactic|(ext g;ext a))
|`(tactic|ext aT)=>`(tactic|(ext g;ext g))
|`(tactic|ext aU)=>`(tactic|(ext f;ext t))
|`(tactic|ext aV)=>`(tactic|(ext a;ext v))
|`(tactic|ext aW)=>`(tactic|(ext z;ext a))
|`(tactic|ext aX)=>`(tactic|(ext b;ext Y))
|`(tactic|ext aY)=>`(tactic|(ext ag;ext H))
|`(tactic|ext aZ)=>`(tactic|(ext aY;ext ah))
|`(tactic|ext ba)=>`(tactic|(ext aQ;ext h))
|`(tactic|ext bb)=>`(tactic|(ext aw;ext a))
|`(tactic|ext bc)=>`(tactic|(ext aZ;ext aO))
|`(tactic|ext bd)=>`(tactic|(ext aN;ext aJ))
|`(tactic|ext be)=>`(tactic|(ext ai;ext ac))
|`(tactic|ext bf)=>`(tactic|(ext o;ext K))
|`(tactic|ext bg)=>`(tactic|(ext a;ext B))
|`(tactic|ext bh)=>`(tactic|(ext aR;ext h))
|`(tactic|ext bi)=>`(tactic|(ext aX;ext e))
|`(tactic|ext bj)=>`(tactic|(ext f;ext L))
|`(tactic|ext bk)=>`(tactic|(ext a;ext aP))
|`(tactic|ext bl)=>`(tactic|(ext aM;ext bd))
|`(tactic|ext bm)=>`(tactic|(ext a;ext j))
|`(tactic|ext bn)=>`(tactic|(ext aJ;ext g))
|`(tactic|ext bo)=>`(tactic|(ext g;ext aK))
|`(tactic|ext bp)=>`(tactic|(ext aO;ext j))
|`(tactic|ext bq)=>`(tactic|(ext l;ext A))
|`(tactic|ext br)=>`(tactic|(ext E;ext T))
|`(tactic|ext bs)=>`(tactic|(ext br;ext J))
|`(tactic|ext bt)=>`(tactic|(ext B;ext h))
|`(tactic|ext bu)=>`(tactic|(ext bi;ext bc))
|`(tactic|ext bv)=>`(tactic|(ext ay;ext R))
noncomputable def top (i:Nat):Stmt:=PySem.Challenge.pw_cheapcovers_k41_papers_of_cases_looked_a.main.body.getD i (.Pass ⟨0,0,0,0⟩)
theorem zcO {A:Around} {k:Nat} (hr:zej k A):A.units+60<cLine:=by have:=hr.units;omega
theorem zst {A:Around} {k:Nat} (hr:zdQ k A):A.units+60<cLine:=by have:=hr.un;omega
theorem zpv {P:Program} {w:World} {K:W.Frag} {mg:Str->Option Value} {base:Heap} {N:List Str} {qual:Str} {scope:Scope} {f:Addr} {cd:Value} {A:Around} {outer:List Env} {s:Shared} {H:Hp} {E:XK}:zfJ (zhG CX0 P w K mg base N qual scope f cd A outer s H E).nox:=⟨rfl,rfl,rfl⟩
theorem znp:bootBuiltins "abs"=some (.builtin "abs"):=by decide +kernel
theorem zki:bootBuiltins "all"=some (.builtin "all"):=by decide +kernel
theorem zrK:bootBuiltins "any"=some (.builtin "any"):=by decide +kernel
theorem zhZ:bootBuiltins "bool"=some (.type "bool"):=by decide +kernel
theorem zkn:bootBuiltins "int"=some (.type "int"):=by decide +kernel
theorem zb9:bootBuiltins "len"=some (.builtin "len"):=by decide +kernel
theorem zhC:bootBuiltins "list"=some (.type "list"):=by decide +kernel
theorem zrp:bootBuiltins "max"=some (.builtin "max"):=by decide +kernel
theorem zqB:bootBuiltins "min"=some (.builtin "min"):=by decide +kernel
theorem zhh:bootBuiltins "sorted"=some (.builtin "sorted"):=by decide +kernel
theorem zpB:bootBuiltins "str"=some (.type "str"):=by decide +kernel
theorem zjO:bootBuiltins "sum"=some (.builtin "sum"):=by decide +kernel
theorem za8:bootBuiltins "tuple"=some (.type "tuple"):=by decide +kernel
noncomputable abbrev s_29:Stmt:=top 35
noncomputable abbrev s_30:Stmt:=top 36
noncomputable abbrev s_31:Stmt:=top 37
noncomputable abbrev s_35:Stmt:=top 41
noncomputable abbrev s_36:Stmt:=top 42
noncomputable abbrev s_37:Stmt:=top 43
noncomputable abbrev s_43:Stmt:=top 49
noncomputable abbrev s_38:Stmt:=top 44
noncomputable abbrev s_40:Stmt:=top 46
noncomputable abbrev s_42:Stmt:=top 48
noncomputable abbrev s_44:Stmt:=top 50
noncomputable abbrev s_45:Stmt:=top 51
noncomputable abbrev s_32:Stmt:=top 38
noncomputable abbrev s_41:Stmt:=top 47
noncomputable abbrev s_39:Stmt:=top 45
noncomputable abbrev s_46:Stmt:=top 52
noncomputable abbrev s_47:Stmt:=top 53
noncomputable abbrev s_33:Stmt:=top 39
noncomputable abbrev s_34:Stmt:=top 40
noncomputable abbrev s_0:Stmt:=top 1
noncomputable abbrev s_1:Stmt:=top 2
noncomputable abbrev s_3:Stmt:=top 4
noncomputable abbrev s_5:Stmt:=top 6
noncomputable abbrev s_21:Stmt:=top 25
noncomputable abbrev s_20:Stmt:=top 24
noncomputable abbrev s_19:Stmt:=top 22
noncomputable abbrev s_27:Stmt:=top 32
noncomputable abbrev s_26:Stmt:=top 31
noncomputable abbrev s_2:Stmt:=top 3
noncomputable abbrev s_6:Stmt:=top 7
noncomputable abbrev s_4:Stmt:=top 5
noncomputable abbrev s_22:Stmt:=top 26
noncomputable abbrev s_28:Stmt:=top 33
noncomputable abbrev s_25:Stmt:=top 30
noncomputable abbrev s_24:Stmt:=top 29
noncomputable abbrev s_23:Stmt:=top 28
noncomputable abbrev s_48:Stmt:=top 54
noncomputable abbrev s_49:Stmt:=top 55
noncomputable abbrev s_50:Stmt:=top 56
structure Ad where
 a_7:Addr
 a_8:Addr
 a_9:Addr
 a_10:Addr
 a_11:Addr
 a_12:Addr
 a_13:Addr
 a_14:Addr
 a_15:Addr
 a_16:Addr
 a_17:Addr
 a_18:Addr
 a_29:Addr
 d_29:FuncData
 a_30:Addr
 d_30:FuncData
 a_31:Addr
 d_31:FuncData
 a_35:Addr
 d_35:FuncData
 a_36:Addr
 d_36:FuncData
 a_37:Addr
 d_37:FuncData
 a_43:Addr
 d_43:FuncData
 a_38:Addr
 d_38:FuncData
 a_40:Addr
 d_40:FuncData
 a_42:Addr
 d_42:FuncData
 a_44:Addr
 d_44:FuncData
 a_45:Addr
 d_45:FuncData
 a_32:Addr
 d_32:FuncData
 a_41:Addr
 d_41:FuncData
 a_39:Addr
 d_39:FuncData
 a_46:Addr
 d_46:FuncData
 a_47:Addr
 d_47:FuncData
 a_33:Addr
 d_33:FuncData
 a_34:Addr
 d_34:FuncData
 a_0:Addr
 d_0:FuncData
 a_1:Addr
 d_1:FuncData
 a_3:Addr
 d_3:FuncData
 a_5:Addr
 d_5:FuncData
 a_21:Addr
 d_21:FuncData
 a_20:Addr
 d_20:FuncData
 a_19:Addr
 d_19:FuncData
 a_27:Addr
 d_27:FuncData
 a_26:Addr
 d_26:FuncData
 a_2:Addr
 d_2:FuncData
 a_6:Addr
 d_6:FuncData
 a_4:Addr
 d_4:FuncData
 a_22:Addr
 d_22:FuncData
 a_28:Addr
 d_28:FuncData
 a_25:Addr
 d_25:FuncData
 a_24:Addr
 d_24:FuncData
 a_23:Addr
 d_23:FuncData
 a_48:Addr
 d_48:FuncData
 a_49:Addr
 d_49:FuncData
 a_50:Addr
 d_50:FuncData
structure Tx (K:W.Frag) (mg:Str->Option Value) (t:Ad):Prop where
 n_ValueError:mg "ValueError"=none
 n_abs:mg "abs"=none
 n_all:mg "all"=none
 n_any:mg "any"=none
 n_bool:mg "bool"=none
 n_int:mg "int"=none
 n_isinstance:mg "isinstance"=none
 n_len:mg "len"=none
 n_list:mg "list"=none
 n_max:mg "max"=none
 n_min:mg "min"=none
 n_range:mg "range"=none
 n_set:mg "set"=none
 n_sorted:mg "sorted"=none
 n_str:mg "str"=none
 n_sum:mg "sum"=none
 n_tuple:mg "tuple"=none
 g_7:mg "CoverError"=some (.ref t.a_7)
 g_8:mg "NoStock"=some (.ref t.a_8)
 g_9:mg "NoOffer"=some (.ref t.a_9)
 g_10:mg "NoThing"=some (.ref t.a_10)
 g_11:mg "NoCover"=some (.ref t.a_11)
 g_12:mg "NoPaper"=some (.ref t.a_12)
 g_13:mg "NoNumber"=some (.ref t.a_13)
 g_14:mg "NotFull"=some (.ref t.a_14)
 g_15:mg "NotInRow"=some (.ref t.a_15)
 g_16:mg "NoText"=some (.ref t.a_16)
 g_17:mg "NoRow"=some (.ref t.a_17)
 g_18:mg "TooMany"=some (.ref t.a_18)
 k_8:zb6 K "NoStock" t.a_8
 k_9:zb6 K "NoOffer" t.a_9
 k_10:zb6 K "NoThing" t.a_10
 k_11:zb6 K "NoCover" t.a_11
 k_12:zb6 K "NoPaper" t.a_12
 k_13:zb6 K "NoNumber" t.a_13
 k_14:zb6 K "NotFull" t.a_14
 k_15:zb6 K "NotInRow" t.a_15
 k_16:zb6 K "NoText" t.a_16
 k_17:zb6 K "NoRow" t.a_17
 k_18:zb6 K "TooMany" t.a_18
 x_exc:zlB K t.a_7 zcq
 m_29:mg "_law_cell"=some (.ref t.a_29)
 F_29:Fun K "_law_cell" "_law_cell" s_29 t.a_29 t.d_29
 b_29:zaO K t.d_29 ["script","k"] []
 m_30:mg "_law_box"=some (.ref t.a_30)
 F_30:Fun K "_law_box" "_law_box" s_30 t.a_30 t.d_30
 b_30:zaO K t.d_30 ["script","k"] []
 m_31:mg "_law_take"=some (.ref t.a_31)
 F_31:Fun K "_law_take" "_law_take" s_31 t.a_31 t.d_31
 b_31:zaO K t.d_31 ["box","many"] []
 m_35:mg "_law_things"=some (.ref t.a_35)
 F_35:Fun K "_law_things" "_law_things" s_35 t.a_35 t.d_35
 b_35:zaO K t.d_35 ["box","many"] []
 m_36:mg "_law_full"=some (.ref t.a_36)
 F_36:Fun K "_law_full" "_law_full" s_36 t.a_36 t.d_36
 b_36:zaO K t.d_36 ["box","most","lots"] []
 m_37:mg "_law_holed"=some (.ref t.a_37)
 F_37:Fun K "_law_holed" "_law_holed" s_37 t.a_37 t.d_37
 b_37:zaO K t.d_37 ["box","stock"] []
 m_43:mg "_law_left"=some (.ref t.a_43)
 F_43:Fun K "_law_left" "_law_left" s_43 t.a_43 t.d_43
 b_43:zaO K t.d_43 ["stock","taken","out"] []
 m_38:mg "_law_has"=some (.ref t.a_38)
 F_38:Fun K "_law_has" "_law_has" s_38 t.a_38 t.d_38
 b_38:zaO K t.d_38 ["stock","lot"] []
 m_40:mg "_law_frac"=some (.ref t.a_40)
 F_40:Fun K "_law_frac" "_law_frac" s_40 t.a_40 t.d_40
 b_40:zaO K t.d_40 ["top","bottom"] []
 m_42:mg "_law_sum"=some (.ref t.a_42)
 F_42:Fun K "_law_sum" "_law_sum" s_42 t.a_42 t.d_42
 b_42:zaO K t.d_42 ["some"] []
 m_44:mg "_law_bears"=some (.ref t.a_44)
 F_44:Fun K "_law_bears" "_law_bears" s_44 t.a_44 t.d_44
 b_44:zaO K t.d_44 ["box","stock","taken","out"] []
 m_45:mg "_law_paper"=some (.ref t.a_45)
 F_45:Fun K "_law_paper" "_law_paper" s_45 t.a_45 t.d_45
 b_45:zaO K t.d_45 ["box","stock","taken","out","deep"] []
 m_32:mg "_law_whole"=some (.ref t.a_32)
 F_32:Fun K "_law_whole" "_law_whole" s_32 t.a_32 t.d_32
 b_32:zaO K t.d_32 ["thing"] []
 m_41:mg "_law_is_frac"=some (.ref t.a_41)
 F_41:Fun K "_law_is_frac" "_law_is_frac" s_41 t.a_41 t.d_41
 b_41:zaO K t.d_41 ["thing"] []
 m_39:mg "_law_price"=some (.ref t.a_39)
 F_39:Fun K "_law_price" "_law_price" s_39 t.a_39 t.d_39
 b_39:zaO K t.d_39 ["stock","lot"] []
 m_46:mg "_law_worth"=some (.ref t.a_46)
 F_46:Fun K "_law_worth" "_law_worth" s_46 t.a_46 t.d_46
 b_46:zaO K t.d_46 ["stock","thing","taken","out"] []
 m_47:mg "_law_bent"=some (.ref t.a_47)
 F_47:Fun K "_law_bent" "_law_bent" s_47 t.a_47 t.d_47
 b_47:zaO K t.d_47 ["box","paper"] []
 m_33:mg "_law_odd"=some (.ref t.a_33)
 F_33:Fun K "_law_odd" "_law_odd" s_33 t.a_33 t.d_33
 b_33:zaO K t.d_33 ["box"] []
 m_34:mg "_law_kind"=some (.ref t.a_34)
 F_34:Fun K "_law_kind" "_law_kind" s_34 t.a_34 t.d_34
 b_34:zaO K t.d_34 ["e"] []
 m_0:mg "is_whole"=some (.ref t.a_0)
 F_0:Fun K "is_whole" "is_whole" s_0 t.a_0 t.d_0
 b_0:zaO K t.d_0 ["thing"] []
 m_1:mg "is_pair"=some (.ref t.a_1)
 F_1:Fun K "is_pair" "is_pair" s_1 t.a_1 t.d_1
 b_1:zaO K t.d_1 ["thing"] []
 m_3:mg "greatest_divisor"=some (.ref t.a_3)
 F_3:Fun K "greatest_divisor" "greatest_divisor" s_3 t.a_3 t.d_3
 b_3:zaO K t.d_3 ["top","bottom"] []
 m_5:mg "is_fraction"=some (.ref t.a_5)
 F_5:Fun K "is_fraction" "is_fraction" s_5 t.a_5 t.d_5
 b_5:zaO K t.d_5 ["thing"] []
 m_21:mg "is_share"=some (.ref t.a_21)
 F_21:Fun K "is_share" "is_share" s_21 t.a_21 t.d_21
 b_21:zaO K t.d_21 ["thing"] []
 m_20:mg "are_shares"=some (.ref t.a_20)
 F_20:Fun K "are_shares" "are_shares" s_20 t.a_20 t.d_20
 b_20:zaO K t.d_20 ["thing","many"] []
 m_19:mg "things_together"=some (.ref t.a_19)
 F_19:Fun K "things_together" "things_together" s_19 t.a_19 t.d_19
 b_19:zaO K t.d_19 ["offers"] []
 m_27:mg "had_things"=some (.ref t.a_27)
 F_27:Fun K "had_things" "had_things" s_27 t.a_27 t.d_27
 b_27:zaO K t.d_27 ["stock","taken"] []
 m_26:mg "free_offers"=some (.ref t.a_26)
 F_26:Fun K "free_offers" "free_offers" s_26 t.a_26 t.d_26
 b_26:zaO K t.d_26 ["stock","taken","left_out"] []
 m_2:mg "reduced"=some (.ref t.a_2)
 F_2:Fun K "reduced" "reduced" s_2 t.a_2 t.d_2
 b_2:zaO K t.d_2 ["top","bottom"] []
 m_6:mg "together"=some (.ref t.a_6)
 F_6:Fun K "together" "together" s_6 t.a_6 t.d_6
 b_6:zaO K t.d_6 ["fractions"] []
 m_4:mg "is_less"=some (.ref t.a_4)
 F_4:Fun K "is_less" "is_less" s_4 t.a_4 t.d_4
 b_4:zaO K t.d_4 ["fraction","other"] []
 m_22:mg "is_borne"=some (.ref t.a_22)
 F_22:Fun K "is_borne" "is_borne" s_22 t.a_22 t.d_22
 b_22:zaO K t.d_22 ["offer","shares"] []
 m_28:mg "paid_for"=some (.ref t.a_28)
 F_28:Fun K "paid_for" "paid_for" s_28 t.a_28 t.d_28
 b_28:zaO K t.d_28 ["stock","taken"] []
 m_25:mg "bears_behind"=some (.ref t.a_25)
 F_25:Fun K "bears_behind" "bears_behind" s_25 t.a_25 t.d_25
 b_25:zaO K t.d_25 ["stock","least","bearing","taken","left_out"] []
 m_24:mg "shows_behind"=some (.ref t.a_24)
 F_24:Fun K "shows_behind" "shows_behind" s_24 t.a_24 t.d_24
 b_24:zaO K t.d_24 ["stock","least","thing","taken","left_out"] []
 m_23:mg "paper_shows"=some (.ref t.a_23)
 F_23:Fun K "paper_shows" "paper_shows" s_23 t.a_23 t.d_23
 b_23:zaO K t.d_23 ["stock","least","thing"] []
 m_48:mg "_law_asked"=some (.ref t.a_48)
 F_48:Fun K "_law_asked" "_law_asked" s_48 t.a_48 t.d_48
 b_48:zaO K t.d_48 ["stock","least","thing"] []
 m_49:mg "_law_right"=some (.ref t.a_49)
 F_49:Fun K "_law_right" "_law_right" s_49 t.a_49 t.d_49
 b_49:zaO K t.d_49 ["stock","least","thing"] []
 m_50:mg "law"=some (.ref t.a_50)
 F_50:Fun K "law" "law" s_50 t.a_50 t.d_50
 b_50:zaO K t.d_50 ["script"] []
section
variable {P:Program} {w:World} {K:W.Frag} {mg:Str->Option Value} {base:Heap} {t:Ad}
theorem sc_29:zat ["script","k"] ["script","k"] (zah s_29):=⟨rfl,rfl,rfl,by decide +kernel,rfl,by decide +kernel,by decide +kernel⟩
theorem ok_29 (T:Tx K mg t):zbN P w K mg base CX0 1 t.a_29 t.d_29 ["script","k"] (zbP K 2 F_29):=by
 refine zbf (k:=0) (G:=G_29) (N:=["script","k"]) (ps:=["script","k"]) (st:=s_29) T.F_29 sc_29 fun cdv A outer s H E hr=> ?_
 ext aU;ext l
 exact zkN
 ext j;ext s
 exact zaS
 exact zb9
 ext au;ext aL;ext bo;ext aR;ext j;ext av;ext aK;ext aP;ext d
 exact zbI
 ext h;ext j;ext h
theorem nd_30:(["script","k","cell","number","mixed","j"]:List Str).Nodup:=by decide +kernel
theorem sc_30:zat ["script","k","cell","number","mixed","j"] ["script","k"] (zah s_30):=⟨rfl,rfl,rfl,by decide +kernel,rfl,by decide +kernel,by decide +kernel⟩
theorem ok_30 (T:Tx K mg t):zbN P w K mg base CX0 2 t.a_30 t.d_30 ["script","k"] (zbP K 2 F_30):=by
 refine zbf (k:=1) (G:=G_30) (N:=["script","k","cell","number","mixed","j"]) (ps:=["script","k"]) (st:=s_30) T.F_30 sc_30 fun cdv A outer s H E hr=> ?_
 ext bj
 exact nd_30
 refine zam (k:=1) (g:=t.a_29) (fd:=t.d_29) (ps:=["script","k"]) ?_ ?_ ?_ ?_ ?_ ?_
 exact ok_29 T
 ext e
 exact T.m_29
 exact T.F_29.kp
 exact T.b_29
 ext bp;ext g;ext aU;ext bq;ext d
 exact zdL
 ext v;ext h;ext h;ext aK
 refine ziF ?_
 ext a;ext d
 exact zir
 ext v;ext aJ;ext av;ext f;ext as
 exact nd_30
 ext h;ext f;ext az
 exact nd_30
 ext d
 exact zdL
 ext v;ext h;ext f;ext bs;ext aB;ext aD;ext a;ext aJ
 exact zaq 5 nd_30
 ext f;ext az
 exact nd_30
 ext d
 exact zdL
 ext aP;ext aP;ext aP;ext d
 exact zbI
 ext aq;ext h;ext d
 exact zbI
 ext d
 exact zbI
 ext h;ext af;ext af;ext d
 exact zbI
 ext h;ext j;ext h;ext h;ext k;ext as
 exact nd_30
 ext aP;ext d
 exact zbI
 ext bt;ext aq;ext aK
 refine ziF ?_
 ext bg;ext g
theorem nd_31:(["box","many","digit"]:List Str).Nodup:=by decide +kernel
theorem sc_31:zat ["box","many","digit"] ["box","many"] (zah s_31):=⟨rfl,rfl,rfl,by decide +kernel,rfl,by decide +kernel,by decide +kernel⟩
theorem ok_31 (T:Tx K mg t):zbN P w K mg base CX0 1 t.a_31 t.d_31 ["box","many"] (zbP K 2 F_31):=by
 refine zbf (k:=0) (G:=G_31) (N:=["box","many","digit"]) (ps:=["box","many"]) (st:=s_31) T.F_31 sc_31 fun cdv A outer s H E hr=> ?_
 ext bj
 exact nd_31
 ext d
 exact zdL
 ext bh;ext j;ext f;ext ax;ext d
 exact zir
 ext bh;ext j
 refine zlr ?_ ?_
 ext i;ext h;ext aK;ext v
theorem nd_35:(["box","many","way","bits","first","step"]:List Str).Nodup:=by decide +kernel
theorem zsz:(["thing","bits"]:List Str).Nodup:=by decide +kernel
theorem zp0:(["k","first","step","many"]:List Str).Nodup:=by decide +kernel
theorem sc_35:zat ["box","many","way","bits","first","step"] ["box","many"] (zah s_35):=⟨rfl,rfl,rfl,by decide +kernel,rfl,by decide +kernel,by decide +kernel⟩
theorem ok_35 (T:Tx K mg t):zbN P w K mg base CX0 2 t.a_35 t.d_35 ["box","many"] (zbP K 2 F_35):=by
 refine zbf (k:=1) (G:=G_35) (N:=["box","many","way","bits","first","step"]) (ps:=["box","many"]) (st:=s_35) T.F_35 sc_35 fun cdv A outer s H E hr=> ?_
 ext bj
 exact nd_35
 ext bu;ext aJ;ext aU;ext bq;ext v;ext h;ext f;ext as
 exact nd_35
 ext aP;ext h;ext bu;ext d
 exact zex
 ext d
 exact znX
 ext h;ext j;ext aJ;ext aK;ext C
 exact zba
 exact za8
 ext ao;ext a
 refine zbp (N:=["thing","bits"]) ?_ ?_ ?_ ?_ ?_ ?_ ?_
 ext T;ext I;ext o;ext aB;ext aD;ext bm;ext g
 intro _ _ _
 exact zaq 0 zsz
 intro _ _ _
 refine zeh ?_
 ext bq;ext d
 exact znG
 ext d
 exact znK
 ext j;ext i;ext h;ext h
 intro _ _ _
 ext i;ext g;ext av;ext f;ext ax;ext aM;ext bu;ext j;ext aS;ext c;ext aW;ext aN;ext aP;ext h;ext bu;ext bn;ext d
 exact zex
 ext v;ext aJ;ext aE;ext T;ext V
 exact zaq 4 nd_35
 ext V
 exact zaq 5 nd_35
 exact zc1
 ext aK;ext C
 exact zba
 exact za8
 ext ao;ext a
 refine zgD ?_ ?_ ?_ ?_
 ext T
 exact T.n_sorted
 exact T.n_set
 refine zbp (N:=["k","first","step","many"]) ?_ ?_ ?_ ?_ ?_ ?_ ?_
 ext T;ext I;ext o;ext aB;ext aD;ext bk;ext h;ext bu;ext bn
 intro _ _ _
 exact zaq 0 zp0
 intro _ _ _
 exact zbX
 intro _ _ _
 ext d
 exact zdL
 ext aP;ext j;ext d
 exact zbI
 ext v;ext i;ext B;ext g
theorem nd_36:(["box","most","lots","many","far","rows","thing","row"]:List Str).Nodup:=by decide +kernel
theorem zrA:(["k","box","many","far"]:List Str).Nodup:=by decide +kernel
theorem zpM:(["row","thing"]:List Str).Nodup:=by decide +kernel
theorem zpO:(["row"]:List Str).Nodup:=by decide +kernel
theorem sc_36:zat ["box","most","lots","many","far","rows","thing","row"] ["box","most","lots"] (zah s_36):=⟨rfl,rfl,rfl,by decide +kernel,rfl,by decide +kernel,by decide +kernel⟩
theorem ok_36 (T:Tx K mg t):zbN P w K mg base CX0 3 t.a_36 t.d_36 ["box","most","lots"] (zbP K 3 F_36):=by
 refine zbf (k:=2) (G:=G_36) (N:=["box","most","lots","many","far","rows","thing","row"]) (ps:=["box","most","lots"]) (st:=s_36) T.F_36 sc_36 fun cdv A outer s H E hr=> ?_
 ext f;ext as
 exact nd_36
 ext aP;ext h;ext bu;ext j;ext g;ext f;ext az
 exact nd_36
 ext c;ext aW;ext aN;ext aN;ext aN;ext d
 exact zn5
 ext h;ext aJ;ext bu;ext aJ;ext f
 refine zhk 5 (N:=["k","box","many","far"]) ?_ ?_ ?_ ?_ ?_ ?_ ?_ ?_
 ext T
 exact nd_36
 ext w;ext o;ext aB;ext aD;ext bk;ext h;ext bu;ext v;ext aT
 intro _ _ _
 exact zaq 0 zrA
 intro _ _ _
 exact zbX
 intro _ _ _
 refine ziF ?_
 ext a
 refine zam (k:=2) (g:=t.a_35) (fd:=t.d_35) (ps:=["box","many"]) ?_ ?_ ?_ ?_ ?_ ?_
 exact ok_35 T
 ext e
 exact T.m_35
 exact T.F_35.kp
 exact T.b_35
 ext bm;ext aV;ext aS;ext aP;ext h;ext bi;ext aZ;ext bm;ext bg;ext aT;ext f;ext bs;ext aB;ext aD;ext bg;ext g
 exact zaq 6 nd_36
 ext k;ext t;ext l
 exact (zrs (zcO hr))
 refine zbp (N:=["row","thing"]) ?_ ?_ ?_ ?_ ?_ ?_ ?_
 ext T;ext w;ext bf;ext af
 intro _ _ _
 exact zaq 0 zpM
 intro _ _ _
 refine zeh ?_
 ext l
 exact (znj (zcO hr))
 ext j;ext bh
 intro _ _ _
 ext i;ext z;ext g;ext f
 refine zaI 7 ?_ ?_
 exact nd_36
 ext c;ext af;ext bu;ext s
 exact zaS
 exact zb9
 ext au;ext a;ext af;ext aT;ext k;ext ax;ext C
 exact zba
 exact za8
 ext ao;ext a
 refine zaJ (id:="sorted") ?_ ?_ ?_ ?_
 exact (zeA rfl)
 exact zhh
 exact T.n_sorted
 ext bk;ext c;ext aA;ext h;ext aM
 exact zac 6
 ext aT;ext g
 refine zlr ?_ ?_
 ext aA;ext h;ext av;ext aK;ext aM;ext B;ext a;ext C
 exact zba
 exact za8
 ext ao;ext a
 refine zbp (N:=["row"]) ?_ ?_ ?_ ?_ ?_ ?_ ?_
 ext T;ext w;ext bf;ext af
 intro _ _ _
 exact zaq 0 zpO
 intro _ _ _
 exact zbX
 intro _ _ _
 ext aM;ext aR;ext aN;ext aR;ext aJ;ext aT
theorem nd_37:(["box","stock","many","offers","gone","left"]:List Str).Nodup:=by decide +kernel
theorem znk:(["things","price","gone"]:List Str).Nodup:=by decide +kernel
theorem zrT:(["thing","gone"]:List Str).Nodup:=by decide +kernel
theorem zrB:(["offer"]:List Str).Nodup:=by decide +kernel
theorem sc_37:zat ["box","stock","many","offers","gone","left"] ["box","stock"] (zah s_37):=⟨rfl,rfl,rfl,by decide +kernel,rfl,by decide +kernel,by decide +kernel⟩
theorem ok_37 (T:Tx K mg t):zbN P w K mg base CX0 2 t.a_37 t.d_37 ["box","stock"] (zbP K 2 F_37):=by
 refine zbf (k:=1) (G:=G_37) (N:=["box","stock","many","offers","gone","left"]) (ps:=["box","stock"]) (st:=s_37) T.F_37 sc_37 fun cdv A outer s H E hr=> ?_
 ext f;ext ax;ext j;ext aE;ext T;ext V
 exact zaq 2 nd_37
 ext V
 exact zaq 3 nd_37
 exact zc1
 ext f;ext az
 exact nd_37
 ext bu;ext v;ext g;ext f
 refine zhk 5 (N:=["things","price","gone"]) ?_ ?_ ?_ ?_ ?_ ?_ ?_ ?_
 ext T
 exact nd_37
 ext G
 exact (zaH.tup (zcW.cons (i:=0) rfl (zcW.cons (i:=1) rfl zcW.nil)))
 ext K;ext B
 intro _ _ _
 ext aE;ext T;ext V
 exact zaq 0 znk
 ext V
 exact zaq 1 znk
 exact zc1
 intro _ _ _
 exact zbX
 intro _ _ _
 ext aM;ext C
 exact zba
 exact za8
 ext ao;ext a
 refine zbp (N:=["thing","gone"]) ?_ ?_ ?_ ?_ ?_ ?_ ?_
 ext T
 exact (BOk.of (N:=["thing","gone"]) (src:=[none,some 2]) rfl rfl rfl (by rfl))
 ext bf;ext i
 intro _ _ _
 exact zaq 0 zrT
 intro _ _ _
 refine zeh ?_
 ext l;ext ae;ext i;ext j
 intro _ _ _
 ext i;ext aS;ext j;ext bo;ext aM;ext v;ext a;ext C
 exact zba
 exact za8
 ext ao;ext a
 refine zbp (N:=["offer"]) ?_ ?_ ?_ ?_ ?_ ?_ ?_
 ext T;ext G;ext bf;ext af
 intro _ _ _
 exact zaq 0 zrB
 intro _ _ _
 refine zeh ?_
 ext l;ext ae;ext bh;ext q;ext g
 intro _ _ _
 ext i;ext aT
theorem zqW:(["offer","taken","out"]:List Str).Nodup:=by decide +kernel
theorem sc_43:zat ["stock","taken","out"] ["stock","taken","out"] (zah s_43):=⟨rfl,rfl,rfl,by decide +kernel,rfl,by decide +kernel,by decide +kernel⟩
theorem ok_43 (T:Tx K mg t):zbN P w K mg base CX0 1 t.a_43 t.d_43 ["stock","taken","out"] (zbP K 3 F_43):=by
 refine zbf (k:=0) (G:=G_43) (N:=["stock","taken","out"]) (ps:=["stock","taken","out"]) (st:=s_43) T.F_43 sc_43 fun cdv A outer s H E hr=> ?_
 ext aK
 refine zbp (N:=["offer","taken","out"]) ?_ ?_ ?_ ?_ ?_ ?_ ?_
 ext T
 exact (BOk.of (Xn:=(zah s_43).names) (XN:=["stock","taken","out"]) rfl rfl rfl (by decide +kernel))
 ext o;ext aB;ext aD;ext a;ext s
 exact zaS
 exact zb9
 ext au;ext a;ext aR;ext bn
 intro _ _ _
 exact zaq 0 zqW
 intro _ _ _
 refine zeh ?_
 ext ay
 refine zkW ?_ ?_
 ext l;ext ap;ext i;ext j
 refine zhz ?_
 ext l;ext ap;ext i;ext v
 intro _ _ _
 ext i
theorem nd_38:(["stock","lot","found","offer"]:List Str).Nodup:=by decide +kernel
theorem zpz:(["thing","found"]:List Str).Nodup:=by decide +kernel
theorem sc_38:zat ["stock","lot","found","offer"] ["stock","lot"] (zah s_38):=⟨rfl,rfl,rfl,by decide +kernel,rfl,by decide +kernel,by decide +kernel⟩
theorem ok_38 (T:Tx K mg t):zbN P w K mg base CX0 1 t.a_38 t.d_38 ["stock","lot"] (zbP K 2 F_38):=by
 refine zbf (k:=0) (G:=G_38) (N:=["stock","lot","found","offer"]) (ps:=["stock","lot"]) (st:=s_38) T.F_38 sc_38 fun cdv A outer s H E hr=> ?_
 ext bj
 exact nd_38
 ext z;ext g;ext f;ext bs;ext K;ext j
 exact zaq 3 nd_38
 ext k;ext L
 exact nd_38
 ext aP;ext v
 refine zbp (N:=["thing","found"]) ?_ ?_ ?_ ?_ ?_ ?_ ?_
 ext T
 exact (BOk.of (Xn:=(zah s_38).names) (XN:=["stock","lot","found","offer"]) rfl rfl rfl (by decide +kernel))
 ext bf;ext c;ext c;ext bh;ext bt
 intro _ _ _
 exact zaq 0 zpz
 intro _ _ _
 refine zeh ?_
 ext l;ext ap;ext i;ext j
 intro _ _ _
 ext i;ext aK;ext C
 exact zba
 exact za8
 ext ao;ext a
 refine zaJ (id:="sorted") ?_ ?_ ?_ ?_
 exact (zeA rfl)
 exact zhh
 exact T.n_sorted
 ext aV;ext aT
theorem nd_40:(["top","bottom","one","other"]:List Str).Nodup:=by decide +kernel
theorem sc_40:zat ["top","bottom","one","other"] ["top","bottom"] (zah s_40):=⟨rfl,rfl,rfl,by decide +kernel,rfl,by decide +kernel,by decide +kernel⟩
theorem ok_40 (T:Tx K mg t):zbN P w K mg base CX0 1 t.a_40 t.d_40 ["top","bottom"] (zbP K 2 F_40):=by
 refine zbf (k:=0) (G:=G_40) (N:=["top","bottom","one","other"]) (ps:=["top","bottom"]) (st:=s_40) T.F_40 sc_40 fun cdv A outer s H E hr=> ?_
 ext f
 refine zrd 2 3 ?_ ?_ ?_
 ext T
 exact nd_40
 ext a
 refine zaJ (id:="abs") ?_ ?_ ?_ ?_
 exact zgZ
 exact znp
 exact T.n_abs
 ext aL;ext aS
 refine zaJ (id:="abs") ?_ ?_ ?_ ?_
 exact zgZ
 exact znp
 exact T.n_abs
 ext bm;ext aT;ext f
 refine zkB 20000 ?_ ?_ ?_
 ext J;ext l
 exact zfQ
 ext bt;ext k
 refine zrd 2 3 ?_ ?_ ?_
 ext T
 exact nd_40
 ext bg;ext a;ext d
 exact zdL
 ext v;ext B;ext bo;ext aM;ext d
 exact zeV
 ext i;ext v;ext a;ext d
 exact zeV
 ext j;ext v;ext g
theorem nd_42:(["some","top","bottom","one"]:List Str).Nodup:=by decide +kernel
theorem sc_42:zat ["some","top","bottom","one"] ["some"] (zah s_42):=⟨rfl,rfl,rfl,by decide +kernel,rfl,by decide +kernel,by decide +kernel⟩
theorem ok_42 (T:Tx K mg t):zbN P w K mg base CX0 2 t.a_42 t.d_42 ["some"] (zbP K 1 F_42):=by
 refine zbf (k:=1) (G:=G_42) (N:=["some","top","bottom","one"]) (ps:=["some"]) (st:=s_42) T.F_42 sc_42 fun cdv A outer s H E hr=> ?_
 ext f;ext ax;ext bl;ext aE;ext T;ext V
 exact zaq 1 nd_42
 ext V
 exact zaq 2 nd_42
 exact zc1
 ext f;ext bs;ext K;ext i
 exact zaq 3 nd_42
 ext k;ext ax;ext r
 exact ok_40 T
 ext e
 exact T.m_40
 exact T.F_40.kp
 exact T.b_40
 ext bk;ext d
 exact zbk
 ext j;ext c;ext bt;ext d
 exact zbk
 ext c;ext bt;ext v;ext a;ext d
 exact zbk
 ext v;ext c;ext B;ext aJ;ext aE;ext T;ext V
 exact zaq 1 nd_42
 ext V
 exact zaq 2 nd_42
 exact zc1
 ext aK;ext aM;ext j;ext aV;ext g
theorem nd_44:(["box","stock","taken","out","had","found","thing","room","offer","top","bottom","here"]:List Str).Nodup:=by decide +kernel
theorem zrb:(["thing"]:List Str).Nodup:=by decide +kernel
theorem zqL:(["one","had"]:List Str).Nodup:=by decide +kernel
theorem zrv:(["one","stock"]:List Str).Nodup:=by decide +kernel
theorem zqc:(["one","found"]:List Str).Nodup:=by decide +kernel
theorem sc_44:zat ["box","stock","taken","out","had","found","thing","room","offer","top","bottom","here"] ["box","stock","taken","out"] (zah s_44):=⟨rfl,rfl,rfl,by decide +kernel,rfl,by decide +kernel,by decide +kernel⟩
theorem ok_44 (T:Tx K mg t):zbN P w K mg base CX0 3 t.a_44 t.d_44 ["box","stock","taken","out"] (zbP K 4 F_44):=by
 refine zbf (k:=2) (G:=G_44) (N:=["box","stock","taken","out","had","found","thing","room","offer","top","bottom","here"]) (ps:=["box","stock","taken","out"]) (st:=s_44) T.F_44 sc_44 fun cdv A outer s H E hr=> ?_
 ext f;ext az
 exact nd_44
 ext al
 exact ok_38 T
 ext e
 exact T.m_38
 exact T.F_38.kp
 exact T.b_38
 ext bm;ext aV;ext g;ext f
 refine zaI 5 ?_ ?_
 exact nd_44
 refine zob (N:=["thing"]) ?_ ?_ ?_ ?_ ?_ ?_ ?_
 ext T;ext m;ext o;ext aB;ext aD;ext a;ext aQ;ext aJ
 intro _ _ _
 exact zaq 0 zrb
 intro _ _ _
 exact zbX
 intro _ _ _
 ext bl;ext f;ext bs;ext K
 refine zbp (N:=["one","had"]) ?_ ?_ ?_ ?_ ?_ ?_ ?_
 ext T;ext m;ext o;ext aB;ext aD;ext a;ext aQ;ext aJ
 intro _ _ _
 exact zaq 0 zqL
 intro _ _ _
 refine zeh ?_
 ext l;ext ap;ext i;ext j
 intro _ _ _
 ext i
 exact zaq 6 nd_44
 ext f
 refine zaI 7 ?_ ?_
 exact nd_44
 exact zdg
 ext f;ext bs;ext K
 refine zbp (N:=["one","stock"]) ?_ ?_ ?_ ?_ ?_ ?_ ?_
 ext T;ext m;ext bf;ext y
 exact ok_43 T
 ext e
 exact T.m_43
 exact T.F_43.kp
 exact T.b_43
 ext bm;ext aV;ext bg;ext g
 intro _ _ _
 exact zaq 0 zrv
 intro _ _ _
 exact zbX
 intro _ _ _
 ext c;ext ba;ext i
 exact zaq 8 nd_44
 ext k;ext t;ext l
 exact (znj (zcO hr))
 exact zac 6
 ext c
 exact zac 8
 ext h;ext f;ext ax;ext P
 exact ok_42 T
 ext e
 exact T.m_42
 exact T.F_42.kp
 exact T.b_42
 ext a
 refine zbp (N:=["one","found"]) ?_ ?_ ?_ ?_ ?_ ?_ ?_
 ext T;ext m;ext bf;ext c
 exact zac 8
 ext h
 intro _ _ _
 exact zaq 0 zqc
 intro _ _ _
 exact zbX
 intro _ _ _
 ext aQ;ext i;ext g;ext aE;ext T;ext V
 exact zaq 9 nd_44
 ext V
 exact zaq 10 nd_44
 exact zc1
 ext f
 refine zaI 11 ?_ ?_
 exact nd_44
 ext r
 exact ok_40 T
 ext e
 exact T.m_40
 exact T.F_40.kp
 exact T.b_40
 ext a;ext d
 exact zex
 ext d
 exact zbk
 ext c
 exact zac 8
 ext h
 exact zac 10
 exact zac 9
 ext a
 exact zac 10
 ext g;ext k;ext t;ext bv;ext l
 exact zg8
 ext aA
 exact zdg
 ext aF;ext l
 exact zkN
 ext d
 exact zbk
 ext c
 exact zac 11
 ext h;ext c;ext aA;ext h;ext d
 exact zbk
 ext c;ext aA;ext h;ext c
 exact zac 11
 ext h;ext k
 refine zaI 7 ?_ ?_
 exact nd_44
 exact zac 11
 ext av;ext av;ext f
 refine zaI 7 ?_ ?_
 exact nd_44
 refine zpS ?_ ?_ ?_
 ext l
 exact zg8
 ext aA
 exact zdg
 ext bl;ext aA;ext k;ext ax;ext c;ext aW;ext aA;ext a;ext aA;ext a;ext r
 exact ok_40 T
 ext e
 exact T.m_40
 exact T.F_40.kp
 exact T.b_40
 ext a;ext c;ext aA;ext aN;ext d
 exact zbk
 ext c;ext aA;ext h;ext bn;ext bu;ext aJ
 refine zlr ?_ ?_
 ext af
 exact zac 6
 ext aK;ext aM;ext bb;ext C
 exact zba
 exact za8
 ext ao;ext a;ext af;ext aT
theorem nd_45:(["box","stock","taken","out","deep","left","offer","one"]:List Str).Nodup:=by decide +kernel
theorem sc_45:zat ["box","stock","taken","out","deep","left","offer","one"] ["box","stock","taken","out","deep"] (zah s_45):=⟨rfl,rfl,rfl,by decide +kernel,rfl,by decide +kernel,by decide +kernel⟩
theorem ok_45 (T:Tx K mg t): ∀ d:Nat,zbN P w K mg base CX0 (3+d) t.a_45 t.d_45 ["box","stock","taken","out","deep"] (zbP K 5 (F_45 d))
|0=>ziO
|d+1=>by
 refine zbf (k:=3+d) (G:=K41.G_45 (F_45 d)) (N:=["box","stock","taken","out","deep","left","offer","one"]) (ps:=["box","stock","taken","out","deep"]) (st:=s_45) T.F_45 sc_45 fun cdv A outer s H E hr=> ?_
 ext f
 refine zaI 5 ?_ ?_
 exact nd_45
 ext y
 exact ok_43 T
 ext n
 exact T.m_43
 exact T.F_43.kp
 exact T.b_43
 ext bm;ext aV;ext bg;ext g;ext aU;ext bv;ext bq;ext aq;ext h;ext R;ext bq;ext af;ext z;ext g;ext aF;ext bq;ext aX;ext n;ext bc;ext aJ;ext h;ext aK
 refine zam (k:=3) (g:=t.a_44) (fd:=t.d_44) (ps:=["box","stock","taken","out"]) ?_ ?_ ?_ ?_ ?_ ?_
 exact ok_44 T
 ext n
 exact T.m_44
 exact T.F_44.kp
 exact T.b_44
 ext bp;ext aV;ext bg;ext g;ext av;ext f
 refine zaI 6 ?_ ?_
 exact nd_45
 ext c;ext af;ext aX;ext n;ext bc;ext s
 exact zaS
 exact zb9
 ext au;ext a;ext af;ext aT;ext f
 refine zaI 7 ?_ ?_
 exact nd_45
 ext U
 exact ok_45 T d
 ext n
 exact T.m_45
 exact T.F_45.kp
 exact T.b_45
 ext bp;ext bk;ext v;ext aW
 exact zac 6
 ext aS;ext B;ext a;ext d
 exact zex
 ext aq;ext aJ;ext aK;ext aM;ext bb
 exact zac 6
 ext a;ext aA;ext a;ext U
 exact ok_45 T d
 ext n
 exact T.m_45
 exact T.F_45.kp
 exact T.b_45
 ext bp;ext aV;ext bk;ext B;ext aW
 exact zac 6
 ext aS;ext d
 exact zex
 ext aq;ext bn
theorem sc_32:zat ["thing"] ["thing"] (zah s_32):=⟨rfl,rfl,rfl,by decide +kernel,rfl,by decide +kernel,by decide +kernel⟩
theorem ok_32 (T:Tx K mg t):zbN P w K mg base CX0 1 t.a_32 t.d_32 ["thing"] (zbP K 1 F_32):=by
 refine zbf (k:=0) (G:=G_32) (N:=["thing"]) (ps:=["thing"]) (st:=s_32) T.F_32 sc_32 fun cdv A outer s H E hr=> ?_
 ext aK;ext ar;ext F
 exact zls
 exact zkn
 ext x
 exact T.n_int
 ext i;ext aI
 refine zmC ?_
 ext F
 exact zgc
 exact zhZ
 ext x
 exact T.n_bool
 ext i
theorem sc_41:zat ["thing"] ["thing"] (zah s_41):=⟨rfl,rfl,rfl,by decide +kernel,rfl,by decide +kernel,by decide +kernel⟩
theorem ok_41 (T:Tx K mg t):zbN P w K mg base CX0 2 t.a_41 t.d_41 ["thing"] (zbP K 1 F_41):=by
 refine zbf (k:=1) (G:=G_41) (N:=["thing"]) (ps:=["thing"]) (st:=s_41) T.F_41 sc_41 fun cdv A outer s H E hr=> ?_
 ext aU;ext bv;ext be;ext F
 exact zcQ
 exact za8
 ext x;ext ao;ext i;ext R;ext l;ext ae;ext s
 exact zaS
 exact zb9
 ext au;ext aL;ext g;ext h;ext R;ext be;ext O
 exact ok_32 T
 ext e
 exact T.m_32
 exact T.F_32.kp
 exact T.b_32
 ext a;ext aR;ext aJ;ext aF;ext be;ext O
 exact ok_32 T
 ext e
 exact T.m_32
 exact T.F_32.kp
 exact T.b_32
 ext a;ext aR;ext aJ;ext aK
 exact zhs
 ext av;ext aK;ext ar;ext Q
 exact zfQ
 ext bh;ext h;ext aI;ext Q;ext A;ext r
 exact ok_40 T
 ext e
 exact T.m_40
 exact T.F_40.kp
 exact T.b_40
 ext a;ext aR;ext aN;ext aR;ext aJ;ext i
theorem zqu:(["offer","stock"]:List Str).Nodup:=by decide +kernel
theorem sc_39:zat ["stock","lot"] ["stock","lot"] (zah s_39):=⟨rfl,rfl,rfl,by decide +kernel,rfl,by decide +kernel,by decide +kernel⟩
theorem ok_39 (T:Tx K mg t):zbN P w K mg base CX0 1 t.a_39 t.d_39 ["stock","lot"] (zbP K 2 F_39):=by
 refine zbf (k:=0) (G:=G_39) (N:=["stock","lot"]) (ps:=["stock","lot"]) (st:=s_39) T.F_39 sc_39 fun cdv A outer s H E hr=> ?_
 ext aK
 refine zaJ (id:="sum") ?_ ?_ ?_ ?_
 exact (zg9 rfl)
 exact zjO
 exact T.n_sum
 ext a
 refine zbp (N:=["offer","stock"]) ?_ ?_ ?_ ?_ ?_ ?_ ?_
 ext T
 exact (BOk.of (Xn:=(zah s_39).names) (XN:=["stock","lot"]) rfl rfl rfl (by decide +kernel))
 ext bf;ext j
 intro _ _ _
 exact zaq 0 zqu
 intro _ _ _
 exact zbX
 intro _ _ _
 ext c;ext c;ext ba;ext i;ext aJ
theorem nd_46:(["stock","thing","taken","out","good","offer","top","bottom","one","other"]:List Str).Nodup:=by decide +kernel
theorem zqb:(["one"]:List Str).Nodup:=by decide +kernel
theorem zqH:(["one","thing"]:List Str).Nodup:=by decide +kernel
theorem zrS:(["one","thing"]:List Str).Nodup:=by decide +kernel
theorem sc_46:zat ["stock","thing","taken","out","good","offer","top","bottom","one","other"] ["stock","thing","taken","out"] (zah s_46):=⟨rfl,rfl,rfl,by decide +kernel,rfl,by decide +kernel,by decide +kernel⟩
theorem ok_46 (T:Tx K mg t): ∀ d:Nat,zbN P w K mg base CX0 (2+d) t.a_46 t.d_46 ["stock","thing","taken","out"] (zbP K 4 (F_46 d))
|0=>ziO
|d+1=>by
 refine zbf (k:=2+d) (G:=K41.G_46 (F_46 d)) (N:=["stock","thing","taken","out","good","offer","top","bottom","one","other"]) (ps:=["stock","thing","taken","out"]) (st:=s_46) T.F_46 sc_46 fun cdv A outer s H E hr=> ?_
 ext aU;ext bv;ext be;ext F
 exact zcQ
 exact za8
 ext x;ext ao;ext j;ext R;ext bq;ext j;ext q;ext g;ext aF;ext be;ext F
 exact znx
 exact zpB
 ext x
 exact T.n_str
 ext ba;ext aK
 exact zdg
 ext av;ext aU;ext bq;ext ba;ext aw;ext f;ext az
 exact nd_46
 ext ar;ext Q;ext A;ext s
 exact zaS
 exact zb9
 ext au;ext bm;ext g;ext h;ext ar;ext F
 exact zcQ
 exact za8
 ext x;ext ao;ext ba;ext aI;ext Q;ext A;ext s
 exact zaS
 exact zb9
 ext au;ext a;ext aQ;ext aJ;ext bh;ext aU;ext bv;ext be;ext aq;ext aF;ext be
 refine zaJ (id:="all") ?_ ?_ ?_ ?_
 exact (zfe rfl)
 exact zki
 exact T.n_all
 ext a
 refine zbp (N:=["one"]) ?_ ?_ ?_ ?_ ?_ ?_ ?_
 ext T;ext u;ext bf;ext ba
 intro _ _ _
 exact zaq 0 zqb
 intro _ _ _
 exact zbX
 intro _ _ _
 ext ar
 refine zam (k:=2) (g:=t.a_41) (fd:=t.d_41) (ps:=["thing"]) ?_ ?_ ?_ ?_ ?_ ?_
 exact ok_41 T
 ext n
 exact T.m_41
 exact T.F_41.kp
 exact T.b_41
 ext aL;ext g;ext aI;ext Q
 exact zjU
 ext bh;ext aJ;ext aK
 exact zdg
 ext av;ext aU;ext l;ext ae
 refine zbp (N:=["one","thing"]) ?_ ?_ ?_ ?_ ?_ ?_ ?_
 ext T;ext u;ext bf;ext al
 exact ok_38 T
 ext n
 exact T.m_38
 exact T.F_38.kp
 exact T.b_38
 ext aO;ext v;ext g
 intro _ _ _
 exact zaq 0 zqH
 intro _ _ _
 refine zeh ?_
 ext l;ext ae;ext c;ext ba;ext i;ext bl
 intro _ _ _
 ext i;ext z;ext bo
 exact zdg
 ext av;ext f;ext bs;ext K;ext y
 exact ok_43 T
 ext n
 exact T.m_43
 exact T.F_43.kp
 exact T.b_43
 ext aO;ext v;ext bg;ext g
 exact zaq 5 nd_46
 ext f;ext ax;ext P
 exact ok_42 T
 ext n
 exact T.m_42
 exact T.F_42.kp
 exact T.b_42
 ext a
 refine zbp (N:=["one","thing"]) ?_ ?_ ?_ ?_ ?_ ?_ ?_
 ext T;ext u;ext bf;ext c;ext c;ext bh;ext af;ext h
 intro _ _ _
 exact zaq 0 zrS
 intro _ _ _
 exact zbX
 intro _ _ _
 ext c;ext ba;ext i;ext g;ext aE;ext T;ext V
 exact zaq 6 nd_46
 ext V
 exact zaq 7 nd_46
 exact zc1
 ext k;ext t;ext l
 exact zfQ
 exact zac 6
 ext d
 exact zbk
 ext c;ext c;ext bh;ext af;ext h;ext aA;ext aK
 exact zdg
 ext av;ext aK;ext P
 exact ok_42 T
 ext n
 exact T.m_42
 exact T.F_42.kp
 exact T.b_42
 ext bk
 refine zbn (T:="list") ?_ ?_ ?_ ?_
 exact zew
 exact zhC
 exact T.n_list
 ext a;ext aQ;ext aJ;ext aW;ext aM
 refine zam (k:=1) (g:=t.a_39) (fd:=t.d_39) (ps:=["stock","lot"]) ?_ ?_ ?_ ?_ ?_ ?_
 exact ok_39 T
 ext n
 exact T.m_39
 exact T.F_39.kp
 exact T.b_39
 ext aO;ext v;ext aS;ext aJ;ext aT;ext av;ext aU;ext bv;ext l;ext ae;ext ba;ext aw;ext R;ext l;ext ae;ext s
 exact zaS
 exact zb9
 ext au;ext bm;ext g;ext h;ext aF;ext be;ext O
 exact ok_32 T
 ext n
 exact T.m_32
 exact T.F_32.kp
 exact T.b_32
 ext a;ext aQ;ext aJ;ext aK
 exact zdg
 ext av;ext aU;ext l;ext ap;ext ba;ext y
 exact ok_43 T
 ext n
 exact T.m_43
 exact T.F_43.kp
 exact T.b_43
 ext aO;ext v;ext bg;ext bo
 exact zdg
 ext av;ext f
 refine zaI 8 ?_ ?_
 exact nd_46
 ext W
 exact ok_46 T d
 ext n
 exact T.m_46
 exact T.F_46.kp
 exact T.b_46
 ext aO;ext aQ;ext aN;ext aP;ext v;ext aW;ext aQ;ext aJ;ext bg;ext g;ext f
 refine zaI 9 ?_ ?_
 exact nd_46
 ext W
 exact ok_46 T d
 ext n
 exact T.m_46
 exact T.F_46.kp
 exact T.b_46
 ext aO;ext aQ;ext aN;ext v;ext bk;ext B;ext aW;ext aQ;ext bn;ext aU;ext bv;ext l
 exact zg8
 exact zac 8
 exact zdg
 ext aF;ext l
 exact zg8
 exact zac 9
 exact zdg
 ext aK
 exact zdg
 ext av;ext aK
 refine zpS ?_ ?_ ?_
 ext l
 exact zrD
 ext d
 exact zbk
 ext c
 exact zac 8
 ext h;ext c
 exact zac 9
 ext h;ext d
 exact zbk
 ext c
 exact zac 9
 ext h;ext c
 exact zac 8
 ext h
 exact zac 8
 exact zac 9
theorem nd_47:(["box","paper","some","at","top","bottom","odd","row"]:List Str).Nodup:=by decide +kernel
theorem sc_47:zat ["box","paper","some","at","top","bottom","odd","row"] ["box","paper"] (zah s_47):=⟨rfl,rfl,rfl,by decide +kernel,rfl,by decide +kernel,by decide +kernel⟩
theorem ok_47 (T:Tx K mg t): ∀ d:Nat,zbN P w K mg base CX0 (1+d) t.a_47 t.d_47 ["box","paper"] (zbP K 2 (F_47 d))
|0=>ziO
|d+1=>by
 refine zbf (k:=1+d) (G:=K41.G_47 (F_47 d)) (N:=["box","paper","some","at","top","bottom","odd","row"]) (ps:=["box","paper"]) (st:=s_47) T.F_47 sc_47 fun cdv A outer s H E hr=> ?_
 ext aU;ext ay
 refine zkW ?_ ?_
 ext bq;ext ba;ext aw
 refine zhz ?_
 ext l
 exact zfQ
 ext aX;ext n;ext bc;ext aJ;ext h;ext bj
 exact nd_47
 ext aW;ext aP;ext aM;ext aQ;ext aN;ext aX;ext n;ext bc;ext bn;ext ad;ext j;ext aG;ext h
 exact zb5
 ext bk;ext ad;ext j
 exact zb5
 ext aG;ext h;ext aM;ext aQ;ext aN;ext aQ;ext aJ;ext a;ext ad;ext j
 exact zb5
 ext aG;ext aN;ext aP;ext j;ext aM;ext bn;ext bj
 exact nd_47
 ext aP;ext v;ext aW;ext aP;ext ad;ext j
 exact zb5
 ext aG;ext h;ext aM;ext ak
 exact ok_47 T d
 ext n
 exact T.m_47
 exact T.F_47.kp
 exact T.b_47
 ext aO;ext aQ;ext aJ;ext a;ext aQ;ext aJ;ext bk;ext ad;ext j
 exact zb5
 ext aG;ext h;ext aM;ext ak
 exact ok_47 T d
 ext n
 exact T.m_47
 exact T.F_47.kp
 exact T.b_47
 ext aO;ext aQ;ext aJ;ext aT;ext aK;ext c;ext aP;ext v;ext aW;ext aP;ext ad;ext j
 exact zb5
 ext aG;ext h;ext aM;ext aQ;ext aN;ext aQ;ext bn;ext aX;ext n;ext bc;ext aJ;ext av;ext bj
 exact nd_47
 ext aW
 refine zbn (T:="list") ?_ ?_ ?_ ?_
 exact zew
 exact zhC
 exact T.n_list
 ext bm;ext aS;ext ad;ext j
 exact zb5
 ext aG;ext aN;ext aP;ext j;ext ad;ext j;ext aG
 refine znZ ?_
 ext h
 exact zb5
 ext bk;ext aM;ext aw;ext g;ext ad;ext j;ext aG;ext h
 exact zb5
 ext a
 exact zdg
 ext a;ext q;ext aS
 refine zsT ?_
 ext j;ext a;ext aM;ext bb
 exact zdg
 ext aT;ext aU;ext bq;ext ba;ext aw;ext f;ext as
 exact nd_47
 ext aX;ext n;ext bc;ext s
 exact zaS
 exact zb9
 ext au;ext a;ext aQ;ext bn;ext f;ext ax;ext c;ext ba;ext B;ext aE;ext T;ext V
 exact zaq 4 nd_47
 ext V
 exact zaq 5 nd_47
 exact zc1
 ext f
 refine zaI 6 ?_ ?_
 exact nd_47
 ext aW;ext aM;ext aP;ext aq;ext af;ext a;ext af;ext aS;ext aM;ext aq;ext a;ext d
 exact zbI
 ext af;ext aJ;ext a;ext aM
 refine znZ ?_
 ext bd;ext a;ext bl;ext a;ext aM
 exact zhs
 ext a;ext aJ;ext a
 exact zdg
 ext a;ext aM;ext d
 exact zbI
 ext h;ext aq;ext a;ext d
 exact zbI
 ext h;ext af;ext aT;ext f
 refine zaI 7 ?_ ?_
 exact nd_47
 ext aP;ext aP;ext ad;ext ba
 exact zb5
 ext aG;ext B;ext aM;ext c;ext aP
 exact zac 6
 ext aW;ext bl;ext g;ext aX;ext n;ext bc;ext bn;ext ad;ext ba;ext aG;ext aP;ext bt
 exact zb5
 ext k;ext L
 exact nd_47
 ext aP;ext v;ext aW;ext aM;ext bb;ext aA;ext aS;ext aM;ext bb;ext aA;ext aS;ext aM;ext bb;ext aA;ext aS;ext aM;ext bb
 refine zbn (T:="list") ?_ ?_ ?_ ?_
 exact zew
 exact zhC
 exact T.n_list
 ext a;ext aA;ext g;ext aS;ext aM;ext bb;ext ad;ext aA;ext aG;ext h
 exact zb5
 ext aT;ext av;ext aK;ext c;ext v;ext aX;ext n;ext bc;ext s
 exact zaS
 exact zb9
 ext au;ext aV;ext aT
theorem nd_33:(["box","some"]:List Str).Nodup:=by decide +kernel
theorem sc_33:zat ["box","some"] ["box"] (zah s_33):=⟨rfl,rfl,rfl,by decide +kernel,rfl,by decide +kernel,by decide +kernel⟩
theorem ok_33 (T:Tx K mg t):zbN P w K mg base CX0 2 t.a_33 t.d_33 ["box"] (zbP K 1 F_33):=by
 refine zbf (k:=1) (G:=G_33) (N:=["box","some"]) (ps:=["box"]) (st:=s_33) T.F_33 sc_33 fun cdv A outer s H E hr=> ?_
 ext f;ext aH
 exact nd_33
 ext aW
 exact zdg
 ext a
 exact zhs
 ext a;ext aN;ext bb;ext bb;ext q;ext aS;ext z;ext aS
 exact znC
 ext a;ext bl;ext a;ext aM;ext aJ;ext a;ext bl;ext a
 refine znZ ?_
 ext aN;ext bl;ext a;ext aW;ext aM;ext aN;ext bd;ext aS
 exact zhs
 ext a;ext aM;ext bl;ext aT;ext aK;ext aQ;ext bu;ext aJ
theorem nd_34:(["e","kinds","words"]:List Str).Nodup:=by decide +kernel
theorem zsC:(["kind"]:List Str).Nodup:=by decide +kernel
theorem sc_34:zat ["e","kinds","words"] ["e"] (zah s_34):=⟨rfl,rfl,rfl,by decide +kernel,rfl,by decide +kernel,by decide +kernel⟩
theorem ok_34 (T:Tx K mg t):FnH P w K mg base  1 t.a_34 t.d_34 ["e"] (zbP K 1 F_34):=by
 refine zqm (k:=0) (G:=G_34) (N:=["e","kinds","words"]) (ps:=["e"]) (st:=s_34) T.F_34 sc_34 fun cdv A outer s H hr=> ?_
 ext f;ext aH
 exact nd_34
 ext aW
 refine zeY (CE:=t.a_7) (CC:=t.a_8) ?_ ?_ ?_ ?_ ?_ ?_
 ext aC;ext M
 exact T.k_8
 ext x
 exact T.g_8
 ext i;ext a
 refine zeY (CE:=t.a_7) (CC:=t.a_9) ?_ ?_ ?_ ?_ ?_ ?_
 ext aC;ext M
 exact T.k_9
 ext x
 exact T.g_9
 ext i;ext a
 refine zeY (CE:=t.a_7) (CC:=t.a_10) ?_ ?_ ?_ ?_ ?_ ?_
 ext aC;ext M
 exact T.k_10
 ext x
 exact T.g_10
 ext i;ext a
 refine zeY (CE:=t.a_7) (CC:=t.a_11) ?_ ?_ ?_ ?_ ?_ ?_
 ext aC;ext M
 exact T.k_11
 ext x
 exact T.g_11
 ext i;ext g;ext f;ext aH
 exact nd_34
 ext aP;ext j;ext aW
 refine zeY (CE:=t.a_7) (CC:=t.a_12) ?_ ?_ ?_ ?_ ?_ ?_
 ext aC;ext M
 exact T.k_12
 ext x
 exact T.g_12
 ext i;ext a
 refine zeY (CE:=t.a_7) (CC:=t.a_13) ?_ ?_ ?_ ?_ ?_ ?_
 ext aC;ext M
 exact T.k_13
 ext x
 exact T.g_13
 ext i;ext a
 refine zeY (CE:=t.a_7) (CC:=t.a_14) ?_ ?_ ?_ ?_ ?_ ?_
 ext aC;ext M
 exact T.k_14
 ext x
 exact T.g_14
 ext i;ext a
 refine zeY (CE:=t.a_7) (CC:=t.a_15) ?_ ?_ ?_ ?_ ?_ ?_
 ext aC;ext M
 exact T.k_15
 ext x
 exact T.g_15
 ext i;ext g;ext f;ext aH
 exact nd_34
 ext aP;ext j;ext aW
 refine zeY (CE:=t.a_7) (CC:=t.a_16) ?_ ?_ ?_ ?_ ?_ ?_
 ext aC;ext M
 exact T.k_16
 ext x
 exact T.g_16
 ext i;ext a
 refine zeY (CE:=t.a_7) (CC:=t.a_17) ?_ ?_ ?_ ?_ ?_ ?_
 ext aC;ext M
 exact T.k_17
 ext x
 exact T.g_17
 ext i;ext a
 refine zeY (CE:=t.a_7) (CC:=t.a_18) ?_ ?_ ?_ ?_ ?_ ?_
 ext aC;ext M
 exact T.k_18
 ext x
 exact T.g_18
 ext i;ext g;ext aU;ext bv;ext be
 refine zrM (CE:=t.a_7) ?_ ?_ ?_ ?_
 ext aC;ext x
 exact T.n_ValueError
 ext i;ext aF;ext l
 exact (zdc (zst hr))
 refine zaJ (id:="sum") ?_ ?_ ?_ ?_
 exact zjc
 exact zjO
 exact T.n_sum
 ext a
 refine zog (N:=["kind"]) ?_ ?_ ?_ ?_ ?_ ?_
 exact (BOk.of (Xn:=(zah s_34).names) (XN:=["e","kinds","words"]) rfl rfl rfl (by decide +kernel))
 ext bf;ext j
 intro _ _ _
 exact zaq 0 zsC
 intro _ _ _
 exact zbX
 intro _ _ _
 refine zbn (T:="int") ?_ ?_ ?_ ?_
 exact zi9
 exact zkn
 exact T.n_int
 ext aL;ext aT;ext h;ext aK;ext aw;ext av;ext bj
 exact nd_34
 ext aW;ext bb;ext bb;ext bb;ext bb;ext bb;ext bb;ext bb;ext bb;ext bb;ext bb;ext aw;ext bo;ext aP;ext aw;ext c;ext v
 refine zo0 ?_
 ext j
theorem sc_0:zat ["thing"] ["thing"] (zah s_0):=⟨rfl,rfl,rfl,by decide +kernel,rfl,by decide +kernel,by decide +kernel⟩
theorem ok_0 (T:Tx K mg t):zbN P w K mg base CX0 1 t.a_0 t.d_0 ["thing"] (zbP K 1 F_0):=by
 refine zbf (k:=0) (G:=G_0) (N:=["thing"]) (ps:=["thing"]) (st:=s_0) T.F_0 sc_0 fun cdv A outer s H E hr=> ?_
 ext aK;ext ar;ext F
 exact zls
 exact zkn
 ext x
 exact T.n_int
 ext i;ext aI
 refine zmC ?_
 ext F
 exact zgc
 exact zhZ
 ext x
 exact T.n_bool
 ext i
theorem sc_1:zat ["thing"] ["thing"] (zah s_1):=⟨rfl,rfl,rfl,by decide +kernel,rfl,by decide +kernel,by decide +kernel⟩
theorem ok_1 (T:Tx K mg t):zbN P w K mg base CX0 1 t.a_1 t.d_1 ["thing"] (zbP K 1 F_1):=by
 refine zbf (k:=0) (G:=G_1) (N:=["thing"]) (ps:=["thing"]) (st:=s_1) T.F_1 sc_1 fun cdv A outer s H E hr=> ?_
 ext aK;ext ar;ext F
 exact zcQ
 exact za8
 ext x;ext ao;ext i;ext aI;ext Q;ext A;ext s
 exact zaS
 exact zb9
 ext au;ext aL;ext g;ext h
theorem nd_3:(["top","bottom","one","other","rest"]:List Str).Nodup:=by decide +kernel
theorem sc_3:zat ["top","bottom","one","other","rest"] ["top","bottom"] (zah s_3):=⟨rfl,rfl,rfl,by decide +kernel,rfl,by decide +kernel,by decide +kernel⟩
theorem ok_3 (T:Tx K mg t):zbN P w K mg base CX0 1 t.a_3 t.d_3 ["top","bottom"] (zbP K 2 F_3):=by
 refine zbf (k:=0) (G:=G_3) (N:=["top","bottom","one","other","rest"]) (ps:=["top","bottom"]) (st:=s_3) T.F_3 sc_3 fun cdv A outer s H E hr=> ?_
 ext bj
 exact nd_3
 ext i;ext f;ext as
 exact nd_3
 ext j;ext f
 refine zkB 20000 ?_ ?_ ?_
 ext J;ext l
 exact zfQ
 ext bt;ext f;ext az
 exact nd_3
 ext d
 exact zdL
 ext v;ext B;ext bj
 exact nd_3
 ext B;ext k;ext as
 exact nd_3
 ext aq;ext aK;ext v
theorem sc_5:zat ["thing"] ["thing"] (zah s_5):=⟨rfl,rfl,rfl,by decide +kernel,rfl,by decide +kernel,by decide +kernel⟩
theorem ok_5 (T:Tx K mg t):zbN P w K mg base CX0 2 t.a_5 t.d_5 ["thing"] (zbP K 1 F_5):=by
 refine zbf (k:=1) (G:=G_5) (N:=["thing"]) (ps:=["thing"]) (st:=s_5) T.F_5 sc_5 fun cdv A outer s H E hr=> ?_
 ext aU;ext bv;ext be
 refine zam (k:=1) (g:=t.a_1) (fd:=t.d_1) (ps:=["thing"]) ?_ ?_ ?_ ?_ ?_ ?_
 exact ok_1 T
 ext e
 exact T.m_1
 exact T.F_1.kp
 exact T.b_1
 ext aL;ext g;ext R;ext be;ext S
 exact ok_0 T
 ext e
 exact T.m_0
 exact T.F_0.kp
 exact T.b_0
 ext a;ext aR;ext aJ;ext aF;ext be;ext S
 exact ok_0 T
 ext e
 exact T.m_0
 exact T.F_0.kp
 exact T.b_0
 ext a;ext aR;ext aJ;ext aK
 exact zhs
 ext av;ext aK;ext ar;ext Q
 exact zfQ
 ext bh;ext h;ext aI;ext Q;ext A;ext an
 exact ok_3 T
 ext e
 exact T.m_3
 exact T.F_3.kp
 exact T.b_3
 ext a;ext aR;ext aN;ext aR;ext aJ;ext h
theorem sc_21:zat ["thing"] ["thing"] (zah s_21):=⟨rfl,rfl,rfl,by decide +kernel,rfl,by decide +kernel,by decide +kernel⟩
theorem ok_21 (T:Tx K mg t):zbN P w K mg base CX0 3 t.a_21 t.d_21 ["thing"] (zbP K 1 F_21):=by
 refine zbf (k:=2) (G:=G_21) (N:=["thing"]) (ps:=["thing"]) (st:=s_21) T.F_21 sc_21 fun cdv A outer s H E hr=> ?_
 ext aK;ext ar
 refine zam (k:=2) (g:=t.a_5) (fd:=t.d_5) (ps:=["thing"]) ?_ ?_ ?_ ?_ ?_ ?_
 exact ok_5 T
 ext e
 exact T.m_5
 exact T.F_5.kp
 exact T.b_5
 ext aL;ext g;ext aI;ext Q
 exact zjU
 ext bh;ext h
theorem zr8:(["share"]:List Str).Nodup:=by decide +kernel
theorem sc_20:zat ["thing","many"] ["thing","many"] (zah s_20):=⟨rfl,rfl,rfl,by decide +kernel,rfl,by decide +kernel,by decide +kernel⟩
theorem ok_20 (T:Tx K mg t):zbN P w K mg base CX0 4 t.a_20 t.d_20 ["thing","many"] (zbP K 2 F_20):=by
 refine zbf (k:=3) (G:=G_20) (N:=["thing","many"]) (ps:=["thing","many"]) (st:=s_20) T.F_20 sc_20 fun cdv A outer s H E hr=> ?_
 ext aU;ext bv;ext be;ext F
 exact zcQ
 exact za8
 ext x;ext ao;ext i;ext aF;ext l;ext ae;ext s
 exact zaS
 exact zb9
 ext au;ext aL;ext g;ext j;ext aK
 exact zhs
 ext av;ext aK
 refine zaJ (id:="all") ?_ ?_ ?_ ?_
 exact (zfe rfl)
 exact zki
 exact T.n_all
 ext a
 refine zbp (N:=["share"]) ?_ ?_ ?_ ?_ ?_ ?_ ?_
 ext T
 exact (BOk.of (Xn:=(zah s_20).names) (XN:=["thing","many"]) rfl rfl rfl (by decide +kernel))
 ext bf;ext i
 intro _ _ _
 exact zaq 0 zr8
 intro _ _ _
 exact zbX
 intro _ _ _
 refine zam (k:=3) (g:=t.a_21) (fd:=t.d_21) (ps:=["thing"]) ?_ ?_ ?_ ?_ ?_ ?_
 exact ok_21 T
 ext e
 exact T.m_21
 exact T.F_21.kp
 exact T.b_21
 ext aL;ext aT
theorem nd_19:(["offers","things","offer"]:List Str).Nodup:=by decide +kernel
theorem sc_19:zat ["offers","things","offer"] ["offers"] (zah s_19):=⟨rfl,rfl,rfl,by decide +kernel,rfl,by decide +kernel,by decide +kernel⟩
theorem ok_19 (T:Tx K mg t):zbN P w K mg base CX0 1 t.a_19 t.d_19 ["offers"] (zbP K 1 F_19):=by
 refine zbf (k:=0) (G:=G_19) (N:=["offers","things","offer"]) (ps:=["offers"]) (st:=s_19) T.F_19 sc_19 fun cdv A outer s H E hr=> ?_
 ext f;ext aH
 exact nd_19
 refine ziF ?_
 ext g;ext f;ext bs;ext K;ext i
 exact zaq 2 nd_19
 ext k
 refine zpU ?_
 refine zl6 ?_ ?_
 ext j;ext c;ext v;ext h;ext aK;ext C
 exact zba
 exact za8
 ext ao;ext a
 refine zgD ?_ ?_ ?_ ?_
 ext T
 exact T.n_sorted
 exact T.n_set
 ext j;ext g
theorem ztl:(["number","stock"]:List Str).Nodup:=by decide +kernel
theorem sc_27:zat ["stock","taken"] ["stock","taken"] (zah s_27):=⟨rfl,rfl,rfl,by decide +kernel,rfl,by decide +kernel,by decide +kernel⟩
theorem ok_27 (T:Tx K mg t):zbN P w K mg base CX0 2 t.a_27 t.d_27 ["stock","taken"] (zbP K 2 F_27):=by
 refine zbf (k:=1) (G:=G_27) (N:=["stock","taken"]) (ps:=["stock","taken"]) (st:=s_27) T.F_27 sc_27 fun cdv A outer s H E hr=> ?_
 ext aK
 refine zam (k:=1) (g:=t.a_19) (fd:=t.d_19) (ps:=["offers"]) ?_ ?_ ?_ ?_ ?_ ?_
 exact ok_19 T
 ext e
 exact T.m_19
 exact T.F_19.kp
 exact T.b_19
 ext a
 refine zbp (N:=["number","stock"]) ?_ ?_ ?_ ?_ ?_ ?_ ?_
 ext T
 exact (BOk.of (Xn:=(zah s_27).names) (XN:=["stock","taken"]) rfl rfl rfl (by decide +kernel))
 ext bf;ext j
 intro _ _ _
 exact zaq 0 ztl
 intro _ _ _
 exact zbX
 intro _ _ _
 ext c;ext ba;ext i;ext g
theorem zs1:(["number","taken","left_out"]:List Str).Nodup:=by decide +kernel
theorem sc_26:zat ["stock","taken","left_out"] ["stock","taken","left_out"] (zah s_26):=⟨rfl,rfl,rfl,by decide +kernel,rfl,by decide +kernel,by decide +kernel⟩
theorem ok_26 (T:Tx K mg t):zbN P w K mg base CX0 1 t.a_26 t.d_26 ["stock","taken","left_out"] (zbP K 3 F_26):=by
 refine zbf (k:=0) (G:=G_26) (N:=["stock","taken","left_out"]) (ps:=["stock","taken","left_out"]) (st:=s_26) T.F_26 sc_26 fun cdv A outer s H E hr=> ?_
 ext aK
 refine zbp (N:=["number","taken","left_out"]) ?_ ?_ ?_ ?_ ?_ ?_ ?_
 ext T
 exact (BOk.of (Xn:=(zah s_26).names) (XN:=["stock","taken","left_out"]) rfl rfl rfl (by decide +kernel))
 ext o;ext aB;ext aD;ext a;ext s
 exact zaS
 exact zb9
 ext au;ext a;ext aR;ext bn
 intro _ _ _
 exact zaq 0 zs1
 intro _ _ _
 refine zeh ?_
 ext ay
 refine zkW ?_ ?_
 ext l;ext ap;ext i;ext j
 refine zhz ?_
 ext l;ext ap;ext i;ext v
 intro _ _ _
 ext i
theorem nd_2:(["top","bottom","shared"]:List Str).Nodup:=by decide +kernel
theorem sc_2:zat ["top","bottom","shared"] ["top","bottom"] (zah s_2):=⟨rfl,rfl,rfl,by decide +kernel,rfl,by decide +kernel,by decide +kernel⟩
theorem ok_2 (T:Tx K mg t):zbN P w K mg base CX0 2 t.a_2 t.d_2 ["top","bottom"] (zbP K 2 F_2):=by
 refine zbf (k:=1) (G:=G_2) (N:=["top","bottom","shared"]) (ps:=["top","bottom"]) (st:=s_2) T.F_2 sc_2 fun cdv A outer s H E hr=> ?_
 ext bj
 exact nd_2
 ext an
 exact ok_3 T
 ext e
 exact T.m_3
 exact T.F_3.kp
 exact T.b_3
 ext bp;ext bo;ext aM;ext d
 exact zeV
 ext i;ext v;ext a;ext d
 exact zeV
 ext j;ext v;ext g
theorem nd_6:(["fractions","top","bottom","fraction"]:List Str).Nodup:=by decide +kernel
theorem sc_6:zat ["fractions","top","bottom","fraction"] ["fractions"] (zah s_6):=⟨rfl,rfl,rfl,by decide +kernel,rfl,by decide +kernel,by decide +kernel⟩
theorem ok_6 (T:Tx K mg t):zbN P w K mg base CX0 3 t.a_6 t.d_6 ["fractions"] (zbP K 1 F_6):=by
 refine zbf (k:=2) (G:=G_6) (N:=["fractions","top","bottom","fraction"]) (ps:=["fractions"]) (st:=s_6) T.F_6 sc_6 fun cdv A outer s H E hr=> ?_
 ext f;ext aH
 exact nd_6
 ext h;ext bj
 exact nd_6
 ext h;ext f;ext bs;ext K;ext i
 exact zaq 3 nd_6
 ext f;ext aH
 exact nd_6
 ext aP;ext d
 exact zbk
 ext j;ext c;ext bt;ext d
 exact zbk
 ext c;ext bt;ext v;ext k;ext L
 exact nd_6
 ext d
 exact zbk
 ext v;ext c;ext bt;ext aK
 refine zam (k:=2) (g:=t.a_2) (fd:=t.d_2) (ps:=["top","bottom"]) ?_ ?_ ?_ ?_ ?_ ?_
 exact ok_2 T
 ext e
 exact T.m_2
 exact T.F_2.kp
 exact T.b_2
 ext bm;ext aV;ext g
theorem sc_4:zat ["fraction","other"] ["fraction","other"] (zah s_4):=⟨rfl,rfl,rfl,by decide +kernel,rfl,by decide +kernel,by decide +kernel⟩
theorem ok_4 (T:Tx K mg t):zbN P w K mg base CX0 1 t.a_4 t.d_4 ["fraction","other"] (zbP K 2 F_4):=by
 refine zbf (k:=0) (G:=G_4) (N:=["fraction","other"]) (ps:=["fraction","other"]) (st:=s_4) T.F_4 sc_4 fun cdv A outer s H E hr=> ?_
 ext aK;ext Q
 exact zkN
 ext d
 exact zbk
 ext bh;ext ba;ext d
 exact zbk
 ext ba;ext bh
theorem nd_22:(["offer","shares","borne"]:List Str).Nodup:=by decide +kernel
theorem zsb:(["thing","shares"]:List Str).Nodup:=by decide +kernel
theorem sc_22:zat ["offer","shares","borne"] ["offer","shares"] (zah s_22):=⟨rfl,rfl,rfl,by decide +kernel,rfl,by decide +kernel,by decide +kernel⟩
theorem ok_22 (T:Tx K mg t):zbN P w K mg base CX0 4 t.a_22 t.d_22 ["offer","shares"] (zbP K 2 F_22):=by
 refine zbf (k:=3) (G:=G_22) (N:=["offer","shares","borne"]) (ps:=["offer","shares"]) (st:=s_22) T.F_22 sc_22 fun cdv A outer s H E hr=> ?_
 ext bj
 exact nd_22
 refine zam (k:=3) (g:=t.a_6) (fd:=t.d_6) (ps:=["fractions"]) ?_ ?_ ?_ ?_ ?_ ?_
 exact ok_6 T
 ext e
 exact T.m_6
 exact T.F_6.kp
 exact T.b_6
 ext a
 refine zbp (N:=["thing","shares"]) ?_ ?_ ?_ ?_ ?_ ?_ ?_
 ext T
 exact (BOk.of (Xn:=(zah s_22).names) (XN:=["offer","shares","borne"]) rfl rfl rfl (by decide +kernel))
 ext bf;ext bh
 intro _ _ _
 exact zaq 0 zsb
 intro _ _ _
 exact zbX
 intro _ _ _
 ext aQ;ext i;ext bo
 refine zmC ?_
 ext aj
 exact ok_4 T
 ext e
 exact T.m_4
 exact T.F_4.kp
 exact T.b_4
 ext a;ext aM;ext aR;ext bd;ext aV;ext g
theorem zti:(["number","stock"]:List Str).Nodup:=by decide +kernel
theorem sc_28:zat ["stock","taken"] ["stock","taken"] (zah s_28):=⟨rfl,rfl,rfl,by decide +kernel,rfl,by decide +kernel,by decide +kernel⟩
theorem ok_28 (T:Tx K mg t):zbN P w K mg base CX0 1 t.a_28 t.d_28 ["stock","taken"] (zbP K 2 F_28):=by
 refine zbf (k:=0) (G:=G_28) (N:=["stock","taken"]) (ps:=["stock","taken"]) (st:=s_28) T.F_28 sc_28 fun cdv A outer s H E hr=> ?_
 ext aK
 refine zaJ (id:="sum") ?_ ?_ ?_ ?_
 exact (zg9 rfl)
 exact zjO
 exact T.n_sum
 ext a
 refine zbp (N:=["number","stock"]) ?_ ?_ ?_ ?_ ?_ ?_ ?_
 ext T
 exact (BOk.of (Xn:=(zah s_28).names) (XN:=["stock","taken"]) rfl rfl rfl (by decide +kernel))
 ext bf;ext j
 intro _ _ _
 exact zaq 0 zti
 intro _ _ _
 exact zbX
 intro _ _ _
 ext c;ext c;ext ba;ext i;ext aJ
theorem nd_25:(["stock","least","bearing","taken","left_out","shown"]:List Str).Nodup:=by decide +kernel
theorem zsf:(["thing","bearing"]:List Str).Nodup:=by decide +kernel
theorem zsM:(["number","stock","bearing"]:List Str).Nodup:=by decide +kernel
theorem sc_25:zat ["stock","least","bearing","taken","left_out","shown"] ["stock","least","bearing","taken","left_out"] (zah s_25):=⟨rfl,rfl,rfl,by decide +kernel,rfl,by decide +kernel,by decide +kernel⟩
theorem ok_25 (T:Tx K mg t):zbN P w K mg base CX0 5 t.a_25 t.d_25 ["stock","least","bearing","taken","left_out"] (zbP K 5 F_25):=by
 refine zbf (k:=4) (G:=G_25) (N:=["stock","least","bearing","taken","left_out","shown"]) (ps:=["stock","least","bearing","taken","left_out"]) (st:=s_25) T.F_25 sc_25 fun cdv A outer s H E hr=> ?_
 ext aU;ext be
 refine zam (k:=4) (g:=t.a_20) (fd:=t.d_20) (ps:=["thing","many"]) ?_ ?_ ?_ ?_ ?_ ?_
 exact ok_20 T
 ext e
 exact T.m_20
 exact T.F_20.kp
 exact T.b_20
 ext aV;ext a;ext aR;ext aJ;ext aK
 exact zhs
 ext av;ext aU;ext ac
 refine zaJ (id:="any") ?_ ?_ ?_ ?_
 exact (zjI rfl)
 exact zrK
 exact T.n_any
 ext a
 refine zbp (N:=["thing","bearing"]) ?_ ?_ ?_ ?_ ?_ ?_ ?_
 ext T;ext D;ext bf
 refine zam (k:=2) (g:=t.a_27) (fd:=t.d_27) (ps:=["stock","taken"]) ?_ ?_ ?_ ?_ ?_ ?_
 exact ok_27 T
 ext e
 exact T.m_27
 exact T.F_27.kp
 exact T.b_27
 ext aO;ext B;ext g
 intro _ _ _
 exact zaq 0 zsf
 intro _ _ _
 exact zbX
 intro _ _ _
 ext Q;ext ae;ext aQ;ext i;ext bl;ext bo
 exact zhs
 ext av;ext aU;ext be
 refine zaJ (id:="all") ?_ ?_ ?_ ?_
 exact (zfe rfl)
 exact zki
 exact T.n_all
 ext a
 refine zbp (N:=["number","stock","bearing"]) ?_ ?_ ?_ ?_ ?_ ?_ ?_
 ext T;ext D;ext bf;ext Z
 exact ok_26 T
 ext e
 exact T.m_26
 exact T.F_26.kp
 exact T.b_26
 ext aO;ext B;ext a;ext aq;ext g
 intro _ _ _
 exact zaq 0 zsM
 intro _ _ _
 exact zbX
 intro _ _ _
 refine zam (k:=4) (g:=t.a_22) (fd:=t.d_22) (ps:=["offer","shares"]) ?_ ?_ ?_ ?_ ?_ ?_
 exact ok_22 T
 ext e
 exact T.m_22
 exact T.F_22.kp
 exact T.b_22
 ext a;ext c;ext ba;ext i;ext aV;ext aT;ext aK
 exact zhs
 ext av;ext f
 refine zaI 5 ?_ ?_
 exact nd_25
 refine zam (k:=3) (g:=t.a_6) (fd:=t.d_6) (ps:=["fractions"]) ?_ ?_ ?_ ?_ ?_ ?_
 exact ok_6 T
 ext e
 exact T.m_6
 exact T.F_6.kp
 exact T.b_6
 ext bk;ext v;ext aM;ext aM
 refine zam (k:=1) (g:=t.a_28) (fd:=t.d_28) (ps:=["stock","taken"]) ?_ ?_ ?_ ?_ ?_ ?_
 exact ok_28 T
 ext e
 exact T.m_28
 exact T.F_28.kp
 exact T.b_28
 ext aO;ext B;ext aS;ext aJ;ext aT;ext aK
 refine zmC ?_
 ext aj
 exact ok_4 T
 ext e
 exact T.m_4
 exact T.F_4.kp
 exact T.b_4
 ext a;ext af;ext bm;ext g
theorem nd_24:(["stock","least","thing","taken","left_out","offer"]:List Str).Nodup:=by decide +kernel
theorem sc_24:zat ["stock","least","thing","taken","left_out","offer"] ["stock","least","thing","taken","left_out"] (zah s_24):=⟨rfl,rfl,rfl,by decide +kernel,rfl,by decide +kernel,by decide +kernel⟩
theorem ok_24 (T:Tx K mg t): ∀ d:Nat,zbN P w K mg base CX0 (5+d) t.a_24 t.d_24 ["stock","least","thing","taken","left_out"] (zbP K 5 (F_24 d))
|0=>ziO
|d+1=>by
 refine zbf (k:=5+d) (G:=K41.G_24 (F_24 d)) (N:=["stock","least","thing","taken","left_out","offer"]) (ps:=["stock","least","thing","taken","left_out"]) (st:=s_24) T.F_24 sc_24 fun cdv A outer s H E hr=> ?_
 ext aU;ext bv;ext be;ext F
 exact zcQ
 exact za8
 ext x;ext ao;ext v;ext aF;ext l;ext ap;ext s
 exact zaS
 exact zb9
 ext au;ext aV;ext g;ext bl;ext aK
 exact zhs
 ext av;ext aU;ext bq;ext s
 exact zaS
 exact zb9
 ext au;ext aV;ext g;ext h;ext aK;ext ar;ext Q;ext A;ext c;ext v;ext h;ext aw;ext aI
 refine zam (k:=5) (g:=t.a_25) (fd:=t.d_25) (ps:=["stock","least","bearing","taken","left_out"]) ?_ ?_ ?_ ?_ ?_ ?_
 exact ok_25 T
 ext n
 exact T.m_25
 exact T.F_25.kp
 exact T.b_25
 ext bp;ext a;ext c;ext v;ext aN;ext B;ext a;ext aq;ext g;ext av;ext f
 refine zaI 5 ?_ ?_
 exact nd_24
 ext c;ext v;ext h;ext aU;ext bv;ext l;ext ae;ext c;ext v;ext h;ext aw;ext R;ext be;ext S
 exact ok_0 T
 ext n
 exact T.m_0
 exact T.F_0.kp
 exact T.b_0
 ext a;ext af;ext g;ext aF;ext l;ext ap;ext af;ext Z
 exact ok_26 T
 ext n
 exact T.m_26
 exact T.F_26.kp
 exact T.b_26
 ext aO;ext B;ext a;ext aq;ext bo
 exact zhs
 ext av;ext aU;ext be;ext N
 exact ok_24 T d
 ext n
 exact T.m_24
 exact T.F_24.kp
 exact T.b_24
 ext bp;ext a;ext c;ext v;ext aN;ext aP;ext B;ext aM;ext af;ext aS;ext aq;ext bo
 exact zhs
 ext av;ext aK;ext N
 exact ok_24 T d
 ext n
 exact T.m_24
 exact T.F_24.kp
 exact T.b_24
 ext bp;ext a;ext c;ext v;ext aN;ext B;ext bk;ext aq;ext aM;ext af;ext aT
theorem sc_23:zat ["stock","least","thing"] ["stock","least","thing"] (zah s_23):=⟨rfl,rfl,rfl,by decide +kernel,rfl,by decide +kernel,by decide +kernel⟩
theorem ok_23 (T:Tx K mg t):zbN P w K mg base (CXE P w) 14 t.a_23 t.d_23 ["stock","least","thing"] (spE K 3 F_23):=by
 refine zrt (k:=13) (G:=G_23) (N:=["stock","least","thing"]) (ps:=["stock","least","thing"]) (st:=s_23) T.F_23 sc_23 fun cdv A outer s H E hr=> ?_
 ext aU;ext be
 refine zj0 (k:=2) (g:=t.a_5) (fd:=t.d_5) (ps:=["thing"]) ?_ ?_ ?_ ?_ ?_ ?_
 exact ok_5 T
 ext e
 exact T.m_5
 exact T.F_5.kp
 exact T.b_5
 ext bm;ext g;ext k
 exact znH (c:="NoNumber") rfl zl5 T.x_exc (by decide +kernel) T.k_13
 ext av;ext aK
 refine zj0 (k:=13) (g:=t.a_24) (fd:=t.d_24) (ps:=["stock","least","thing","taken","left_out"]) ?_ ?_ ?_ ?_ ?_ ?_
 exact ok_24 T 8
 ext e
 exact T.m_24
 exact T.F_24.kp
 exact T.b_24
 ext bp;ext aV;ext a;ext q;ext aS;ext q;ext aT
theorem nd_48:(["stock","least","thing","e"]:List Str).Nodup:=by decide +kernel
theorem sc_48:zat ["stock","least","thing","e"] ["stock","least","thing"] (zah s_48):=⟨rfl,rfl,rfl,by decide +kernel,rfl,by decide +kernel,by decide +kernel⟩
theorem ok_48 (T:Tx K mg t):zbN P w K mg base CX0 15 t.a_48 t.d_48 ["stock","least","thing"] (zbP K 3 F_48):=by
 refine zbf (k:=14) (G:=G_48) (N:=["stock","least","thing","e"]) (ps:=["stock","least","thing"]) (st:=s_48) T.F_48 sc_48 fun cdv A outer s H E hr=> ?_
 ext k
 refine zqg (CE:=t.a_7) (pe:="e") (k:=1) (fdk:=t.d_34) (fk:=t.a_34) 3 ?_ ?_ ?_ ?_ ?_ ?_ ?_ ?_ ?_ ?_
 exact zpv
 exact nd_48
 exact T.g_7
 ext aC
 exact ok_34 T
 exact T.b_34
 exact T.m_34
 exact T.F_34.kp
 exact (zdQ.of (hr.mono (by decide)))
 intro pn xe E' hx
 ext aK
 refine znV (k:=14) (g:=t.a_23) (fd:=t.d_23) (ps:=["stock","least","thing"]) ?_ ?_ ?_ ?_ ?_ ?_ ?_
 exact ok_23 T
 exact hx
 ext e
 exact T.m_23
 exact T.F_23.kp
 exact T.b_23
 ext bp;ext aV;ext g
theorem nd_49:(["stock","least","thing","worth","found","due"]:List Str).Nodup:=by decide +kernel
theorem sc_49:zat ["stock","least","thing","worth","found","due"] ["stock","least","thing"] (zah s_49):=⟨rfl,rfl,rfl,by decide +kernel,rfl,by decide +kernel,by decide +kernel⟩
theorem ok_49 (T:Tx K mg t):zbN P w K mg base CX0 16 t.a_49 t.d_49 ["stock","least","thing"] (zbP K 3 F_49):=by
 refine zbf (k:=15) (G:=G_49) (N:=["stock","least","thing","worth","found","due"]) (ps:=["stock","least","thing"]) (st:=s_49) T.F_49 sc_49 fun cdv A outer s H E hr=> ?_
 ext f;ext as
 exact nd_49
 ext X
 exact ok_46 T 8
 ext e
 exact T.m_46
 exact T.F_46.kp
 exact T.b_46
 ext aO;ext v;ext a;ext z;ext aS;ext z;ext aT;ext f;ext az
 exact nd_49
 ext ab
 exact ok_48 T
 ext e
 exact T.m_48
 exact T.F_48.kp
 exact T.b_48
 ext bp;ext aV;ext g;ext f
 refine zaI 5 ?_ ?_
 exact nd_49
 ext ar;ext Q
 exact zo1
 ext B
 exact zdg
 ext aI;ext Q
 exact zjU
 ext d
 exact zbk
 ext c;ext bt;ext ba;ext d
 exact zbk
 ext ba;ext c;ext bt;ext aK;ext ar;ext F
 exact zgc
 exact zhZ
 ext x
 exact T.n_bool
 ext aq;ext aI;ext Q;ext A;ext aq;ext af
theorem nd_50:(["script","k","box","stock","paper","top","bottom","least","thing","bad"]:List Str).Nodup:=by decide +kernel
theorem sc_50:zat ["script","k","box","stock","paper","top","bottom","least","thing","bad"] ["script"] (zah s_50):=⟨rfl,rfl,rfl,by decide +kernel,rfl,by decide +kernel,by decide +kernel⟩
theorem ok_50 (T:Tx K mg t):zbN P w K mg base CX0 17 t.a_50 t.d_50 ["script"] (zbP K 1 F_50):=by
 refine zbf (k:=16) (G:=G_50) (N:=["script","k","box","stock","paper","top","bottom","least","thing","bad"]) (ps:=["script"]) (st:=s_50) T.F_50 sc_50 fun cdv A outer s H E hr=> ?_
 ext f;ext bs;ext aB;ext aD;ext a
 refine zaJ (id:="max") ?_ ?_ ?_ ?_
 exact (zje rfl)
 exact zrp
 exact T.n_max
 ext a;ext aN
 refine zaJ (id:="min") ?_ ?_ ?_ ?_
 exact (zi3 rfl)
 exact zqB
 exact T.n_min
 ext a;ext s
 exact zaS
 exact zb9
 ext au;ext aL;ext aS;ext aJ;ext aT
 exact zaq 1 nd_50
 ext bj
 exact nd_50
 refine zam (k:=2) (g:=t.a_30) (fd:=t.d_30) (ps:=["script","k"]) ?_ ?_ ?_ ?_ ?_ ?_
 exact ok_30 T
 ext e
 exact T.m_30
 exact T.F_30.kp
 exact T.b_30
 ext bp;ext g;ext f;ext as
 exact nd_50
 refine zam (k:=3) (g:=t.a_36) (fd:=t.d_36) (ps:=["box","most","lots"]) ?_ ?_ ?_ ?_ ?_ ?_
 exact ok_36 T
 ext e
 exact T.m_36
 exact T.F_36.kp
 exact T.b_36
 ext aV;ext a;ext bd;ext aU;ext bq;ext bi;ext aZ;ext aV;ext a;ext aJ;ext h;ext k;ext as
 exact nd_50
 refine zam (k:=2) (g:=t.a_37) (fd:=t.d_37) (ps:=["box","stock"]) ?_ ?_ ?_ ?_ ?_ ?_
 exact ok_37 T
 ext e
 exact T.m_37
 exact T.F_37.kp
 exact T.b_37
 ext aV;ext bg;ext g;ext av;ext f;ext az
 exact nd_50
 refine zam (k:=9) (g:=t.a_45) (fd:=t.d_45) (ps:=["box","stock","taken","out","deep"]) ?_ ?_ ?_ ?_ ?_ ?_
 exact ok_45 T 6
 ext e
 exact T.m_45
 exact T.F_45.kp
 exact T.b_45
 ext aV;ext bg;ext a;ext z;ext aS;ext z;ext aS;ext aJ;ext f;ext ax;ext X
 exact ok_46 T 8
 ext e
 exact T.m_46
 exact T.F_46.kp
 exact T.b_46
 ext bg;ext a;ext aq;ext a;ext z;ext aS;ext z;ext aT;ext aE;ext T;ext V
 exact zaq 5 nd_50
 ext V
 exact zaq 6 nd_50
 exact zc1
 ext f;ext bs;ext K;ext aW;ext aM;ext af;ext a
 exact zac 6
 ext aS;ext r
 exact ok_40 T
 ext e
 exact T.m_40
 exact T.F_40.kp
 exact T.b_40
 ext bk;ext d
 exact zbI
 ext af;ext h;ext aN;ext d
 exact zbI
 exact zac 6
 ext aJ;ext a;ext r
 exact ok_40 T
 ext e
 exact T.m_40
 exact T.F_40.kp
 exact T.b_40
 ext a;ext d
 exact zex
 ext d
 exact zbI
 ext af;ext h;ext aN;ext d
 exact zbI
 exact zac 6
 ext bn
 exact zaq 7 nd_50
 ext k;ext bs;ext K;ext aW;ext aq;ext a;ext am
 exact ok_47 T 8
 ext e
 exact T.m_47
 exact T.F_47.kp
 exact T.b_47
 ext aV;ext a;ext aq;ext aS;ext am
 exact ok_47 T 8
 ext e
 exact T.m_47
 exact T.F_47.kp
 exact T.b_47
 ext aV;ext a;ext aq;ext aS
 refine zam (k:=2) (g:=t.a_33) (fd:=t.d_33) (ps:=["box"]) ?_ ?_ ?_ ?_ ?_ ?_
 exact ok_33 T
 ext e
 exact T.m_33
 exact T.F_33.kp
 exact T.b_33
 ext aV;ext aT
 exact zaq 8 nd_50
 ext k;ext t;ext be
 refine zam (k:=16) (g:=t.a_49) (fd:=t.d_49) (ps:=["stock","least","thing"]) ?_ ?_ ?_ ?_ ?_ ?_
 exact ok_49 T
 ext e
 exact T.m_49
 exact T.F_49.kp
 exact T.b_49
 ext bg;ext a;ext aA;ext a
 exact zac 8
 ext bo
 exact zhs
 ext av;ext f
 refine zaI 9 ?_ ?_
 exact nd_50
 ext c;ext aW
 exact zdg
 ext a;ext aN;ext bl;ext a;ext bl;ext a;ext aM
 exact zhs
 ext a;ext aJ;ext a;ext bb;ext aM;ext aN;ext bd;ext a;ext aW;ext bd;ext g;ext bi;ext aZ;ext aV;ext a;ext aJ;ext k;ext t;ext l;ext ae;ext ab
 exact ok_48 T
 ext e
 exact T.m_48
 exact T.F_48.kp
 exact T.b_48
 ext bg;ext a
 exact zac 9
 ext a;ext aq;ext g;ext aw;ext aK
 exact zhs
 ext av;ext aK
 exact zhs
end
end K41
set_option exponentiation.threshold 8000
namespace L3
open PySem PySem.Spec PyProof.Rows L2 LT
section
theorem ze5 {n:Nat} {tc:FT} {gb:FS} {sd:Sd}:zb7 tc gb (n+1) sd=(do let b<-tc sd;if b=true then (do let o<-gb sd;match o with | .nx sd'=>zb7 tc gb n sd' | .ct sd'=>zb7 tc gb n sd' | .bk sd'=>pure (.nx sd') | .rt d=>pure (.rt d)) else pure (.nx sd)):=rfl
theorem zco (k:Int) (xs:List Int):zbY (.int k) (.tup (xs.map D.int))=pure (.bl (!xs.any (· == k))):=by
 show zlC true (.int k) (.tup (xs.map D.int))=_
 unfold zlC
 simp only [pd]
 rw [zbW]
 have c:zkH (.int k) (xs.map PyData.int)=true:=by
  unfold zkH
  simp [PyData.canLay0,za4,PyData.depth,zbm]
 simp only [c,if_true,zeQ]
theorem zeU {k:Int} {xs:List Int}:xs.any (· == k)=true↔k∈xs:=by
 rw [List.any_eq_true]
 constructor
 ·rintro ⟨x,hx,e⟩
  rw [beq_iff_eq] at e
  exact e▸hx
 ·intro h
  exact ⟨k,h,by simp⟩
theorem zcn {α β:Type} {p:α->Bool} {g:α->β}: ∀ xs:List α,xs.filterMap (fun x=>if p x=true then some (g x) else none)=(xs.filter p).map g
 | []=>rfl
 | x::r=>by
  rw [qat,List.filter_cons,zcn r]
  cases p x<;>simp
theorem zbu {α:Type} {g':α->D} {fi:FA} {g:D->Sd->M Sd} {tc:FT} {te:FE} {src:List (Option Nat)} {sd:Sd} {xs:List α} {k:α->Option D} (hi:fi sd=pure (xs.map g')) (hl:xs.length<=1000) (hf: ∀ x∈xs,za6 g tc te (zap src sd) (g' x)=pure (k x)):zaB fi g tc te src sd=pure (.lst (xs.filterMap k)):=by
 unfold zaB
 rw [hi]
 simp only [pure_bind]
 rw [zaD (by rw [qaH];exact hl)]
 simp only [pure_bind]
 have: ∀ {ys:List α},(∀ x∈ys,za6 g tc te (zap src sd) (g' x)=pure (k x))->zbl (za6 g tc te (zap src sd)) (ys.map g')=pure (ys.filterMap k):=by
  intro ys
  induction ys with
  | nil=>intro _;rfl
  | cons x r ih=>
   intro hf
   rw [qaM,zbl,hf x qau,ih fun y hy=>hf y (qan _ hy)]
   simp only [pure_bind]
   cases e:k x<;>simp [qat,e]
 rw [this hf]
 simp only [pure_bind]
theorem zj6 {x y:D} {a b:PyData} (e1:pd x=some a) (e2:pd y=some b) (h:zeI a b=true):dNe x y=pure (.bl (!PyData.eqv a b)):=by
 show zhg true x y=_
 unfold zhg
 rw [e1,e2]
 simp only [h,if_true]
theorem zq2 (xs ys:List Int):dNe (tI xs) (tI ys)=pure (.bl (!(xs==ys))):=by
 rw [zj6 (zkx xs) (zkx ys) (by unfold zeI;simp [PyData.canLay0,za4,PyData.depth,zbm])]
 simp only [PyData.eqv,zeb]
theorem zqq {i j:Nat} {f g:FE} {sd:Sd}:zpl i j (zab f (zab g zai)) sd=(do let x<-f sd;let y<-g sd;pure (.nx ((sd.set i (some x)).set j (some y)))):=by
 unfold zpl
 simp only [za0,zbi,bind_assoc,pure_bind]
noncomputable def bb:Nat:=2^7000
theorem zfH {n:Nat} (h:n<=7000):2^n<=bb:=Nat.pow_le_pow_right (by decide) h
theorem zd6 {i:Int} {k:Nat} (h0:0<k) (h1:k<=bb):zfa (.int i) (.int (k:Int))=pure (.int (i / (k:Int))):=by
 have hb:bb<2^8000:=Nat.pow_lt_pow_right (by decide) (by decide)
 have h2:((k:Int):Int)<2^8000:=by
  have:((k:Nat):Int)<((2^8000:Nat):Int):=Int.ofNat_lt.mpr (Nat.lt_of_le_of_lt h1 hb)
  rw [Int.natCast_pow] at this
  exact this
 unfold zfa dII
 simp only
 rw [qa4]
 rw [qaG,qaD,qaD]
 exact ⟨by omega,h2⟩
theorem euc {a b n:Nat} (hb:b≠0) (hab:b<=a) (h:a*b<2^(n+1)):b*(a % b)<2^n:=by
 have hp:0<b:=Nat.pos_of_ne_zero hb
 have h1:=Nat.div_add_mod a b
 have h2:1<=a / b:=(Nat.one_le_div_iff hp).mpr hab
 have h3:=Nat.mod_lt a hp
 have h4:b+a % b<=a:=by
  have:b*1<=b*(a / b):=Nat.mul_le_mul_left b h2
  omega
 have h5:(b+a % b)*b<=a*b:=Nat.mul_le_mul_right b h4
 have h6:b*(a % b)+b*(a % b)<=(b+a % b)*b:=by
  rw [Nat.add_mul,Nat.mul_comm (a % b) b]
  have:b*(a % b)<=b*b:=Nat.mul_le_mul_left b (Nat.le_of_lt h3)
  omega
 rw [Nat.pow_succ] at h
 omega
noncomputable def qD (r:Rat):D:= .tup [.int r.num,.int (r.den:Int)]
theorem zoZ (a:Int) {b:Nat} (hb:0<b):Nat.gcd b (a % (b:Int)).toNat=Nat.gcd a.natAbs b:=by
 have h0:0<=a % (b:Int):=Int.emod_nonneg _ (by omega)
 have e:(((a % (b:Int)).toNat:Nat):Int)=a % (b:Int):=Int.toNat_of_nonneg h0
 have key: ∀ d:Nat,(d ∣ b/\d ∣ (a % (b:Int)).toNat)↔(d ∣ a.natAbs/\d ∣ b):=fun d=>by
  rw [<- Int.natCast_dvd_natCast (m:=d) (n:=(a % (b:Int)).toNat),e, <-Int.natCast_dvd_natCast (m:=d) (n:=b), <-Int.ofNat_dvd_left (n:=d) (z:=a)]
  constructor
  ·rintro ⟨h1,h2⟩
   refine ⟨?_,h1⟩
   have:=Int.dvd_add (Int.dvd_mul_of_dvd_left (c:=a / (b:Int)) h1) h2
   rwa [Int.mul_ediv_add_emod] at this
  ·rintro ⟨h1,h2⟩
   refine ⟨h2,?_⟩
   rw [Int.emod_def]
   exact Int.dvd_sub h1 (Int.dvd_mul_of_dvd_left h2)
 refine Nat.dvd_antisymm (Nat.dvd_gcd ((key _).mp ⟨Nat.gcd_dvd_left _ _,Nat.gcd_dvd_right _ _⟩).1 (Nat.gcd_dvd_left _ _)) (Nat.dvd_gcd (Nat.gcd_dvd_right _ _) ((key _).mpr ⟨Nat.gcd_dvd_left _ _,Nat.gcd_dvd_right _ _⟩).2)
end
section
noncomputable def pF:D->Bool
 | .tup [.int a,.int b]=>decide (0<b) && (Nat.gcd a.natAbs b.toNat==1)
 | _=>false
noncomputable def pS:D->Bool
 | .tup [.int a,.int b]=>decide (0<b) && (Nat.gcd a.natAbs b.toNat==1) && decide (0<=a)
 | _=>false
def sv (d:D):Prop:=kn d=true/\ ∀ ds,d= .tup ds->(∀ x∈ds,kn x=true)/\ ∀ a b:Int,ds=[.int a,.int b]->b.toNat<bb
theorem znf {a b:Int} (h:pF (.tup [.int a,.int b])=true): .tup [.int a,.int b]=qD (mkRat a b.toNat)/\(mkRat a b.toNat).num=a/\((mkRat a b.toNat).den:Int)=b:=by
 unfold pF at h
 rw [qaG,qaD,beq_iff_eq] at h
 have e1:(mkRat a b.toNat).num=a:=by
  rw [Rat.num_mkRat,qa5 (by omega),Nat.gcd_comm,h.2]
  simp
 have e2:((mkRat a b.toNat).den:Int)=b:=by
  rw [Rat.den_mkRat,qa5 (by omega),Nat.gcd_comm,h.2,Nat.div_one]
  omega
 exact ⟨by unfold qD;rw [e1,e2],e1,e2⟩
theorem ztD (r:Rat):pF (qD r)=true:=by
 unfold qD pF
 have:=r.den_pos
 rw [qaG,qaD,beq_iff_eq,qaB]
 exact ⟨by omega,r.reduced⟩
end
section
theorem zma {i j:Int} (h:(zbr i || zbr j || zjl i j)=true):zca (.int i) (.int j)=pure (.int (i*j)):=by
 show (if (zbr i || zbr j || zjl i j)=true then _ else _)=_
 rw [qa4 h]
theorem zjQ {x:Int} {n:Nat} (h:x.natAbs<2^n):Builtin.Int.intBits x<=n:=by
 unfold Builtin.Int.intBits
 split
 ·exact Nat.zero_le _
 ·rename_i c
  have h0:x.natAbs≠0:=fun z=>c (by simp;omega)
  exact (Nat.log2_lt h0).mpr h
theorem zgu {a b:Int} (ha:a.natAbs<2^6000) (hb:b.natAbs<2^6000):zca (.int a) (.int b)=pure (.int (a*b)):=by
 refine zma ?_
 have h1:=zjQ ha
 have h2:=zjQ hb
 rw [Bool.or_eq_true]
 right
 unfold zjl
 rw [qaD]
 have:(2:Nat)^26=67108864:=by decide
 omega
noncomputable def tt:Nat:=2^1800
noncomputable def dp (rs:List Rat):Nat:=rs.foldr (fun r n=>r.den*n) 1
theorem zgN: ∀ rs:List Rat,0<dp rs
 | []=>by decide
 | r::rs=>Nat.mul_pos r.den_pos (zgN rs)
theorem zfY (a:Int) {b:Nat} (hb:0<b):(mkRat a b).num.natAbs<=a.natAbs:=by
 rw [Rat.num_mkRat,qa5 (by omega)]
 exact Int.natAbs_ediv_le_natAbs _ _
theorem zed (a:Int) {b:Nat} (hb:0<b):(mkRat a b).den<=b:=by
 rw [Rat.den_mkRat,qa5 (by omega)]
 exact Nat.div_le_self _ _
end
section
theorem zdD {a b x y:Nat} (ha:a<=2^x) (hb:b<=2^y):a*b<=2^(x+y):=by
 rw [Nat.pow_add]
 exact Nat.mul_le_mul ha hb
structure Sz (A:Int) (B k:Nat) (rs:List Rat):Prop where
 b0:0<B
 b1:B*dp rs<=2^2000
 a1:A.natAbs<=k*(tt*B)
 k1:k+rs.length<=12
 r1: ∀ r∈rs,r.num.natAbs<=tt
theorem Sz.B_le {A:Int} {B k:Nat} {rs:List Rat} (z:Sz A B k rs):B<=2^2000:=by
 have h:=z.b1
 have h1:B*1<=B*dp rs:=Nat.mul_le_mul_left B (zgN rs)
 omega
theorem Sz.A_le {A:Int} {B k:Nat} {rs:List Rat} (z:Sz A B k rs):A.natAbs<=2^3804:=by
 have hB:=z.B_le
 have hk:k<=2^4:=by
  have:=z.k1
  have:(2:Nat)^4=16:=by decide
  omega
 have h1:tt*B<=2^(1800+2000):=zdD (qaV _) hB
 have h2:k*(tt*B)<=2^(4+(1800+2000)):=zdD hk h1
 exact qaS z.a1 h2
theorem Sz.d_le {A:Int} {B k:Nat} {r:Rat} {rs:List Rat} (z:Sz A B k (r::rs)):B*r.den<=2^2000/\r.den<=2^2000:=by
 have h:=z.b1
 have h0:=z.b0
 have e:B*dp (r::rs)=B*r.den*dp rs:=by
  show B*(r.den*dp rs)=_
  rw [Nat.mul_assoc]
 rw [e] at h
 have h1:B*r.den*1<=B*r.den*dp rs:=Nat.mul_le_mul_left _ (zgN rs)
 have h2:1*r.den<=B*r.den:=Nat.mul_le_mul_right _ h0
 omega
theorem Sz.next {A:Int} {B k:Nat} {r:Rat} {rs:List Rat} (z:Sz A B k (r::rs)):Sz (A*(r.den:Int)+r.num*(B:Int)) (B*r.den) (k+1) rs where
 b0:=Nat.mul_pos z.b0 r.den_pos
 b1:=by
  have h:=z.b1
  have e:B*dp (r::rs)=B*r.den*dp rs:=by
   show B*(r.den*dp rs)=_
   rw [Nat.mul_assoc]
  rw [<- e]
  exact h
 a1:=by
  have h1:=Int.natAbs_add_le (A*(r.den:Int)) (r.num*(B:Int))
  rw [Int.natAbs_mul,Int.natAbs_mul,Int.natAbs_natCast,Int.natAbs_natCast] at h1
  have h2:A.natAbs*r.den<=k*(tt*B)*r.den:=Nat.mul_le_mul_right _ z.a1
  have h3:r.num.natAbs*B<=tt*B:=Nat.mul_le_mul_right _ (z.r1 r qau)
  have h4:tt*B*1<=tt*B*r.den:=Nat.mul_le_mul_left _ r.den_pos
  have e1:k*(tt*B)*r.den=k*(tt*(B*r.den)):=by rw [Nat.mul_assoc,Nat.mul_assoc]
  have e2:(k+1)*(tt*(B*r.den))=k*(tt*(B*r.den))+tt*(B*r.den):=by rw [Nat.add_mul,Nat.one_mul]
  have e3:tt*B*r.den=tt*(B*r.den):=Nat.mul_assoc _ _ _
  omega
 k1:=by
  have:=z.k1
  rw [qaE] at this
  omega
 r1:=fun x hx=>z.r1 x (qan _ hx)
theorem zaz {n:Nat} (h:n<6000) {a:Nat} (ha:a<=2^n):a<2^6000:=Nat.lt_of_le_of_lt ha (Nat.pow_lt_pow_right (by decide) h)
theorem zcp {A:Int} {B:Nat} (h0:0<B) (r:Rat):mkRat A B+r=mkRat (A*(r.den:Int)+r.num*(B:Int)) (B*r.den):=by
 have:=Rat.mkRat_add_mkRat A r.num (d₁:=B) (d₂:=r.den) (by omega) r.den_nz
 rw [Rat.mkRat_self] at this
 exact this
end
section
theorem zsB {x y z:D} {r:List D}:atI (x::y::z::r) 2=some z:=by
 have:=zc6 (xs:=x::y::z::r) (j:=2) (v:=z) rfl
 simpa using this
theorem zsr {x y z w:D} {r:List D}:atI (x::y::z::w::r) 3=some w:=by
 have:=zc6 (xs:=x::y::z::w::r) (j:=3) (v:=w) rfl
 simpa using this
noncomputable def rgI (n:Nat):List Int:=(List.range n).map fun (k:Nat)=>(k:Int)
noncomputable def pr (os:List (List Int×Int)) (ls:List Int):Int:=(ls.map fun i=>(os.getD i.toNat ([],0)).2).sum
noncomputable def isS:D->Bool
 | .str _=>true
 | _=>false
theorem znd {d:D} (k:kn d=true):zfm "str" d=pure (.bl (isS d)):=by
 cases d<;>simp [kn] at k<;>simp [zfm,tyD,isB,isS]
noncomputable def isW (x:Str):D->Bool
 | .str y=>y==x
 | _=>false
theorem zgt {a:PyData} {x:Str} (ha:a.canLay0=true) (hx:PyData.strOk x=true):zeI a (.str x)=true:=by
 unfold zeI
 have:PyData.depth (.str x)=0:=by simp [PyData.depth]
 simp [ha,PyData.canLay0,hx,this]
theorem znl {d:D} (g:good d=true) {x:Str} (hx:PyData.strOk x=true):dEq d (.str x)=pure (.bl (isW x d)):=by
 obtain ⟨p,e,c⟩:=zgy g
 rw [ziP e (show pd (.str x)=some (.str x) from rfl) (zgt c hx)]
 cases d with
 | str y=>cases e;simp [PyData.eqv,isW]
 | tup ds=>rw [pd] at e;cases z:pdL ds<;>rw [z] at e<;>cases e;simp [PyData.eqv,isW]
 | lst ds=>rw [pd] at e;cases z:pdL ds<;>rw [z] at e<;>cases e;simp [PyData.eqv,isW]
 | non=>cases e;simp [PyData.eqv,isW]
 | bl _=>cases e;simp [PyData.eqv,isW]
 | int _=>cases e;simp [PyData.eqv,isW]
 | _=>cases g
theorem ztA {d:D} (g:good d=true) {x:Str} (hx:PyData.strOk x=true):dNe d (.str x)=pure (.bl (!isW x d)):=by
 obtain ⟨p,e,c⟩:=zgy g
 have h1:=znl g hx
 rw [ziP e (show pd (.str x)=some (.str x) from rfl) (zgt c hx)] at h1
 rw [zj6 e (show pd (.str x)=some (.str x) from rfl) (zgt c hx)]
 have h2:PyData.eqv p (.str x)=isW x d:=by
  have:=congrFun h1 []
  injection this with a _
  injection a
 rw [h2]
theorem zft:PyData.strOk "bear"=true:=by decide +kernel
theorem zfc:PyData.strOk "cases"=true:=by decide +kernel
noncomputable def frL (os:List (List Int×Int)) (tk ot:List Int):List Int:=(rgI os.length).filter fun j=> !tk.any (· == j) && !ot.any (· == j)
theorem zhF {os:List (List Int×Int)} {tk ot:List Int}: ∀ j∈frL os tk ot,0<=j/\j<(os.length:Int):=fun j hj=>zgV j (List.mem_filter.mp hj).1
theorem zlo {os:List (List Int×Int)} {tk ot:List Int}:(frL os tk ot).length<=os.length:=by
 have:=List.length_filter_le (fun j=> !tk.any (· == j) && !ot.any (· == j)) (rgI os.length)
 simp [rgI] at this
 exact this
noncomputable def zd0 (os:List (List Int×Int)) (tk:List Int):List Int:=zfD ((zcU os tk).flatMap (·.1))
structure Tk (os:List (List Int×Int)) (tk:List Int):Prop where
 bd: ∀ x∈tk,0<=x/\x<(os.length:Int)
 nd:tk.Nodup
theorem Tk.nil {os:List (List Int×Int)}:Tk os []:=⟨fun x hx=>(by cases hx),.nil⟩
theorem Tk.len {os:List (List Int×Int)} {tk:List Int} (h:Tk os tk):tk.length<=os.length:=by
 have:=zfv (m:=os.length) (by omega) h.nd h.bd
 omega
theorem Tk.more {os:List (List Int×Int)} {tk ot:List Int} (h:Tk os tk) {j:Int} (hj:j∈frL os tk ot):Tk os (tk++[j]):=by
 have h2:=(List.mem_filter.mp hj).2
 rw [qaG] at h2
 have h3:j∉tk:=fun z=>(by simpa using h2.1: ∀ x∈tk, ¬x=j) j z rfl
 refine ⟨fun x hx=> ?_,?_⟩
 ·rcases qaK.mp hx with z | z
  ·exact h.bd x z
  ·rw [List.mem_singleton.mp z]
   exact zhF j hj
 ·rw [List.nodup_append]
  refine ⟨h.nd,by simp,fun a ha b hb e=> ?_⟩
  rw [List.mem_singleton.mp hb] at e
  exact h3 (e▸ha)
theorem Tk.out {os:List (List Int×Int)} {tk ot:List Int} (h:Tk os ot) {j:Int} (hj:j∈frL os tk ot):Tk os (ot++[j]):=by
 have h2:=(List.mem_filter.mp hj).2
 rw [qaG] at h2
 have h3:j∉ot:=fun z=>(by simpa using h2.2: ∀ x∈ot, ¬x=j) j z rfl
 refine ⟨fun x hx=> ?_,?_⟩
 ·rcases qaK.mp hx with z | z
  ·exact h.bd x z
  ·rw [List.mem_singleton.mp z]
   exact zhF j hj
 ·rw [List.nodup_append]
  refine ⟨h.nd,by simp,fun a ha b hb e=> ?_⟩
  rw [List.mem_singleton.mp hb] at e
  exact h3 (e▸ha)
end
section
theorem zkE {f:FE} {g:D->Sd->M Sd} {tc:FT} {te:FE} {src:List (Option Nat)} {sd:Sd}:zaB (iSq f) g tc te src sd=(f sd>>=fun d=>zaB (iSq fun _=>pure d) g tc te src sd):=by
 unfold zaB
 simp only [zoG,bind_assoc,pure_bind]
theorem zoS (p:Int):qD (p:Rat)= .tup [.int p,.int 1]:=by
 unfold qD
 rw [Rat.num_intCast,Rat.den_intCast]
 rfl
theorem zm2 (q:Rat):dNe (qD q) (.tup [.int 0,.int 1])=pure (.bl (!(q==0))):=by
 have h:=zq2 [q.num,(q.den:Int)] [0,1]
 unfold tI at h
 simp only [qaM,List.map_nil] at h
 unfold qD
 rw [h]
 congr 3
 rw [Bool.eq_iff_iff,beq_iff_eq,beq_iff_eq]
 constructor
 ·intro e
  injection e with e1 _
  exact Rat.num_eq_zero.mp e1
 ·intro e
  subst e
  rfl
end
section
noncomputable def rO:Option Rat->D
 | some q=>qD q
 | none=> .non
end
section
theorem znv {F:List D->M D} {x y z w:D}:zaj 4 F [x,y,z,w]=F [x,y,z,w]:=rfl
theorem zoI {F:List D->M D} {x y z w v:D}:zaj 5 F [x,y,z,w,v]=F [x,y,z,w,v]:=rfl
end
section
end
end L3
namespace K41
open PySem PySem.Spec PyProof.Rows L2 L3 LT
set_option hygiene false in
local macro_rules | `(tactic| ac_nf0)=> `(tactic| simp only [zbB,zdo,zix,zdm,zkf,zlq,zoO,zg6,zbO,za0,zbi,zcm,zmJ,zfE,zaP,zaV,pure_bind,bind_assoc,zhu,zrX,zfI,zsK,List.set,ze7,zp7,zqN,zqD,zsJ,ziN,zs4,zly,zsQ,zgQ,ziQ,zgn,zd8,zoA,zbR,zod,zdF,zsW,zjS,zkc,zqP,zeN,zrH,zmW,zsY,zrN,zoG,zhi,zde,zkP,ziz,zk6,zho,zrc,zas,zar,ziH,qaE,qaJ,qaH,Nat.zero_add,Nat.reduceAdd,Nat.reduceLeDiff,zaD,zcV,tI,zlb,zoX,zmi,zpP,zmk,zjp,zl8,zsx,zoh,zof,zrC,ztf,zs9,zre,znc,zm5,zpx,zsl,zpg,ztW,if_true,Bool.not_true,Bool.not_false,qax,if_false,qav,List.cons_append,List.nil_append,zrG,zqt,zsB,zsr,znv,zoI])
variable {m:Int} {os:List (List Int×Int)} {i:Nat}
theorem zfu {d:D} (k:kn d=true):F_32 [d]=pure (.bl (isI d)):=by
 rw [d_32]
 simp only [G_32,zdm,ziN,zmJ,zaP,pure_bind,bind_assoc,zjR k,zm9 k,zd8,zly]
 cases d<;>simp [isI]
noncomputable def zhn (m:Int):D->Bool
 | .tup [.tup ts,.int p]=>zee m 0 ts && decide (0<(ts.length:Int)) && decide (0<p/\p<2^64)
 | _=>false
theorem zaU {h:Hh} {b:Nat} {m:Int} {P:D->Hh->Prop} (q:Bx b h) (h0:0<m) (h1:m<2^64) (k: ∀ t h',0<=t->t<m->Ext b h h'->P (.int t) h'):wp (F_31 [.cel b,.int m]) h P:=by
 obtain ⟨z,e⟩:=id q
 rw [d_31]
 simp only [G_31,zbB,zdo,zcm,zaP,zaV,pure_bind,bind_assoc,zfE,zjT,zas,zdp e,zkc,zeN,zar,zds h0,zhu,List.set,zix,zih h0 h1,zhx,zkM]
 have e2:ixN ([D.int z]:List D).length 0=some 0:=rfl
 simp only [zas,zdp e,e2,zeN,zar,ziJ,zhu,zdm,zaV,zaP,zfI,List.set]
 exact k _ _ (Int.emod_nonneg _ (by omega)) (Int.emod_lt_of_pos _ h0) q.set
theorem zn9 {ns:List Int} {k:Int} (h0:0<=k): ∃ c:Int,F_29 [.scr (ns.map D.int),.int k]=pure (.int c):=by
 rw [d_29]
 simp only [G_29,zbB,zkf,ze7,zaV,zaP,pure_bind,bind_assoc,zbO,za0,zbi,zmN,zr2,zd8]
 by_cases hk:k<((ns.map D.int).length:Int)
 ·have hk':k.toNat<ns.length:=by simp at hk;omega
  have ea:atI (ns.map D.int) k=some (.int ns[k.toNat]):=by
   have:=zc6 (xs:=ns.map D.int) (j:=k.toNat) (v:= .int ns[k.toNat]) (by simp [hk'])
   rw [<- this]
   congr 1
   omega
  simp only [hk,decide_true,if_true,zdm,zcm,zaP,zaV,pure_bind,zth,ea,zeN,zrX,zfI]
  exact ⟨_,rfl⟩
 ·simp only [hk,decide_false,qax,if_false,zg6,pure_bind,zhu,zdm,zcm,zfE,zaV,zaP,ze8 (show (-1000000000000000:Int)<6151 by decide) (show (6151:Int)<1000000000000000 by decide),zdF,zfI]
  exact ⟨_,rfl⟩
theorem zh5 {s0 s2:Option D} {k:Int} (k0:0<=k) (k5:k<5): ∀ (ds:List D) (n mx:Int) (x5:Option D),(∀ d∈ds, ∃ j:Int,d= .int j/\0<=j/\j<24)->0<=mx->mx<2147483647->
  ∃ (n' mx':Int) (x5':Option D),za3 (fun x sd=>do let sd1<-zaM 5 x sd;zdu sd1) ds [s0,some (.int k),s2,some (.int n),some (.int mx),x5]=pure (.nx [s0,some (.int k),s2,some (.int n'),some (.int mx'),x5'])
 | [],n,mx,x5,_,_,_=>⟨n,mx,x5,rfl⟩
 | d::r,n,mx,x5,hd,m0,m1=>by
  obtain ⟨j,rfl,j0,j1⟩:=hd _ qau
  obtain ⟨n',mx',x5',ih⟩:=zh5 k0 k5 r (n*2147483647+(mx*48271+7*j*j+11*k+1) % 2147483647) ((mx*48271+7*j*j+11*k+1) % 2147483647) (some (.int j)) (fun y hy=>hd y (qan _ hy)) (Int.emod_nonneg _ (by decide)) (Int.emod_lt_of_pos _ (by decide))
  refine ⟨n',mx',x5',?_⟩
  rw [zbK, <-ih]
  simp only [zdu,zde,List.set,pure_bind,bind_assoc,zbB,zdo,zcm,zaV,zaP,zfE,ze8 (show -1000000000000000<mx by omega) (show mx<1000000000000000 by omega),ze8 (show (-1000000000000000:Int)<7 by decide) (show (7:Int)<1000000000000000 by decide),
    zg5 (i:=7*j) (show -1000000000000000<j by omega) (show j<1000000000000000 by omega),ze8 (show (-1000000000000000:Int)<11 by decide) (show (11:Int)<1000000000000000 by decide),zdF,zds (show (0:Int)<2147483647 by decide),zhu,zg5 (i:=n) (show (-1000000000000000:Int)<2147483647 by decide) (show (2147483647:Int)<1000000000000000 by decide)]
theorem zpF {h:Hh} {ns:List Int} {k:Int} {P:D->Hh->Prop} (k0:0<=k) (k5:k<5) (q: ∀ z:Int,P (.cel h.length) (h++[.lst [.int z]])):wp (F_30 [.scr (ns.map D.int),.int k]) h P:=by
 obtain ⟨c,ec⟩:=zn9 (ns:=ns) k0
 rw [d_30]
 simp only [G_30,zbB,zdo,zbO,za0,zbi,zaP,zaV,pure_bind,bind_assoc,zbR,ec,zhu,List.set,zkf,ze7,zcm,zfE,zds (show (0:Int)<2 by decide),zid,zd8]
 by_cases hc:(c % 2==0)=true
 ·simp only [hc,if_true,zdm,zgn,za0,zbi,zcm,zaV,zaP,zfE,pure_bind,bind_assoc,zih (show (0:Int)<2 by decide) (show (2:Int)<2^64 by decide),qaE,qaJ,zaD (show 0+1<=1000 by decide),zas,ziH,zar,zrX,zfI]
  exact q _
 ·obtain ⟨n',mx',x5',el⟩:=zh5 (s0:=some (.scr (ns.map D.int))) (s2:=some (.int c)) k0 k5 (zfC 0 24) 0 (c % 2147483647) none (fun d hd=>by
    obtain ⟨i,e,i0,i1⟩:=zgz hd
    exact ⟨i,e,i0,by omega⟩) (Int.emod_nonneg _ (by decide)) (Int.emod_lt_of_pos _ (by decide))
  have er:zkp [.int 24]=pure (zfC 0 24):=zcY (by decide) (by decide)
  simp only [hc,if_false,zg6,pure_bind,zhu,zbB,zdo,zfE,List.set,zcm,zaV,zaP,zds (show (0:Int)<2147483647 by decide),zlq,zhi,za0,zbi,er,bind_assoc,el,zdm,zgn,qaE,qaJ,zaD (show 0+1<=1000 by decide),zas,ziH,zar,zfI,qax]
  exact q _
theorem zgR {a b:Nat} (h:a<=b):(2:Int)^a<=2^b:=by
 have:(2:Nat)^a<=2^b:=Nat.pow_le_pow_right (by decide) h
 exact_mod_cast this
theorem zh9 {bits:Int}: ∀ (m:Nat),0<bits->bits<2^m-> ∃ j:Nat,j<m/\(bits / 2^j) % 2=1
 | 0,h0,h1=>by simp at h1;omega
 | m+1,h0,h1=>by
  by_cases c:bits<2^m
  ·obtain ⟨j,a,b⟩:=zh9 m h0 c
   exact ⟨j,by omega,b⟩
  ·refine ⟨m,by omega,?_⟩
   have hp:(0:Int)<2^m:=Int.pow_pos (by decide)
   have e:bits / 2^m=1:=by
    have h2:(2:Int)^(m+1)=2*2^m:=by rw [Int.pow_succ];omega
    have a1:1<=bits / 2^m:=(Int.le_ediv_iff_mul_le hp).mpr (by omega)
    have a2:bits / 2^m<2:=(Int.ediv_lt_iff_lt_mul hp).mpr (by omega)
    omega
   rw [e]
   decide
noncomputable def zpo (bits:Int) (d:D):Option D:=match d with
 | .int j=>if ((bits / 2^j.toNat) % 2==1)=true then some d else none
 | _=>none
theorem zhl (bits:Int): ∀ xs:List Int,(xs.map D.int).filterMap (zpo bits)=(xs.filter fun j=>(bits / 2^j.toNat) % 2==1).map D.int
 | []=>rfl
 | x::r=>by
  rw [qaM,qat,List.filter_cons,zhl bits r]
  unfold zpo
  dsimp only
  split<;>simp_all
theorem zka {bits:Int} {m:Nat} (h0:0<bits) (h1:bits<2^m):zee m 0 ((zfC 0 m).filterMap (zpo bits))=true/\(zfC 0 m).filterMap (zpo bits)≠[]:=by
 rw [zdx,zhl]
 constructor
 ·rw [zb1]
  constructor
  ·refine List.Pairwise.filter _ ?_
   rw [List.pairwise_map]
   exact List.pairwise_lt_range.imp fun h=>by omega
  ·intro x hx
   obtain ⟨k,hk,e⟩:=qaU.mp (List.mem_filter.mp hx).1
   have:=List.mem_range.mp hk
   omega
 ·obtain ⟨j,a,b⟩:=zh9 m h0 h1
  intro z
  have:((j:Int))∈((List.range m).map fun (k:Nat)=>(k:Int)).filter fun j=>(bits / 2^j.toNat) % 2==1:=by
   refine List.mem_filter.mpr ⟨qaU.mpr ⟨j,List.mem_range.mpr a,rfl⟩,?_⟩
   rw [qaB,b]
   rfl
  have z':=List.map_eq_nil_iff.mp z
  rw [z'] at this
  cases this
theorem zlz {h:Hh} {b:Nat} {m:Int} {P:D->Hh->Prop} (q:Bx b h) (h0:1<=m) (h1:m<=10) (k: ∀ ts h',zee m 0 ts=true->ts≠[]->Ext b h h'->P (.tup ts) h'):wp (F_35 [.cel b,.int m]) h P:=by
 rw [d_35]
 simp only [G_35,zbB,zdo,zbO,za0,zbi,zaP,zaV,pure_bind,bind_assoc,zbR,zfE,zas]
 refine zaU q (by decide) (by decide) fun way h2 w0 w1 x2=> ?_
 simp only [zar,zas,zhu,List.set,zbB,zkf,ze7,zaV,zaP,pure_bind,bind_assoc,zfE,zid,zd8]
 by_cases hw:(way==0)=true
 ·rw [qa4 hw]
  simp only [zbB,zdo,zcm,zfE,zaV,zaP,pure_bind,bind_assoc,zbO,za0,zbi,zoH (show 0<=m by omega) (show m<=1000 by omega),zpg,zbR,zas]
  have hp:(2:Int)<=2^m.toNat:=by
   have:(2:Int)^1<=2^m.toNat:=zgR (by omega)
   simpa using this
  have hp':(2:Int)^m.toNat<=2^10:=zgR (by omega)
  refine zaU x2.1 (by omega) (by omega) fun t h3 t0 t1 x3=> ?_
  have ed:zaB (zhE (zab (zae 1) zai)) (zaM 0) zch zcl [none,some 3] [some (.cel b),some (.int m),some (.int way),some (.int (1+t)),none,none]=pure (.lst ((zfC 0 m.toNat).filterMap (zpo (1+t)))):=by
   refine zcS (by simp [zcY (show 0<=m by omega) (show m<1000 by omega)]) (by rw [zeZ];omega) fun x hx=> ?_
   obtain ⟨i,rfl,i0,i1⟩:=zgz hx
   have eb:zap [none,some 3] [some (.cel b),some (.int m),some (.int way),some (.int (1+t)),none,none]=[none,some (D.int (1+t))]:=rfl
   rw [eb]
   simp only [za6,zde,List.set,pure_bind,zch,ze7,zcm,zaV,zaP,zfE,zow i0,zsR,zn7,zid,zd8,zcl,zpo]
   split<;>rfl
  simp only [zar,zas,zhu,List.set,zdF,pure_bind,zdm,zbO,za0,zbi,bind_assoc,ed,zho,zrX,zfI]
  have hm:((m.toNat:Nat):Int)=m:=Int.toNat_of_nonneg (by omega)
  have:=zka (bits:=1+t) (m:=m.toNat) (by omega) (by omega)
  rw [hm] at this
  exact k _ _ this.1 this.2 (x2.trans x3)
 ·rw [qa5 hw]
  have hw': ¬way=0:=by simpa using hw
  simp only [zg6,zar,zhu,zbB,zix,zgQ,za0,zbi,zbO,zaP,zaV,pure_bind,bind_assoc,zbR,zas]
  refine zaU x2.1 (by omega) (by omega) fun first h3 f0 f1 x3=> ?_
  simp only [zcm,ziQ,za0,zbi,zfE,zbO,zaP,zaV,pure_bind,bind_assoc,zbR,zas,zar]
  refine zaU x3.1 (by decide) (by decide) fun t h4 t0 t1 x4=> ?_
  simp only [zdF,pure_bind,zar,zas,qaE,qaJ,zaD (show 0+1+1<=1000 by decide),zaV,zaP,zpg,zjS,bind_assoc]
  obtain ⟨step,es,s0,s1⟩: ∃ s:Int,atI [D.int 1,D.int (1+t)] (way - 1)=some (.int s)/\1<=s/\s<=3:=by
   by_cases c:way=1
   ·subst c
    exact ⟨1,rfl,by decide,by decide⟩
   ·have c:way=2:=by omega
    subst c
    exact ⟨1+t,rfl,by omega,by omega⟩
  simp only [es,zeN,zar,zas,zkP,ziz,zde,List.set,pure_bind,zk6,zhu,zdm,zbO,za0,zbi,zmJ,bind_assoc]
  unfold zaB
  simp only [zhi,za0,zbi,zcm,zfE,zbO,zaP,zaV,pure_bind,bind_assoc,zbR,zas]
  refine zaU x4.1 (by decide) (by decide) fun u h5 u0 u1 x5=> ?_
  have eb:zap [none,some 4,some 5,some 1] [some (.cel b),some (.int m),some (.int way),none,some (.int first),some (.int step)]=[none,some (D.int first),some (.int step),some (.int m)]:=rfl
  have hl:zbl (za6 (zaM 0) (fun _=>pure true) zck [none,some (D.int first),some (.int step),some (.int m)]) (zfC 0 (1+u).toNat)=pure ((((List.range (1+u).toNat).map fun (k:Nat)=>(first+step*(k:Int)) % m)).map D.int):=by
   rw [zdx]
   rw [zel (k:=fun d=>match d with | .int j=>some (.int ((first+step*j) % m)) | _=>none)]
   ·congr 1
    rw [List.filterMap_map]
    simp [Function.comp_def]
   ·intro x hx
    obtain ⟨j,_,rfl⟩:=qaU.mp hx
    simp only [za6,zde,List.set,pure_bind,if_true,zck,zcm,zaV,zaP,ze8 (show -1000000000000000<step by omega) (show step<1000000000000000 by omega),zdF,zds (show 0<m by omega)]
  simp only [zdF,pure_bind,zcY (show 0<=1+u by omega) (show 1+u<1000 by omega),zeZ,zaD (show (1+u).toNat<=1000 by omega),eb,hl,zar,zas]
  generalize hy:((List.range (1+u).toNat).map fun (k:Nat)=>(first+step*(k:Int)) % m)=ys
  have yl:ys.length=(1+u).toNat:=by rw [<- hy];simp
  have ym: ∀ y∈ys,0<=y/\y<m:=fun y h=>by
   rw [<- hy] at h
   obtain ⟨k,_,rfl⟩:=qaU.mp h
   exact ⟨Int.emod_nonneg _ (by omega),Int.emod_lt_of_pos _ (by omega)⟩
  simp only [zgG (show ys.length<64 by omega),zar,zho,zfI,pure_bind,zas]
  refine k _ _ (zb1.mpr ⟨zgr ys,fun x hx=>ym x (zdX.mp hx)⟩) (fun z=> ?_) (((x2.trans x3).trans x4).trans x5)
  have z':=List.map_eq_nil_iff.mp z
  have hy0: ∃ y,y∈ys:=List.exists_mem_of_length_pos (by omega)
  obtain ⟨y,hy0⟩:=hy0
  have:=zdX.mpr hy0
  rw [z'] at this
  cases this
def Row (m:Int) (h:Hh) (d:D):Prop:= ∃ (n:Nat) (xs:List Int) (p:Int),d= .cel n/\h[n]? = some (.lst [.tup (xs.map D.int),.int p])/\zee m 0 (xs.map D.int)=true/\xs≠[]/\(0<p/\p<2^64)
theorem Row.ext {m:Int} {b:Nat} {h h':Hh} {d:D} (q:Bx b h) (x:Ext b h h') (r:Row m h d):Row m h' d:=by
 obtain ⟨n,ts,p,e,e2,r⟩:=r
 have hn:n≠b:=fun z=>by
  subst z
  obtain ⟨y,e3⟩:=q
  rw [e3] at e2
  cases e2
 exact ⟨n,ts,p,e,x.2 n _ hn e2,r⟩
theorem zjH {b:Nat} {m far:Int} (m0:1<=m) (m1:m<=10) (f0:0<far) (f1:far<2^64): ∀ (ds:List D) {h:Hh} {P:List D->Hh->Prop},Bx b h->(∀ rs h',Ext b h h'->rs.length=ds.length->(∀ r∈rs,Row m h' r)->P rs h')->
  wp (zbl (za6 (zaM 0) (fun _=>pure true) zc5 [none,some (.cel b),some (.int m),some (.int far)]) ds) h P
 | [],h,P,q,k=>by
  rw [zbl,zar]
  exact k [] h (Ext.refl q) rfl fun r hr=>by cases hr
 | d::r,h,P,q,k=>by
  rw [zbl]
  simp only [zas,za6,zde,List.set,pure_bind,if_true,zc5,zgn,za0,zbi,zbO,zaV,zaP,bind_assoc,zbR]
  refine zlz q m0 m1 fun ts h2 hr hne x2=> ?_
  simp only [zas,zcm,zfE,zbO,za0,zbi,zaV,zaP,pure_bind,bind_assoc,zbR]
  refine zaU x2.1 f0 f1 fun t h3 t0 t1 x3=> ?_
  simp only [zdF,pure_bind,zar,zas,qaE,qaJ,zaD (show 0+1+1<=1000 by decide),ziH]
  have x4:=x3.1.push (c:= .lst [.tup ts,.int (1+t)])
  obtain ⟨xs,rfl⟩:=zhH (zf7 hr)
  refine zjH m0 m1 f0 f1 r x4.1 fun rs h' x5 hl hr'=> ?_
  refine k (.cel h3.length::rs) h' (((x2.trans x3).trans x4).trans x5) (by simp [hl]) fun y hy=> ?_
  rcases qaP.mp hy with rfl | hy
  ·exact Row.ext x4.1 x5 ⟨h3.length,xs,1+t,rfl,by simp,hr,fun z=>hne (by rw [z];rfl),⟨by omega,by omega⟩⟩
  ·exact hr' y hy
noncomputable def zno (h:Hh) (i:Int) (d:D):Bool:=match d with
 | .cel n=>match h[n]? with
  | some (.lst (.tup ts::_))=>match zdI ts with
   | some xs=>xs.any (· == i)
   | none=>false
  | _=>false
 | _=>false
noncomputable def zi6 (h:Hh) (d:D):D:=match d with
 | .cel n=>match h[n]? with
  | some (.lst ds)=> .tup ds
  | _=> .non
 | _=> .non
theorem zmV {m:Int} {h:Hh}: ∀ {rs:List D},(∀ r∈rs,Row m h r)-> ∃ ps,zjs h rs=some ps/\PyData.canLayAll0 ps=true/\ps.length=rs.length
 | [],_=>⟨[],rfl,rfl,rfl⟩
 | d::r,hr=>by
  obtain ⟨n,xs,p,rfl,e,_⟩:=hr d qau
  obtain ⟨ps,e1,e2,e3⟩:=zmV fun y hy=>hr y (qan _ hy)
  refine ⟨.list [.tuple (xs.map .int),.int p]::ps,?_,?_,by simp [e3]⟩
  ·simp only [zjs,pdH,e,pdL,pd,zbW,Option.map,e1]
  ·simp [PyData.canLayAll0,PyData.canLay0,za4,e2]
theorem znT {m:Int} {h:Hh} {rs:List D} {P:D->Hh->Prop} (hr: ∀ r∈rs,Row m h r) (q:P (.bl rs.isEmpty) h):wp (zpH (.lst rs) (.lst [])) h P:=by
 obtain ⟨ps,e1,e2,e3⟩:=zmV hr
 refine ⟨.bl rs.isEmpty,h,?_,q⟩
 unfold zpH
 have a1:pdH h (.lst rs)=some (.list ps):=by simp only [pdH,e1,Option.map]
 have a2:pdH h (.lst [])=some (.list []):=by simp only [pdH,zjs,Option.map]
 rw [a1,a2]
 have c:zeI (.list ps) (.list [])=true:=by
  unfold zeI
  simp [PyData.canLay0,PyData.canLayAll0,e2,PyData.depth,PyData.depthAll]
 simp only [c,if_true]
 cases ps with
 | nil=>
  cases rs with
  | nil=>rfl
  | cons _ _=>cases e3
 | cons _ _=>
  cases rs with
  | nil=>cases e3
  | cons _ _=>rfl
def Cov (rows:List D) (h:Hh) (j:Int):Prop:= ∃ r∈rows, ∃ (n:Nat) (xs:List Int) (p:Int),r= .cel n/\h[n]? = some (.lst [.tup (xs.map D.int),.int p])/\j∈xs
theorem Cov.ext {b:Nat} {rows:List D} {h h':Hh} {j:Int} (q:Bx b h) (x:Ext b h h') (r:Cov rows h j):Cov rows h' j:=by
 obtain ⟨d,hd,n,ts,p,e,e2,r⟩:=r
 have hn:n≠b:=fun z=>by
  subst z
  obtain ⟨y,e3⟩:=q
  rw [e3] at e2
  cases e2
 exact ⟨d,hd,n,ts,p,e,x.2 n _ hn e2,r⟩
theorem zhe {b:Nat} {m far:Int} {s1 s2:Option D} {rows:List D} (m0:1<=m) (m1:m<=10) (hne:rows≠[]) (hl:rows.length<=12): ∀ (ds:List D) (dn:List Int) {h:Hh} {x6 x7:Option D} {P:Out->Hh->Prop},Bx b h->(∀ d∈ds, ∃ i:Int,d= .int i/\0<=i/\i<m)->(∀ r∈rows,Row m h r)->(∀ j∈dn,Cov rows h j)->
  (∀ x6' x7' h',Bx b h'->(∀ r∈rows,Row m h' r)->(∀ j,j∈dn\/D.int j∈ds->Cov rows h' j)->P (.nx [some (.cel b),s1,s2,some (.int m),some (.int far),some (.lst rows),x6',x7']) h')->
  wp (za3 (fun x sd=>do let sd1<-zaM 6 x sd;zbF sd1) ds [some (.cel b),s1,s2,some (.int m),some (.int far),some (.lst rows),x6,x7]) h P
 | [],dn,h,x6,x7,P,q,_,hr,hc,k=>by
  rw [zc2,zar]
  exact k _ _ h q hr fun j hj=>hc j (hj.elim id fun z=>by cases z)
 | d::r,dn,h,x6,x7,P,q,hd,hr,hc,k=>by
  obtain ⟨i,rfl,i0,i1⟩:=hd _ qau
  have hd':=fun y hy=>hd y (qan _ hy)
  have ih: ∀ {h:Hh} {x6 x7:Option D},Bx b h->(∀ r∈rows,Row m h r)->(∀ j∈i::dn,Cov rows h j)->wp (za3 (fun x sd=>do let sd1<-zaM 6 x sd;zbF sd1) r [some (.cel b),s1,s2,some (.int m),some (.int far),some (.lst rows),x6,x7]) h P:=fun q hr hc=>zhe m0 m1 hne hl r (i::dn) q hd' hr hc fun x6' x7' h' q' hr' hc'=>k x6' x7' h' q' hr' fun j hj=>hc' j (by
    rcases hj with hj | hj
    · exact .inl (qan _ hj)
    · rcases qaP.mp hj with z | z
      · cases z;exact .inl qau
      · exact .inr z)
  rw [zbK]
  generalize za3 (fun x sd=>do let sd1<-zaM 6 x sd;zbF sd1) r=rest at ih ⊢
  simp only [zde,List.set,pure_bind,zbF,zkf,ze7,zas]
  refine zjm (k:=fun d=>if zno h i d=true then some d else none) (ds:=rows) (by simp) (by omega) (fun x hx=> ?_) ?_
  ·obtain ⟨n,xs,p,rfl,e,_⟩:=hr x hx
   have eb:zap [none,some 6] [some (.cel b),s1,s2,some (.int m),some (.int far),some (.lst rows),some (.int i),x7]=[none,some (D.int i)]:=rfl
   rw [eb]
   simp only [za6,zde,List.set,pure_bind,zd2,ze7,zaV,zaP,zcm,zfE,zjT,bind_assoc,zas,zdp e,zkc,zeN,zar,zf5,zd8,zeg,zno,e,zbJ]
   rw [zmY]
   split
   ·simp_all [zar,zaP,zas]
   ·simp_all [zar]
  ·simp only [ziQ,zbi,pure_bind,qaJ,zaD (show 0<=1000 by decide),zas,zar]
   refine znT (m:=m) (fun y hy=> ?_) ?_
   ·obtain ⟨z,hz,ez⟩:=List.mem_filterMap.mp hy
    split at ez
    ·cases ez;exact hr _ hz
    ·cases ez
   simp only [zd8,zar]
   rw [zmY]
   split
   ·rename_i c
    have none_has: ∀ y∈rows,zno h i y=false:=fun y hy=>by
     cases z:zno h i y with
     | false=>rfl
     | true=>
      have:y∈rows.filterMap fun d=>if zno h i d=true then some d else none:=List.mem_filterMap.mpr ⟨y,hy,by rw [z];rfl⟩
      rw [List.isEmpty_iff.mp c] at this
      cases this
    have hpos:0<rows.length:=List.length_pos_iff.mpr hne
    simp only [zbB,zdo,zcm,zaV,zaP,pure_bind,bind_assoc,zbO,za0,zbi,zmW,zbR,zas]
    refine zaU q (by omega) (by omega) fun t h2 t0 t1 x2=> ?_
    have ht:t.toNat<rows.length:=by omega
    have ea:atI rows t=some rows[t.toNat]:=by
     have:=zc6 (xs:=rows) (j:=t.toNat) (v:=rows[t.toNat]) (by simp [ht])
     rw [<- this]
     congr 1
     omega
    have hrow:=hr rows[t.toNat] (List.getElem_mem ht)
    have hno:=none_has rows[t.toNat] (List.getElem_mem ht)
    have hmem:rows[t.toNat]∈rows:=List.getElem_mem ht
    generalize rows[t.toNat]=row at ea hrow hno hmem
    obtain ⟨n,xs,p,rfl,e,hrs,hx0,hp0⟩:=hrow
    have hni:i∉xs:=fun z=>by
     simp only [zno,e,zbJ] at hno
     have:xs.any (· == i)=true:=List.any_eq_true.mpr ⟨i,z,by simp⟩
     rw [this] at hno
     cases hno
    have hnb:n≠b:=fun z=>by
     subst z
     obtain ⟨y,e3⟩:=q
     rw [e3] at e
     cases e
    have e2:=x2.2 n _ hnb e
    obtain ⟨hpw,hbd⟩:=zb1.mp hrs
    have hxl:(xs.length:Int)<=m:=by have:=zeS hrs (by omega);simpa using this
    have esn:((xs.map D.int)++[D.int i])=(xs++[i]).map D.int:=by simp
    simp only [zjS,ea,zeN,zar,zhu,List.set,zix,zbO,za0,zbi,zcm,zaV,zaP,zfE,pure_bind,bind_assoc,zjT,zas,zdp e2,zkc,zgQ,qaE,qaJ,zaD (show 0+1<=1000 by decide),znc,qaH,
      zaD (show xs.length+(0+1)<=1000 by omega),esn,zjk (show (xs++[i]).length<64 by simp;omega),zho,zhx,zkM]
    have e3:ixN (0+1+1) 0=some 0:=rfl
    simp only [zas,zdp e2,qaE,qaJ,e3,zeN,zar,ziJ,List.set]
    have hlt:n<h2.length:=(qac.mp e2).1
    refine ih ?_ ?_ ?_
    ·obtain ⟨y,ey⟩:=x2.1
     exact ⟨y,by rw [qao hnb];exact ey⟩
    ·intro y hy
     obtain ⟨n',xs',p',rfl,e',r1,r2,r3⟩:=Row.ext q x2 (hr y hy)
     by_cases hnn:n'=n
     ·subst hnn
      refine ⟨n',zb0 (xs++[i]),p,rfl,qai hlt,zb1.mpr ⟨zol hpw hni,fun z hz=> ?_⟩,fun z=> ?_,hp0⟩
      ·have:=(zaN (xs++[i])).mem_iff.mp hz
       rcases qaK.mp this with w | w
       ·exact hbd z w
       ·simp at w;omega
      ·have:=(zaN (xs++[i])).length_eq
       rw [z] at this
       simp at this
     ·exact ⟨n',xs',p',rfl,by rw [qao (Ne.symm hnn)];exact e',r1,r2,r3⟩
    ·intro j hj
     rcases qaP.mp hj with rfl | hj
     ·exact ⟨.cel n,hmem,n,zb0 (xs++[j]),p,rfl,qai hlt,(zaN (xs++[j])).mem_iff.mpr (by simp)⟩
     ·obtain ⟨y,hy,n',xs',p',rfl,e',hj'⟩:=Cov.ext q x2 (hc j hj)
      by_cases hnn:n'=n
      ·subst hnn
       rw [e2] at e'
       have exs:xs=xs':=by
        have z:xs.map D.int=xs'.map D.int:=by injection (Option.some.inj e') with z;simpa using (List.cons.inj z).1
        exact (List.map_inj_right fun a b h=>by injection h).mp z
       subst exs
       exact ⟨_,hy,n',zb0 (xs++[i]),p,rfl,qai hlt,(zaN (xs++[i])).mem_iff.mpr (List.mem_append_left _ hj')⟩
      ·exact ⟨_,hy,n',xs',p',rfl,by rw [qao (Ne.symm hnn)];exact e',hj'⟩
   ·rename_i c
    simp only [zg6,zar]
    refine ih q hr fun j hj=> ?_
    rcases qaP.mp hj with rfl | hj
    ·obtain ⟨y,hy⟩:=List.exists_mem_of_ne_nil (rows.filterMap fun d=>if zno h j d=true then some d else none) (fun z=>c (by rw [z];rfl))
     obtain ⟨z,hz,ez⟩:=List.mem_filterMap.mp hy
     split at ez
     ·rename_i c2
      obtain ⟨n,xs,p,rfl,e,_⟩:=hr z hz
      simp only [zno,e,zbJ] at c2
      obtain ⟨k,hk,ek⟩:=List.any_eq_true.mp c2
      exact ⟨_,hz,n,xs,p,rfl,e,(show k=j by simpa using ek)▸hk⟩
     ·cases ez
    ·exact hc j hj
theorem znE {h:Hh} {b:Nat} {lots:Int} {P:D->Hh->Prop} (z0:1<=lots) (z1:lots<=12) (q:Bx b h) (k: ∀ (m:Int) (os:List D) h',Bx b h'->1<=m->m<=10->1<=os.length->(os.length:Int)<=lots->(∀ o∈os,zhn m o=true)->(∀ i:Int,0<=i->i<m-> ∃ o∈os, ∃ (xs:List Int) (p:Int),o= .tup [.tup (xs.map D.int),.int p]/\i∈xs)->P (.tup [.int m,.tup os]) h'):wp (F_36 [.cel b,.int 8,.int lots]) h P:=by
 rw [d_36]
 simp only [G_36,zbB,zdo,zcm,zfE,zbO,za0,zbi,zaP,zaV,pure_bind,bind_assoc,zbR,zas]
 refine zaU q (by decide) (by decide) fun t h2 t0 t1 x2=> ?_
 simp only [zdF,pure_bind,zar,zhu,List.set,zbB,zdo,zcm,ziQ,za0,zbi,zfE,znB,bind_assoc,zas,qaE,qaJ,zaD (show 0+1+1+1+1<=1000 by decide),zbO,zaP,zaV,zbR]
 refine zaU x2.1 (by decide) (by decide) fun f h3 f0 f1 x3=> ?_
 obtain ⟨far,ef,g0,g1⟩: ∃ far:Int,atI [D.int 3,.int 9,.int 50,.int 1000000000000] f=some (.int far)/\0<far/\far<2^64:=by
  have:f=0\/f=1\/f=2\/f=3:=by omega
  rcases this with rfl | rfl | rfl | rfl
  ·exact ⟨3,rfl,by decide,by decide⟩
  ·exact ⟨9,rfl,by decide,by decide⟩
  ·exact ⟨50,rfl,by decide,by decide⟩
  ·exact ⟨1000000000000,rfl,by decide,by decide⟩
 simp only [zjS,ef,zeN,zar,zhu,List.set,zbB,zdo,zas]
 unfold zaB
 simp only [zhi,za0,zbi,zcm,zfE,zbO,zaP,zaV,pure_bind,bind_assoc,zbR,zas]
 refine zaU x3.1 (by omega) (by omega) fun u h4 u0 u1 x4=> ?_
 have eb:zap [none,some 0,some 3,some 4] [some (.cel b),some (.int 8),some (.int lots),some (.int (1+t)),some (.int far),none,none,none]=[none,some (D.cel b),some (.int (1+t)),some (.int far)]:=rfl
 simp only [zdF,pure_bind,zcY (show 0<=1+u by omega) (show 1+u<1000 by omega),zeZ,zaD (show (1+u).toNat<=1000 by omega),eb,zas,zar]
 refine zjH (by omega) (by omega) g0 g1 _ x4.1 fun rows h5 x5 hl hr=> ?_
 rw [zeZ] at hl
 simp only [zar,zhu,List.set,zbB,zlq,zhi,za0,zbi,zaV,zaP,pure_bind,zcY (show 0<=1+t by omega) (show 1+t<1000 by omega),zas]
 refine zhe (by omega) (by omega) (fun z=>by rw [z] at hl;simp at hl;omega) (by omega) _ [] x5.1 (fun d hd=> ?_) hr (fun j hj=>by cases hj) fun x6 x7 h6 q6 hr6 hc6=> ?_
 ·obtain ⟨i,e,i0,i1⟩:=zgz hd
  exact ⟨i,e,i0,by omega⟩
 simp only [zhu,zdm,zgQ,za0,zbi,zaV,zaP,pure_bind,bind_assoc,zbO,zas]
 have eb6:zap [none] [some (.cel b),some (.int 8),some (.int lots),some (.int (1+t)),some (.int far),some (.lst rows),x6,x7]=[none]:=rfl
 simp only [zoG,zaV,zaP,pure_bind,zrN,zar,zaD (show rows.length<=1000 by omega),eb6]
 refine zen (k:=fun d=>some (zi6 h6 d)) (fun x hx=> ?_) ?_
 ·obtain ⟨n,xs,p,rfl,e,_⟩:=hr6 x hx
  simp only [za6,zde,List.set,pure_bind,if_true,zdR,zgQ,za0,zbi,zcm,zaP,zfE,zjT,bind_assoc,zas,zdp e,zkc,zqP,zeN,zar,qaE,qaJ,zaD (show 0+1+1<=1000 by decide),zi6,e]
  exact ⟨trivial,trivial⟩
 ·simp only [zho,zar,pure_bind,qaE,qaJ,zaD (show 0+1+1<=1000 by decide),zfI,zas]
  have em:(rows.filterMap fun d=>some (zi6 h6 d))=rows.map (zi6 h6):=by simp
  rw [em]
  refine k (1+t) _ h6 q6 (by omega) (by omega) (by simp;omega) (by simp;omega) (fun o ho=> ?_) fun i i0 i1=> ?_
  rotate_left
  ·obtain ⟨r,hr',n,xs,p,rfl,e,hi⟩:=hc6 i (.inr (by rw [zdx,qaU];exact ⟨i,qaU.mpr ⟨i.toNat,List.mem_range.mpr (by omega),by omega⟩,rfl⟩))
   exact ⟨_,qaU.mpr ⟨_,hr',rfl⟩,xs,p,by simp only [zi6,e],hi⟩
  obtain ⟨r,hr',rfl⟩:=qaU.mp ho
  obtain ⟨n,xs,p,rfl,e,r1,r2,r3⟩:=hr6 r hr'
  have hx:0<(xs.length:Int):=by
   have:=List.length_pos_iff.mpr r2
   omega
  simp only [zi6,e,zhn,r1,qaH]
  simp [hx,r3]
  exact ⟨List.length_pos_iff.mpr r2,r3.2⟩
theorem zjB {m:Int} {o:D} (h:zhn m o=true): ∃ (xs:List Int) (p:Int),o=zcV (xs,p)/\(xs.Pairwise (· < ·)/\ ∀ x∈xs,0<=x/\x<m)/\xs≠[]/\(0<p/\p<2^64):=by
 unfold zhn at h
 split at h
 ·rename_i ts p
  simp only [qaG,qaD] at h
  obtain ⟨⟨h1,h2⟩,h3⟩:=h
  obtain ⟨xs,rfl⟩:=zhH (zf7 h1)
  exact ⟨xs,p,rfl,zb1.mp h1,fun z=>by rw [z] at h2;simp at h2,h3⟩
 ·cases h
theorem zmZ {m:Int} (m0:1<=m) (m1:m<=10): ∀ {ds:List D},ds.length<=12->(∀ o∈ds,zhn m o=true)-> ∃ os,ds=os.map zcV/\Stk m os/\ ∀ o∈os,o.2<2^64
 | [],_,_=>⟨[],rfl,⟨m0,m1,by simp,by simp,by simp,by simp,by simp⟩,by simp⟩
 | d::r,hl,h=>by
  obtain ⟨os,e,s,hP⟩:=zmZ m0 m1 (ds:=r) (by simp at hl;omega) fun o ho=>h o (qan _ ho)
  obtain ⟨xs,p,e1,⟨h1,h2⟩,h3,h4,h5⟩:=zjB (h d qau)
  have hlen:((xs,p)::os).length<=12:=by rw [e] at hl;simpa using hl
  refine ⟨(xs,p)::os,by rw [qaM,e,e1],⟨m0,m1,hlen,?_,?_,?_,?_⟩,fun o ho=>by
    rcases qaP.mp ho with rfl | ho
    · exact h5
    · exact hP o ho⟩
  ·intro o ho
   rcases qaP.mp ho with rfl | ho
   ·exact h1
   ·exact s.up o ho
  ·intro o ho
   rcases qaP.mp ho with rfl | ho
   ·exact h2
   ·exact s.bd o ho
  ·intro o ho
   rcases qaP.mp ho with rfl | ho
   ·exact h3
   ·exact s.ne o ho
  ·intro o ho
   rcases qaP.mp ho with rfl | ho
   ·exact h4
   ·exact s.pos o ho
theorem zl0 {m:Int} {os:List (List Int×Int)} (s:Stk m os) {h:Hh} {b:Nat} {P:D->Hh->Prop} (q:Bx b h) (k: ∀ os' h',Stk m os'->(∀ o∈os', ∃ o'∈os,o.2=o'.2)->Ext b h h'->P (zbq m os') h'):wp (F_37 [.cel b,zbq m os]) h P:=by
 have m0:=s.m0
 have m1:=s.m1
 have hl:=s.len
 rw [d_37]
 simp only [G_37,zbq]
 ac_nf0
 refine zaU q (by omega) (by omega) fun t h2 t0 t1 x2=> ?_
 ac_nf0
 have e1:zaB (iSq (zae 3)) (zcX 2 (zaR (zaM 0) (zaR (zaM 1) zc7))) (fun _=>pure true) zcD [none,none,some 4] [some (.cel b),some (.tup [.int m,.tup (os.map zcV)]),some (.int m),some (.tup (os.map zcV)),some (.int t),none]
   = pure (.lst ((os.map fun o=>(o.1.filter fun x=> !(x==t),o.2)).map zcV)):=by
  rw [zgP (ds:=os.map zcV) (k:=fun d=>match d with | .tup [.tup ts,p]=> .tup [.tup (ts.filter fun d=>match d with | .int x=> !(x==t) | _=>true),p] | d=>d) (by ac_nf0) (by rw [qaH];omega) ?_]
  ·rw [qaT,qaT]
   congr 2
   refine List.map_congr_left fun o _=> ?_
   simp only [Function.comp,zcV,tI]
   congr 2
   rw [List.filter_map]
   rfl
  ·intro x hx
   obtain ⟨o,ho,rfl⟩:=qaU.mp hx
   have eb:zap [none,none,some 4] [some (.cel b),some (.tup [.int m,.tup (os.map zcV)]),some (.int m),some (.tup (os.map zcV)),some (.int t),none]=[none,none,some (.int t)]:=rfl
   rw [eb]
   simp only [za6,zcD]
   ac_nf0
   have e2:zaB (iSq (zae 0)) (zaM 0) zcE zcy [none,some 2] [some (.tup (o.1.map D.int)),some (.int o.2),some (.int t)]=pure (.lst ((o.1.filter fun x=> !(x==t)).map D.int)):=by
    rw [<- zcK (k:=fun d=>match d with | .int x=>if (!(x==t))=true then some (.int x) else none | d=>none) fun _=>rfl]
    refine zcS (by ac_nf0) (by rw [qaH];have:=s.olen o ho;omega) fun x hx=> ?_
    obtain ⟨i,_,rfl⟩:=qaU.mp hx
    have eb:zap [none,some 2] [some (.tup (o.1.map D.int)),some (.int o.2),some (.int t)]=[none,some (.int t)]:=rfl
    rw [eb]
    simp only [za6,zcE,zcy]
    ac_nf0
    rw [zr3]
    ac_nf0
    split<;>rfl
   simp only [if_true,e2]
   ac_nf0
   congr 3
   rw [List.filter_map]
   rfl
 rw [e1]
 ac_nf0
 generalize hos:(os.map fun o=>(o.1.filter fun x=> !(x==t),o.2))=os1
 have e3:zaB (iSq (zae 5)) (zaM 0) zcB zcx [none] [some (.cel b),some (.tup [.int m,.tup (os.map zcV)]),some (.int m),some (.tup (os.map zcV)),some (.int t),some (.lst (os1.map zcV))]
   = pure (.lst ((os1.filter fun o=> !o.1.isEmpty).map zcV)):=by
  have e4:(os1.map zcV).filterMap (fun d=>match d with | .tup [.tup ts,p]=>if (!ts.isEmpty)=true then some (.tup [.tup ts,p]) else none | d=>none)=(os1.filter fun o=> !o.1.isEmpty).map zcV:=by
   clear hos e1
   induction os1 with
   | nil=>rfl
   | cons o r ih=>
    rw [qaM,qat,ih,List.filter_cons]
    simp only [zcV,tI]
    obtain ⟨ts,p⟩:=o
    cases ts<;>simp [zcV,tI]
  rw [<- e4]
  refine zcS (by ac_nf0) (by rw [qaH, <-hos,qaH];omega) fun x hx=> ?_
  obtain ⟨o,_,rfl⟩:=qaU.mp hx
  have eb: ∀ sd,zap [none] sd=[none]:=fun _=>rfl
  rw [eb]
  simp only [za6,zcB,zcx]
  ac_nf0
  have e5:=zmc o.1
  unfold tI at e5
  rw [e5]
  ac_nf0
  simp only [List.isEmpty_map]
  split<;>rfl
 rw [e3]
 ac_nf0
 suffices hS:Stk m (os1.filter fun o=> !o.1.isEmpty)/\ ∀ o∈os1.filter fun o=> !o.1.isEmpty, ∃ o'∈os,o.2=o'.2 from k _ h2 hS.1 hS.2 x2
 have hm: ∀ o∈os1.filter fun o=> !o.1.isEmpty, ∃ o'∈os,o=(o'.1.filter fun x=> !(x==t),o'.2)/\o.1≠[]:=fun o ho=>by
  obtain ⟨h1,h2⟩:=List.mem_filter.mp ho
  rw [<- hos] at h1
  obtain ⟨o',h3,rfl⟩:=qaU.mp h1
  exact ⟨o',h3,rfl,by intro e;rw [e] at h2;simp at h2⟩
 refine ⟨?_,fun o ho=> ?_⟩
 rotate_left
 ·obtain ⟨o',h1,rfl,_⟩:=hm o ho
  exact ⟨o',h1,rfl⟩
 refine ⟨m0,m1,?_,fun o ho=> ?_,fun o ho=> ?_,fun o ho=> ?_,fun o ho=> ?_⟩
 ·have:=List.length_filter_le (fun o:List Int×Int=> !o.1.isEmpty) os1
  rw [<- hos,qaH] at this
  rw [<- hos]
  omega
 ·obtain ⟨o',h1,rfl,_⟩:=hm o ho
  exact (s.up o' h1).filter _
 ·obtain ⟨o',h1,rfl,_⟩:=hm o ho
  exact fun x hx=>s.bd o' h1 x (List.mem_filter.mp hx).1
 ·exact (hm o ho).choose_spec.2.2
 ·obtain ⟨o',h1,rfl,_⟩:=hm o ho
  exact s.pos o' h1
theorem zmP:dIx (zbq m os) (.int 1)=pure (.tup (os.map zcV)):=rfl
theorem zr7:dIx (zbq m os) (.int 0)=pure (.int m):=rfl
theorem zge (a b:Nat):Nat.gcd a b=Nat.gcd b (a % b):=by rw [Nat.gcd_comm a b,Nat.gcd_rec b a,Nat.gcd_comm]
theorem zot {s0 s1:Option D} {n a:Nat} {x4:Option D}:zb7 zak zao (n+1) [s0,s1,some (.int (a:Int)),some (.int ((0:Nat):Int)),x4]=pure (.nx [s0,s1,some (.int (a:Int)),some (.int 0),x4]):=by
 rw [ze5]
 simp only [zak]
 ac_nf0
 rfl
theorem zo8 {s0 s1:Option D} {n a b:Nat} {x4:Option D} (hb:b≠0):zb7 zak zao (n+1) [s0,s1,some (.int (a:Int)),some (.int (b:Int)),x4]=zb7 zak zao n [s0,s1,some (.int (b:Int)),some (.int ((a % b:Nat):Int)),some (.int ((a % b:Nat):Int))]:=by
 rw [ze5]
 generalize zb7 zak zao n=rest
 simp only [zak,zao]
 ac_nf0
 rw [show decide ((0:Int)<(b:Int))=true by rw [qaD];omega]
 ac_nf0
 rw [zds (by omega)]
 ac_nf0
 rfl
theorem zlu {s0 s1:Option D}: ∀ (k n a b:Nat) (x4:Option D),b<=a->a*b<2^k->k<n-> ∃ y4,zb7 zak zao n [s0,s1,some (.int (a:Int)),some (.int (b:Int)),x4]=pure (.nx [s0,s1,some (.int (Nat.gcd a b:Int)),some (.int 0),y4])
 | k,0,a,b,x4,_,_,h=>by omega
 | k,n+1,a,b,x4,hab,hk,h=>by
  by_cases hb:b=0
  ·subst hb
   exact ⟨x4,by rw [zot,Nat.gcd_zero_right]⟩
  ·cases k with
   | zero=>
    have:1<=a*b:=Nat.mul_pos (by omega) (Nat.pos_of_ne_zero hb)
    omega
   | succ k=>
    obtain ⟨y4,ih⟩:=zlu (s0:=s0) (s1:=s1) k n b (a % b) (some (.int ((a % b:Nat):Int))) (Nat.le_of_lt (Nat.mod_lt a (Nat.pos_of_ne_zero hb))) (euc hb hab hk) (by omega)
    exact ⟨y4,by rw [zo8 hb,ih,zge a b]⟩
theorem zqU {b r:Nat} (hb:b<bb) (h:r<=b):b*r<2^14000:=by
 have h1:b*r<=b*b:=Nat.mul_le_mul_left b h
 have h2:b*b<bb*bb:=Nat.mul_lt_mul'' hb hb
 have h3:bb*bb=2^14000:=by
  unfold bb
  rw [<- Nat.pow_add]
 omega
theorem zmv {s0 s1:Option D} {n:Nat} {a:Int} {b:Nat} {x4:Option D} (hb:b≠0):zb7 zak zao (n+1) [s0,s1,some (.int a),some (.int (b:Int)),x4]=zb7 zak zao n [s0,s1,some (.int (b:Int)),some (.int (((a % (b:Int)).toNat:Nat):Int)),some (.int (((a % (b:Int)).toNat:Nat):Int))]:=by
 have e:(((a % (b:Int)).toNat:Nat):Int)=a % (b:Int):=Int.toNat_of_nonneg (Int.emod_nonneg _ (by omega))
 rw [ze5,e]
 generalize zb7 zak zao n=rest
 simp only [zak,zao]
 ac_nf0
 rw [show decide ((0:Int)<(b:Int))=true by rw [qaD];omega]
 ac_nf0
 rw [zds (by omega)]
 ac_nf0
theorem zrz (a:Int) {b:Nat} (hb:0<b):(a % (b:Int)).toNat<=b:=by
 have h1:=Int.emod_lt_of_pos a (b:=(b:Int)) (by omega)
 have h0:=Int.emod_nonneg a (b:=(b:Int)) (by omega)
 omega
theorem zqp {a:Int} {b:Nat} (h0:0<b) (hb:b<bb):F_3 [.int a,.int (b:Int)]=pure (.int (Nat.gcd a.natAbs b:Int)):=by
 have hr:=zrz a h0
 obtain ⟨y4,ih⟩:=zlu (s0:=some (.int a)) (s1:=some (.int (b:Int))) 14000 19999 b (a % (b:Int)).toNat (some (.int (((a % (b:Int)).toNat:Nat):Int))) hr (zqU hb hr) (by decide)
 have e:zb7 zak zao 20000 [some (.int a),some (.int (b:Int)),some (.int a),some (.int (b:Int)),none]=pure (.nx [some (.int a),some (.int (b:Int)),some (.int (Nat.gcd a.natAbs b:Int)),some (.int 0),y4]):=by
  rw [show (20000:Nat)=19999+1 from rfl,zmv (by omega),ih,zoZ a h0]
 rw [d_3]
 simp only [G_3]
 ac_nf0
 rw [show zhq 20000 zak zao [some (.int a),some (.int (b:Int)),some (.int a),some (.int (b:Int)),none]=zb7 zak zao 20000 [some (.int a),some (.int (b:Int)),some (.int a),some (.int (b:Int)),none] from rfl,e]
 ac_nf0
theorem ztB {a:Int} {b:Nat} (h0:0<b):qD (mkRat a b)= .tup [.int (a / (Nat.gcd a.natAbs b:Int)),.int ((b:Int) / (Nat.gcd a.natAbs b:Int))]:=by
 unfold qD
 rw [Rat.num_mkRat,Rat.den_mkRat,qa5 (by omega),qa5 (by omega),Nat.gcd_comm b,Int.natCast_ediv]
theorem zjq {a:Int} {b:Nat} (h0:0<b) (h1:b<bb):F_2 [.int a,.int (b:Int)]=pure (qD (mkRat a b)):=by
 have g0:=Nat.gcd_pos_of_pos_right a.natAbs h0
 have g1:=Nat.gcd_le_right a.natAbs h0
 rw [ztB h0,d_2]
 simp only [G_2]
 ac_nf0
 rw [zqp h0 h1]
 ac_nf0
 rw [zd6 g0 (by omega),zd6 g0 (by omega)]
 ac_nf0
theorem zoN {s0 s1:Option D} {n a:Nat}:zb7 zaL zaQ (n+1) [s0,s1,some (.int (a:Int)),some (.int ((0:Nat):Int))]=pure (.nx [s0,s1,some (.int (a:Int)),some (.int 0)]):=by
 rw [ze5]
 simp only [zaL]
 ac_nf0
 rfl
theorem zk1 {s0 s1:Option D} {n a b:Nat} (hb:b≠0):zb7 zaL zaQ (n+1) [s0,s1,some (.int (a:Int)),some (.int (b:Int))]=zb7 zaL zaQ n [s0,s1,some (.int (b:Int)),some (.int ((a % b:Nat):Int))]:=by
 rw [ze5]
 generalize zb7 zaL zaQ n=rest
 simp only [zaL,zaQ,zpl]
 ac_nf0
 rw [show decide ((0:Int)<(b:Int))=true by rw [qaD];omega]
 ac_nf0
 rw [zds (by omega)]
 ac_nf0
 rfl
theorem zkS {s0 s1:Option D}: ∀ (k n a b:Nat),b<=a->a*b<2^k->k<n->zb7 zaL zaQ n [s0,s1,some (.int (a:Int)),some (.int (b:Int))]=pure (.nx [s0,s1,some (.int (Nat.gcd a b:Int)),some (.int 0)])
 | k,0,a,b,_,_,h=>by omega
 | k,n+1,a,b,hab,hk,h=>by
  by_cases hb:b=0
  ·subst hb
   rw [zoN,Nat.gcd_zero_right]
  ·cases k with
   | zero=>
    have:1<=a*b:=Nat.mul_pos (by omega) (Nat.pos_of_ne_zero hb)
    omega
   | succ k=>
    have ih:=zkS (s0:=s0) (s1:=s1) k n b (a % b) (Nat.le_of_lt (Nat.mod_lt a (Nat.pos_of_ne_zero hb))) (euc hb hab hk) (by omega)
    rw [zk1 hb,ih,zge a b]
theorem ze9 {a:Int} {b:Nat} (h0:0<b) (h1:b<bb):F_40 [.int a,.int (b:Int)]=pure (qD (mkRat a b)):=by
 have g0:=Nat.gcd_pos_of_pos_right a.natAbs h0
 have g1:=Nat.gcd_le_right a.natAbs h0
 have hr:=Nat.le_of_lt (Nat.mod_lt a.natAbs h0)
 have e:zb7 zaL zaQ 20000 [some (.int a),some (.int (b:Int)),some (.int (a.natAbs:Int)),some (.int (b:Int))]=pure (.nx [some (.int a),some (.int (b:Int)),some (.int (Nat.gcd a.natAbs b:Int)),some (.int 0)]):=by
  rw [show (20000:Nat)=19999+1 from rfl,zk1 (by omega),zkS 14000 19999 b (a.natAbs % b) hr (zqU h1 hr) (by decide),zge a.natAbs b]
 have a1: ∀ z:Int,zq9 [.int z]=pure (.int (z.natAbs:Int)):=fun z=>by
  show pure (D.int (if z<0 then -z else z))=_
  congr 2
  split<;>omega
 rw [ztB h0,d_40]
 simp only [G_40]
 ac_nf0
 rw [zqq]
 ac_nf0
 rw [a1,a1]
 ac_nf0
 rw [Int.natAbs_natCast]
 rw [show zhq 20000 zaL zaQ [some (.int a),some (.int (b:Int)),some (.int (a.natAbs:Int)),some (.int (b:Int))]=zb7 zaL zaQ 20000 [some (.int a),some (.int (b:Int)),some (.int (a.natAbs:Int)),some (.int (b:Int))] from rfl,e]
 ac_nf0
 rw [zd6 g0 (by omega),zd6 g0 (by omega)]
 ac_nf0
theorem zgs {d:D} (k:kn d=true):F_0 [d]=pure (.bl (isI d)):=by
 rw [d_0]
 simp only [G_0,zdm,ziN,zmJ,zaP,pure_bind,bind_assoc,zjR k,zm9 k,zd8,zly]
 cases d<;>simp [isI]
theorem zkk {d:D} (g:sv d):F_41 [d]=pure (.bl (pF d)):=by
 obtain ⟨k,g⟩:=g
 have et:=zd4 k
 rw [d_41]
 simp only [G_41]
 ac_nf0
 rw [et]
 cases d with
 | tup ds=>
  obtain ⟨kd,hb⟩:=g ds rfl
  simp only [isT]
  ac_nf0
  rw [zr3]
  ac_nf0
  match ds,kd,hb with
  | [],_,_=>
   rw [show ((([]:List D).length:Int)==2)=false from rfl]
   ac_nf0
   rfl
  | [x],_,_=>
   rw [show (([x].length:Int)==2)=false from rfl]
   ac_nf0
   cases x<;>rfl
  | x::y::z::r,_,_=>
   rw [show (((x::y::z::r).length:Int)==2)=false by rw [beq_eq_false_iff_ne];simp;omega]
   ac_nf0
   cases x<;>cases y<;>rfl
  | [x,y],kd,hb=>
   have kx:=kd x (by simp)
   have ky:=kd y (by simp)
   rw [show (([x,y].length:Int)==2)=true from rfl]
   ac_nf0
   rw [zfu kx]
   cases x with
   | int a=>
    simp only [isI]
    ac_nf0
    rw [zfu ky]
    cases y with
    | int b=>
     simp only [isI]
     ac_nf0
     have hbb:=hb a b rfl
     by_cases h0:0<b
     ·rw [decide_eq_true h0]
      ac_nf0
      have ef:=ze9 (a:=a) (b:=b.toNat) (by omega) hbb
      rw [show ((b.toNat:Nat):Int)=b by omega] at ef
      rw [ef]
      ac_nf0
      have eq:=zpK [(mkRat a b.toNat).num,((mkRat a b.toNat).den:Int)] [a,b]
      rw [show tI [(mkRat a b.toNat).num,((mkRat a b.toNat).den:Int)]=qD (mkRat a b.toNat) from rfl,show tI [a,b]= .tup [.int a,.int b] from rfl] at eq
      rw [eq]
      ac_nf0
      congr 2
      rw [Bool.eq_iff_iff,beq_iff_eq]
      constructor
      ·intro e
       simp only [List.cons.injEq,and_true] at e
       unfold pF
       rw [qaG,qaD,beq_iff_eq]
       refine ⟨h0,?_⟩
       have hr:=(mkRat a b.toNat).reduced
       have e2:(mkRat a b.toNat).den=b.toNat:=by omega
       rw [e.1,e2] at hr
       exact hr
      ·intro h
       obtain ⟨_,e1,e2⟩:=znf h
       rw [e1,e2]
     ·rw [decide_eq_false h0]
      ac_nf0
      show (pure (D.bl false):M D)=pure (.bl (decide (0<b) && (Nat.gcd a.natAbs b.toNat==1)))
      rw [decide_eq_false h0]
      rfl
    | _=>simp only [isI];ac_nf0;rfl
   | _=>simp only [isI];ac_nf0;cases y<;>rfl
 | _=>simp only [isT];ac_nf0;rfl
theorem znI {d:D} (k:kn d=true):F_1 [d]=pure (.bl (match d with | .tup [_,_]=>true | _=>false)):=by
 have et:=zd4 k
 rw [d_1]
 simp only [G_1]
 ac_nf0
 rw [et]
 cases d with
 | tup ds=>
  simp only [isT]
  ac_nf0
  rw [zid]
  ac_nf0
  match ds with
  | []=>rfl
  | [x]=>rfl
  | [x,y]=>rfl
  | x::y::z::r=>
   rw [show (((x::y::z::r).length:Int)==2)=false by rw [beq_eq_false_iff_ne];simp;omega]
 | _=>simp only [isT];ac_nf0
theorem zdJ {d:D} (g:sv d):F_5 [d]=pure (.bl (pF d)):=by
 obtain ⟨k,g⟩:=g
 have ep:=znI k
 rw [d_5]
 simp only [G_5]
 ac_nf0
 rw [ep]
 cases d with
 | tup ds=>
  obtain ⟨kd,hb⟩:=g ds rfl
  match ds,kd,hb with
  | [],_,_=>ac_nf0;rfl
  | [x],_,_=>ac_nf0;cases x<;>rfl
  | x::y::z::r,_,_=>ac_nf0;cases x<;>cases y<;>rfl
  | [x,y],kd,hb=>
   have kx:=kd x (by simp)
   have ky:=kd y (by simp)
   ac_nf0
   rw [zgs kx]
   cases x with
   | int a=>
    simp only [isI]
    ac_nf0
    rw [zgs ky]
    cases y with
    | int b=>
     simp only [isI]
     ac_nf0
     have hbb:=hb a b rfl
     by_cases h0:0<b
     ·have ef:=zqp (a:=a) (b:=b.toNat) (by omega) hbb
      rw [show ((b.toNat:Nat):Int)=b by omega] at ef
      rw [decide_eq_true h0]
      ac_nf0
      rw [ef]
      ac_nf0
      rw [zid]
      show _=(pure (.bl (decide (0<b) && (Nat.gcd a.natAbs b.toNat==1))):M D)
      rw [decide_eq_true h0,Bool.true_and]
      ac_nf0
      congr 2
      rw [Bool.eq_iff_iff,beq_iff_eq,beq_iff_eq]
      omega
     ·rw [decide_eq_false h0]
      ac_nf0
      show (pure (D.bl false):M D)=pure (.bl (decide (0<b) && (Nat.gcd a.natAbs b.toNat==1)))
      rw [decide_eq_false h0]
      rfl
    | _=>simp only [isI];ac_nf0;rfl
   | _=>simp only [isI];ac_nf0;cases y<;>rfl
 | _=>ac_nf0;rfl
theorem ziI {s0:Option D}: ∀ (rs:List Rat) (A:Int) (B k:Nat) (x3:Option D),Sz A B k rs-> ∃ (A':Int) (B':Nat) (y3:Option D),0<B'/\B'<=2^2000/\mkRat A' B'=rs.foldl (· + ·) (mkRat A B)/\za3 (fun x sd=>zcu (List.set sd 3 (some x))) (rs.map qD) [s0,some (.int A),some (.int (B:Int)),x3]=pure (.nx [s0,some (.int A'),some (.int (B':Int)),y3])
 | [],A,B,k,x3,z=>⟨A,B,x3,z.b0,z.B_le,rfl,rfl⟩
 | r::rs,A,B,k,x3,z=>by
  obtain ⟨A',B',y3,h1,h2,h3,ih⟩:=ziI (s0:=s0) rs _ _ _ (some (qD r)) z.next
  refine ⟨A',B',y3,h1,h2,?_,?_⟩
  ·rw [h3,List.foldl_cons,zcp z.b0]
  ·have hA:=z.A_le
   have hB:=z.B_le
   obtain ⟨d1,d2⟩:=z.d_le
   have hn:=z.r1 r qau
   rw [qaM,zbK, <-ih]
   generalize za3 (fun x sd=>zcu (List.set sd 3 (some x))) (rs.map qD)=rest
   simp only [zcu]
   unfold qD
   ac_nf0
   rw [zgu (zaz (by decide) hA) (by rw [Int.natAbs_natCast];exact zaz (by decide) d2),zgu (zaz (n:=1800) (by decide) hn) (by rw [Int.natAbs_natCast];exact zaz (by decide) hB)]
   ac_nf0
   rw [zgu (by rw [Int.natAbs_natCast];exact zaz (by decide) hB) (by rw [Int.natAbs_natCast];exact zaz (by decide) d2)]
   ac_nf0
   rw [Int.natCast_mul]
noncomputable def qs (rs:List Rat):Rat:=rs.foldl (· + ·) 0
theorem zry:mkRat 0 1=0:=by decide +kernel
theorem zk4 {s0:Option D}: ∀ (rs:List Rat) (A:Int) (B k:Nat) (x3:Option D),Sz A B k rs-> ∃ y3,za3 (fun x sd=>zct (List.set sd 3 (some x))) (rs.map qD) [s0,some (.int (mkRat A B).num),some (.int ((mkRat A B).den:Int)),x3]=pure (.nx [s0,some (.int (rs.foldl (· + ·) (mkRat A B)).num),some (.int ((rs.foldl (· + ·) (mkRat A B)).den:Int)),y3])
 | [],A,B,k,x3,z=>⟨x3,rfl⟩
 | r::rs,A,B,k,x3,z=>by
  obtain ⟨y3,ih⟩:=zk4 (s0:=s0) rs _ _ _ (some (qD r)) z.next
  refine ⟨y3,?_⟩
  have hA:=qaS (zfY A z.b0) z.A_le
  have hd:=zed A z.b0
  have hB:=qaS hd z.B_le
  obtain ⟨d1,d2⟩:=z.d_le
  have hn:=z.r1 r qau
  have hdp:=(mkRat A B).den_pos
  have hbb:(mkRat A B).den*r.den<bb:=Nat.lt_of_le_of_lt (qaS (Nat.mul_le_mul_right _ hd) d1) (qaw (Nat.pow_lt_pow_right (by decide) (by decide:2000<2001)) (zfH (by decide)))
  have ef:=ze9 (a:=(mkRat A B).num*(r.den:Int)+r.num*((mkRat A B).den:Int)) (b:=(mkRat A B).den*r.den) (Nat.mul_pos hdp r.den_pos) hbb
  have er:mkRat ((mkRat A B).num*(r.den:Int)+r.num*((mkRat A B).den:Int)) ((mkRat A B).den*r.den)=mkRat (A*(r.den:Int)+r.num*(B:Int)) (B*r.den):=by
   rw [<- zcp hdp,Rat.mkRat_self,zcp z.b0]
  rw [er,Int.natCast_mul] at ef
  have e2:(r::rs).foldl (· + ·) (mkRat A B)=rs.foldl (· + ·) (mkRat (A*(r.den:Int)+r.num*(B:Int)) (B*r.den)):=by
   rw [List.foldl_cons,zcp z.b0]
  rw [e2,qaM,zbK, <-ih]
  generalize za3 (fun x sd=>zct (List.set sd 3 (some x))) (rs.map qD)=rest
  generalize mkRat (A*(r.den:Int)+r.num*(B:Int)) (B*r.den)=q at ef
  generalize mkRat A B=p at hA hB ef
  simp only [zct]
  unfold qD at ef ⊢
  ac_nf0
  rw [zgu (zaz (by decide) hA) (by rw [Int.natAbs_natCast];exact zaz (by decide) d2),zgu (zaz (n:=1800) (by decide) hn) (by rw [Int.natAbs_natCast];exact zaz (by decide) hB)]
  ac_nf0
  rw [zgu (by rw [Int.natAbs_natCast];exact zaz (by decide) hB) (by rw [Int.natAbs_natCast];exact zaz (by decide) d2)]
  ac_nf0
  rw [ef]
  ac_nf0
structure Rz (rs:List Rat):Prop where
 dp1:dp rs<=2^2000
 ln:rs.length<=12
 r1: ∀ r∈rs,r.num.natAbs<=tt
theorem Rz.sz {rs:List Rat} (z:Rz rs):Sz 0 1 0 rs:=⟨by decide,by rw [Nat.one_mul];exact z.dp1,by simp,by rw [Nat.zero_add];exact z.ln,z.r1⟩
theorem zhX {rs:List Rat} (z:Rz rs) {d:D} (hd:zd7 d=pure (rs.map qD)):F_42 [d]=pure (qD (qs rs)):=by
 obtain ⟨y3,e⟩:=zk4 (s0:=some d) rs 0 1 0 none z.sz
 rw [zry] at e
 rw [show (0:Rat).num=0 from rfl,show (0:Rat).den=1 from rfl] at e
 rw [d_42]
 simp only [G_42]
 unfold qs
 ac_nf0
 rw [hd]
 ac_nf0
 rw [show D.int ((1:Nat):Int)= .int 1 from rfl] at e
 rw [e]
 ac_nf0
 rfl
theorem zmT {rs:List Rat} (z:Rz rs) {d:D} (hd:zd7 d=pure (rs.map qD)):F_6 [d]=pure (qD (qs rs)):=by
 obtain ⟨A',B',y3,h1,h2,h3,e⟩:=ziI (s0:=some d) rs 0 1 0 none z.sz
 rw [zry] at h3
 have hbb:B'<bb:=Nat.lt_of_le_of_lt h2 (qaw (Nat.pow_lt_pow_right (by decide) (by decide:2000<2001)) (zfH (by decide)))
 have er:=zjq (a:=A') h1 hbb
 rw [h3] at er
 rw [d_6]
 simp only [G_6]
 ac_nf0
 rw [hd]
 ac_nf0
 rw [show D.int ((1:Nat):Int)= .int 1 from rfl] at e
 rw [e]
 ac_nf0
 rw [er]
 ac_nf0
 rfl
theorem ziC {a b:List Rat} (h:a.Sublist b):dp a<=dp b:=by
 induction h with
 | slnil=>exact qaV _
 | @cons l1 l2 r _ ih=>
  have h1:1*dp l2<=r.den*dp l2:=Nat.mul_le_mul_right _ r.den_pos
  show dp l1<=r.den*dp l2
  omega
 | @cons_cons l1 l2 r _ ih=>exact Nat.mul_le_mul_left _ ih
noncomputable def pk (rs:List Rat) (ts:List Int):List Rat:=ts.map fun t=>rs.getD t.toNat 0
theorem zni {rs:List Rat} {ts:List Int} (hu:ts.Pairwise (· < ·)) (hb: ∀ t∈ts,0<=t/\t<(rs.length:Int)):(pk rs ts).Sublist rs:=by
 have e:ts=((List.range rs.length).filter fun (k:Nat)=>ts.any (· == (k:Int))).map fun (k:Nat)=>(k:Int):=by
  refine zqx hu ?_ fun t=> ?_
  ·rw [List.pairwise_map]
   exact (List.pairwise_lt_range.filter _).imp fun h=>by omega
  ·rw [qaU]
   constructor
   ·intro ht
    have:=hb t ht
    refine ⟨t.toNat,List.mem_filter.mpr ⟨List.mem_range.mpr (by omega),?_⟩,by omega⟩
    rw [show ((t.toNat:Nat):Int)=t by omega]
    exact zeU.mpr ht
   ·rintro ⟨k,hk,rfl⟩
    exact zeU.mp (List.mem_filter.mp hk).2
 have e2:rs=(List.range rs.length).map fun k=>rs.getD k 0:=by
  refine List.ext_getElem (by simp) fun i h1 h2=> ?_
  simp [List.getD,h1]
 unfold pk
 rw [e,qaT]
 conv=>rhs;rw [e2]
 exact (List.filter_sublist.map _)
theorem Rz.pick {rs:List Rat} (z:Rz rs) {ts:List Int} (hu:ts.Pairwise (· < ·)) (hb: ∀ t∈ts,0<=t/\t<(rs.length:Int)):Rz (pk rs ts):=by
 have hs:=zni hu hb
 exact ⟨qaS (ziC hs) z.dp1,qaS hs.length_le z.ln,fun r hr=>z.r1 r (hs.subset hr)⟩
noncomputable def bB (rs:List Rat) (o:List Int×Int):Bool:= !decide (o.2*((qs (pk rs o.1)).den:Int)<(qs (pk rs o.1)).num)
theorem ziu {rs:List Rat} (z:Rz rs):(qs rs).num.natAbs<2^6000/\(qs rs).den<2^6000:=by
 have key: ∀ (rs:List Rat) (A:Int) (B k:Nat),Sz A B k rs-> ∃ (A':Int) (B':Nat) (k':Nat),Sz A' B' k' []/\mkRat A' B'=rs.foldl (· + ·) (mkRat A B):=by
  intro rs
  induction rs with
  | nil=>exact fun A B k z=>⟨A,B,k,z,rfl⟩
  | cons r rs ih=>
   intro A B k z
   obtain ⟨A',B',k',z',e⟩:=ih _ _ _ z.next
   exact ⟨A',B',k',z',by rw [e,List.foldl_cons,zcp z.b0]⟩
 obtain ⟨A',B',k',z',e⟩:=key rs 0 1 0 z.sz
 rw [zry] at e
 unfold qs
 rw [<- e]
 exact ⟨zaz (n:=3804) (by decide) (qaS (zfY A' z'.b0) z'.A_le),zaz (n:=2000) (by decide) (qaS (zed A' z'.b0) z'.B_le)⟩
theorem zpp {rs:List Rat} {t:Int} (h0:0<=t) (h1:t<(rs.length:Int)):atI (rs.map qD) t=some (qD (rs.getD t.toNat 0)):=by
 have hl:t.toNat<rs.length:=by omega
 have:=zc6 (xs:=rs.map qD) (j:=t.toNat) (v:=qD (rs.getD t.toNat 0)) (by simp [List.getD,hl])
 rw [<- this]
 congr 1
 omega
theorem znW {fi:FA} {src:List (Option Nat)} {sd:Sd} {te:FE} {rs:List Rat} {ts:List Int} (he:te=cOp dIx (zae 1) (zae 0)) (hl:ts.length<=1000) (hb: ∀ t∈ts,0<=t/\t<(rs.length:Int)) (hi:fi sd=pure (ts.map D.int)) (eb:zap src sd=[none,some (.tup (rs.map qD))]):
  zaB fi (zaM 0) (fun _=>pure true) te src sd=pure (.lst ((pk rs ts).map qD)):=by
 unfold pk
 rw [qaT,show ts.map (qD∘fun t=>rs.getD t.toNat 0)=ts.filterMap fun t=>some (qD (rs.getD t.toNat 0)) by simp [Function.comp_def]]
 refine zbu (g':=D.int) hi hl fun t ht=> ?_
 rw [eb,he]
 simp only [za6]
 ac_nf0
 rw [zpp (hb t ht).1 (hb t ht).2]
 ac_nf0
theorem zlR {o:List Int×Int} {rs:List Rat} (z:Rz rs) (hu:o.1.Pairwise (· < ·)) (hb: ∀ t∈o.1,0<=t/\t<(rs.length:Int)) (hl:o.1.length<=12) (hp:o.2.natAbs<2^6000):F_22 [zcV o,.tup (rs.map qD)]=pure (.bl (bB rs o)):=by
 have zp:=z.pick hu hb
 obtain ⟨n1,n2⟩:=ziu zp
 have et:=zmT zp (d:= .lst ((pk rs o.1).map qD)) rfl
 have ec: ∀ {s2:Option D},zaB (iSq (cOp dIx (zae 0) (cK (.int 0)))) (zaM 0) (fun _=>pure true) zeC [none,some 1] [some (.tup [.tup (o.1.map D.int),.int o.2]),some (.tup (rs.map qD)),s2]=pure (.lst ((pk rs o.1).map qD)):=fun {s2}=>znW rfl (by omega) hb (by ac_nf0) rfl
 have el:F_4 [.tup [.int o.2,.int 1],qD (qs (pk rs o.1))]=pure (.bl (decide (o.2*((qs (pk rs o.1)).den:Int)<(qs (pk rs o.1)).num))):=by
  rw [d_4]
  simp only [G_4]
  unfold qD
  ac_nf0
  rw [zgu hp (by rw [Int.natAbs_natCast];exact n2),zgu n1 (by decide +kernel)]
  ac_nf0
  simp only [zr2]
  ac_nf0
  rw [Int.mul_one]
 rw [d_22]
 simp only [G_22]
 unfold zcV tI bB
 generalize (pk rs o.1).map qD=ps at et ec
 generalize qs (pk rs o.1)=q at et el
 ac_nf0
 rw [ec]
 ac_nf0
 rw [et]
 ac_nf0
 rw [el]
 ac_nf0
theorem zif {n:Nat} {s0:Option D}: ∀ (os:List (List Int×Int)) {h:Hh} {xs:List Int} {x2:Option D} {P:Out->Hh->Prop},h[n]? = some (.lst (xs.map D.int))->xs.length+(os.flatMap (·.1)).length<=1000->
  (∀ x2' h',(∀ k,k≠n->h'[k]? = h[k]?)->h'.length=h.length->h'[n]? = some (.lst ((xs++os.flatMap (·.1)).map D.int))->P (.nx [s0,some (.cel n),x2']) h')->
  wp (za3 (fun x sd=>do let sd1<-zaM 2 x sd;za7 sd1) (os.map zcV) [s0,some (.cel n),x2]) h P
 | [],h,xs,x2,P,e,_,k=>by
  rw [List.map_nil,zc2,zar]
  exact k x2 h (fun _ _=>rfl) rfl (by simpa using e)
 | o::os,h,xs,x2,P,e,hl,k=>by
  have hln:=(qac.mp e).1
  rw [List.flatMap_cons,qav] at hl
  have ih:=fun (x2':Option D)=>zif (s0:=s0) (n:=n) os (h:=h.set n (.lst ((xs++o.1).map D.int))) (xs:=xs++o.1) (x2:=x2') (P:=P) (qai hln) (by rw [qav];omega) fun x2'' h' h1 h2 h3=>k x2'' h' (fun j hj=>(h1 j hj).trans (qao (Ne.symm hj))) (h2.trans (qaI ..)) (by rw [h3,List.flatMap_cons,List.append_assoc])
  rw [qaM,zbK]
  generalize za3 (fun x sd=>do let sd1<-zaM 2 x sd;za7 sd1) (os.map zcV)=rest at ih ⊢
  have f:=zaD (show (xs.map D.int).length+(o.1.map D.int).length<=1000 by rw [qaH,qaH];omega)
  simp only [qaH] at f
  simp only [za7]
  ac_nf0
  simp only [zas,zdp e,zar,qaH,f,ziJ, <-List.map_append]
  exact ih _
theorem zqv {d:D} {os:List (List Int×Int)} {m:Int} (hd:zd7 d=pure (os.map zcV)) (m0:0<=m) (m1:m<=60) (hl:(os.flatMap (·.1)).length<=1000) (b: ∀ o∈os, ∀ x∈o.1,0<=x/\x<m):Ev (F_19 [d]) (tI (zfD (os.flatMap (·.1)))):=by
 refine .of_wp fun h=> ?_
 rw [d_19]
 simp only [G_19]
 ac_nf0
 simp only [hd,zar]
 refine zif os (xs:=[]) (by simp) (by simpa using hl) fun x2 h' h1 h2 h3=> ?_
 ac_nf0
 have bb: ∀ x∈os.flatMap (·.1),0<=x/\x<m:=fun x hx=>by
  obtain ⟨o,ho,hx⟩:=List.mem_flatMap.mp hx
  exact b o ho x hx
 refine zhc (by simpa using h3) (zhJ m0 m1 bb) (by omega) ?_
 ac_nf0
 refine ⟨trivial,⟨[.lst ((os.flatMap (·.1)).map D.int)],List.ext_getElem? fun j=> ?_⟩⟩
 by_cases hj:j=h.length
 ·subst hj
  rw [h3]
  simp
 ·rw [h1 j hj]
  by_cases hlt:j<h.length
  ·rw [qad hlt,qad hlt]
  ·rw [List.getElem?_eq_none (by simp;omega),List.getElem?_eq_none (by simp;omega)]
theorem zlL {os:List (List Int×Int)} {n:Nat} (h: ∀ o∈os,o.1.length<=n):(os.flatMap (·.1)).length<=os.length*n:=by
 induction os with
 | nil=>simp
 | cons o r ih=>
  rw [List.flatMap_cons,qav,qaE,Nat.succ_mul]
  have a1:=h o qau
  have a2:=ih fun x hx=>h x (qan _ hx)
  omega
theorem ziS (s:Stk m os) {s1:Option D}: ∀ (ls fs:List Int) (x3:Option D),(∀ x∈ls,0<=x/\x<os.length)->fs.Nodup->(∀ x∈fs,0<=x/\x<m)->
  ∃ (gs:List Int) (x3':Option D),za3 (fun x sd=>do let sd1<-zaM 3 x sd;zdn sd1) (ls.map D.int) [some (zbq m os),s1,some (.lst (fs.map D.int)),x3]=pure (.nx [some (zbq m os),s1,some (.lst (gs.map D.int)),x3'])/\gs.Nodup/\(∀ x∈gs,0<=x/\x<m)/\ ∀ k,k∈gs↔k∈fs\/k∈(zcU os ls).flatMap (·.1)
 | [],fs,x3,_,hn,hb=>⟨fs,x3,rfl,hn,hb,fun k=>by simp [zcU]⟩
 | i::r,fs,x3,hl,hn,hb=>by
  have hi:=hl i qau
  have ho:os.getD i.toNat ([],0)∈os:=by
   have h1:i.toNat<os.length:=by omega
   simp [List.getD,h1]
  generalize eo:os.getD i.toNat ([],0)=o at ho
  have m0:=s.m0
  have m1:=s.m1
  have hnew:(fs++o.1.filter fun t=> !fs.any (· == t)).Nodup:=by
   rw [List.nodup_append]
   refine ⟨hn,((s.up o ho).imp fun z=>by omega).filter _,fun a ha b hb e=> ?_⟩
   subst e
   have:=(List.mem_filter.mp hb).2
   simp at this
   exact this a ha rfl
  have hbn: ∀ x∈fs++o.1.filter fun t=> !fs.any (· == t),0<=x/\x<m:=fun x hx=>(qaK.mp hx).elim (hb x) fun z=>s.bd o ho x (List.mem_filter.mp z).1
  obtain ⟨gs,y3,ih,g1,g2,g3⟩:=ziS s r (fs++o.1.filter fun t=> !fs.any (· == t)) (some (.int i)) (fun x hx=>hl x (qan _ hx)) hnew hbn
  refine ⟨gs,y3,?_,g1,g2,fun k=> ?_⟩
  ·rw [qaM,zbK, <-ih]
   have ec:zaB (iSq (cOp dIx (cOp dIx (cOp dIx (zae 0) (cK (.int 1))) (zae 3)) (cK (.int 0)))) (zaM 0) zdl zdv [none,some 2] [some (zbq m os),s1,some (.lst (fs.map D.int)),some (.int i)]=pure (.lst ((o.1.filter fun t=> !fs.any (· == t)).map D.int)):=by
    rw [<- zcK (k:=fun d=>match d with | .int t=>if (!fs.any (· == t))=true then some (.int t) else none | d=>none) fun _=>rfl]
    refine zcS ?_ (by rw [qaH];have:=s.olen o ho;omega) ?_
    ·simp only [zbq]
     ac_nf0
     rw [zey hi.1 hi.2,eo]
     ac_nf0
    ·intro x hx
     obtain ⟨t,_,rfl⟩:=qaU.mp hx
     have eb:zap [none,some 2] [some (zbq m os),s1,some (.lst (fs.map D.int)),some (.int i)]=[none,some (.lst (fs.map D.int))]:=rfl
     rw [eb]
     simp only [za6,zdl,zdv]
     ac_nf0
     rw [zcf]
     ac_nf0
     split<;>rfl
   simp only [zdn]
   ac_nf0
   rw [ec]
   have f1:=zfv (by omega) hnew hbn
   rw [qav] at f1
   have f:=zaD (show fs.length+(o.1.filter fun t=> !fs.any (· == t)).length<=1000 by omega)
   ac_nf0
   simp only [zm5,qaH,f]
   ac_nf0
   rw [List.map_append]
  ·rw [g3 k]
   have eo2:zcU os (i::r)=o::zcU os r:=by unfold zcU;rw [qaM,eo]
   rw [eo2,List.flatMap_cons,qaK,qaK,List.mem_filter]
   constructor
   ·rintro ((h | h) | h)
    ·exact .inl h
    ·exact .inr (.inl h.1)
    ·exact .inr (.inr h)
   ·rintro (h | h | h)
    ·exact .inl (.inl h)
    ·by_cases c:k∈fs
     ·exact .inl (.inl c)
     ·exact .inl (.inr ⟨h,by simp;exact fun x hx e=>c (e▸hx)⟩)
    ·exact .inr h
theorem zqd (s:Stk m os) {ls:List Int} (b: ∀ x∈ls,0<=x/\x<os.length):F_38 [zbq m os,.lst (ls.map D.int)]=pure (tI (zfD ((zcU os ls).flatMap (·.1)))):=by
 obtain ⟨gs,x3,el,g1,g2,g3⟩:=ziS s (s1:=some (.lst (ls.map D.int))) ls [] none b .nil (fun x hx=>by cases hx)
 have:=s.m0
 have:=s.m1
 have hl:=zfv (by omega) g1 g2
 rw [d_38]
 simp only [G_38]
 simp only [List.map_nil,zde,pure_bind] at el
 ac_nf0
 rw [el]
 ac_nf0
 rw [zhw (by omega)]
 ac_nf0
 have e3: ∀ k,k∈gs↔k∈(zcU os ls).flatMap (·.1):=fun k=>by rw [g3 k];simp
 rw [zhD g1 e3]
theorem zgY {C1:FT} {E1:FE} (hC:C1=zne (zbM zbY (zae 0) (zae 1)) (zbM zbY (zae 0) (zae 2))) (hE:E1=zae 0) (s:Stk m os) {tk ot:List Int} {d1 d2:D} (n1: ∀ k:Int,zbY (.int k) d1=pure (.bl (!tk.any (· == k)))) (n2: ∀ k:Int,zbY (.int k) d2=pure (.bl (!ot.any (· == k)))):
  zaB (zhE (zab (zau zek (zab (cOp dIx (zae 0) (cK (.int 1))) zai)) zai)) (zaM 0) C1 E1 [none,some 1,some 2] [some (zbq m os),some d1,some d2]=pure (.lst ((frL os tk ot).map D.int)):=by
 have ol:=s.len
 subst hC hE
 unfold frL
 rw [<- zcn]
 refine zbu (g':=D.int) (by
   ac_nf0
   rw [zmP]
   ac_nf0
   rw [zcY (by omega) (by omega),zdx]
   rfl) (by simp [rgI];omega) fun x hx=> ?_
 rw [show zap [none,some 1,some 2] [some (zbq m os),some d1,some d2]=[none,some d1,some d2] from rfl]
 simp only [za6]
 ac_nf0
 rw [n1]
 ac_nf0
 rw [n2]
 cases tk.any (· == x)<;>ac_nf0<;>cases ot.any (· == x)<;>ac_nf0<;>rfl
theorem zkD (s:Stk m os) {tk ot:List Int}:F_26 [zbq m os,tI tk,tI ot]=pure (.lst ((frL os tk ot).map D.int)):=by
 rw [d_26]
 simp only [G_26]
 have ec:=zgY (C1:=zdr) (E1:=zdi) rfl rfl s (tk:=tk) (ot:=ot) (d1:=tI tk) (d2:=tI ot) (fun k=>zco k tk) fun k=>zco k ot
 simp only [tI] at ec ⊢
 ac_nf0
 rw [ec]
 ac_nf0
theorem zei (s:Stk m os) {tk ot:List Int}:F_43 [zbq m os,.lst (tk.map D.int),.lst (ot.map D.int)]=pure (.lst ((frL os tk ot).map D.int)):=by
 rw [d_43]
 simp only [G_43]
 have ec:=zgY (C1:=zdS) (E1:=zdZ) rfl rfl s (tk:=tk) (ot:=ot) (d1:= .lst (tk.map D.int)) (d2:= .lst (ot.map D.int)) (fun k=>zcf k tk) fun k=>zcf k ot
 ac_nf0
 rw [ec]
 ac_nf0
theorem zqS (s:Stk m os) {tk:List Int} (h:Tk os tk):Ev (F_27 [zbq m os,tI tk]) (tI (zd0 os tk)):=by
 have ol:=s.len
 have m0:=s.m0
 have m1:=s.m1
 have tl:=h.len
 have hm:=zfx h.bd
 have ec:zaB (iSq (zae 1)) (zaM 0) (fun _=>pure true) zbT [none,some 0] [some (zbq m os),some (tI tk)]=pure (.lst ((zcU os tk).map zcV)):=by
  rw [zbu (g':=D.int) (xs:=tk) (k:=fun i=>some (zcV (os.getD i.toNat ([],0)))) (by ac_nf0) (by omega) fun x hx=> ?_]
  ·congr 2
   unfold zcU
   rw [qaT]
   exact congrFun List.filterMap_eq_map' _
  ·rw [show zap [none,some 0] [some (zbq m os),some (tI tk)]=[none,some (zbq m os)] from rfl]
   simp only [za6,zbT]
   ac_nf0
   rw [zmP]
   ac_nf0
   rw [zey (h.bd x hx).1 (h.bd x hx).2]
   ac_nf0
 have fl:=zlL (os:=zcU os tk) (n:=10) fun o ho=>s.olen o (hm o ho)
 have el:(zcU os tk).length=tk.length:=by unfold zcU;rw [qaH]
 have et:=zqv (d:= .lst ((zcU os tk).map zcV)) (os:=zcU os tk) (m:=m) rfl (by omega) (by omega) (by omega) fun o ho=>s.bd o (hm o ho)
 rw [d_27]
 simp only [G_27]
 simp only [tI] at ec
 have e1:(do let o<-zbg (zau (zaj 1 F_19) (zab (zaB (iSq (zae 1)) (zaM 0) (fun _=>pure true) zbT [none,some 0]) zai)) [some (zbq m os),some (tI tk)];zcw o)=(F_19 [.lst ((zcU os tk).map zcV)]>>=fun d=>pure d):=by
  ac_nf0
  rw [ec]
  ac_nf0
 rw [e1]
 exact et.bind .pure
theorem zkO (s:Stk m os) {tk:List Int} (h:Tk os tk):F_38 [zbq m os,.lst (tk.map D.int)]=pure (tI (zd0 os tk)):=zqd s h.bd
theorem ziw {E1:FE} (hE:E1=cOp dIx (cOp dIx (cOp dIx (zae 1) (cK (.int 1))) (zae 0)) (cK (.int 1))) {tk:List Int} (h:Tk os tk) (hl:os.length<=12) {d:D} (hd:zd7 d=pure (tk.map D.int)):
  zaB (iSq (zae 1)) (zaM 0) (fun _=>pure true) E1 [none,some 0] [some (zbq m os),some d]=pure (.lst ((tk.map fun i=>(os.getD i.toNat ([],0)).2).map D.int)):=by
 have tl:=h.len
 subst hE
 rw [zbu (g':=D.int) (xs:=tk) (k:=fun i=>some (.int (os.getD i.toNat ([],0)).2)) (by ac_nf0;rw [hd]) (by omega) fun x hx=> ?_]
 ·congr 2
  rw [qaT]
  exact congrFun List.filterMap_eq_map' _
 ·rw [show zap [none,some 0] [some (zbq m os),some d]=[none,some (zbq m os)] from rfl]
  simp only [za6]
  ac_nf0
  rw [zmP]
  ac_nf0
  rw [zey (h.bd x hx).1 (h.bd x hx).2]
  ac_nf0
theorem zn0 (s:Stk m os) {tk:List Int} (h:Tk os tk):F_28 [zbq m os,tI tk]=pure (.int (pr os tk)):=by
 have ec:=ziw (m:=m) (E1:=zeH) rfl h s.len (d:=tI tk) rfl
 rw [d_28]
 simp only [G_28]
 simp only [tI] at ec ⊢
 ac_nf0
 rw [ec]
 ac_nf0
 rw [zkl]
 ac_nf0
 rfl
theorem zmy (s:Stk m os) {tk:List Int} (h:Tk os tk):F_39 [zbq m os,.lst (tk.map D.int)]=pure (.int (pr os tk)):=by
 have ec:=ziw (m:=m) (E1:=zdE) rfl h s.len (d:= .lst (tk.map D.int)) rfl
 rw [d_39]
 simp only [G_39]
 ac_nf0
 rw [ec]
 ac_nf0
 rw [zkl]
 ac_nf0
 rfl
structure Oz (n:Nat) (o:List Int×Int):Prop where
 up:o.1.Pairwise (· < ·)
 bd: ∀ t∈o.1,0<=t/\t<(n:Int)
 ln:o.1.length<=12
 pp:o.2.natAbs<2^6000
noncomputable def zef:D->Rat
 | .tup [.int a,.int b]=>mkRat a b.toNat
 | _=>0
theorem zro {d:D} (h:pS d=true): ∃ a b:Int,d= .tup [.int a,.int b]/\pF d=true/\0<=a/\d=qD (zef d):=by
 unfold pS at h
 split at h
 ·rename_i a b
  rw [qaG,qaD] at h
  exact ⟨a,b,rfl,h.1,h.2,(znf h.1).1⟩
 ·cases h
theorem zm0 {d:D} (h:pF d=true): ∃ a b:Int,d= .tup [.int a,.int b]:=by
 unfold pF at h
 split at h
 ·exact ⟨_,_,rfl⟩
 ·cases h
theorem zpE {d:D} (h:pF d=false):pS d=false:=by
 unfold pS
 split
 ·rename_i a b
  have h:(decide (0<b) && (Nat.gcd a.natAbs b.toNat==1))=false:=h
  rw [h]
  rfl
 ·rfl
theorem zo9 {a b:Int} (h:pF (.tup [.int a,.int b])=true):pS (.tup [.int a,.int b])=decide (0<=a):=by
 have h:(decide (0<b) && (Nat.gcd a.natAbs b.toNat==1))=true:=h
 show (decide (0<b) && (Nat.gcd a.natAbs b.toNat==1) && decide (0<=a))=_
 rw [h,Bool.true_and]
theorem zh6: ∀ {ds:List D},ds.all pS=true->ds=(ds.map zef).map qD
 | [],_=>rfl
 | d::r,h=>by
  rw [List.all_cons,qaG] at h
  obtain ⟨_,_,_,_,_,e⟩:=zro h.1
  rw [qaM,qaM, <-e, <-zh6 h.2]
def gt (d:D):Prop:=kn d=true/\ ∀ ds,d= .tup ds->ds.length<=60/\(∀ x∈ds,sv x)/\(ds.all pS=true->Rz (ds.map zef))
theorem zlk {d:D} (g:sv d):(zbS [some d]:M D)=pure (.bl (pS d)):=by
 have ef:=zkk g
 simp only [zbS]
 ac_nf0
 rw [ef]
 ac_nf0
 cases hp:pF d with
 | false=>
  rw [zpE hp]
  ac_nf0
 | true=>
  obtain ⟨a,b,rfl⟩:=zm0 hp
  rw [zo9 hp]
  ac_nf0
  rw [zsS]
theorem zmx {d:D} (g:sv d):F_21 [d]=pure (.bl (pS d)):=by
 have ef:=zdJ g
 rw [d_21]
 simp only [G_21]
 ac_nf0
 rw [ef]
 ac_nf0
 cases hp:pF d with
 | false=>
  rw [zpE hp]
  ac_nf0
 | true=>
  obtain ⟨a,b,rfl⟩:=zm0 hp
  rw [zo9 hp]
  ac_nf0
  rw [zsS]
  ac_nf0
theorem zfy {fi:FA} {sd:Sd} {te:FE} {ds:List D} (hi:fi sd=pure ds) (hl:ds.length<=60) (he: ∀ x∈ds,te [some x]=pure (.bl (pS x))):zaB fi (zaM 0) (fun _=>pure true) te [none] sd=pure (.lst ((ds.map pS).map D.bl)):=by
 rw [zgP (ds:=ds) (k:=fun d=> .bl (pS d)) hi (by omega) ?_]
 ·rw [qaT]
  rfl
 ·intro x hx
  rw [show zap [none] sd=[none] from rfl]
  simp only [za6]
  ac_nf0
  rw [he x hx]
  ac_nf0
theorem all_map (ds:List D):((ds.map pS).all id)=ds.all pS:=by
 rw [List.all_map]
 rfl
theorem zsn {q:Rat} (h:q.den<2^6000):sv (qD q):=⟨rfl,fun ds e=>by
  unfold qD at e
  cases e
  refine ⟨fun x hx=> ?_,fun a b e=> ?_⟩
  · simp only [qaP,qaF,or_false] at hx
    rcases hx with rfl | rfl<;>rfl
  · simp only [List.cons.injEq,D.int.injEq,and_true] at e
    rw [<- e.2,qaB]
    exact qaw h (zfH (by decide))⟩
theorem zsm (a b:Rat):decide (a.num*(b.den:Int)<b.num*(a.den:Int))=decide (a<b):=by
 rw [decide_eq_decide]
 exact (Rat.lt_iff a b).symm
theorem znR (r:Rat):zef (qD r)=r:=by
 show mkRat r.num ((r.den:Int).toNat)=r
 rw [qaB,Rat.mkRat_self]
theorem ziv (rs:List Rat):(rs.map qD).map zef=rs:=by
 rw [qaT]
 conv=>rhs;rw [<- List.map_id rs]
 exact List.map_congr_left fun r _=>znR r
theorem zgA: ∀ (xs:List Rat) (a:Rat),xs.foldl (· + ·) a=a+xs.foldl (· + ·) 0
 | [],a=>by rw [List.foldl_nil,List.foldl_nil,Rat.add_zero]
 | x::r,a=>by
  rw [List.foldl_cons,List.foldl_cons,zgA r (a+x),zgA r (0+x),Rat.zero_add,Rat.add_assoc]
theorem zmR:qs []=0:=rfl
theorem zgk (x:Rat) (r:List Rat):qs (x::r)=x+qs r:=by
 unfold qs
 rw [List.foldl_cons,Rat.zero_add,zgA]
theorem zpD (rs:List Rat) (p:Int):dp (rs++[(p:Rat)])=dp rs:=by
 induction rs with
 | nil=>show (p:Rat).den*1=1;rw [Rat.den_intCast]
 | cons r rs ih=>show r.den*dp (rs++[(p:Rat)])=r.den*dp rs;rw [ih]
theorem Rz.more {rs:List Rat} (z:Rz rs) {p:Int} (hl:rs.length<=11) (hp:p.natAbs<=2^80):Rz (rs++[(p:Rat)]) where
 dp1:=by rw [zpD];exact z.dp1
 ln:=by rw [qav,List.length_singleton];omega
 r1:=fun r hr=>by
  rcases qaK.mp hr with h | h
  ·exact z.r1 r h
  ·rw [List.mem_singleton.mp h,Rat.num_intCast]
   exact qaS hp (Nat.pow_le_pow_right (by decide) (by decide))
theorem zqw (hp: ∀ o∈os,0<o.2/\o.2<2^64): ∀ {tk:List Int},(∀ x∈tk,0<=x/\x<(os.length:Int))->tk.length<=60->0<=pr os tk/\pr os tk<=tk.length*2^64
 | [],_,_=>⟨Int.le_refl _,by simp [pr]⟩
 | x::r,h,hl=>by
  have ih:=zqw hp (tk:=r) (fun y hy=>h y (qan _ hy)) (by simp at hl;omega)
  have hx:=h x qau
  have hl':x.toNat<os.length:=by omega
  have ho:os.getD x.toNat ([],0)∈os:=by simp [List.getD,hl']
  have h2:=hp _ ho
  have e:pr os (x::r)=(os.getD x.toNat ([],0)).2+pr os r:=by simp [pr]
  rw [e,qaE]
  generalize (os.getD x.toNat ([],0)).2=p at h2
  generalize pr os r=q at ih
  omega
structure Pz (m:Int) (os:List (List Int×Int)):Prop where
 s:Stk m os
 p: ∀ o∈os,o.2<2^64
theorem Pz.pr {m:Int} {os:List (List Int×Int)} (P:Pz m os) {tk:List Int} (h:Tk os tk):(L3.pr os tk).natAbs<=2^80:=by
 have hl:=h.len
 have ol:=P.s.len
 have:=zqw (os:=os) (fun o ho=>⟨P.s.pos o ho,P.p o ho⟩) h.bd (by omega)
 omega
theorem Pz.off {m:Int} {os:List (List Int×Int)} (P:Pz m os) {n:Nat} (hn:n=m.toNat) {j:Int} (hj:0<=j/\j<(os.length:Int)):Oz n (os.getD j.toNat ([],0)):=by
 have hl':j.toNat<os.length:=by omega
 have ho:os.getD j.toNat ([],0)∈os:=by simp [List.getD,hl']
 generalize os.getD j.toNat ([],0)=o at ho
 have m0:=P.s.m0
 refine ⟨P.s.up o ho,fun t ht=>by have:=P.s.bd o ho t ht;omega,by have:=P.s.olen o ho;omega,?_⟩
 have h1:=P.s.pos o ho
 have h2:=P.p o ho
 have h3:o.2.natAbs<=2^64:=by omega
 exact zaz (n:=64) (by decide) h3
noncomputable def bq (os:List (List Int×Int)) (tk ot:List Int) (rs:List Rat):Bool:=(zd0 os tk).all (fun t=>rs.getD t.toNat 0==0) && (frL os tk ot).all fun j=>bB rs (os.getD j.toNat ([],0))
noncomputable def shB (m:Int):D->Bool
 | .tup ds=>(ds.length:Int)==m && ds.all pS
 | _=>false
noncomputable def zg2 (m:Int) (os:List (List Int×Int)) (tk ot:List Int) (d:D):Option Rat:=match d with
 | .tup ds=>if (shB m (.tup ds) && bq os tk ot (ds.map zef))=true then some (qs (ds.map zef++[((L3.pr os tk:Int):Rat)])) else none
 | _=>none
theorem zld {d:D} (g:gt d):F_20 [d,.int m]=pure (.bl (shB m d)):=by
 obtain ⟨k,g⟩:=g
 have et:=zd4 k
 rw [d_20]
 simp only [G_20]
 ac_nf0
 rw [et]
 cases d with
 | tup ds=>
  obtain ⟨hl,hs,hz⟩:=g ds rfl
  simp only [isT]
  ac_nf0
  rw [zr3]
  have ec:zaB (iSq (zae 0)) (zaM 0) (fun _=>pure true) zcF [none] [some (.tup ds),some (.int m)]=pure (.lst ((ds.map pS).map D.bl)):=zfy (by ac_nf0) hl fun x hx=>by
   simp only [zcF]
   ac_nf0
   exact zmx (hs x hx)
  cases hm:((ds.length:Int)==m) with
  | false=>
   ac_nf0
   simp only [shB,hm,Bool.false_and]
  | true=>
   ac_nf0
   rw [ec]
   ac_nf0
   rw [zhA,all_map]
   ac_nf0
   simp only [shB,hm,Bool.true_and]
 | _=>simp only [isT];ac_nf0;rfl
theorem zic {d:D} (g:gt d) (h:shB m d=true): ∃ rs:List Rat,d= .tup (rs.map qD)/\Rz rs/\(rs.length:Int)=m:=by
 cases d with
 | tup ds=>
  rw [shB,qaG,beq_iff_eq] at h
  exact ⟨ds.map zef,by rw [<- zh6 h.2],(g.2 ds rfl).2.2 h.2,by rw [qaH];exact h.1⟩
 | _=>cases h
theorem zfA {tk ot:List Int} {rs:List Rat} (h:shB m (.tup (rs.map qD))=true):zg2 m os tk ot (.tup (rs.map qD))=if bq os tk ot rs=true then some (qs (rs++[((L3.pr os tk:Int):Rat)])) else none:=by
 unfold zg2
 simp only [h,Bool.true_and,ziv]
theorem zou {v r:Rat} (hv:v.num.natAbs<2^6000/\v.den<2^6000) (hr:r.num.natAbs<2^6000/\r.den<2^6000):F_4 [qD v,qD r]=pure (.bl (decide (v<r))):=by
 rw [d_4]
 simp only [G_4]
 unfold qD
 ac_nf0
 rw [zgu hv.1 (by rw [Int.natAbs_natCast];exact hr.2),zgu hr.1 (by rw [Int.natAbs_natCast];exact hv.2)]
 ac_nf0
 simp only [zr2]
 ac_nf0
 rw [zsm]
def szR (r:Rat):Prop:=r.num.natAbs<2^6000/\r.den<2^6000
noncomputable def shw (r:Rat):Option Rat->Bool
 | some v=> !decide (v<r)
 | none=>false
theorem ziU (P:Pz m os) {tk:List Int} (h:Tk os tk): ∀ t∈zd0 os tk,0<=t/\t<m:=fun t ht=>by
 unfold zd0 at ht
 obtain ⟨o,ho,hx⟩:=List.mem_flatMap.mp (zdX.mp ht)
 exact P.s.bd o (zfx h.bd o ho) t hx
theorem zk5 (P:Pz m os) {tk:List Int} (h:Tk os tk):(zd0 os tk).length<=10:=by
 have m0:=P.s.m0
 have m1:=P.s.m1
 have:=zkZ (m:=m) (by omega) (zgr _) (ziU P h)
 unfold zd0 at*
 omega
theorem zmw (P:Pz m os) {tk ot:List Int} (ht:Tk os tk) {r:Rat} (hr:szR r) {d:D} (g:gt d):Ev (F_25 [zbq m os,qD r,d,tI tk,tI ot]) (.bl (shw r (zg2 m os tk ot d))):=by
 have m0:=P.s.m0
 have m1:=P.s.m1
 have ol:=P.s.len
 have es:=zld (m:=m) g
 refine .of_wp fun h=> ?_
 rw [d_25]
 simp only [G_25]
 ac_nf0
 rw [zr7]
 ac_nf0
 rw [es]
 ac_nf0
 cases hs:shB m d with
 | false=>
  ac_nf0
  refine ⟨?_,.refl⟩
  have:zg2 m os tk ot d=none:=by
   unfold zg2
   split
   ·rw [hs];rfl
   ·rfl
  rw [this]
  rfl
 | true=>
  obtain ⟨rs,rfl,z,hl⟩:=zic g hs
  rw [zfA hs]
  have hb:=ziU P ht
  have hlen:=zk5 P ht
  have fl:=zlo (os:=os) (tk:=tk) (ot:=ot)
  have e1: ∀ {s0 s1 s3 s4 s5:Option D} {fi:FA} (hi:fi [s0,s1,some (.tup (rs.map qD)),s3,s4,s5]=pure ((zd0 os tk).map D.int)),zaB fi (zaM 0) (fun _=>pure true) zbz [none,some 2] [s0,s1,some (.tup (rs.map qD)),s3,s4,s5]=pure (.lst (((zd0 os tk).map fun t=> !(rs.getD t.toNat 0==0)).map D.bl)):=fun {s0 s1 s3 s4 s5 fi} hi=>by
   rw [zbu (g':=D.int) (xs:=zd0 os tk) (k:=fun t=>some (.bl (!(rs.getD t.toNat 0==0)))) hi (by omega) fun t hx=> ?_]
   ·congr 2
    rw [qaT]
    exact congrFun List.filterMap_eq_map' _
   ·rw [show zap [none,some 2] [s0,s1,some (.tup (rs.map qD)),s3,s4,s5]=[none,some (.tup (rs.map qD))] from rfl]
    simp only [za6,zbz]
    ac_nf0
    rw [zpp (hb t hx).1 (by have:=hb t hx;omega)]
    ac_nf0
    rw [zm2]
    ac_nf0
  have e2: ∀ {s1 s3 s4 s5:Option D} {fi:FA} (hi:fi [some (zbq m os),s1,some (.tup (rs.map qD)),s3,s4,s5]=pure ((frL os tk ot).map D.int)),zaB fi (zaM 0) (fun _=>pure true) zb3 [none,some 0,some 2] [some (zbq m os),s1,some (.tup (rs.map qD)),s3,s4,s5]=pure (.lst (((frL os tk ot).map fun j=>bB rs (os.getD j.toNat ([],0))).map D.bl)):=fun {s1 s3 s4 s5 fi} hi=>by
   rw [zbu (g':=D.int) (xs:=frL os tk ot) (k:=fun j=>some (.bl (bB rs (os.getD j.toNat ([],0))))) hi (by omega) fun j hx=> ?_]
   ·congr 2
    rw [qaT]
    exact congrFun List.filterMap_eq_map' _
   ·have hj:=zhF j hx
    have oz:=P.off (n:=rs.length) (by omega) hj
    have eb:=zlR z oz.up oz.bd oz.ln oz.pp
    rw [show zap [none,some 0,some 2] [some (zbq m os),s1,some (.tup (rs.map qD)),s3,s4,s5]=[none,some (zbq m os),some (.tup (rs.map qD))] from rfl]
    simp only [za6,zb3]
    ac_nf0
    rw [zmP]
    ac_nf0
    rw [zey hj.1 hj.2]
    ac_nf0
    simp only [zcV,tI] at eb
    rw [eb]
    ac_nf0
  have hd:=zqS P.s ht
  have hf:=zkD P.s (tk:=tk) (ot:=ot)
  have hpd:=zn0 P.s ht
  have z2:=z.more (p:=L3.pr os tk) (by omega) (P.pr ht)
  have et:=zmT z2 (d:= .tup ((rs++[((L3.pr os tk:Int):Rat)]).map qD)) rfl
  have el:=zou (ziu z2) hr
  have eq:(rs++[((L3.pr os tk:Int):Rat)]).map qD=rs.map qD++[D.tup [.int (L3.pr os tk),.int 1]]:=by rw [List.map_append,List.map_singleton,zoS]
  rw [eq] at et
  simp only [tI] at hd hf hpd
  ac_nf0
  rw [zkE (te:=zbz)]
  ac_nf0
  refine hd.wp fun h1 g1=> ?_
  rw [e1 (by ac_nf0),zar,zo4]
  ac_nf0
  have ea:((zd0 os tk).map fun t=> !(rs.getD t.toNat 0==0)).any id= !(zd0 os tk).all fun t=>rs.getD t.toNat 0==0:=by
   generalize zd0 os tk=l
   induction l with
   | nil=>rfl
   | cons x r ih=>rw [qaM,List.any_cons,ih,List.all_cons,Bool.not_and];rfl
  rw [ea]
  have ebq:bq os tk ot rs=((zd0 os tk).all (fun t=>rs.getD t.toNat 0==0) && (frL os tk ot).all fun j=>bB rs (os.getD j.toNat ([],0))):=rfl
  cases ha:(zd0 os tk).all fun t=>rs.getD t.toNat 0==0 with
  | false=>
   rw [ebq,ha,Bool.false_and]
   ac_nf0
   exact ⟨rfl,g1⟩
  | true=>
   rw [ebq,ha,Bool.true_and]
   ac_nf0
   rw [e2 (by ac_nf0;rw [hf];ac_nf0),zar,zhA,List.all_map]
   ac_nf0
   have eb2:(frL os tk ot).all (id∘fun j=>bB rs (os.getD j.toNat ([],0)))=(frL os tk ot).all fun j=>bB rs (os.getD j.toNat ([],0)):=rfl
   rw [eb2]
   cases hb2:(frL os tk ot).all fun j=>bB rs (os.getD j.toNat ([],0)) with
   | false=>
    ac_nf0
    exact ⟨rfl,g1⟩
   | true=>
    ac_nf0
    rw [hpd]
    ac_nf0
    rw [zaD (show rs.length+1<=1000 by omega)]
    ac_nf0
    rw [et]
    ac_nf0
    rw [el]
    ac_nf0
    exact ⟨rfl,g1⟩
theorem zj9 (P:Pz m os) {rs:List Rat} (z:Rz rs) (hl:(rs.length:Int)=m) {x0:D} {s2 s3 s4 s8 s9:Option D}: ∀ (js:List Int) (x5 x6 x7:Option D),(∀ j∈js,0<=j/\j<(os.length:Int))->
  (js.all (fun j=>bB rs (os.getD j.toNat ([],0)))=true-> ∃ y5 y6 y7,za3 (fun x sd=>do let sd1<-zaM 5 x sd;zbs sd1) (js.map D.int) [some (zbq m os),some (.tup [x0,.tup (rs.map qD)]),s2,s3,s4,x5,x6,x7,s8,s9]=pure (.nx [some (zbq m os),some (.tup [x0,.tup (rs.map qD)]),s2,s3,s4,y5,y6,y7,s8,s9]))/\
  (js.all (fun j=>bB rs (os.getD j.toNat ([],0)))=false->za3 (fun x sd=>do let sd1<-zaM 5 x sd;zbs sd1) (js.map D.int) [some (zbq m os),some (.tup [x0,.tup (rs.map qD)]),s2,s3,s4,x5,x6,x7,s8,s9]=pure (.rt .non))
 | [],x5,x6,x7,_=>⟨fun _=>⟨_,_,_,rfl⟩,fun h=>by cases h⟩
 | j::r,x5,x6,x7,hj=>by
  have hb:=hj j qau
  have m0:=P.s.m0
  have g:=P.off (n:=rs.length) (by omega) hb
  have ea:=zey hb.1 hb.2
  rw [List.all_cons,qaM,zbK]
  generalize os.getD j.toNat ([],0)=o at g ea ⊢
  have zp:=z.pick g.up g.bd
  obtain ⟨n1,n2⟩:=ziu zp
  have ih:=zj9 P z hl (x0:=x0) (s2:=s2) (s3:=s3) (s4:=s4) (s8:=s8) (s9:=s9) r (some (.int j)) (some (.int (qs (pk rs o.1)).num)) (some (.int ((qs (pk rs o.1)).den:Int))) fun y hy=>hj y (qan _ hy)
  have es:=zhX zp (d:= .lst ((pk rs o.1).map qD)) rfl
  have ec: ∀ {s6 s7:Option D},zaB (iSq (cOp dIx (cOp dIx (cOp dIx (zae 0) (cK (.int 1))) (zae 5)) (cK (.int 0)))) (zaM 0) (fun _=>pure true) zcG [none,some 1] [some (zbq m os),some (.tup [x0,.tup (rs.map qD)]),s2,s3,s4,some (.int j),s6,s7,s8,s9]=pure (.lst ((pk rs o.1).map qD)):=fun {s6 s7}=>by
   unfold pk
   rw [qaT,show o.1.map (qD∘fun t=>rs.getD t.toNat 0)=o.1.filterMap fun t=>some (qD (rs.getD t.toNat 0)) by simp [Function.comp_def]]
   refine zbu (g':=D.int) (by ac_nf0;rw [zmP];ac_nf0;rw [ea];ac_nf0) (by have:=g.ln;omega) fun t ht=> ?_
   rw [show zap [none,some 1] [some (zbq m os),some (.tup [x0,.tup (rs.map qD)]),s2,s3,s4,some (.int j),s6,s7,s8,s9]=[none,some (.tup [x0,.tup (rs.map qD)])] from rfl]
   simp only [za6,zcG]
   ac_nf0
   rw [zpp (g.bd t ht).1 (g.bd t ht).2]
   ac_nf0
  have eb:bB rs o= !decide (o.2*((qs (pk rs o.1)).den:Int)<(qs (pk rs o.1)).num):=rfl
  have hm:=zgu g.pp (b:=((qs (pk rs o.1)).den:Int)) (by rw [Int.natAbs_natCast];exact n2)
  rw [eb]
  generalize za3 (fun x sd=>do let sd1<-zaM 5 x sd;zbs sd1) (r.map D.int)=rest at ih ⊢
  generalize (pk rs o.1).map qD=ps at es ec
  generalize qs (pk rs o.1)=q at es hm ih ⊢
  unfold qD at es
  simp only [zbs]
  by_cases hc:o.2*(q.den:Int)<q.num
  ·rw [decide_eq_true hc]
   refine ⟨fun h=>(by cases h),fun _=> ?_⟩
   ac_nf0
   rw [ec]
   ac_nf0
   rw [es]
   ac_nf0
   rw [zmP]
   ac_nf0
   rw [ea]
   ac_nf0
   rw [hm]
   ac_nf0
   rw [decide_eq_true hc]
   ac_nf0
  ·rw [decide_eq_false hc,Bool.not_false,Bool.true_and]
   ac_nf0
   rw [ec]
   ac_nf0
   rw [es]
   ac_nf0
   rw [zmP]
   ac_nf0
   rw [ea]
   ac_nf0
   rw [hm]
   ac_nf0
   rw [decide_eq_false hc]
   ac_nf0
   exact ih
noncomputable def wv (m:Int) (os:List (List Int×Int)):Nat->List Int->List Int->D->Option Rat
 | 0,_,_,_=>none
 | n+1,tk,ot,d=>match d with
  | .tup [x,y]=>if isW "bear" x=true then zg2 m os tk ot y else none
  | .tup [x,.int j,a,b]=>if (isW "cases" x && (frL os tk ot).any (· == j))=true then (match wv m os n (tk++[j]) ot a,wv m os n tk (ot++[j]) b with | some p,some q=>some (if p<=q then p else q) | _,_=>none) else none
  | _=>none
theorem zht (n:Nat) (tk ot:List Int) (d:D):wv m os (n+1) tk ot d=(match d with
    | .tup [x,y]=>if isW "bear" x=true then zg2 m os tk ot y else none
    | .tup [x,.int j,a,b]=>if (isW "cases" x && (frL os tk ot).any (· == j))=true then (match wv m os n (tk++[j]) ot a,wv m os n tk (ot++[j]) b with | some p,some q=>some (if p<=q then p else q) | _,_=>none) else none
    | _=>none):=rfl
noncomputable def gp:Nat->D->Prop
 | 0,_=>False
 | n+1,d=>kn d=true/\ ∀ ds,d= .tup ds->good (.tup ds)=true/\(∀ x y,ds=[x,y]->isW "bear" x=true->gt y)/\ ∀ x y a b,ds=[x,y,a,b]->isW "cases" x=true->gp n a/\gp n b
theorem zlj {x:Str} {d:D} (h:isW x d=true):d= .str x:=by
 cases d with
 | str y=>rw [show y=x from beq_iff_eq.mp h]
 | _=>cases h
theorem zoE (P:Pz m os) {tk ot:List Int} (ht:Tk os tk) {d:D} (g:gt d) {v:Rat} (h:zg2 m os tk ot d=some v):szR v:=by
 have m1:=P.s.m1
 cases hs:shB m d with
 | false=>
  unfold zg2 at h
  split at h
  ·rw [hs,Bool.false_and] at h;cases h
  ·cases h
 | true=>
  obtain ⟨rs,rfl,z,hl⟩:=zic g hs
  rw [zfA hs] at h
  split at h
  ·cases h
   exact ziu (z.more (by omega) (P.pr ht))
  ·cases h
theorem zlO (P:Pz m os): ∀ (n:Nat) {tk ot:List Int} {d:D} {v:Rat},gp n d->Tk os tk->Tk os ot->wv m os n tk ot d=some v->szR v
 | 0,tk,ot,d,v,g,_,_,_=>qa0 g
 | n+1,tk,ot,d,v,g,h1,h2,e=>by
  rw [zht] at e
  split at e
  ·rename_i x y
   split at e
   ·rename_i hw
    exact zoE P h1 ((g.2 _ rfl).2.1 x y rfl hw) e
   ·cases e
  ·rename_i x j a b
   split at e
   ·rename_i hw
    rw [qaG] at hw
    have hj:j∈frL os tk ot:=by simpa using hw.2
    obtain ⟨ga,gb⟩:=(g.2 _ rfl).2.2 x _ a b rfl hw.1
    split at e
    ·rename_i p q ep eq
     cases e
     split
     ·exact zlO P n ga (h1.more hj) h2 ep
     ·exact zlO P n gb h1 (h2.out hj) eq
    ·cases e
   ·cases e
  ·cases e
theorem zfq {ds:List D} {x:D} (g:good (.tup ds)=true) (h:x∈ds):good x=true:=(zn3.mp g).2 x h
theorem zs5 (n:Int):zbY (.int n) (.tup [.int 2,.int 4])=pure (.bl (!(n==2 || n==4))):=by
 have:=zco n [2,4]
 simp only [qaM,List.map_nil,List.any_cons,List.any_nil,Bool.or_false] at this
 rw [this]
 have h: ∀ a:Int,(a==n)=(n==a):=fun a=>by rw [Bool.eq_iff_iff,beq_iff_eq,beq_iff_eq];exact eq_comm
 rw [h 2,h 4]
theorem zib (P:Pz m os) {r:Rat} (hr:szR r): ∀ (n:Nat) {tk ot:List Int} {d:D},gp n d->Tk os tk->Tk os ot->Ev (F_24 n [zbq m os,qD r,d,tI tk,tI ot]) (.bl (shw r (wv m os n tk ot d)))
 | 0,tk,ot,d,g,_,_=>qa0 g
 | n+1,tk,ot,d,g,h1,h2=>by
  obtain ⟨k,g⟩:=g
  have ih:=fun {tk ot:List Int} {d:D}=>zib P hr n (tk:=tk) (ot:=ot) (d:=d)
  refine .of_wp fun h=> ?_
  rw [d_24]
  generalize F_24 n=rec at ih
  simp only [G_24]
  ac_nf0
  rw [zd4 k]
  ac_nf0
  cases d with
  | tup ds=>
   obtain ⟨gg,gb,gc⟩:=g ds rfl
   simp only [isT]
   ac_nf0
   rw [zs5]
   ac_nf0
   match ds,gg,gb,gc with
   | [],gg,gb,gc=>
    rw [show (!((([]:List D).length:Int)==2 || (([]:List D).length:Int)==4))=true from rfl]
    ac_nf0
    exact ⟨rfl,.refl⟩
   | [x],gg,gb,gc=>
    rw [show (!((([x]:List D).length:Int)==2 || (([x]:List D).length:Int)==4))=true from rfl]
    ac_nf0
    exact ⟨rfl,.refl⟩
   | [x,y],gg,gb,gc=>
    have ex:=znl (zfq gg (x:=x) (by simp)) zft
    rw [show (!((([x,y]:List D).length:Int)==2 || (([x,y]:List D).length:Int)==4))=false from rfl]
    ac_nf0
    rw [zid,show (((1+1:Nat):Int)==2)=true from rfl]
    ac_nf0
    rw [ex]
    ac_nf0
    cases hw:isW "bear" x with
    | false=>
     ac_nf0
     refine ⟨?_,.refl⟩
     rw [zht]
     simp only [hw,qax,if_false]
     rfl
    | true=>
     have eb:=zmw P h1 (ot:=ot) hr (gb x y rfl hw)
     simp only [tI] at eb
     ac_nf0
     refine eb.wp fun h' g'=> ?_
     ac_nf0
     first | refine ⟨?_,g'⟩ | refine ⟨g',?_⟩
     rw [zht]
     simp only [hw,if_true]
   | [x,y,z],gg,gb,gc=>
    rw [show (!((([x,y,z]:List D).length:Int)==2 || (([x,y,z]:List D).length:Int)==4))=true from rfl]
    ac_nf0
    exact ⟨rfl,.refl⟩
   | [x,y,a,b],gg,gb,gc=>
    have ex:=ztA (zfq gg (x:=x) (by simp)) zfc
    have ew:=zgs (zf9 (zfq gg (x:=y) (by simp)))
    rw [show (!((([x,y,a,b]:List D).length:Int)==2 || (([x,y,a,b]:List D).length:Int)==4))=false from rfl]
    ac_nf0
    rw [zid,show (((1+1+1+1:Nat):Int)==2)=false from rfl]
    ac_nf0
    rw [ex]
    ac_nf0
    cases hw:isW "cases" x with
    | false=>
     ac_nf0
     refine ⟨?_,.refl⟩
     cases y<;>rw [zht]<;>simp only [hw,Bool.false_and,qax,if_false]<;>rfl
    | true=>
     obtain ⟨ga,gb2⟩:=gc x y a b rfl hw
     ac_nf0
     rw [ew]
     ac_nf0
     cases y with
     | int j=>
      have hf:=zkD P.s (tk:=tk) (ot:=ot)
      simp only [tI] at hf
      simp only [isI]
      ac_nf0
      rw [hf]
      ac_nf0
      rw [zcf]
      ac_nf0
      cases hj:(frL os tk ot).any (· == j) with
      | false=>
       ac_nf0
       refine ⟨?_,.refl⟩
       rw [zht]
       simp only [hw,hj,Bool.true_and,qax,if_false]
       rfl
      | true=>
       have hjm:j∈frL os tk ot:=by simpa using hj
       have tl:=h1.len
       have ol:=h2.len
       have ml:=P.s.len
       have ea:=ih ga (h1.more hjm) h2
       have eb:=ih gb2 h1 (h2.out hjm)
       have ev:wv m os (n+1) tk ot (.tup [x,.int j,a,b])=match wv m os n (tk++[j]) ot a,wv m os n tk (ot++[j]) b with | some p,some q=>some (if p<=q then p else q) | _,_=>none:=by
        rw [zht]
        simp only [hw,hj,Bool.true_and,if_true]
       rw [ev]
       simp only [tI,List.map_append,qaM,List.map_nil] at ea eb
       ac_nf0
       rw [zaD (show tk.length+1<=1000 by omega)]
       ac_nf0
       refine ea.wp fun h' g'=> ?_
       ac_nf0
       generalize wv m os n (tk++[j]) ot a=va at ea
       generalize wv m os n tk (ot++[j]) b=vb at eb
       cases hva:shw r va with
       | false=>
        ac_nf0
        first | refine ⟨?_,g'⟩ | refine ⟨g',?_⟩
        cases va with
        | none=>rfl
        | some p=>
         cases vb with
         | none=>rfl
         | some q=>
          have hp:p<r:=by simpa [shw] using hva
          have:(if p<=q then p else q)<r:=by
           split
           ·exact hp
           ·rename_i hpq
            grind
          simp [shw,this]
       | true=>
        ac_nf0
        rw [zaD (show ot.length+1<=1000 by omega)]
        ac_nf0
        refine eb.wp fun h2' g2'=> ?_
        ac_nf0
        first | refine ⟨?_,g'.trans g2'⟩ | refine ⟨g'.trans g2',?_⟩
        cases va with
        | none=>cases hva
        | some p=>
         cases vb with
         | none=>rfl
         | some q=>
          have hp: ¬p<r:=by simpa [shw] using hva
          show D.bl (!decide (q<r))=D.bl (!decide ((if p<=q then p else q)<r))
          congr 2
          rw [decide_eq_decide]
          split
          ·rename_i hpq
           exact ⟨fun z=>by grind,fun z=>absurd z hp⟩
          ·exact Iff.rfl
     | _=>simp only [isI];ac_nf0;exact ⟨rfl,.refl⟩
   | x::y::a::b::c::t,gg,gb,gc=>
    have e2:(((x::y::a::b::c::t).length:Int)==2)=false:=by rw [beq_eq_false_iff_ne];simp;omega
    have e4:(((x::y::a::b::c::t).length:Int)==4)=false:=by rw [beq_eq_false_iff_ne];simp;omega
    rw [e2,e4,show (!(false || false))=true from rfl]
    ac_nf0
    exact ⟨rfl,.refl⟩
  | _=>simp only [isT];ac_nf0;exact ⟨rfl,.refl⟩
theorem zjh (P:Pz m os) {tk ot:List Int} (ht:Tk os tk) {n:Nat} {y:D} (g:gt y) (gg:good (.tup [.str "bear",y])=true):F_46 (n+1) [zbq m os,.tup [.str "bear",y],.lst (tk.map D.int),.lst (ot.map D.int)]=pure (rO (zg2 m os tk ot y)):=by
 have m0:=P.s.m0
 have m1:=P.s.m1
 have ol:=P.s.len
 have ew:=znl (d:= .str "bear") (show good (.str "bear")=true from zft) zft
 rw [show isW "bear" (.str "bear")=true from beq_self_eq_true _] at ew
 have en:zg2 m os tk ot y=none->rO (zg2 m os tk ot y)= .non:=fun e=>by rw [e];rfl
 rw [d_46]
 generalize F_46 n=rec
 simp only [G_46]
 ac_nf0
 rw [zd4 rfl,show isT (.tup [.str "bear",y])=true from rfl]
 ac_nf0
 rw [zhW gg,show ([.str "bear",y]:List D).isEmpty=false from rfl]
 ac_nf0
 rw [znd rfl,show isS (.str "bear")=true from rfl]
 ac_nf0
 rw [ew]
 ac_nf0
 rw [zid,show (((1+1:Nat):Int)==2)=true from rfl]
 ac_nf0
 rw [zd4 g.1]
 ac_nf0
 have hno:shB m y=false->zg2 m os tk ot y=none:=fun h=>by
  unfold zg2
  split
  ·rw [h];rfl
  ·rfl
 cases y with
 | tup ys=>
  obtain ⟨hl,hsv,hz⟩:=g.2 ys rfl
  simp only [isT]
  ac_nf0
  rw [zr7]
  ac_nf0
  rw [zid]
  ac_nf0
  cases hm:((ys.length:Int)==m) with
  | false=>
   ac_nf0
   rw [hno (by rw [shB,hm,Bool.false_and])]
   rfl
  | true=>
   have ec: ∀ {s2 s3 s4 s5 s6 s7 s8 s9:Option D},zaB (iSq (cOp dIx (zae 1) (cK (.int 1)))) (zaM 0) (fun _=>pure true) zbS [none] [some (zbq m os),some (.tup [.str "bear",.tup ys]),s2,s3,s4,s5,s6,s7,s8,s9]=pure (.lst ((ys.map pS).map D.bl)):=fun {s2 s3 s4 s5 s6 s7 s8 s9}=>zfy (by ac_nf0) hl fun x hx=>zlk (hsv x hx)
   ac_nf0
   rw [ec]
   ac_nf0
   rw [zhA,all_map]
   ac_nf0
   cases ha:ys.all pS with
   | false=>
    ac_nf0
    rw [hno (by rw [shB,hm,ha];rfl)]
    rfl
   | true=>
    have hs:shB m (.tup ys)=true:=by rw [shB,hm,ha];rfl
    obtain ⟨rs,e,z,hl2⟩:=zic g hs
    injection e with e
    subst e
    rw [zfA hs]
    have hb:=ziU P ht
    have hlen:=zk5 P ht
    have lw:=zj9 P z hl2 (x0:= .str "bear") (s2:=some (.lst (tk.map D.int))) (s3:=some (.lst (ot.map D.int))) (s4:=some (.bl true)) (s8:=none) (s9:=none) (frL os tk ot) none none none zhF
    have z2:=z.more (p:=L3.pr os tk) (by omega) (P.pr ht)
    have eq:(rs++[((L3.pr os tk:Int):Rat)]).map qD=rs.map qD++[D.tup [.int (L3.pr os tk),.int 1]]:=by rw [List.map_append,List.map_singleton,zoS]
    have et:=zhX z2 (d:= .lst (rs.map qD++[D.tup [.int (L3.pr os tk),.int 1]])) (by rw [<- eq];rfl)
    have eh:=zkO P.s ht
    have e1: ∀ {s4 s5 s6 s7 s8 s9:Option D},zaB (iSq (zau (zaj 2 F_38) (zab (zae 0) (zab (zae 2) zai)))) (zaM 0) zcA zcJ [none,some 1] [some (zbq m os),some (.tup [.str "bear",.tup (rs.map qD)]),some (.lst (tk.map D.int)),some (.lst (ot.map D.int)),s4,s5,s6,s7,s8,s9]=pure (.lst (((zd0 os tk).filter fun t=> !(rs.getD t.toNat 0==0)).map D.int)):=fun {s4 s5 s6 s7 s8 s9}=>by
     rw [<- zcn]
     refine zbu (g':=D.int) (by ac_nf0;rw [eh];ac_nf0) (by omega) fun t hx=> ?_
     rw [show zap [none,some 1] [some (zbq m os),some (.tup [.str "bear",.tup (rs.map qD)]),some (.lst (tk.map D.int)),some (.lst (ot.map D.int)),s4,s5,s6,s7,s8,s9]=[none,some (.tup [.str "bear",.tup (rs.map qD)])] from rfl]
     simp only [za6,zcA,zcJ]
     ac_nf0
     rw [zpp (hb t hx).1 (by have:=hb t hx;omega)]
     ac_nf0
     rw [zm2]
     ac_nf0
     split<;>rfl
    have ebq:bq os tk ot rs=((zd0 os tk).all (fun t=>rs.getD t.toNat 0==0) && (frL os tk ot).all fun j=>bB rs (os.getD j.toNat ([],0))):=rfl
    have ef:=zei P.s (tk:=tk) (ot:=ot)
    have ep:=zmy P.s ht
    have ene: ∀ l:List Int,dNe (.lst (l.map D.int)) (.lst [])=pure (.bl (!(l==[]))):=fun l=>by
     have:=zlW l []
     rw [List.map_nil] at this
     exact this
    ac_nf0
    rw [e1]
    ac_nf0
    rw [ene]
    ac_nf0
    have ehd:(((zd0 os tk).filter fun t=> !(rs.getD t.toNat 0==0))==[])=(zd0 os tk).all fun t=>rs.getD t.toNat 0==0:=by
     rw [Bool.eq_iff_iff,beq_iff_eq,List.filter_eq_nil_iff,List.all_eq_true]
     constructor
     ·intro h t ht
      have:=h t ht
      simpa using this
     ·intro h t ht z
      rw [h t ht] at z
      cases z
    rw [ehd]
    cases ha:(zd0 os tk).all fun t=>rs.getD t.toNat 0==0 with
    | false=>
     rw [ebq,ha,Bool.false_and]
     ac_nf0
     rfl
    | true=>
     rw [ebq,ha,Bool.true_and]
     ac_nf0
     rw [ef]
     ac_nf0
     cases hf:(frL os tk ot).all fun j=>bB rs (os.getD j.toNat ([],0)) with
     | false=>
      have:=lw.2 hf
      simp only [zde,pure_bind] at this
      rw [this]
      ac_nf0
      rfl
     | true=>
      obtain ⟨y5,y6,y7,el⟩:=lw.1 hf
      simp only [zde,pure_bind] at el
      rw [el]
      ac_nf0
      rw [ep]
      ac_nf0
      rw [zaD (show rs.length+1<=1000 by omega)]
      ac_nf0
      rw [et]
      ac_nf0
      rfl
 | _=>simp only [isT];ac_nf0;rw [hno rfl];rfl
theorem zgl (P:Pz m os): ∀ (n:Nat) {tk ot:List Int} {d:D},gp n d->Tk os tk->Tk os ot->F_46 n [zbq m os,d,.lst (tk.map D.int),.lst (ot.map D.int)]=pure (rO (wv m os n tk ot d))
 | 0,tk,ot,d,g,_,_=>qa0 g
 | n+1,tk,ot,d,g,h1,h2=>by
  have g0:=g
  obtain ⟨k,g⟩:=g
  have ih:=fun {tk ot:List Int} {d:D}=>zgl P n (tk:=tk) (ot:=ot) (d:=d)
  have hsz:=fun {tk ot:List Int} {d:D} {v:Rat}=>zlO P n (tk:=tk) (ot:=ot) (d:=d) (v:=v)
  cases d with
  | tup ds=>
   obtain ⟨gg,gb,gc⟩:=g ds rfl
   match ds,gg,gb,gc with
   | [],gg,gb,gc=>
    rw [d_46]
    generalize F_46 n=rec
    simp only [G_46]
    ac_nf0
    rw [zd4 rfl,show isT (.tup [])=true from rfl]
    ac_nf0
    rw [zhW gg,show ([]:List D).isEmpty=true from rfl]
    ac_nf0
    rfl
   | x::rest,gg,gb,gc=>
    have gx:=zfq gg (x:=x) (by simp)
    by_cases hwb:isW "bear" x=true/\ ∃ y,rest=[y]
    ·obtain ⟨hw,y,rfl⟩:=hwb
     have e:=zlj hw
     subst e
     rw [zjh P h1 (gb _ y rfl hw) gg,zht]
     simp only [hw,if_true]
    ·have hl:isW "bear" x=true->((rest.length:Int)+1==2)=false:=fun hw=>by
      rw [beq_eq_false_iff_ne]
      intro z
      have:rest.length=1:=by omega
      exact hwb ⟨hw,List.length_eq_one_iff.mp this⟩
     rw [d_46]
     generalize F_46 n=rec at ih
     simp only [G_46]
     ac_nf0
     rw [zd4 rfl,show isT (.tup (x::rest))=true from rfl]
     ac_nf0
     rw [zhW gg,show (x::rest).isEmpty=false from rfl]
     ac_nf0
     rw [znd (zf9 gx)]
     ac_nf0
     have hnone:isS x=false->rO (wv m os (n+1) tk ot (.tup (x::rest)))= .non:=fun hs=>by
      have b1:isW "bear" x=false:=by cases x<;>first | rfl | cases hs
      have b2:isW "cases" x=false:=by cases x<;>first | rfl | cases hs
      rw [zht]
      split
      ·rename_i x' y' e
       injection e with e
       injection e with e1 _
       rw [<- e1,b1]
       rfl
      ·rename_i x' j' a' b' e
       injection e with e
       injection e with e1 _
       rw [<- e1,b2]
       rfl
      ·rfl
     cases hs:isS x with
     | false=>
      ac_nf0
      rw [hnone hs]
     | true=>
      ac_nf0
      rw [znl gx zft]
      ac_nf0
      cases hw:isW "bear" x with
      | true=>
       have hl':=hl hw
       ac_nf0
       rw [zid,show (((rest.length+1:Nat):Int)==2)=false from by rw [<- hl'];congr 1]
       ac_nf0
       have:wv m os (n+1) tk ot (.tup (x::rest))=none:=by
        rw [zht]
        split
        ·rename_i x' y' e
         injection e with e
         injection e with _ e2
         exact absurd ⟨hw,_,e2⟩ hwb
        ·rename_i x' j' a' b' e
         injection e with e
         injection e with e1 _
         have:isW "cases" x=false:=by
          rw [zlj hw]
          decide +kernel
         rw [<- e1,this]
         rfl
        ·rfl
       rw [this]
       rfl
      | false=>
       ac_nf0
       rw [ztA gx zfc]
       ac_nf0
       cases hc:isW "cases" x with
       | false=>
        ac_nf0
        have:wv m os (n+1) tk ot (.tup (x::rest))=none:=by
         rw [zht]
         split
         ·rename_i x' y' e
          injection e with e
          injection e with e1 _
          rw [<- e1,hw]
          rfl
         ·rename_i x' j' a' b' e
          injection e with e
          injection e with e1 _
          rw [<- e1,hc]
          rfl
         ·rfl
        rw [this]
        rfl
       | true=>
        ac_nf0
        rw [zr3]
        match rest,gg,gb,gc with
        | [],gg,gb,gc=>rw [show ((([]:List D).length+1:Nat):Int)=1 from rfl,show ((1:Int)==4)=false from rfl];ac_nf0;rfl
        | [y],gg,gb,gc=>
         rw [show ((([y]:List D).length+1:Nat):Int)=2 from rfl,show ((2:Int)==4)=false from rfl]
         ac_nf0
         rw [zht]
         simp only [hw,qax,if_false]
         rfl
        | [y,a],gg,gb,gc=>rw [show ((([y,a]:List D).length+1:Nat):Int)=3 from rfl,show ((3:Int)==4)=false from rfl];ac_nf0;rfl
        | [y,a,b],gg,gb,gc=>
         obtain ⟨ga,gb2⟩:=gc x y a b rfl hc
         have ew:=zfu (zf9 (zfq gg (x:=y) (by simp)))
         rw [show ((([y,a,b]:List D).length+1:Nat):Int)=4 from rfl,show ((4:Int)==4)=true from rfl]
         ac_nf0
         rw [ew]
         ac_nf0
         cases y with
         | int j=>
          simp only [isI]
          ac_nf0
          rw [zei P.s]
          ac_nf0
          rw [zcf]
          ac_nf0
          cases hj:(frL os tk ot).any (· == j) with
          | false=>
           ac_nf0
           rw [zht]
           simp only [hc,hj,Bool.true_and,qax,if_false]
           rfl
          | true=>
           have hjm:j∈frL os tk ot:=by simpa using hj
           have tl:=h1.len
           have ol:=h2.len
           have ml:=P.s.len
           have ea:=ih ga (h1.more hjm) h2
           have eb:=ih gb2 h1 (h2.out hjm)
           have sa:=fun {v:Rat}=>hsz (v:=v) ga (h1.more hjm) h2
           have sb:=fun {v:Rat}=>hsz (v:=v) gb2 h1 (h2.out hjm)
           have ev:wv m os (n+1) tk ot (.tup [x,.int j,a,b])=match wv m os n (tk++[j]) ot a,wv m os n tk (ot++[j]) b with | some p,some q=>some (if p<=q then p else q) | _,_=>none:=by
            rw [zht]
            simp only [hc,hj,Bool.true_and,if_true]
            try rfl
           rw [ev]
           generalize wv m os n (tk++[j]) ot a=va at ea sa
           generalize wv m os n tk (ot++[j]) b=vb at eb sb
           simp only [List.map_append,qaM,List.map_nil] at ea eb
           ac_nf0
           rw [zaD (show tk.length+1<=1000 by omega)]
           ac_nf0
           rw [ea]
           ac_nf0
           rw [zaD (show ot.length+1<=1000 by omega)]
           ac_nf0
           rw [eb]
           ac_nf0
           cases va with
           | none=>
            rw [show zjb (rO none) .non=pure (.bl true) from rfl]
            ac_nf0
            rfl
           | some p=>
            rw [show zjb (rO (some p)) .non=pure (.bl false) from rfl]
            ac_nf0
            cases vb with
            | none=>
             rw [show zjb (rO none) .non=pure (.bl true) from rfl]
             ac_nf0
             rfl
            | some q=>
             rw [show zjb (rO (some q)) .non=pure (.bl false) from rfl]
             ac_nf0
             have zp:=sa rfl
             have zq:=sb rfl
             simp only [rO,qD]
             ac_nf0
             rw [zgu zp.1 (by rw [Int.natAbs_natCast];exact zq.2),zgu zq.1 (by rw [Int.natAbs_natCast];exact zp.2)]
             ac_nf0
             rw [zt8]
             ac_nf0
             have hle:decide (p.num*(q.den:Int)<=q.num*(p.den:Int))=decide (p<=q):=by
              rw [decide_eq_decide,Rat.le_iff]
             rw [hle]
             by_cases hpq:p<=q
             ·rw [decide_eq_true hpq,qa4 hpq]
              ac_nf0
             ·rw [decide_eq_false hpq,qa5 hpq]
              ac_nf0
         | _=>simp only [isI];ac_nf0;rfl
        | y::a::b::c::t,gg,gb,gc=>
         rw [show (((((y::a::b::c::t).length+1:Nat):Int))==4)=false from by rw [beq_eq_false_iff_ne];simp;omega]
         ac_nf0
         rfl
  | _=>
   rw [d_46]
   generalize F_46 n=rec
   simp only [G_46]
   ac_nf0
   rw [zd4 k]
   simp only [isT]
   ac_nf0
   rfl
theorem zhT {rs:List Rat} (t:Int) (ts:List Int):pk rs (t::ts)=rs.getD t.toNat 0::pk rs ts:=rfl
theorem zj2 {rs:List Rat} {t:Nat} (ht:t<rs.length) (h0:rs.getD t 0=0) (v:Rat): ∀ ts:List Int,ts.Pairwise (· < ·)->(∀ x∈ts,0<=x)->qs (pk (rs.set t v) ts)=qs (pk rs ts)+(if (t:Int)∈ts then v else 0)
 | [],_,_=>by rw [qa5 (by simp),Rat.add_zero];rfl
 | x::r,hu,hb=>by
  have hx:=hb x qau
  obtain ⟨h1,h2⟩:=qay.mp hu
  have ih:=zj2 ht h0 v r h2 fun y hy=>hb y (qan _ hy)
  rw [zhT,zhT,zgk,zgk,ih]
  by_cases e:x=(t:Int)
  ·subst e
   have hn: ¬(t:Int)∈r:=fun z=>by
    have:=h1 _ z
    omega
   rw [qa5 hn,qa4 qau,qaB,h0]
   have es:(rs.set t v).getD t 0=v:=by simp [List.getD,ht]
   rw [es,Rat.add_zero,Rat.zero_add,Rat.add_comm]
  ·have hne:x.toNat≠t:=by omega
   have es:(rs.set t v).getD x.toNat 0=rs.getD x.toNat 0:=by
    simp only [List.getD]
    rw [qao (Ne.symm hne)]
   have hm:((t:Int)∈x::r)↔(t:Int)∈r:=by
    rw [qaP]
    constructor
    ·rintro (h | h)
     ·exact absurd h.symm e
     ·exact h
    ·exact .inr
   rw [es]
   by_cases hr:(t:Int)∈r
   ·rw [qa4 hr,qa4 (hm.mpr hr),Rat.add_assoc]
   ·rw [qa5 hr,qa5 (fun z=>hr (hm.mp z)),Rat.add_zero,Rat.add_zero]
theorem zj4: ∀ (rs:List Rat) (t:Nat) (v:Rat),dp (rs.set t v)<=v.den*dp rs
 | [],t,v=>by
  have:=v.den_pos
  simp [dp]
  omega
 | r::rs,0,v=>by
  show v.den*dp rs<=v.den*(r.den*dp rs)
  refine Nat.mul_le_mul_left _ ?_
  have:1*dp rs<=r.den*dp rs:=Nat.mul_le_mul_right _ r.den_pos
  omega
 | r::rs,t+1,v=>by
  have ih:=zj4 rs t v
  show r.den*dp (rs.set t v)<=v.den*(r.den*dp rs)
  have h1:r.den*dp (rs.set t v)<=r.den*(v.den*dp rs):=Nat.mul_le_mul_left _ ih
  have e:r.den*(v.den*dp rs)=v.den*(r.den*dp rs):=by rw [<- Nat.mul_assoc, <-Nat.mul_assoc,Nat.mul_comm r.den]
  omega
theorem zrJ {α:Type} {g':α->D} {f:D->M (Option D)} {k:α->Option D} {h:Hh}: ∀ {xs:List α} {P:List D->Hh->Prop},(∀ x∈xs,wp (f (g' x)) h fun o h'=>o=k x/\h'=h)->P (xs.filterMap k) h->wp (zbl f (xs.map g')) h P
 | [],P,_,q=>by rw [List.map_nil,zbl,zar];exact q
 | x::r,P,hf,q=>by
  rw [qaM,zbl,zas]
  refine zhK (hf x qau) ?_
  rintro o h' ⟨rfl,rfl⟩
  rw [zas]
  refine zrJ (fun y hy=>hf y (qan _ hy)) ?_
  rw [zar]
  rw [qat] at q
  cases hk:k x<;>rw [hk] at q<;>exact q
noncomputable def zdC (p:Int) (q:Rat):Rat:=mkRat (p*(q.den:Int) - q.num) q.den
theorem zlg (p:Int) (q:Rat):zdC p q+q=(p:Rat):=by
 unfold zdC
 rw [zcp q.den_pos q]
 have e:(p:Rat)=mkRat p 1:=by
  rw [Rat.mkRat_one]
 rw [e,Rat.mkRat_eq_iff (Nat.mul_ne_zero q.den_nz q.den_nz) (by decide)]
 rw [Int.natCast_mul]
 have:(p*(q.den:Int) - q.num)*(q.den:Int)+q.num*(q.den:Int)=p*((q.den:Int)*(q.den:Int)):=by
  rw [Int.sub_mul,Int.sub_add_cancel,Int.mul_assoc]
 rw [this]
 simp
noncomputable def btQ (acc:Option Rat) (q:Rat):Option Rat:=match acc with
 | none=>some q
 | some r=>if q<r then some q else some r
noncomputable def rmD:Option Rat->D
 | none=> .non
 | some q=>qD q
noncomputable def rmF (rs:List Rat) (t:Int) (acc:Option Rat) (o:List Int×Int):Option Rat:=if o.1.any (· == t) then btQ acc (zdC o.2 (qs (pk rs o.1))) else acc
def aOk (acc:Option Rat):Prop:= ∀ r,acc=some r->r.num.natAbs<2^6000/\r.den<=2^2000
theorem znw {rs:List Rat} (z:Rz rs):(qs rs).num.natAbs<=2^3804/\(qs rs).den<=2^2000:=by
 have key: ∀ (rs:List Rat) (A:Int) (B k:Nat),Sz A B k rs-> ∃ (A':Int) (B':Nat) (k':Nat),Sz A' B' k' []/\mkRat A' B'=rs.foldl (· + ·) (mkRat A B):=by
  intro rs
  induction rs with
  | nil=>exact fun A B k z=>⟨A,B,k,z,rfl⟩
  | cons r rs ih=>
   intro A B k z
   obtain ⟨A',B',k',z',e⟩:=ih _ _ _ z.next
   exact ⟨A',B',k',z',by rw [e,List.foldl_cons,zcp z.b0]⟩
 obtain ⟨A',B',k',z',e⟩:=key rs 0 1 0 z.sz
 rw [zry] at e
 unfold qs
 rw [<- e]
 exact ⟨qaS (zfY A' z'.b0) z'.A_le,qaS (zed A' z'.b0) z'.B_le⟩
theorem zoW {rs:List Rat} (z:Rz rs) {p:Int} (hp:p.natAbs<=2^64):(zdC p (qs rs)).num.natAbs<2^6000/\(zdC p (qs rs)).den<=2^2000:=by
 obtain ⟨n1,n2⟩:=znw z
 have hd:=(qs rs).den_pos
 refine ⟨?_,qaS (zed _ hd) n2⟩
 refine Nat.lt_of_le_of_lt (zfY _ hd) ?_
 have h1:=Int.natAbs_sub_le (p*((qs rs).den:Int)) (qs rs).num
 rw [Int.natAbs_mul,Int.natAbs_natCast] at h1
 have h2:p.natAbs*(qs rs).den<=2^(64+2000):=zdD hp n2
 have h3:(2:Nat)^(64+2000)<=2^3804:=Nat.pow_le_pow_right (by decide) (by decide)
 have h4:(2:Nat)^3804+2^3804=2^3805:=by rw [<- Nat.two_mul, <-Nat.pow_succ']
 have h5:(2:Nat)^3805<2^6000:=Nat.pow_lt_pow_right (by decide) (by decide)
 omega
theorem zrw {acc:Option Rat} {q:Rat} (h:aOk acc) (hq:q.num.natAbs<2^6000/\q.den<=2^2000):aOk (btQ acc q):=fun r e=>by
 unfold btQ at e
 split at e
 ·cases e
  exact hq
 ·split at e
  ·cases e
   exact hq
  ·cases e
   exact h _ rfl
theorem pkc {c:Nat} {h:Hh} {rs:List Rat} {ts:List Int} (e:h[c]? = some (.lst (rs.map qD))) (hl:ts.length<=1000) (hb: ∀ t∈ts,0<=t/\t<(rs.length:Int)) {sd:Sd} {fi:FA} (hi:fi sd=pure (ts.map D.int)) {src:List (Option Nat)} (eb:zap src sd=[none,some (.cel c)]) {P:D->Hh->Prop} (k:P (.lst ((pk rs ts).map qD)) h):wp (zaB fi (zaM 0) (fun _=>pure true) zcv src sd) h P:=by
 unfold zaB
 rw [hi,pure_bind,qaH,zaD hl,pure_bind,zas,eb]
 refine zrJ (g':=D.int) (k:=fun t=>some (qD (rs.getD t.toNat 0))) (fun t ht=> ?_) ?_
 ·simp only [za6,zcv]
  ac_nf0
  simp only [zjT,bind_assoc,zas,zdp e]
  rw [zpp (hb t ht).1 (hb t ht).2]
  ac_nf0
  exact ⟨trivial,trivial⟩
 ·rw [zar]
  have:ts.filterMap (fun t=>some (qD (rs.getD t.toNat 0)))=(pk rs ts).map qD:=by
   unfold pk
   rw [qaT]
   simp [Function.comp_def]
  rw [this]
  exact k
theorem ze3 {rs:List Rat} (z:Rz rs) {c:Nat} {h:Hh} (e:h[c]? = some (.lst (rs.map qD))) {t:Int} {s0 s1 s2 s3 s4:Option D}: ∀ (os:List (List Int×Int)) (acc:Option Rat) (x8 x9 x10 x11:Option D) {P:Out->Hh->Prop},(∀ o∈os,Oz rs.length o/\o.2.natAbs<=2^64)->aOk acc->
  (∀ y8 y9 y10 y11,P (.nx [s0,s1,s2,s3,s4,some (.cel c),some (.int t),some (rmD (os.foldl (rmF rs t) acc)),y8,y9,y10,y11]) h)->
  wp (za3 (fun x sd=>do let sd1<-zaM 8 x sd;zbd sd1) (os.map zcV) [s0,s1,s2,s3,s4,some (.cel c),some (.int t),some (rmD acc),x8,x9,x10,x11]) h P
 | [],acc,x8,x9,x10,x11,P,_,_,k=>by
  rw [List.map_nil,zc2,zar]
  exact k _ _ _ _
 | o::r,acc,x8,x9,x10,x11,P,ho,ha,k=>by
  obtain ⟨g,hp64⟩:=ho o qau
  have hr:=fun y hy=>ho y (qan _ hy)
  rw [List.foldl_cons] at k
  rw [qaM,zbK]
  cases hin:o.1.any (· == t) with
  | false=>
   rw [show rmF rs t acc o=acc by unfold rmF;rw [hin];rfl] at k
   have ih:=fun (x8 x9 x10 x11:Option D)=>ze3 z e (t:=t) (s0:=s0) (s1:=s1) (s2:=s2) (s3:=s3) (s4:=s4) r acc x8 x9 x10 x11 (P:=P) hr ha k
   generalize za3 (fun x sd=>do let sd1<-zaM 8 x sd;zbd sd1) (r.map zcV)=rest at ih ⊢
   simp only [zbd]
   ac_nf0
   rw [zf5,hin]
   ac_nf0
   exact ih _ _ _ _
  | true=>
   have zp:=z.pick g.up g.bd
   obtain ⟨n1,n2⟩:=znw zp
   have hsz:=zoW zp hp64
   rw [show rmF rs t acc o=btQ acc (zdC o.2 (qs (pk rs o.1))) by unfold rmF;rw [hin];rfl] at k
   have ih:=fun (x8 x9 x10 x11:Option D)=>ze3 z e (t:=t) (s0:=s0) (s1:=s1) (s2:=s2) (s3:=s3) (s4:=s4) r (btQ acc (zdC o.2 (qs (pk rs o.1)))) x8 x9 x10 x11 (P:=P) hr (zrw ha hsz) k
   have es:=zhX zp (d:= .lst ((pk rs o.1).map qD)) rfl
   have hm:=zgu g.pp (b:=((qs (pk rs o.1)).den:Int)) (by rw [Int.natAbs_natCast];exact zaz (n:=2000) (by decide) n2)
   have ef:=ze9 (a:=o.2*((qs (pk rs o.1)).den:Int) - (qs (pk rs o.1)).num) (qs (pk rs o.1)).den_pos (Nat.lt_of_le_of_lt n2 (qaw (Nat.pow_lt_pow_right (by decide) (by decide:2000<2001)) (zfH (by decide))))
   rw [show mkRat (o.2*((qs (pk rs o.1)).den:Int) - (qs (pk rs o.1)).num) (qs (pk rs o.1)).den=zdC o.2 (qs (pk rs o.1)) from rfl] at ef
   generalize za3 (fun x sd=>do let sd1<-zaM 8 x sd;zbd sd1) (r.map zcV)=rest at ih ⊢
   generalize zdC o.2 (qs (pk rs o.1))=hq at ef ih hsz
   simp only [zbd]
   ac_nf0
   rw [zf5,hin]
   ac_nf0
   refine pkc e (by have:=g.ln;omega) g.bd (by ac_nf0) rfl ?_
   generalize (pk rs o.1).map qD=ps at es
   generalize qs (pk rs o.1)=q at es hm ef
   unfold qD at es
   ac_nf0
   rw [es]
   ac_nf0
   rw [hm]
   ac_nf0
   rw [ef]
   ac_nf0
   cases acc with
   | none=>
    have n2':zjb .non .non=pure (.bl true):=rfl
    simp only [rmD,btQ] at ih ⊢
    rw [n2']
    ac_nf0
    exact ih _ _ _ _
   | some r0=>
    obtain ⟨a1,a2⟩:=ha r0 rfl
    have n3:zjb (qD r0) .non=pure (.bl false):=rfl
    simp only [rmD,btQ] at ih ⊢
    rw [n3]
    unfold qD at ih ⊢
    ac_nf0
    rw [zgu hsz.1 (by rw [Int.natAbs_natCast];exact zaz (n:=2000) (by decide) a2),zgu a1 (by rw [Int.natAbs_natCast];exact zaz (n:=2000) (by decide) hsz.2)]
    ac_nf0
    simp only [zr2]
    ac_nf0
    rw [zsm]
    by_cases hlt:hq<r0
    ·rw [qa4 hlt] at ih
     rw [decide_eq_true hlt]
     ac_nf0
     exact ih _ _ _ _
    ·rw [qa5 hlt] at ih
     rw [decide_eq_false hlt]
     ac_nf0
     exact ih _ _ _ _
theorem zis: ∀ (rs:List Rat) (A:Int) (B:Nat),0<B-> ∃ A',rs.foldl (· + ·) (mkRat A B)=mkRat A' (B*dp rs)
 | [],A,B,h=>⟨A,by show mkRat A B=mkRat A (B*1);rw [Nat.mul_one]⟩
 | r::rs,A,B,h=>by
  obtain ⟨A',e⟩:=zis rs (A*(r.den:Int)+r.num*(B:Int)) (B*r.den) (Nat.mul_pos h r.den_pos)
  refine ⟨A',?_⟩
  rw [List.foldl_cons,zcp h,e]
  show _=mkRat A' (B*(r.den*dp rs))
  rw [Nat.mul_assoc]
theorem zqj (rs:List Rat):(qs rs).den<=dp rs:=by
 obtain ⟨A',e⟩:=zis rs 0 1 (by decide)
 rw [zry,Nat.one_mul] at e
 unfold qs
 rw [e]
 exact zed A' (zgN rs)
theorem zqf: ∀ {rs:List Rat},(∀ r∈rs,0<=r)->0<=qs rs
 | [],_=>by rw [zmR];exact Rat.le_refl
 | r::rs,h=>by
  have h1:=h r qau
  have h2:=zqf fun y hy=>h y (qan _ hy)
  rw [zgk]
  grind
structure Bz (m:Int) (os:List (List Int×Int)) (rs:List Rat) (j:Nat):Prop where
 ln:rs.length=m.toNat
 nn: ∀ r∈rs,0<=r
 bd: ∀ o∈os,qs (pk rs o.1)<=(o.2:Rat)
 le: ∀ r∈rs,r<=((2^64:Int):Rat)
 dd:dp rs<=3^(2^j - 1)
theorem zk8 {r:Rat} (h0:0<=r) (h:r<=((2^64:Int):Rat)):r.num.natAbs<=2^64*r.den:=by
 have h1:=(Rat.le_iff r ((2^64:Int):Rat)).mp h
 rw [Rat.num_intCast,Rat.den_intCast] at h1
 have h2:=Rat.num_nonneg.mpr h0
 have h3:r.num<=2^64*(r.den:Int):=by simpa using h1
 omega
theorem ziA: ∀ {rs:List Rat} {r:Rat},r∈rs->r.den<=dp rs
 | x::rs,r,h=>by
  have hp:=zgN rs
  have hx:=x.den_pos
  show r.den<=x.den*dp rs
  rcases qaP.mp h with rfl | h
  ·have:r.den*1<=r.den*dp rs:=Nat.mul_le_mul_left _ hp
   omega
  ·have h1:=ziA h
   have:1*dp rs<=x.den*dp rs:=Nat.mul_le_mul_right _ hx
   omega
theorem zd9 {j:Nat} (h:j<=10):3^(2^j - 1)<=2^1700:=by
 have h1:2^j<=2^10:=Nat.pow_le_pow_right (by decide) h
 have h2:3^(2^j - 1)<=3^1024:=Nat.pow_le_pow_right (by decide) (by omega)
 have h3:(3:Nat)^1024<=2^1700:=by decide +kernel
 omega
theorem Bz.rz {rs:List Rat} {j:Nat} (b:Bz m os rs j) (hm:m<=10) (hj:j<=10):Rz rs where
 dp1:=qaS (qaS b.dd (zd9 hj)) (Nat.pow_le_pow_right (by decide) (by decide))
 ln:=by rw [b.ln];omega
 r1:=fun r hr=>by
  have h1:=zk8 (b.nn r hr) (b.le r hr)
  have h2:=qaS (ziA hr) (qaS b.dd (zd9 hj))
  have h3:2^64*r.den<=2^(64+1700):=zdD (qaV _) h2
  have h4:(2:Nat)^(64+1700)<=tt:=Nat.pow_le_pow_right (by decide) (by decide)
  omega
theorem znA {rs:List Rat} {t:Int}: ∀ (os:List (List Int×Int)) (acc:Option Rat) {q:Rat},os.foldl (rmF rs t) acc=some q->(∀ r,acc=some r->q<=r)/\(∀ o∈os,t∈o.1->q<=zdC o.2 (qs (pk rs o.1)))/\(acc=some q\/ ∃ o∈os,t∈o.1/\q=zdC o.2 (qs (pk rs o.1)))
 | [],acc,q,e=>by
  rw [List.foldl_nil] at e
  refine ⟨fun r h=> ?_,fun o ho _=> ?_,.inl e⟩
  ·rw [h] at e
   rw [Option.some.inj e]
   exact Rat.le_refl
  ·cases ho
 | o::os,acc,q,e=>by
  rw [List.foldl_cons] at e
  obtain ⟨h1,h2,h3⟩:=znA os _ e
  by_cases hin:o.1.any (· == t)=true
  ·have er:rmF rs t acc o=btQ acc (zdC o.2 (qs (pk rs o.1))):=by unfold rmF;rw [qa4 hin]
   rw [er] at h1 h3
   have hmem:t∈o.1:=zeU.mp hin
   generalize hg:zdC o.2 (qs (pk rs o.1))=g at h1 h3
   cases acc with
   | none=>
    have hb:btQ none g=some g:=rfl
    rw [hb] at h1 h3
    refine ⟨fun r h=>(by cases h),fun o' ho' ht=> ?_,?_⟩
    ·rcases qaP.mp ho' with rfl | ho'
     ·rw [hg];exact h1 _ rfl
     ·exact h2 o' ho' ht
    ·rcases h3 with h | ⟨o',ho',ht,hq⟩
     ·exact .inr ⟨o,qau,hmem,by rw [hg];exact (Option.some.inj h).symm⟩
     ·exact .inr ⟨o',qan _ ho',ht,hq⟩
   | some r0=>
    by_cases hlt:g<r0
    ·have hb:btQ (some r0) g=some g:=qa4 hlt
     rw [hb] at h1 h3
     refine ⟨fun r h=>by rw [<- Option.some.inj h];exact Rat.le_trans (h1 _ rfl) (Rat.le_of_lt hlt),fun o' ho' ht=> ?_,?_⟩
     ·rcases qaP.mp ho' with rfl | ho'
      ·rw [hg];exact h1 _ rfl
      ·exact h2 o' ho' ht
     ·rcases h3 with h | ⟨o',ho',ht,hq⟩
      ·exact .inr ⟨o,qau,hmem,by rw [hg];exact (Option.some.inj h).symm⟩
      ·exact .inr ⟨o',qan _ ho',ht,hq⟩
    ·have hb:btQ (some r0) g=some r0:=qa5 hlt
     rw [hb] at h1 h3
     refine ⟨fun r h=>by rw [<- Option.some.inj h];exact h1 _ rfl,fun o' ho' ht=> ?_,?_⟩
     ·rcases qaP.mp ho' with rfl | ho'
      ·rw [hg];exact Rat.le_trans (h1 _ rfl) (Rat.not_lt.mp hlt)
      ·exact h2 o' ho' ht
     ·rcases h3 with h | ⟨o',ho',ht,hq⟩
      ·exact .inl h
      ·exact .inr ⟨o',qan _ ho',ht,hq⟩
  ·have er:rmF rs t acc o=acc:=by unfold rmF;rw [qa5 hin]
   rw [er] at h1 h3
   refine ⟨h1,fun o' ho' ht=> ?_,?_⟩
   ·rcases qaP.mp ho' with rfl | ho'
    ·exact absurd (zeU.mpr ht) hin
    ·exact h2 o' ho' ht
   ·rcases h3 with h | ⟨o',ho',ht,hq⟩
    ·exact .inl h
    ·exact .inr ⟨o',qan _ ho',ht,hq⟩
theorem zoc (q:Rat) (a:Int) (c:Nat):mkRat (q.num*a) (q.den*c)=q*mkRat a c:=by
 have:=Rat.mkRat_mul_mkRat q.num a q.den c
 rw [Rat.mkRat_self] at this
 exact this.symm
theorem znQ {a:Int} {c:Nat} (h:(a,c)∈[((1:Int),1),(1,2),(2,3),(0,1)]):0<=mkRat a c/\mkRat a c<=1/\0<c/\c<=3/\0<=a/\a<=2:=by
 simp only [qaP,Prod.mk.injEq,qaF,or_false] at h
 rcases h with ⟨rfl,rfl⟩ | ⟨rfl,rfl⟩ | ⟨rfl,rfl⟩ | ⟨rfl,rfl⟩<;>decide +kernel
structure Oc (m:Int) (os:List (List Int×Int)):Prop where
 up: ∀ o∈os,o.1.Pairwise (· < ·)
 bd: ∀ o∈os, ∀ t∈o.1,0<=t/\t<m
 pp: ∀ o∈os,0<o.2/\o.2<2^64
theorem zlv {rs:List Rat} {j:Nat} (b:Bz m os rs j) (c:Oc m os) (m0:0<=m) {t:Int} {q:Rat} (e:os.foldl (rmF rs t) none=some q):0<=q/\q<=((2^64:Int):Rat)/\q.den<=dp rs:=by
 obtain ⟨_,_,h3⟩:=znA os none e
 rcases h3 with h | ⟨o,ho,ht,hq⟩
 ·cases h
 ·have h1:=zlg o.2 (qs (pk rs o.1))
  have h2:=b.bd o ho
  have hs:=zni (rs:=rs) (c.up o ho) fun t ht=>by
   have:=c.bd o ho t ht
   have:=b.ln
   omega
  have h3:=zqf (rs:=pk rs o.1) fun r hr=>b.nn r (hs.subset hr)
  have h4:(o.2:Rat)<=((2^64:Int):Rat):=Rat.intCast_le_intCast.mpr (by have:=(c.pp o ho).2;omega)
  have h5:=zqj (pk rs o.1)
  have h6:=ziC hs
  have h7:(zdC o.2 (qs (pk rs o.1))).den<=(qs (pk rs o.1)).den:=zed _ (qs (pk rs o.1)).den_pos
  subst hq
  refine ⟨by grind,by grind,by omega⟩
theorem Bz.next {rs:List Rat} {j:Nat} (b:Bz m os rs j):Bz m os rs (j+1) where
 ln:=b.ln
 nn:=b.nn
 bd:=b.bd
 le:=b.le
 dd:=qaS b.dd (Nat.pow_le_pow_right (by decide) (by have:2^(j+1)=2^j*2:=Nat.pow_succ 2 j;omega))
theorem Bz.step {rs:List Rat} {j:Nat} (b:Bz m os rs j) (cc:Oc m os) {t:Int} (ht:0<=t/\t<m) (h0:rs.getD t.toNat 0=0) {q:Rat} (e:os.foldl (rmF rs t) none=some q) {a:Int} {c:Nat} (hac:(a,c)∈[((1:Int),1),(1,2),(2,3),(0,1)]):Bz m os (rs.set t.toNat (mkRat (q.num*a) (q.den*c))) (j+1):=by
 obtain ⟨p1,p2,c0,c3,_,_⟩:=znQ hac
 obtain ⟨q0,q1,q2⟩:=zlv b cc (by omega) e
 obtain ⟨_,r2,_⟩:=znA os none e
 have hlt:t.toNat<rs.length:=by have:=b.ln;omega
 have v0:0<=q*mkRat a c:=Rat.mul_nonneg q0 p1
 have v1:q*mkRat a c<=q:=by
  have:=Rat.mul_le_mul_of_nonneg_left p2 q0
  rw [Rat.mul_one] at this
  exact this
 have vd:(mkRat (q.num*a) (q.den*c)).den<=q.den*c:=zed _ (Nat.mul_pos q.den_pos c0)
 rw [zoc] at vd ⊢
 generalize q*mkRat a c=v at v0 v1 vd
 refine ⟨by rw [qaI];exact b.ln,fun r hr=> ?_,fun o ho=> ?_,fun r hr=> ?_,?_⟩
 ·rcases List.mem_or_eq_of_mem_set hr with h | rfl
  ·exact b.nn r h
  ·exact v0
 ·have hq:=zj2 hlt h0 v o.1 (cc.up o ho) (fun x hx=>(cc.bd o ho x hx).1)
  have h1:=b.bd o ho
  rw [hq]
  rw [show ((t.toNat:Nat):Int)=t by omega]
  by_cases hin:t∈o.1
  ·rw [qa4 hin]
   have h2:=r2 o ho hin
   have h3:=zlg o.2 (qs (pk rs o.1))
   generalize zdC o.2 (qs (pk rs o.1))=hh at h2 h3
   generalize qs (pk rs o.1)=s at h1 h3 ⊢
   grind
  ·rw [qa5 hin,Rat.add_zero]
   exact h1
 ·rcases List.mem_or_eq_of_mem_set hr with h | rfl
  ·exact b.le r h
  ·exact Rat.le_trans v1 q1
 ·have h1:=zj4 rs t.toNat v
  have h2:v.den*dp rs<=(q.den*c)*dp rs:=Nat.mul_le_mul_right _ vd
  have h3:(q.den*c)*dp rs<=(dp rs*3)*dp rs:=Nat.mul_le_mul_right _ (Nat.mul_le_mul q2 c3)
  have h4:(dp rs*3)*dp rs<=(3^(2^j - 1)*3)*3^(2^j - 1):=Nat.mul_le_mul (Nat.mul_le_mul_right _ b.dd) b.dd
  have hp:0<2^j:=Nat.pow_pos (by decide)
  have h5:(3^(2^j - 1)*3)*3^(2^j - 1)=3^(2^(j+1) - 1):=by
   rw [<- Nat.pow_succ, <-Nat.pow_add]
   congr 1
   have:2^(j+1)=2^j*2:=Nat.pow_succ 2 j
   omega
  omega
theorem zjv: ∀ {rs:List Rat},(∀ r∈rs,r=0)->qs rs=0
 | [],_=>zmR
 | r::rs,h=>by
  rw [zgk,h r qau,Rat.zero_add]
  exact zjv fun y hy=>h y (qan _ hy)
theorem zhM {n:Nat} (k:Nat):(List.replicate n (0:Rat)).getD k 0=0:=by
 simp only [List.getD,List.getElem?_replicate]
 split<;>rfl
theorem zjJ: ∀ n,dp (List.replicate n (0:Rat))=1
 | 0=>rfl
 | n+1=>by
  show 1*dp (List.replicate n 0)=1
  rw [zjJ n]
theorem Bz.init (cc:Oc m os):Bz m os (List.replicate m.toNat 0) 0 where
 ln:=List.length_replicate
 nn:=fun r hr=>by rw [(List.mem_replicate.mp hr).2];exact Rat.le_refl
 bd:=fun o ho=>by
  rw [zjv]
  ·exact Rat.le_of_lt (Rat.intCast_pos.mpr (cc.pp o ho).1)
  ·intro r hr
   unfold pk at hr
   obtain ⟨t,_,rfl⟩:=qaU.mp hr
   exact zhM _
 le:=fun r hr=>by rw [(List.mem_replicate.mp hr).2];decide +kernel
 dd:=by rw [zjJ];decide
theorem zqF (rs:List Rat) (o:List Int×Int):bB rs o=true↔qs (pk rs o.1)<=(o.2:Rat):=by
 unfold bB
 rw [Bool.not_eq_true',decide_eq_false_iff_not,Rat.le_iff,Rat.num_intCast,Rat.den_intCast]
 constructor
 ·intro h;simp;omega
 ·intro h;simp at h;omega
theorem zqh {n:Nat} {k:Int} (h0:0<=k) (h1:k<(n:Int)):ixN n k=some k.toNat:=by
 unfold ixN
 split<;>first | rfl | (split<;>first | rfl | omega) | omega
theorem Bz.any {rs:List Rat} {j:Nat} (b:Bz m os rs j) (cc:Oc m os) {t:Int} (ht:0<=t/\t<m) (h0:rs.getD t.toNat 0=0) (hn: ∀ o∈os,t∉o.1) {v:Rat} (v0:0<=v) (v1:v<=((2^64:Int):Rat)) (vd:v.den<=3):Bz m os (rs.set t.toNat v) (j+1):=by
 have hlt:t.toNat<rs.length:=by have:=b.ln;omega
 refine ⟨by rw [qaI];exact b.ln,fun r hr=> ?_,fun o ho=> ?_,fun r hr=> ?_,?_⟩
 ·rcases List.mem_or_eq_of_mem_set hr with h | rfl
  ·exact b.nn r h
  ·exact v0
 ·have hq:=zj2 hlt h0 v o.1 (cc.up o ho) (fun x hx=>(cc.bd o ho x hx).1)
  rw [hq,show ((t.toNat:Nat):Int)=t by omega,qa5 (hn o ho),Rat.add_zero]
  exact b.bd o ho
 ·rcases List.mem_or_eq_of_mem_set hr with h | rfl
  ·exact b.le r h
  ·exact v1
 ·have h1:=zj4 rs t.toNat v
  have h2:v.den*dp rs<=3*3^(2^j - 1):=Nat.mul_le_mul vd b.dd
  have hp:0<2^j:=Nat.pow_pos (by decide)
  have h3:3*3^(2^j - 1)=3^(2^j):=by
   rw [Nat.mul_comm, <-Nat.pow_succ]
   congr 1
   omega
  have h4:3^(2^j)<=3^(2^(j+1) - 1):=Nat.pow_le_pow_right (by decide) (by have:2^(j+1)=2^j*2:=Nat.pow_succ 2 j;omega)
  omega
theorem zh8 (acc:Option Rat) (q:Rat): ∃ q',btQ acc q=some q':=by
 cases acc with
 | none=>exact ⟨_,rfl⟩
 | some r=>
  show ∃ q',(if q<r then some q else some r)=some q'
  split<;>exact ⟨_,rfl⟩
theorem zkw {rs:List Rat} {t:Int}: ∀ (os:List (List Int×Int)) (acc:Option Rat),os.foldl (rmF rs t) acc=none-> ∀ o∈os,t∉o.1
 | [],acc,h,o,ho=>by cases ho
 | x::r,acc,h,o,ho=>by
  rw [List.foldl_cons] at h
  have key: ∀ (l:List (List Int×Int)) (q:Rat),l.foldl (rmF rs t) (some q)≠none:=fun l=>by
   induction l with
   | nil=>intro q e;cases e
   | cons y s ih=>
    intro q e
    rw [List.foldl_cons] at e
    have: ∃ q',rmF rs t (some q) y=some q':=by
     unfold rmF
     split
     ·exact zh8 _ _
     ·exact ⟨_,rfl⟩
    obtain ⟨q',e'⟩:=this
    rw [e'] at e
    exact ih q' e
  cases hr:rmF rs t acc x with
  | some q=>rw [hr] at h;exact absurd h (key r q)
  | none=>
   rw [hr] at h
   rcases qaP.mp ho with rfl | ho
   ·intro hx
    have hin:o.1.any (· == t)=true:=List.any_eq_true.mpr ⟨t,hx,by simp⟩
    unfold rmF at hr
    rw [qa4 hin] at hr
    obtain ⟨q',e'⟩:=zh8 acc (zdC o.2 (qs (pk rs o.1)))
    rw [e'] at hr
    cases hr
   ·exact zkw r _ h o ho
noncomputable def zj7 (os:List (List Int×Int)) (tk ot:List Int):List (List Int×Int):=zcU os (frL os tk ot)
theorem zfk {tk ot:List Int}: ∀ o∈zj7 os tk ot,o∈os:=zfx zhF
theorem zna (P:Pz m os) {tk ot:List Int}:Oc m (zj7 os tk ot):=⟨fun o ho=>P.s.up o (zfk o ho),fun o ho=>P.s.bd o (zfk o ho),fun o ho=>⟨P.s.pos o (zfk o ho),P.p o (zfk o ho)⟩⟩
theorem zlM (P:Pz m os) {tk ot:List Int} {s0 s4 s5 s6 s7 s8 s9 s10 s11:Option D}:
  zaB (iSq (zau (zaj 3 F_43) (zab (zae 1) (zab (zae 2) (zab (zae 3) zai))))) (zaM 0) (fun _=>pure true) zcC [none,some 1] [s0,some (zbq m os),some (.lst (tk.map D.int)),some (.lst (ot.map D.int)),s4,s5,s6,s7,s8,s9,s10,s11]=pure (.lst ((zj7 os tk ot).map zcV)):=by
 have fl:=zlo (os:=os) (tk:=tk) (ot:=ot)
 have ol:=P.s.len
 rw [zbu (g':=D.int) (xs:=frL os tk ot) (k:=fun i=>some (zcV (os.getD i.toNat ([],0)))) (by ac_nf0;rw [zei P.s];ac_nf0) (by omega) fun x hx=> ?_]
 ·congr 2
  unfold zj7 zcU
  rw [qaT]
  exact congrFun List.filterMap_eq_map' _
 ·rw [show zap [none,some 1] [s0,some (zbq m os),some (.lst (tk.map D.int)),some (.lst (ot.map D.int)),s4,s5,s6,s7,s8,s9,s10,s11]=[none,some (zbq m os)] from rfl]
  simp only [za6,zcC]
  ac_nf0
  rw [zmP]
  ac_nf0
  rw [zey (zhF x hx).1 (zhF x hx).2]
  ac_nf0
theorem zov {rs:List Rat} {j:Nat} (bz:Bz m os rs j) (hj:j<=10) (cc:Oc m os) (m0:0<=m) {t:Int} {q:Rat} (e:os.foldl (rmF rs t) none=some q):q.num.natAbs<=2^(64+1700)/\q.den<=2^1700:=by
 obtain ⟨r0,r1,r2⟩:=zlv bz cc m0 e
 have dd:=qaS r2 (qaS bz.dd (zd9 (j:=j) hj))
 exact ⟨qaS (zk8 r0 r1) (zdD (qaV _) dd),dd⟩
theorem ztT:qD ((9:Int):Rat)= .tup [.int 9,.int 1]:=zoS 9
theorem ztp:0<=mkRat 9 2/\mkRat 9 2<=((2^64:Int):Rat)/\(mkRat 9 2).den<=3:=by decide +kernel
theorem zsa:0<=((9:Int):Rat)/\((9:Int):Rat)<=((2^64:Int):Rat)/\((9:Int):Rat).den<=3:=by decide +kernel
theorem znh {b c:Nat} (hbc:c≠b) {q:Rat} (hq:q.num.natAbs<=2^(64+1700)/\q.den<=2^1700) {rs:List Rat} {t:Int} (ht:0<=t/\t<(rs.length:Int)) {h:Hh} (qb:Bx b h) (ec:h[c]? = some (.lst (rs.map qD))) {s1 s2 s3 s4 s8 s9 s10 s11:Option D} {P:Out->Hh->Prop}
  (k: ∀ v h',(v=q\/v=mkRat q.num (q.den*2))->Bx b h'->h'[c]? = some (.lst ((rs.set t.toNat v).map qD))->P (.nx [some (.cel b),s1,s2,s3,s4,some (.cel c),some (.int t),some (qD q),s8,s9,s10,s11]) h'):
  wp (zfS (cOp dIx (zbo (zab (zae 7) (zab (zae 7) (zab (zau (zaj 2 F_40) (zab (cOp dIx (zae 7) (cK (.int 0))) (zab (cOp zca (cOp dIx (zae 7) (cK (.int 1))) (cK (.int 2))) zai))) zai)))) (zau (zaj 2 F_31) (zab (zae 0) (zab (cK (.int 3)) zai)))) (zhR (zae 5) (zae 6)) [some (.cel b),s1,s2,s3,s4,some (.cel c),some (.int t),some (qD q),s8,s9,s10,s11]) h P:=by
 have hdb:q.den*2<bb:=by
  have h1:q.den*2<=2^(1700+1):=zdD hq.2 (by decide)
  exact Nat.lt_of_le_of_lt h1 (qaw (Nat.pow_lt_pow_right (by decide) (by decide:1700+1<2001)) (zfH (by decide)))
 have ef:=ze9 (a:=q.num) (b:=q.den*2) (Nat.mul_pos q.den_pos (by decide)) hdb
 have m2':=zgu (a:=(q.den:Int)) (b:=2) (by rw [Int.natAbs_natCast];exact zaz (n:=1700) (by decide) hq.2) (by decide +kernel)
 rw [Int.natCast_mul] at ef
 have e0:dIx (qD q) (.int 0)=pure (.int q.num):=rfl
 have e1:dIx (qD q) (.int 1)=pure (.int (q.den:Int)):=rfl
 rw [show (((2:Nat):Int))=2 from rfl] at ef
 ac_nf0
 rw [e0]
 ac_nf0
 rw [e1]
 ac_nf0
 rw [m2']
 ac_nf0
 rw [ef]
 ac_nf0
 refine zaU qb (by decide) (by decide) fun u h2 u0 u1 x2=> ?_
 have ec2:=x2.2 c _ hbc ec
 have hpk: ∃ v:Rat,(v=q\/v=mkRat q.num (q.den*2))/\atI [qD q,qD q,qD (mkRat q.num (q.den*2))] u=some (qD v):=by
  have:u=0\/u=1\/u=2:=by omega
  rcases this with rfl | rfl | rfl
  ·exact ⟨_,.inl rfl,rfl⟩
  ·exact ⟨_,.inl rfl,rfl⟩
  ·exact ⟨_,.inr rfl,rfl⟩
 obtain ⟨v,hv,epk⟩:=hpk
 ac_nf0
 rw [epk]
 ac_nf0
 simp only [zhx,zkM,zaV,zaP,pure_bind,bind_assoc,zas,zdp ec2]
 rw [qaH,zqh ht.1 ht.2]
 ac_nf0
 simp only [ziJ]
 have hlc:=(qac.mp ec2).1
 refine k v _ hv ?_ ?_
 ·obtain ⟨y,ey⟩:=x2.1
  exact ⟨y,by rw [qao hbc];exact ey⟩
 ·rw [List.map_set]
  exact qai hlc
theorem zjE (P:Pz m os) {tk ot:List Int} (htk:Tk os tk) {b c:Nat} (hbc:c≠b) {s4:Option D}: ∀ (ts:List Int) (j:Nat) (rs:List Rat) {h:Hh} {x6 x7 x8 x9 x10 x11:Option D} {Q:Out->Hh->Prop},Bx b h->h[c]? = some (.lst (rs.map qD))->j+ts.length<=m.toNat->ts.Nodup->(∀ t∈ts,(0<=t/\t<m)/\rs.getD t.toNat 0=0)->(∀ t∈zd0 os tk,rs.getD t.toNat 0=0/\t∉ts)->Bz m (zj7 os tk ot) rs j->
  (∀ rs' y6 y7 y8 y9 y10 y11 h',Bz m (zj7 os tk ot) rs' m.toNat->(∀ t∈zd0 os tk,rs'.getD t.toNat 0=0)->Bx b h'->h'[c]? = some (.lst (rs'.map qD))->Q (.nx [some (.cel b),some (zbq m os),some (.lst (tk.map D.int)),some (.lst (ot.map D.int)),s4,some (.cel c),y6,y7,y8,y9,y10,y11]) h')->
  wp (za3 (fun x sd=>do let sd1<-zaM 6 x sd;zbU sd1) (ts.map D.int) [some (.cel b),some (zbq m os),some (.lst (tk.map D.int)),some (.lst (ot.map D.int)),s4,some (.cel c),x6,x7,x8,x9,x10,x11]) h Q
 | [],j,rs,h,x6,x7,x8,x9,x10,x11,Q,q,ec,hj,nd,hz,hh,bz,k=>by
  rw [List.map_nil,zc2,zar]
  have hb: ∀ d,Bz m (zj7 os tk ot) rs (j+d):=fun d=>by
   induction d with
   | zero=>exact bz
   | succ d ih=>exact ih.next
  have:=hb (m.toNat - j)
  rw [show j+(m.toNat - j)=m.toNat by simp at hj;omega] at this
  exact k rs _ _ _ _ _ _ h this (fun t ht=>(hh t ht).1) q ec
 | t::r,j,rs,h,x6,x7,x8,x9,x10,x11,Q,q,ec,hj,nd,hz,hh,bz,k=>by
  have m0:=P.s.m0
  have m1:=P.s.m1
  rw [qaE] at hj
  rw [List.nodup_cons] at nd
  obtain ⟨ht1,ht2⟩:=hz t qau
  have cc:=zna P (tk:=tk) (ot:=ot)
  have ih:=fun (rs':List Rat) (h':Hh) (x6 x7 x8 x9 x10 x11:Option D)=>zjE P (tk:=tk) (ot:=ot) htk hbc (s4:=s4) r (j+1) rs' (h:=h') (x6:=x6) (x7:=x7) (x8:=x8) (x9:=x9) (x10:=x10) (x11:=x11) (Q:=Q)
  have z:=bz.rz m1 (by omega)
  have rl:=fun (x8 x9 x10 x11:Option D) (Q:Out->Hh->Prop)=>ze3 z ec (t:=t) (s0:=some (.cel b)) (s1:=some (zbq m os)) (s2:=some (.lst (tk.map D.int))) (s3:=some (.lst (ot.map D.int))) (s4:=s4) (zj7 os tk ot) none x8 x9 x10 x11 (P:=Q) (fun o ho=>⟨⟨cc.up o ho,fun y hy=>by
      have:=cc.bd o ho y hy
      have:=bz.ln
      omega,by have:=P.s.olen o (zfk o ho);omega,by
      have h1:=cc.pp o ho
      have h3:o.2.natAbs<=2^64:=by omega
      exact zaz (n:=64) (by decide) h3⟩,by have h1:=cc.pp o ho;omega⟩) (fun r h=>by cases h)
  have hrest: ∀ {v:Rat},(∀ y∈r,(0<=y/\y<m)/\(rs.set t.toNat v).getD y.toNat 0=0)/\ ∀ y∈zd0 os tk,(rs.set t.toNat v).getD y.toNat 0=0/\y∉r:=fun {v}=>by
   refine ⟨fun y hy=> ?_,fun y hy=> ?_⟩
   ·obtain ⟨g1,g2⟩:=hz y (qan _ hy)
    refine ⟨g1,Eq.trans ?_ g2⟩
    have hne:t≠y:=fun z=>nd.1 (z▸hy)
    simp only [List.getD]
    rw [qao (by omega)]
   ·obtain ⟨g1,g2⟩:=hh y hy
    have hb:=ziU P htk y hy
    refine ⟨Eq.trans ?_ g1,fun z=>g2 (qan _ z)⟩
    have hne:t≠y:=fun z=>g2 (z▸qau)
    simp only [List.getD]
    rw [qao (by omega)]
  rw [qaM,zbK]
  generalize za3 (fun x sd=>do let sd1<-zaM 6 x sd;zbU sd1) (r.map D.int)=rest at ih ⊢
  simp only [zbU]
  generalize hT:(zfS (cOp dIx (zbo (zab (zae 7) (zab (zae 7) (zab (zau (zaj 2 F_40) (zab (cOp dIx (zae 7) (cK (.int 0))) (zab (cOp zca (cOp dIx (zae 7) (cK (.int 1))) (cK (.int 2))) zai))) zai)))) (zau (zaj 2 F_31) (zab (zae 0) (zab (cK (.int 3)) zai)))) (zhR (zae 5) (zae 6)))=TL
  ac_nf0
  rw [zlM P,zar]
  ac_nf0
  rw [show some (D.non)=some (rmD none) from rfl]
  refine rl _ _ _ _ _ fun y8 y9 y10 y11=> ?_
  ac_nf0
  cases hroom:(zj7 os tk ot).foldl (rmF rs t) none with
  | none=>
   rw [show zjb (rmD none) .non=pure (.bl true) from rfl]
   ac_nf0
   subst hT
   rw [<- ztT]
   refine znh hbc (q:=((9:Int):Rat)) (by decide +kernel) (by have:=bz.ln;omega) q ec fun v h' hv q' ec'=> ?_
   have hv':0<=v/\v<=((2^64:Int):Rat)/\v.den<=3:=by
    rcases hv with rfl | rfl
    ·exact zsa
    ·exact ztp
   exact ih _ _ _ _ _ _ _ _ q' ec' (by omega) nd.2 hrest.1 hrest.2 (bz.any cc ht1 ht2 (zkw _ _ hroom) hv'.1 hv'.2.1 hv'.2.2) k
  | some room=>
   rw [show zjb (rmD (some room)) .non=pure (.bl false) from rfl]
   ac_nf0
   subst hT
   rw [show rmD (some room)=qD room from rfl]
   refine znh hbc (zov bz (by omega) cc (by omega) hroom) (by have:=bz.ln;omega) q ec fun v h' hv q' ec'=> ?_
   have bz2:Bz m (zj7 os tk ot) (rs.set t.toNat v) (j+1):=by
    rcases hv with rfl | rfl
    ·have:=bz.step cc ht1 ht2 hroom (a:=1) (c:=1) (by decide)
     rw [Int.mul_one,Nat.mul_one,Rat.mkRat_self] at this
     exact this
    ·have:=bz.step cc ht1 ht2 hroom (a:=1) (c:=2) (by decide)
     rw [Int.mul_one] at this
     exact this
   exact ih _ _ _ _ _ _ _ _ q' ec' (by omega) nd.2 hrest.1 hrest.2 bz2 k
theorem zkI: ∀ (a b:List Rat),dp (a++b)=dp a*dp b
 | [],b=>by show dp b=1*dp b;rw [Nat.one_mul]
 | x::a,b=>by
  show x.den*dp (a++b)=x.den*dp a*dp b
  rw [zkI a b,Nat.mul_assoc]
structure Od (r:Rat) (d:D):Prop where
 v:sv d
 n:(zef d).num.natAbs<=2^1770
 d:(zef d).den<=4*r.den
theorem zqK {r:Rat} {d:D} (v:sv d) (h:zef d=0):Od r d:=⟨v,by rw [h];exact Nat.zero_le _,by rw [h];have:=r.den_pos;show 1<=_;omega⟩
theorem zj5 {d:D} (k:kn d=true) (h: ∀ ds,d≠ .tup ds):sv d:=⟨k,fun ds e=>absurd e (h ds)⟩
theorem zgh {x y:D} (kx:kn x=true) (ky:kn y=true) (h: ∀ b,y= .int b->b.toNat<bb):sv (.tup [x,y]):=⟨rfl,fun ds e=>by
  cases e
  refine ⟨fun z hz=> ?_,fun a b e=> ?_⟩
  · simp only [qaP,qaF,or_false] at hz
    rcases hz with rfl | rfl
    · exact kx
    · exact ky
  · simp only [List.cons.injEq,and_true] at e
    exact h b e.2⟩
theorem zeu {r:Rat} {a:Int} {b:Int} (ha:a.natAbs<=2^1770) (hb:b.toNat<=4*r.den) (hr:r.den<=2^1700):Od r (.tup [.int a,.int b]):=by
 have hbb:b.toNat<bb:=by
  have h1:4*r.den<=2^(2+1700):=zdD (by decide) hr
  exact Nat.lt_of_le_of_lt (qaS hb h1) (qaw (Nat.pow_lt_pow_right (by decide) (by decide:2+1700<2001)) (zfH (by decide)))
 refine ⟨zgh rfl rfl fun b' e=>by cases e;exact hbb,?_,?_⟩
 ·show (mkRat a b.toNat).num.natAbs<=_
  by_cases h0:b.toNat=0
  ·rw [h0,Rat.mkRat_zero]
   exact Nat.zero_le _
  ·exact qaS (zfY a (by omega)) ha
 ·show (mkRat a b.toNat).den<=_
  by_cases h0:b.toNat=0
  ·rw [h0,Rat.mkRat_zero]
   have:=r.den_pos
   show 1<=_
   omega
  ·exact qaS (zed a (by omega)) hb
structure Fz (rs:List Rat):Prop where
 ln:1<=rs.length/\rs.length<=10
 dd:dp rs<=2^1700
 nn: ∀ r∈rs,r.num.natAbs<=2^1764
theorem Fz.den {rs:List Rat} (z:Fz rs) {r:Rat} (hr:r∈rs):r.den<=2^1700:=qaS (ziA hr) z.dd
theorem zpC {rs:List Rat} (z:Fz rs) {r:Rat} (hr:r∈rs):sv (qD r):=zsn (zaz (n:=1700) (by decide) (z.den hr))
theorem zqA {rs:List Rat} (hl:rs.length<=12) (hd:dp rs<=2^1800) (hn: ∀ r∈rs,r.num.natAbs<=2^1770/\r.den<=2^1800):gt (.tup (rs.map qD)):=⟨rfl,fun ds e=>by
  cases e
  refine ⟨by rw [qaH];omega,fun x hx=> ?_,fun _=> ?_⟩
  · obtain ⟨r,hr,rfl⟩:=qaU.mp hx
    exact zsn (zaz (n:=1800) (by decide) (hn r hr).2)
  · rw [ziv]
    exact ⟨qaS hd (Nat.pow_le_pow_right (by decide) (by decide)),hl,fun r hr=>qaS (hn r hr).1 (Nat.pow_le_pow_right (by decide) (by decide))⟩⟩
theorem Fz.sub {rs xs:List Rat} (z:Fz rs) (h:xs.Sublist rs):gt (.tup (xs.map qD)):=zqA (by have:=h.length_le;have:=z.ln;omega) (qaS (ziC h) (qaS z.dd (Nat.pow_le_pow_right (by decide) (by decide)))) fun r hr=>⟨qaS (z.nn r (h.subset hr)) (Nat.pow_le_pow_right (by decide) (by decide)),qaS (z.den (h.subset hr)) (Nat.pow_le_pow_right (by decide) (by decide))⟩
theorem zmQ {rs:List Rat} (z:Fz rs) {t:Nat} (ht:t<rs.length) {d:D} (o:Od rs[t] d):gt (.tup ((rs.take t).map qD++d::(rs.drop (t+1)).map qD)):=⟨rfl,fun ds e=>by
  have e:(rs.take t).map qD++d::(rs.drop (t+1)).map qD=ds:=by cases e;rfl
  subst e
  have hl:=z.ln
  have er:rs=rs.take t++rs[t]::rs.drop (t+1):=by simp
  have hd:dp rs=dp (rs.take t)*(rs[t].den*dp (rs.drop (t+1))):=by
    conv=>lhs;rw [er]
    rw [zkI]
    rfl
  refine ⟨by simp;omega,fun x hx=> ?_,fun _=> ?_⟩
  · rcases qaK.mp hx with h | h
    · obtain ⟨r,hr,rfl⟩:=qaU.mp h
      exact zpC z (List.mem_of_mem_take hr)
    · rcases qaP.mp h with rfl | h
      · exact o.v
      · obtain ⟨r,hr,rfl⟩:=qaU.mp h
        exact zpC z (List.mem_of_mem_drop hr)
  · rw [List.map_append,qaM,ziv,ziv]
    refine ⟨?_,by simp;omega,fun r hr=> ?_⟩
    · rw [zkI]
      show dp (rs.take t)*((zef d).den*dp (rs.drop (t+1)))<=_
      have h1:(zef d).den*dp (rs.drop (t+1))<=4*rs[t].den*dp (rs.drop (t+1)):=Nat.mul_le_mul_right _ o.d
      have h2:dp (rs.take t)*((zef d).den*dp (rs.drop (t+1)))<=dp (rs.take t)*(4*rs[t].den*dp (rs.drop (t+1))):=Nat.mul_le_mul_left _ h1
      have h3:dp (rs.take t)*(4*rs[t].den*dp (rs.drop (t+1)))=4*dp rs:=by
        rw [hd,Nat.mul_assoc,Nat.mul_left_comm]
      have h4:4*dp rs<=2^(2+1700):=zdD (by decide) z.dd
      have h5:(2:Nat)^(1+1700)<=2^2000:=Nat.pow_le_pow_right (by decide) (by decide)
      omega
    · rcases qaK.mp hr with h | h
      · exact qaS (z.nn r (List.mem_of_mem_take h)) (Nat.pow_le_pow_right (by decide) (by decide))
      · rcases qaP.mp h with rfl | h
        · exact qaS o.n (Nat.pow_le_pow_right (by decide) (by decide))
        · exact qaS (z.nn r (List.mem_of_mem_drop h)) (Nat.pow_le_pow_right (by decide) (by decide))⟩
theorem znN {d:D} (k:kn d=true) (h: ∀ ds,d≠ .tup ds):gt d:=⟨k,fun ds e=>absurd e (h ds)⟩
theorem Bz.fz {rs:List Rat} (bz:Bz m os rs m.toNat) (m0:1<=m) (m1:m<=10):Fz rs where
 ln:=by have:=bz.ln;omega
 dd:=qaS bz.dd (zd9 (by omega))
 nn:=fun r hr=>by
  have h1:=zk8 (bz.nn r hr) (bz.le r hr)
  have h2:=qaS (ziA hr) (qaS bz.dd (zd9 (j:=m.toNat) (by omega)))
  have h3:2^64*r.den<=2^(64+1700):=zdD (qaV _) h2
  exact qaS h1 h3
theorem ztS {r:Rat} (h:0<=r):pS (qD r)=true:=by
 have h1:=ztD r
 unfold qD at h1 ⊢
 rw [zo9 h1,qaD]
 exact Rat.num_nonneg.mpr h
structure Bq (m:Int) (os:List (List Int×Int)) (tk ot:List Int) (rs:List Rat):Prop where
 fz:Fz rs
 ln:(rs.length:Int)=m
 nn: ∀ r∈rs,0<=r
 bq:bq os tk ot rs=true
theorem Bq.sh {tk ot:List Int} {rs:List Rat} (b:Bq m os tk ot rs):shB m (.tup (rs.map qD))=true:=by
 rw [shB,qaH,qaG,beq_iff_eq]
 refine ⟨b.ln,List.all_eq_true.mpr fun d hd=> ?_⟩
 obtain ⟨r,hr,rfl⟩:=qaU.mp hd
 exact ztS (b.nn r hr)
theorem Bq.val {tk ot:List Int} {rs:List Rat} (b:Bq m os tk ot rs):zg2 m os tk ot (.tup (rs.map qD))=some (qs (rs++[((L3.pr os tk:Int):Rat)])):=by
 rw [zfA b.sh,b.bq,qa4 rfl]
theorem zgj (P:Pz m os) {tk ot:List Int} (ht:Tk os tk) {b:Nat} {h:Hh} {Q:D->Hh->Prop} (q:Bx b h) (k: ∀ rs h',Bq m os tk ot rs->Bx b h'->Q (.tup [.str "bear",.tup (rs.map qD)]) h'):wp (F_44 [.cel b,zbq m os,.lst (tk.map D.int),.lst (ot.map D.int)]) h Q:=by
 have m0:=P.s.m0
 have m1:=P.s.m1
 have cc:=zna P (tk:=tk) (ot:=ot)
 have ecl:zbl (za6 (zaM 0) (fun _=>pure true) zbV [none]) (zfC 0 m.toNat)=pure ((List.replicate m.toNat (0:Rat)).map qD):=by
  have key: ∀ ds:List D,zbl (za6 (zaM 0) (fun _=>pure true) zbV [none]) ds=pure (ds.map fun _=>qD 0):=fun ds=>by
   induction ds with
   | nil=>rfl
   | cons d r ih=>
    rw [zbl,ih]
    simp only [za6,zbV]
    ac_nf0
    rfl
  rw [key]
  congr 1
  rw [zdx,qaT,qaT,List.map_replicate]
  refine List.eq_replicate_iff.mpr ⟨by simp,fun x hx=> ?_⟩
  obtain ⟨_,_,rfl⟩:=qaU.mp hx
  rfl
 have hb:b<h.length:=by
  obtain ⟨y,ey⟩:=q
  exact (qac.mp ey).1
 rw [d_44]
 simp only [G_44]
 ac_nf0
 rw [zkO P.s ht]
 ac_nf0
 unfold zh4
 ac_nf0
 rw [zr7]
 ac_nf0
 rw [zcY (by omega) (by omega)]
 ac_nf0
 rw [zeZ,zaD (show m.toNat<=1000 by omega)]
 ac_nf0
 rw [show ∀ sd:Sd,zap [none] sd=[none] from fun _=>rfl,ecl]
 ac_nf0
 have ec: ∀ {s0 s2 s3 s5 s6 s7 s8 s9 s10 s11:Option D},zaB (zhE (zab (cOp dIx (zae 1) (cK (.int 0))) zai)) (zaM 0) zcL zcM [none,some 4] [s0,some (zbq m os),s2,s3,some (.tup ((zd0 os tk).map D.int)),s5,s6,s7,s8,s9,s10,s11]=pure (.lst (((rgI m.toNat).filter fun t=> !(zd0 os tk).any (· == t)).map D.int)):=fun {s0 s2 s3 s5 s6 s7 s8 s9 s10 s11}=>by
  rw [<- zcn]
  refine zbu (g':=D.int) (by
    ac_nf0
    rw [zr7]
    ac_nf0
    rw [zcY (by omega) (by omega),zdx]
    rfl) (by simp [rgI];omega) fun t hx=> ?_
  rw [show zap [none,some 4] [s0,some (zbq m os),s2,s3,some (.tup ((zd0 os tk).map D.int)),s5,s6,s7,s8,s9,s10,s11]=[none,some (.tup ((zd0 os tk).map D.int))] from rfl]
  simp only [za6,zcL,zcM]
  ac_nf0
  rw [zco]
  ac_nf0
  split<;>rfl
 rw [ec,zar]
 ac_nf0
 refine zjE P ht (b:=b) (c:=h.length) (by omega) ((rgI m.toNat).filter fun t=> !(zd0 os tk).any (· == t)) 0 (List.replicate m.toNat 0) (q.push).1 (by simp) ?_ ?_ ?_ ?_ (Bz.init cc) fun rs y6 y7 y8 y9 y10 y11 h' bz hz q' ec'=> ?_
 ·have:=List.length_filter_le (fun t=> !(zd0 os tk).any (· == t)) (rgI m.toNat)
  simp [rgI] at this ⊢
  omega
 ·exact ((zj8 _).imp fun z=>by omega:(rgI m.toNat).Nodup).filter _
 ·intro t hx
  have:=zgV t (List.mem_filter.mp hx).1
  exact ⟨by omega,zhM _⟩
 ·intro t hx
  refine ⟨zhM _,fun z=> ?_⟩
  have:=(List.mem_filter.mp z).2
  simp at this
  exact this t hx rfl
 ·ac_nf0
  rw [show zcT [.cel h.length]=(zaw h.length>>=fun ds=>pure (.tup ds):M D) from rfl]
  simp only [zas,zdp ec',zar]
  ac_nf0
  refine k rs h' ⟨bz.fz m0 m1,by have:=bz.ln;omega,bz.nn,?_⟩ q'
  rw [K41.bq,qaG,List.all_eq_true,List.all_eq_true]
  refine ⟨fun t ht=>by rw [hz t ht];rfl,fun j hj=>(zqF _ _).mpr (bz.bd _ ?_)⟩
  unfold zj7 zcU
  exact qaU.mpr ⟨j,hj,rfl⟩
inductive Sh:Nat->D->Prop
 | bear {n:Nat} {rs:List Rat} (z:Fz rs):Sh (n+1) (.tup [.str "bear",.tup (rs.map qD)])
 | cases {n:Nat} {j:Int} {a b:D} (ha:Sh n a) (hb:Sh n b):Sh (n+1) (.tup [.str "cases",.int j,a,b])
theorem zkj (r:Rat):good (qD r)=true:=by simp [qD,good,zdf]
theorem ziG {rs:List Rat} (h:rs.length<64):good (.tup (rs.map qD))=true:=zn3.mpr ⟨by rw [qaH];exact h,fun d hd=>by
  obtain ⟨r,_,rfl⟩:=qaU.mp hd
  exact zkj r⟩
theorem zbZ:good (.str "bear")=true:=zft
theorem zbc:good (.str "cases")=true:=zfc
theorem zhf:good (.str "case")=true:=by decide +kernel
theorem gl {ds:List D} (h:ds.length<64) (g: ∀ d∈ds,good d=true):good (.tup ds)=true:=zn3.mpr ⟨h,g⟩
theorem Sh.good {n:Nat} {d:D} (s:Sh n d):L3.good d=true:=by
 induction s with
 | bear z=>
  have:=z.ln
  refine gl (show 2<64 by decide) fun d hd=> ?_
  simp only [qaP,qaF,or_false] at hd
  rcases hd with rfl | rfl
  ·exact zbZ
  ·exact ziG (by omega)
 | cases ha hb ia ib=>
  refine gl (show 4<64 by decide) fun d hd=> ?_
  simp only [qaP,qaF,or_false] at hd
  rcases hd with rfl | rfl | rfl | rfl
  ·exact zbc
  ·rfl
  ·exact ia
  ·exact ib
theorem Sh.gp {n:Nat} {d:D} (s:Sh n d):K41.gp n d:=by
 induction s with
 | @bear n rs z=>
  refine ⟨rfl,fun ds e=> ?_⟩
  have g:=(Sh.bear (n:=n) z).good
  injection e with e
  subst e
  refine ⟨g,fun x y e _=> ?_,fun x y a b e _=>(by cases e)⟩
  injection e with _ e
  injection e with e _
  subst e
  exact z.sub (List.Sublist.refl _)
 | @cases n j a b ha hb ia ib=>
  refine ⟨rfl,fun ds e=> ?_⟩
  have g:=(Sh.cases (j:=j) ha hb).good
  injection e with e
  subst e
  refine ⟨g,fun x y e _=>(by cases e),fun x y c d e _=> ?_⟩
  cases e
  exact ⟨ia,ib⟩
def Rb (n:Nat) (d:D):Prop:=K41.gp n d/\L3.good d=true
theorem Sh.rb {n:Nat} {d:D} (s:Sh n d):Rb n d:=⟨s.gp,s.good⟩
theorem zjY {n:Nat} {ds:List D} (g:L3.good (.tup ds)=true) (h1: ∀ x y,ds=[x,y]->isW "bear" x=true->gt y) (h2: ∀ x y a b,ds=[x,y,a,b]->isW "cases" x=true->K41.gp n a/\K41.gp n b):Rb (n+1) (.tup ds):=⟨⟨rfl,fun es e=>by injection e with e;subst e;exact ⟨g,h1,h2⟩⟩,g⟩
theorem zmz {n:Nat} {d:D} (g:L3.good d=true) (h: ∀ ds,d≠ .tup ds):Rb (n+1) d:=⟨⟨zf9 g,fun ds e=>absurd e (h ds)⟩,g⟩
theorem zdP {n:Nat} {y:D} (g:gt y) (gy:L3.good y=true):Rb (n+1) (.tup [.str "bear",y]):=zjY (gl (by show 2<64;decide) fun d hd=>by
    simp only [qaP,qaF,or_false] at hd
    rcases hd with rfl | rfl
    · exact zbZ
    · exact gy) (fun x z e _=>by cases e;exact g) fun x y a b e _=>by cases e
theorem zd3 {n:Nat} {j:Int} {a b:D} (ha:Rb n a) (hb:Rb n b):Rb (n+1) (.tup [.str "cases",.int j,a,b]):=zjY (gl (by show 4<64;decide) fun d hd=>by
    simp only [qaP,qaF,or_false] at hd
    rcases hd with rfl | rfl | rfl | rfl
    · exact zbc
    · rfl
    · exact ha.2
    · exact hb.2) (fun x z e _=>by cases e) fun x y a b e _=>by cases e;exact ⟨ha.1,hb.1⟩
theorem zb4 {n:Nat} {ds:List D} (hl:ds.length<60) (g: ∀ d∈ds,L3.good d=true) (h:ds.length≠2/\ds.length≠4\/ ∃ x r,ds=x::r/\isW "bear" x=false/\isW "cases" x=false):Rb (n+1) (.tup ds):=zjY (gl (by omega) g) (fun x y e w=>by
    subst e
    rcases h with ⟨h,_⟩ | ⟨x',r,e,b1,b2⟩
    · exact absurd rfl h
    · injection e with e _
      subst e
      rw [b1] at w
      cases w) fun x y a b e w=>by
  subst e
  rcases h with ⟨_,h⟩ | ⟨x',r,e,b1,b2⟩
  ·exact absurd rfl h
  ·injection e with e _
   subst e
   rw [b2] at w
   cases w
theorem zlV (P:Pz m os) {b:Nat}: ∀ (n f:Nat) {tk ot:List Int} {h:Hh} {Q:D->Hh->Prop},n<f->Tk os tk->Tk os ot->Bx b h->(∀ d h',(∀ N,n<N->Sh N d/\ ∃ v,wv m os N tk ot d=some v)->Bx b h'->Q d h')->wp (F_45 f [.cel b,zbq m os,.lst (tk.map D.int),.lst (ot.map D.int),.int (n:Int)]) h Q:=by
 intro n
 have hbear: ∀ {tk ot:List Int} {rs:List Rat},Bq m os tk ot rs-> ∀ N,0<N->Sh N (.tup [.str "bear",.tup (rs.map qD)])/\ ∃ v,wv m os N tk ot (.tup [.str "bear",.tup (rs.map qD)])=some v:=fun {tk ot rs} bq N hN=>by
  obtain ⟨M,rfl⟩: ∃ M,N=M+1:=⟨N - 1,by omega⟩
  refine ⟨.bear bq.fz,qs (rs++[((L3.pr os tk:Int):Rat)]),?_⟩
  rw [zht]
  simp only [show isW "bear" (.str "bear")=true from beq_self_eq_true _,if_true]
  exact bq.val
 induction n with
 | zero=>
  intro f tk ot h Q hf h1 h2 q k
  obtain ⟨f,rfl⟩: ∃ g,f=g+1:=⟨f - 1,by omega⟩
  rw [d_45]
  generalize F_45 f=rec
  simp only [G_45]
  ac_nf0
  rw [zei P.s]
  ac_nf0
  rw [zid,show (((0:Nat):Int)==0)=true from rfl]
  ac_nf0
  refine zgj P h1 q fun rs h' bq q'=> ?_
  ac_nf0
  exact k _ h' (hbear bq) q'
 | succ n ih=>
  intro f tk ot h Q hf h1 h2 q k
  obtain ⟨f,rfl⟩: ∃ g,f=g+1:=⟨f - 1,by omega⟩
  have ih:=fun {tk ot:List Int} {h:Hh} {Q:D->Hh->Prop}=>ih f (tk:=tk) (ot:=ot) (h:=h) (Q:=Q) (by omega)
  have ol:=P.s.len
  have fl:=zlo (os:=os) (tk:=tk) (ot:=ot)
  have tl:=h1.len
  have tl2:=h2.len
  rw [d_45]
  generalize F_45 f=rec at ih
  simp only [G_45]
  generalize hT:(zal (za5 6 (cOp dIx (zae 5) (zau (zaj 2 F_31) (zab (zae 0) (zab (zau zek (zab (zae 5) zai)) zai))))) (zal (za5 7 (zau (zaj 5 rec) (zab (zae 0) (zab (zae 1) (zab (cOp zbb (zae 2) (zbo (zab (zae 6) zai))) (zab (zae 3) (zab (cOp zjt (zae 4) (cK (.int 1))) zai))))))) (zbg (zaG (zab (cK (.str "cases")) (zab (zae 6) (zab (zae 7) (zab (zau (zaj 5 rec) (zab (zae 0) (zab (zae 1) (zab (zae 2) (zab (cOp zbb (zae 3) (zbo (zab (zae 6) zai))) (zab (cOp zjt (zae 4) (cK (.int 1))) zai)))))) zai))))))))=TL
  ac_nf0
  rw [zei P.s]
  ac_nf0
  rw [zid,show (((n+1:Nat):Int)==0)=false by rw [beq_eq_false_iff_ne];omega]
  ac_nf0
  have ee:dEq (.lst ((frL os tk ot).map D.int)) (.lst [])=pure (.bl (frL os tk ot==[])):=by
   have:=zpa (frL os tk ot) []
   rw [List.map_nil] at this
   exact this
  rw [ee]
  ac_nf0
  cases hl:frL os tk ot==[] with
  | true=>
   ac_nf0
   refine zgj P h1 q fun rs h' bq q'=> ?_
   ac_nf0
   exact k _ h' (fun N hN=>hbear bq N (by omega)) q'
  | false=>
   have hne:frL os tk ot≠[]:=fun z=>by rw [z] at hl;cases hl
   have hpos:0<(frL os tk ot).length:=List.length_pos_iff.mpr hne
   ac_nf0
   refine zaU q (by decide) (by decide) fun t h2' t0 t1 x2=> ?_
   rw [zid]
   ac_nf0
   cases ht:t==0 with
   | true=>
    ac_nf0
    refine zgj P h1 x2.1 fun rs h' bq q'=> ?_
    ac_nf0
    exact k _ h' (fun N hN=>hbear bq N (by omega)) q'
   | false=>
    ac_nf0
    subst hT
    ac_nf0
    refine zaU x2.1 (by omega) (by omega) fun u h3 u0 u1 x3=> ?_
    have hu:u.toNat<(frL os tk ot).length:=by omega
    have ea:atI ((frL os tk ot).map D.int) u=some (.int (frL os tk ot)[u.toNat]):=by
     have:=zc6 (xs:=(frL os tk ot).map D.int) (j:=u.toNat) (v:= .int (frL os tk ot)[u.toNat]) (by simp [hu])
     rw [Int.toNat_of_nonneg u0] at this
     exact this
    have hj:(frL os tk ot)[u.toNat]∈frL os tk ot:=List.getElem_mem hu
    generalize (frL os tk ot)[u.toNat]=j at ea hj
    ac_nf0
    rw [ea]
    ac_nf0
    rw [zaD (show tk.length+1<=1000 by omega)]
    ac_nf0
    rw [show (((n+1:Nat):Int)) - 1=(n:Int) by omega,show tk.map D.int++[D.int j]=(tk++[j]).map D.int by simp]
    refine ih (h1.more hj) h2 x3.1 fun a h4 ha q4=> ?_
    ac_nf0
    rw [zaD (show ot.length+1<=1000 by omega)]
    ac_nf0
    rw [show ot.map D.int++[D.int j]=(ot++[j]).map D.int by simp]
    refine ih h1 (h2.out hj) q4 fun b' h5 hb q5=> ?_
    ac_nf0
    refine k _ h5 (fun N hN=> ?_) q5
    obtain ⟨M,rfl⟩: ∃ M,N=M+1:=⟨N - 1,by omega⟩
    obtain ⟨sa,va,ea'⟩:=ha M (by omega)
    obtain ⟨sb,vb,eb'⟩:=hb M (by omega)
    refine ⟨.cases sa sb,?_⟩
    rw [zht]
    have hjj:(frL os tk ot).any (· == j)=true:=List.any_eq_true.mpr ⟨j,hj,by simp⟩
    simp only [show isW "cases" (.str "cases")=true from beq_self_eq_true _,hjj,Bool.true_and,if_true,ea',eb']
    exact ⟨_,rfl⟩
theorem ztq:isW "bear" (.str "cases")=false:=by decide +kernel
theorem zsO:isW "cases" (.str "bear")=false:=by decide +kernel
theorem zmu:isW "bear" (.str "case")=false/\isW "cases" (.str "case")=false:=by decide +kernel
theorem zmS (x:Str):isW x (.str x)=true:=beq_self_eq_true _
theorem zr4 {x y a b:D} {P:D->Prop} (hx:P x) (hy:P y) (ha:P a) (hb:P b): ∀ d∈[x,y,a,b],P d:=fun d hd=>by
 simp only [qaP,qaF,or_false] at hd
 rcases hd with rfl | rfl | rfl | rfl
 ·exact hx
 ·exact hy
 ·exact ha
 ·exact hb
theorem zpA {n:Nat} {d:D} (s:Sh n d): ∃ ds,d= .tup ds:=by
 cases s with
 | bear z=>exact ⟨_,rfl⟩
 | cases ha hb=>exact ⟨_,rfl⟩
theorem zi2 {n:Nat} {j:Int} {a b':D} (ha:Sh n a) (hb:Sh n b') {b:Nat} {h:Hh} {s2 s3 s4 s5 s6 s7:Option D} (q:Bx b h) {Q:Out->Hh->Prop} (k: ∀ d' h',Rb (n+1) d'->Bx b h'->Q (.rt d') h'):
  wp ((zal (za5 2 (zbo (zab (zau zfz (zab (zae 1) zai)) (zab (cSl (zae 1) zbx (zbt (cK (.int 1)))) (zab (cOp zbb (zae 1) (cSl (zae 1) (zbt (cUn zju (cK (.int 1)))) zbx)) (zab (cOp zbb (zaG (zab (cK (.str "case")) zai)) (cSl (zae 1) (zbt (cK (.int 1))) zbx)) (zab (cK .non) (zab (zaG zai) (zab (cUn znF (zae 1)) (zab (zaG (zab (cK (.str "bear")) (zab (cK .non) zai))) zai)))))))))) (zal (sIf (zbM dEq (cOp dIx (zae 1) (cK (.int 0))) (cK (.str "bear"))) (zal (za5 3 (zau (zaj 2 F_31) (zab (zae 0) (zab (zau zek (zab (cOp dIx (zae 1) (cK (.int 1))) zai)) zai)))) (zal (zfS (cOp dIx (cOp dIx (zae 1) (cK (.int 1))) (zae 3)) (zcX 2 (zaR (zaM 4) (zaR (zaM 5) zc7)))) (zal (za5 6 (zbo (zab (zaG (zab (cOp zbb (zae 4) (zae 5)) (zab (zae 5) zai))) (zab (zaG (zab (zae 4) (zab (cOp zdh (zae 5) (cK (.int 3))) zai))) (zab (zaG (zab (cUn zju (cK (.int 1))) (zab (cK (.int 1)) zai))) (zab (zaG (zab (cK (.int 2)) (zab (cK (.int 0)) zai))) (zab (zaG (zab (cK (.bl true)) (zab (cK (.int 1)) zai))) (zab (cK .non) (zab (zaG (zab (cOp zdh (cK (.int 2)) (zae 4)) (zab (cOp zdh (cK (.int 2)) (zae 5)) zai))) zai))))))))) (zal (za5 7 (cOp zbb (cOp zbb (cSl (cOp dIx (zae 1) (cK (.int 1))) zbx (zbt (zae 3))) (zaG (zab (cOp dIx (cOp zbb (zae 6) (zbo (zab (zaG (zab (cK (.int 7)) (zab (cK (.int 1)) zai))) zai))) (zau (zaj 2 F_31) (zab (zae 0) (zab (cK (.int 8)) zai)))) zai))) (cSl (cOp dIx (zae 1) (cK (.int 1))) (zbt (cOp zbb (zae 3) (cK (.int 1)))) zbx))) (za5 2 (cOp zbb (zae 2) (zbo (zab (zaG (zab (cK (.str "bear")) (zab (zae 7) zai))) (zab (zaG (zab (cK (.str "bear")) (zab (zae 7) zai))) (zab (zaG (zab (cK (.str "bear")) (zab (zae 7) zai))) (zab (zaG (zab (cK (.str "bear")) (zab (zau zfz (zab (zae 7) zai)) zai))) (zab (zaG (zab (cK (.str "bear")) (zab (cSl (zae 7) (zbt (cK (.int 1))) zbx) zai))) zai)))))))))))) zc9) (zbg (cOp dIx (zae 2) (zau (zaj 2 F_31) (zab (zae 0) (zab (zau zek (zab (zae 2) zai)) zai))))))) [some (.cel b),some (.tup [.str "cases",.int j,a,b']),s2,s3,s4,s5,s6,s7]) h Q:=by
 have c1:L3.zfX [D.str "cases",.int j,a,b'] none (some 1)=[.str "cases"]:=rfl
 have c2:L3.zfX [D.str "cases",.int j,a,b'] (some (-1)) none=[b']:=rfl
 have c3:L3.zfX [D.str "cases",.int j,a,b'] (some 1) none=[.int j,a,b']:=rfl
 have eb:=znl (d:= .str "cases") zbc zft
 rw [ztq] at eb
 ac_nf0
 rw [c1,c2,c3]
 ac_nf0
 rw [eb]
 ac_nf0
 refine zaU q (by decide) (by decide) fun t h2 t0 t1 x2=> ?_
 ac_nf0
 refine zfl t0 (by simpa using t1) fun d hd=> ?_
 ac_nf0
 refine k d h2 ?_ x2.1
 have g4:=zr4 (P:=fun d=>L3.good d=true) zbc (show L3.good (.int j)=true from rfl) ha.good hb.good
 simp only [qaP,qaF,or_false] at hd
 rcases hd with rfl | rfl | rfl | rfl | rfl | rfl | rfl | rfl
 ·exact zmz (zkA.mpr ⟨by show 4<64;decide,g4⟩) fun ds e=>by cases e
 ·exact zb4 (by show 1<60;decide) (fun d hd=>by rw [List.mem_singleton.mp hd];exact zbc) (.inl ⟨by show 1≠2;decide,by show 1≠4;decide⟩)
 ·refine zb4 (by show 5<60;decide) (fun d hd=> ?_) (.inl ⟨by show 5≠2;decide,by show 5≠4;decide⟩)
  simp only [qaP,qaF,or_false] at hd
  rcases hd with rfl | rfl | rfl | rfl | rfl
  ·exact zbc
  ·rfl
  ·exact ha.good
  ·exact hb.good
  ·exact hb.good
 ·exact zb4 (by show 4<60;decide) (zr4 (P:=fun d=>L3.good d=true) zhf rfl ha.good hb.good) (.inr ⟨_,_,rfl,zmu.1,zmu.2⟩)
 ·exact zmz rfl fun ds e=>by cases e
 ·exact zb4 (by show 0<60;decide) (fun d hd=>by cases hd) (.inl ⟨by show 0≠2;decide,by show 0≠4;decide⟩)
 ·obtain ⟨ds,rfl⟩:=zpA hb
  exact zb4 (by show 4<60;decide) (zr4 (P:=fun d=>L3.good d=true) hb.good ha.good rfl zbc) (.inr ⟨_,_,rfl,rfl,rfl⟩)
 ·exact zdP (znN rfl fun ds e=>by cases e) rfl
noncomputable def odB (n d:Int):List D:=[.tup [.int (n+d),.int d],.tup [.int n,.int (d*3)],.tup [.int (-1),.int 1],.tup [.int 2,.int 0],.tup [.bl true,.int 1],.non,.tup [.int (2*n),.int (2*d)],.tup [.int 7,.int 1]]
theorem zn1 {r:Rat} (hn:r.num.natAbs<=2^1764) (hr:r.den<=2^1700): ∀ d∈odB r.num (r.den:Int),Od r d/\L3.good d=true:=by
 have hp:=r.den_pos
 have h8:(2:Nat)^1770=64*2^1764:=by
  rw [show (1770:Nat)=6+1764 from rfl,Nat.pow_add]
 have hle:(2:Nat)^1700<=2^1764:=Nat.pow_le_pow_right (by decide) (by decide)
 have hp2:1<=(2:Nat)^1764:=Nat.one_le_two_pow
 have hdn:r.den<=2^1764:=qaS hr hle
 clear hle
 generalize (2:Nat)^1764=T at hn h8 hp2 hdn
 intro d hd
 unfold odB at hd
 simp only [qaP,qaF,or_false] at hd
 rcases hd with rfl | rfl | rfl | rfl | rfl | rfl | rfl | rfl
 ·exact ⟨zeu (by omega) (by omega) hr,by simp [good,zdf]⟩
 ·exact ⟨zeu (by omega) (by omega) hr,by simp [good,zdf]⟩
 ·exact ⟨zeu (by omega) (by omega) hr,by simp [good,zdf]⟩
 ·exact ⟨zeu (by omega) (by omega) hr,by simp [good,zdf]⟩
 ·exact ⟨zqK (zgh rfl rfl fun b e=>by
    cases e
    exact qaw (show (1:Int).toNat<2^1 by decide) (zfH (by decide))) rfl,by simp [good,zdf]⟩
 ·exact ⟨zqK (zj5 rfl fun ds e=>by cases e) rfl,rfl⟩
 ·exact ⟨zeu (by omega) (by omega) hr,by simp [good,zdf]⟩
 ·exact ⟨zeu (by omega) (by omega) hr,by simp [good,zdf]⟩
theorem Fz.tail {r:Rat} {rs:List Rat} (z:Fz (r::rs)) (h:1<=rs.length):Fz rs:=⟨by have:=z.ln;simp at this;omega,qaS (ziC (List.sublist_cons_self r rs)) z.dd,fun x hx=>z.nn x (qan _ hx)⟩
theorem zo5 {rs:List Rat} (z:Fz rs) {t:Nat} (ht:t<rs.length) {d:D} (o:Od rs[t] d):gt (.tup (((rs.take t).map qD++d::(rs.drop (t+1)).map qD).drop 1)):=by
 cases rs with
 | nil=>cases ht
 | cons r rs=>
  cases t with
  | zero=>exact z.sub (xs:=rs) (List.sublist_cons_self r rs)
  | succ t=>
   have ht':t<rs.length:=by simpa using ht
   exact zmQ (z.tail (by omega)) ht' (d:=d) o
theorem zkQ {n:Nat} {rs:List Rat} (z:Fz rs) {b:Nat} {h:Hh} {s2 s3 s4 s5 s6 s7:Option D} (q:Bx b h) {Q:Out->Hh->Prop} (k: ∀ d' h',Rb (n+1) d'->Bx b h'->Q (.rt d') h'):
  wp ((zal (za5 2 (zbo (zab (zau zfz (zab (zae 1) zai)) (zab (cSl (zae 1) zbx (zbt (cK (.int 1)))) (zab (cOp zbb (zae 1) (cSl (zae 1) (zbt (cUn zju (cK (.int 1)))) zbx)) (zab (cOp zbb (zaG (zab (cK (.str "case")) zai)) (cSl (zae 1) (zbt (cK (.int 1))) zbx)) (zab (cK .non) (zab (zaG zai) (zab (cUn znF (zae 1)) (zab (zaG (zab (cK (.str "bear")) (zab (cK .non) zai))) zai)))))))))) (zal (sIf (zbM dEq (cOp dIx (zae 1) (cK (.int 0))) (cK (.str "bear"))) (zal (za5 3 (zau (zaj 2 F_31) (zab (zae 0) (zab (zau zek (zab (cOp dIx (zae 1) (cK (.int 1))) zai)) zai)))) (zal (zfS (cOp dIx (cOp dIx (zae 1) (cK (.int 1))) (zae 3)) (zcX 2 (zaR (zaM 4) (zaR (zaM 5) zc7)))) (zal (za5 6 (zbo (zab (zaG (zab (cOp zbb (zae 4) (zae 5)) (zab (zae 5) zai))) (zab (zaG (zab (zae 4) (zab (cOp zdh (zae 5) (cK (.int 3))) zai))) (zab (zaG (zab (cUn zju (cK (.int 1))) (zab (cK (.int 1)) zai))) (zab (zaG (zab (cK (.int 2)) (zab (cK (.int 0)) zai))) (zab (zaG (zab (cK (.bl true)) (zab (cK (.int 1)) zai))) (zab (cK .non) (zab (zaG (zab (cOp zdh (cK (.int 2)) (zae 4)) (zab (cOp zdh (cK (.int 2)) (zae 5)) zai))) zai))))))))) (zal (za5 7 (cOp zbb (cOp zbb (cSl (cOp dIx (zae 1) (cK (.int 1))) zbx (zbt (zae 3))) (zaG (zab (cOp dIx (cOp zbb (zae 6) (zbo (zab (zaG (zab (cK (.int 7)) (zab (cK (.int 1)) zai))) zai))) (zau (zaj 2 F_31) (zab (zae 0) (zab (cK (.int 8)) zai)))) zai))) (cSl (cOp dIx (zae 1) (cK (.int 1))) (zbt (cOp zbb (zae 3) (cK (.int 1)))) zbx))) (za5 2 (cOp zbb (zae 2) (zbo (zab (zaG (zab (cK (.str "bear")) (zab (zae 7) zai))) (zab (zaG (zab (cK (.str "bear")) (zab (zae 7) zai))) (zab (zaG (zab (cK (.str "bear")) (zab (zae 7) zai))) (zab (zaG (zab (cK (.str "bear")) (zab (zau zfz (zab (zae 7) zai)) zai))) (zab (zaG (zab (cK (.str "bear")) (zab (cSl (zae 7) (zbt (cK (.int 1))) zbx) zai))) zai)))))))))))) zc9) (zbg (cOp dIx (zae 2) (zau (zaj 2 F_31) (zab (zae 0) (zab (zau zek (zab (zae 2) zai)) zai))))))) [some (.cel b),some (.tup [.str "bear",.tup (rs.map qD)]),s2,s3,s4,s5,s6,s7]) h Q:=by
 obtain ⟨l0,l1⟩:=z.ln
 have c1:L3.zfX [D.str "bear",.tup (rs.map qD)] none (some 1)=[.str "bear"]:=rfl
 have c2:L3.zfX [D.str "bear",.tup (rs.map qD)] (some (-1)) none=[.tup (rs.map qD)]:=rfl
 have c3:L3.zfX [D.str "bear",.tup (rs.map qD)] (some 1) none=[.tup (rs.map qD)]:=rfl
 have eb:=znl (d:= .str "bear") zbZ zft
 rw [zmS] at eb
 have gr:=ziG (rs:=rs) (by omega)
 ac_nf0
 rw [c1,c2,c3]
 ac_nf0
 rw [eb]
 ac_nf0
 refine zaU q (by omega) (by omega) fun t h2 t0 t1 x2=> ?_
 have ht:t.toNat<rs.length:=by omega
 have hr:rs.getD t.toNat 0=rs[t.toNat]:=by simp [List.getD,ht]
 have hmem:rs[t.toNat]∈rs:=List.getElem_mem ht
 have hn:=z.nn _ hmem
 have hd:=z.den hmem
 have ho:=zn1 hn hd
 have hset:=fun d (o:Od rs[t.toNat] d)=>zmQ z ht o
 have htl:=fun d (o:Od rs[t.toNat] d)=>zo5 z ht o
 have ea:=zpp (rs:=rs) t0 (by omega)
 rw [hr] at ea
 ac_nf0
 rw [ea]
 generalize rs[t.toNat]=r at hn hd ho hset htl
 rw [show qD r= .tup [.int r.num,.int (r.den:Int)] from rfl]
 ac_nf0
 rw [zg5 (by decide) (by decide),ze8 (by decide) (by decide),ze8 (by decide) (by decide)]
 ac_nf0
 simp only [zmH _ t0,ziq _ (show 0<=t+1 by omega)]
 refine zaU x2.1 (by decide) (by decide) fun w h3 w0 w1 x3=> ?_
 ac_nf0
 refine zfl (xs:=odB r.num (r.den:Int)) w0 (by show w<8;exact w1) fun od hod=> ?_
 obtain ⟨oo,og⟩:=ho od hod
 have g0:=hset od oo
 have g1:=htl od oo
 have e1:(t+1).toNat=t.toNat+1:=by omega
 have ct:(List.take t.toNat (rs.map qD)).length<=10:=by rw [List.length_take,qaH];omega
 have cd:(List.drop (t+1).toNat (rs.map qD)).length<=10:=by rw [List.length_drop,qaH];omega
 have er:List.take t.toNat (rs.map qD)++od::List.drop (t+1).toNat (rs.map qD)=(rs.take t.toNat).map qD++od::(rs.drop (t.toNat+1)).map qD:=by rw [e1,List.map_take,List.map_drop]
 have hrow: ∀ d∈(rs.take t.toNat).map qD++od::(rs.drop (t.toNat+1)).map qD,L3.good d=true:=fun d hd=>by
  rcases qaK.mp hd with hh | hh
  ·obtain ⟨x,_,rfl⟩:=qaU.mp hh
   exact zkj x
  ·rcases qaP.mp hh with rfl | hh
   ·exact og
   ·obtain ⟨x,_,rfl⟩:=qaU.mp hh
    exact zkj x
 have hrl:((rs.take t.toNat).map qD++od::(rs.drop (t.toNat+1)).map qD).length<=21:=by
  rw [<- er,qav,qaE]
  omega
 ac_nf0
 rw [zaD (show (List.take t.toNat (rs.map qD)).length+1<=1000 by omega)]
 ac_nf0
 rw [zaD (show (List.drop (t+1).toNat (rs.map qD)).length+((List.take t.toNat (rs.map qD)).length+1)<=1000 by omega)]
 ac_nf0
 rw [er]
 generalize (rs.take t.toNat).map qD++od::(rs.drop (t.toNat+1)).map qD=row at g0 g1 hrow hrl
 have gw:L3.good (.tup row)=true:=gl (by omega) hrow
 simp only [ziq _ (show (0:Int)<=1 by decide)]
 ac_nf0
 refine zaU x3.1 (by decide) (by decide) fun u h4 u0 u1 x4=> ?_
 ac_nf0
 refine zfl u0 (by simpa using u1) fun d hd=> ?_
 ac_nf0
 refine k d h4 ?_ x4.1
 simp only [qaP,qaF,or_false] at hd
 have g2: ∀ d∈[D.str "bear",.tup (rs.map qD)],L3.good d=true:=fun d hd=>by
  simp only [qaP,qaF,or_false] at hd
  rcases hd with rfl | rfl
  ·exact zbZ
  ·exact gr
 rcases hd with rfl | rfl | rfl | rfl | rfl | rfl | rfl | rfl | rfl | rfl | rfl | rfl | rfl
 ·exact zmz (zkA.mpr ⟨by show 2<64;decide,g2⟩) fun ds e=>by cases e
 ·exact zb4 (by show 1<60;decide) (fun d hd=>by rw [List.mem_singleton.mp hd];exact zbZ) (.inl ⟨by show 1≠2;decide,by show 1≠4;decide⟩)
 ·refine zb4 (by show 3<60;decide) (fun d hd=> ?_) (.inl ⟨by show 3≠2;decide,by show 3≠4;decide⟩)
  simp only [qaP,qaF,or_false] at hd
  rcases hd with rfl | rfl | rfl
  ·exact zbZ
  ·exact gr
  ·exact gr
 ·refine zb4 (by show 2<60;decide) (fun d hd=> ?_) (.inr ⟨_,_,rfl,zmu.1,zmu.2⟩)
  simp only [qaP,qaF,or_false] at hd
  rcases hd with rfl | rfl
  ·exact zhf
  ·exact gr
 ·exact zmz rfl fun ds e=>by cases e
 ·exact zb4 (by show 0<60;decide) (fun d hd=>by cases hd) (.inl ⟨by show 0≠2;decide,by show 0≠4;decide⟩)
 ·refine zb4 (by show 2<60;decide) (fun d hd=> ?_) (.inr ⟨_,_,rfl,rfl,rfl⟩)
  have:d= .tup (rs.map qD)\/d= .str "bear":=by simpa using hd
  rcases this with rfl | rfl
  ·exact gr
  ·exact zbZ
 ·exact zdP (znN rfl fun ds e=>by cases e) rfl
 ·exact zdP g0 gw
 ·exact zdP g0 gw
 ·exact zdP g0 gw
 ·exact zdP (znN rfl fun ds e=>by cases e) (zkA.mpr ⟨by omega,hrow⟩)
 ·exact zdP g1 (gl (by rw [List.length_drop];omega) fun d hd=>hrow d (List.mem_of_mem_drop hd))
theorem zok {b:Nat}: ∀ (n:Nat) {d:D} {h:Hh} {Q:D->Hh->Prop},Sh n d->Bx b h->(∀ d' h',Rb n d'->Bx b h'->Q d' h')->wp (F_47 n [.cel b,d]) h Q:=by
 intro n
 induction n with
 | zero=>intro d h Q s;cases s
 | succ n ih=>
  intro d h Q s q k
  rw [d_47]
  generalize F_47 n=rec at ih
  simp only [G_47]
  generalize hT:(zal (za5 2 (zbo (zab (zau zfz (zab (zae 1) zai)) (zab (cSl (zae 1) zbx (zbt (cK (.int 1)))) (zab (cOp zbb (zae 1) (cSl (zae 1) (zbt (cUn zju (cK (.int 1)))) zbx)) (zab (cOp zbb (zaG (zab (cK (.str "case")) zai)) (cSl (zae 1) (zbt (cK (.int 1))) zbx)) (zab (cK .non) (zab (zaG zai) (zab (cUn znF (zae 1)) (zab (zaG (zab (cK (.str "bear")) (zab (cK .non) zai))) zai)))))))))) (zal (sIf (zbM dEq (cOp dIx (zae 1) (cK (.int 0))) (cK (.str "bear"))) (zal (za5 3 (zau (zaj 2 F_31) (zab (zae 0) (zab (zau zek (zab (cOp dIx (zae 1) (cK (.int 1))) zai)) zai)))) (zal (zfS (cOp dIx (cOp dIx (zae 1) (cK (.int 1))) (zae 3)) (zcX 2 (zaR (zaM 4) (zaR (zaM 5) zc7)))) (zal (za5 6 (zbo (zab (zaG (zab (cOp zbb (zae 4) (zae 5)) (zab (zae 5) zai))) (zab (zaG (zab (zae 4) (zab (cOp zdh (zae 5) (cK (.int 3))) zai))) (zab (zaG (zab (cUn zju (cK (.int 1))) (zab (cK (.int 1)) zai))) (zab (zaG (zab (cK (.int 2)) (zab (cK (.int 0)) zai))) (zab (zaG (zab (cK (.bl true)) (zab (cK (.int 1)) zai))) (zab (cK .non) (zab (zaG (zab (cOp zdh (cK (.int 2)) (zae 4)) (zab (cOp zdh (cK (.int 2)) (zae 5)) zai))) zai))))))))) (zal (za5 7 (cOp zbb (cOp zbb (cSl (cOp dIx (zae 1) (cK (.int 1))) zbx (zbt (zae 3))) (zaG (zab (cOp dIx (cOp zbb (zae 6) (zbo (zab (zaG (zab (cK (.int 7)) (zab (cK (.int 1)) zai))) zai))) (zau (zaj 2 F_31) (zab (zae 0) (zab (cK (.int 8)) zai)))) zai))) (cSl (cOp dIx (zae 1) (cK (.int 1))) (zbt (cOp zbb (zae 3) (cK (.int 1)))) zbx))) (za5 2 (cOp zbb (zae 2) (zbo (zab (zaG (zab (cK (.str "bear")) (zab (zae 7) zai))) (zab (zaG (zab (cK (.str "bear")) (zab (zae 7) zai))) (zab (zaG (zab (cK (.str "bear")) (zab (zae 7) zai))) (zab (zaG (zab (cK (.str "bear")) (zab (zau zfz (zab (zae 7) zai)) zai))) (zab (zaG (zab (cK (.str "bear")) (zab (cSl (zae 7) (zbt (cK (.int 1))) zbx) zai))) zai)))))))))))) zc9) (zbg (cOp dIx (zae 2) (zau (zaj 2 F_31) (zab (zae 0) (zab (zau zek (zab (zae 2) zai)) zai)))))))=TL
  cases s with
  | @bear _ rs z=>
   have ec:=znl (d:= .str "bear") zbZ zfc
   rw [zsO] at ec
   ac_nf0
   rw [ec]
   ac_nf0
   subst hT
   refine zkQ (n:=n) z q fun d' h' g q'=> ?_
   ac_nf0
   exact k d' h' g q'
  | @cases _ j a b' ha hb=>
   have ec:=znl (d:= .str "cases") zbc zfc
   rw [zmS] at ec
   have c1:L3.zfX [D.str "cases",.int j,a,b'] none (some 2)=[.str "cases",.int j]:=rfl
   have c2:L3.zfX [D.str "cases",.int j,a,b'] (some 2) none=[a,b']:=rfl
   have c3:L3.zfX [D.str "cases",.int j,a,b'] none (some 3)=[.str "cases",.int j,a]:=rfl
   ac_nf0
   rw [ec]
   ac_nf0
   refine zaU q (by decide) (by decide) fun t h2 t0 t1 x2=> ?_
   ac_nf0
   by_cases ht:0<t
   ·rw [decide_eq_true ht]
    ac_nf0
    refine zaU x2.1 (by decide) (by decide) fun u h3 u0 u1 x3=> ?_
    ac_nf0
    rw [c2,c1,c3]
    ac_nf0
    refine ih ha x3.1 fun a' h4 ga q4=> ?_
    ac_nf0
    refine ih hb q4 fun b2 h5 gb q5=> ?_
    ac_nf0
    refine zaU q5 (by decide) (by decide) fun w h6 w0 w1 x6=> ?_
    ac_nf0
    refine zfl w0 (by simpa using w1) fun d hd=> ?_
    ac_nf0
    refine k d h6 ?_ x6.1
    have g4:=zr4 (P:=fun d=>L3.good d=true) zbc (show L3.good (.int j)=true from rfl) ha.good hb.good
    simp only [qaP,qaF,or_false] at hd
    rcases hd with rfl | rfl | rfl | rfl | rfl | rfl | rfl
    ·exact zd3 ha.rb hb.rb
    ·exact zd3 hb.rb ha.rb
    ·refine zb4 (by show 3<60;decide) (fun d hd=> ?_) (.inl ⟨by show 3≠2;decide,by show 3≠4;decide⟩)
     exact g4 d (by simp only [qaP,qaF,or_false] at hd ⊢; rcases hd with z | z | z<;>simp [z])
    ·refine zb4 (by show 5<60;decide) (fun d hd=> ?_) (.inl ⟨by show 5≠2;decide,by show 5≠4;decide⟩)
     simp only [qaP,qaF,or_false] at hd
     rcases hd with rfl | rfl | rfl | rfl | rfl
     ·exact zbc
     ·rfl
     ·exact ha.good
     ·exact hb.good
     ·rfl
    ·exact zd3 ga hb.rb
    ·exact zd3 ha.rb gb
    ·exact zd3 ha.rb ha.rb
   ·rw [decide_eq_false ht]
    ac_nf0
    subst hT
    refine zi2 ha hb x2.1 fun d' h' g q'=> ?_
    ac_nf0
    exact k d' h' g q'
noncomputable def zr1:List D:=[.non,.bl true,.int 7,.str "",.str "0",.tup [],.lst [],.dct,.tup [.int 1,.int 2],.tup [.int 0],.tup [.int 1,.int 0],.int (-1),.tup [.int 0,.int 1],.lst [.tup [.int 1,.int 0,.int 1]],.bl false,.tup [.tup [.int 0,.int 1]]]
theorem zoD {n:Nat}: ∀ d∈zr1,gp (n+1) d:=by
 intro d hd
 unfold zr1 at hd
 simp only [qaP,qaF,or_false] at hd
 have hT: ∀ ds:List D,good (.tup ds)=true->(∀ x∈ds,isW "bear" x=false/\isW "cases" x=false)->gp (n+1) (.tup ds):=fun ds g hx=>⟨rfl,fun es e=>by
   injection e with e
   subst e
   refine ⟨g,fun x y e w=> ?_,fun x y a b e w=> ?_⟩
   · subst e
     rw [(hx x qau).1] at w
     cases w
   · subst e
     rw [(hx x qau).2] at w
     cases w⟩
 have hK: ∀ d:D,kn d=true->(∀ ds,d≠ .tup ds)->gp (n+1) d:=fun d k h=>⟨k,fun ds e=>absurd e (h ds)⟩
 rcases hd with rfl | rfl | rfl | rfl | rfl | rfl | rfl | rfl | rfl | rfl | rfl | rfl | rfl | rfl | rfl | rfl
 ·exact hK _ rfl fun ds e=>by cases e
 ·exact hK _ rfl fun ds e=>by cases e
 ·exact hK _ rfl fun ds e=>by cases e
 ·exact hK _ rfl fun ds e=>by cases e
 ·exact hK _ rfl fun ds e=>by cases e
 ·exact hT _ rfl fun x hx=>by cases hx
 ·exact hK _ rfl fun ds e=>by cases e
 ·exact hK _ rfl fun ds e=>by cases e
 ·exact hT _ rfl fun x hx=>by simp only [qaP,qaF,or_false] at hx;rcases hx with rfl | rfl<;>exact ⟨rfl,rfl⟩
 ·exact hT _ rfl fun x hx=>by simp only [qaP,qaF,or_false] at hx;subst hx;exact ⟨rfl,rfl⟩
 ·exact hT _ rfl fun x hx=>by simp only [qaP,qaF,or_false] at hx;rcases hx with rfl | rfl<;>exact ⟨rfl,rfl⟩
 ·exact hK _ rfl fun ds e=>by cases e
 ·exact hT _ rfl fun x hx=>by simp only [qaP,qaF,or_false] at hx;rcases hx with rfl | rfl<;>exact ⟨rfl,rfl⟩
 ·exact hK _ rfl fun ds e=>by cases e
 ·exact hK _ rfl fun ds e=>by cases e
 ·exact hT _ rfl fun x hx=>by simp only [qaP,qaF,or_false] at hx;subst hx;exact ⟨rfl,rfl⟩
theorem zrr {h:Hh} {b:Nat} {P:D->Hh->Prop} (q:Bx b h) (k: ∀ d h',(∀ n,gp (n+1) d)->Bx b h'->P d h'):wp (F_33 [.cel b]) h P:=by
 rw [d_33]
 have e:G_33 [some (.cel b),none]=(do let t<-F_31 [.cel b,.int 16];let d<-dIx (.lst zr1) t;pure (.rt d)):=by
  simp only [G_33]
  ac_nf0
  try simp only [zre]
  try ac_nf0
  rfl
 rw [e]
 simp only [bind_assoc,zas]
 refine zaU q (by decide) (by decide) fun t h2 t0 t1 x2=> ?_
 obtain ⟨d,ed,hd⟩:=zle t0 (show t<(zr1.length:Int) from t1)
 simp only [zjS,ed,zeN,zar,zfI]
 exact k _ _ (fun n=>zoD d hd) x2.1
theorem ztv:F_34 [.exn "NoNumber"]=pure (.str "! number"):=by
 funext h
 rfl
theorem zsi {r:Rat} (hr:szR r):sv (qD r):=zsn hr.2
theorem zlX (P:Pz m os) {r:Rat} (hr:szR r) {d:D} (g:gp 8 d):Ev (F_48 [zbq m os,qD r,d]) (.bl (shw r (wv m os 8 [] [] d))):=by
 have es:=zib P hr 8 (tk:=[]) (ot:=[]) g Tk.nil Tk.nil
 have ef:=zdJ (zsi hr)
 rw [ztD] at ef
 have e1:Ev (F_23 [zbq m os,qD r,d]) (.bl (shw r (wv m os 8 [] [] d))):=by
  refine .of_wp fun h=> ?_
  rw [d_23]
  simp only [G_23]
  ac_nf0
  rw [ef]
  ac_nf0
  refine es.noX.wp fun h' g'=> ?_
  ac_nf0
  first | exact ⟨trivial,g'⟩ | exact ⟨g',trivial⟩ | exact ⟨rfl,g'⟩
 rw [d_48]
 simp only [G_48]
 refine Ev.bind (zpd (o:= .rt (.bl (shw r (wv m os 8 [] [] d)))) ?_) (.of (by ac_nf0))
 have e2:(zbg (zau (zaj 3 F_23) (zab (zae 0) (zab (zae 1) (zab (zae 2) zai)))):FS) [some (zbq m os),some (qD r),some d,none]=(F_23 [zbq m os,qD r,d]>>=fun d=>pure (.rt d)):=by ac_nf0
 rw [e2]
 exact e1.bind .pure
theorem zmb {x d:D} (g:sv x) (hp:pF x=false):F_48 [zbq m os,x,d]=pure (.str "! number"):=by
 have ef:=zdJ g
 rw [hp] at ef
 have e:F_23 [zbq m os,x,d]=zgS "NoNumber":=by
  rw [d_23]
  simp only [G_23]
  ac_nf0
  rw [ef]
  ac_nf0
 rw [d_48]
 simp only [G_48]
 rw [zi4 (c:="NoNumber") (d:= .str "! number") (by ac_nf0;rw [e];rfl) (by decide +kernel) ztv]
 ac_nf0
theorem zlP (P:Pz m os) {r:Rat} (hr:szR r) {d:D} (g:gp 8 d):Ev (F_49 [zbq m os,qD r,d]) (.bl true):=by
 have ew:=zgl P 8 (tk:=[]) (ot:=[]) g Tk.nil Tk.nil
 have ea:=zlX P hr g
 have sz:=fun {v:Rat}=>zlO P 8 (v:=v) g (Tk.nil (os:=os)) (Tk.nil (os:=os))
 refine .of_wp fun h=> ?_
 rw [d_49]
 simp only [G_49]
 generalize F_46 8=W at ew ⊢
 rw [List.map_nil] at ew
 generalize wv m os 8 [] [] d=o at ew ea sz
 ac_nf0
 rw [ew]
 ac_nf0
 refine ea.wp fun h1 g1=> ?_
 ac_nf0
 have hdue: ∀ {Q:D->Hh->Prop},Q (.bl (shw r o)) h1->wp ((zhO (cOp zjF (zae 3) (cK .non)) (cOp dGe (cOp zca (cOp dIx (zae 3) (cK (.int 0))) (cOp dIx (zae 1) (cK (.int 1)))) (cOp zca (cOp dIx (zae 1) (cK (.int 0))) (cOp dIx (zae 3) (cK (.int 1)))))) [some (zbq m os),some (qD r),some d,some (rO o),some (.bl (shw r o)),none]) h1 Q:=fun {Q} kq=>by
  cases o with
  | none=>
   ac_nf0
   rw [show zjF (rO none) .non=pure (.bl false) from rfl]
   ac_nf0
   exact kq
  | some v=>
   have zv:=sz rfl
   ac_nf0
   rw [show zjF (rO (some v)) .non=pure (.bl true) from rfl]
   ac_nf0
   rw [show dIx (rO (some v)) (.int 0)=pure (.int v.num) from rfl,show dIx (qD r) (.int 1)=pure (.int (r.den:Int)) from rfl]
   ac_nf0
   rw [zgu zv.1 (by rw [Int.natAbs_natCast];exact hr.2)]
   ac_nf0
   rw [show dIx (qD r) (.int 0)=pure (.int r.num) from rfl,show dIx (rO (some v)) (.int 1)=pure (.int (v.den:Int)) from rfl]
   ac_nf0
   rw [zgu hr.1 (by rw [Int.natAbs_natCast];exact zv.2)]
   ac_nf0
   rw [zsS]
   ac_nf0
   have e:decide (r.num*(v.den:Int)<=v.num*(r.den:Int))=shw r (some v):=by
    show _= !decide (v<r)
    rw [<- zsm,Bool.eq_iff_iff,qaD,Bool.not_eq_true',decide_eq_false_iff_not]
    omega
   rw [e]
   exact kq
 have hdue2:=fun {Q:D->Hh->Prop}=>hdue (Q:=Q)
 simp only [ziN,zcm,zfE,zaV,zaP,pure_bind,bind_assoc,zas,zar] at hdue2
 refine hdue2 ?_
 ac_nf0
 rw [show zfm "bool" (.bl (shw r o))=pure (.bl true) from rfl]
 ac_nf0
 rw [ztX,beq_self_eq_true]
 ac_nf0
 exact ⟨g1,trivial⟩
theorem zkV {v:Rat} (h:v.num.natAbs<=2^3900/\v.den<=2^2100) (k:Int) (hk:k.natAbs<=1):F_40 [.int (v.num*9+k),.int ((v.den:Int)*9)]=pure (qD (mkRat (v.num*9+k) (v.den*9)))/\szR (mkRat (v.num*9+k) (v.den*9)):=by
 have h0:0<v.den*9:=Nat.mul_pos v.den_pos (by decide)
 have hd:v.den*9<=2^(2100+4):=zdD h.2 (by decide)
 have hdb:v.den*9<bb:=Nat.lt_of_le_of_lt hd (qaw (Nat.pow_lt_pow_right (by decide) (by decide:2100+4<2201)) (zfH (by decide)))
 have hn:(v.num*9+k).natAbs<=2^3910:=by
  have h8:(2:Nat)^3910=1024*2^3900:=by rw [show (3910:Nat)=10+3900 from rfl,Nat.pow_add]
  have hp2:1<=(2:Nat)^3900:=Nat.one_le_two_pow
  have h1:=h.1
  generalize (2:Nat)^3900=T at h1 h8 hp2
  omega
 have ef:=ze9 (a:=v.num*9+k) h0 hdb
 rw [Int.natCast_mul] at ef
 exact ⟨ef,zaz (n:=3910) (by decide) (qaS (zfY _ h0) hn),zaz (n:=2100+4) (by decide) (qaS (zed _ h0) hd)⟩
theorem zmE (P:Pz m os) {tk ot:List Int} (ht:Tk os tk) {d:D} (g:gt d) {v:Rat} (h:zg2 m os tk ot d=some v):v.num.natAbs<=2^3900/\v.den<=2^2100:=by
 have m1:=P.s.m1
 cases hs:shB m d with
 | false=>
  unfold zg2 at h
  split at h
  ·rw [hs,Bool.false_and] at h;cases h
  ·cases h
 | true=>
  obtain ⟨rs,rfl,z,hl⟩:=zic g hs
  rw [zfA hs] at h
  split at h
  ·cases h
   obtain ⟨h1,h2⟩:=znw (z.more (p:=L3.pr os tk) (by omega) (P.pr ht))
   exact ⟨qaS h1 (Nat.pow_le_pow_right (by decide) (by decide)),qaS h2 (Nat.pow_le_pow_right (by decide) (by decide))⟩
  ·cases h
theorem zjx (P:Pz m os): ∀ (n:Nat) {tk ot:List Int} {d:D} {v:Rat},gp n d->Tk os tk->Tk os ot->wv m os n tk ot d=some v->v.num.natAbs<=2^3900/\v.den<=2^2100
 | 0,tk,ot,d,v,g,_,_,_=>qa0 g
 | n+1,tk,ot,d,v,g,h1,h2,e=>by
  rw [zht] at e
  split at e
  ·rename_i x y
   split at e
   ·rename_i hw
    exact zmE P h1 ((g.2 _ rfl).2.1 x y rfl hw) e
   ·cases e
  ·rename_i x j a b
   split at e
   ·rename_i hw
    rw [qaG] at hw
    have hj:j∈frL os tk ot:=by simpa using hw.2
    obtain ⟨ga,gb⟩:=(g.2 _ rfl).2.2 x _ a b rfl hw.1
    split at e
    ·rename_i p q ep eq
     cases e
     split
     ·exact zjx P n ga (h1.more hj) h2 ep
     ·exact zjx P n gb h1 (h2.out hj) eq
    ·cases e
   ·cases e
  ·cases e
theorem zjo (P:Pz m os) {b:Nat} {paper:D} (sp:Sh 8 paper) {r:Rat} (hr:szR r) {s0 s1 s5 s6 x8 s9:Option D} {h:Hh} (q:Bx b h) {Q:Out->Hh->Prop} (k: ∀ y8 h',Bx b h'->Q (.nx [s0,s1,some (.cel b),some (zbq m os),some paper,s5,s6,some (qD r),y8,s9]) h'):
  wp (zdj [s0,s1,some (.cel b),some (zbq m os),some paper,s5,s6,some (qD r),x8,s9]) h Q:=by
 have hb:=fun {h:Hh} {Q:D->Hh->Prop}=>zok (b:=b) 8 (h:=h) (Q:=Q) sp
 have loop: ∀ (ts:List D) {h:Hh} {x8:Option D} {Q:Out->Hh->Prop},(∀ t∈ts,gp 8 t)->Bx b h->(∀ y8 h',Bx b h'->Q (.nx [s0,s1,some (.cel b),some (zbq m os),some paper,s5,s6,some (qD r),y8,s9]) h')->
   wp (za3 (fun x sd=>do let sd1<-zaM 8 x sd;zgb sd1) ts [s0,s1,some (.cel b),some (zbq m os),some paper,s5,s6,some (qD r),x8,s9]) h Q:=by
  intro ts
  induction ts with
  | nil=>intro h x8 Q _ q k;rw [zc2,zar];exact k _ _ q
  | cons t r' ih=>
   intro h x8 Q hg q k
   have ih:=fun {h:Hh} {x8:Option D} {Q:Out->Hh->Prop}=>ih (h:=h) (x8:=x8) (Q:=Q) fun y hy=>hg y (qan _ hy)
   have er:=zlP P hr (hg t qau)
   rw [zbK]
   generalize za3 (fun x sd=>do let sd1<-zaM 8 x sd;zgb sd1) r'=rest at ih ⊢
   simp only [zgb]
   ac_nf0
   refine er.wp fun h' g'=> ?_
   ac_nf0
   exact ih (g'.ext q).1 k
 simp only [zdj]
 generalize F_47 8=rec at hb ⊢
 ac_nf0
 refine hb q fun d1 h1 g1 q1=> ?_
 ac_nf0
 refine hb q1 fun d2 h2 g2 q2=> ?_
 ac_nf0
 refine zrr q2 fun d3 h3 g3 q3=> ?_
 ac_nf0
 refine loop [paper,d1,d2,d3] (fun t ht=> ?_) q3 k
 simp only [qaP,qaF,or_false] at ht
 rcases ht with rfl | rfl | rfl | rfl
 ·exact sp.gp
 ·exact g1.1
 ·exact g2.1
 ·exact g3 7
noncomputable def ztc:List D:=[.non,.int 3,.tup [.int 2,.int 4],.tup [.int 1,.int 0],.tup [.bl true,.int 1],.str "1",.tup [.int 1,.int 2,.int 3],.lst [.int 1,.int 2]]
theorem zoz: ∀ d∈ztc,sv d/\pF d=false:=by
 intro d hd
 unfold ztc at hd
 simp only [qaP,qaF,or_false] at hd
 have hs: ∀ {a b:Int},b.toNat<2^10->sv (.tup [.int a,.int b]):=fun {a b} hb=>zgh rfl rfl fun b' e=>by cases e;exact qaw hb (zfH (by decide))
 rcases hd with rfl | rfl | rfl | rfl | rfl | rfl | rfl | rfl
 ·exact ⟨zj5 rfl fun ds e=>(by cases e),rfl⟩
 ·exact ⟨zj5 rfl fun ds e=>(by cases e),rfl⟩
 ·exact ⟨hs (by decide),by decide +kernel⟩
 ·exact ⟨hs (by decide),by decide +kernel⟩
 ·exact ⟨zgh rfl rfl fun b e=>by cases e;exact qaw (show (1:Int).toNat<2^1 by decide) (zfH (by decide)),rfl⟩
 ·exact ⟨zj5 rfl fun ds e=>(by cases e),rfl⟩
 ·refine ⟨⟨rfl,fun ds e=> ?_⟩,rfl⟩
  cases e
  exact ⟨fun z hz=>by simp only [qaP,qaF,or_false] at hz;rcases hz with rfl | rfl | rfl<;>rfl,fun a b e=>by cases e⟩
 ·exact ⟨zj5 rfl fun ds e=>(by cases e),rfl⟩
theorem zqk {x:Str} (hx:PyData.strOk x=true):dNe (.str x) (.str x)=pure (.bl false):=by
 rw [zj6 (a:= .str x) (b:= .str x) rfl rfl (by unfold zeI;simp [PyData.canLay0,hx,PyData.depth])]
 simp [PyData.eqv]
theorem zfW (P:Pz m os) {b:Nat} {s0 s1 x4 x5 x6 x7 x8 x9:Option D} {h:Hh} (q:Bx b h) {Q:Out->Hh->Prop} (k: ∀ y4 y5 y6 y7 y8 y9 h',Bx b h'->Q (.nx [s0,s1,some (.cel b),some (zbq m os),y4,y5,y6,y7,y8,y9]) h'):
  wp ((zal (za5 4 (zau (zaj 5 (F_45 6)) (zab (zae 2) (zab (zae 3) (zab (zbo zai) (zab (zbo zai) (zab (cK (.int 4)) zai))))))) (zal (zfS (zau (zaj 4 (F_46 8)) (zab (zae 3) (zab (zae 4) (zab (zbo zai) (zab (zbo zai) zai))))) (zcX 2 (zaR (zaM 5) (zaR (zaM 6) zc7)))) (zal (zhr (iSq (zbo (zab (zaG (zab (zae 5) (zab (zae 6) zai))) (zab (zau (zaj 2 F_40) (zab (cOp zbb (cOp zdh (zae 5) (cK (.int 9))) (cK (.int 1))) (zab (cOp zdh (zae 6) (cK (.int 9))) zai))) (zab (zau (zaj 2 F_40) (zab (cOp zjt (cOp zdh (zae 5) (cK (.int 9))) (cK (.int 1))) (zab (cOp zdh (zae 6) (cK (.int 9))) zai))) zai))))) (zaM 7) zdj) (zal (za5 9 (cOp dIx (zbo (zab (cK .non) (zab (cK (.int 3)) (zab (zaG (zab (cK (.int 2)) (zab (cK (.int 4)) zai))) (zab (zaG (zab (cK (.int 1)) (zab (cK (.int 0)) zai))) (zab (zaG (zab (cK (.bl true)) (zab (cK (.int 1)) zai))) (zab (cK (.str "1")) (zab (zaG (zab (cK (.int 1)) (zab (cK (.int 2)) (zab (cK (.int 3)) zai)))) (zab (zbo (zab (cK (.int 1)) (zab (cK (.int 2)) zai))) zai))))))))) (zau (zaj 2 F_31) (zab (zae 2) (zab (cK (.int 8)) zai))))) (sIf (zbM dNe (zau (zaj 3 F_48) (zab (zae 3) (zab (zae 9) (zab (zae 4) zai)))) (cK (.str "! number"))) (zbg (cK (.bl false))) zc9))))) [s0,s1,some (.cel b),some (zbq m os),x4,x5,x6,x7,x8,x9]) h Q:=by
 have hp:=fun {h:Hh} {Q:D->Hh->Prop}=>zlV P (b:=b) 4 6 (tk:=[]) (ot:=[]) (h:=h) (Q:=Q) (by decide) Tk.nil Tk.nil
 have lt:=fun {paper:D} (sp:Sh 8 paper) {r:Rat} (hr:szR r) {s5 s6 x8 s9:Option D} {h:Hh} (q:Bx b h) {Q:Out->Hh->Prop}=>zjo P sp hr (s0:=s0) (s1:=s1) (s5:=s5) (s6:=s6) (x8:=x8) (s9:=s9) (h:=h) q (Q:=Q)
 have ew:=fun {d:D} (g:gp 8 d)=>zgl P 8 (tk:=[]) (ot:=[]) g Tk.nil Tk.nil
 simp only [List.map_nil] at hp ew
 generalize F_45 6=R1 at hp ⊢
 generalize F_46 8=R2 at ew ⊢
 ac_nf0
 refine hp q fun paper h1 hN q1=> ?_
 obtain ⟨sp,v,ev⟩:=hN 8 (by decide)
 have e1:=ew sp.gp
 rw [ev] at e1
 have hz:=zjx P 8 sp.gp Tk.nil Tk.nil ev
 have zv:szR v:=⟨zaz (n:=3900) (by decide) hz.1,zaz (n:=2100) (by decide) hz.2⟩
 obtain ⟨f1,z1⟩:=zkV hz 1 (by decide)
 obtain ⟨f2,z2⟩:=zkV hz (-1) (by decide)
 rw [show v.num*9+ -1=v.num*9 - 1 by omega] at f2 z2
 generalize mkRat (v.num*9+1) (v.den*9)=r1 at f1 z1
 generalize mkRat (v.num*9 - 1) (v.den*9)=r2 at f2 z2
 ac_nf0
 rw [e1,show rO (some v)= .tup [.int v.num,.int (v.den:Int)] from rfl]
 ac_nf0
 rw [zg5 (by decide) (by decide),zg5 (by decide) (by decide)]
 ac_nf0
 rw [f1]
 ac_nf0
 rw [f2]
 ac_nf0
 rw [show D.tup [.int v.num,.int (v.den:Int)]=qD v from rfl]
 rw [zbK,zas]
 refine lt sp zv q1 fun y8 h2 q2=> ?_
 show wp (za3 (fun x sd=>zdj (List.set sd 7 (some x))) [qD r1,qD r2] _) h2 _
 rw [zbK,zas]
 refine lt sp z1 q2 fun y8 h3 q3=> ?_
 show wp (za3 (fun x sd=>zdj (List.set sd 7 (some x))) [qD r2] _) h3 _
 rw [zbK,zas]
 refine lt sp z2 q3 fun y8 h4 q4=> ?_
 show wp (za3 (fun x sd=>zdj (List.set sd 7 (some x))) [] _) h4 _
 rw [zc2,zar]
 ac_nf0
 refine zaU q4 (by decide) (by decide) fun t h5 t0 t1 x5'=> ?_
 ac_nf0
 refine zfl (xs:=ztc) t0 (by show t<8;exact t1) fun bad hbad=> ?_
 obtain ⟨g1,g2⟩:=zoz bad hbad
 ac_nf0
 rw [zmb g1 g2]
 ac_nf0
 rw [zqk (by decide +kernel)]
 ac_nf0
 exact k _ _ _ _ _ _ h5 x5'.1
theorem zit {ns:List Int}: ∀ (ds:List D) {h:Hh} {x1 x2 x3 x4 x5 x6 x7 x8 x9:Option D},(∀ d∈ds, ∃ i:Int,d= .int i/\0<=i/\i<5)->
  wp (za3 (fun x sd=>do let sd1<-zaM 1 x sd;zfd sd1) ds [some (.scr (ns.map D.int)),x1,x2,x3,x4,x5,x6,x7,x8,x9]) h fun o _=> ∃ sd,o= .nx sd
 | [],h,x1,x2,x3,x4,x5,x6,x7,x8,x9,_=>by rw [zc2,zar];exact ⟨_,rfl⟩
 | d::r,h,x1,x2,x3,x4,x5,x6,x7,x8,x9,hd=>by
  obtain ⟨i,rfl,i0,i1⟩:=hd _ qau
  have ih: ∀ {h:Hh} {x1 x2 x3 x4 x5 x6 x7 x8 x9:Option D},wp (za3 (fun x sd=>do let sd1<-zaM 1 x sd;zfd sd1) r [some (.scr (ns.map D.int)),x1,x2,x3,x4,x5,x6,x7,x8,x9]) h fun o _=> ∃ sd,o= .nx sd:=zit r fun y hy=>hd y (qan _ hy)
  rw [zbK]
  generalize za3 (fun x sd=>do let sd1<-zaM 1 x sd;zfd sd1) r=rest at ih ⊢
  simp only [zfd]
  generalize hT:(zal (za5 4 (zau (zaj 5 (F_45 6)) (zab (zae 2) (zab (zae 3) (zab (zbo zai) (zab (zbo zai) (zab (cK (.int 4)) zai))))))) (zal (zfS (zau (zaj 4 (F_46 8)) (zab (zae 3) (zab (zae 4) (zab (zbo zai) (zab (zbo zai) zai))))) (zcX 2 (zaR (zaM 5) (zaR (zaM 6) zc7)))) (zal (zhr (iSq (zbo (zab (zaG (zab (zae 5) (zab (zae 6) zai))) (zab (zau (zaj 2 F_40) (zab (cOp zbb (cOp zdh (zae 5) (cK (.int 9))) (cK (.int 1))) (zab (cOp zdh (zae 6) (cK (.int 9))) zai))) (zab (zau (zaj 2 F_40) (zab (cOp zjt (cOp zdh (zae 5) (cK (.int 9))) (cK (.int 1))) (zab (cOp zdh (zae 6) (cK (.int 9))) zai))) zai))))) (zaM 7) zdj) (zal (za5 9 (cOp dIx (zbo (zab (cK .non) (zab (cK (.int 3)) (zab (zaG (zab (cK (.int 2)) (zab (cK (.int 4)) zai))) (zab (zaG (zab (cK (.int 1)) (zab (cK (.int 0)) zai))) (zab (zaG (zab (cK (.bl true)) (zab (cK (.int 1)) zai))) (zab (cK (.str "1")) (zab (zaG (zab (cK (.int 1)) (zab (cK (.int 2)) (zab (cK (.int 3)) zai)))) (zab (zbo (zab (cK (.int 1)) (zab (cK (.int 2)) zai))) zai))))))))) (zau (zaj 2 F_31) (zab (zae 2) (zab (cK (.int 8)) zai))))) (sIf (zbM dNe (zau (zaj 3 F_48) (zab (zae 3) (zab (zae 9) (zab (zae 4) zai)))) (cK (.str "! number"))) (zbg (cK (.bl false))) zc9)))))=TL
  ac_nf0
  refine zpF i0 i1 fun z=> ?_
  have qb:Bx h.length (h++[.lst [.int z]]):=⟨z,by simp⟩
  generalize h.length=b at qb ⊢
  generalize h++[.lst [.int z]]=h1 at qb ⊢
  ac_nf0
  refine znE (by decide) (by decide) qb fun m ods h2 q2 m0 m1 l0 l1 ho _=> ?_
  obtain ⟨os,rfl,s,hp⟩:=zmZ m0 m1 (by omega) ho
  rw [show D.tup [.int m,.tup (os.map zcV)]=zbq m os from rfl]
  ac_nf0
  refine zaU q2 (by decide) (by decide) fun t h3 t0 t1 x3'=> ?_
  rw [zid]
  ac_nf0
  cases ht:t==0 with
  | true=>
   ac_nf0
   refine zl0 s x3'.1 fun os' h4 s' hp' x4'=> ?_
   ac_nf0
   subst hT
   refine zfW ⟨s',fun o ho=>by obtain ⟨o',h1,e⟩:=hp' o ho;rw [e];exact hp o' h1⟩ x4'.1 fun y4 y5 y6 y7 y8 y9 h' q'=> ?_
   ac_nf0
   exact ih
  | false=>
   ac_nf0
   subst hT
   refine zfW ⟨s,hp⟩ x3'.1 fun y4 y5 y6 y7 y8 y9 h' q'=> ?_
   ac_nf0
   exact ih
theorem zlZ: ∀ ns:List Int,ns.length<=63-> ∃ h',F_50 [.scr (ns.map D.int)] []= .ok (.bl true) h':=by
 intro ns _
 have key:wp (F_50 [.scr (ns.map D.int)]) [] fun d _=>d= .bl true:=by
  rw [d_50]
  simp only [G_50]
  ac_nf0
  simp only [zmN]
  ac_nf0
  simp only [zsL]
  ac_nf0
  generalize hn:(if (if (3:Int)<(ns.length:Int) then (3:Int) else (ns.length:Int))>1 then (if (3:Int)<(ns.length:Int) then (3:Int) else (ns.length:Int)) else (1:Int))=n
  have n0:0<=n/\n<=5:=by
   rw [<- hn]
   split<;>split<;>omega
  rw [zcY n0.1 (by omega)]
  ac_nf0
  refine zhK (zit _ fun d hd=> ?_) ?_
  ·obtain ⟨i,e,i0,i1⟩:=zgz hd
   exact ⟨i,e,i0,by omega⟩
  ·rintro o h' ⟨sd,rfl⟩
   ac_nf0
 obtain ⟨d,h',e,rfl⟩:=key
 exact ⟨h',e⟩
end K41
namespace K41
open PySem PySem.Spec PyProof.Rows L2 L3
theorem zpL {l:W.OpenLaw} {w:World} {K:W.Frag} {h:Heap} {mg:Str->Option Value} {fa a_7 a_8 a_9 a_10 a_11 a_12 a_13 a_14 a_15 a_16 a_17 a_18 a_29 a_30 a_31 a_35 a_36 a_37 a_43 a_38 a_40 a_42 a_44 a_45 a_32 a_41 a_39 a_46 a_47 a_33 a_34 a_0 a_1 a_3 a_5 a_21 a_20 a_19 a_27 a_26 a_2 a_6 a_4 a_22 a_28 a_25 a_24 a_23 a_48 a_49 a_50:Addr} (X:K.In h) (G:h.Ns mainGlobals mg) (hfa:mg "law"=some (.ref fa))
  {od_50 an_50:Option Addr} {sl_50:Array (Option Value)} {oc_50 kV_50 dc_50 pm_50 cd_50 ct_50:Value}
  {d_29 d_30 d_31 d_35 d_36 d_37 d_43 d_38 d_40 d_42 d_44 d_45 d_32 d_41 d_39 d_46 d_47 d_33 d_34 d_0 d_1 d_3 d_5 d_21 d_20 d_19 d_27 d_26 d_2 d_6 d_4 d_22 d_28 d_25 d_24 d_23 d_48 d_49:FuncData}
  (f_29:Fd K "_law_cell" s_29 a_29 d_29)
  (f_30:Fd K "_law_box" s_30 a_30 d_30)
  (f_31:Fd K "_law_take" s_31 a_31 d_31)
  (f_35:Fd K "_law_things" s_35 a_35 d_35)
  (f_36:Fd K "_law_full" s_36 a_36 d_36)
  (f_37:Fd K "_law_holed" s_37 a_37 d_37)
  (f_43:Fd K "_law_left" s_43 a_43 d_43)
  (f_38:Fd K "_law_has" s_38 a_38 d_38)
  (f_40:Fd K "_law_frac" s_40 a_40 d_40)
  (f_42:Fd K "_law_sum" s_42 a_42 d_42)
  (f_44:Fd K "_law_bears" s_44 a_44 d_44)
  (f_45:Fd K "_law_paper" s_45 a_45 d_45)
  (f_32:Fd K "_law_whole" s_32 a_32 d_32)
  (f_41:Fd K "_law_is_frac" s_41 a_41 d_41)
  (f_39:Fd K "_law_price" s_39 a_39 d_39)
  (f_46:Fd K "_law_worth" s_46 a_46 d_46)
  (f_47:Fd K "_law_bent" s_47 a_47 d_47)
  (f_33:Fd K "_law_odd" s_33 a_33 d_33)
  (f_34:Fd K "_law_kind" s_34 a_34 d_34)
  (f_0:Fd K "is_whole" s_0 a_0 d_0)
  (f_1:Fd K "is_pair" s_1 a_1 d_1)
  (f_3:Fd K "greatest_divisor" s_3 a_3 d_3)
  (f_5:Fd K "is_fraction" s_5 a_5 d_5)
  (f_21:Fd K "is_share" s_21 a_21 d_21)
  (f_20:Fd K "are_shares" s_20 a_20 d_20)
  (f_19:Fd K "things_together" s_19 a_19 d_19)
  (f_27:Fd K "had_things" s_27 a_27 d_27)
  (f_26:Fd K "free_offers" s_26 a_26 d_26)
  (f_2:Fd K "reduced" s_2 a_2 d_2)
  (f_6:Fd K "together" s_6 a_6 d_6)
  (f_4:Fd K "is_less" s_4 a_4 d_4)
  (f_22:Fd K "is_borne" s_22 a_22 d_22)
  (f_28:Fd K "paid_for" s_28 a_28 d_28)
  (f_25:Fd K "bears_behind" s_25 a_25 d_25)
  (f_24:Fd K "shows_behind" s_24 a_24 d_24)
  (f_23:Fd K "paper_shows" s_23 a_23 d_23)
  (f_48:Fd K "_law_asked" s_48 a_48 d_48)
  (f_49:Fd K "_law_right" s_49 a_49 d_49)
  (e_50:W.nsIn K mainGlobals "law"=some (some (.ref a_50))) (l_50:K.lookup a_50=some ⟨oc_50,od_50,.func (W.fnOf "law" "law" (zev s_50) (zcH s_50) (zah s_50) .none kV_50 dc_50 pm_50 an_50 cd_50 ct_50),sl_50⟩) (c_50:W.codeIn K cd_50 "law"=true) (k_50:W.keepIn K (.ref a_50)=true)
  (e_7:W.nsIn K mainGlobals "CoverError"=some (some (.ref a_7)))
  (e_8:W.nsIn K mainGlobals "NoStock"=some (some (.ref a_8)))
  (e_9:W.nsIn K mainGlobals "NoOffer"=some (some (.ref a_9)))
  (e_10:W.nsIn K mainGlobals "NoThing"=some (some (.ref a_10)))
  (e_11:W.nsIn K mainGlobals "NoCover"=some (some (.ref a_11)))
  (e_12:W.nsIn K mainGlobals "NoPaper"=some (some (.ref a_12)))
  (e_13:W.nsIn K mainGlobals "NoNumber"=some (some (.ref a_13)))
  (e_14:W.nsIn K mainGlobals "NotFull"=some (some (.ref a_14)))
  (e_15:W.nsIn K mainGlobals "NotInRow"=some (some (.ref a_15)))
  (e_16:W.nsIn K mainGlobals "NoText"=some (some (.ref a_16)))
  (e_17:W.nsIn K mainGlobals "NoRow"=some (some (.ref a_17)))
  (e_18:W.nsIn K mainGlobals "TooMany"=some (some (.ref a_18)))
  (z_ValueError:W.nsIn K mainGlobals "ValueError"=some none)
  (z_abs:W.nsIn K mainGlobals "abs"=some none)
  (z_all:W.nsIn K mainGlobals "all"=some none)
  (z_any:W.nsIn K mainGlobals "any"=some none)
  (z_bool:W.nsIn K mainGlobals "bool"=some none)
  (z_int:W.nsIn K mainGlobals "int"=some none)
  (z_isinstance:W.nsIn K mainGlobals "isinstance"=some none)
  (z_len:W.nsIn K mainGlobals "len"=some none)
  (z_list:W.nsIn K mainGlobals "list"=some none)
  (z_max:W.nsIn K mainGlobals "max"=some none)
  (z_min:W.nsIn K mainGlobals "min"=some none)
  (z_range:W.nsIn K mainGlobals "range"=some none)
  (z_set:W.nsIn K mainGlobals "set"=some none)
  (z_sorted:W.nsIn K mainGlobals "sorted"=some none)
  (z_str:W.nsIn K mainGlobals "str"=some none)
  (z_sum:W.nsIn K mainGlobals "sum"=some none)
  (z_tuple:W.nsIn K mainGlobals "tuple"=some none)
  (x_tab:zlf K a_7 [("NoStock",a_8),("NoOffer",a_9),("NoThing",a_10),("NoCover",a_11),("NoPaper",a_12),("NoNumber",a_13),("NotFull",a_14),("NotInRow",a_15),("NoText",a_16),("NoRow",a_17),("TooMany",a_18)]=true)
  : ∃ fd:FuncData,(∀ (s:Shared) (v:Value),BindsTo s fd ⟨[v],[]⟩ [("script",v)])/\ ∀ base:Heap,K.In base->base.Ns mainGlobals mg->zbN l.prog w K mg base CX0 17 fa fd ["script"] (zbP K 1 F_50):=by
 have e:=hfa.symm.trans (W.mg_of X G e_50)
 cases e
 have F_50:=zaK (st:=s_50) l_50 c_50 k_50
 have b_50:=F_50.binds (ps:=["script"]) fun _ _ _ _ _ _ us hl=>match us,hl with | [_],_=>rfl
 have T:Tx K mg ⟨a_7,a_8,a_9,a_10,a_11,a_12,a_13,a_14,a_15,a_16,a_17,a_18,a_29,_,a_30,_,a_31,_,a_35,_,a_36,_,a_37,_,a_43,_,a_38,_,a_40,_,a_42,_,a_44,_,a_45,_,a_32,_,a_41,_,a_39,_,a_46,_,a_47,_,a_33,_,a_34,_,a_0,_,a_1,_,a_3,_,a_5,_,a_21,_,a_20,_,a_19,_,a_27,_,a_26,_,a_2,_,a_6,_,a_4,_,a_22,_,a_28,_,a_25,_,a_24,_,a_23,_,a_48,_,a_49,_,fa,_⟩:=
  {g_7:=W.mg_of X G e_7,
    g_8:=W.mg_of X G e_8,
    g_9:=W.mg_of X G e_9,
    g_10:=W.mg_of X G e_10,
    g_11:=W.mg_of X G e_11,
    g_12:=W.mg_of X G e_12,
    g_13:=W.mg_of X G e_13,
    g_14:=W.mg_of X G e_14,
    g_15:=W.mg_of X G e_15,
    g_16:=W.mg_of X G e_16,
    g_17:=W.mg_of X G e_17,
    g_18:=W.mg_of X G e_18,
    k_8:=e_8,
    k_9:=e_9,
    k_10:=e_10,
    k_11:=e_11,
    k_12:=e_12,
    k_13:=e_13,
    k_14:=e_14,
    k_15:=e_15,
    k_16:=e_16,
    k_17:=e_17,
    k_18:=e_18,
    x_exc:=zlB.of x_tab,
    n_ValueError:=W.mg_none_of X G z_ValueError,
    n_abs:=W.mg_none_of X G z_abs,
    n_all:=W.mg_none_of X G z_all,
    n_any:=W.mg_none_of X G z_any,
    n_bool:=W.mg_none_of X G z_bool,
    n_int:=W.mg_none_of X G z_int,
    n_isinstance:=W.mg_none_of X G z_isinstance,
    n_len:=W.mg_none_of X G z_len,
    n_list:=W.mg_none_of X G z_list,
    n_max:=W.mg_none_of X G z_max,
    n_min:=W.mg_none_of X G z_min,
    n_range:=W.mg_none_of X G z_range,
    n_set:=W.mg_none_of X G z_set,
    n_sorted:=W.mg_none_of X G z_sorted,
    n_str:=W.mg_none_of X G z_str,
    n_sum:=W.mg_none_of X G z_sum,
    n_tuple:=W.mg_none_of X G z_tuple,
    m_29:=W.mg_of X G f_29.e,
    F_29:=f_29.F,
    b_29:=f_29.F.binds (ps:=["script","k"]) fun _ _ _ _ _ _ us hl=>match us,hl with | [_,_],_=>rfl,
    m_30:=W.mg_of X G f_30.e,
    F_30:=f_30.F,
    b_30:=f_30.F.binds (ps:=["script","k"]) fun _ _ _ _ _ _ us hl=>match us,hl with | [_,_],_=>rfl,
    m_31:=W.mg_of X G f_31.e,
    F_31:=f_31.F,
    b_31:=f_31.F.binds (ps:=["box","many"]) fun _ _ _ _ _ _ us hl=>match us,hl with | [_,_],_=>rfl,
    m_35:=W.mg_of X G f_35.e,
    F_35:=f_35.F,
    b_35:=f_35.F.binds (ps:=["box","many"]) fun _ _ _ _ _ _ us hl=>match us,hl with | [_,_],_=>rfl,
    m_36:=W.mg_of X G f_36.e,
    F_36:=f_36.F,
    b_36:=f_36.F.binds (ps:=["box","most","lots"]) fun _ _ _ _ _ _ us hl=>match us,hl with | [_,_,_],_=>rfl,
    m_37:=W.mg_of X G f_37.e,
    F_37:=f_37.F,
    b_37:=f_37.F.binds (ps:=["box","stock"]) fun _ _ _ _ _ _ us hl=>match us,hl with | [_,_],_=>rfl,
    m_43:=W.mg_of X G f_43.e,
    F_43:=f_43.F,
    b_43:=f_43.F.binds (ps:=["stock","taken","out"]) fun _ _ _ _ _ _ us hl=>match us,hl with | [_,_,_],_=>rfl,
    m_38:=W.mg_of X G f_38.e,
    F_38:=f_38.F,
    b_38:=f_38.F.binds (ps:=["stock","lot"]) fun _ _ _ _ _ _ us hl=>match us,hl with | [_,_],_=>rfl,
    m_40:=W.mg_of X G f_40.e,
    F_40:=f_40.F,
    b_40:=f_40.F.binds (ps:=["top","bottom"]) fun _ _ _ _ _ _ us hl=>match us,hl with | [_,_],_=>rfl,
    m_42:=W.mg_of X G f_42.e,
    F_42:=f_42.F,
    b_42:=f_42.F.binds (ps:=["some"]) fun _ _ _ _ _ _ us hl=>match us,hl with | [_],_=>rfl,
    m_44:=W.mg_of X G f_44.e,
    F_44:=f_44.F,
    b_44:=f_44.F.binds (ps:=["box","stock","taken","out"]) fun _ _ _ _ _ _ us hl=>match us,hl with | [_,_,_,_],_=>rfl,
    m_45:=W.mg_of X G f_45.e,
    F_45:=f_45.F,
    b_45:=f_45.F.binds (ps:=["box","stock","taken","out","deep"]) fun _ _ _ _ _ _ us hl=>match us,hl with | [_,_,_,_,_],_=>rfl,
    m_32:=W.mg_of X G f_32.e,
    F_32:=f_32.F,
    b_32:=f_32.F.binds (ps:=["thing"]) fun _ _ _ _ _ _ us hl=>match us,hl with | [_],_=>rfl,
    m_41:=W.mg_of X G f_41.e,
    F_41:=f_41.F,
    b_41:=f_41.F.binds (ps:=["thing"]) fun _ _ _ _ _ _ us hl=>match us,hl with | [_],_=>rfl,
    m_39:=W.mg_of X G f_39.e,
    F_39:=f_39.F,
    b_39:=f_39.F.binds (ps:=["stock","lot"]) fun _ _ _ _ _ _ us hl=>match us,hl with | [_,_],_=>rfl,
    m_46:=W.mg_of X G f_46.e,
    F_46:=f_46.F,
    b_46:=f_46.F.binds (ps:=["stock","thing","taken","out"]) fun _ _ _ _ _ _ us hl=>match us,hl with | [_,_,_,_],_=>rfl,
    m_47:=W.mg_of X G f_47.e,
    F_47:=f_47.F,
    b_47:=f_47.F.binds (ps:=["box","paper"]) fun _ _ _ _ _ _ us hl=>match us,hl with | [_,_],_=>rfl,
    m_33:=W.mg_of X G f_33.e,
    F_33:=f_33.F,
    b_33:=f_33.F.binds (ps:=["box"]) fun _ _ _ _ _ _ us hl=>match us,hl with | [_],_=>rfl,
    m_34:=W.mg_of X G f_34.e,
    F_34:=f_34.F,
    b_34:=f_34.F.binds (ps:=["e"]) fun _ _ _ _ _ _ us hl=>match us,hl with | [_],_=>rfl,
    m_0:=W.mg_of X G f_0.e,
    F_0:=f_0.F,
    b_0:=f_0.F.binds (ps:=["thing"]) fun _ _ _ _ _ _ us hl=>match us,hl with | [_],_=>rfl,
    m_1:=W.mg_of X G f_1.e,
    F_1:=f_1.F,
    b_1:=f_1.F.binds (ps:=["thing"]) fun _ _ _ _ _ _ us hl=>match us,hl with | [_],_=>rfl,
    m_3:=W.mg_of X G f_3.e,
    F_3:=f_3.F,
    b_3:=f_3.F.binds (ps:=["top","bottom"]) fun _ _ _ _ _ _ us hl=>match us,hl with | [_,_],_=>rfl,
    m_5:=W.mg_of X G f_5.e,
    F_5:=f_5.F,
    b_5:=f_5.F.binds (ps:=["thing"]) fun _ _ _ _ _ _ us hl=>match us,hl with | [_],_=>rfl,
    m_21:=W.mg_of X G f_21.e,
    F_21:=f_21.F,
    b_21:=f_21.F.binds (ps:=["thing"]) fun _ _ _ _ _ _ us hl=>match us,hl with | [_],_=>rfl,
    m_20:=W.mg_of X G f_20.e,
    F_20:=f_20.F,
    b_20:=f_20.F.binds (ps:=["thing","many"]) fun _ _ _ _ _ _ us hl=>match us,hl with | [_,_],_=>rfl,
    m_19:=W.mg_of X G f_19.e,
    F_19:=f_19.F,
    b_19:=f_19.F.binds (ps:=["offers"]) fun _ _ _ _ _ _ us hl=>match us,hl with | [_],_=>rfl,
    m_27:=W.mg_of X G f_27.e,
    F_27:=f_27.F,
    b_27:=f_27.F.binds (ps:=["stock","taken"]) fun _ _ _ _ _ _ us hl=>match us,hl with | [_,_],_=>rfl,
    m_26:=W.mg_of X G f_26.e,
    F_26:=f_26.F,
    b_26:=f_26.F.binds (ps:=["stock","taken","left_out"]) fun _ _ _ _ _ _ us hl=>match us,hl with | [_,_,_],_=>rfl,
    m_2:=W.mg_of X G f_2.e,
    F_2:=f_2.F,
    b_2:=f_2.F.binds (ps:=["top","bottom"]) fun _ _ _ _ _ _ us hl=>match us,hl with | [_,_],_=>rfl,
    m_6:=W.mg_of X G f_6.e,
    F_6:=f_6.F,
    b_6:=f_6.F.binds (ps:=["fractions"]) fun _ _ _ _ _ _ us hl=>match us,hl with | [_],_=>rfl,
    m_4:=W.mg_of X G f_4.e,
    F_4:=f_4.F,
    b_4:=f_4.F.binds (ps:=["fraction","other"]) fun _ _ _ _ _ _ us hl=>match us,hl with | [_,_],_=>rfl,
    m_22:=W.mg_of X G f_22.e,
    F_22:=f_22.F,
    b_22:=f_22.F.binds (ps:=["offer","shares"]) fun _ _ _ _ _ _ us hl=>match us,hl with | [_,_],_=>rfl,
    m_28:=W.mg_of X G f_28.e,
    F_28:=f_28.F,
    b_28:=f_28.F.binds (ps:=["stock","taken"]) fun _ _ _ _ _ _ us hl=>match us,hl with | [_,_],_=>rfl,
    m_25:=W.mg_of X G f_25.e,
    F_25:=f_25.F,
    b_25:=f_25.F.binds (ps:=["stock","least","bearing","taken","left_out"]) fun _ _ _ _ _ _ us hl=>match us,hl with | [_,_,_,_,_],_=>rfl,
    m_24:=W.mg_of X G f_24.e,
    F_24:=f_24.F,
    b_24:=f_24.F.binds (ps:=["stock","least","thing","taken","left_out"]) fun _ _ _ _ _ _ us hl=>match us,hl with | [_,_,_,_,_],_=>rfl,
    m_23:=W.mg_of X G f_23.e,
    F_23:=f_23.F,
    b_23:=f_23.F.binds (ps:=["stock","least","thing"]) fun _ _ _ _ _ _ us hl=>match us,hl with | [_,_,_],_=>rfl,
    m_48:=W.mg_of X G f_48.e,
    F_48:=f_48.F,
    b_48:=f_48.F.binds (ps:=["stock","least","thing"]) fun _ _ _ _ _ _ us hl=>match us,hl with | [_,_,_],_=>rfl,
    m_49:=W.mg_of X G f_49.e,
    F_49:=f_49.F,
    b_49:=f_49.F.binds (ps:=["stock","least","thing"]) fun _ _ _ _ _ _ us hl=>match us,hl with | [_,_,_],_=>rfl,
    m_50:=W.mg_of X G e_50,
    F_50:=F_50,
    b_50:=b_50}
 exact ⟨W.fnOf "law" "law" (zev s_50) (zcH s_50) (zah s_50) .none kV_50 dc_50 pm_50 an_50 cd_50 ct_50,fun s v=> .of_eq rfl,fun base _ _=>ok_50 T⟩
theorem ztV {l:W.OpenLaw} {q:Program} {loose:List Str} {XP:(Str->Option Value)->Heap->Prop} {YP:World->Heap->Prop} {d:DefRec} {K:Params->W.Frag} (hn:l.most=some 63) (hdf:d.params.defaults=[])
  (hY: ∀ (w:World) (h:Heap),YP w h->(K w.params).In h)
  (F: ∀ (w:World) (mg:Str->Option Value) (fa:Addr) (h:Heap),(K w.params).In h->h.Ns mainGlobals mg->mg d.name=some (.ref fa)->
    ∃ fd:FuncData,(∀ (s:Shared) (u:Value),BindsTo s fd ⟨[u],[]⟩ [("script",u)])/\ ∀ base:Heap,(K w.params).In base->base.Ns mainGlobals mg->zbN l.prog w (K w.params) mg base CX0 17 fa fd ["script"] (zbP (K w.params) 1 F_50))
  (hm: ∀ ns:List Int,ns.length<=63-> ∃ h',F_50 [.scr (ns.map D.int)] []= .ok (.bl true) h'):
  W.WalkO q loose XP YP l.row.toRowW d [] (fun f vs=>PySem.call f vs):=
 L2.znr (n:=63) (k:=17) (x:="script") (CX:=fun _=>CX0) (sp:=fun w=>zbP (K w.params) 1 F_50) hn (by decide) hdf ⟨rfl,by decide,by decide⟩ hY F (fun w H a ns hl _ hS=>zsg hS (hm ns hl)) fun _ _ _ _ _ z=>z
end K41
open PySem PySem.W PyProof.Rows
set_option maxRecDepth 100000 in
set_option maxHeartbeats 0 in
theorem PySem.Challenge.cw_cheapcovers_k41_papers_of_cases_looked_a_holds : PySem.Challenge.rw_cheapcovers_k41_papers_of_cases_looked_a.Holds := by
 w_on; o_law; k_head; (case hw => w_witness2)
 k_fill
 refine K41.ztV (l := PySem.Challenge.rw_cheapcovers_k41_papers_of_cases_looked_a) rfl rfl (fun w h Y => W.kIn_of Y) ?F K41.zlZ
 case F =>
  intro w mg fa h KX G hmg
  refine' K41.zpL KX G hmg (L3.Fd.mk ?e__law_cell (L2.zaK ?l__law_cell ?c__law_cell ?k__law_cell)) (L3.Fd.mk ?e__law_box (L2.zaK ?l__law_box ?c__law_box ?k__law_box)) (L3.Fd.mk ?e__law_take (L2.zaK ?l__law_take ?c__law_take ?k__law_take)) (L3.Fd.mk ?e__law_things (L2.zaK ?l__law_things ?c__law_things ?k__law_things)) (L3.Fd.mk ?e__law_full (L2.zaK ?l__law_full ?c__law_full ?k__law_full)) (L3.Fd.mk ?e__law_holed (L2.zaK ?l__law_holed ?c__law_holed ?k__law_holed)) (L3.Fd.mk ?e__law_left (L2.zaK ?l__law_left ?c__law_left ?k__law_left)) (L3.Fd.mk ?e__law_has (L2.zaK ?l__law_has ?c__law_has ?k__law_has)) (L3.Fd.mk ?e__law_frac (L2.zaK ?l__law_frac ?c__law_frac ?k__law_frac)) (L3.Fd.mk ?e__law_sum (L2.zaK ?l__law_sum ?c__law_sum ?k__law_sum)) (L3.Fd.mk ?e__law_bears (L2.zaK ?l__law_bears ?c__law_bears ?k__law_bears)) (L3.Fd.mk ?e__law_paper (L2.zaK ?l__law_paper ?c__law_paper ?k__law_paper)) (L3.Fd.mk ?e__law_whole (L2.zaK ?l__law_whole ?c__law_whole ?k__law_whole)) (L3.Fd.mk ?e__law_is_frac (L2.zaK ?l__law_is_frac ?c__law_is_frac ?k__law_is_frac)) (L3.Fd.mk ?e__law_price (L2.zaK ?l__law_price ?c__law_price ?k__law_price)) (L3.Fd.mk ?e__law_worth (L2.zaK ?l__law_worth ?c__law_worth ?k__law_worth)) (L3.Fd.mk ?e__law_bent (L2.zaK ?l__law_bent ?c__law_bent ?k__law_bent)) (L3.Fd.mk ?e__law_odd (L2.zaK ?l__law_odd ?c__law_odd ?k__law_odd)) (L3.Fd.mk ?e__law_kind (L2.zaK ?l__law_kind ?c__law_kind ?k__law_kind)) (L3.Fd.mk ?e_is_whole (L2.zaK ?l_is_whole ?c_is_whole ?k_is_whole)) (L3.Fd.mk ?e_is_pair (L2.zaK ?l_is_pair ?c_is_pair ?k_is_pair)) (L3.Fd.mk ?e_greatest_divisor (L2.zaK ?l_greatest_divisor ?c_greatest_divisor ?k_greatest_divisor)) (L3.Fd.mk ?e_is_fraction (L2.zaK ?l_is_fraction ?c_is_fraction ?k_is_fraction)) (L3.Fd.mk ?e_is_share (L2.zaK ?l_is_share ?c_is_share ?k_is_share)) (L3.Fd.mk ?e_are_shares (L2.zaK ?l_are_shares ?c_are_shares ?k_are_shares)) (L3.Fd.mk ?e_things_together (L2.zaK ?l_things_together ?c_things_together ?k_things_together)) (L3.Fd.mk ?e_had_things (L2.zaK ?l_had_things ?c_had_things ?k_had_things)) (L3.Fd.mk ?e_free_offers (L2.zaK ?l_free_offers ?c_free_offers ?k_free_offers)) (L3.Fd.mk ?e_reduced (L2.zaK ?l_reduced ?c_reduced ?k_reduced)) (L3.Fd.mk ?e_together (L2.zaK ?l_together ?c_together ?k_together)) (L3.Fd.mk ?e_is_less (L2.zaK ?l_is_less ?c_is_less ?k_is_less)) (L3.Fd.mk ?e_is_borne (L2.zaK ?l_is_borne ?c_is_borne ?k_is_borne)) (L3.Fd.mk ?e_paid_for (L2.zaK ?l_paid_for ?c_paid_for ?k_paid_for)) (L3.Fd.mk ?e_bears_behind (L2.zaK ?l_bears_behind ?c_bears_behind ?k_bears_behind)) (L3.Fd.mk ?e_shows_behind (L2.zaK ?l_shows_behind ?c_shows_behind ?k_shows_behind)) (L3.Fd.mk ?e_paper_shows (L2.zaK ?l_paper_shows ?c_paper_shows ?k_paper_shows)) (L3.Fd.mk ?e__law_asked (L2.zaK ?l__law_asked ?c__law_asked ?k__law_asked)) (L3.Fd.mk ?e__law_right (L2.zaK ?l__law_right ?c__law_right ?k__law_right)) ?e_law ?l_law ?c_law ?k_law ?e_CoverError ?e_NoStock ?e_NoOffer ?e_NoThing ?e_NoCover ?e_NoPaper ?e_NoNumber ?e_NotFull ?e_NotInRow ?e_NoText ?e_NoRow ?e_TooMany ?z_ValueError ?z_abs ?z_all ?z_any ?z_bool ?z_int ?z_isinstance ?z_len ?z_list ?z_max ?z_min ?z_range ?z_set ?z_sorted ?z_str ?z_sum ?z_tuple ?x_tab
  (case e__law_cell => k_is)
  (case l__law_cell => k_is)
  (case c__law_cell => k_is)
  (case k__law_cell => k_is)
  (case e__law_box => k_is)
  (case l__law_box => k_is)
  (case c__law_box => k_is)
  (case k__law_box => k_is)
  (case e__law_take => k_is)
  (case l__law_take => k_is)
  (case c__law_take => k_is)
  (case k__law_take => k_is)
  (case e__law_things => k_is)
  (case l__law_things => k_is)
  (case c__law_things => k_is)
  (case k__law_things => k_is)
  (case e__law_full => k_is)
  (case l__law_full => k_is)
  (case c__law_full => k_is)
  (case k__law_full => k_is)
  (case e__law_holed => k_is)
  (case l__law_holed => k_is)
  (case c__law_holed => k_is)
  (case k__law_holed => k_is)
  (case e__law_left => k_is)
  (case l__law_left => k_is)
  (case c__law_left => k_is)
  (case k__law_left => k_is)
  (case e__law_has => k_is)
  (case l__law_has => k_is)
  (case c__law_has => k_is)
  (case k__law_has => k_is)
  (case e__law_frac => k_is)
  (case l__law_frac => k_is)
  (case c__law_frac => k_is)
  (case k__law_frac => k_is)
  (case e__law_sum => k_is)
  (case l__law_sum => k_is)
  (case c__law_sum => k_is)
  (case k__law_sum => k_is)
  (case e__law_bears => k_is)
  (case l__law_bears => k_is)
  (case c__law_bears => k_is)
  (case k__law_bears => k_is)
  (case e__law_paper => k_is)
  (case l__law_paper => k_is)
  (case c__law_paper => k_is)
  (case k__law_paper => k_is)
  (case e__law_whole => k_is)
  (case l__law_whole => k_is)
  (case c__law_whole => k_is)
  (case k__law_whole => k_is)
  (case e__law_is_frac => k_is)
  (case l__law_is_frac => k_is)
  (case c__law_is_frac => k_is)
  (case k__law_is_frac => k_is)
  (case e__law_price => k_is)
  (case l__law_price => k_is)
  (case c__law_price => k_is)
  (case k__law_price => k_is)
  (case e__law_worth => k_is)
  (case l__law_worth => k_is)
  (case c__law_worth => k_is)
  (case k__law_worth => k_is)
  (case e__law_bent => k_is)
  (case l__law_bent => k_is)
  (case c__law_bent => k_is)
  (case k__law_bent => k_is)
  (case e__law_odd => k_is)
  (case l__law_odd => k_is)
  (case c__law_odd => k_is)
  (case k__law_odd => k_is)
  (case e__law_kind => k_is)
  (case l__law_kind => k_is)
  (case c__law_kind => k_is)
  (case k__law_kind => k_is)
  (case e_is_whole => k_is)
  (case l_is_whole => k_is)
  (case c_is_whole => k_is)
  (case k_is_whole => k_is)
  (case e_is_pair => k_is)
  (case l_is_pair => k_is)
  (case c_is_pair => k_is)
  (case k_is_pair => k_is)
  (case e_greatest_divisor => k_is)
  (case l_greatest_divisor => k_is)
  (case c_greatest_divisor => k_is)
  (case k_greatest_divisor => k_is)
  (case e_is_fraction => k_is)
  (case l_is_fraction => k_is)
  (case c_is_fraction => k_is)
  (case k_is_fraction => k_is)
  (case e_is_share => k_is)
  (case l_is_share => k_is)
  (case c_is_share => k_is)
  (case k_is_share => k_is)
  (case e_are_shares => k_is)
  (case l_are_shares => k_is)
  (case c_are_shares => k_is)
  (case k_are_shares => k_is)
  (case e_things_together => k_is)
  (case l_things_together => k_is)
  (case c_things_together => k_is)
  (case k_things_together => k_is)
  (case e_had_things => k_is)
  (case l_had_things => k_is)
  (case c_had_things => k_is)
  (case k_had_things => k_is)
  (case e_free_offers => k_is)
  (case l_free_offers => k_is)
  (case c_free_offers => k_is)
  (case k_free_offers => k_is)
  (case e_reduced => k_is)
  (case l_reduced => k_is)
  (case c_reduced => k_is)
  (case k_reduced => k_is)
  (case e_together => k_is)
  (case l_together => k_is)
  (case c_together => k_is)
  (case k_together => k_is)
  (case e_is_less => k_is)
  (case l_is_less => k_is)
  (case c_is_less => k_is)
  (case k_is_less => k_is)
  (case e_is_borne => k_is)
  (case l_is_borne => k_is)
  (case c_is_borne => k_is)
  (case k_is_borne => k_is)
  (case e_paid_for => k_is)
  (case l_paid_for => k_is)
  (case c_paid_for => k_is)
  (case k_paid_for => k_is)
  (case e_bears_behind => k_is)
  (case l_bears_behind => k_is)
  (case c_bears_behind => k_is)
  (case k_bears_behind => k_is)
  (case e_shows_behind => k_is)
  (case l_shows_behind => k_is)
  (case c_shows_behind => k_is)
  (case k_shows_behind => k_is)
  (case e_paper_shows => k_is)
  (case l_paper_shows => k_is)
  (case c_paper_shows => k_is)
  (case k_paper_shows => k_is)
  (case e__law_asked => k_is)
  (case l__law_asked => k_is)
  (case c__law_asked => k_is)
  (case k__law_asked => k_is)
  (case e__law_right => k_is)
  (case l__law_right => k_is)
  (case c__law_right => k_is)
  (case k__law_right => k_is)
  (case e_law => k_is)
  (case l_law => k_is)
  (case c_law => k_is)
  (case k_law => k_is)
  (case e_CoverError => k_is)
  (case e_NoStock => k_is)
  (case e_NoOffer => k_is)
  (case e_NoThing => k_is)
  (case e_NoCover => k_is)
  (case e_NoPaper => k_is)
  (case e_NoNumber => k_is)
  (case e_NotFull => k_is)
  (case e_NotInRow => k_is)
  (case e_NoText => k_is)
  (case e_NoRow => k_is)
  (case e_TooMany => k_is)
  (case z_ValueError => k_is)
  (case z_abs => k_is)
  (case z_all => k_is)
  (case z_any => k_is)
  (case z_bool => k_is)
  (case z_int => k_is)
  (case z_isinstance => k_is)
  (case z_len => k_is)
  (case z_list => k_is)
  (case z_max => k_is)
  (case z_min => k_is)
  (case z_range => k_is)
  (case z_set => k_is)
  (case z_sorted => k_is)
  (case z_str => k_is)
  (case z_sum => k_is)
  (case z_tuple => k_is)
  (case x_tab => kernel_rfl)
