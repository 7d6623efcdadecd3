import PyProof.Rows.All
import Wide.All
import OpenK.AllK
import Wide.FinOn
import PyProof.EqAt
import PyProof.EqKinds
import PyProof.TupleCall
import PyProof.StationsW
import PyProof.ExcArgs
import PyProof.Seq
import PyProof.TupleIter
import PyProof.RangeIter
import PyProof.WalkInts
import PyProof.SumWalkG
import PyProof.ListRange
import PyProof.Rows.Range3
import OpenK.KDescr
import PyProof.ExcAttrAll.ValueError
import PyProof.Draws
import PyProof.EnumFor
import PyProof.EnumMake
import PyProof.LayNew
import PyProof.Rows.EnumRows
import PyProof.MinMaxWalk
import Lean
import PySem.Challenge.RW_cheapcovers_k62_lesser_stocks
set_option Elab.async false
set_option linter.all false
set_option maxRecDepth 100000
set_option maxHeartbeats 8000000
set_option compiler.extract_closed false
set_option bootstrap.genMatcherCode false
set_option genSizeOfSpec false
section
open PySem PySem.Spec PyProof PyProof.Rows
abbrev qaa := @List.getElem?_append_right
abbrev qab := @Array.getElem?_eq_some_iff
abbrev qac := @List.getElem?_eq_some_iff
abbrev qad := @List.getElem?_append_left
abbrev qae := @List.drop_eq_getElem_cons
abbrev qaf := @List.getElem?_eq_getElem
abbrev qag := @Heap.get?_push_of_some
abbrev qah := @Heap.get?_update_other
abbrev qai := @List.getElem?_set_self
abbrev qak := @List.mem_append_right
abbrev qal := @Heap.get?_update_self
abbrev qan := @List.mem_cons_of_mem
abbrev qao := @List.getElem?_set_ne
abbrev qap := @Around.under_plainId
abbrev qaq := @List.pairwise_append
abbrev qar := @Heap.get?_push_size
abbrev qas := @Array.length_toList
abbrev qat := @List.filterMap_cons
abbrev qau := @List.mem_cons_self
abbrev qav := @List.length_append
abbrev qaw := @Nat.lt_of_lt_of_le
abbrev qax := @Bool.false_eq_true
abbrev qay := @List.pairwise_cons
abbrev qaA := @List.size_toArray
abbrev qaB := @Int.toNat_natCast
abbrev qaC := @wpAny_newObj_type
abbrev qaD := @decide_eq_true_eq
abbrev qaE := @List.length_cons
abbrev qaF := @List.not_mem_nil
abbrev qaG := @Bool.and_eq_true
abbrev qaH := @List.length_map
abbrev qaI := @List.length_set
abbrev qaJ := @List.length_nil
abbrev qaK := @List.mem_append
abbrev qaL := @Heap.size_push
abbrev qaM := @List.map_cons
abbrev qaN := @Nat.lt_irrefl
abbrev qaO := @wpAny_holding
abbrev qaP := @List.mem_cons
abbrev qaQ := @Heap.lt_size
abbrev qaR := @Nat.ne_of_lt
abbrev qaS := @Nat.le_trans
abbrev qaT := @List.map_map
abbrev qaU := @List.mem_map
abbrev qaV := @Nat.le_refl
abbrev qaW := @wpAny_bind
abbrev qaX := @wpAny_pure
abbrev qaZ := @wpAny_mono
abbrev qa0 := @False.elim
abbrev qa4 := @if_pos
abbrev qa5 := @if_neg
end
noncomputable def PySem.W.Fast.tw11360671654561207142:Nat:=0
noncomputable def PySem.W.Fast.tw2782694664807576443:Nat:=0
noncomputable def PySem.W.Fast.tw9339936015376439539:Nat:=0
noncomputable def PySem.W.Fast.tw267097076743102678:Nat:=0
noncomputable def PySem.W.Fast.tw2418781326762582561:Nat:=0
noncomputable def PySem.W.Fast.tw16498598237987558968:Nat:=0
noncomputable def PySem.W.Fast.tw12890070973137118369:Nat:=0
noncomputable def PySem.W.Fast.tw6347236203847348660:Nat:=0
noncomputable def PySem.W.Fast.tw16451014209177836653:Nat:=0
noncomputable def PySem.W.Fast.tw8623399583264724192:Nat:=0
noncomputable def PySem.W.Fast.tw2392324542612924211:Nat:=0
noncomputable def PySem.W.Fast.tw252925225854275147:Nat:=0
noncomputable def PySem.W.Fast.tw18098014398332268824:Nat:=0
noncomputable def PySem.W.Fast.tw11575796943205106834:Nat:=0
noncomputable def PySem.W.Fast.tw12929862927684658337:Nat:=0
noncomputable def PySem.W.Fast.tw11120430281921878167:Nat:=0
namespace L3
open PySem
def zhI (h:Heap) (e:Addr) (cls head:Value):Prop:= ∃ ob vs,h.get? e=some ob/\ob.cls=cls/\ob.dict=none/\ob.data= .fields vs/\vs[2]? = some .none/\vs[1]? = some head
def zti (h B:Heap) (e:Addr) (head fl:Value):Prop:= ∃ T ot ts,head= .ref T/\B.get? T=none/\T≠e/\h.get? T=some ot/\ot.data= .fields ts/\ts[3]? = some fl
structure Fly (B:Heap) (l:List Env) (e:Addr) (cls fl:Value) (h:Heap):Prop where
 stays:B.StaysIn h
 new:B.get? e=none
 frames:h.FunFrames B l
 exc: ∃ head,zhI h e cls head/\zti h B e head fl
theorem zlZ (o:Obj) (f):(o.mapFields f).dict=o.dict:=by
 obtain ⟨c,d,t,z⟩:=o
 cases t<;>rfl
section
variable {M:Model} {A:Around} {E:Value->Shared->Prop} {s:Shared} {B:Heap} {env:Env} {outer l:List Env} {L e:Addr} {cls head fl:Value}
theorem zmt {hd0:Value} {hadNext:Bool} {Q:Unit->Shared->Prop} (hfr:A.frames=some (env::outer)) (hl:s.heap.FunFrames B (env::outer)) (hf:env.frame=some L) (hx:zhI s.heap e cls head)
  (hkb:B.StaysIn s.heap) (hen:B.get? e=none) (q: ∀ h',Fly B (env::outer) e cls (rawInt L) h'->s.heap.UpToSlots h'->Q () {s with heap:=h'}):
  wpAny M A (do let a<-frameOf env;let pl<-entryPlaceOf L hadNext;let b<-EntryCells.newEntry hd0 a .none (rawInt L) .none pl;setField (.ref e) 1 b) Q E s:=by
 obtain ⟨ob,vs,h1,h2,h3,h4,h5,h6⟩:=hx
 have hsz:1<vs.size:=(qab.mp h6).1
 have nfr:e∉(env::outer).filterMap (·.frame):=fun z=>by
  obtain ⟨_,o,ho,hn⟩:=hl.mem z
  rw [h1] at ho
  cases ho
  exact hn vs h4
 refine qaW (wpAny_frameOf_fun hfr hl hf fun g sg=> ?_)
 refine qaW (wpAny_entryPlaceOf fun pl hpl=> ?_)
 unfold EntryCells.newEntry newFields
 refine qaW (qaC ?_ (hpl.sizeOk5 _ _ _ _ _))
 have e1:g.get? e=some ob:=(sg.2.1 e nfr).trans h1
 have kb:B.StaysIn g:=fun b o z=>(sg.2.1 b fun w=>by rw [(hl.mem w).1] at z;cases z).trans (hkb b o z)
 generalize hob:({cls:= .type "traceback",dict:=none,data:= .fields ([hd0,.ref L,.none,rawInt L,.none]++(if pl.isEmpty then List.replicate 6 Value.none else pl)).toArray}:Obj)=tb
 have e2:(g.push tb).get? e=some ob:=qag _ e1
 have ne:g.objs.size≠e:=Nat.ne_of_gt (qaQ e1)
 have d3:=Obj.data_mapFields h4 (·.setIfInBounds 1 (Value.ref g.objs.size))
 have e3:=qal (Obj.mapFields (·.setIfInBounds 1 (Value.ref g.objs.size))) e2 (Obj.isFreed_of_fields d3)
 have ft:tb.isFreed=false:=by rw [<- hob];rfl
 have t3:((g.push tb).update e (Obj.mapFields (·.setIfInBounds 1 (Value.ref g.objs.size)))).get? g.objs.size=some tb:=(qah _ _ (Ne.symm ne)).trans (qar g ft)
 have stay: ∀ b o,b≠e->g.get? b=some o->((g.push tb).update e (Obj.mapFields (·.setIfInBounds 1 (Value.ref g.objs.size)))).get? b=some o:=fun b o hb z=>by
  rw [qah _ _ (Ne.symm hb)]
  exact qag _ z
 have nrec: ∀ b o,s.heap.get? b=some o->(∀ ws,o.data≠ .fields ws)->b≠e:=fun b o z hn w=>by
  rw [w,h1] at z
  cases z
  exact hn vs h4
 have ht: ∃ ts,tb.data= .fields ts/\ts[3]? = some (rawInt L):=⟨_,by rw [<- hob],by rcases hpl with rfl | ⟨_,_,_,_,_,_,_,rfl⟩<;>simp⟩
 obtain ⟨ts,ht1,ht2⟩:=ht
 refine wpAny_setField e2 h4 hsz (q _ ⟨fun b o z=>stay b o (fun w=>by rw [w,hen] at z;cases z) (kb b o z),hen,hl.of_keeps fun b o z hn=> ?_,.ref g.objs.size,⟨_,_,e3,(Obj.cls_mapFields _ _).trans h2,(zlZ _ _).trans h3,d3,?_,?_⟩,g.objs.size,tb,ts,rfl,kb.fresh,ne,t3,ht1,ht2⟩ fun b o z hn=> ?_)
 ·obtain ⟨sl,hs⟩:=sg.2.2 b o z
  exact ⟨_,stay b _ (nrec b o z hn) hs,rfl⟩
 ·rw [Array.getElem?_setIfInBounds_ne (by decide)]
  exact h5
 ·simp [hsz]
 ·obtain ⟨sl,hs⟩:=sg.2.2 b o z
  exact ⟨sl,stay b _ (nrec b o z hn) hs⟩
theorem zi6 {Q:Unit->Shared->Prop} (hfr:A.frames=some (env::outer)) (hl:s.heap.FunFrames B (env::outer)) (hf:env.frame=some L) (hx:zhI s.heap e cls .none)
  (hkb:B.StaysIn s.heap) (hen:B.get? e=none) (q: ∀ h',Fly B (env::outer) e cls (rawInt L) h'->s.heap.UpToSlots h'->Q () {s with heap:=h'}):wpAny M A (noteFrame (.ref e) env) Q E s:=by
 obtain ⟨ob,vs,h1,h2,h3,h4,h5,h6⟩:=id hx
 unfold noteFrame
 simp only [hf]
 refine qaW (wpAny_field h1 h4 h6 ?_)
 rw [qa5 (by decide)]
 exact zmt hfr hl hf hx hkb hen q
theorem zfC {Q:Unit->Shared->Prop} (y:Fly B l e cls fl s.heap) (q: ∀ h',Fly B l e cls .none h'->(∀ b o,s.heap.get? b=some o->(∀ ws,o.data≠ .fields ws)->h'.get? b=some o)->Q () {s with heap:=h'}):
  wpAny M A (setFlight (.ref e) none) Q E s:=by
 obtain ⟨hkb,hen,hl,hd,⟨ob,vs,h1,h2,h3,h4,h5,h6⟩,T,ot,ts,rfl,t1,t2,t3,t4,t5⟩:=y
 have hsz:=(qab.mp t5).1
 have oth: ∀ b,b≠T->(s.heap.update T (Obj.mapFields (·.setIfInBounds 3 ((none:Option Addr).elim Value.none fun f=>rawInt f)))).get? b=s.heap.get? b:=fun b hb=>qah _ _ (Ne.symm hb)
 have nrec: ∀ b o,s.heap.get? b=some o->(∀ ws,o.data≠ .fields ws)->b≠T:=fun b o z hn w=>by
  rw [w,t3] at z
  cases z
  exact hn ts t4
 unfold setFlight
 refine qaW (wpAny_field h1 h4 h6 ?_)
 rw [qa4 (show (Value.ref T != Value.none)=true by simp)]
 refine wpAny_setField t3 t4 hsz (q _ ⟨fun b o z=>(oth b fun w=>by rw [w,t1] at z;cases z).trans (hkb b o z),hen,hl.of_keeps fun b o z hn=>⟨o,(oth b (nrec b o z hn)).trans z,rfl⟩,
   .ref T,⟨ob,vs,(oth e (Ne.symm t2)).trans h1,h2,h3,h4,h5,h6⟩,T,_,_,rfl,t1,t2,qal _ t3 (Obj.isFreed_of_fields (Obj.data_mapFields t4 _)),Obj.data_mapFields t4 _,by simp [hsz]⟩ fun b o z hn=>(oth b (nrec b o z hn)).trans z)
theorem Fly.tail {h:Heap} (y:Fly B (env::outer) e cls fl h):Fly B outer e cls fl h:=⟨y.stays,y.new,y.frames.2.2,y.exc⟩
theorem zhs {Q:Unit->Shared->Prop} (hfr:A.frames=some (env::outer)) (hl:s.heap.FunFrames B (env::outer)) (hf:env.frame=some L) (hx:zhI s.heap e cls .none)
  (hkb:B.StaysIn s.heap) (hen:B.get? e=none) (q: ∀ h',Fly B outer e cls .none h'->s.heap.UpToSlots h'->Q () {s with heap:=h'}):wpAny M A (leaving env (.ref e)) Q E s:=by
 unfold leaving
 refine qaW (zi6 hfr hl hf hx hkb hen fun h1 y1 u1=> ?_)
 refine zfC (s:={s with heap:=h1}) y1 fun h2 y2 k2=>q h2 y2.tail (u1.trans fun b o z hn=>⟨o.slots,k2 b o z hn⟩)
theorem zlI {h h':Heap} {args:List Value} (x:Heap.MadeExcOf h h' e cls args):zhI h' e cls .none:=by
 obtain ⟨t,h1,_,_⟩:=x.there
 exact ⟨_,_,h1,rfl,rfl,rfl,rfl,rfl⟩
end
theorem zfW:entryFor table "proto.unchain"=some Builtin.«proto.unchain» := entryFor_of_tree (by kernel_rfl)
section
variable {prog:Program} {w:World} {A:Around} {E:Value->Shared->Prop} {s:Shared}
theorem zcR {α:Type} {a h:Addr} {o:Obj} {us:Array Value} {cls head:Value} {Q:α->Shared->Prop} (hh:A.handled=some (.ref h)) (hx:zhI s.heap h cls head) (ho:s.heap.get? a=some o) (hd:o.data= .fields us) (hz:2<us.size) (hne:h≠a)
  (q:E (.ref a) {s with heap:=s.heap.update a (Obj.mapFields (·.setIfInBounds 2 (.ref h)))}):wpAny (model prog w) A (raiseNew (.ref a):Sem α) Q E s:=by
 obtain ⟨ob,vs,h1,h2,h3,h4,h5,h6⟩:=hx
 unfold raiseNew
 refine qaW (wpAny_handled ?_)
 rw [hh]
 dsimp only
 rw [qa4 (show (Value.ref h != Value.ref a)=true by simp [hne])]
 refine qaW (qaO (wpAny_runValue (codeAny_builtin zfW ?_)))
 unfold Builtin.«proto.unchain»
 refine qaW (wpAny_field h1 h4 h5 ?_)
 rw [qa4 (show (Value.none==Value.none)=true from rfl)]
 refine qaW (qaX (qaX ?_))
 refine qaW ?_
 obtain ⟨c,d,dt,sl⟩:=o
 dsimp only at hd
 subst hd
 unfold updateField
 refine qaW (wpAny_load ho ?_)
 dsimp only
 rw [qa4 hz]
 exact wpAny_update ho (wpAny_throw q)
def zjo (A:Around) (h:Heap):Prop:=A.handled=none\/ ∃ a cls head,A.handled=some (.ref a)/\zhI h a cls head
theorem zml {it l:Addr} {i:Nat} {items:Array Value} {Q:Option Value->Shared->Prop} (hh:zjo A s.heap) (hit:s.heap.IsListIter it l i) (hl:s.heap.IsList l items) (hx:items[i]? = none)
  (k: ∀ h',Heap.ExtBut it s.heap h'->Q none {s with heap:=h'}):wpAny (model prog w) A (pyNext (.ref it)) Q E s:=by
 rcases hh with hh | ⟨ha,cls,head,hh,hX⟩
 ·exact wpAny_pyNext_list_end hh hit hl hx k
 obtain ⟨o,h1,h2,h3⟩:=id hit
 obtain ⟨ol,l1,_,nl,l2⟩:=hl
 unfold pyNext
 refine qaW (wpAny_attempt (wpAny_callSpecial?_slot (name:=Str.ofString "__next__") hit.typeIs slot_listiter_next (wpAny_call_entry slot_listiter_next hit.typeIs entry_listiter_next ?_ (args_listiter_next _))))
 show wpAny _ _ (field (.ref it) 0>>=_) _ _ s
 refine qaW (wpAny_field h1 h3 (x:= .ref l) rfl ?_)
 show wpAny _ _ (if (Value.ref l==Value.none)=true then _ else _) _ _ s
 rw [qa5 (show ¬(Value.ref l==Value.none)=true from nofun)]
 show wpAny _ _ (field (.ref it) 1>>=_) _ _ s
 refine qaW (wpAny_field h1 h3 (x:= .int i 0) rfl ?_)
 show wpAny _ _ (seqItems? (.ref l)>>=_) _ _ s
 refine qaW (wpAny_seqItems l1 l2 ?_)
 simp only [qaB,hx]
 refine qaW (wpAny_rule (qaW (wpAny_setField h1 h3 (by simp) ?_)))
 have nit:ha≠it:=fun z=>by
  subst z
  obtain ⟨ob,vs,x1,_,_,x4,x5,x6⟩:=hX
  rw [h1] at x1
  cases x1
  rw [h3] at x4
  cases x4
  simp at x5
 have hX1:zhI (s.heap.update it (Obj.mapFields (·.setIfInBounds 0 Value.none))) ha cls head:=by
  obtain ⟨ob,vs,x1,x2⟩:=hX
  exact ⟨ob,vs,(qah _ _ (Ne.symm nit)).trans x1,x2⟩
 show wpAny _ _ (newExc (.type "StopIteration") []>>=_) _ _ _
 refine qaW ?_
 simp only [newExc,newTuple]
 refine qaW (qaC ?_ (by size_fits))
 refine qaW (m:=firstArgMember _ _) (wpAny_of_eq (a:=Value.none) (by first | rfl | (simp only [firstArgMember];rfl)) ?_)
 refine qaC ?_ (by size_fits)
 obtain ⟨ob,vs,x1,x2⟩:=hX1
 have y1:=qag {cls:= .type "tuple",dict:=none,data:= .seq [].toArray} x1
 refine zcR (h:=ha) (cls:=cls) (head:=head) hh ⟨ob,vs,qag _ y1,x2⟩ (qar _ rfl) rfl (by simp;omega) (qaR (qaQ y1)) ?_
 refine qaW (wpAny_isInstance (T:="StopIteration") (b:=true) ⟨_,qal _ (qar _ rfl) rfl,rfl⟩ isSubtype_stop ?_)
 refine qaX (k _ fun b o hb z=> ?_)
 have z1:(s.heap.update it (Obj.mapFields (·.setIfInBounds 0 Value.none))).get? b=some o:=(qah _ _ (Ne.symm hb)).trans z
 have z2:=qag {cls:= .type "tuple",dict:=none,data:= .seq [].toArray} z1
 rw [qah _ _ (Nat.ne_of_gt (qaQ z2))]
 exact qag _ z2
theorem zkp {it l:Addr} {i:Nat} {items:Array Value} {Q:Option Value->Shared->Prop} (hh:zjo A s.heap) (hit:s.heap.IsTupleIter it l i) (hl:s.heap.IsTuple l items) (hx:items[i]? = none)
  (k: ∀ h',Heap.ExtBut it s.heap h'->Q none {s with heap:=h'}):wpAny (model prog w) A (pyNext (.ref it)) Q E s:=by
 rcases hh with hh | ⟨ha,cls,head,hh,hX⟩
 ·exact wpAny_pyNext_tuple_end hh hit hl hx k
 obtain ⟨o,h1,h2,h3⟩:=id hit
 obtain ⟨ol,l1,_,nl,l2⟩:=hl
 unfold pyNext
 refine qaW (wpAny_attempt (wpAny_callSpecial?_slot (name:=Str.ofString "__next__") hit.typeIs F.slot_tuple_iterator_next (wpAny_call_entry F.slot_tuple_iterator_next hit.typeIs F.entry_tuple_iterator_next ?_ (F.args_tuple_iterator_next_1 _))))
 show wpAny _ _ (field (.ref it) 0>>=_) _ _ s
 refine qaW (wpAny_field h1 h3 (x:= .ref l) rfl ?_)
 show wpAny _ _ (if (Value.ref l==Value.none)=true then _ else _) _ _ s
 rw [qa5 (show ¬(Value.ref l==Value.none)=true from nofun)]
 show wpAny _ _ (field (.ref it) 1>>=_) _ _ s
 refine qaW (wpAny_field h1 h3 (x:= .int i 0) rfl ?_)
 show wpAny _ _ (seqItems? (.ref l)>>=_) _ _ s
 refine qaW (wpAny_seqItems l1 l2 ?_)
 simp only [qaB,hx]
 refine qaW (wpAny_rule (qaW (wpAny_setField h1 h3 (by simp) ?_)))
 have nit:ha≠it:=fun z=>by
  subst z
  obtain ⟨ob,vs,x1,_,_,x4,x5,x6⟩:=hX
  rw [h1] at x1
  cases x1
  rw [h3] at x4
  cases x4
  simp at x5
 have hX1:zhI (s.heap.update it (Obj.mapFields (·.setIfInBounds 0 Value.none))) ha cls head:=by
  obtain ⟨ob,vs,x1,x2⟩:=hX
  exact ⟨ob,vs,(qah _ _ (Ne.symm nit)).trans x1,x2⟩
 show wpAny _ _ (newExc (.type "StopIteration") []>>=_) _ _ _
 refine qaW ?_
 simp only [newExc,newTuple]
 refine qaW (qaC ?_ (by size_fits))
 refine qaW (m:=firstArgMember _ _) (wpAny_of_eq (a:=Value.none) (by first | rfl | (simp only [firstArgMember];rfl)) ?_)
 refine qaC ?_ (by size_fits)
 obtain ⟨ob,vs,x1,x2⟩:=hX1
 have y1:=qag {cls:= .type "tuple",dict:=none,data:= .seq [].toArray} x1
 refine zcR (h:=ha) (cls:=cls) (head:=head) hh ⟨ob,vs,qag _ y1,x2⟩ (qar _ rfl) rfl (by simp;omega) (qaR (qaQ y1)) ?_
 refine qaW (wpAny_isInstance (T:="StopIteration") (b:=true) ⟨_,qal _ (qar _ rfl) rfl,rfl⟩ isSubtype_stop ?_)
 refine qaX (k _ fun b o hb z=> ?_)
 have z1:(s.heap.update it (Obj.mapFields (·.setIfInBounds 0 Value.none))).get? b=some o:=(qah _ _ (Ne.symm hb)).trans z
 have z2:=qag {cls:= .type "tuple",dict:=none,data:= .seq [].toArray} z1
 rw [qah _ _ (Nat.ne_of_gt (qaQ z2))]
 exact qag _ z2
theorem zkT {it:Addr} {x left step:Int} {Q:Option Value->Shared->Prop} (hh:zjo A s.heap) (hit:IsRangeIter s.heap it x left step) (hleft:left<=0)
  (k: ∀ h',Heap.ExtBut it s.heap h'->Q none {s with heap:=h'}):wpAny (model prog w) A (pyNext (.ref it)) Q E s:=by
 rcases hh with hh | ⟨ha,cls,head,hh,hX⟩
 ·exact wpAny_pyNext_range_end hh hit hleft k
 have hT:s.TypeIs (.ref it) "range_iterator":=⟨_,hit,rfl⟩
 unfold pyNext
 refine qaW (wpAny_attempt (wpAny_callSpecial?_slot (name:=Str.ofString "__next__") hT F.slot_range_iterator_next (wpAny_call_entry F.slot_range_iterator_next hT F.entry_range_iterator_next ?_ (F.args_range_iterator_next_1 _))))
 show wpAny _ _ (field (.ref it) 0>>=_) _ _ s
 refine qaW (wpAny_field hit rfl (x:=rawInt x) rfl ?_)
 show wpAny _ _ (field (.ref it) 1>>=_) _ _ s
 refine qaW (wpAny_field hit rfl (x:=rawInt left) rfl ?_)
 show wpAny _ _ (field (.ref it) 2>>=_) _ _ s
 refine qaW (wpAny_field hit rfl (x:=rawInt step) rfl ?_)
 show wpAny _ _ (if left<=0 then _ else _) _ _ s
 rw [qa4 hleft]
 refine qaW (wpAny_rule (qaW ?_))
 show wpAny _ _ (newExc (.type "StopIteration") []>>=_) _ _ _
 refine qaW ?_
 simp only [newExc,newTuple]
 refine qaW (qaC ?_ (by size_fits))
 refine qaW (m:=firstArgMember _ _) (wpAny_of_eq (a:=Value.none) (by first | rfl | (simp only [firstArgMember];rfl)) ?_)
 refine qaC ?_ (by size_fits)
 obtain ⟨ob,vs,x1,x2⟩:=hX
 have y1:=qag {cls:= .type "tuple",dict:=none,data:= .seq [].toArray} x1
 refine zcR (h:=ha) (cls:=cls) (head:=head) hh ⟨ob,vs,qag _ y1,x2⟩ (qar _ rfl) rfl (by simp;omega) (qaR (qaQ y1)) ?_
 refine qaW (wpAny_isInstance (T:="StopIteration") (b:=true) ⟨_,qal _ (qar _ rfl) rfl,rfl⟩ isSubtype_stop ?_)
 refine qaX (k _ fun b o hb z=> ?_)
 have z2:=qag {cls:= .type "tuple",dict:=none,data:= .seq [].toArray} z
 rw [qah _ _ (Nat.ne_of_gt (qaQ z2))]
 exact qag _ z2
theorem zhI.keep {h h':Heap} {a:Addr} {cls head:Value} (x:zhI h a cls head) (k: ∀ o,h.get? a=some o->h'.get? a=some o):zhI h' a cls head:=by
 obtain ⟨ob,vs,x1,x2⟩:=x
 exact ⟨ob,vs,k _ x1,x2⟩
end
end L3
namespace L2
open PySem PySem.Spec PyProof.Rows
noncomputable abbrev Key:=Sum Int Str
noncomputable def zqC:Key->Value->Bool
 | .inl k,v=>Value.isInt k v
 | .inr x,v=>Value.isStrOf x v
noncomputable def zs9 (w:World):Key->Int
 | .inl k=>hashInt k
 | .inr x=>hashStr w x
theorem zbb: ∀ {k:Key} {v:Value},zqC k v=true->(∃ i t,k=Sum.inl i/\v=Value.int i t)\/(∃ x t,k=Sum.inr x/\v=Value.str x t)
 | .inl i,v,h=>by
  obtain ⟨t,e⟩:=Value.isInt_shape (k:=i) (v:=v) h
  exact .inl ⟨i,t,rfl,e⟩
 | .inr x,v,h=>by
  obtain ⟨t,e⟩:=Value.isStrOf_shape (x:=x) (v:=v) h
  exact .inr ⟨x,t,rfl,e⟩
theorem zpz (a b:Int):decide ((Sum.inl a:Key)=Sum.inl b)=(a==b):=by
 by_cases e:a=b
 ·subst e;simp
 ·have h: ¬(Sum.inl a:Key)=Sum.inl b:=fun q=>e (Sum.inl.inj q)
  rw [decide_eq_false h]
  exact (beq_eq_false_iff_ne.mpr e).symm
theorem zqB (a b:Str):decide ((Sum.inr a:Key)=Sum.inr b)=decide (a=b):=by
 by_cases e:a=b
 ·subst e;simp
 ·have h: ¬(Sum.inr a:Key)=Sum.inr b:=fun q=>e (Sum.inr.inj q)
  rw [decide_eq_false h,decide_eq_false e]
theorem zpN (a:Int) (b:Str):decide ((Sum.inl a:Key)=Sum.inr b)=false:=decide_eq_false (fun q=>nomatch q)
theorem zqi (a:Str) (b:Int):decide ((Sum.inr a:Key)=Sum.inl b)=false:=decide_eq_false (fun q=>nomatch q)
noncomputable def zhL (prog:Program) (w:World):PySem.KeyKind prog w Key where
 is:=zqC
 hash:=zs9 w
 inj:=fun v a b ha hb=>by
  rcases zbb ha with ⟨i,t,rfl,rfl⟩ | ⟨x,t,rfl,rfl⟩
  ·rcases zbb hb with ⟨j,u,rfl,e⟩ | ⟨y,u,rfl,e⟩
   ·injection e with e1 _;rw [e1]
   ·exact nomatch e
  ·rcases zbb hb with ⟨j,u,rfl,e⟩ | ⟨y,u,rfl,e⟩
   ·exact nomatch e
   ·injection e with e1 _;rw [e1]
 byValue:=fun k v h=>by
  rcases zbb h with ⟨i,t,rfl,rfl⟩ | ⟨x,t,rfl,rfl⟩<;>rfl
 pyHash:=fun hv h=>by
  rcases zbb hv with ⟨i,t,rfl,rfl⟩ | ⟨x,t,rfl,rfl⟩
  ·exact wpAny_pyHash_int h
  ·exact wpAny_pyHash_str h
 eqBool:=fun hu hv h=>by
  rcases zbb hu with ⟨i,t,rfl,rfl⟩ | ⟨x,t,rfl,rfl⟩
  ·rcases zbb hv with ⟨j,u,rfl,rfl⟩ | ⟨y,u,rfl,rfl⟩
   ·rw [zpz] at h;exact wpAny_eqBool_int h
   ·rw [zpN] at h;exact SeqAt.EqAt.int_str i t y u _ _ _ _ h
  ·rcases zbb hv with ⟨j,u,rfl,rfl⟩ | ⟨y,u,rfl,rfl⟩
   ·rw [zqi] at h;exact SeqAt.EqAt.str_int x t j u _ _ _ _ h
   ·rw [zqB] at h;exact wpAny_eqBool_str h
 «strs» := fun k x t v h=>by
  rcases zbb h with ⟨i,u,rfl,e⟩ | ⟨y,u,rfl,e⟩
  ·exact nomatch e
  ·injection e with e1 _
   subst e1
   cases v<;>rfl
inductive V where
 | non | bl (b:Bool) | int (i:Int) | str (x:Str) | byt (b:Array UInt8) | flt (b:UInt64) | ref (a:Addr) | ty (n:String)
 deriving DecidableEq
noncomputable def zcf:V->Value->Prop
 | .non,u=>u=Value.none
 | .bl b,u=>u=Value.bool b
 | .int i,u=> ∃ t,u=Value.int i t
 | .str x,u=> ∃ t,u=Value.str x t
 | .byt b,u=> ∃ t,u=Value.bytes b t
 | .flt b,u=> ∃ t,u=Value.float b t
 | .ref a,u=>u=Value.ref a
 | .ty n,u=>u=Value.type n
noncomputable abbrev za6:List V->List Value->Prop:=Paired zcf
theorem za6.length {xs:List V} {us:List Value} (r:za6 xs us):xs.length=us.length:=Paired.length r
theorem za6.get: ∀ {xs:List V} {us:List Value} {i:Nat} {x:V},za6 xs us->xs[i]? = some x-> ∃ u,us[i]? = some u/\zcf x u
 | _,_,_,_,.nil,e=>by simp at e
 | _,_,0,_,.cons r _,e=>by simp at e;subst e;exact ⟨_,rfl,r⟩
 | _,_,i+1,x,.cons _ t,e=>by
  obtain ⟨u,h1,h2⟩:=za6.get (i:=i) (x:=x) t (by simpa using e)
  exact ⟨u,by simpa using h1,h2⟩
theorem za6.set {x:V} {u:Value} (r:zcf x u): ∀ {xs:List V} {us:List Value} (i:Nat),za6 xs us->za6 (xs.set i x) (us.set i u)
 | _,_,_,.nil=> .nil
 | _,_,0,.cons _ t=> .cons r t
 | _,_,i+1,.cons q t=> .cons q (za6.set r i t)
theorem za6.append: ∀ {xs ys:List V} {us ws:List Value},za6 xs us->za6 ys ws->za6 (xs++ys) (us++ws)
 | _,_,_,_,.nil,s=>s
 | _,_,_,_,.cons r t,s=> .cons r (za6.append t s)
theorem za6.take: ∀ {xs:List V} {us:List Value} (n:Nat),za6 xs us->za6 (xs.take n) (us.take n)
 | _,_,0,_=> .nil
 | _,_,_+1,.nil=> .nil
 | _,_,n+1,.cons r t=> .cons r (za6.take n t)
theorem za6.drop: ∀ {xs:List V} {us:List Value} (n:Nat),za6 xs us->za6 (xs.drop n) (us.drop n)
 | _,_,0,r=>r
 | _,_,_+1,.nil=> .nil
 | _,_,n+1,.cons _ t=>za6.drop n t
noncomputable def zrM:Option V->Option Value->Prop
 | some v,some u=>zcf v u
 | none,none=>True
 | _,_=>False
noncomputable def KV {κ:Type}:List (κ×V)->List (κ×Value)->Prop:=Paired fun (p:κ×V) (q:κ×Value)=>p.1=q.1/\zcf p.2 q.2
noncomputable def kV:Key->V
 | .inl i=> .int i
 | .inr x=> .str x
inductive HO where
 | lst (xs:List V)
 | tup (xs:List V)
 | dK (kvs:List (Key×V)) | dT (kvs:List (List Key×V))
 | set (S:Int->Bool) (n:Nat)
 | ins (C dx:Addr) (fs:List (Str×V))
 | own (x:Addr)
 | xd (fs:List (Str×V))
 | met (f x:Addr)
 | rng (lo hi:Int)
 | frz (o:Obj) (u:HO)
 | tbl (ps:Array Value)
 | ext (φ:Heap->Prop)
noncomputable abbrev Hp:=Addr->Option HO
noncomputable def upd (H:Hp) (a:Addr) (o:HO):Hp:=fun b=>if b=a then some o else H b
theorem zaR {H:Hp} {a:Addr} {o:HO}:upd H a o a=some o:=by unfold upd;rw [qa4 rfl]
theorem zaG {H:Hp} {a b:Addr} {o:HO} (h:b≠a):upd H a o b=H b:=by unfold upd;rw [qa5 h]
theorem zaY {H:Hp} {a b:Addr} {o:HO} (h:H a=some o) (h':H b=none):a≠b:=by
 intro e;subst e;rw [h] at h';cases h'
section
variable (P:Program) (w:World)
noncomputable def zbR (H:Hp) (h:Heap) (a:Addr):HO->Prop
 | .lst xs=>xs.length<=sizeLine/\ ∃ (its:List Value) (n:Nat),za6 xs its/\h.get? a=some {cls:= .type "list",data:= .seq its.toArray n}
 | .tup xs=>xs.length<=sizeLine/\ ∃ its:List Value,za6 xs its/\IsTup h a its.toArray
 | .dK kvs=>kvs.length<=sizeLine/\(a==sysModules)=false/\ ∃ vs,KV kvs vs/\h.DictOf (zhL P w) a vs
 | .dT kvs=>kvs.length<=sizeLine/\(a==sysModules)=false/\ ∃ xs:List (List Key×Addr×Value),
   Paired (fun (p:List Key×V) (q:List Key×Addr×Value)=>p.1=q.1/\H q.2.1=some (.tup (p.1.map kV))/\zcf p.2 q.2.2) kvs xs/\
   ∃ o es ep,h.get? a=some o/\o.ExactDict/\o.data= .dict es ep/\es.toList=xs.map (entryOfKey (tupleKind (zhL P w)))/\(xs.map (·.1)).Nodup
 | .set S n=>h.SetOf (intKind P w) a S n
 | .ins C dx fs=>H dx=some (.own a)/\fs.length<=1000/\dx≠a/\h.get? a=some (W.instObj C dx)/\
   ∃ mA,h.Ns1 dx mA/\(∀ f,zrM (fs.lookup f) (mA f))/\PySem.Within mA (fs.map (·.1))
 | .own _=> ∃ o,h.get? a=some o
 | .xd fs=> ∃ mA,h.Ns1 a mA/\ ∀ f,zrM (fs.lookup f) (mA f)
 | .rng lo hi=> ∃ t u v,h.get? a=some {cls:= .type "range",data:= .fields #[.int lo t,.int hi u,.int 1 v]}
 | .frz o u=>h.get? a=some o/\zbR H h a u
 | .tbl ps=>h.get? a=some {cls:= .none,data:= .fields ps}
 | .met f x=>h.get? a=some (W.methodObj (.ref f) (.ref x))
 | .ext φ=>φ h/\(∃ o,h.get? a=some o)/\ ∀ h1 h2:Heap,φ h1->(∀ o,h1.get? a=some o->h2.get? a=some o)->φ h2
def HOk (H:Hp) (h:Heap):Prop:= ∀ a o,H a=some o->zbR P w H h a o
end
section
variable {P:Program} {w:World} {H H':Hp} {h h':Heap} {a:Addr} {o:HO}
theorem zbR.lt (x:zbR P w H h a o):a<h.objs.size:=by
 cases o with
 | lst xs=>obtain ⟨_,_,_,_,e⟩:=x;exact qaQ e
 | tup xs=>obtain ⟨_,_,_,p⟩:=x;exact p.lt
 | dK kvs=>obtain ⟨_,_,_,_,o,_,_,e,_⟩:=x;exact qaQ e
 | dT kvs=>obtain ⟨_,_,_,_,o,_,_,e,_⟩:=x;exact qaQ e
 | set S n=>obtain ⟨o,_,_,_,e,_⟩:=x;exact qaQ e
 | ins C dx fs=>obtain ⟨_,_,_,e,_⟩:=x;exact qaQ e
 | own y=>obtain ⟨_,e⟩:=x;exact qaQ e
 | xd fs=>obtain ⟨_,⟨_,_,_,e,_⟩,_⟩:=x;exact qaQ e
 | rng lo hi=>obtain ⟨_,_,_,e⟩:=x;exact qaQ e
 | frz ob u=>obtain ⟨e,_⟩:=x;exact qaQ e
 | tbl ps=>exact qaQ (show h.get? a=some _ from x)
 | met f y=>exact qaQ (show h.get? a=some _ from x)
 | ext φ=>obtain ⟨_,⟨_,e⟩,_⟩:=x;exact qaQ e
theorem Paired.mapP {α β:Type} {F G:α->β->Prop}: ∀ {l₁:List α} {l₂:List β},Paired F l₁ l₂->(∀ a b,F a b->G a b)->Paired G l₁ l₂
 | _,_,.nil,_=> .nil
 | _,_,.cons r t,f=> .cons (f _ _ r) (Paired.mapP t f)
theorem zbR.stay (x:zbR P w H h a o) (k: ∀ b u,(b=a\/H b=some (.own a))->h.get? b=some u->h'.get? b=some u)
  (ho: ∀ b,H b=some (.own a)->H' b=some (.own a)) (ht: ∀ b xs,H b=some (.tup xs)->H' b=some (.tup xs)):zbR P w H' h' a o:=by
 induction o with
 | lst xs=>obtain ⟨z,its,n,r,e⟩:=x;exact ⟨z,its,n,r,k _ _ (.inl rfl) e⟩
 | tup xs=>obtain ⟨z,its,r,ob,e,c⟩:=x;exact ⟨z,its,r,ob,k _ _ (.inl rfl) e,c⟩
 | dK kvs=>obtain ⟨z,y,vs,r,ob,es,ep,e,c⟩:=x;exact ⟨z,y,vs,r,ob,es,ep,k _ _ (.inl rfl) e,c⟩
 | dT kvs=>
  obtain ⟨z,y,xs,r,ob,es,ep,e,c⟩:=x
  exact ⟨z,y,xs,Paired.mapP r fun p q z=>⟨z.1,ht _ _ z.2.1,z.2.2⟩,ob,es,ep,k _ _ (.inl rfl) e,c⟩
 | set S n=>obtain ⟨ob,es,ep,t,e,c⟩:=x;exact ⟨ob,es,ep,t,k _ _ (.inl rfl) e,c⟩
 | ins C dx fs=>
  obtain ⟨d,z,ne,e,mA,⟨od,es,ep,e2,c⟩,r⟩:=x
  exact ⟨ho _ d,z,ne,k _ _ (.inl rfl) e,mA,⟨od,es,ep,k _ _ (.inr d) e2,c⟩,r⟩
 | own y=>obtain ⟨ob,e⟩:=x;exact ⟨ob,k _ _ (.inl rfl) e⟩
 | xd fs=>obtain ⟨mA,⟨od,es,ep,e,c⟩,r⟩:=x;exact ⟨mA,⟨od,es,ep,k _ _ (.inl rfl) e,c⟩,r⟩
 | rng lo hi=>obtain ⟨t,u,v,e⟩:=x;exact ⟨t,u,v,k _ _ (.inl rfl) e⟩
 | frz ob u ih=>obtain ⟨e,q⟩:=x;exact ⟨k _ _ (.inl rfl) e,ih q⟩
 | tbl ps=>
  have e:h.get? a=some {cls:= .none,data:= .fields ps}:=x
  show h'.get? a=some {cls:= .none,data:= .fields ps}
  exact k a _ (.inl rfl) e
 | met f y=>
  have e:h.get? a=some (W.methodObj (.ref f) (.ref y)):=x
  show h'.get? a=some (W.methodObj (.ref f) (.ref y))
  exact k a _ (.inl rfl) e
 | ext φ=>obtain ⟨p,⟨o,e⟩,st⟩:=x;exact ⟨st _ _ p fun o q=>k _ _ (.inl rfl) q,⟨o,k _ _ (.inl rfl) e⟩,st⟩
theorem HOk.lt (x:HOk P w H h) (e:H a=some o):a<h.objs.size:=(x a o e).lt
theorem HOk.fresh (x:HOk P w H h) (e:h.objs.size<=a):H a=none:=by
 cases q:H a with
 | none=>rfl
 | some u=>exact absurd (qaw (x.lt q) e) (qaN _)
theorem HOk.kept (x:HOk P w H h) (k: ∀ b u,h.get? b=some u->h'.get? b=some u):HOk P w H h':=fun a o e=>
 (x a o e).stay (fun b u _ q=>k b u q) (fun _ q=>q) fun _ _ q=>q
theorem HOk.laid (x:HOk P w H h) (k: ∀ b u,h.get? b=some u->h'.get? b=some u) (hp:h.objs.size<=a) (new:zbR P w (upd H a o) h' a o):HOk P w (upd H a o) h':=fun b u e=>by
 have hn:=x.fresh hp
 by_cases hb:b=a
 ·subst hb;rw [zaR] at e;cases e;exact new
 ·rw [zaG hb] at e
  exact (x b u e).stay (fun c v _ q=>k c v q) (fun c q=>by rw [zaG (zaY q hn)];exact q) fun c xs q=>by rw [zaG (zaY q hn)];exact q
end
def Rd (H:Hp) (a:Addr) (u:HO):Prop:=H a=some u\/ ∃ o,H a=some (.frz o u)
theorem Rd.of {H:Hp} {a:Addr} {u:HO} (h:H a=some u):Rd H a u:= .inl h
theorem Rd.ok {P:Program} {w:World} {H:Hp} {h:Heap} {a:Addr} {u:HO} (r:Rd H a u) (x:HOk P w H h):zbR P w H h a u:=by
 rcases r with r | ⟨o,r⟩
 ·exact x a u r
 ·obtain ⟨_,q⟩:=x a _ r
  exact q
noncomputable def Mut:Option HO->Prop
 | some (.lst _)=>True
 | some (.dK _)=>True
 | some (.dT _)=>True
 | some (.set _ _)=>True
 | some (.ins _ _ _)=>True
 | some (.ext _)=>True
 | _=>False
section
variable {P:Program} {w:World} {H:Hp} {h h':Heap} {x e:Addr} {o':HO}
theorem HOk.write (ok:HOk P w H h) (mu:Mut (H x)) (he:e=x\/H e=some (.own x)) (k: ∀ b u,b≠e->h.get? b=some u->h'.get? b=some u) (heo: ∃ u,h'.get? e=some u)
  (new:zbR P w (upd H x o') h' x o'):HOk P w (upd H x o') h':=fun b u q=>by
 have nown: ∀ c y,H c=some (.own y)->c≠x:=fun c y r z=>by subst z;rw [r] at mu;exact mu
 have ntup: ∀ c xs,H c=some (.tup xs)->c≠x:=fun c xs r z=>by subst z;rw [r] at mu;exact mu
 by_cases hb:b=x
 ·subst hb;rw [zaR] at q;cases q;exact new
 ·rw [zaG hb] at q
  by_cases hbe:b=e
  ·have q':H b=some (.own x):=by
    rcases he with z | z
    ·exact absurd (hbe.trans z) hb
    ·rw [hbe];exact z
   rw [q] at q';cases q'
   obtain ⟨v,hv⟩:=heo
   exact ⟨v,by rw [hbe];exact hv⟩
  ·refine (ok b u q).stay (fun c v hc r=>k c v ?_ r) (fun c r=>by rw [zaG (nown c b r)];exact r) fun c xs r=>by rw [zaG (ntup c xs r)];exact r
   rcases hc with rfl | hc
   ·exact hbe
   ·rintro rfl
    rcases he with z | z
    ·exact nown c b hc z
    ·rw [hc] at z;cases z;exact hb rfl
end
structure Un (fs ex:List Addr) (H H':Hp) (h h':Heap):Prop where
 keep: ∀ b o,h.get? b=some o->H b=none->b∉fs->b∉ex->h'.get? b=some o
 slot: ∀ b o,h.get? b=some o->H b=none->b∈fs->b∉ex-> ∃ sl,h'.get? b=some {o with slots:=sl}
 free: ∀ b o,h.get? b=some o->H b=none->b∉ex->H' b=none
 there: ∀ b o,h.get? b=some o->b∉ex-> ∃ o',h'.get? b=some o'
 tups: ∀ b xs,H b=some (.tup xs)->H' b=some (.tup xs)
 frzs: ∀ b o u,H b=some (.frz o u)->H' b=some (.frz o u)
 tbls: ∀ b ps,H b=some (.tbl ps)-> ∃ more,H' b=some (.tbl (ps++more))
section
variable {fs fs' ex ex':List Addr} {H H1 H2:Hp} {h h1 h2 h':Heap} {a x e:Addr} {o:HO}
theorem Un.any (u:Un fs ex H H1 h h1) {b:Addr} {ob:Obj} (q:h.get? b=some ob) (n:H b=none) (hx:b∉ex): ∃ sl,h1.get? b=some {ob with slots:=sl}:=by
 by_cases hb:b∈fs
 ·exact u.slot b ob q n hb hx
 ·exact ⟨ob.slots,u.keep b ob q n hb hx⟩
theorem Un.trans (a:Un fs ex H H1 h h1) (b:Un fs ex H1 H2 h1 h2):Un fs ex H H2 h h2 where
 keep:=fun c ob q n hc hx=>b.keep c ob (a.keep c ob q n hc hx) (a.free c ob q n hx) hc hx
 slot:=fun c ob q n hc hx=>by
  obtain ⟨sl,e1⟩:=a.slot c ob q n hc hx
  obtain ⟨sl',e2⟩:=b.slot c _ e1 (a.free c ob q n hx) hc hx
  exact ⟨sl',e2⟩
 free:=fun c ob q n hx=>by
  obtain ⟨o',e1⟩:=a.there c ob q hx
  exact b.free c o' e1 (a.free c ob q n hx) hx
 there:=fun c ob q hx=>by
  obtain ⟨o',e1⟩:=a.there c ob q hx
  exact b.there c o' e1 hx
 tups:=fun c xs q=>b.tups c xs (a.tups c xs q)
 frzs:=fun c ob xs q=>b.frzs c ob xs (a.frzs c ob xs q)
 tbls:=fun c ps q=>by
  obtain ⟨m1,e1⟩:=a.tbls c ps q
  obtain ⟨m2,e2⟩:=b.tbls c _ e1
  exact ⟨m1++m2,by rw [e2,Array.append_assoc]⟩
theorem Un.kept (k: ∀ b u,h.get? b=some u->h'.get? b=some u):Un fs ex H H h h':=
 ⟨fun b ob q _ _ _=>k b ob q,fun b ob q _ _ _=>⟨ob.slots,k b ob q⟩,fun _ _ _ n _=>n,fun b ob q _=>⟨ob,k b ob q⟩,fun _ _ q=>q,fun _ _ _ q=>q,fun _ ps q=>⟨#[],by rw [q];simp⟩⟩
theorem Un.refl:Un fs ex H H h h:=Un.kept fun _ _ q=>q
theorem Un.laid (k: ∀ b u,h.get? b=some u->h'.get? b=some u) (hp:h.objs.size<=a) (hn:H a=none):Un fs ex H (upd H a o) h h' where
 keep:=fun b u q _ _ _=>k b u q
 slot:=fun b u q _ _ _=>⟨u.slots,k b u q⟩
 free:=fun b u q n _=>by rw [zaG (qaR (qaw (qaQ q) hp))];exact n
 there:=fun b u q _=>⟨u,k b u q⟩
 tups:=fun b xs q=>by rw [zaG (zaY q hn)];exact q
 frzs:=fun b u xs q=>by rw [zaG (zaY q hn)];exact q
 tbls:=fun b ps q=>⟨#[],by rw [zaG (zaY q hn),q];simp⟩
theorem Un.write (mu:Mut (H x)) (he:e=x\/H e=some (.own x)) (k: ∀ b u,b≠e->h.get? b=some u->h'.get? b=some u) (heo: ∃ u,h'.get? e=some u):Un fs ex H (upd H x o) h h':=by
 have hx: ∀ b,H b=none->b≠x:=fun b n z=>by subst z;rw [n] at mu;exact mu
 have hb: ∀ b,H b=none->b≠e:=fun b n z=>by
  subst z
  rcases he with r | r
  ·exact hx b n r
  ·rw [n] at r;cases r
 have hm: ∀ b u,H b=some u-> ¬Mut (some u)->b≠x:=fun b u q nm z=>by subst z;rw [q] at mu;exact nm mu
 refine ⟨fun b u q n _ _=>k b u (hb b n) q,fun b u q n _ _=>⟨u.slots,k b u (hb b n) q⟩,fun b u q n _=>by rw [zaG (hx b n)];exact n,fun b u q _=> ?_,
   fun b xs q=>by rw [zaG (hm b _ q fun z=>z)];exact q,fun b u xs q=>by rw [zaG (hm b _ q fun z=>z)];exact q,fun b ps q=>⟨#[],by rw [zaG (hm b _ q fun z=>z),q];simp⟩⟩
 by_cases hbe:b=e
 ·subst hbe;exact heo
 ·exact ⟨u,k b u hbe q⟩
theorem Un.mono (u:Un fs ex H H1 h h1) (hs: ∀ b∈fs,b∈fs') (hx: ∀ b∈ex,b∈ex'):Un fs' ex' H H1 h h1:=
 ⟨fun b ob q n hb he=>u.keep b ob q n (fun z=>hb (hs b z)) fun z=>he (hx b z),fun _ _ q n _ he=>u.any q n fun z=>he (hx _ z),fun b ob q n he=>u.free b ob q n fun z=>he (hx b z),fun b ob q he=>u.there b ob q fun z=>he (hx b z),u.tups,u.frzs,u.tbls⟩
end
noncomputable def trk (h:Heap) (H:Hp):List Addr:=(List.range h.objs.size).filter fun a=>(H a).isSome
noncomputable def zlv (h:Heap) (H:Hp):Heap:=W.hideAll h (trk h H)
theorem zks (h:Heap) (H:Hp):(zlv h H).objs.size=h.objs.size:=W.hideAll_size _ _
theorem zmw {h:Heap} {H:Hp} {b:Addr} {o:Obj} (e:h.get? b=some o) (n:H b=none):(zlv h H).get? b=some o:=
 W.hideAll_get _ e fun hm=>by
  have q:(H b).isSome=true:=(List.mem_filter.mp hm).2
  rw [n] at q;simp at q
theorem znM {h:Heap} {H:Hp} {b:Addr} {o:Obj} (e:(zlv h H).get? b=some o):h.get? b=some o/\H b=none:=by
 have e':h.get? b=some o:=W.of_hideAll (trk h H) e
 refine ⟨e',?_⟩
 cases q:H b with
 | none=>rfl
 | some x=>
  have hm:b∈trk h H:=List.mem_filter.mpr ⟨List.mem_range.mpr (qaQ e'),by simp [q]⟩
  have z:(zlv h H).get? b=none:=W.hideAll_none (trk h H) hm
  rw [z] at e;cases e
noncomputable def zoe (g h:Heap) (L:Addr):List (Addr×Obj):=(List.range h.objs.size).filterMap fun a=>if a=L\/(g.get? a).isSome=true then none else (h.get? a).map fun o=>(a,o)
noncomputable def zbS (g h:Heap) (L d:Addr):List (Addr×Obj):=(zoe g h L).filter fun p=>decide (p.1≠d)
structure Mod (K:W.Frag) (mg:Str->Option Value) (base:Heap):Prop where
 kin:K.In base
 glob:base.Ns mainGlobals mg
 blt: ∃ mb,base.Ns builtinsNs mb/\ ∀ x:Str,x≠"__name__"->mb x=bootBuiltins x
 nolimit:base.NoLimit
structure Cx where
 prog:Program
 w:World
 K:W.Frag
 mg:Str->Option Value
 base:Heap
 A:Around
 N:List Str
 s₀:Shared
 H₀:Hp
 env:Env
 outer:List Env
 stack:List Env
 ex:List Addr
 fn:Str->Bool
 calm:Bool
 pn:List (Addr×Obj)
 xe:Value->Shared->Prop
noncomputable def frs (l:List Env):List Addr:=l.filterMap (·.frame)
noncomputable abbrev Cx.fs (X:Cx):List Addr:=frs X.outer
def Vis (sc:Scope) (x:Str):Prop:=sc.names.lookup x=some .local\/sc.names.lookup x=some .cell\/sc.names.lookup x=some .free
def Loc (sc:Scope) (x:Str):Prop:=sc.names.lookup x=some .local\/sc.names.lookup x=some .cell
def ztb (env:Env) (h:Heap) (m:Str->Option Value) (x:Str) (u:Value):Prop:=
 (env.kindOf x=some .local/\m x=some u)\/((env.kindOf x=some .cell\/env.kindOf x=some .free)/\ ∃ c,env.cells.lookup x=some c/\h.IsCell c (some u))
def zhg (A:Around) (H:Hp):Prop:=A.handled=none\/ ∃ a o cls head vs,A.handled=some (.ref a)/\H a=some (.frz o (.own 0))/\o.cls=cls/\o.dict=none/\o.data= .fields vs/\vs[2]? = some .none/\vs[1]? = some head
structure Cx.Ok (X:Cx):Prop where
 mod:Mod X.K X.mg X.base
 kind:X.env.scope.kind= .function
 glob:X.env.globals=mainGlobals
 blt:X.env.builtins=builtinsNs
 above:X.s₀.heap.objs.size<=X.env.locals
 inj: ∀ x y c,X.env.cells.lookup x=some c->X.env.cells.lookup y=some c->x=y
 has: ∀ x,(X.env.kindOf x=some .cell\/X.env.kindOf x=some .free)-> ∃ c,X.env.cells.lookup x=some c
 cab: ∀ x c,X.fn x=true->X.env.cells.lookup x=some c->X.s₀.heap.objs.size<=c
 hd:X.calm=true->X.A.handled=none
 hx:zhg X.A X.H₀
 frames:X.A.frames=some X.stack
 stk:X.stack=X.outer\/(X.stack=X.env::X.outer/\X.env.frame=some X.env.locals)
 exf: ∀ b∈X.ex,b≠X.env.locals/\ ∀ x c,X.env.cells.lookup x=some c->c≠b
 bs: ∀ b o,X.base.get? b=some o->X.s₀.heap.get? b=some o/\X.H₀ b=none
 bsz:X.base.objs.size<=X.s₀.heap.objs.size
 noex: ∀ b o,X.base.get? b=some o->b∉X.ex
 exfs: ∀ b∈X.ex,b∉X.fs
 funs:X.s₀.heap.FunFrames X.base X.outer
 frf: ∀ b∈X.fs,X.H₀ b=none
structure Inv (X:Cx) (pins:List (Addr×Obj)) (σ:List (Option V)) (H:Hp) (s:Shared):Prop where
 ok:X.Ok
 os:s.os=X.s₀.os
 bare:AllBare s.gens
 base:Un X.fs X.ex X.H₀ H X.s₀.heap s.heap
 loc: ∃ m,s.heap.Ns X.env.locals m/\ ∀ (i:Nat) (x:Str) (v:V),X.N[i]? = some x->σ[i]? = some (some v)->Vis X.env.scope x-> ∃ u,zcf v u/\ztb X.env s.heap m x u
 cell: ∀ x c,X.env.cells.lookup x=some c-> ∃ v,s.heap.IsCell c v
 free:H X.env.locals=none
 freeC: ∀ x c,X.env.cells.lookup x=some c->H c=none
 pin: ∀ p∈X.pn++pins,s.heap.get? p.1=some p.2/\H p.1=none/\p.1≠X.env.locals/\p.1∉X.fs/\ ∀ v,p.2.data≠ .cell v
 hok:HOk X.prog X.w H s.heap
 len:σ.length=X.N.length
section
variable {X:Cx} {pins:List (Addr×Obj)} {σ:List (Option V)} {H H':Hp} {s:Shared} {h':Heap}
theorem Cx.Ok.nofr (ok:X.Ok) {b:Addr} {o:Obj} (e:X.base.get? b=some o):b∉X.fs:=fun hb=>by
 have:=(ok.funs.mem hb).1
 rw [e] at this;cases this
theorem Inv.bs (I:Inv X pins σ H s): ∀ b o,X.base.get? b=some o->s.heap.get? b=some o/\H b=none:=fun b o e=>
 ⟨I.base.keep b o (I.ok.bs b o e).1 (I.ok.bs b o e).2 (I.ok.nofr e) (I.ok.noex b o e),I.base.free b o (I.ok.bs b o e).1 (I.ok.bs b o e).2 (I.ok.noex b o e)⟩
theorem Inv.bk (I:Inv X pins σ H s): ∀ b o,X.base.get? b=some o->s.heap.get? b=some o:=fun b o e=>(I.bs b o e).1
theorem Inv.mod (I:Inv X pins σ H s):Mod X.K X.mg X.base:=I.ok.mod
theorem Inv.kIn (I:Inv X pins σ H s):X.K.In s.heap:=I.ok.mod.kin.keeps I.bk
theorem Inv.nolimit (I:Inv X pins σ H s):s.heap.NoLimit:=I.ok.mod.nolimit.keeps I.bk
theorem Inv.fr (I:Inv X pins σ H s): ∃ m,Fr X.base X.env.locals s.heap m:=
 let ⟨m,hn,_⟩:=I.loc
 ⟨m,hn,I.bk,qaS I.ok.bsz I.ok.above⟩
theorem Inv.lt (I:Inv X pins σ H s):X.env.locals<s.heap.objs.size:=let ⟨_,hn,_⟩:=I.loc;hn.lt
theorem Inv.sz (I:Inv X pins σ H s):X.s₀.heap.objs.size<=s.heap.objs.size:=qaS I.ok.above (Nat.le_of_lt I.lt)
theorem Inv.nofs (I:Inv X pins σ H s) {a:Addr} (h:s.heap.objs.size<=a):a∉X.fs:=fun hb=>by
 obtain ⟨_,o,ho,_⟩:=I.ok.funs.mem hb
 exact absurd (qaw (qaQ ho) (qaS I.sz h)) (qaN _)
theorem Inv.cne (I:Inv X pins σ H s): ∀ x c,X.env.cells.lookup x=some c->c≠X.env.locals:=fun x c e z=>by
 obtain ⟨v,o,ho,hd⟩:=I.cell x c e
 obtain ⟨m,⟨o',es,ep,ho',hd',_⟩,_⟩:=I.loc
 rw [z,ho'] at ho;cases ho;rw [hd'] at hd;cases hd
theorem Inv.funs (I:Inv X pins σ H s):s.heap.FunFrames X.base X.outer:=by
 have all: ∀ (l:List Env),(∀ b∈frs l,b∈X.fs)->X.s₀.heap.FunFrames X.base l->s.heap.FunFrames X.base l:=by
  intro l
  induction l with
  | nil=>intro _ _;trivial
  | cons env r ih=>
   intro hs hl
   obtain ⟨hk,⟨L,o,hf,hn,ho,hd⟩,hr⟩:=hl
   have hL:L∈X.fs:=hs L (by unfold frs;rw [qat,hf];exact qau)
   obtain ⟨sl,e⟩:=I.base.slot L o ho (I.ok.frf L hL) hL fun z=>I.ok.exfs L z hL
   exact ⟨hk,⟨L,_,hf,hn,e,hd⟩,ih (fun b hb=>hs b (by unfold frs;rw [qat,hf];exact qan _ hb)) hr⟩
 exact all X.outer (fun _ hb=>hb) I.ok.funs
theorem Inv.stack (I:Inv X pins σ H s):s.heap.FunFrames X.base X.stack:=by
 rcases I.ok.stk with e | ⟨e,hf⟩
 ·rw [e];exact I.funs
 ·rw [e]
  obtain ⟨m,hn,_⟩:=I.loc
  refine .cons (by rw [I.ok.kind];decide) hf hn ?_ I.funs
  exact Heap.get?_none_of_le (qaS I.ok.bsz I.ok.above)
theorem Inv.stkSub (I:Inv X pins σ H s): ∀ b∈frs X.stack,b∈X.env.locals::X.fs:=fun b hb=>by
 rcases I.ok.stk with e | ⟨e,hf⟩
 ·rw [e] at hb;exact qan _ hb
 ·rw [e] at hb
  unfold frs at hb
  rw [qat,hf] at hb
  exact hb
theorem Inv.stkFree (I:Inv X pins σ H s): ∀ b∈frs X.stack,H b=none:=fun b hb=>by
 rcases qaP.mp (I.stkSub b hb) with e | hb
 ·rw [e];exact I.free
 ·obtain ⟨_,o,ho,_⟩:=I.ok.funs.mem hb
  exact I.base.free b o ho (I.ok.frf b hb) fun z=>I.ok.exfs b z hb
theorem Inv.step {g':Array GenState} {t':Nat} {d':Drawn} {ch:List Addr} (I:Inv X pins σ H s)
  (hch: ∀ b∈ch,(b∈X.ex\/X.s₀.heap.objs.size<=b)/\b≠X.env.locals/\(∀ x c,X.env.cells.lookup x=some c->c≠b)/\ ∀ p∈X.pn++pins,p.1≠b)
  (keep: ∀ b o,b≠X.env.locals->b∉X.fs->b∉ch->s.heap.get? b=some o->H b=none->h'.get? b=some o)
  (slot: ∀ b o,b≠X.env.locals->b∈X.fs->b∉ch->s.heap.get? b=some o->H b=none-> ∃ sl,h'.get? b=some {o with slots:=sl}) (free: ∀ b o,b∉ch->s.heap.get? b=some o->H b=none->H' b=none)
  (there: ∀ b o,b∉ch->s.heap.get? b=some o-> ∃ o',h'.get? b=some o')
  (tups: ∀ b xs,H b=some (.tup xs)->H' b=some (.tup xs)) (frzs: ∀ b o u,H b=some (.frz o u)->H' b=some (.frz o u)) (tbls: ∀ b ps,H b=some (.tbl ps)-> ∃ more,H' b=some (.tbl (ps++more)))
  (ns: ∀ m,s.heap.Ns X.env.locals m->h'.Ns X.env.locals m) (hok:HOk X.prog X.w H' h') (hg:AllBare g'):
  Inv X pins σ H' {s with heap:=h',gens:=g',drawn:=d',toks:=t'}:=by
 have neL: ∀ b o,X.s₀.heap.get? b=some o->b≠X.env.locals:=fun b o e=>qaR (qaw (qaQ e) I.ok.above)
 have neC: ∀ b o,X.s₀.heap.get? b=some o->b∉X.ex->b∉ch:=fun b o e hx hb=>by
  rcases (hch b hb).1 with z | z
  ·exact hx z
  ·exact absurd (qaw (qaQ e) z) (qaN _)
 have cellK: ∀ x c,X.env.cells.lookup x=some c-> ∀ v,s.heap.IsCell c v->h'.IsCell c v:=fun x c e v ⟨o,ho,hd⟩=>by
  have nch:c∉ch:=fun z=>(hch c z).2.2.1 x c e rfl
  by_cases hc:c∈X.fs
  ·obtain ⟨sl,q⟩:=slot c o (I.cne x c e) hc nch ho (I.freeC x c e)
   exact ⟨_,q,hd⟩
  ·exact ⟨o,keep c o (I.cne x c e) hc nch ho (I.freeC x c e),hd⟩
 refine ⟨I.ok,I.os,hg,⟨fun b o e n hb hx=> ?_,fun b o e n hb hx=> ?_,fun b o e n hx=> ?_,fun b o e hx=> ?_,fun b xs e=>tups b xs (I.base.tups b xs e),fun b o xs e=>frzs b o xs (I.base.frzs b o xs e),fun b ps e=> ?_⟩,?_,fun x c e=> ?_,?_,fun x c e=> ?_,fun p hp=> ?_,hok,I.len⟩
 ·exact keep b o (neL b o e) hb (neC b o e hx) (I.base.keep b o e n hb hx) (I.base.free b o e n hx)
 ·obtain ⟨sl,e1⟩:=I.base.slot b o e n hb hx
  obtain ⟨sl',e2⟩:=slot b _ (neL b o e) hb (neC b o e hx) e1 (I.base.free b o e n hx)
  exact ⟨sl',e2⟩
 ·obtain ⟨o',e1⟩:=I.base.there b o e hx
  exact free b o' (neC b o e hx) e1 (I.base.free b o e n hx)
 ·obtain ⟨o',e1⟩:=I.base.there b o e hx
  exact there b o' (neC b o e hx) e1
 ·obtain ⟨m1,e1⟩:=I.base.tbls b ps e
  obtain ⟨m2,e2⟩:=tbls b _ e1
  exact ⟨m1++m2,by rw [e2,Array.append_assoc]⟩
 ·obtain ⟨m,hn,hl⟩:=I.loc
  refine ⟨m,ns m hn,fun i x v e1 e2 e3=> ?_⟩
  obtain ⟨u,r,l⟩:=hl i x v e1 e2 e3
  refine ⟨u,r,?_⟩
  rcases l with l | ⟨k,c,e,z⟩
  ·exact .inl l
  ·exact .inr ⟨k,c,e,cellK x c e _ z⟩
 ·obtain ⟨v,z⟩:=I.cell x c e
  exact ⟨v,cellK x c e v z⟩
 ·obtain ⟨m,⟨o,_,_,ho,_⟩,_⟩:=I.loc
  exact free _ o (fun z=>(hch _ z).2.1 rfl) ho I.free
 ·obtain ⟨v,o,ho,hd⟩:=I.cell x c e
  exact free c o (fun z=>(hch c z).2.2.1 x c e rfl) ho (I.freeC x c e)
 ·obtain ⟨e,n,ne,nf,d⟩:=I.pin p hp
  have nch:p.1∉ch:=fun z=>(hch p.1 z).2.2.2 p hp rfl
  exact ⟨keep p.1 p.2 ne nf nch e n,free p.1 p.2 nch e n,ne,nf,d⟩
theorem Inv.un {t':Nat} (I:Inv X pins σ H s) (u:Un X.fs [] H H' s.heap h') (hok:HOk X.prog X.w H' h'):Inv X pins σ H' {s with heap:=h',toks:=t'}:=by
 obtain ⟨m,⟨o,es,ep,ho,r⟩,_⟩:=id I.loc
 obtain ⟨sl,hL⟩:=u.any ho I.free (by simp)
 exact I.step (g':=s.gens) (d':=s.drawn) (ch:=[]) (fun _ z=>nomatch z) (fun b o _ hb _ e n=>u.keep b o e n hb (by simp)) (fun b o _ hb _ e n=>u.slot b o e n hb (by simp)) (fun b o _ e n=>u.free b o e n (by simp)) (fun b o _ e=>u.there b o e (by simp)) u.tups u.frzs u.tbls (fun m' hm=>by
   obtain ⟨o',es',ep',ho',r'⟩:=hm
   rw [ho] at ho';cases ho'
   exact ⟨_,es',ep',hL,r'⟩) hok I.bare
theorem Inv.call {g':Array GenState} {t':Nat} {d':Drawn} {ch:List Addr} (I:Inv X pins σ H s) (u:Un (frs X.stack) ch H H' s.heap h') (hok:HOk X.prog X.w H' h') (hg:AllBare g')
  (hch: ∀ b∈ch,(b∈X.ex\/X.s₀.heap.objs.size<=b)/\b≠X.env.locals/\(∀ x c,X.env.cells.lookup x=some c->c≠b)/\ ∀ p∈X.pn++pins,p.1≠b):
  Inv X pins σ H' {s with heap:=h',gens:=g',drawn:=d',toks:=t'}:=by
 obtain ⟨m,⟨o,es,ep,ho,r⟩,_⟩:=id I.loc
 obtain ⟨sl,hL⟩:=u.any ho I.free fun z=>(hch _ z).2.1 rfl
 exact I.step (ch:=ch) hch (fun b o hL hb hc e n=>u.keep b o e n (fun z=>(qaP.mp (I.stkSub b z)).elim hL hb) hc) (fun b o _ _ hc e n=>u.any e n hc) (fun b o hc e n=>u.free b o e n hc) (fun b o hc e=>u.there b o e hc) u.tups u.frzs u.tbls (fun m' hm=>by
   obtain ⟨o',es',ep',ho',r'⟩:=hm
   rw [ho] at ho';cases ho'
   exact ⟨_,es',ep',hL,r'⟩) hok hg
theorem Inv.turned {t':Nat} {it:Addr} (I:Inv X pins σ H s) (k: ∀ b o,b≠it->s.heap.get? b=some o->h'.get? b=some o) (hn:H it=none) (hL:it≠X.env.locals)
  (h1:it∈X.ex\/X.s₀.heap.objs.size<=it) (h2: ∀ x c,X.env.cells.lookup x=some c->c≠it) (h3: ∀ p∈X.pn++pins,p.1≠it):Inv X pins σ H {s with heap:=h',toks:=t'}:=by
 have nit: ∀ b u,H b=some u->b≠it:=fun b u e z=>by rw [z,hn] at e;cases e
 refine I.step (g':=s.gens) (d':=s.drawn) (ch:=[it]) (fun b hb=> ?_) (fun b o _ _ hc e _=>k b o (fun z=>hc (by simp [z])) e) (fun b o _ _ hc e _=>⟨o.slots,k b o (fun z=>hc (by simp [z])) e⟩) (fun _ _ _ _ n=>n)
  (fun b o hc e=>⟨o,k b o (fun z=>hc (by simp [z])) e⟩) (fun _ _ e=>e) (fun _ _ _ e=>e) (fun b ps e=>⟨#[],by rw [e];simp⟩) (fun m hm=> ?_) (fun b u e=> ?_) I.bare
 ·have e:b=it:=by simpa using hb
  subst e
  exact ⟨h1,hL,h2,h3⟩
 ·obtain ⟨o,es,ep,ho,r⟩:=hm
  exact ⟨o,es,ep,k _ o (Ne.symm hL) ho,r⟩
 ·refine (I.hok b u e).stay (fun c v hc q=>k c v ?_ q) (fun _ q=>q) fun _ _ q=>q
  rcases hc with z | z
  ·rw [z];exact nit b u e
  ·exact nit c _ z
theorem Inv.tok (I:Inv X pins σ H s) (t:Nat):Inv X pins σ H {s with toks:=t}:=I.un (h':=s.heap) (t':=t) Un.refl I.hok
theorem Inv.kept {t':Nat} (I:Inv X pins σ H s) (k: ∀ b u,s.heap.get? b=some u->h'.get? b=some u):Inv X pins σ H {s with heap:=h',toks:=t'}:=I.un (Un.kept k) (I.hok.kept k)
theorem Inv.laid {a:Addr} {o:HO} {t':Nat} (I:Inv X pins σ H s) (k: ∀ b u,s.heap.get? b=some u->h'.get? b=some u) (hp:s.heap.objs.size<=a) (new:zbR X.prog X.w (upd H a o) h' a o):
  Inv X pins σ (upd H a o) {s with heap:=h',toks:=t'}:=I.un (Un.laid k hp (I.hok.fresh hp)) (I.hok.laid k hp new)
theorem Inv.write {x e:Addr} {o:HO} {t':Nat} (I:Inv X pins σ H s) (mu:Mut (H x)) (he:e=x\/H e=some (.own x)) (k: ∀ b u,b≠e->s.heap.get? b=some u->h'.get? b=some u) (heo: ∃ u,h'.get? e=some u)
  (new:zbR X.prog X.w (upd H x o) h' x o):Inv X pins σ (upd H x o) {s with heap:=h',toks:=t'}:=I.un (Un.write mu he k heo) (I.hok.write mu he k heo new)
theorem Inv.pins_of {pins':List (Addr×Obj)} (I:Inv X pins σ H s) (h: ∀ p∈pins',s.heap.get? p.1=some p.2/\H p.1=none/\p.1≠X.env.locals/\p.1∉X.fs/\ ∀ v,p.2.data≠ .cell v):Inv X pins' σ H s:=
 ⟨I.ok,I.os,I.bare,I.base,I.loc,I.cell,I.free,I.freeC,fun p hp=>(qaK.mp hp).elim (fun z=>I.pin p (List.mem_append_left _ z)) (h p),I.hok,I.len⟩
theorem zh7 {N:List Str} (hN:N.Nodup) {i j:Nat} {x:Str} (a:N[i]? = some x) (b:N[j]? = some x):i=j:=by
 obtain ⟨h1,e1⟩:=qac.mp a
 obtain ⟨h2,e2⟩:=qac.mp b
 exact (List.getElem_inj hN).mp (e1.trans e2.symm)
theorem zkM {M:Model} {A:Around} {E:Value->Shared->Prop} {i:Nat} {x:Str} {v:V} {u:Value} {Q:Unit->Shared->Prop} (I:Inv X pins σ H s) (hN:X.N.Nodup) (hi:X.N[i]? = some x) (hx:Loc X.env.scope x) (r:zcf v u)
  (h: ∀ s',Inv X pins (σ.set i (some v)) H s'->(∃ a,Heap.SameBut a s.heap s'.heap/\(a=X.env.locals\/X.env.cells.lookup x=some a))->Q () s') (hf:X.fn x=true\/X.env.scope.names.lookup x=some .local:=by first | exact .inl rfl | exact .inr rfl | assumption):wpAny M A (storeName X.env x u) Q E s:=by
 obtain ⟨m,hn,hl⟩:=id I.loc
 have hcls:(X.env.scope.kind== .class || (X.env.scope.kind== .module && X.env.locals != X.env.globals))=false:=by rw [I.ok.kind];rfl
 have hiσ:i<σ.length:=by rw [I.len];exact (qac.mp hi).1
 have cne:=I.cne
 have tracked: ∀ {a:Addr} {h':Heap},(∃ o,s.heap.get? a=some o/\H a=none)->Heap.SameBut a s.heap h'->HOk X.prog X.w H h':=fun {a h'} ha hs b ob e=>by
  obtain ⟨_,_,hfree⟩:=ha
  refine (I.hok b ob e).stay (fun c w' hc q=>(hs.2 c ?_).trans q) (fun _ q=>q) fun _ _ q=>q
  rintro rfl
  rcases hc with rfl | hc
  ·rw [hfree] at e;cases e
  ·rw [hfree] at hc;cases hc
 rcases hx with hk | hk
 ·refine wpAny_storeName_local hk hn (fun h' hn' hs=> ?_) hcls
  obtain ⟨oL,_,_,hoL,_⟩:=id hn
  refine h _ ⟨I.ok,I.os,I.bare,⟨fun b o e n hb hx=> ?_,fun b o e n hb hx=> ?_,I.base.free,fun b o e hx=> ?_,I.base.tups,I.base.frzs,I.base.tbls⟩,⟨_,hn',fun j y v' e1 e2 e3=> ?_⟩,fun y c e=> ?_,I.free,I.freeC,fun p hp=> ?_,tracked ⟨oL,hoL,I.free⟩ hs,by simpa using I.len⟩ ⟨_,hs,.inl rfl⟩
  ·exact (hs.2 b (qaR (qaw (qaQ e) I.ok.above))).trans (I.base.keep b o e n hb hx)
  ·obtain ⟨sl,e1⟩:=I.base.slot b o e n hb hx
   exact ⟨sl,(hs.2 b (qaR (qaw (qaQ e) I.ok.above))).trans e1⟩
  ·obtain ⟨o',e1⟩:=I.base.there b o e hx
   exact ⟨o',(hs.2 b (qaR (qaw (qaQ e) I.ok.above))).trans e1⟩
  ·by_cases hj:j=i
   ·subst hj
    rw [hi] at e1;cases e1
    rw [qai hiσ] at e2
    cases e2
    exact ⟨u,r,.inl ⟨hk,by simp⟩⟩
   ·rw [qao (Ne.symm hj)] at e2
    obtain ⟨u',r',q⟩:=hl j y v' e1 e2 e3
    refine ⟨u',r',?_⟩
    rcases q with ⟨k,e⟩ | ⟨k,c,e,z⟩
    ·refine .inl ⟨k,?_⟩
     have:y≠x:=fun e=>hj (zh7 hN e1 (e▸hi))
     simp [this,e]
    ·exact .inr ⟨k,c,e,z.sameBut hs (cne y c e)⟩
  ·obtain ⟨w',z⟩:=I.cell y c e
   exact ⟨w',z.sameBut hs (cne y c e)⟩
  ·obtain ⟨e,n,ne,nf,d⟩:=I.pin p hp
   exact ⟨(hs.2 p.1 ne).trans e,n,ne,nf,d⟩
 ·have hfn:X.fn x=true:=by
   rcases hf with z | z
   ·exact z
   ·rw [z] at hk;cases hk
  obtain ⟨c,hc⟩:=I.ok.has x (.inl hk)
  obtain ⟨w',z⟩:=I.cell x c hc
  refine wpAny_storeName_cell I.ok.kind hk hc z (fun h' hc' hs=> ?_)
  obtain ⟨oc,hoc,hocd⟩:=id z
  refine h {s with heap:=h'} ⟨I.ok,I.os,I.bare,⟨fun b o e n hb hx=> ?_,fun b o e n hb hx=> ?_,I.base.free,fun b o e hx=> ?_,I.base.tups,I.base.frzs,I.base.tbls⟩,⟨m,hn.sameBut hs (Ne.symm (cne x c hc)),fun j y v' e1 e2 e3=> ?_⟩,fun y c' e=> ?_,I.free,I.freeC,fun p hp=> ?_,tracked ⟨oc,hoc,I.freeC x c hc⟩ hs,by simpa using I.len⟩ ⟨c,hs,.inr hc⟩
  ·exact (hs.2 b (qaR (qaw (qaQ e) (I.ok.cab x c hfn hc)))).trans (I.base.keep b o e n hb hx)
  ·obtain ⟨sl,e1⟩:=I.base.slot b o e n hb hx
   exact ⟨sl,(hs.2 b (qaR (qaw (qaQ e) (I.ok.cab x c hfn hc)))).trans e1⟩
  ·obtain ⟨o',e1⟩:=I.base.there b o e hx
   exact ⟨o',(hs.2 b (qaR (qaw (qaQ e) (I.ok.cab x c hfn hc)))).trans e1⟩
  ·by_cases hj:j=i
   ·subst hj
    rw [hi] at e1;cases e1
    rw [qai hiσ] at e2
    cases e2
    exact ⟨u,r,.inr ⟨.inl hk,c,hc,hc'⟩⟩
   ·rw [qao (Ne.symm hj)] at e2
    obtain ⟨u',r',q⟩:=hl j y v' e1 e2 e3
    refine ⟨u',r',?_⟩
    rcases q with q | ⟨k,c',e,z'⟩
    ·exact .inl q
    ·refine .inr ⟨k,c',e,z'.sameBut hs ?_⟩
     rintro rfl
     exact hj (zh7 hN e1 (I.ok.inj _ _ _ e hc▸hi))
  ·by_cases hcc:c'=c
   ·subst hcc;exact ⟨_,hc'⟩
   ·obtain ⟨w2,z2⟩:=I.cell y c' e
    exact ⟨w2,z2.sameBut hs hcc⟩
  ·obtain ⟨e,n,ne,nf,d⟩:=I.pin p hp
   refine ⟨(hs.2 p.1 ?_).trans e,n,ne,nf,d⟩
   intro q
   rw [q,hoc] at e
   have q':oc=p.2:=Option.some.inj e
   exact d w' (by rw [<- q'];exact hocd)
theorem zgm {M:Model} {A:Around} {E:Value->Shared->Prop} {i:Nat} {x:Str} {v:V} {u:Value} {Q:Unit->Shared->Prop} (I:Inv X pins σ H s) (hN:X.N.Nodup) (hi:X.N[i]? = some x) (hx:Loc X.env.scope x) (r:zcf v u)
  (h: ∀ s',Inv X pins (σ.set i (some v)) H s'->Q () s') (hf:X.fn x=true\/X.env.scope.names.lookup x=some .local:=by first | exact .inl rfl | exact .inr rfl | assumption):wpAny M A (storeName X.env x u) Q E s:=
 zkM I hN hi hx r (fun s' I' _=>h s' I') hf
theorem Inv.call' {s':Shared} {ch:List Addr} (I:Inv X pins σ H s) (ho:s'.os=s.os) (u:Un (frs X.stack) ch H H' s.heap s'.heap) (hok:HOk X.prog X.w H' s'.heap) (hg:AllBare s'.gens)
  (hch: ∀ b∈ch,(b∈X.ex\/X.s₀.heap.objs.size<=b)/\b≠X.env.locals/\(∀ x c,X.env.cells.lookup x=some c->c≠b)/\ ∀ p∈X.pn++pins,p.1≠b):Inv X pins σ H' s':=by
 obtain ⟨h',g',d',t',o'⟩:=s'
 have e:o'=s.os:=ho
 subst e
 exact I.call (g':=g') (t':=t') (d':=d') u hok hg hch
end
noncomputable abbrev XK:=Value->Option Addr->Hp->Prop
noncomputable abbrev St:=List (Option V)
noncomputable abbrev VK:=V->Hp->Prop
noncomputable abbrev TE:=St->Hp->VK->Prop
noncomputable abbrev TT:=St->Hp->(Bool->Hp->Prop)->Prop
noncomputable abbrev TA:=St->Hp->(List V->Hp->Prop)->Prop
structure zo1 where
 nx:St->Hp->Prop
 rt:VK
 bk:St->Hp->Prop:=fun _ _=>False
 ct:St->Hp->Prop:=fun _ _=>False
noncomputable abbrev TS:=zo1->St->Hp->Prop
def EP (X:Cx) (pins:List (Addr×Obj)) (σ:St) (Q:VK) (u:Value) (s':Shared):Prop:= ∃ v H',Inv X pins σ H' s'/\zcf v u/\Q v H'
def TP (X:Cx) (pins:List (Addr×Obj)) (σ:St) (Q:Bool->Hp->Prop) (b:Bool) (s':Shared):Prop:= ∃ H',Inv X pins σ H' s'/\Q b H'
def AP (X:Cx) (pins:List (Addr×Obj)) (σ:St) (Q:List V->Hp->Prop) (us:List Value) (s':Shared):Prop:= ∃ vs H',Inv X pins σ H' s'/\za6 vs us/\Q vs H'
def SP (X:Cx) (pins:List (Addr×Obj)) (D:zo1) (f:Flow) (s':Shared):Prop:=
 match f with
 | .next=> ∃ σ' H',Inv X pins σ' H' s'/\D.nx σ' H'
 | .brk=> ∃ σ' H',Inv X pins σ' H' s'/\D.bk σ' H'
 | .cont=> ∃ σ' H',Inv X pins σ' H' s'/\D.ct σ' H'
 | .ret u=> ∃ v σ' H',Inv X pins σ' H' s'/\zcf v u/\D.rt v H'
def PE (X:Cx) (e:Expr) (t:TE):Prop:=
 ∀ (pins:List (Addr×Obj)) (s:Shared) (σ:St) (H:Hp) (Q:VK),Inv X pins σ H s->t σ H Q->wpAny (model X.prog X.w) X.A (eval e X.env) (EP X pins σ Q) X.xe s
def PT (X:Cx) (e:Expr) (t:TT):Prop:=
 ∀ (pins:List (Addr×Obj)) (s:Shared) (σ:St) (H:Hp) (Q:Bool->Hp->Prop),Inv X pins σ H s->t σ H Q->wpAny (model X.prog X.w) X.A (isTrue e X.env (eval e X.env)) (TP X pins σ Q) X.xe s
def PW (X:Cx) (e:Expr) (t:TT):Prop:=
 ∀ (whole:Sem Value) (pins:List (Addr×Obj)) (s:Shared) (σ:St) (H:Hp) (Q:Bool->Hp->Prop),Inv X pins σ H s->t σ H Q->wpAny (model X.prog X.w) X.A (isTrue e X.env whole) (TP X pins σ Q) X.xe s
theorem PW.pt {X:Cx} {e:Expr} {t:TT} (h:PW X e t):PT X e t:=h _
def PA (X:Cx) (es:List Expr) (t:TA):Prop:=
 ∀ (pos:Pos) (pins:List (Addr×Obj)) (s:Shared) (σ:St) (H:Hp) (Q:List V->Hp->Prop),Inv X pins σ H s->t σ H Q->wpAny (model X.prog X.w) X.A (spliced (backTo pos (starEach es X.env))) (AP X pins σ Q) X.xe s
def PS (X:Cx) (st:Stmt) (t:TS):Prop:=
 ∀ (pins:List (Addr×Obj)) (s:Shared) (σ:St) (H:Hp) (D:zo1),Inv X pins σ H s->t D σ H->wpAny (model X.prog X.w) X.A (exec st X.env) (SP X pins D) X.xe s
def PSs (X:Cx) (st:List Stmt) (t:TS):Prop:=
 ∀ (pins:List (Addr×Obj)) (s:Shared) (σ:St) (H:Hp) (D:zo1),Inv X pins σ H s->t D σ H->wpAny (model X.prog X.w) X.A (execs st X.env) (SP X pins D) X.xe s
theorem thn {α:Type} {t:Sem α} {Q Q':α->Shared->Prop} {M:Model} {A:Around} {E:Value->Shared->Prop} {s:Shared} (h:wpAny M A t Q E s) (hQ: ∀ a s,Q a s->Q' a s):wpAny M A t Q' E s:=qaZ h hQ fun _ _ x=>x
section
variable {X:Cx}
noncomputable def zsY (i:Nat):TE:=fun σ H Q=> ∃ v,σ[i]? = some (some v)/\Q v H
noncomputable def tC (v:V):TE:=fun _ H Q=>Q v H
theorem zmG {i:Nat} {x:Str} {pos:Pos} (hN:X.N[i]? = some x) (hv:Vis X.env.scope x) (hd:(x==("__debug__":Str))=false:=by decide) (hcd:(x==("__classdict__":Str))=false:=by decide):PE X (.Name x pos) (zsY i):=by
 intro pins s σ H Q I h
 obtain ⟨v,e,h⟩:=h
 obtain ⟨m,hn,hl⟩:=I.loc
 obtain ⟨u,r,l⟩:=hl i x v hN e hv
 have fin:EP X pins σ Q u s:=⟨v,H,I,r,h⟩
 rcases l with ⟨hk,hm⟩ | ⟨hk,c,hc,hcell⟩
 ·exact wpAny_Name (wpAny_loadName_local I.ok.kind hk hn hm fin) hd
 ·rcases hk with hk | hk
  ·exact wpAny_Name (wpAny_loadName_cell I.ok.kind hk hc hcell fin) hd
  ·exact wpAny_Name (wpAny_loadName_free I.ok.kind hk hc hcell fin hcd) hd
theorem zpx {i j pos}:PE X (.Constant (.int i) j pos) (tC (.int i)):=fun _ _ _ H _ I h=>wpAny_Constant_int ⟨.int i,H,I.tok _,⟨_,rfl⟩,h⟩
theorem zsK {b j pos}:PE X (.Constant (.bool b) j pos) (tC (.bl b)):=fun _ _ _ H _ I h=>Constant_bool ⟨.bl b,H,I,rfl,h⟩
def Gl (X:Cx) (x:Str):Prop:=X.env.kindOf x=some .globalImplicit
theorem zkf {E:Value->Shared->Prop} {pins:List (Addr×Obj)} {s:Shared} {σ:St} {H:Hp} {x:Str} {u:Value} {pos:Pos} {Q:Value->Shared->Prop} (I:Inv X pins σ H s) (hg:Gl X x) (hm:X.mg x=some u) (h:Q u s)
  (hd:(x==("__debug__":Str))=false:=by decide):wpAny (model X.prog X.w) X.A (eval (.Name x pos) X.env) Q E s:=
 Calls.Name_function_global I.ok.kind hg (Calls.loadGlobal_global (by rw [I.ok.glob];exact I.mod.glob.keeps I.bk) hm h) hd
theorem zfg {E:Value->Shared->Prop} {pins:List (Addr×Obj)} {s:Shared} {σ:St} {H:Hp} {x:Str} {u:Value} {pos:Pos} {Q:Value->Shared->Prop} (I:Inv X pins σ H s) (hg:Gl X x) (hm:X.mg x=none) (hv:bootBuiltins x=some u) (h:Q u s)
  (hn:x≠"__name__":=by decide) (hd:(x==("__debug__":Str))=false:=by decide):wpAny (model X.prog X.w) X.A (eval (.Name x pos) X.env) Q E s:=by
 obtain ⟨mb,h1,h2⟩:=I.mod.blt
 exact Calls.Name_function_global I.ok.kind hg (Calls.loadGlobal_builtin (by rw [I.ok.glob];exact I.mod.glob.keeps I.bk) hm (by rw [I.ok.blt];exact h1.keeps I.bk) ((h2 x hn).trans hv) h) hd
theorem zoI {x:Str} {v:V} {u:Value} {pos:Pos} (hg:Gl X x) (hm:X.mg x=some u) (r:zcf v u) (hd:(x==("__debug__":Str))=false:=by decide):PE X (.Name x pos) (tC v):=
 fun _ _ _ H _ I h=>zkf I hg hm ⟨v,H,I,r,h⟩ hd
theorem znp {x:Str} {v:V} {u:Value} {pos:Pos} (hg:Gl X x) (hm:X.mg x=none) (hv:bootBuiltins x=some u) (r:zcf v u) (hn:x≠"__name__":=by decide) (hd:(x==("__debug__":Str))=false:=by decide):PE X (.Name x pos) (tC v):=
 fun _ _ _ H _ I h=>zfg I hg hm hv ⟨v,H,I,r,h⟩ hn hd
noncomputable def t2I (ta tb:TE) (k:Int->Int->Hp->Prop):St->Hp->Prop:=fun σ H=>ta σ H fun x H1=>tb σ H1 fun y H2=> ∃ i j,x= .int i/\y= .int j/\k i j H2
variable {a b:Expr} {ta tb:TE} {pos:Pos}
noncomputable def zc2 (p:Int->Int->Bool) (ta tb:TE):TE:=fun σ H Q=>t2I ta tb (fun i j H2=>Q (.bl (p i j)) H2) σ H
noncomputable def tB (t:TE):TT:=fun σ H Q=>t σ H fun x H1=> ∃ c,x= .bl c/\Q c H1
theorem zo9 {e:Expr} {t:TE} (h:PE X e t) (he: ∀ whole,isTrue e X.env whole=(do let v<-whole;standAt e.pos;holding [v] (truthy v)):=by intro _;rfl):PT X e (tB t):=by
 intro pins s σ H Q I hw
 refine isTrue_plain (thn (h pins s σ H _ I hw) fun v s1 ⟨x,H1,I1,r1,q1⟩=> ?_) (he _)
 obtain ⟨d,rfl,q⟩:=q1
 cases r1
 exact wpAny_truthy_bool ⟨H1,I1,q⟩
variable {tA tB':TT} {zbS:List Expr}
noncomputable def zo3 (t u:TT):TT:=fun σ H Q=>t σ H fun c H1=>if c=true then u σ H1 Q else Q false H1
noncomputable def tOr (t u:TT):TT:=fun σ H Q=>t σ H fun c H1=>if c=true then Q true H1 else u σ H1 Q
noncomputable def zmF (t:TT):TT:=fun σ H Q=>t σ H fun c H1=>Q (!c) H1
theorem pw_and1 (ha:PT X a tA):PW X (.BoolOp .And [a] pos) tA:=by
 intro wh pins s σ H Q I h
 refine isTrue_and (thn (ha pins s σ H Q I h) fun c s1 e=> ?_)
 cases c with
 | true=>exact isTrue_and_nil e
 | false=>exact e
theorem pw_or1 (ha:PT X a tA):PW X (.BoolOp .Or [a] pos) tA:=by
 intro wh pins s σ H Q I h
 refine isTrue_or (thn (ha pins s σ H Q I h) fun c s1 e=> ?_)
 cases c with
 | false=>exact isTrue_or_nil e
 | true=>exact e
theorem pw_and (ha:PT X a tA) (hb:PW X (.BoolOp .And (b::zbS) pos) tB'):PW X (.BoolOp .And (a::b::zbS) pos) (zo3 tA tB'):=by
 intro wh pins s σ H Q I h
 refine isTrue_and (thn (ha pins s σ H _ I h) fun c s1 ⟨H1,I1,q1⟩=> ?_)
 cases c with
 | true=>exact hb wh pins s1 σ H1 Q I1 q1
 | false=>exact ⟨H1,I1,q1⟩
theorem pw_or (ha:PT X a tA) (hb:PW X (.BoolOp .Or (b::zbS) pos) tB'):PW X (.BoolOp .Or (a::b::zbS) pos) (tOr tA tB'):=by
 intro wh pins s σ H Q I h
 refine isTrue_or (thn (ha pins s σ H _ I h) fun c s1 ⟨H1,I1,q1⟩=> ?_)
 cases c with
 | true=>exact ⟨H1,I1,q1⟩
 | false=>exact hb wh pins s1 σ H1 Q I1 q1
theorem zqf (ha:PT X a tA):PT X (.UnaryOp .Not a pos) (zmF tA):=by
 intro pins s σ H Q I h
 exact isTrue_not (ha pins s σ H (fun c H1=>Q (!c) H1) I h)
noncomputable def zr3 (ta tb:TE):TE:=fun σ H Q=>ta σ H fun x H1=> ∃ c,x= .bl c/\if c=true then tb σ H1 Q else Q (.bl false) H1
noncomputable def ztu (ta tb:TE):TE:=fun σ H Q=>ta σ H fun x H1=> ∃ c,x= .bl c/\if c=true then Q (.bl true) H1 else tb σ H1 Q
noncomputable def zsj (ta:TE):TE:=fun σ H Q=>ta σ H fun x H1=> ∃ c,x= .bl c/\Q (.bl (!c)) H1
theorem zqv {op} {t:TE} (h:PE X a t):PE X (.BoolOp op [a] pos) t:=fun pins s σ H Q I hw=>BoolOp_one (h pins s σ H Q I hw)
theorem zpb (ha:PE X a ta) (hb:PE X (.BoolOp .And (b::zbS) pos) tb):PE X (.BoolOp .And (a::b::zbS) pos) (zr3 ta tb):=by
 intro pins s σ H Q I h
 refine BoolOp_and (thn (ha pins s σ H _ I h) fun v s1 ⟨x,H1,I1,r1,q1⟩=> ?_)
 obtain ⟨c,rfl,q1⟩:=q1
 cases r1
 refine wpAny_truthy_bool ?_
 cases c with
 | true=>exact hb pins s1 σ H1 Q I1 q1
 | false=>exact ⟨.bl false,H1,I1,rfl,q1⟩
theorem zsi (ha:PE X a ta) (hb:PE X (.BoolOp .Or (b::zbS) pos) tb):PE X (.BoolOp .Or (a::b::zbS) pos) (ztu ta tb):=by
 intro pins s σ H Q I h
 refine BoolOp_or (thn (ha pins s σ H _ I h) fun v s1 ⟨x,H1,I1,r1,q1⟩=> ?_)
 obtain ⟨c,rfl,q1⟩:=q1
 cases r1
 refine wpAny_truthy_bool ?_
 cases c with
 | false=>exact hb pins s1 σ H1 Q I1 q1
 | true=>exact ⟨.bl true,H1,I1,rfl,q1⟩
theorem zpd (ha:PE X a ta):PE X (.UnaryOp .Not a pos) (zsj ta):=by
 intro pins s σ H Q I h
 refine UnaryOp_ (thn (ha pins s σ H _ I h) fun v s1 ⟨x,H1,I1,r1,q1⟩=> ?_)
 obtain ⟨c,rfl,q1⟩:=q1
 cases r1
 exact not_of (wpAny_truthy_bool ⟨.bl (!c),H1,I1,rfl,q1⟩)
end
def SqL (K:W.Frag) (H:Hp) (a:Addr) (xs:List V):Prop:=
 Rd H a (.lst xs)\/
  ∃ (o:Obj) (its:Array Value) (n:Nat),K.lookup a=some o/\o.cls= .type "list"/\o.dict=none/\o.data= .seq its n/\its.size<=sizeLine/\za6 xs its.toList
def SqT (K:W.Frag) (H:Hp) (a:Addr) (xs:List V):Prop:=
 Rd H a (.tup xs)\/
  ∃ (o:Obj) (its:Array Value) (n:Nat),K.lookup a=some o/\o.cls= .type "tuple"/\o.data= .seq its n/\its.size<=sizeLine/\za6 xs its.toList
noncomputable def zs6:Value->Option V
 | .none=>some .non
 | .bool b=>some (.bl b)
 | .int i _=>some (.int i)
 | .str x _=>some (.str x)
 | .bytes b _=>some (.byt b)
 | .float b _=>some (.flt b)
 | .ref a=>some (.ref a)
 | .type n=>some (.ty n)
 | _=>none
theorem zcf.abs {x:V} {u:Value} (r:zcf x u):zs6 u=some x:=by
 cases x with
 | non=>cases r;rfl
 | bl _=>cases r;rfl
 | int _=>obtain ⟨t,rfl⟩:=r;rfl
 | str _=>obtain ⟨t,rfl⟩:=r;rfl
 | byt _=>obtain ⟨t,rfl⟩:=r;rfl
 | flt _=>obtain ⟨t,rfl⟩:=r;rfl
 | ref _=>cases r;rfl
 | ty _=>cases r;rfl
theorem zcf.inj {x y:V} {u:Value} (r:zcf x u) (q:zcf y u):x=y:=Option.some.inj (r.abs.symm.trans q.abs)
theorem za6.inj: ∀ {xs ys:List V} {us:List Value},za6 xs us->za6 ys us->xs=ys
 | _,_,_,.nil,.nil=>rfl
 | _,_,_,.cons r t,.cons r' t'=>by rw [r.inj r',za6.inj t t']
section
variable {X:Cx} {pins:List (Addr×Obj)} {σ:St} {H:Hp} {s:Shared} {a:Addr} {xs ys:List V}
theorem SqL.of {K:W.Frag} (h:H a=some (.lst xs)):SqL K H a xs:= .inl (.inl h)
theorem SqT.of {K:W.Frag} (h:H a=some (.tup xs)):SqT K H a xs:= .inl (.inl h)
theorem Inv.list (I:Inv X pins σ H s) (h:SqL X.K H a xs): ∃ its:List Value,za6 xs its/\PlainL s.heap a its.toArray/\xs.length<=sizeLine:=by
 rcases h with h | ⟨o,its,n,hk,hc,hd,hs,hz,r⟩
 ·obtain ⟨z,its,n,r,e⟩:=h.ok I.hok
  exact ⟨its,r,⟨_,n,e,rfl,rfl,rfl⟩,z⟩
 ·refine ⟨its.toList,r,⟨o,n,I.kIn a o hk,hc,hd,by simpa using hs⟩,?_⟩
  have e:=r.length
  simp only [qas] at e
  omega
theorem Inv.tuple (I:Inv X pins σ H s) (h:SqT X.K H a xs): ∃ its:List Value,za6 xs its/\IsTup s.heap a its.toArray/\xs.length<=sizeLine:=by
 rcases h with h | ⟨o,its,n,hk,hc,hs,hz,r⟩
 ·obtain ⟨z,its,r,p⟩:=h.ok I.hok
  exact ⟨its,r,p,z⟩
 ·refine ⟨its.toList,r,⟨o,I.kIn a o hk,hc,n,by simpa using hs⟩,?_⟩
  have e:=r.length
  simp only [qas] at e
  omega
theorem Inv.list_inj (I:Inv X pins σ H s) (h:SqL X.K H a xs) (h':SqL X.K H a ys):xs=ys:=by
 obtain ⟨its,r,⟨o,n,e,_,_,d⟩,_⟩:=I.list h
 obtain ⟨its',r',⟨o',n',e',_,_,d'⟩,_⟩:=I.list h'
 rw [e] at e';cases e'
 rw [d] at d'
 injection d' with d1 _
 have:its=its':=by simpa using congrArg Array.toList d1
 subst this
 exact r.inj r'
theorem Inv.tuple_inj (I:Inv X pins σ H s) (h:SqT X.K H a xs) (h':SqT X.K H a ys):xs=ys:=by
 obtain ⟨its,r,⟨o,e,_,n,d⟩,_⟩:=I.tuple h
 obtain ⟨its',r',⟨o',e',_,n',d'⟩,_⟩:=I.tuple h'
 rw [e] at e';cases e'
 rw [d] at d'
 injection d' with d1 _
 have:its=its':=by simpa using congrArg Array.toList d1
 subst this
 exact r.inj r'
end
noncomputable abbrev Cx.wish (X:Cx) (E:Value->Shared->Prop):Cx:={X with xe:=E}
noncomputable abbrev Cx.nox (X:Cx):Cx:=X.wish fun _ _=>False
theorem Cx.Ok.wish {X:Cx} (ok:X.Ok) (E:Value->Shared->Prop):(X.wish E).Ok:=
 ⟨ok.mod,ok.kind,ok.glob,ok.blt,ok.above,ok.inj,ok.has,ok.cab,ok.hd,ok.hx,ok.frames,ok.stk,ok.exf,ok.bs,ok.bsz,ok.noex,ok.exfs,ok.funs,ok.frf⟩
theorem Cx.Ok.unwish {X:Cx} {E:Value->Shared->Prop} (ok:(X.wish E).Ok):X.Ok:=
 ⟨ok.mod,ok.kind,ok.glob,ok.blt,ok.above,ok.inj,ok.has,ok.cab,ok.hd,ok.hx,ok.frames,ok.stk,ok.exf,ok.bs,ok.bsz,ok.noex,ok.exfs,ok.funs,ok.frf⟩
section
variable {X:Cx} {pins:List (Addr×Obj)} {σ:St} {H:Hp} {s:Shared} {E:Value->Shared->Prop}
theorem Inv.wish (I:Inv X pins σ H s) (E:Value->Shared->Prop):Inv (X.wish E) pins σ H s:=⟨I.ok.wish E,I.os,I.bare,I.base,I.loc,I.cell,I.free,I.freeC,I.pin,I.hok,I.len⟩
theorem Inv.unwish (I:Inv (X.wish E) pins σ H s):Inv X pins σ H s:=⟨I.ok.unwish,I.os,I.bare,I.base,I.loc,I.cell,I.free,I.freeC,I.pin,I.hok,I.len⟩
theorem SP.unwish {D:zo1} {f:Flow} {s':Shared} (h:SP (X.wish E) pins D f s'):SP X pins D f s':=by
 cases f with
 | next=>obtain ⟨σ',H',I,q⟩:=h;exact ⟨σ',H',I.unwish,q⟩
 | brk=>obtain ⟨σ',H',I,q⟩:=h;exact ⟨σ',H',I.unwish,q⟩
 | cont=>obtain ⟨σ',H',I,q⟩:=h;exact ⟨σ',H',I.unwish,q⟩
 | ret u=>obtain ⟨v,σ',H',I,r,q⟩:=h;exact ⟨v,σ',H',I.unwish,r,q⟩
theorem PE.nox {e:Expr} {t:TE} (h:PE X.nox e t):PE X e t:=fun pins s σ H Q I hw=>
 qaZ (h pins s σ H Q (I.wish _) hw) (fun _ _ ⟨v,H',I',r,q⟩=>⟨v,H',I'.unwish,r,q⟩) fun _ _ z=>qa0 z
theorem PT.nox {e:Expr} {t:TT} (h:PT X.nox e t):PT X e t:=fun pins s σ H Q I hw=>
 qaZ (h pins s σ H Q (I.wish _) hw) (fun _ _ ⟨H',I',q⟩=>⟨H',I'.unwish,q⟩) fun _ _ z=>qa0 z
theorem PSs.nox {st:List Stmt} {t:TS} (h:PSs X.nox st t):PSs X st t:=fun pins s σ H D I hw=>
 qaZ (h pins s σ H D (I.wish _) hw) (fun _ _ q=>q.unwish) fun _ _ z=>qa0 z
end
section
variable {X:Cx} {st:Stmt} {zbS:List Stmt} {t u:TS} {e:Expr} {te:TE} {pos:Pos}
noncomputable def zr0:TS:=fun D σ H=>D.nx σ H
noncomputable def ztd (t u:TS):TS:=fun D σ H=>t {D with nx:=u D} σ H
theorem zno:PSs X [] zr0:=fun _ _ σ H _ I h=>wpAny_execs_nil ⟨σ,H,I,h⟩
theorem zmj (h1:PS X st t) (h2:PSs X zbS u):PSs X (st::zbS) (ztd t u):=by
 intro pins s σ H D I h
 refine wpAny_execs_cons (thn (h1 pins s σ H {D with nx:=u D} I h) fun f s1 q=> ?_)
 cases f with
 | next=>
  obtain ⟨σ',H',I',q⟩:=q
  exact h2 pins s1 σ' H' D I' q
 | ret v=>exact q
 | brk=>exact q
 | cont=>exact q
theorem zoW (h1:PS X st t):PSs X [st] t:=by
 intro pins s σ H D I h
 refine wpAny_execs_cons (thn (h1 pins s σ H D I h) fun f s1 q=> ?_)
 cases f with
 | next=>exact wpAny_execs_nil q
 | ret v=>exact q
 | brk=>exact q
 | cont=>exact q
theorem Inv.quiet {pins:List (Addr×Obj)} {σ:St} {H:Hp} {s:Shared} (I:Inv X pins σ H s):interactive X.env=false:=by simp [interactive,I.ok.kind]
noncomputable def zsH (te:TE):TS:=fun D σ H=>te σ H fun _ H1=>D.nx σ H1
theorem zn4 (he:PE X e te) (hs:swapsWith e none pos.line X.env=pure false:=by rfl):PS X (.Expr e pos) (zsH te):=by
 intro pins s σ H D I h
 exact wpAny_Expr_any (thn (he pins s σ H _ I h) fun v s1 ⟨x,H1,I1,r1,q1⟩=>⟨σ,H1,I1,q1⟩) I.quiet hs
noncomputable def ztn (te:TE):TS:=fun D σ H=>te σ H D.rt
theorem zpS (he:PE X e te):PS X (.Return (some e) pos) (ztn te):=by
 intro pins s σ H D I h
 exact wpAny_Return_some (thn (he pins s σ H _ I h) fun v s1 ⟨x,H1,I1,r1,q1⟩=>⟨x,σ,H1,I1,r1,q1⟩)
noncomputable def ztB (c:TT) (t u:TS):TS:=fun D σ H=>c σ H fun b H1=>if b=true then t D σ H1 else u D σ H1
theorem zrz {c:Expr} {a b:List Stmt} {tc:TT} (hc:PT X c tc) (ha:PSs X a t) (hb:PSs X b u):PS X (.If c a b pos) (ztB tc t u):=by
 intro pins s σ H D I h
 refine wpAny_If (thn (hc pins s σ H _ I h) fun d s1 ⟨H1,I1,q1⟩=> ?_)
 cases d with
 | true=>exact ha pins s1 σ H1 D I1 q1
 | false=>exact hb pins s1 σ H1 D I1 q1
end
noncomputable abbrev TG:=V->St->Hp->(St->Hp->Prop)->Prop
noncomputable abbrev TGs:=List V->St->Hp->(St->Hp->Prop)->Prop
def PG (X:Cx) (target:Expr) (t:TG):Prop:=
 ∀ (pins:List (Addr×Obj)) (s:Shared) (σ:St) (H:Hp) (v:V) (u:Value) (Q:St->Hp->Prop),Inv X pins σ H s->zcf v u->t v σ H Q->
  wpAny (model X.prog X.w) X.A (assign target X.env u) (fun _ s'=> ∃ σ' H',Inv X pins σ' H' s'/\Q σ' H') X.xe s
def PGs (X:Cx) (ts:List Expr) (t:TGs):Prop:=
 ∀ (pins:List (Addr×Obj)) (s:Shared) (σ:St) (H:Hp) (vs:List V) (us:List Value) (Q:St->Hp->Prop),Inv X pins σ H s->za6 vs us->t vs σ H Q->
  wpAny (model X.prog X.w) X.A (assignInOrder ((assignEach ts X.env).map (·.2)) us) (fun _ s'=> ∃ σ' H',Inv X pins σ' H' s'/\Q σ' H') X.xe s
noncomputable abbrev zpy:=V->V->V->Hp->(Hp->Prop)->Prop
def zoY (X:Cx) (t:zpy):Prop:=
 ∀ (pins:List (Addr×Obj)) (s:Shared) (σ:St) (H:Hp) (o i v:V) (ov iv u:Value) (Q:Hp->Prop),Inv X pins σ H s->zcf o ov->zcf i iv->zcf v u->t o i v H Q->
  wpAny (model X.prog X.w) X.A (setItem ov iv u) (fun _ s'=> ∃ H',Inv X pins σ H' s'/\Q H') X.xe s
section
variable {X:Cx} {pos:Pos}
noncomputable def zoa (i:Nat):TG:=fun v σ H Q=>Q (σ.set i (some v)) H
theorem zoQ {i:Nat} {x:Str} (hN:X.N.Nodup) (hi:X.N[i]? = some x) (hx:Loc X.env.scope x) (hf:X.fn x=true\/X.env.scope.names.lookup x=some .local:=by first | exact .inl rfl | exact .inr rfl | assumption):PG X (.Name x pos) (zoa i):=by
 intro pins s σ H v u Q I r h
 exact wpAny_assign_Name (zgm I hN hi hx r (fun s' I'=>⟨_,H,I',h⟩) hf)
noncomputable def ztf:TGs:=fun vs σ H Q=>vs=[]/\Q σ H
noncomputable def zrT (t:TG) (u:TGs):TGs:=fun vs σ H Q=> ∃ v r,vs=v::r/\t v σ H fun σ' H'=>u r σ' H' Q
theorem zoB:PGs X [] ztf:=by
 intro pins s σ H vs us Q I r h
 obtain ⟨e,h⟩:=h
 subst e
 cases r
 exact assignInOrder_nil ⟨σ,H,I,h⟩
theorem zl6 {e:Expr} {es:List Expr} {t:TG} {u:TGs} (h1:PG X e t) (h2:PGs X es u)
  (hs:(assignEach (e::es) X.env).map (·.2)=assign e X.env::(assignEach es X.env).map (·.2):=by rfl):PGs X (e::es) (zrT t u):=by
 intro pins s σ H vs us Q I r h
 obtain ⟨v,vr,e1,h⟩:=h
 subst e1
 cases r with
 | cons r rr=>
  rw [hs]
  refine assignInOrder_cons (thn (h1 pins s σ H _ _ _ I r h) fun _ s1 ⟨σ1,H1,I1,q1⟩=> ?_)
  exact h2 pins s1 σ1 H1 _ _ Q I1 rr q1
noncomputable def zs3 (K:W.Frag) (n:Nat) (t:TGs):TG:=fun v σ H Q=> ∃ a xs,v= .ref a/\SqT K H a xs/\xs.length=n/\t xs σ H Q
theorem zq8 {es:List Expr} {k:Nat} {t:TGs} {n:Nat} (hc:X.calm=true) (h:PGs X es t)
  (hn:(assignEach es X.env).length=n:=by rfl) (hst:(assignEach es X.env).findIdx? (·.1)=none:=by rfl):PG X (.Tuple es k pos) (zs3 X.K n t):=by
 intro pins s σ H v u Q I r hw
 obtain ⟨a,xs,e1,hq,hl,hw⟩:=hw
 subst e1
 cases r
 obtain ⟨its,rv,ht,hz⟩:=I.tuple hq
 refine assign_Tuple_tuple (I.ok.hd hc) ht (by simp [hn, <-hl,rv.length]) hst fun h' hx=> ?_
 have I1:Inv X pins σ H {s with heap:=h'}:=I.kept (t':=s.toks) fun b o e=>hx b o (qaR (qaQ e)) e
 exact h pins _ σ H xs _ Q I1 (by simpa using rv) hw
noncomputable def zsX (to ti:TE) (t:zpy):TG:=fun v σ H Q=>to σ H fun o H1=>ti σ H1 fun i H2=>t o i v H2 fun H3=>Q σ H3
theorem zqt {o i:Expr} {to ti:TE} {t:zpy} (ho:PE X o to) (hi:PE X i ti) (hs:zoY X t)
  (ha: ∀ v,assign (.Subscript o i pos) X.env v=(do
    let ov<-holding [v] (eval o X.env)
    let iv<-holding [v,ov] (eval i X.env)
    standAt pos
    holding [v,ov,iv] (setItem ov iv v)
    release [v,ov,iv] []):=by intro _;rfl):PG X (.Subscript o i pos) (zsX to ti t):=by
 intro pins s σ H v u Q I r h
 rw [ha]
 refine qaW (qaO (thn (ho pins s σ H _ I h) fun ov s1 ⟨x,H1,I1,r1,q1⟩=> ?_))
 refine qaW (qaO (thn (hi pins s1 σ H1 _ I1 q1) fun iv s2 ⟨y,H2,I2,r2,q2⟩=> ?_))
 refine qaW (wpAny_standAt (qaW (qaO (thn (hs pins s2 σ H2 x y v ov iv u _ I2 r1 r2 r q2) fun _ s3 ⟨H3,I3,q3⟩=> ?_))))
 exact wpAny_release ⟨σ,H3,I3,q3⟩
noncomputable def zss (te:TE) (g:TG):TS:=fun D σ H=>te σ H fun x H1=>g x σ H1 D.nx
theorem zqQ {tg e:Expr} {te:TE} {g:TG} (he:PE X e te) (hg:PG X tg g) (hs:swapsWithSole [tg] e pos.line X.env=pure false:=by rfl) (hw:swappedStores [tg] e X.env=pure none:=by rfl)
  (h1:(assignEach [tg] X.env).map (·.2)=[assign tg X.env]:=by rfl):PS X (.Assign [tg] e pos) (zss te g):=by
 intro pins s σ H D I h
 refine wpAny_Assign_stores (thn (he pins s σ H _ I h) fun v s1 ⟨x,H1,I1,r1,q1⟩=> ?_) hs hw
 rw [h1]
 exact thn (hg pins s1 σ H1 x v _ I1 r1 q1) fun _ s2 q=>q
theorem zqG {i:Nat} {x:Str} {e:Expr} {te:TE} {pos':Pos} (hN:X.N.Nodup) (hi:X.N[i]? = some x) (hx:Loc X.env.scope x) (he:PE X e te) (hs:swapsWith e (some (.Name x pos')) pos.line X.env=pure false:=by rfl) (hf:X.fn x=true\/X.env.scope.names.lookup x=some .local:=by first | exact .inl rfl | exact .inr rfl | assumption):
  PS X (.Assign [.Name x pos'] e pos) (zss te (zoa i)):=by
 intro pins s σ H D I h
 refine wpAny_Assign_Name (thn (he pins s σ H _ I h) fun v s1 ⟨y,H1,I1,r1,q1⟩=> ?_) hs
 exact zgm I1 hN hi hx r1 (fun s2 I2=>⟨_,H1,I2,q1⟩) hf
end
section
variable {X:Cx} {pos:Pos}
noncomputable def zqW (c:TT) (tb:TS):TS:=fun D σ H=> ∃ W:Nat->St->Hp->Prop,(∃ m,W m σ H)/\ ∀ m σ H,W m σ H->
 c σ H fun b H1=>if b=true then ∃ N:St->Hp->Prop,(∀ σ' H',N σ' H'-> ∃ m',m'<m/\W m' σ' H')/\tb {D with nx:=N,ct:=N,bk:=D.nx} σ H1 else D.nx σ H1
theorem zlM {c:Expr} {body:List Stmt} {tc:TT} {tb:TS} (hp:PassesOwn (model X.prog X.w) X.A X.env X.xe) (hc:PT X c tc) (hb:PSs X body tb):PS X (.While c body [] pos) (zqW tc tb):=by
 intro pins s σ H D I h
 obtain ⟨W,⟨m0,w0⟩,turn⟩:=h
 refine wpAny_While (codeAny_whileLoop (fun n s'=> ∃ σ' H',Inv X pins σ' H' s'/\W n σ' H') ?_ m0 ⟨σ,H,I,w0⟩)
 rintro n s1 ⟨σ1,H1,I1,w1⟩
 refine wpAny_passesOwn hp (thn (hc pins s1 σ1 H1 _ I1 (turn n σ1 H1 w1)) fun b s2 ⟨H2,I2,q2⟩=> ?_)
 cases b with
 | true=>
  obtain ⟨N,hN,q2⟩:=q2
  rw [qa4 rfl]
  refine wpAny_passesOwn hp (thn (hb pins s2 σ1 H2 _ I2 q2) fun f s3 q3=> ?_)
  cases f with
  | next=>
   obtain ⟨σ3,H3,I3,n3⟩:=q3
   obtain ⟨m',hm,w3⟩:=hN σ3 H3 n3
   exact ⟨m',hm,σ3,H3,I3,w3⟩
  | cont=>
   obtain ⟨σ3,H3,I3,n3⟩:=q3
   obtain ⟨m',hm,w3⟩:=hN σ3 H3 n3
   exact ⟨m',hm,σ3,H3,I3,w3⟩
  | brk=>exact q3
  | ret v=>exact q3
 | false=>
  rw [qa5 Bool.false_ne_true]
  exact wpAny_execs_nil ⟨σ1,H2,I2,q2⟩
end
structure It where
 go:Nat->Hp->Prop
 yld:Nat->Hp->V->Hp->Prop
 stop:Nat->Hp->Prop
def zhn (X:Cx) (pins:List (Addr×Obj)) (H:Hp) (b:Addr):Prop:=
 H b=none/\b≠X.env.locals/\b∉X.fs/\(b∈X.ex\/X.s₀.heap.objs.size<=b)/\(∀ x c,X.env.cells.lookup x=some c->c≠b)/\ ∀ p∈X.pn++pins,p.1≠b
theorem Inv.fpOk {X:Cx} {pins:List (Addr×Obj)} {σ:St} {H H':Hp} {s:Shared} {b:Addr} (I:Inv X pins σ H s) (hb:s.heap.objs.size<=b) (hn:H' b=none):zhn X pins H' b:=by
 refine ⟨hn,Nat.ne_of_gt (qaw I.lt hb),I.nofs hb,.inr (qaS I.sz hb),fun x c e z=> ?_,fun p hp z=> ?_⟩
 ·obtain ⟨v,q⟩:=I.cell x c e
  exact absurd (qaw q.lt (by rw [z];exact hb)) (qaN _)
 ·exact absurd (qaw (qaQ (I.pin p hp).1) (by rw [z];exact hb)) (qaN _)
structure zoH (P:Program) (w:World) (K:W.Frag) (tg:Expr) (J:It) (fp:List Addr) (it:Addr) (tn:Nat->Heap->Prop):Prop where
 mem:it∈fp
 obj: ∀ i h,tn i h-> ∀ b∈fp, ∃ o,h.get? b=some o/\ ∀ v,o.data≠ .cell v
 keep: ∀ i h h',tn i h->(∀ b∈fp, ∀ o,h.get? b=some o->h'.get? b=some o)->tn i h'
 item: ∀ (X:Cx),X.prog=P->X.w=w->X.K=K-> ∀ (i:Nat) (pins:List (Addr×Obj)) (s:Shared) (σ:St) (H:Hp) (E:Value->Shared->Prop),Inv X pins σ H s->(∀ b∈fp,zhn X pins H b)->tn i s.heap->J.go i H->
  wpAny (model P w) X.A (pyNext (.ref it)) (fun r s1=> ∃ u,r=some u/\
    wpAny (model P w) X.A (letOwnedTupleGo tg (.ref it) u) (fun _ s2=> ∃ x H',Inv X pins σ H' s2/\zcf x u/\J.yld i H x H'/\tn (i+1) s2.heap/\ ∀ b∈fp,H' b=none) E s1) E s
 done: ∀ (X:Cx),X.prog=P->X.w=w->X.K=K-> ∀ (i:Nat) (pins:List (Addr×Obj)) (s:Shared) (σ:St) (H:Hp) (E:Value->Shared->Prop),Inv X pins σ H s->(∀ b∈fp,zhn X pins H b)->tn i s.heap->J.stop i H->
  wpAny (model P w) X.A (pyNext (.ref it)) (fun r s1=>r=none/\Inv X pins σ H s1) E s
 self: ∀ (A:Around) (i:Nat) (s:Shared) (Q:Value->Shared->Prop) (E:Value->Shared->Prop),tn i s.heap->Q (.ref it) s->wpAny (model P w) A (pyIter (.ref it)) Q E s
noncomputable abbrev TI:=St->Hp->(It->Hp->Prop)->Prop
def PIE (X:Cx) (pins:List (Addr×Obj)) (σ:St) (tg:Expr) (R:It->Hp->Prop) (itv:Value) (s2:Shared):Prop:=
 ∃ (it:Addr) (fp:List Addr) (tn:Nat->Heap->Prop) (J:It) (H':Hp),itv= .ref it/\Inv X pins σ H' s2/\zoH X.prog X.w X.K tg J fp it tn/\tn 0 s2.heap/\(∀ b∈fp,zhn X pins H' b)/\R J H'
def PI (X:Cx) (tg iter:Expr) (wi:TI):Prop:=
 ∀ (pins:List (Addr×Obj)) (s:Shared) (σ:St) (H:Hp) (R:It->Hp->Prop),Inv X pins σ H s->wi σ H R->
  wpAny (model X.prog X.w) X.A (eval iter X.env) (fun v s1=>wpAny (model X.prog X.w) X.A (pyIter v) (PIE X pins σ tg R) X.xe s1) X.xe s
theorem zoh {M:Model} {A:Around} {E:Value->Shared->Prop} {s:Shared} {tg:Expr} {it:Addr} {u:Value} {o:Obj} {n:String} {vs:Array Value} {Q:Unit->Shared->Prop} (ho:s.heap.get? it=some o) (hc:o.cls= .type n) (hd:o.data= .fields vs)
  (hn:["enumerate","zip","dict_itemiterator","dict_reverseitemiterator","odict_iterator","itertools.zip_longest","itertools.pairwise"].contains n=false) (hQ:Q () s):wpAny M A (letOwnedTupleGo tg (.ref it) u) Q E s:=by
 unfold letOwnedTupleGo
 cases tg<;>first
  | exact qaX hQ
  | (cases u<;>first
      | exact qaX hQ
      | (refine qaW (wpAny_load ho ?_)
         rw [hc,hd]
         show wpAny M A (if (["enumerate","zip","dict_itemiterator","dict_reverseitemiterator","odict_iterator","itertools.zip_longest","itertools.pairwise"].contains n && vs[0]? == some (rawInt _))=true then _ else _) Q E s
         rw [qa5 (by intro h;rw [hn,Bool.false_and] at h;cases h)]
         exact qaX hQ))
noncomputable def Itl (K:W.Frag) (a:Addr):It:=
 ⟨fun i H=> ∃ xs x,SqL K H a xs/\xs[i]? = some x,fun i H x H'=>H'=H/\ ∀ xs,SqL K H a xs->xs[i]? = some x,fun i H=> ∃ xs,SqL K H a xs/\xs.length<=i⟩
noncomputable def Itt (K:W.Frag) (a:Addr):It:=
 ⟨fun i H=> ∃ xs x,SqT K H a xs/\xs[i]? = some x,fun i H x H'=>H'=H/\ ∀ xs,SqT K H a xs->xs[i]? = some x,fun i H=> ∃ xs,SqT K H a xs/\xs.length<=i⟩
noncomputable def Itr (lo:Int) (n:Nat):It:=⟨fun i _=>i<n,fun i H x H'=>H'=H/\x= .int (lo+i),fun i _=>n<=i⟩
theorem zhg.keep {A:Around} {H H':Hp} (x:zhg A H) (k: ∀ b o u,H b=some (.frz o u)->H' b=some (.frz o u)):zhg A H':=by
 rcases x with x | ⟨a,o,cls,head,vs,x1,x2,x3⟩
 ·exact .inl x
 ·exact .inr ⟨a,o,cls,head,vs,x1,k _ _ _ x2,x3⟩
theorem zhg.at_ {A:Around} {P:Program} {w:World} {H:Hp} {h:Heap} (x:zhg A H) (ok:HOk P w H h):L3.zjo A h:=by
 rcases x with x | ⟨a,o,cls,head,vs,x1,x2,x3⟩
 ·exact .inl x
 ·exact .inr ⟨a,cls,head,x1,o,vs,(ok a _ x2).1,x3⟩
theorem Inv.handA {X:Cx} {pins:List (Addr×Obj)} {σ:St} {H:Hp} {s:Shared} (I:Inv X pins σ H s):zhg X.A H:=I.ok.hx.keep I.base.frzs
theorem Inv.hand {X:Cx} {pins:List (Addr×Obj)} {σ:St} {H:Hp} {s:Shared} (I:Inv X pins σ H s):L3.zjo X.A s.heap:=I.handA.at_ I.hok
theorem zk6 {P:Program} {w:World} {K:W.Frag} {tg:Expr} (a it:Addr):zoH P w K tg (Itl K a) [it] it (fun i h=>h.IsListIter it a i) where
 mem:=by simp
 obj:=fun i h st b hb=>by
  have e:b=it:=by simpa using hb
  subst e
  obtain ⟨o,e,c,d⟩:=st
  exact ⟨o,e,fun v z=>by rw [d] at z;cases z⟩
 keep:=fun i h h' st k=>st.at fun o e=>k it (by simp) o e
 item:=by
  intro X hP hw hK i pins s σ H E I hf st hg
  subst hP hw hK
  obtain ⟨xs,x,hq,hx⟩:=hg
  obtain ⟨its,rv,p,hz⟩:=I.list hq
  obtain ⟨u,hu,ru⟩:=rv.get hx
  obtain ⟨f0,f1,f2,f3,f4,f5⟩:=hf it (by simp)
  refine wpAny_pyNext_list_item st p.isList (x:=u) (by simpa using hu) fun h' st' sb=> ?_
  have I1:Inv X pins σ H {s with heap:=h'}:=I.turned (t':=s.toks) (fun b o hb e=>(sb.2 b hb).trans e) f0 f1 f3 f4 f5
  obtain ⟨o,e,c,d⟩:=id st'
  exact ⟨u,rfl,zoh (s:={s with heap:=h'}) e c d (by decide) ⟨x,H,I1,ru,⟨rfl,fun ys hy=>by rw [I.list_inj hy hq];exact hx⟩,st',fun b hb=>(hf b hb).1⟩⟩
 done:=by
  intro X hP hw hK i pins s σ H E I hf st hg
  subst hP hw hK
  obtain ⟨xs,hq,hx⟩:=hg
  obtain ⟨its,rv,p,hz⟩:=I.list hq
  obtain ⟨f0,f1,f2,f3,f4,f5⟩:=hf it (by simp)
  have hl:=rv.length
  exact L3.zml I.hand st p.isList (by simp;omega) fun h' eb=>⟨rfl,I.turned (t':=s.toks) (fun b o hb e=>eb b o hb e) f0 f1 f3 f4 f5⟩
 self:=fun _ _ _ _ _ st h=>wpAny_pyIter_listiter st h
theorem zi4 {P:Program} {w:World} {K:W.Frag} {tg:Expr} (a it:Addr):zoH P w K tg (Itt K a) [it] it (fun i h=>h.IsTupleIter it a i) where
 mem:=by simp
 obj:=fun i h st b hb=>by
  have e:b=it:=by simpa using hb
  subst e
  obtain ⟨o,e,c,d⟩:=st
  exact ⟨o,e,fun v z=>by rw [d] at z;cases z⟩
 keep:=fun i h h' st k=>st.at fun o e=>k it (by simp) o e
 item:=by
  intro X hP hw hK i pins s σ H E I hf st hg
  subst hP hw hK
  obtain ⟨xs,x,hq,hx⟩:=hg
  obtain ⟨its,rv,p,hz⟩:=I.tuple hq
  obtain ⟨u,hu,ru⟩:=rv.get hx
  obtain ⟨f0,f1,f2,f3,f4,f5⟩:=hf it (by simp)
  refine wpAny_pyNext_tuple_item st (show s.heap.IsTuple a its.toArray from p) (x:=u) (by simpa using hu) fun h' st' sb=> ?_
  have I1:Inv X pins σ H {s with heap:=h'}:=I.turned (t':=s.toks) (fun b o hb e=>(sb.2 b hb).trans e) f0 f1 f3 f4 f5
  obtain ⟨o,e,c,d⟩:=id st'
  exact ⟨u,rfl,zoh (s:={s with heap:=h'}) e c d (by decide) ⟨x,H,I1,ru,⟨rfl,fun ys hy=>by rw [I.tuple_inj hy hq];exact hx⟩,st',fun b hb=>(hf b hb).1⟩⟩
 done:=by
  intro X hP hw hK i pins s σ H E I hf st hg
  subst hP hw hK
  obtain ⟨xs,hq,hx⟩:=hg
  obtain ⟨its,rv,p,hz⟩:=I.tuple hq
  obtain ⟨f0,f1,f2,f3,f4,f5⟩:=hf it (by simp)
  have hl:=rv.length
  exact L3.zkp I.hand st (show s.heap.IsTuple a its.toArray from p) (by simp;omega) fun h' eb=>⟨rfl,I.turned (t':=s.toks) (fun b o hb e=>eb b o hb e) f0 f1 f3 f4 f5⟩
 self:=fun _ _ _ _ _ st h=>wpAny_pyIter_tupleiter st h
theorem zja {P:Program} {w:World} {K:W.Frag} {tg:Expr} (it:Addr) (lo:Int) (n:Nat):zoH P w K tg (Itr lo n) [it] it (fun i h=>IsRangeIter h it (lo+(i:Nat)*1) ((n:Int) - (i:Nat)) 1) where
 mem:=by simp
 obj:=fun i h st b hb=>by
  have e:b=it:=by simpa using hb
  subst e
  exact ⟨_,st,fun v z=>by
    have z':Data.fields _=Data.cell v:=z
    cases z'⟩
 keep:=fun i h h' st k=>k it (by simp) _ st
 item:=by
  intro X hP hw hK i pins s σ H E I hf st hg
  subst hP hw hK
  obtain ⟨f0,f1,f2,f3,f4,f5⟩:=hf it (by simp)
  refine wpAny_pyNext_range_item st (by have:i<n:=hg;omega) fun h' st' kk=> ?_
  have e1:lo+(i:Nat)*1+1=lo+((i+1:Nat):Int)*1:=by omega
  have e2:(n:Int) - (i:Nat) - 1=(n:Int) - ((i+1:Nat):Int):=by omega
  rw [e1,e2] at st'
  have I1:Inv X pins σ H {s with heap:=h',toks:=s.toks+1}:=I.turned (fun b o hb e=>(kk.2 b hb).trans e) f0 f1 f3 f4 f5
  refine ⟨_,rfl,zoh (s:={s with heap:=h',toks:=s.toks+1}) (n:="range_iterator") st' rfl rfl (by decide) ⟨.int (lo+i),H,I1,⟨s.toks,?_⟩,⟨rfl,rfl⟩,st',fun b hb=>(hf b hb).1⟩⟩
  rw [Int.mul_one]
 done:=by
  intro X hP hw hK i pins s σ H E I hf st hg
  subst hP hw hK
  obtain ⟨f0,f1,f2,f3,f4,f5⟩:=hf it (by simp)
  exact L3.zkT I.hand st (by have:n<=i:=hg;omega) fun h' eb=>⟨rfl,I.turned (t':=s.toks) (fun b o hb e=>eb b o hb e) f0 f1 f3 f4 f5⟩
 self:=fun _ _ _ _ _ st h=>wpAny_pyIter_rangeiter st h
section
variable {X:Cx} {tg:Expr}
theorem ziu {pins:List (Addr×Obj)} {σ:St} {H:Hp} {s:Shared} {R:It->Hp->Prop} {E:Value->Shared->Prop} {lo hi:Int} {t u v:Tok} {tk:Nat} (I:Inv X pins σ H s) (h1: -(2^62)<=lo) (h2:lo<2^62) (h3: -(2^62)<=hi) (h4:hi<2^62)
  (q:R (Itr lo (hi - lo).toNat) H):wpAny (model X.prog X.w) X.A (pyIter (.ref s.heap.objs.size)) (PIE X pins σ tg R) E {s with heap:=s.heap.push {cls:= .type "range",data:= .fields #[.int lo t,.int hi u,.int 1 v]},toks:=tk}:=by
 refine wpAny_pyIter_range (IsRange.new ..) (small_one h1 h2 h3 h4) ?_
 have I1:Inv X pins σ H {s with heap:=s.heap.push {cls:= .type "range",data:= .fields #[.int lo t,.int hi u,.int 1 v]},toks:=tk}:=I.kept fun b o e=>qag _ e
 refine ⟨(s.heap.push {cls:= .type "range",data:= .fields #[.int lo t,.int hi u,.int 1 v]}).objs.size,[(s.heap.push {cls:= .type "range",data:= .fields #[.int lo t,.int hi u,.int 1 v]}).objs.size],_,_,H,rfl,
   I1.kept (t':=tk) fun b o e=>qag _ e,zja _ lo (hi - lo).toNat,?_,fun b hb=> ?_,q⟩
 ·have e1:lo+((0:Nat):Int)*1=lo:=by simp
  have e2:(((hi - lo).toNat:Nat):Int) - ((0:Nat):Int)=Builtin.Range.rangeSize lo hi 1:=by rw [rangeSize_one];split<;>omega
  show IsRangeIter _ _ (lo+((0:Nat):Int)*1) ((((hi - lo).toNat:Nat):Int) - ((0:Nat):Int)) 1
  rw [e1,e2]
  exact qar _ rfl
 ·have e:b=(s.heap.push {cls:= .type "range",data:= .fields #[.int lo t,.int hi u,.int 1 v]}).objs.size:=by simpa using hb
  subst e
  exact I1.fpOk (qaV _) (I1.hok.fresh (qaV _))
noncomputable def zrZ (ta:TA):TI:=fun σ H R=>ta σ H fun vs H1=> ∃ j:Int,vs=[.int j]/\ -(2^62)<=j/\j<2^62/\R (Itr 0 j.toNat) H1
noncomputable def zp5 (ta:TA):TI:=fun σ H R=>ta σ H fun vs H1=> ∃ i j:Int,vs=[.int i,.int j]/\(-(2^62)<=i/\i<2^62/\ -(2^62)<=j/\j<2^62)/\R (Itr i (j - i).toNat) H1
theorem zk3 {a:Expr} {ta:TA} {p pos:Pos} (hg:Gl X "range") (hm:X.mg "range"=none) (ha:PA X [a] ta) (hs:starEach [a] X.env=[(false,eval a X.env)]:=by rfl):PI X tg (.Call (.Name "range" p) [a] [] pos) (zrZ ta):=by
 intro pins s σ H R I h
 refine Call_ (zfg I hg hm boot_range (PyProof.Rows.callWith_type1 (thn (ha pos pins s σ H _ I h) fun us s1 ⟨vs,H1,I1,r1,q1⟩=> ?_) hs rfl))
 obtain ⟨j,e,q1,q2,q⟩:=q1
 subst e
 cases r1 with
 | cons r rr=>
  cases rr
  obtain ⟨t,rfl⟩:=r
  exact call_range_1 (ziu I1 (by omega) (by omega) q1 q2 (by simpa using q))
theorem zjF {a b:Expr} {ta:TA} {p pos:Pos} (hg:Gl X "range") (hm:X.mg "range"=none) (ha:PA X [a,b] ta) (hs:starEach [a,b] X.env=[(false,eval a X.env),(false,eval b X.env)]:=by rfl) (hs2:starEach [b] X.env=[(false,eval b X.env)]:=by rfl):
  PI X tg (.Call (.Name "range" p) [a,b] [] pos) (zp5 ta):=by
 intro pins s σ H R I h
 refine Call_ (zfg I hg hm boot_range (PyProof.Rows.callWith_type1 (thn (ha pos pins s σ H _ I h) fun us s1 ⟨vs,H1,I1,r1,q1⟩=> ?_) (by rw [hs,hs2]) (by rw [hs2];rfl)))
 obtain ⟨i,j,e,⟨q1,q2,q3,q4⟩,q⟩:=q1
 subst e
 cases r1 with
 | cons r rr=>
  cases rr with
  | cons r' rr=>
   cases rr
   obtain ⟨t,rfl⟩:=r
   obtain ⟨t',rfl⟩:=r'
   exact call_range_2 (ziu I1 q1 q2 q3 q4 q)
noncomputable def zts (wi:TI) (g:TG) (tb:TS):TS:=fun D σ H=>wi σ H fun J H1=> ∃ W:Nat->Nat->St->Hp->Prop,(∃ m,W 0 m σ H1)/\ ∀ i m σ H,W i m σ H->
 (J.stop i H/\D.nx σ H)\/(J.go i H/\ ∃ N:St->Hp->Prop,(∀ σ' H',N σ' H'-> ∃ m',m'<m/\W (i+1) m' σ' H')/\ ∀ x H',J.yld i H x H'->g x σ H' fun σ2 H2=>tb {D with nx:=N,ct:=N,bk:=D.nx} σ2 H2)
noncomputable def zgs (fp:List Addr) (h:Heap):List (Addr×Obj):=fp.filterMap fun b=>(h.get? b).map fun o=>(b,o)
theorem zdn {fp:List Addr} {h:Heap} {b:Addr} {o:Obj} (hb:b∈fp) (e:h.get? b=some o):(b,o)∈zgs fp h:=List.mem_filterMap.mpr ⟨b,hb,by rw [e];rfl⟩
theorem zjM {fp:List Addr} {h:Heap} {p:Addr×Obj} (hp:p∈zgs fp h):p.1∈fp/\h.get? p.1=some p.2:=by
 obtain ⟨b,hb,e⟩:=List.mem_filterMap.mp hp
 cases q:h.get? b with
 | none=>rw [q] at e;cases e
 | some o=>
  rw [q] at e
  have e':(b,o)=p:=Option.some.inj e
  subst e'
  exact ⟨hb,q⟩
theorem Inv.pinned {pins:List (Addr×Obj)} {σ:St} {H:Hp} {s:Shared} {fp:List Addr} (I:Inv X pins σ H s) (hf: ∀ b∈fp,zhn X pins H b) (ho: ∀ b∈fp, ∃ o,s.heap.get? b=some o/\ ∀ v,o.data≠ .cell v):Inv X (pins++zgs fp s.heap) σ H s:=
 I.pins_of fun p hp=>(qaK.mp hp).elim (fun z=>I.pin p (qak _ z)) fun z=>by
  obtain ⟨hb,e⟩:=zjM z
  obtain ⟨f0,f1,f2,_⟩:=hf p.1 hb
  obtain ⟨o,e',d⟩:=ho p.1 hb
  rw [e] at e';cases e'
  exact ⟨e,f0,f1,f2,d⟩
theorem Inv.unpinned {pins pl:List (Addr×Obj)} {σ:St} {H:Hp} {s:Shared} (I:Inv X (pins++pl) σ H s):Inv X pins σ H s:=I.pins_of fun p hp=>I.pin p (qak _ (List.mem_append_left _ hp))
theorem zqj {iter:Expr} {body:List Stmt} {wi:TI} {g:TG} {tb:TS} {pos:Pos} (hp:PassesOwn (model X.prog X.w) X.A X.env X.xe) (hc:X.calm=true) (hi:PI X tg iter wi) (hg:PG X tg g) (hb:PSs X body tb)
  (hs: ∀ x,foldedSetIterable iter X.env x=pure x:=by intro _;rfl):PS X (.For tg iter body [] pos) (zts wi g tb):=by
 intro pins s σ H D I h
 refine wpAny_For (thn (hi pins s σ H _ I h) fun v s1 h1=>thn h1 fun itv s2 h2=> ?_) hs
 obtain ⟨it,fp,tn,J,H2,e,I2,T,st2,f2,W,⟨m0,w0⟩,turn⟩:=h2
 subst e
 have stat: ∀ {H':Hp},(∀ b∈fp,H' b=none)-> ∀ b∈fp,zhn X pins H' b:=fun hn b hb=>⟨hn b hb,(f2 b hb).2⟩
 refine codeAny_forLoop_any (fun n s'=> ∃ i σ' H',Inv X pins σ' H' s'/\tn i s'.heap/\(∀ b∈fp,H' b=none)/\W i n σ' H') ?_ m0 ⟨0,σ,H2,I2,st2,fun b hb=>(f2 b hb).1,w0⟩
 rintro n s3 ⟨i,σ3,H3,I3,st3,fr3,w3⟩
 rcases turn i n σ3 H3 w3 with ⟨stop,qn⟩ | ⟨go,N,hN,step⟩
 ·refine wpAny_passesOwn hp (thn (T.done X rfl rfl rfl i pins s3 σ3 H3 X.xe I3 (stat fr3) st3 stop) fun r s4 ⟨hr,I4⟩=> ?_)
  subst hr
  exact wpAny_execs_nil ⟨σ3,H3,I4,qn⟩
 ·refine wpAny_passesOwn hp (thn (T.item X rfl rfl rfl i pins s3 σ3 H3 X.xe I3 (stat fr3) st3 go) fun r s4 ⟨u,hr,h4⟩=> ?_)
  subst hr
  refine wpAny_passesOwn hp (thn h4 fun _ s5 ⟨x,H5,I5,r5,y5,st5,fr5⟩=> ?_)
  have I5':=I5.pinned (stat fr5) (T.obj _ _ st5)
  refine wpAny_passesOwn hp (thn (hg _ s5 σ3 H5 x u _ I5' r5 (step x H5 y5)) fun _ s6 ⟨σ6,H6,I6,q6⟩=> ?_)
  refine wpAny_passesOwn hp (thn (hb _ s6 σ6 H6 _ I6 q6) fun f s7 q7=> ?_)
  have again: ∀ {σ7:St} {H7:Hp},Inv X (pins++zgs fp s5.heap) σ7 H7 s7->N σ7 H7-> ∃ m,m<n/\ ∃ i σ' H',Inv X pins σ' H' s7/\tn i s7.heap/\(∀ b∈fp,H' b=none)/\W i m σ' H':=fun {σ7 H7} I7 n7=>by
   obtain ⟨m',hm,w7⟩:=hN σ7 H7 n7
   refine ⟨m',hm,i+1,σ7,H7,I7.unpinned,T.keep _ _ _ st5 fun b hb o e=>(I7.pin (b,o) (qak _ (qak _ (zdn hb e)))).1,fun b hb=> ?_,w7⟩
   obtain ⟨o,e,d⟩:=T.obj _ _ st5 b hb
   exact (I7.pin (b,o) (qak _ (qak _ (zdn hb e)))).2.1
  cases f with
  | next=>obtain ⟨σ7,H7,I7,n7⟩:=q7;exact again I7 n7
  | cont=>obtain ⟨σ7,H7,I7,n7⟩:=q7;exact again I7 n7
  | brk=>obtain ⟨σ7,H7,I7,q7⟩:=q7;exact ⟨σ7,H7,I7.unpinned,q7⟩
  | ret v=>obtain ⟨x7,σ7,H7,I7,r7,q7⟩:=q7;exact ⟨x7,σ7,H7,I7.unpinned,r7,q7⟩
end
noncomputable abbrev R2:=V->V->Hp->VK->Prop
def OpR (X:Cx) (f:Value->Value->Sem Value) (r:R2):Prop:=
 ∀ (pins:List (Addr×Obj)) (s:Shared) (σ:St) (H:Hp) (x y:V) (v u:Value) (Q:VK),Inv X pins σ H s->zcf x v->zcf y u->r x y H Q->
  wpAny (model X.prog X.w) X.A (f v u) (EP X pins σ Q) X.xe s
def UnR (X:Cx) (f:Value->Sem Value) (r:V->Hp->VK->Prop):Prop:=
 ∀ (pins:List (Addr×Obj)) (s:Shared) (σ:St) (H:Hp) (x:V) (v:Value) (Q:VK),Inv X pins σ H s->zcf x v->r x H Q->
  wpAny (model X.prog X.w) X.A (f v) (EP X pins σ Q) X.xe s
def za0 (X:Cx) (f:Value) (r:List V->Hp->VK->Prop):Prop:=
 ∀ (pins:List (Addr×Obj)) (s:Shared) (σ:St) (H:Hp) (xs:List V) (us:List Value) (Q:VK),Inv X pins σ H s->za6 xs us->r xs H Q->
  wpAny (model X.prog X.w) X.A (call f us) (EP X pins σ Q) X.xe s
def zto (X:Cx) (r:V->Hp->(Bool->Hp->Prop)->Prop):Prop:=
 ∀ (pins:List (Addr×Obj)) (s:Shared) (σ:St) (H:Hp) (x:V) (v:Value) (Q:Bool->Hp->Prop),Inv X pins σ H s->zcf x v->r x H Q->
  wpAny (model X.prog X.w) X.A (truthy v) (TP X pins σ Q) X.xe s
noncomputable def tOp (r:R2) (ta tb:TE):TE:=fun σ H Q=>ta σ H fun x H1=>tb σ H1 fun y H2=>r x y H2 Q
noncomputable def tUn (r:V->Hp->VK->Prop) (ta:TE):TE:=fun σ H Q=>ta σ H fun x H1=>r x H1 Q
noncomputable def rI (C:Int->Int->Prop) (g:Int->Int->V):R2:=fun x y H Q=> ∃ i j,x= .int i/\y= .int j/\C i j/\Q (g i j) H
noncomputable def rI0 (g:Int->Int->V):R2:=fun x y H Q=> ∃ i j,x= .int i/\y= .int j/\Q (g i j) H
noncomputable def rU (g:Int->V):V->Hp->VK->Prop:=fun x H Q=> ∃ i,x= .int i/\Q (g i) H
section
variable {X:Cx} {a b c:Expr} {ta tb tc:TE} {pos:Pos}
theorem zsy (ha:PE X a ta) (hb:PE X b tb) {pins:List (Addr×Obj)} {s:Shared} {σ:St} {H:Hp} {R:V->V->Hp->Prop} (I:Inv X pins σ H s)
  (h:ta σ H fun x H1=>tb σ H1 fun y H2=>R x y H2) {Q:Value->Shared->Prop} {f:Value->Value->Sem Value}
  (hf: ∀ v u s2 x y H2,Inv X pins σ H2 s2->zcf x v->zcf y u->R x y H2->wpAny (model X.prog X.w) X.A (f v u) Q X.xe s2):
  wpAny (model X.prog X.w) X.A (eval a X.env) (fun v s₁=>wpAny (model X.prog X.w) X.A (eval b X.env) (fun u s₂=>wpAny (model X.prog X.w) X.A (f v u) Q X.xe s₂) X.xe s₁) X.xe s:=by
 refine thn (ha pins s σ H _ I h) fun v s1 ⟨x,H1,I1,r1,q1⟩=> ?_
 refine thn (hb pins s1 σ H1 _ I1 q1) fun u s2 ⟨y,H2,I2,r2,q2⟩=> ?_
 exact hf v u s2 x y H2 I2 r1 r2 q2
theorem zrS {op:Operator} {r:R2} (ho:OpR X (binaryOp op) r) (ha:PE X a ta) (hb:PE X b tb):PE X (.BinOp a op b pos) (tOp r ta tb):=by
 intro pins s σ H Q I h
 exact wpAny_BinOp (zsy ha hb I h fun v u s2 x y H2 I2 rx ry q=>ho pins s2 σ H2 x y v u Q I2 rx ry q)
theorem zrU {op:UnaryOp} {r:V->Hp->VK->Prop} (ho:UnR X (unaryOp op) r) (ha:PE X a ta):PE X (.UnaryOp op a pos) (tUn r ta):=by
 intro pins s σ H Q I h
 exact UnaryOp_ (thn (ha pins s σ H _ I h) fun v s1 ⟨x,H1,I1,r1,q1⟩=>ho pins s1 σ H1 x v Q I1 r1 q1)
theorem opI {f:Value->Value->Sem Value} {C:Int->Int->Prop} {g:Int->Int->Int}
  (rule: ∀ (i j:Int) (t u:Tok) (s:Shared) (Q:Value->Shared->Prop) (E:Value->Shared->Prop),C i j->Q (.int (g i j) s.toks) {s with toks:=s.toks+1}->wpAny (model X.prog X.w) X.A (f (.int i t) (.int j u)) Q E s):
  OpR X f (rI C fun i j=> .int (g i j)):=by
 intro pins s σ H x y v u Q I rx ry h
 obtain ⟨i,j,rfl,rfl,hc,q⟩:=h
 obtain ⟨t,rfl⟩:=rx
 obtain ⟨t',rfl⟩:=ry
 exact rule i j t t' s _ _ hc ⟨.int (g i j),H,I.tok _,⟨_,rfl⟩,q⟩
theorem zsO {f:Value->Value->Sem Value} {g:Int->Int->Int}
  (rule: ∀ (i j:Int) (t u:Tok) (s:Shared) (Q:Value->Shared->Prop) (E:Value->Shared->Prop),Q (.int (g i j) s.toks) {s with toks:=s.toks+1}->wpAny (model X.prog X.w) X.A (f (.int i t) (.int j u)) Q E s):
  OpR X f (rI0 fun i j=> .int (g i j)):=by
 intro pins s σ H x y v u Q I rx ry h
 obtain ⟨i,j,rfl,rfl,q⟩:=h
 obtain ⟨t,rfl⟩:=rx
 obtain ⟨t',rfl⟩:=ry
 exact rule i j t t' s _ _ ⟨.int (g i j),H,I.tok _,⟨_,rfl⟩,q⟩
theorem zr5 {f:Value->Value->Sem Value} {g:Int->Int->Bool}
  (rule: ∀ (i j:Int) (t u:Tok) (s:Shared) (Q:Value->Shared->Prop) (E:Value->Shared->Prop),Q (.bool (g i j)) s->wpAny (model X.prog X.w) X.A (f (.int i t) (.int j u)) Q E s):
  OpR X f (rI0 fun i j=> .bl (g i j)):=by
 intro pins s σ H x y v u Q I rx ry h
 obtain ⟨i,j,rfl,rfl,q⟩:=h
 obtain ⟨t,rfl⟩:=rx
 obtain ⟨t',rfl⟩:=ry
 exact rule i j t t' s _ _ ⟨.bl (g i j),H,I,rfl,q⟩
def zsg (i j:Int):Prop:=0<=j/\j<=1000000/\i.natAbs<2^64
def zrI (i j:Int):Prop:=(-(2^64)<i/\i<2^64)\/(-(2^64)<j/\j<2^64)
theorem zrI.ok {i j:Int} (h:zrI i j):IntMulOk i j:=by
 rcases h with ⟨h1,h2⟩ | ⟨h1,h2⟩
 ·exact .of_left (intBits_le_64 h1 h2)
 ·exact .of_right (intBits_le_64 h1 h2)
theorem zra:OpR X (binaryOp .Add) (rI0 fun i j=> .int (i+j)):=zsO fun _ _ _ _ _ _ _ q=>add_int q
theorem zql:OpR X (binaryOp .Sub) (rI0 fun i j=> .int (i - j)):=zsO fun _ _ _ _ _ _ _ q=>sub_int q
theorem zqE:OpR X (binaryOp .Mult) (rI zrI fun i j=> .int (i*j)):=opI fun _ _ _ _ _ _ _ hc q=>mul_int q hc.ok
theorem zqr:OpR X (binaryOp .Mod) (rI (fun _ j=>0<j) fun i j=> .int (i % j)):=opI fun i j _ _ _ _ _ hc q=>by
 have h1:(0:Int)<j:=hc
 exact mod_int' (by omega) (by rw [Int.fmod_eq_emod_of_nonneg i (by omega)];exact q)
theorem zpQ:OpR X (binaryOp .Pow) (rI zsg fun i j=> .int (i^j.toNat)):=opI fun _ _ _ _ _ _ _ hc q=>pow_int_small hc.1 hc.2.1 hc.2.2 q
theorem unI {f:Value->Sem Value} {g:Int->Int}
  (rule: ∀ (i:Int) (t:Tok) (s:Shared) (Q:Value->Shared->Prop) (E:Value->Shared->Prop),Q (.int (g i) s.toks) {s with toks:=s.toks+1}->wpAny (model X.prog X.w) X.A (f (.int i t)) Q E s):
  UnR X f (rU fun i=> .int (g i)):=by
 intro pins s σ H x v Q I rx h
 obtain ⟨i,rfl,q⟩:=h
 obtain ⟨t,rfl⟩:=rx
 exact rule i t s _ _ ⟨.int (g i),H,I.tok _,⟨_,rfl⟩,q⟩
theorem zq7:UnR X (unaryOp .USub) (rU fun i=> .int (-i)):=unI fun _ _ _ _ _ q=>neg_int q
end
section
variable {X:Cx} {a b c:Expr} {ta tb tc:TE} {pos:Pos}
theorem zrL:OpR X (compareOp .Lt) (rI0 fun i j=> .bl (decide (i<j))):=zr5 fun _ _ _ _ _ _ _ q=>lt_int q
theorem zr6:OpR X (compareOp .LtE) (rI0 fun i j=> .bl (decide (i<=j))):=zr5 fun _ _ _ _ _ _ _ q=>le_int q
theorem zsa:OpR X (compareOp .Gt) (rI0 fun i j=> .bl (decide (j<i))):=zr5 fun _ _ _ _ _ _ _ q=>gt_int q
theorem OpR.or {f:Value->Value->Sem Value} {r r':R2} (h:OpR X f r) (h':OpR X f r'):OpR X f (fun x y H Q=>r x y H Q\/r' x y H Q):=by
 intro pins s σ H x y v u Q I rx ry q
 rcases q with q | q
 ·exact h pins s σ H x y v u Q I rx ry q
 ·exact h' pins s σ H x y v u Q I rx ry q
theorem znB {op:CmpOp} {r:R2} (ho:OpR X (compareOp op) r) (ha:PE X a ta) (hb:PE X b tb) (hm:behindInMarks op b=false):PE X (.Compare a [op] [b] pos) (tOp r ta tb):=by
 intro pins s σ H Q I h
 exact wpAny_Compare1 (zsy ha hb I h fun v u s2 x y H2 I2 rx ry q=>ho pins s2 σ H2 x y v u Q I2 rx ry q) hm
noncomputable def zr9 (t:TE):TT:=fun σ H Q=>t σ H fun x H'=> ∃ k,x= .bl k/\Q k H'
theorem znV {op:CmpOp} {r:R2} (ho:OpR X (compareOp op) r) (ha:PE X a ta) (hb:PE X b tb) (hm:behindInMarks op b=false):PT X (.Compare a [op] [b] pos) (zr9 (tOp r ta tb)):=by
 intro pins s σ H Q I h
 refine wpAny_isTrue_Compare1 (thn (ha pins s σ H _ I h) fun v s1 ⟨x,H1,I1,r1,q1⟩=>thn (hb pins s1 σ H1 _ I1 q1) fun u s2 ⟨y,H2,I2,r2,q2⟩=>
   thn (ho pins s2 σ H2 x y v u _ I2 r1 r2 q2) fun c s3 ⟨z,H3,I3,r3,k,e,q3⟩=> ?_) hm
 subst e
 cases r3
 exact wpAny_truthy_bool ⟨H3,I3,q3⟩
def zsU (K:W.Frag) (x:V) (H:Hp) (k:Bool):Prop:=
 match x with
 | .non=>k=false
 | .bl b=>k=b
 | .int i=>k=(i != 0)
 | .str y=>y.length<=sizeLine/\k=((y.length:Int) != 0)
 | .byt y=>y.size<=sizeLine/\k=((y.size:Int) != 0)
 | .ref p=>(∃ xs,SqL K H p xs/\k= !xs.isEmpty)\/(∃ xs,SqT K H p xs/\k= !xs.isEmpty)\/ ∃ kvs,H p=some (.dK kvs)/\k= !kvs.isEmpty
 | _=>False
theorem zjg {κ:Type} {kvs:List (κ×V)} {vs:List (κ×Value)} (r:KV kvs vs):(!vs.isEmpty)= !kvs.isEmpty:=by
 cases r<;>rfl
theorem zfx {xs:List V} {its:List Value} (r:za6 xs its):(!its.toArray.isEmpty)= !xs.isEmpty:=by
 cases r<;>simp
theorem zhb:(sizeLine:Nat)<2^63:=by rw [sizeLine_eq];decide
theorem zq4:zto X (fun x H Q=> ∃ k,zsU X.K x H k/\Q k H):=by
 intro pins s σ H x v Q I rx h
 obtain ⟨k,e,q⟩:=h
 have hl:=zhb
 have hs:sizeLine=16777216:=sizeLine_eq
 cases x with
 | non=>
  cases rx
  have e':k=false:=e
  subst e'
  exact truthy_none ⟨H,I,q⟩
 | bl b=>
  cases rx
  have e':k=b:=e
  subst e'
  exact wpAny_truthy_bool ⟨H,I,q⟩
 | int i=>
  obtain ⟨t,rfl⟩:=rx
  have e':k=(i != 0):=e
  subst e'
  exact PySem.P.truthy_int ⟨H,I,q⟩
 | str y=>
  obtain ⟨t,rfl⟩:=rx
  obtain ⟨hy,e'⟩:y.length<=sizeLine/\k=((y.length:Int) != 0):=e
  subst e'
  exact PySem.P.truthy_str (by omega) ⟨H,I.tok _,q⟩
 | byt y=>
  obtain ⟨t,rfl⟩:=rx
  obtain ⟨hy,e'⟩:y.size<=sizeLine/\k=((y.size:Int) != 0):=e
  subst e'
  exact W.truthy_bytes (by omega) ⟨H,I.tok _,q⟩
 | ref p=>
  cases rx
  have e':(∃ xs,SqL X.K H p xs/\k= !xs.isEmpty)\/(∃ xs,SqT X.K H p xs/\k= !xs.isEmpty)\/ ∃ kvs,H p=some (.dK kvs)/\k= !kvs.isEmpty:=e
  rcases e' with ⟨xs,hx,e'⟩ | ⟨xs,hx,e'⟩ | ⟨kvs,hx,e'⟩
  ·subst e'
   obtain ⟨its,r,pl,hz⟩:=I.list hx
   have hlen:=r.length
   exact wpAny_truthy_list pl.isList (by simp only [qaA];omega) ⟨H,I.tok _,by rw [zfx r];exact q⟩
  ·subst e'
   obtain ⟨its,r,pl,hz⟩:=I.tuple hx
   have hlen:=r.length
   exact truthy_tuple pl (by simp only [qaA];omega) ⟨H,I.tok _,by rw [zfx r];exact q⟩
  ·subst e'
   obtain ⟨hz,hS,vs,r,m⟩:kvs.length<=sizeLine/\(p==sysModules)=false/\ ∃ vs,KV kvs vs/\s.heap.DictOf (zhL X.prog X.w) p vs:=I.hok p _ hx
   have hlen:kvs.length=vs.length:=Paired.length r
   exact wpAny_truthy_dict hS m (by omega) ⟨H,I.tok _,by rw [zjg r];exact q⟩
 | _=>exact (show False from e).elim
theorem zl1 (ha:PE X a ta) (he: ∀ whole,isTrue a X.env whole=(do let v<-whole;standAt a.pos;holding [v] (truthy v))):
  PT X a (fun σ H Q=>ta σ H fun x H'=> ∃ k,zsU X.K x H' k/\Q k H'):=by
 intro pins s σ H Q I h
 exact isTrue_plain (thn (ha pins s σ H _ I h) fun v s1 ⟨x,H1,I1,r1,q1⟩=>zq4 pins s1 σ H1 x v Q I1 r1 q1) (he _)
theorem ziN:OpR X (binaryOp .Add) (fun x y H Q=> ∃ i j,x= .str i/\y= .str j/\i.length+j.length<=sizeLine/\Q (.str (i++j)) H):=by
 intro pins s σ H x y v u Q I rx ry h
 obtain ⟨i,j,rfl,rfl,hz,q⟩:=h
 obtain ⟨t,rfl⟩:=rx
 obtain ⟨t',rfl⟩:=ry
 exact add_str (fun t' tk=>⟨.str (i++j),H,I.tok _,⟨_,rfl⟩,q⟩) hz
theorem zeB {x:V} {us:List Value} (r:za6 [x] us): ∃ u,us=[u]/\zcf x u:=by
 cases r with
 | cons r1 r2=>cases r2;exact ⟨_,rfl,r1⟩
theorem zqs {x y:V} {us:List Value} (r:za6 [x,y] us): ∃ u w',us=[u,w']/\zcf x u/\zcf y w':=by
 cases r with
 | cons r1 r2=>
  cases r2 with
  | cons r3 r4=>cases r4;exact ⟨_,_,rfl,r1,r3⟩
theorem zjv (hc:X.calm=true):za0 X (.builtin "max") (fun xs H Q=> ∃ i j,xs=[.int i,.int j]/\Q (.int (if j>i then j else i)) H):=by
 intro pins s σ H xs us Q I r h
 obtain ⟨i,j,rfl,q⟩:=h
 obtain ⟨u,w',rfl,⟨t,rfl⟩,⟨t',rfl⟩⟩:=zqs r
 refine max_two_ints (I.ok.hd hc) fun h' tk k=>⟨_,H,I.kept k,?_,q⟩
 by_cases hj:j>i
 ·rw [qa4 hj,qa4 hj];exact ⟨_,rfl⟩
 ·rw [qa5 hj,qa5 hj];exact ⟨_,rfl⟩
theorem zj7 (hc:X.calm=true):za0 X (.builtin "min") (fun xs H Q=> ∃ i j,xs=[.int i,.int j]/\Q (.int (if j<i then j else i)) H):=by
 intro pins s σ H xs us Q I r h
 obtain ⟨i,j,rfl,q⟩:=h
 obtain ⟨u,w',rfl,⟨t,rfl⟩,⟨t',rfl⟩⟩:=zqs r
 refine min_two_ints (I.ok.hd hc) fun h' tk k=>⟨_,H,I.kept k,?_,q⟩
 by_cases hj:j<i
 ·rw [qa4 hj,qa4 hj];exact ⟨_,rfl⟩
 ·rw [qa5 hj,qa5 hj];exact ⟨_,rfl⟩
theorem zkk:za0 X (.type "int") (fun xs H Q=>(∃ i,xs=[.int i]/\Q (.int i) H)\/ ∃ k,xs=[.bl k]/\Q (.int (if k then 1 else 0)) H):=by
 intro pins s σ H xs us Q I r h
 rcases h with ⟨i,rfl,q⟩ | ⟨k,rfl,q⟩
 ·obtain ⟨u,rfl,t,rfl⟩:=zeB r
  exact call_int_int ⟨.int i,H,I,⟨_,rfl⟩,q⟩
 ·obtain ⟨u,rfl,r1⟩:=zeB r
  cases r1
  exact call_int_bool ⟨.int (if k then 1 else 0),H,I.tok _,⟨_,rfl⟩,q⟩
end
structure zrA (h:Heap) (x dx C:Addr) (mA:Str->Option Value):Prop where
 obj:h.get? x=some (W.instObj C dx)
 ns:h.Ns1 dx mA
 ne:dx≠x
theorem zkN {h:Heap} {dx:Addr} {mA:Str->Option Value} (n:h.Ns1 dx mA): ∃ od,h.get? dx=some od/\ ∀ name,W.lookIn name od=some (mA name):=by
 obtain ⟨o,es,ep,ho,hd,hk,_,hm⟩:=n
 refine ⟨o,ho,fun name=> ?_⟩
 have e:=hm name
 unfold nsFind findBy at e
 rw [<- Array.find?_toList] at e
 unfold W.lookIn
 rw [hd]
 dsimp only
 split
 ·rename_i y q
  rw [q] at e
  exact congrArg some e
 ·rename_i q
  rw [q] at e
  have a:es.toList.any (·.refKey)=false:=by
   rw [List.any_eq_false]
   intro y hy
   obtain ⟨z,t,hkey⟩:=hk y (Array.mem_toList_iff.mp hy)
   simp [DictEntry.refKey,hkey]
  have a': ¬es.toList.any (·.refKey)=true:=by rw [a];exact Bool.false_ne_true
  rw [qa5 a']
  exact congrArg some e
theorem zrA.look {h:Heap} {x dx C:Addr} {mA:Str->Option Value} (I:zrA h x dx C mA): ∃ od,W.InstAt h x (W.instObj C dx) C (some od)/\ ∀ name,W.lookIn name od=some (mA name):=
 let ⟨od,ho,hl⟩:=zkN I.ns
 ⟨od,⟨I.obj,rfl,rfl,ho⟩,hl⟩
section
variable {prog:Program} {w:World} {A:Around} {E:Value->Shared->Prop} {s:Shared} {K:W.Frag} {x dx C f:Addr} {mA:Str->Option Value} {name:Str} {v:Value}
end
section
variable {P:Program} {w:World} {H H':Hp} {h h':Heap} {a C dx:Addr} {fs fs':List (Str×V)}
theorem znP (hok:HOk P w H h) (e:H a=some (.ins C dx fs)): ∃ mA,zrA h a dx C mA/\(∀ f,zrM (fs.lookup f) (mA f))/\PySem.Within mA (fs.map (·.1))/\fs.length<=1000/\H dx=some (.own a):=by
 obtain ⟨d,z,ne,ob,mA,n,r,q⟩:=(show zbR P w H h a (.ins C dx fs) from hok a _ e)
 exact ⟨mA,⟨ob,n,ne⟩,r,q,z,d⟩
end
structure Cls (K:W.Frag) (C:Addr):Prop where
 pg:W.plainGet K C Str.empty=true
 hd:W.hasDictIn K C=true
 po:W.plainOver K C=true
 sa:W.findIn K (.ref C) "__setattr__"=some (some (.builtin "object.__setattr__"))
theorem Cls.get {K:W.Frag} {C:Addr} (c:Cls K C) (f:Str):W.plainGet K C f=true:=c.pg
structure Con (K:W.Frag) (C:Addr) (f:Str) (v:V) (u:Value):Prop where
 at_:W.findIn K (.ref C) f=some (some u)
 rel:zcf v u
 get:W.specialIn K u "__get__"=some none
 cp:W.copiedNames.contains f=false
structure ztC (K:W.Frag) (C:Addr) (m:Str) (f:Addr):Prop where
 at_:W.findIn K (.ref C) m=some (some (.ref f))
 fn:W.isFn K (.ref f)=true
 kp:W.keepIn K (.ref f)=true
section
variable {X:Cx} {pins:List (Addr×Obj)} {σ:St} {H:Hp} {s:Shared} {a C dx:Addr} {fs:List (Str×V)} {f:Str} {v:V} {A:Around} {E:Value->Shared->Prop}
theorem Inv.made (I:Inv X pins σ H s):Inv X pins σ (upd (upd H s.heap.objs.size (.own (s.heap.objs.size+1))) (s.heap.objs.size+1) (.ins C s.heap.objs.size []))
  {s with heap:=(s.heap.push W.emptyDict).push (W.instObj C s.heap.objs.size)}:=by
 have e1:(s.heap.push W.emptyDict).get? s.heap.objs.size=some W.emptyDict:=qar s.heap rfl
 have e2:((s.heap.push W.emptyDict).push (W.instObj C s.heap.objs.size)).get? (s.heap.objs.size+1)=some (W.instObj C s.heap.objs.size):=by
  have:=qar (s.heap.push W.emptyDict) (o:=W.instObj C s.heap.objs.size) rfl
  rwa [qaL] at this
 have e3:(s.heap.push W.emptyDict).Ns s.heap.objs.size (fun _=>none):=⟨W.emptyDict, #[],_,e1,rfl,(fun e he=>absurd he (by simp)),fun _=>rfl⟩
 have I1:=I.laid (a:=s.heap.objs.size) (o:= .own (s.heap.objs.size+1)) (h':=s.heap.push W.emptyDict) (t':=s.toks) (fun b u q=>qag _ q) (qaV _) ⟨_,e1⟩
 refine I1.laid (a:=s.heap.objs.size+1) (o:= .ins C s.heap.objs.size []) (t':=s.toks) (fun b u q=>qag _ q) (Nat.le_of_eq (qaL _ _)) ?_
 have ne:s.heap.objs.size≠s.heap.objs.size+1:=qaR (Nat.lt_succ_self _)
 refine ⟨by rw [zaG ne,zaR],Nat.zero_le _,ne,e2,fun _=>none,(Heap.Ns1.of_empty e3).at fun o q=>qag _ q,fun _=>True.intro,fun y hy=>absurd rfl hy⟩
end
section
variable {X:Cx} {o e value:Expr} {f:Str} {pos pos' tpos:Pos} {ta tv:TE}
end
section
variable {X:Cx} {pins:List (Addr×Obj)} {σ:St} {H:Hp} {s:Shared} {A:Around} {E:Value->Shared->Prop} {Q:Value->Shared->Prop} {c:Value} {b:Bool}
inductive zid (K:W.Frag) (H:Hp):V->Value->Prop where
 | non:zid K H .non (.type "NoneType")
 | bl (x:Bool):zid K H (.bl x) (.type "bool")
 | int (i:Int):zid K H (.int i) (.type "int")
 | str (x:Str):zid K H (.str x) (.type "str")
 | flt (x:UInt64):zid K H (.flt x) (.type "float")
 | lst {a:Addr} {xs:List V} (e:H a=some (.lst xs)):zid K H (.ref a) (.type "list")
 | frz {a:Addr} {o:Obj} {xs:List V} (e:H a=some (.frz o (.lst xs))):zid K H (.ref a) (.type "list")
 | tup {a:Addr} {xs:List V} (e:H a=some (.tup xs)):zid K H (.ref a) (.type "tuple")
 | dK {a:Addr} {kvs:List (Key×V)} (e:H a=some (.dK kvs)):zid K H (.ref a) (.type "dict")
 | dT {a:Addr} {kvs:List (List Key×V)} (e:H a=some (.dT kvs)):zid K H (.ref a) (.type "dict")
 | ins {a C dx:Addr} {fs:List (Str×V)} (e:H a=some (.ins C dx fs)) (cl:Cls K C) (ha:W.findIn K (.ref C) "__class__"=some (some (.builtin "object.__class__")))
   (hn:W.specialIn K (.builtin "object.__class__") "__get__"=some (some (.builtin "getset_descriptor.__get__"))) (htk:W.takesIn K (.builtin "object.__class__")=some true)
   (hm:W.mroIn K C (.type "object")=some true):zid K H (.ref a) (.ref C)
theorem zlh {x:V} {u t:Value} (I:Inv X pins σ H s) (rx:zcf x u) (ty:zid X.K H x t) (e:W.kitOne X.K t c=some b) (h: ∀ tk,Q (.bool b) {s with toks:=tk}):
  wpAny (model X.prog X.w) A (call (.builtin "isinstance") [u,c]) Q E s:=by
 cases ty with
 | non=>cases (show u=Value.none from rx);exact W.kia_one W.kitx_none I.kIn True.intro e (fun z=>nomatch z) h
 | bl y=>cases (show u=Value.bool y from rx);exact W.kia_one W.kitx_bool I.kIn True.intro e (fun z=>nomatch z) h
 | int i=>obtain ⟨t,q⟩:=(show ∃ t,u=Value.int i t from rx);cases q;exact W.kia_one W.kitx_int I.kIn True.intro e (fun z=>nomatch z) h
 | str y=>obtain ⟨t,q⟩:=(show ∃ t,u=Value.str y t from rx);cases q;exact W.kia_one W.kitx_str I.kIn True.intro e (fun z=>nomatch z) h
 | flt y=>obtain ⟨t,q⟩:=(show ∃ t,u=Value.float y t from rx);cases q;exact W.kia_one W.kitx_float I.kIn True.intro e (fun z=>nomatch z) h
 | @lst a xs ea=>
  cases (show u=Value.ref a from rx)
  obtain ⟨_,_,n,_,h1⟩:=(show zbR X.prog X.w H s.heap a (.lst xs) from I.hok a _ ea)
  exact W.kia_one W.kitx_list I.kIn ⟨_,h1,rfl⟩ e (fun z=>nomatch z) h
 | @frz a ob xs ea=>
  cases (show u=Value.ref a from rx)
  obtain ⟨_,_,_,n,_,h1⟩:=(show zbR X.prog X.w H s.heap a (.frz ob (.lst xs)) from I.hok a _ ea)
  exact W.kia_one W.kitx_list I.kIn ⟨_,h1,rfl⟩ e (fun z=>nomatch z) h
 | @tup a xs ea=>
  cases (show u=Value.ref a from rx)
  obtain ⟨_,_,_,p⟩:=(show zbR X.prog X.w H s.heap a (.tup xs) from I.hok a _ ea)
  obtain ⟨o,h1,h2,_⟩:=p
  exact W.kia_one W.kitx_tuple I.kIn ⟨o,h1,h2⟩ e (fun z=>nomatch z) h
 | @dK a kvs ea=>
  cases (show u=Value.ref a from rx)
  obtain ⟨_,_,vs,_,p⟩:=(show zbR X.prog X.w H s.heap a (.dK kvs) from I.hok a _ ea)
  obtain ⟨o,es,ep,h1,h2,_⟩:=p
  exact W.kia_one W.kitx_dict I.kIn ⟨o,h1,h2.1⟩ e (fun z=>nomatch z) h
 | @dT a kvs ea=>
  cases (show u=Value.ref a from rx)
  obtain ⟨_,_,xs,_,o,es,ep,h1,h2,_⟩:=(show zbR X.prog X.w H s.heap a (.dT kvs) from I.hok a _ ea)
  exact W.kia_one W.kitx_dict I.kIn ⟨o,h1,h2.1⟩ e (fun z=>nomatch z) h
 | @ins a C dx fs ea cl ha hn htk hm=>
  cases (show u=Value.ref a from rx)
  obtain ⟨mA,O,_⟩:=znP I.hok ea
  obtain ⟨od,J,_⟩:=O.look
  exact W.kia_one (W.kitx_own (cl.get _) cl.hd ha hn htk hm) I.kIn J e (fun z=>nomatch z) h
end
structure zej (k:Nat) (A:Around):Prop where
 hd:A.handled=none
 dp:A.depth+3*k+5<recursionLimit
 un:A.units+16*k+200<cLine
theorem zej.mono {j k:Nat} {A:Around} (r:zej k A) (h:j<=k):zej j A:=⟨r.hd,by have:=r.dp;omega,by have:=r.un;omega⟩
theorem zej.deeper {k:Nat} {A:Around} (r:zej (k+1) A) (env:Env):zej k (A.deeper env):=
 ⟨r.hd,by have:=r.dp;show A.depth+1+3*k+5<_;omega,by have:=r.un;show A.units+3+16*k+200<_;omega⟩
theorem zej.in1 {k:Nat} {A:Around} (r:zej (k+1) A):zej k A.in1:=
 ⟨r.hd,by have:=r.dp;show A.depth+3*k+5<_;omega,by have:=r.un;show A.units+1+16*k+200<_;omega⟩
theorem zej.depth {k:Nat} {A:Around} (r:zej k A):A.depth<recursionLimit:=by have:=r.dp;omega
theorem zej.units {k:Nat} {A:Around} (r:zej k A):A.units+64<cLine:=by have:=r.un;omega
noncomputable def zs7:TA:=fun _ H Q=>Q [] H
noncomputable def zsA (ta:TE) (tr:TA):TA:=fun σ H Q=>ta σ H fun x H1=>tr σ H1 fun xs H2=>Q (x::xs) H2
section
variable {X:Cx} {e:Expr} {es:List Expr} {te:TE} {t:TA} {pos:Pos}
theorem zcM:PA X [] zs7:=fun _ _ _ _ H Q I h=>Calls.spliced_nil ⟨[],H,I,.nil,h⟩
theorem zbE (ha:PE X e te) (hr:PA X es t) (hs:starEach (e::es) X.env=(false,eval e X.env)::starEach es X.env:=by rfl):PA X (e::es) (zsA te t):=by
 intro pos pins s σ H Q I h
 rw [hs]
 show wpAny _ _ (spliced ((false,eval e X.env)::backTo pos (starEach es X.env))) _ _ s
 refine Calls.spliced_cons (thn (ha pins s σ H _ I h) fun u s1 ⟨x,H1,I1,r1,q1⟩=> ?_)
 exact thn (hr pos pins s1 σ H1 _ I1 q1) fun us s2 ⟨xs,H2,I2,r2,q2⟩=>⟨x::xs,H2,I2,.cons r1 r2,q2⟩
noncomputable def ztz (t:TA):TE:=fun σ H Q=>t σ H fun xs H1=>xs.length<=sizeLine/\ ∀ p,H1 p=none->Q (.ref p) (upd H1 p (.tup xs))
noncomputable def zmz (t:TA):TE:=fun σ H Q=>t σ H fun xs H1=>xs.length<=sizeLine/\ ∀ p,H1 p=none->Q (.ref p) (upd H1 p (.lst xs))
theorem zpA {x1} (h:PA X es t):PE X (.Tuple es x1 pos) (ztz t):=by
 intro pins s σ H Q I hq
 refine wpAny_Tuple_spliced (thn (h pos pins s σ H _ I hq) fun us s1 ⟨xs,H1,I1,r,z,q⟩=>⟨by rw [<- r.length];exact z,?_⟩)
 have hf:H1 s1.heap.objs.size=none:=I1.hok.fresh (qaV _)
 refine ⟨.ref s1.heap.objs.size,upd H1 s1.heap.objs.size (.tup xs),I1.laid (t':=s1.toks) (fun b u e=>qag _ e) (qaV _) ?_,rfl,q _ hf⟩
 exact ⟨z,us,r,⟨_,qar _ rfl,rfl,_,rfl⟩⟩
theorem zjL (h:PA X es t):PE X (.List es pos) (zmz t):=by
 intro pins s σ H Q I hq
 refine wpAny_List_spliced (thn (h pos pins s σ H _ I hq) fun us s1 ⟨xs,H1,I1,r,z,q⟩=>⟨by rw [<- r.length];exact z,?_⟩)
 have hf:H1 s1.heap.objs.size=none:=I1.hok.fresh (qaV _)
 refine ⟨.ref s1.heap.objs.size,upd H1 s1.heap.objs.size (.lst xs),I1.laid (t':=s1.toks) (fun b u e=>qag _ e) (qaV _) ?_,rfl,q _ hf⟩
 exact ⟨z,us,0,r,qar _ rfl⟩
end
noncomputable abbrev Sp:=List V->Hp->VK->XK->Prop
noncomputable abbrev CXT:=List Env->Hp->Shared->XK->Value->Shared->Prop
structure zm7 (P:Program) (w:World) (K:W.Frag) (mg:Str->Option Value) (base:Heap) (A:Around) (outer:List Env) (s:Shared) (H:Hp):Prop where
 frames:A.frames=some outer
 mod:Mod K mg base
 bs: ∀ b o,base.get? b=some o->s.heap.get? b=some o/\H b=none
 bsz:base.objs.size<=s.heap.objs.size
 funs:s.heap.FunFrames base outer
 frf: ∀ b∈frs outer,H b=none
 hok:HOk P w H s.heap
 bare:AllBare s.gens
 hand:zhg A H
def CE (outer:List Env) (P:Program) (w:World) (H:Hp) (s:Shared) (Q:VK) (u:Value) (s':Shared):Prop:=
 ∃ v H',s'.os=s.os/\AllBare s'.gens/\Un (frs outer) [] H H' s.heap s'.heap/\HOk P w H' s'.heap/\zcf v u/\Q v H'
def CR (CX:CXT) (outer:List Env) (P:Program) (w:World) (H:Hp) (s:Shared) (Q:VK) (E:XK) (r:Result) (s':Shared):Prop:=
 match r with
 | .ok (.ret u)=>CE outer P w H s Q u s'
 | .ok _=>False
 | .error e=>CX outer H s E e s'
structure zbM (P:Program) (w:World) (K:W.Frag) (mg:Str->Option Value) (base:Heap) (CX:CXT) (k:Nat) (f:Addr) (fd:FuncData) (ps:List Str) (sp:Sp):Prop where
 len: ∀ vs H Q E,sp vs H Q E->vs.length=ps.length
 run: ∀ (A:Around) (outer:List Env) (s:Shared) (H:Hp) (args:Args) (us:List Value) (vs:List V) (Q:VK) (E:XK),zej k A->zm7 P w K mg base A outer s H->BindsTo s fd args (ps.zip us)->za6 vs us->sp vs H Q E->
  codeAny (model P w) A (.call (.ref f) args) (CR CX outer P w H s Q E) s
theorem zbM.mono {P:Program} {w:World} {K:W.Frag} {mg:Str->Option Value} {base:Heap} {CX:CXT} {j k:Nat} {f:Addr} {fd:FuncData} {ps:List Str} {sp:Sp} (F:zbM P w K mg base CX j f fd ps sp) (h:j<=k):
  zbM P w K mg base CX k f fd ps sp:=⟨F.len,fun A outer s H args us vs Q E hr=>F.run A outer s H args us vs Q E (hr.mono h)⟩
theorem zbM.imp {P:Program} {w:World} {K:W.Frag} {mg:Str->Option Value} {base:Heap} {CX:CXT} {k:Nat} {f:Addr} {fd:FuncData} {ps:List Str} {sp sp':Sp} (F:zbM P w K mg base CX k f fd ps sp)
  (h: ∀ vs H Q E,sp' vs H Q E->sp vs H Q E):zbM P w K mg base CX k f fd ps sp':=
 ⟨fun vs H Q E q=>F.len vs H Q E (h _ _ _ _ q),fun A outer s H args us vs Q E hr he hb hv hs=>F.run A outer s H args us vs Q E hr he hb hv (h _ _ _ _ hs)⟩
theorem zm7.in1 {P:Program} {w:World} {K:W.Frag} {mg:Str->Option Value} {base:Heap} {A:Around} {outer:List Env} {s:Shared} {H:Hp} (e:zm7 P w K mg base A outer s H):
  zm7 P w K mg base A.in1 outer s H:=⟨e.frames,e.mod,e.bs,e.bsz,e.funs,e.frf,e.hok,e.bare,e.hand⟩
section
variable {X:Cx} {pins:List (Addr×Obj)} {σ:St} {H:Hp} {s s':Shared}
theorem Inv.env0 (I:Inv X pins σ H s):zm7 X.prog X.w X.K X.mg X.base X.A X.stack s H:=
 ⟨I.ok.frames,I.ok.mod,I.bs,qaS I.ok.bsz I.sz,I.stack,I.stkFree,I.hok,I.bare,I.handA⟩
theorem Inv.after {Q:VK} {u:Value} (I:Inv X pins σ H s) (h:CE X.stack X.prog X.w H s Q u s'):EP X pins σ Q u s':=by
 obtain ⟨v,H',os,bare,un,hok,r,q⟩:=h
 obtain ⟨hh,g,d,t,os'⟩:=s'
 obtain rfl:os'=s.os:=os
 exact ⟨v,H',I.call (h':=hh) (g':=g) (d':=d) (t':=t) (ch:=[]) un hok bare (fun b z=>absurd z (by simp)),r,q⟩
end
noncomputable def zsn (sp:Sp) (dvs:List V) (E:XK) (t:TA):TE:=fun σ H Q=>t σ H fun vs H1=>sp (vs++dvs) H1 Q E
def zaX (K:W.Frag) (fd:FuncData) (ps:List Str) (ds:List Value):Prop:=
 ∀ (s:Shared) (us:List Value),K.In s.heap->(us++ds).length=ps.length->BindsTo s fd ⟨us,[]⟩ (ps.zip (us++ds))
theorem zaX.all {K:W.Frag} {fd:FuncData} {ps:List Str} (h: ∀ us:List Value,us.length=ps.length->bindArgs fd ⟨us,[]⟩=pure (ps.zip us)):zaX K fd ps []:=fun s us _ hl=>by
 rw [List.append_nil] at hl ⊢
 exact .of_eq (h us hl)
def zgA (CX:CXT) (X:Cx) (E:XK):Prop:= ∀ (pins:List (Addr×Obj)) (σ:St) (H:Hp) (s:Shared) (e:Value) (s':Shared),Inv X pins σ H s->CX X.stack H s E e s'->X.xe e s'
section
variable {X:Cx} {CX:CXT} {k:Nat} {f C:Addr} {fd:FuncData} {ps:List Str} {sp:Sp} {dvs:List V} {ds:List Value} {E:XK} {x m:Str} {p pos apos:Pos} {e o:Expr} {es:List Expr} {ta:TE} {t:TA}
theorem zmT {pins:List (Addr×Obj)} {σ:St} {H:Hp} {s:Shared} {Q:VK} {us:List Value} {vs:List V} (F:zbM X.prog X.w X.K X.mg X.base CX k f fd ps sp) (hr:zej k X.A) (hb:zaX X.K fd ps ds) (hd:za6 dvs ds) (hx:zgA CX X E)
  (I:Inv X pins σ H s) (r:za6 vs us) (h:sp (vs++dvs) H Q E):wpAny (model X.prog X.w) X.A (call (.ref f) us) (EP X pins σ Q) X.xe s:=by
 have r2:za6 (vs++dvs) (us++ds):=r.append hd
 have hl:(us++ds).length=ps.length:=by rw [<- r2.length];exact F.len _ _ _ _ h
 refine wpAny_call (codeAny_mono (F.run X.A X.stack s H ⟨us,[]⟩ (us++ds) (vs++dvs) Q E hr I.env0 (hb s us I.kIn hl) r2 h) fun r s' hq=> ?_)
 cases r with
 | error e=>exact hx pins σ H s e s' I hq
 | ok fl=>
  cases fl with
  | ret u=>exact I.after hq
  | next=>exact qa0 hq
  | brk=>exact qa0 hq
  | cont=>exact qa0 hq
theorem zoy (F:zbM X.prog X.w X.K X.mg X.base CX k f fd ps sp) (hr:zej k X.A) (hg:Gl X x) (hm:X.mg x=some (.ref f)) (hk:W.keepIn X.K (.ref f)=true) (hb:zaX X.K fd ps ds) (hd:za6 dvs ds) (hx:zgA CX X E)
  (ha:PA X (e::es) t) (hdb:(x==("__debug__":Str))=false:=by decide) (he:starEach (e::es) X.env=(false,eval e X.env)::starEach es X.env:=by rfl) (hpl:(backTo pos (starEach es X.env)).any (·.1)=false:=by rfl):
  PE X (.Call (.Name x p) (e::es) [] pos) (zsn sp dvs E t):=by
 intro pins s σ H Q I h
 refine wpAny_Call_Name_kw (zkf I hg hm ?_ hdb)
 refine W.callWith_K (h₀:=X.base) I.ok.mod.kin hk (thn (ha pos pins s σ H _ I h) fun us s1 ⟨vs,H1,I1,r,q⟩=>⟨I1.kIn,?_⟩) he hpl
 exact zmT F hr hb hd hx I1 r q
structure Mk (K:W.Frag) (C f:Addr):Prop where
 makes:W.makesIn K C=true
 init:W.findIn K (.ref C) "__init__"=some (some (.ref f))
 fn:W.isFn K (.ref f)=true
 kp:W.keepIn K (.ref C)=true
end
section
variable {X:Cx} {CX:CXT} {k:Nat} {f C:Addr} {fd:FuncData} {ps ks:List Str} {sp:Sp} {E:XK} {x m:Str} {p pos apos kpos:Pos} {e o:Expr} {es:List Expr} {kws:List Keyword} {te ta:TE} {t tk:TA} {nm:Option Str}
structure zsN (K:W.Frag) (fd:FuncData) (ps ks:List Str) (g:List Value->List Value->List Value) (gV:List V->List V->List V):Prop where
 to: ∀ (s:Shared) (us ws:List Value),K.In s.heap->(g us ws).length=ps.length->BindsTo s fd ⟨us,ks.zip ws⟩ (ps.zip (g us ws))
 rel: ∀ {vs:List V} {us:List Value} {zs:List V} {ws:List Value},za6 vs us->za6 zs ws->za6 (gV vs zs) (g us ws)
variable {g:List Value->List Value->List Value} {gV:List V->List V->List V}
end
structure zau (N P:List Str) (sc:Scope):Prop where
 kind:sc.kind= .function
 co:sc.isCoroutine=false
 gen:sc.isGenerator=false
 nd:N.Nodup
 pre:N.take P.length=P
 par: ∀ x∈P,sc.names.lookup x=some .local\/sc.names.lookup x=some .cell
 nofree: ∀ y∈sc.names,y.2≠ .free
theorem zgB {kindOf:Str->Option NameKind} {x:Str}: ∀ {binds:List (Str×Value)} {m:Str->Option Value},(∀ v,(x,v)∉binds)->bindL kindOf binds m x=m x
 | [],_,_=>rfl
 | (n,v)::r,m,h=>by
  unfold bindL
  rw [zgB fun w hw=>h w (qan _ hw)]
  split
  ·have:x≠n:=by rintro rfl;exact h v qau
   simp [this]
  ·rfl
theorem zgv {kindOf:Str->Option NameKind} {x:Str}: ∀ {binds:List (Str×Value)} {m:Str->Option Value},(∀ v,(x,v)∉binds)->bindC kindOf binds m x=m x
 | [],_,_=>rfl
 | (n,v)::r,m,h=>by
  unfold bindC
  rw [zgv fun w hw=>h w (qan _ hw)]
  split
  ·rfl
  ·have:x≠n:=by rintro rfl;exact h v qau
   simp [this]
theorem zgS {kindOf:Str->Option NameKind} {x:Str} {v:Value}: ∀ {P:List Str} {vs:List Value} {i:Nat} {m:Str->Option Value},P.Nodup->P[i]? = some x->vs[i]? = some v->kindOf x=some .local->
  bindL kindOf (P.zip vs) m x=some v
 | [],_,_,_,_,h,_,_=>by simp at h
 | _::_,[],_,_,_,_,h,_=>by simp at h
 | p::P,w::vs,0,m,nd,h1,h2,hk=>by
  simp at h1 h2;subst h1;subst h2
  show bindL kindOf ((p,w)::P.zip vs) m p=_
  unfold bindL
  rw [zgB fun v hv=>(List.nodup_cons.mp nd).1 (List.of_mem_zip hv).1,qa4 hk]
  simp
 | p::P,w::vs,i+1,m,nd,h1,h2,hk=>by
  show bindL kindOf ((p,w)::P.zip vs) m x=_
  unfold bindL
  exact zgS (i:=i) (List.nodup_cons.mp nd).2 (by simpa using h1) (by simpa using h2) hk
theorem zgy {kindOf:Str->Option NameKind} {x:Str} {v:Value}: ∀ {P:List Str} {vs:List Value} {i:Nat} {m:Str->Option Value},P.Nodup->P[i]? = some x->vs[i]? = some v->kindOf x≠some .local->
  bindC kindOf (P.zip vs) m x=some v
 | [],_,_,_,_,h,_,_=>by simp at h
 | _::_,[],_,_,_,_,h,_=>by simp at h
 | p::P,w::vs,0,m,nd,h1,h2,hk=>by
  simp at h1 h2;subst h1;subst h2
  show bindC kindOf ((p,w)::P.zip vs) m p=_
  unfold bindC
  rw [zgv fun v hv=>(List.nodup_cons.mp nd).1 (List.of_mem_zip hv).1,qa5 hk]
  simp
 | p::P,w::vs,i+1,m,nd,h1,h2,hk=>by
  show bindC kindOf ((p,w)::P.zip vs) m x=_
  unfold bindC
  exact zgy (i:=i) (List.nodup_cons.mp nd).2 (by simpa using h1) (by simpa using h2) hk
noncomputable def zfr (N:List Str) (vs:List V):St:=vs.map some++List.replicate (N.length - vs.length) none
noncomputable def zov (CX:CXT) (P:Program) (w:World) (K:W.Frag) (mg:Str->Option Value) (base:Heap) (N:List Str) (qual:Str) (scope:Scope) (f:Addr) (cd:Value) (A:Around) (outer:List Env) (s:Shared) (H:Hp) (E:XK):Cx where
 prog:=P
 w:=w
 K:=K
 mg:=mg
 base:=base
 A:=A.deeper (envOfC qual scope s.heap.objs.size f cd)
 N:=N
 s₀:=s
 H₀:=H
 env:=envOfC qual scope s.heap.objs.size f cd
 outer:=outer
 stack:=envOfC qual scope s.heap.objs.size f cd::outer
 ex:=[]
 calm:=true
 fn:=fun _=>true
 pn:=[]
 xe:=fun e s'=>wpAny (model P w) (A.deeper (envOfC qual scope s.heap.objs.size f cd)) (leaving (envOfC qual scope s.heap.objs.size f cd) e) (fun _ s''=>CX outer H s E e s'') (fun e' s''=>CX outer H s E e' s'') s'
theorem ziA {sc:Scope} {n:Nat} {x:Str} (h:sc.names.lookup x=some .cell): ∃ c,(cellsFrom n sc.names []).lookup x=some c:=by
 have q:=W.cellsFrom_some sc.names n [] (.inl h)
 exact Option.isSome_iff_exists.mp q
theorem zjU {CX:CXT} {P:Program} {w:World} {K:W.Frag} {mg:Str->Option Value} {base:Heap} {N ps:List Str} {qual:Str} {scope:Scope} {f:Addr} {cd:Value} {A:Around} {outer:List Env} {s s1:Shared} {H:Hp} {E:XK} {us:List Value} {vs:List V}
  (S:zau N ps scope) {cm:Bool} (hd:cm=true->A.handled=none) (e0:zm7 P w K mg base A outer s H) (hl:vs.length=ps.length) (r:za6 vs us)
  (x:InCallC s s.heap.objs.size (bindL (envOfC qual scope s.heap.objs.size f cd).kindOf (ps.zip us) fun _=>none) (cellsFrom (s.heap.objs.size+1) scope.names []) (bindC (envOfC qual scope s.heap.objs.size f cd).kindOf (ps.zip us) fun _=>none) s1):
  Inv {zov CX P w K mg base N qual scope f cd A outer s H E with calm:=cm} [] (zfr N vs) H s1:=by
 have hpl:ps.length<=N.length:=by have:=congrArg List.length S.pre;rw [List.length_take] at this;omega
 obtain ⟨h1,tk,rfl,hk⟩:=x.done
 have noA: ∀ b:Addr,b∉(zov CX P w K mg base N qual scope f cd A outer s H E).ex:=fun b z=>absurd (show b∈([]:List Addr) from z) (by simp)
 refine ⟨⟨e0.mod,S.kind,rfl,rfl,qaV _,fun y z c h1 h2=> ?_,fun y hy=> ?_,fun y c _ h=> ?_,hd,e0.hand,Around.frames_deeper e0.frames,.inr ⟨rfl,rfl⟩,fun b z=>absurd z (noA b),e0.bs,e0.bsz,fun b _ _=>noA b,fun b z=>absurd z (noA b),e0.funs,e0.frf⟩,
   rfl,e0.bare,Un.kept hk,⟨_,x.toInCall.ns,fun i y v h1 h2 h3=> ?_⟩,fun y c h=>⟨_,x.cell y c h⟩,e0.hok.fresh (qaV _),fun y c h=> ?_,fun p hp=>absurd (show p∈([]:List (Addr×Obj)) from hp) (by simp),e0.hok.kept hk,?_⟩
 ·exact name_of_addr x.apart (PySem.mem_of_lookup h1) (PySem.mem_of_lookup h2)
 ·have hy:scope.names.lookup y=some .cell\/scope.names.lookup y=some .free:=hy
  rcases hy with hy | hy
  ·exact ziA hy
  ·exact absurd rfl (S.nofree _ (PySem.mem_of_lookup hy))
 ·exact Nat.le_of_lt (x.above y c (PySem.mem_of_lookup h))
 ·have hi:i<vs.length:=by
   unfold zfr at h2
   by_cases hi:i<vs.length
   ·exact hi
   ·rw [qaa (by simpa using hi)] at h2
    rw [List.getElem?_replicate] at h2
    split at h2<;>cases h2
  have ha:vs[i]? = some v:=by
   unfold zfr at h2
   rw [qad (by simpa using hi),List.getElem?_map] at h2
   cases e:vs[i]? with
   | none=>rw [e] at h2;cases h2
   | some a=>rw [e] at h2;cases h2;rfl
  obtain ⟨u,hu,rv⟩:=r.get ha
  have hp:ps[i]? = some y:=by
   rw [<- S.pre,List.getElem?_take_of_lt (by omega)];exact h1
  have ndP:ps.Nodup:=by rw [<- S.pre];exact S.nd.sublist (List.take_sublist _ _)
  refine ⟨u,rv,?_⟩
  rcases S.par y (List.mem_of_getElem? hp) with k | k
  ·exact .inl ⟨k,zgS ndP hp hu k⟩
  ·obtain ⟨c,e⟩:=ziA (n:=s.heap.objs.size+1) k
   refine .inr ⟨.inl k,c,e,?_⟩
   have q:=x.cell y c e
   rw [zgy ndP hp hu (by show scope.names.lookup y≠_;rw [k];decide)] at q
   exact q
 ·exact e0.hok.fresh (Nat.le_of_lt (x.above y c (PySem.mem_of_lookup h)))
 ·unfold zfr
  show _=N.length
  rw [qav,qaH,List.length_replicate]
  omega
theorem zrt {CX:CXT} {P:Program} {w:World} {K:W.Frag} {mg:Str->Option Value} {base:Heap} {k:Nat} {f:Addr} {name qual:Str} {params:Arguments} {body:List Stmt} {scope:Scope} {dV kV doc pm cdv ct oc:Value} {an od:Option Addr}
  {osl:Array (Option Value)} {N ps:List Str} {sp:Sp} (lk:K.lookup f=some ⟨oc,od,.func (W.fnOf name qual params body scope dV kV doc pm an cdv ct),osl⟩) (hcd:W.codeIn K cdv qual=true) (S:zau N ps scope)
  (len: ∀ vs H Q E,sp vs H Q E->vs.length=ps.length)
  (hbody: ∀ (A:Around) (outer:List Env) (s:Shared) (H:Hp) (vs:List V) (Q:VK) (E:XK),zej k (A.deeper (envOfC qual scope s.heap.objs.size f cdv))->sp vs H Q E->
    ∃ t,PSs (zov CX P w K mg base N qual scope f cdv A outer s H E) body t/\t {nx:=fun _ H'=>Q .non H',rt:=Q} (zfr N vs) H):
  zbM P w K mg base CX (k+1) f (W.fnOf name qual params body scope dV kV doc pm an cdv ct) ps sp:=by
 refine ⟨len,fun A outer s H args us vs Q E hr e0 hb r hsp=> ?_⟩
 have hl:=len _ _ _ _ hsp
 have KX:K.In s.heap:=e0.mod.kin.keeps fun b o e=>(e0.bs b o e).1
 have lim:s.heap.NoLimit:=e0.mod.nolimit.keeps fun b o e=>(e0.bs b o e).1
 have hkind: ∀ y∈ps.zip us,scope.names.lookup y.1=some .local\/(scope.names.lookup y.1=some .cell/\((cellsFrom (s.heap.objs.size+1) scope.names []).lookup y.1).isSome=true):=fun ⟨n,v⟩ hy=>by
  rcases S.par n (List.of_mem_zip hy).1 with q | q
  ·exact .inl q
  ·exact .inr ⟨q,W.cellsFrom_some _ _ _ (.inl q)⟩
 refine codeAny_call_function hr.depth (KX _ _ lk) rfl S.co S.gen rfl (W.codeRec_of KX hcd) (hb _ _ _ _ ?_)
 refine wpAny_newFunctionEnv_cells S.kind hkind fun env he s1 x=> ?_
 subst he
 refine ⟨lim.keeps x.toInCall.keep,codeAny_func ?_⟩
 obtain ⟨t,ht,hq⟩:=hbody A outer s H vs Q E (hr.deeper _) hsp
 have I:Inv (zov CX P w K mg base N qual scope f cdv A outer s H E) [] (zfr N vs) H s1:=zjU (cm:=true) S (fun _=>hr.hd) e0 hl r x
 refine qaZ (ht [] s1 (zfr N vs) H _ I hq) (fun fl s' hs=> ?_) fun e s' hs=>hs
 have fin: ∀ {σ':St} {H':Hp} {v:V} {u:Value},Inv (zov CX P w K mg base N qual scope f cdv A outer s H E) [] σ' H' s'->zcf v u->Q v H'->CE outer P w H s Q u s':=
  fun {σ' H' v u} J rv q=>⟨v,H',J.os,J.bare,J.base,J.hok,rv,q⟩
 cases fl with
 | ret u=>
  obtain ⟨v,σ',H',J,rv,q⟩:=hs
  exact fin J rv q
 | next=>
  obtain ⟨σ',H',J,q⟩:=hs
  exact fin (v:=V.non) (u:=Value.none) J rfl q
 | brk=>
  obtain ⟨_,_,_,q⟩:=hs
  exact qa0 q
 | cont=>
  obtain ⟨_,_,_,q⟩:=hs
  exact qa0 q
section
variable {X:Cx} {x:Str} {p pos:Pos} {e:Expr} {es:List Expr} {t:TA} {id T:String} {r:List V->Hp->VK->Prop}
noncomputable def tCB (r:List V->Hp->VK->Prop) (t:TA):TE:=fun σ H Q=>t σ H fun vs H1=>r vs H1 Q
theorem zfZ (hc:za0 X (.builtin id) r) (hg:Gl X x) (hm:X.mg x=none) (hv:bootBuiltins x=some (.builtin id)) (ha:PA X (e::es) t) (hn:x≠"__name__":=by decide) (hdb:(x==("__debug__":Str))=false:=by decide)
  (he:starEach (e::es) X.env=(false,eval e X.env)::starEach es X.env:=by rfl) (hpl:(backTo pos (starEach es X.env)).any (·.1)=false:=by rfl):PE X (.Call (.Name x p) (e::es) [] pos) (tCB r t):=by
 intro pins s σ H Q I h
 refine wpAny_Call_Name_kw (zfg I hg hm hv ?_ hn hdb)
 exact PyProof.Rows.callWith_builtin1 (thn (ha pos pins s σ H _ I h) fun us s1 ⟨vs,H1,I1,r1,q1⟩=>hc pins s1 σ H1 vs us Q I1 r1 q1) he hpl
theorem zcL (hc:za0 X (.type T) r) (hg:Gl X x) (hm:X.mg x=none) (hv:bootBuiltins x=some (.type T)) (ha:PA X (e::es) t) (hn:x≠"__name__":=by decide) (hdb:(x==("__debug__":Str))=false:=by decide)
  (he:starEach (e::es) X.env=(false,eval e X.env)::starEach es X.env:=by rfl) (hpl:(backTo pos (starEach es X.env)).any (·.1)=false:=by rfl):PE X (.Call (.Name x p) (e::es) [] pos) (tCB r t):=by
 intro pins s σ H Q I h
 refine wpAny_Call_Name_kw (zfg I hg hm hv ?_ hn hdb)
 exact PyProof.Rows.callWith_type1 (thn (ha pos pins s σ H _ I h) fun us s1 ⟨vs,H1,I1,r1,q1⟩=>hc pins s1 σ H1 vs us Q I1 r1 q1) he hpl
end
end L2
namespace HT
open PySem PyProof.Rows
section
open PySem.SeqAt
open PySem.AutoSeq1 (wpAny_loadPart')
open PySem.MeetsSeq PySem.MeetsSeq2 PySem.MeetsSeq3
end
section
variable {prog:Program} {w:World} {A:Around} {E:Value->Shared->Prop} {s:Shared}
theorem zoA {t b:Addr} {vs ws:List Value} {Q:Value->Shared->Prop} (ht:IsTup s.heap t vs.toArray) (hb:IsTup s.heap b ws.toArray) (hv:vs≠[])
  (h1:ws=[]->Q (.ref t) s) (h2:ws≠[]->Q (.ref s.heap.objs.size) {s with heap:=s.heap.push {cls:= .type "tuple",data:= .seq (vs++ws).toArray}})
  (hsz:vs.length+ws.length<=sizeLine):wpAny (model prog w) A (binaryOp .Add (.ref t) (.ref b)) Q E s:=by
 obtain ⟨⟨cls,dd,data,sl⟩,ho,hc,n,hd⟩:=id ht
 obtain ⟨⟨cls2,dd2,data2,sl2⟩,ho2,hc2,n2,hd2⟩:=id hb
 simp only at hc hd hc2 hd2
 subst hc hd hc2 hd2
 have e:vs.toArray++ws.toArray=(vs++ws).toArray:=by simp
 by_cases hw:ws=[]
 ·exact concat_meets ⟨_,ho,rfl⟩ ⟨_,ho2,rfl⟩ noFill_tuple_add seq_tuple_add PySem.F.slot_tuple_add PySem.F.entry_tuple_add (PySem.F.args_tuple_add_2 _ _)
   (tuple_addW1 t b vs.toArray ws.toArray n n2 dd dd2 sl sl2 (by simpa using hv) (by simp [hw])) ⟨ho,ho2,h1 hw⟩
 ·refine concat_meets ⟨_,ho,rfl⟩ ⟨_,ho2,rfl⟩ noFill_tuple_add seq_tuple_add PySem.F.slot_tuple_add PySem.F.entry_tuple_add (PySem.F.args_tuple_add_2 _ _)
   (tuple_addW2 t b vs.toArray ws.toArray n n2 dd dd2 sl sl2 (by simpa using hv) (by simpa using hw) (by rw [qaA,qaA];exact hsz)) ⟨ho,ho2,?_⟩
  rw [e]
  exact h2 hw
noncomputable def sIx (n d:Nat):Option Int->Nat
 | none=>d
 | some v=>if v<0 then (v+(n:Int)).toNat else min v.toNat n
theorem zk7 (n d k:Nat):sIx n d (some (k:Int))=min k n:=by
 show (if (k:Int)<0 then ((k:Int)+(n:Int)).toNat else min (k:Int).toNat n)=min k n
 rw [qa5 (by omega),qaB]
theorem zpC (n d:Nat) (hd:d<=n) (o:Option Int):sIx n d o<=n:=by
 cases o with
 | none=>exact hd
 | some v=>
  show (if v<0 then (v+(n:Int)).toNat else min v.toNat n)<=n
  by_cases hv:v<0
  ·rw [qa4 hv];omega
  ·rw [qa5 hv];exact Nat.min_le_right _ _
theorem zk9 (v:Int) (n d:Nat):(if v<0 then max (v+(n:Int)) 0 else min v (n:Int))=((sIx n d (some v):Nat):Int):=by
 show (if v<0 then max (v+(n:Int)) 0 else min v (n:Int))=(((if v<0 then (v+(n:Int)).toNat else min v.toNat n):Nat):Int)
 by_cases hv:v<0
 ·simp only [qa4 hv];omega
 ·simp only [qa5 hv];omega
theorem zje (lo hi:Option Int) (n:Nat):Builtin.Slice.sliceAdjust lo hi 1 (n:Int)=(((sIx n 0 lo:Nat):Int),((sIx n n hi:Nat):Int)):=by
 have h1: ¬((1:Int)<0):=by omega
 unfold Builtin.Slice.sliceAdjust
 simp only [h1,if_false]
 refine Prod.ext ?_ ?_
 ·cases lo with
  | none=>rfl
  | some v=>exact zk9 v n 0
 ·cases hi with
  | none=>rfl
  | some v=>exact zk9 v n n
theorem zi9 (i j:Nat):Builtin.Slice.slicePlaces (i:Int) (j:Int) 1=j - i:=by
 unfold Builtin.Slice.slicePlaces
 have h1:(1:Int)>0:=by omega
 simp only [h1,if_true,Int.ediv_one]
 split<;>omega
theorem zfB {v:Value} {o:Option Int} {Q:Option Int->Shared->Prop} (p:IsPart v o) (h:Q o s):wpAny (model prog w) A (Builtin.Slice.slicePartIndex v) Q E s:=by
 cases p with
 | none=>exact slicePart_none h
 | int i t=>exact slicePart_int h
theorem zc4 {sl:Addr} {vl vu:Value} {lo hi:Option Int} {n:Nat} {Q:Int×Int×Nat->Shared->Prop} (hs:s.heap.IsSliceOf sl vl vu .none) (pl:IsPart vl lo) (pu:IsPart vu hi)
  (h:Q (((sIx n 0 lo:Nat):Int),1,sIx n n hi - sIx n 0 lo) s):wpAny (model prog w) A (Builtin.Slice.sliceApplied (.ref sl) (pure (n:Int))) Q E s:=by
 obtain ⟨os,hos,hcs,hds⟩:=id hs
 unfold Builtin.Slice.sliceApplied Builtin.Slice.sliceFields
 refine qaW (qaW (wpAny_field hos hds (x:=vl) rfl (qaW (wpAny_field hos hds (x:=vu) rfl (qaW (wpAny_field hos hds (x:= .none) rfl (qaX ?_)))))))
 refine qaW (slicePart_none ?_)
 show wpAny _ _ (if ((1:Int)==0)=true then _ else _) _ _ s
 rw [qa5 (by decide)]
 refine qaW (zfB pl (qaW (zfB pu (qaW (qaX ?_)))))
 show wpAny _ _ (match Builtin.Slice.sliceAdjust lo hi 1 (n:Int) with | (lo,hi)=>pure (lo,(1:Int),Builtin.Slice.slicePlaces lo hi 1)) _ _ s
 rw [zje lo hi n]
 show wpAny _ _ (pure (((sIx n 0 lo:Nat):Int),(1:Int),Builtin.Slice.slicePlaces ((sIx n 0 lo:Nat):Int) ((sIx n n hi:Nat):Int) 1)) _ _ s
 rw [zi9]
 exact qaX h
theorem zl8 (xs:Array Value) (i k:Nat):((List.range k).filterMap fun (m:Nat)=>xs[((i:Int)+(m:Int)*1).toNat]?).toArray=((xs.toList.drop i).take k).toArray:=by
 have e:(fun (m:Nat)=>xs[((i:Int)+(m:Int)*1).toNat]?)=fun m=>xs[i+m]? := by
  funext m
  have:((i:Int)+(m:Int)*1).toNat=i+m:=by omega
  rw [this]
 rw [e]
 have:=pick_run xs i k
 rw [List.filterMap_map] at this
 have e2:((fun x=>xs[x]?)∘fun x=>i+x)=fun m=>xs[i+m]? := rfl
 rw [e2] at this
 rw [this]
theorem zep {t sl:Addr} {items:Array Value} {vl vu:Value} {lo hi:Option Int} {Q:Value->Shared->Prop} (ht:IsTup s.heap t items) (hs:s.heap.IsSliceOf sl vl vu .none) (pl:IsPart vl lo) (pu:IsPart vu hi)
  (hw: ¬(sIx items.size 0 lo=0/\sIx items.size items.size hi=items.size))
  (h:Q (.ref s.heap.objs.size) {s with heap:=s.heap.push {cls:= .type "tuple",data:= .seq ((items.toList.drop (sIx items.size 0 lo)).take (sIx items.size items.size hi - sIx items.size 0 lo)).toArray}})
  (hsz:items.size<=sizeLine):wpAny (model prog w) A (getItem (.ref t) (.ref sl)) Q E s:=by
 have htake:sizeOk (.seq ((items.toList.drop (sIx items.size 0 lo)).take (sIx items.size items.size hi - sIx items.size 0 lo)).toArray):=by
  show ((items.toList.drop (sIx items.size 0 lo)).take (sIx items.size items.size hi - sIx items.size 0 lo)).toArray.size<=sizeLine
  rw [qaA,List.length_take,List.length_drop,qas]
  omega
 have hj:sIx items.size items.size hi<=items.size:=zpC _ _ (qaV _) hi
 obtain ⟨os,hos,hcs,hds⟩:=id hs
 have hTs:s.TypeIs (.ref sl) "slice":=⟨os,hos,hcs⟩
 unfold getItem
 try with_reducible refine qaO ?_
 first | refine qaW (qaX ?_) | skip
 refine qaW (wpAny_sequenceKey ht.typeIs (by decide) ?_)
 refine qaW (wpAny_callSpecial?_slot (name:=Str.ofString "__getitem__") ht.typeIs PyProof.Rows.slot_tuple_getitem
   (wpAny_call_entry PyProof.Rows.slot_tuple_getitem ht.typeIs entry_tuple_getitem ?_ (args_tuple_getitem _ _)))
 show wpAny _ _ (Builtin.Tuple.tupleItemsOf (.ref t)>>=_) _ _ s
 refine qaW (tupleItemsOf_ ht ?_)
 refine qaW (wpAny_typeOf hTs ?_)
 rw [qa4 (by decide)]
 refine qaW (zc4 hs pl pu ?_)
 have hno: ¬((((sIx items.size 0 lo:Nat):Int)==0 && (1:Int)==1 && (sIx items.size items.size hi - sIx items.size 0 lo)==items.size)=true):=by
  intro q
  rw [qaG,qaG] at q
  have q1:((sIx items.size 0 lo:Nat):Int)=0:=eq_of_beq q.1.1
  have q2:sIx items.size items.size hi - sIx items.size 0 lo=items.size:=eq_of_beq q.2
  exact hw ⟨by omega,by omega⟩
 show wpAny _ _ (if (((sIx items.size 0 lo:Nat):Int)==0 && (1:Int)==1 && (sIx items.size items.size hi - sIx items.size 0 lo)==items.size)=true then _ else _) _ _ s
 rw [qa5 hno,zl8]
 first
  | exact qaW (m:=Builtin.Tuple.tupleExact _) (qaC (qaX ⟨_,rfl,qaX h⟩) htake)
  | exact qaW (m:=Builtin.Tuple.tupleExact _) (qaC (qaW (qaX (qaX ⟨_,rfl,qaX h⟩))) htake)
  | exact qaW (qaW (m:=Builtin.Tuple.tupleExact _) (qaC (qaX (qaX ⟨_,rfl,qaX h⟩)) htake))
  | exact qaW (qaW (m:=Builtin.Tuple.tupleExact _) (qaC (qaX ⟨_,rfl,qaX h⟩) htake))
end
end HT
namespace L2
open PySem PySem.Spec PyProof.Rows
noncomputable abbrev TO:=St->Hp->(Option Int->Hp->Prop)->Prop
def PO (X:Cx) (e:Option Expr) (t:TO):Prop:=
 ∀ (pins:List (Addr×Obj)) (s:Shared) (σ:St) (H:Hp) (Q:Option Int->Hp->Prop),Inv X pins σ H s->t σ H Q->
  wpAny (model X.prog X.w) X.A (evalPart e X.env) (fun u s'=> ∃ o H',Inv X pins σ H' s'/\IsPart u o/\Q o H') X.xe s
noncomputable def zoo:TO:=fun _ H Q=>Q none H
noncomputable def zsG (t:TE):TO:=fun σ H Q=>t σ H fun x H1=> ∃ i,x= .int i/\Q (some i) H1
theorem zdo {ns:List Int}: ∀ {us:List Value},za6 (ns.map V.int) us->IntsAre us ns:=by
 induction ns with
 | nil=>intro us r;rw [List.map_nil] at r;cases r;exact .nil
 | cons n ns ih=>
  intro us r
  rw [qaM] at r
  cases r with
  | cons r1 r2=>
   obtain ⟨t,e⟩:=r1
   subst e
   exact .cons n t (ih r2)
section
variable {X:Cx} {e:Expr} {te:TE} {lo hi:Option Expr} {tl th:TO} {pos p2:Pos}
theorem znk:PO X none zoo:=by
 intro pins s σ H Q I h
 rw [evalPart_none]
 exact qaX ⟨none,H,I,.none,h⟩
theorem zor (h:PE X e te):PO X (some e) (zsG te):=by
 intro pins s σ H Q I hw
 rw [evalPart_some]
 refine thn (h pins s σ H _ I hw) fun u s1 ⟨x,H1,I1,r1,q1⟩=> ?_
 obtain ⟨i,rfl,q⟩:=q1
 obtain ⟨t,rfl⟩:=r1
 exact ⟨some i,H1,I1,.int i t,q⟩
def SlR (X:Cx) (r:V->Option Int->Option Int->Hp->VK->Prop):Prop:=
 ∀ (pins:List (Addr×Obj)) (s:Shared) (σ:St) (H:Hp) (x:V) (v vl vu:Value) (lo hi:Option Int) (sl:Addr) (Q:VK),Inv X pins σ H s->zcf x v->s.heap.IsSliceOf sl vl vu .none->IsPart vl lo->IsPart vu hi->r x lo hi H Q->
  ∃ T id,typeLookup (.type T) "__getitem__"=pure (some (.builtin id))/\s.TypeIs v T/\wpAny (model X.prog X.w) X.A (getItem v (.ref sl)) (EP X pins σ Q) X.xe s
theorem SlR.or {r r':V->Option Int->Option Int->Hp->VK->Prop} (h:SlR X r) (h':SlR X r'):SlR X (fun x lo hi H Q=>r x lo hi H Q\/r' x lo hi H Q):=by
 intro pins s σ H x v vl vu lo hi sl Q I rx hs pl pu q
 rcases q with q | q
 ·exact h pins s σ H x v vl vu lo hi sl Q I rx hs pl pu q
 ·exact h' pins s σ H x v vl vu lo hi sl Q I rx hs pl pu q
noncomputable def tSl (r:V->Option Int->Option Int->Hp->VK->Prop) (te:TE) (tl th:TO):TE:=fun σ H Q=>te σ H fun x H1=>tl σ H1 fun l H2=>th σ H2 fun u H3=>r x l u H3 Q
theorem zlD {r:V->Option Int->Option Int->Hp->VK->Prop} (hr:SlR X r) (he:PE X e te) (hl:PO X lo tl) (hu:PO X hi th):PE X (.Subscript e (.Slice lo hi none p2) pos) (tSl r te tl th):=by
 intro pins s σ H Q I h
 refine Subscript_ (thn (he pins s σ H _ I h) fun v s1 ⟨x,H1,I1,r1,q1⟩=> ?_)
 refine wpAny_Slice (thn (hl pins s1 σ H1 _ I1 q1) fun vl s2 ⟨l,H2,I2,pl,q2⟩=>thn (hu pins s2 σ H2 _ I2 q2) fun vu s3 ⟨u,H3,I3,pu,q3⟩=> ?_)
 rw [evalPart_none]
 refine qaX ?_
 have I4:Inv X pins σ H3 {s3 with heap:=s3.heap.push {cls:= .type "slice",data:= .fields #[vl,vu,.none]}}:=I3.kept (t':=s3.toks) fun b ob q=>qag _ q
 obtain ⟨T,id,hT,ht,hg⟩:=hr pins {s3 with heap:=s3.heap.push {cls:= .type "slice",data:= .fields #[vl,vu,.none]}} σ H3 x v vl vu l u s3.heap.objs.size Q I4 r1 (Heap.IsSliceOf.new ..) pl pu q3
 show wpAny (model X.prog X.w) X.A (subscriptTail e (.Slice lo hi none p2) v (.ref s3.heap.objs.size)) (EP X pins σ Q) X.xe {s3 with heap:=s3.heap.push {cls:= .type "slice",data:= .fields #[vl,vu,.none]}}
 exact tail_any (ops:=[.ref s3.heap.objs.size,v]) ht hT hg (by with_unfolding_all rfl)
noncomputable def zmH (xs:List V) (lo hi:Option Int):List V:=(xs.drop (HT.sIx xs.length 0 lo)).take (HT.sIx xs.length xs.length hi - HT.sIx xs.length 0 lo)
theorem zfb (xs:List V) (lo hi:Option Int):(zmH xs lo hi).length<=xs.length:=by
 unfold zmH
 rw [List.length_take,List.length_drop]
 omega
noncomputable def zs8 (K:W.Frag):V->Option Int->Option Int->Hp->VK->Prop:=fun x lo hi H Q=> ∃ a xs,x= .ref a/\SqT K H a xs/\
 ¬ (HT.sIx xs.length 0 lo=0/\HT.sIx xs.length xs.length hi=xs.length)/\ ∀ p,H p=none->Q (.ref p) (upd H p (.tup (zmH xs lo hi)))
theorem zpG:SlR X (zs8 X.K):=by
 intro pins s σ H x v vl vu lo hi sl Q I rx hs pl pu h
 obtain ⟨a,xs,rfl,hx,hw,q⟩:=h
 cases rx
 obtain ⟨its,r,ht,hz⟩:=I.tuple hx
 have hlen:its.toArray.size=xs.length:=by rw [qaA];exact r.length.symm
 refine ⟨"tuple",_,PyProof.Rows.slot_tuple_getitem.lookup,ht.typeIs,?_⟩
 refine HT.zep ht hs pl pu (by rw [hlen];exact hw) ?_ (by rw [hlen];exact hz)
 rw [hlen]
 refine ⟨.ref s.heap.objs.size,_,I.laid (t':=s.toks) (o:= .tup (zmH xs lo hi)) (fun b ob q=>qag _ q) (qaV _) ?_,rfl,q _ (I.hok.fresh (qaV _))⟩
 exact ⟨qaS (zfb xs lo hi) hz,_,(r.drop (HT.sIx xs.length 0 lo)).take (HT.sIx xs.length xs.length hi - HT.sIx xs.length 0 lo),IsTup.new _ _⟩
noncomputable def zsv (K:W.Frag):R2:=fun x y H Q=> ∃ a b xs ys,x= .ref a/\y= .ref b/\SqT K H a xs/\SqT K H b ys/\xs≠[]/\xs.length+ys.length<=sizeLine/\
 (ys=[]->Q (.ref a) H)/\(ys≠[]-> ∀ p,H p=none->Q (.ref p) (upd H p (.tup (xs++ys))))
theorem za6.nil_iff {xs:List V} {us:List Value} (r:za6 xs us):us=[]↔xs=[]:=by
 cases r with
 | nil=>simp
 | cons _ _=>simp
theorem zni:OpR X (binaryOp .Add) (zsv X.K):=by
 intro pins s σ H x y v u Q I rx ry h
 obtain ⟨a,b,xs,ys,rfl,rfl,ha,hb,hx,hz,q1,q2⟩:=h
 cases rx
 cases ry
 obtain ⟨its,r1,p1,_⟩:=I.tuple ha
 obtain ⟨its2,r2,p2,_⟩:=I.tuple hb
 refine HT.zoA p1 p2 (fun z=>hx (r1.nil_iff.mp z)) (fun z=>⟨.ref a,H,I,rfl,q1 (r2.nil_iff.mp z)⟩) (fun z=> ?_) (by rw [<- r1.length, <-r2.length];exact hz)
 refine ⟨.ref s.heap.objs.size,_,I.laid (t':=s.toks) (o:= .tup (xs++ys)) (fun b ob q=>qag _ q) (qaV _) ?_,rfl,q2 (fun w=>z (r2.nil_iff.mpr w)) _ (I.hok.fresh (qaV _))⟩
 exact ⟨by rw [qav];exact hz,_,r1.append r2,IsTup.new _ _⟩
end
noncomputable def ixN (n:Nat) (i:Int):Option Nat:=if 0<=i then (if i<n then some i.toNat else none) else if -(n:Int)<=i then some (i+n).toNat else none
noncomputable def atI {α:Type} (xs:List α) (i:Int):Option α:=(ixN xs.length i).bind fun j=>xs[j]?
theorem zlf {n:Nat} {i:Int} {j:Nat} (h:ixN n i=some j):seqIndex? i n=some j/\j<n/\ -(n:Int)<=i/\i<n:=by
 unfold ixN at h
 by_cases h0:0<=i
 ·rw [qa4 h0] at h
  by_cases h1:i<n
  ·rw [qa4 h1] at h
   have e:i.toNat=j:=Option.some.inj h
   exact ⟨by rw [seqIndex_of h0 h1,e],by omega,by omega,h1⟩
  ·rw [qa5 h1] at h;cases h
 ·rw [qa5 h0] at h
  by_cases h1: -(n:Int)<=i
  ·rw [qa4 h1] at h
   have e:(i+n).toNat=j:=Option.some.inj h
   exact ⟨by rw [seqIndex_neg (by omega) h1,e],by omega,h1,by omega⟩
  ·rw [qa5 h1] at h;cases h
theorem zjt {α:Type} {xs:List α} {i:Int} {v:α} (h:atI xs i=some v): ∃ j,seqIndex? i xs.length=some j/\xs[j]? = some v/\j<xs.length/\ -(xs.length:Int)<=i/\i<xs.length:=by
 unfold atI at h
 cases e:ixN xs.length i with
 | none=>rw [e] at h;cases h
 | some j=>
  rw [e] at h
  obtain ⟨h1,h2,h3,h4⟩:=zlf e
  exact ⟨j,h1,h,h2,h3,h4⟩
theorem zdl {α:Type} {xs:List α} {j:Nat} {v:α} (h:xs[j]? = some v):atI xs (j:Int)=some v:=by
 have hj:j<xs.length:=(qac.mp h).1
 have e:ixN xs.length (j:Int)=some j:=by
  unfold ixN
  rw [qa4 (by omega),qa4 (by omega)];simp
 unfold atI;rw [e];exact h
theorem zfS {α:Type} (xs:List α) (v:α):atI (xs++[v]) (-1)=some v:=by
 have hl:(xs++[v]).length=xs.length+1:=by simp
 have e:ixN (xs++[v]).length (-1)=some xs.length:=by
  unfold ixN
  rw [hl,qa5 (by decide),qa4 (by omega)]
  congr 1
  omega
 unfold atI
 rw [e]
 show (xs++[v])[xs.length]? = some v
 simp
def zgf (b:Expr):Prop:= ∀ o i,subscripted b false o i=operate [o,i] (getItem o i)
def IxR (X:Cx) (r:R2):Prop:=
 ∀ (value slice:Expr) (pins:List (Addr×Obj)) (s:Shared) (σ:St) (H:Hp) (x y:V) (v u:Value) (Q:VK),Inv X pins σ H s->zcf x v->zcf y u->r x y H Q->
  subscripted slice false v u=operate [v,u] (getItem v u)->wpAny (model X.prog X.w) X.A (subscriptTail value slice v u) (EP X pins σ Q) X.xe s
def MtR (X:Cx) (id:String) (r:V->List V->Hp->VK->Prop):Prop:=
 ∀ (pins:List (Addr×Obj)) (s:Shared) (σ:St) (H:Hp) (x:V) (xs:List V) (v:Value) (us:List Value) (Q:VK),Inv X pins σ H s->zcf x v->za6 xs us->r x xs H Q->
  wpAny (model X.prog X.w) X.A (call (.builtin id) (v::us)) (EP X pins σ Q) X.xe s
section
variable {X:Cx} {a b:Expr} {ta tb:TE} {pos:Pos}
theorem IxR.or {r r':R2} (h:IxR X r) (h':IxR X r'):IxR X (fun x y H Q=>r x y H Q\/r' x y H Q):=by
 intro value slice pins s σ H x y v u Q I rx ry q hs
 rcases q with q | q
 ·exact h value slice pins s σ H x y v u Q I rx ry q hs
 ·exact h' value slice pins s σ H x y v u Q I rx ry q hs
theorem MtR.or {id:String} {r r':V->List V->Hp->VK->Prop} (h:MtR X id r) (h':MtR X id r'):MtR X id (fun x xs H Q=>r x xs H Q\/r' x xs H Q):=by
 intro pins s σ H x xs v us Q I rx rs q
 rcases q with q | q
 ·exact h pins s σ H x xs v us Q I rx rs q
 ·exact h' pins s σ H x xs v us Q I rx rs q
theorem zq3 {r:R2} (hr:IxR X r) (ha:PE X a ta) (hb:PE X b tb) (hs:zgf b):PE X (.Subscript a b pos) (tOp r ta tb):=by
 intro pins s σ H Q I h
 exact Subscript_ (zsy ha hb I h fun v u s2 x y H2 I2 rx ry q=>hr a b pins s2 σ H2 x y v u Q I2 rx ry q (hs _ _))
noncomputable def ztc (K:W.Frag):R2:=fun x y H Q=> ∃ p xs i v,x= .ref p/\y= .int i/\SqL K H p xs/\atI xs i=some v/\Q v H
noncomputable def ztj (K:W.Frag):R2:=fun x y H Q=> ∃ p xs i v,x= .ref p/\y= .int i/\SqT K H p xs/\atI xs i=some v/\Q v H
theorem zjG:IxR X (ztc X.K):=by
 intro value slice pins s σ H x y v u Q I rx ry h hs
 obtain ⟨p,xs,i,z,rfl,rfl,hq,he,q⟩:=h
 cases rx
 obtain ⟨t,rfl⟩:=ry
 obtain ⟨its,r,pl,hz⟩:=I.list hq
 obtain ⟨j,h1,h2,h3,h4,h5⟩:=zjt he
 obtain ⟨w,ew,rw'⟩:=r.get h2
 have hl:=r.length
 have hn:=zhb
 have fin:EP X pins σ Q w s:=⟨z,H,I,rw',q⟩
 by_cases h0:0<=i
 ·have hj:i.toNat=j:=by
   rw [seqIndex_of h0 h5] at h1
   exact Option.some.inj h1
  exact item_listR pl.isList h0 (by omega) (by rw [hj];simpa using ew) fin hs
 ·have hj:(i+(its.toArray.size:Int)).toNat=j:=by
   rw [seqIndex_neg (by omega) h4] at h1
   rw [qaA, <-hl]
   exact Option.some.inj h1
  exact subscriptTail_builtinR (x:=w) pl.isList.typeIs slot_list_getitem.lookup
   (wpAny_getItem_list_neg (Q:=fun r s'=>r=w/\EP X pins σ Q r s') pl.isList (by omega) (by rw [qaA]<;>omega) (by omega) (by rw [hj];simpa using ew) ⟨rfl,fin⟩) hs
theorem zqZ:IxR X (ztj X.K):=by
 intro value slice pins s σ H x y v u Q I rx ry h hs
 obtain ⟨p,xs,i,z,rfl,rfl,hq,he,q⟩:=h
 cases rx
 obtain ⟨t,rfl⟩:=ry
 obtain ⟨its,r,pl,hz⟩:=I.tuple hq
 obtain ⟨j,h1,h2,h3,h4,h5⟩:=zjt he
 obtain ⟨w,ew,rw'⟩:=r.get h2
 have hl:=r.length
 have hn:=zhb
 have fin:EP X pins σ Q w s:=⟨z,H,I,rw',q⟩
 exact subscriptTail_builtinR (x:=w) pl.typeIs slot_tuple_getitem.lookup
  (getItem_tuple (j:=j) (Q:=fun r s'=>r=w/\EP X pins σ Q r s') pl (by omega) (by omega) (by rw [qaA, <-hl];exact h1) (by simpa using ew) ⟨rfl,fin⟩) hs
theorem zjk (its:List Value) (n j:Nat) (u:Value):Obj.mapSeq (·.setIfInBounds j u) {cls:= .type "list",data:= .seq its.toArray n}={cls:= .type "list",data:= .seq (its.set j u).toArray n}:=by
 simp [Obj.mapSeq]
theorem Inv.lst {pins:List (Addr×Obj)} {σ:St} {H:Hp} {s:Shared} {p:Addr} {xs:List V} (I:Inv X pins σ H s) (h:H p=some (.lst xs)):
  ∃ (its:List Value) (n:Nat),za6 xs its/\s.heap.get? p=some {cls:= .type "list",data:= .seq its.toArray n}/\xs.length<=sizeLine:=by
 obtain ⟨z,its,n,r,e⟩:=I.hok p _ h
 exact ⟨its,n,r,e,z⟩
theorem Inv.lstUpd {pins:List (Addr×Obj)} {σ:St} {H:Hp} {s:Shared} {p:Addr} {xs ys:List V} {its its':List Value} {n n':Nat} {f:Obj->Obj} (I:Inv X pins σ H s) (h:H p=some (.lst xs))
  (ho:s.heap.get? p=some {cls:= .type "list",data:= .seq its.toArray n}) (hf:f {cls:= .type "list",data:= .seq its.toArray n}={cls:= .type "list",data:= .seq its'.toArray n'}) (r:za6 ys its') (hz:ys.length<=sizeLine) (t:Nat):
  Inv X pins σ (upd H p (.lst ys)) {s with heap:=s.heap.update p f,toks:=t}:=by
 have e:(s.heap.update p f).get? p=some {cls:= .type "list",data:= .seq its'.toArray n'}:=by
  rw [qal f ho (by rw [hf]<;>rfl),hf]
 refine I.write (x:=p) (e:=p) (by rw [h];trivial) (.inl rfl) (fun b u hb q=>(qah _ _ (Ne.symm hb)).trans q) ⟨_,e⟩ ?_
 exact ⟨hz,its',n',r,e⟩
noncomputable def zr2:V->V->V->Hp->(Hp->Prop)->Prop:=fun o i v H Q=> ∃ p xs k j,o= .ref p/\i= .int k/\H p=some (.lst xs)/\ixN xs.length k=some j/\Q (upd H p (.lst (xs.set j v)))
theorem zlW:zoY X zr2:=by
 intro pins s σ H o i v ov iv u Q I ro ri rv h
 obtain ⟨p,xs,k,j,rfl,rfl,hp,hj,q⟩:=h
 cases ro
 obtain ⟨t,rfl⟩:=ri
 obtain ⟨its,n,r,ho,hz⟩:=I.lst hp
 obtain ⟨h1,h2,h3,h4⟩:=zlf hj
 have hl:=r.length
 have hn:=zhb
 have I':Inv X pins σ (upd H p (.lst (xs.set j v))) {s with heap:=s.heap.update p (Obj.mapSeq (·.setIfInBounds j u))}:=
  I.lstUpd hp ho (zjk its n j u) (r.set rv j) (by rw [qaI];exact hz) s.toks
 by_cases h0:0<=k
 ·have hk:k.toNat=j:=by
   rw [seqIndex_of h0 h4] at h1
   exact Option.some.inj h1
  exact W.ki_setAt ho h0 (by omega) (by rw [qaA, <-hl];exact h4) (by rw [hk];exact ⟨_,I',q⟩)
 ·have hk:(k+(its.toArray.size:Int)).toNat=j:=by
   rw [seqIndex_neg (by omega) h3] at h1
   rw [qaA, <-hl]
   exact Option.some.inj h1
  exact W.ki_setBack ho (by omega) (by rw [qaA, <-hl];exact h3) (by omega) (by rw [hk];exact ⟨_,I',q⟩)
theorem zg5 (lo hi:Option Int) (n:Nat):(sliceBounds lo hi none n).1=((HT.sIx n 0 lo:Nat):Int)/\(sliceBounds lo hi none n).2.1=((HT.sIx n n hi:Nat):Int)/\(sliceBounds lo hi none n).2.2=1:=by
 refine ⟨?_,?_,rfl⟩
 ·cases lo with
  | none=>simp [sliceBounds,HT.sIx]
  | some i=>
   simp only [sliceBounds,HT.sIx,Option.getD_none,show (1:Int)>0 by decide,if_true]
   by_cases h:i<0
   ·simp only [h,if_true]<;>omega
   ·simp only [h,if_false]<;>omega
 ·cases hi with
  | none=>simp [sliceBounds,HT.sIx]
  | some i=>
   simp only [sliceBounds,HT.sIx,Option.getD_none,show (1:Int)>0 by decide,if_true]
   by_cases h:i<0
   ·simp only [h,if_true]<;>omega
   ·simp only [h,if_false]<;>omega
theorem zf4 (its:List Value) (lo hi:Option Int):slicePick its.toArray lo hi none=((its.drop (HT.sIx its.length 0 lo)).take (HT.sIx its.length its.length hi - HT.sIx its.length 0 lo)).toArray:=by
 obtain ⟨h1,h2,h3⟩:=zg5 lo hi its.toArray.size
 unfold slicePick
 rw [h1,h2,h3]
 simp only [sliceRange_one,pick_run,qaA]<;>rfl
noncomputable def zty (K:W.Frag):V->Option Int->Option Int->Hp->VK->Prop:=fun x lo hi H Q=> ∃ a xs,x= .ref a/\SqL K H a xs/\ ∀ p,H p=none->Q (.ref p) (upd H p (.lst (zmH xs lo hi)))
theorem zob:SlR X (zty X.K):=by
 intro pins s σ H x v vl vu lo hi sl Q I rx hs pl pu h
 obtain ⟨a,xs,rfl,hx,q⟩:=h
 cases rx
 obtain ⟨its,r,ht,hz⟩:=I.list hx
 have hlen:=r.length
 refine ⟨"list",_,slot_list_getitem.lookup,ht.isList.typeIs,?_⟩
 refine wpAny_getItem_list_slice ht.isList hs pl pu .none (by simp) ?_ (by rw [qaA]<;>omega)
 rw [zf4, <-hlen]
 refine ⟨.ref s.heap.objs.size,_,I.laid (t':=s.toks) (o:= .lst (zmH xs lo hi)) (fun b ob q=>qag _ q) (qaV _) ?_,rfl,q _ (I.hok.fresh (qaV _))⟩
 exact ⟨qaS (zfb xs lo hi) hz,_,0,(r.drop (HT.sIx xs.length 0 lo)).take (HT.sIx xs.length xs.length hi - HT.sIx xs.length 0 lo),qar _ rfl⟩
theorem zgC:za0 X (.builtin "len") (fun xs H Q=> ∃ p ys,xs=[.ref p]/\(SqL X.K H p ys\/SqT X.K H p ys)/\Q (.int ys.length) H):=by
 intro pins s σ H xs us Q I r h
 obtain ⟨p,ys,rfl,hq,q⟩:=h
 obtain ⟨u,rfl,rx⟩:=zeB r
 cases rx
 have hn:=zhb
 rcases hq with hq | hq
 ·obtain ⟨its,r',pl,hz⟩:=I.list hq
  have hlen:=r'.length
  exact Calls.call_len_list pl.isList (by simp only [qaA]<;>omega) ⟨.int ys.length,H,I.tok _,⟨s.toks+1,by rw [qaA,hlen]⟩,q⟩
 ·obtain ⟨its,r',pl,hz⟩:=I.tuple hq
  have hlen:=r'.length
  exact len_tuple pl (by simp only [qaA]<;>omega) ⟨.int ys.length,H,I.tok _,⟨s.toks+1,by rw [qaA,hlen]⟩,q⟩
theorem za0.or {f:Value} {r r':List V->Hp->VK->Prop} (h:za0 X f r) (h':za0 X f r'):za0 X f (fun xs H Q=>r xs H Q\/r' xs H Q):=by
 intro pins s σ H xs us Q I rs q
 rcases q with q | q
 ·exact h pins s σ H xs us Q I rs q
 ·exact h' pins s σ H xs us Q I rs q
theorem zgD:za0 X (.type "list") (fun xs H Q=> ∃ p ys,xs=[.ref p]/\(SqL X.K H p ys\/SqT X.K H p ys)/\ ∀ l,H l=none->Q (.ref l) (upd H l (.lst ys))):=by
 intro pins s σ H xs us Q I r h
 obtain ⟨p,ys,rfl,hq,q⟩:=h
 obtain ⟨u,rfl,rx⟩:=zeB r
 cases rx
 have fin: ∀ (its:List Value),za6 ys its->ys.length<=sizeLine-> ∀ (h':Heap) (c':Nat),(∀ b o',s.heap.get? b=some o'->h'.get? b=some o')->
   h'.get? s.heap.objs.size=some {cls:= .type "list",dict:=none,data:= .seq its.toArray c',slots:= #[]}->EP X pins σ Q (.ref s.heap.objs.size) {s with heap:=h'}:=fun its r' hz h' c' kp e=>
  ⟨.ref s.heap.objs.size,_,I.laid (t':=s.toks) kp (qaV _) (show zbR X.prog X.w _ h' _ (.lst ys) from ⟨hz,its,c',r',e⟩),rfl,q _ (I.hok.fresh (qaV _))⟩
 rcases hq with hq | hq
 ·obtain ⟨its,r',pl,hz⟩:=I.list hq
  have hlen:=r'.length
  obtain ⟨o,ho,hc,n,hd⟩:=pl.isList
  exact call_list_seq p (.inl rfl) ho hc hd (fun h' c' kp e=>fin its r' hz h' c' kp e) (by simp only [qaA]<;>omega)
 ·obtain ⟨its,r',pl,hz⟩:=I.tuple hq
  have hlen:=r'.length
  obtain ⟨o,ho,hc,n,hd⟩:=pl
  exact call_list_seq p (.inr rfl) ho hc hd (fun h' c' kp e=>fin its r' hz h' c' kp e) (by simp only [qaA]<;>omega)
theorem zgj:za0 X (.type "tuple") (fun xs H Q=> ∃ p ys,xs=[.ref p]/\((SqL X.K H p ys/\ ∀ l,H l=none->Q (.ref l) (upd H l (.tup ys)))\/(SqT X.K H p ys/\Q (.ref p) H))):=by
 intro pins s σ H xs us Q I r h
 obtain ⟨p,ys,rfl,h⟩:=h
 obtain ⟨u,rfl,rx⟩:=zeB r
 cases rx
 rcases h with ⟨hq,q⟩ | ⟨hq,q⟩
 ·obtain ⟨its,r',pl,hz⟩:=I.list hq
  have hlen:=r'.length
  refine call_tuple_list pl.isList (fun h' kp=> ?_) (by simp only [qaA]<;>omega)
  have I1:Inv X pins σ H {s with heap:=h'}:=I.kept (t':=s.toks) kp
  have I2:Inv X pins σ (upd H h'.objs.size (.tup ys)) {s with heap:=h'.push {cls:= .type "tuple",data:= .seq its.toArray}}:=
   I1.laid (t':=s.toks) (fun b o e=>qag _ e) (qaV _) (show zbR X.prog X.w _ _ _ (.tup ys) from ⟨hz,its,r',IsTup.new _ _⟩)
  exact ⟨.ref h'.objs.size,_,I2,rfl,q _ (I1.hok.fresh (qaV _))⟩
 ·obtain ⟨its,r',pl,hz⟩:=I.tuple hq
  exact call_tuple_same pl ⟨.ref p,H,I,rfl,q⟩
def tyV (K:W.Frag) (T:String) (x:V) (H:Hp):Prop:=match x with
 | .str _=>T="str"
 | .int _=>T="int"
 | .ref p=>(T="list"/\ ∃ xs,SqL K H p xs)\/(T="tuple"/\ ∃ o,K.lookup p=some o/\o.cls= .type "tuple"/\o.dict=none)\/
   (T="dict"/\((∃ kvs,H p=some (.dK kvs))\/ ∃ kvs,H p=some (.dT kvs)))\/(T="set"/\ ∃ S n,H p=some (.set S n))
 | _=>False
theorem zps {pins:List (Addr×Obj)} {σ:St} {H:Hp} {s:Shared} {T:String} {x:V} {v:Value} (I:Inv X pins σ H s) (r:zcf x v) (ty:tyV X.K T x H):
  s.TypeIs v T/\ ∀ a,v= .ref a-> ∃ ob,s.heap.get? a=some ob/\ob.dict=none:=by
 cases x with
 | str z=>
  obtain ⟨t,rfl⟩:=r
  cases (show T="str" from ty)
  exact ⟨typeIs_str s z t,fun _ e=>nomatch e⟩
 | int i=>
  obtain ⟨t,rfl⟩:=r
  cases (show T="int" from ty)
  exact ⟨typeIs_int s i t,fun _ e=>nomatch e⟩
 | ref p=>
  cases r
  rcases ty with ⟨rfl,xs,hq⟩ | ⟨rfl,o,hk,hc,hd⟩ | ⟨rfl,hk⟩ | ⟨rfl,S,n,hk⟩
  ·obtain ⟨its,_,pl,_⟩:=I.list hq
   refine ⟨pl.isList.typeIs,fun a e=> ?_⟩
   cases e
   obtain ⟨o,n,e,c,hd,_⟩:=pl
   exact ⟨o,e,hd⟩
  ·refine ⟨⟨o,I.kIn p o hk,hc⟩,fun a e=> ?_⟩
   cases e
   exact ⟨o,I.kIn _ o hk,hd⟩
  ·have z: ∃ o,s.heap.get? p=some o/\o.ExactDict:=by
    rcases hk with ⟨kvs,hk⟩ | ⟨kvs,hk⟩
    ·obtain ⟨_,_,_,_,o,_,_,e,ex,_⟩:=I.hok p _ hk
     exact ⟨o,e,ex⟩
    ·obtain ⟨_,_,_,_,o,_,_,e,ex,_⟩:=I.hok p _ hk
     exact ⟨o,e,ex⟩
   obtain ⟨o,e,ex⟩:=z
   refine ⟨⟨o,e,ex.1⟩,fun a e2=> ?_⟩
   cases e2
   exact ⟨o,e,ex.2.1⟩
  ·obtain ⟨o,_,_,_,e,ex,_⟩:=I.hok p _ hk
   refine ⟨⟨o,e,ex.1⟩,fun a e2=> ?_⟩
   cases e2
   exact ⟨o,e,ex.2.1⟩
 | _=>exact qa0 ty
noncomputable def tBM (K:W.Frag) (T:String) (r:V->List V->Hp->VK->Prop) (to:TE) (t:TA):TE:=fun σ H Q=>to σ H fun x H1=>tyV K T x H1/\t σ H1 fun xs H2=>r x xs H2 Q
variable {o e:Expr} {es:List Expr} {to:TE} {t:TA} {name:Str} {apos cpos:Pos} {T id:String} {r:V->List V->Hp->VK->Prop}
theorem zpr (pa:PlainAttrs T) (slot:Slot T name id) (hty:typeOf (.builtin id)=pure (.type "method_descriptor")) (hm:MtR X id r) (ho:PE X o to) (ha:PA X (e::es) t)
  (hbase:attributeBase o name X.env (eval o X.env)=eval o X.env:=by rfl)
  (hfew:((backTo cpos (starEach (e::es) X.env)).all (fun x=> !x.1) && (backToKw cpos (keywordEach [] X.env)).all (fun x=>x.1.isSome)
    && decide ((e::es).length+([]:List Keyword).length+(if ([]:List Keyword).isEmpty then 0 else 1)<30))=true:=by rfl)
  (hline:(apos.endLine==cpos.line)=true:=by rfl) (hs:starEach (e::es) X.env=(false,eval e X.env)::starEach es X.env:=by rfl) (hplain:(backTo cpos (starEach es X.env)).any (·.1)=false:=by rfl):
  PE X (.Call (.Attribute o name apos) (e::es) [] cpos) (tBM X.K T r to t):=by
 intro pins s σ H Q I h
 refine wpAny_Call_method_late hbase hfew hline rfl (thn (ho pins s σ H _ I h) fun v s1 ⟨x,H1,I1,r1,ty,q1⟩=> ?_)
 obtain ⟨h1,h2⟩:=zps I1 r1 ty
 refine ⟨T,id,pa,slot,hty,h1,h2,?_⟩
 have hA:=ha cpos pins s1 σ H1 _ I1 q1
 rw [hs] at hA ⊢
 refine Calls.callWith_builtin (by show (false || (backTo cpos (starEach es X.env)).any (·.1))=false;rw [hplain]<;>rfl) (Calls.evalArgs_plain ?_)
 exact thn hA fun us s2 ⟨vs,H2,I2,r2,q2⟩=>hm pins s2 σ H2 x vs v us Q I2 r1 r2 q2
end
def MtM (X:Cx) (id:String) (r:V->List V->Hp->VK->Prop):Prop:=
 ∀ (pins:List (Addr×Obj)) (s:Shared) (σ:St) (H:Hp) (x:V) (xs:List V) (v:Value) (us:List Value) (Q:VK),Inv X pins σ H s->zcf x v->za6 xs us->r x xs H Q->
  wpAny (model X.prog X.w) X.A (call (.builtin id) (v::us)) (EP X pins σ Q) X.xe s
theorem za6.one: ∀ {x:V} {us:List Value},za6 [x] us-> ∃ u,us=[u]/\zcf x u
 | _,_,.cons r .nil=>⟨_,rfl,r⟩
theorem za6.zero: ∀ {us:List Value},za6 [] us->us=[]
 | _,.nil=>rfl
theorem za6.eraseIdx: ∀ {xs:List V} {us:List Value} (i:Nat),za6 xs us->za6 (xs.eraseIdx i) (us.eraseIdx i)
 | _,_,_,.nil=> .nil
 | _,_,0,.cons _ t=>t
 | _,_,i+1,.cons r t=> .cons r (za6.eraseIdx i t)
theorem za6.reverse {xs:List V} {us:List Value} (h:za6 xs us):za6 xs.reverse us.reverse:=by
 induction h with
 | nil=>exact .nil
 | cons r t ih=>rw [List.reverse_cons,List.reverse_cons];exact za6.append ih (.cons r .nil)
theorem za6.rep {xs:List V} {us:List Value} (h:za6 xs us): ∀ k:Nat,za6 (List.replicate k xs).flatten (List.replicate k us).flatten
 | 0=> .nil
 | k+1=>by
  rw [List.replicate_succ,List.replicate_succ,List.flatten_cons,List.flatten_cons]
  exact za6.append h (za6.rep h k)
theorem zgE (its:List Value): ∀ (k:Nat) (acc:List Value),
  List.foldl (fun x1 x2=>x1++x2) acc.toArray (List.replicate k its.toArray)=(acc++(List.replicate k its).flatten).toArray
 | 0,acc=>by simp
 | k+1,acc=>by
  have e:acc.toArray++its.toArray=(acc++its).toArray:=by simp
  have e2:(acc++its)++(List.replicate k its).flatten=acc++(List.replicate (k+1) its).flatten:=by
   rw [List.replicate_succ,List.flatten_cons,List.append_assoc]
  rw [<- e2, <-zgE its k (acc++its), <-e,List.replicate_succ,List.foldl_cons]
section
variable {X:Cx} {pins:List (Addr×Obj)} {σ:St} {H:Hp} {s:Shared} {l b:Addr} {xs ys zs:List V}
theorem Inv.lset {its its':List Value} {n:Nat} {f:Array Value->Array Value} {t':Nat} (I:Inv X pins σ H s) (hH:H l=some (.lst xs))
  (e:s.heap.get? l=some {cls:= .type "list",data:= .seq its.toArray n}) (hf:f its.toArray=its'.toArray) (hv:za6 ys its') (hz:ys.length<=sizeLine):
  Inv X pins σ (upd H l (.lst ys)) {s with heap:=s.heap.update l (Obj.mapSeq f),toks:=t'}:=by
 have q:=PySem.IsL.update e f
 rw [hf] at q
 refine I.write (x:=l) (e:=l) (by rw [hH];exact trivial) (.inl rfl) (fun b' u hb hu=>(qah s.heap (Obj.mapSeq f) (Ne.symm hb)).trans hu) ⟨_,q⟩ ?_
 exact ⟨hz,its',_,hv,q⟩
theorem Inv.lnew {its:List Value} {t':Nat} (I:Inv X pins σ H s) (hv:za6 ys its) (hz:ys.length<=sizeLine):
  Inv X pins σ (upd H s.heap.objs.size (.lst ys)) {s with heap:=s.heap.push {cls:= .type "list",data:= .seq its.toArray},toks:=t'}:=
 I.laid (fun _ _ q=>qag _ q) (qaV _) ⟨hz,its,0,hv,qar _ rfl⟩
theorem Inv.fresh (I:Inv X pins σ H s):H s.heap.objs.size=none:=I.hok.fresh (qaV _)
theorem Inv.lstM (I:Inv X pins σ H s) (hH:H l=some (.lst xs)):xs.length<=sizeLine/\ ∃ (its:List Value) (n:Nat),za6 xs its/\xs.length=its.length/\s.heap.get? l=some {cls:= .type "list",data:= .seq its.toArray n}:=by
 obtain ⟨z,its,n,r,e⟩:=I.hok l _ hH
 exact ⟨z,its,n,r,r.length,e⟩
theorem zlr {n:Nat} (h:n<=sizeLine):Builtin.List.listTooLong n=false:=by
 unfold Builtin.List.listTooLong
 exact decide_eq_false (by omega)
end
section
variable {X:Cx}
noncomputable def zoK:V->List V->Hp->VK->Prop:=fun x vs H Q=> ∃ l xs y,x= .ref l/\vs=[y]/\H l=some (.lst xs)/\xs.length<sizeLine/\Q .non (upd H l (.lst (xs++[y])))
theorem zg6:MtM X "list.append" zoK:=by
 intro pins s σ H x vs v us Q I rx rv h
 obtain ⟨l,xs,y,rfl,rfl,hH,hz,q⟩:=h
 cases rx
 obtain ⟨u,rfl,ru⟩:=rv.one
 obtain ⟨z,its,n,r,hl,e⟩:=I.lstM hH
 refine call_meets F.slot_list_append ⟨_,e,rfl⟩ F.entry_list_append (F.args_list_append_2 _ _) (PySem.list_append l its.toArray n u (by rw [qaA];omega)) ⟨e,?_⟩
 refine ⟨.non,_,I.lset (its':=its++[u]) hH e (by simp) (r.append (.cons ru .nil)) ?_,rfl,q⟩
 rw [qav,List.length_singleton]
 omega
noncomputable def ztA:R2:=fun x y H Q=> ∃ l b xs zs,x= .ref l/\y= .ref b/\H l=some (.lst xs)/\H b=some (.lst zs)/\xs.length+zs.length<=sizeLine/\ ∀ p,H p=none->Q (.ref p) (upd H p (.lst (xs++zs)))
theorem zqw:OpR X (binaryOp .Add) ztA:=by
 intro pins s σ H x y v u Q I rx ry h
 obtain ⟨l,b,xs,zs,rfl,rfl,hH,hB,hz,q⟩:=h
 cases rx
 cases ry
 obtain ⟨z,its,n,r,hl,e⟩:=I.lstM hH
 obtain ⟨z2,its2,n2,r2,hl2,e2⟩:=I.lstM hB
 refine PySem.P.add_list e e2 ?_ (by rw [qaA,qaA];omega)
 have ea:its.toArray++its2.toArray=(its++its2).toArray:=by simp
 rw [ea]
 exact ⟨.ref _,_,I.lnew (t':=s.toks) (r.append r2) (by rw [qav];omega),rfl,q _ I.fresh⟩
theorem zn7 {α:Type} (xs:List α) (k:Nat):(List.replicate k xs).flatten.length=k*xs.length:=by
 induction k with
 | zero=>simp
 | succ k ih=>rw [List.replicate_succ,List.flatten_cons,qav,ih,Nat.succ_mul,Nat.add_comm]
end
section
variable {prog:Program} {w:World} {A:Around} {E:Value->Shared->Prop} {s:Shared}
end
section
variable {X:Cx}
end
end L2
namespace Att
open PySem PySem.W PySem.Calls PyProof.Rows
theorem zeV {P:Params} {h:Heap}: ∀ (ns:List Int) (vs:List Value),WellAll P h vs (ns.map WData.int)->IntsAre vs ns:=by
 intro ns
 induction ns with
 | nil=>
  intro vs w
  rw [List.map_nil] at w
  cases w
  exact .nil
 | cons n ns ih=>
  intro vs w
  rw [qaM] at w
  cases w with
  | cons a b=>
   cases a
   exact .cons _ _ (ih _ b)
theorem zjw {l:OpenLaw} {n:Nat} (hn:l.most=some n) {P:Params} {h:Heap} {args:List WData} {vals:List Value}
  (hpre:l.row.toRowW.claim.pre args=true) (hwl:WellAll P h vals args):
  ∃ a vs ns,vals=[Value.ref a]/\args=[WData.list (ns.map WData.int)]/\h.get? a=some {cls:= .type "list",data:= .seq vs.toArray}/\IntsAre vs ns/\ns.length<=n:=by
 have hsh:WShape.hasAll [] args [.list .int]=true:=(pre_splitW hpre).1
 have hc:l.pre.holds [] {args:=args}=true:=(pre_splitW hpre).2
 obtain ⟨d,r,rfl,h1,h2⟩:=hasAllW_cons hsh
 obtain rfl:=hasAllW_nil h2
 obtain ⟨xs,rfl,h3⟩:=hasW_list h1
 obtain ⟨ns,rfl⟩:=items_int h3
 have hlen:ns.length<=n:=by
  unfold OpenLaw.pre at hc
  have h4:(WTm.not (.lt (.lit (.int (n:Int))) (.len (.arg 0)))).holds [] {args:=[.list (ns.map .int)]}=true:=by
   have h4:=(holds_andW hc).1
   rw [hn] at h4
   exact h4
  have h5:=condW_of h4 (w_not (w_lt w_lit (w_len_list (w_arg rfl))))
  rw [qaH] at h5
  refine Nat.le_of_not_lt fun q=> ?_
  have q':(n:Int)<((ns.length:Nat):Int):=by omega
  first
   | (rw [decide_eq_true q'] at h5;exact absurd h5 (by decide))
   | (simp at h5;omega)
 cases hwl with
 | cons w1 w2=>
  cases w2
  cases w1 with
  | list ho hall=>exact ⟨_,_,ns,rfl,rfl,ho,zeV ns _ hall,hlen⟩
theorem zjr (l:OpenLaw) (args:List WData):l.row.toRowW.claim.post args (.bool true) args=true:=
 postW_of (r:=l.row.toRowW) (X:=(true==true))
  (show WShape.has [] (.bool true) .bool=true by first | rfl | decide | simp [WShape.has,WShape.arms,WShape.armsAll])
  (show (WTm.eq .res (.lit (.bool true))).value [] {args:=args,res:=some (.bool true),after:=args}=some (.bool (true==true)) from w_eq_bool (w_res rfl) w_lit) rfl
section
variable {prog:Program} {w:World} {A:Around} {E:Value->Shared->Prop} {s:Shared} {K:Frag}
end
end Att
namespace L2
open PySem PySem.Spec PyProof.Rows
theorem zeL: ∀ {vs:List Value} {ns:List Int},IntsAre vs ns->za6 (ns.map V.int) vs
 | _,_,.nil=> .nil
 | _,_,.cons n t h=> .cons ⟨t,rfl⟩ (zeL h)
def zsT (H:Hp):Prop:= ∀ b,H b=none\/ ∃ o xs,H b=some (.frz o (.lst xs))
theorem zlQ {P:Program} {w:World} {K:W.Frag} {mg mb:Str->Option Value} {CX:CXT} {k:Nat} {fa a:Addr} {fd:FuncData} {x:Str} {sp:Sp} {s₁:Shared} {vs:List Value} {ns:List Int}
  (KX:K.In s₁.heap) (hns:s₁.heap.Ns mainGlobals mg) (hb:s₁.heap.Ns builtinsNs mb) (hbb: ∀ x:Str,x≠"__name__"->mb x=bootBuiltins x) (hlim:s₁.heap.NoLimit) (hg:s₁.gens= #[])
  (ha:s₁.heap.get? a=some {cls:= .type "list",data:= .seq vs.toArray}) (hi:IntsAre vs ns) (hl:ns.length<=sizeLine) (hr:zej k callerA)
  (F: ∀ base:Heap,K.In base->base.Ns mainGlobals mg->zbM P w K mg base CX k fa fd [x] sp) (hbind: ∀ (s:Shared) (u:Value),BindsTo s fd ⟨[u],[]⟩ [(x,u)])
  (hsp: ∀ H:Hp,zsT H->SqL K H a (ns.map V.int)->sp [.ref a] H (fun v _=>v= .bl true) fun _ _ _=>False)
  (hCX: ∀ H e s',CX [] H s₁ (fun _ _ _=>False) e s'->False):
  codeAny (model P w) callerA (.call (.ref fa) ⟨[.ref a],[]⟩) (fun r s'=>r= .ok (.ret (.bool true))/\OldK s₁.heap s'.heap/\s'.os=s₁.os/\AllBare s'.gens) s₁:=by
 have rv:=zeL hi
 have lenV:=hi.length
 have core: ∀ H:Hp,zsT H->SqL K H a (ns.map V.int)->HOk P w H s₁.heap->(∀ b,H b≠none->b=a)->(H a≠none->K.lookup a=none)->
   codeAny (model P w) callerA (.call (.ref fa) ⟨[.ref a],[]⟩) (fun r s'=>r= .ok (.ret (.bool true))/\OldK s₁.heap s'.heap/\s'.os=s₁.os/\AllBare s'.gens) s₁:=by
  intro H hO hS hok hA hK
  have base_of: ∀ {b:Addr} {o:Obj},s₁.heap.get? b=some o->H b=none->(zlv s₁.heap H).get? b=some o:=fun e n=>zmw e n
  have noA: ∀ {b:Addr} {o:Obj} {es:Array DictEntry} {ep:Nat},s₁.heap.get? b=some o->o.data= .dict es ep->H b=none:=fun {b o es ep} e d=>by
   cases q:H b with
   | none=>rfl
   | some u=>
    have e':b=a:=hA b (by rw [q];simp)
    subst e'
    rw [ha] at e;cases e
    have d':Data.seq vs.toArray _=Data.dict es ep:=d
    cases d'
  have nsK: ∀ {b:Addr} {m:Str->Option Value},s₁.heap.Ns b m->(zlv s₁.heap H).Ns b m:=fun {b m} ⟨o,es,ep,e,d,r⟩=>⟨o,es,ep,base_of e (noA e d),d,r⟩
  have hKb:K.In (zlv s₁.heap H):=fun b o e=>base_of (KX b o e) (by
    cases q:H b with
    | none=>rfl
    | some u=>
      have e':b=a:=hA b (by rw [q];simp)
      subst e'
      rw [hK (by rw [q];simp)] at e;cases e)
  have hM:Mod K mg (zlv s₁.heap H):=⟨hKb,nsK hns,⟨mb,nsK hb,hbb⟩,let ⟨mc,h1,h2⟩:=hlim;⟨mc,nsK h1,h2⟩⟩
  have e0:zm7 P w K mg (zlv s₁.heap H) callerA [] s₁ H:=⟨rfl,hM,fun b o e=>znM e,Nat.le_of_eq (zks _ _),trivial,fun b hb=>absurd (show b∈([]:List Addr) from hb) (by simp),hok,.of_eq hg,.inl rfl⟩
  refine codeAny_mono ((F _ hKb (nsK hns)).run callerA [] s₁ H ⟨[.ref a],[]⟩ [.ref a] [.ref a] _ _ hr e0 (hbind s₁ (.ref a)) (.cons rfl .nil) (hsp H hO hS)) fun r s' h=> ?_
  cases r with
  | error e=>exact (hCX H e s' h).elim
  | ok fl=>
   cases fl with
   | next=>exact qa0 h
   | brk=>exact qa0 h
   | cont=>exact qa0 h
   | ret u=>
    obtain ⟨v,H',os,bare,un,hok',r',q⟩:=h
    have q':v= .bl true:=q
    subst q'
    obtain rfl:u=Value.bool true:=r'
    refine ⟨rfl,OldK.of_keep fun b o e=> ?_,os,bare⟩
    cases q:H b with
    | none=>exact un.keep b o e q (by intro z;exact absurd (show b∈([]:List Addr) from z) (by simp)) (by simp)
    | some u=>
     rcases hO b with z | ⟨ob,xs,z⟩
     ·rw [q] at z;cases z
     ·have z2:=un.frzs b ob _ z
      obtain ⟨e1,_⟩:=hok b _ z
      obtain ⟨e2,_⟩:=hok' b _ z2
      rw [e] at e1;cases e1
      exact e2
 cases hk:K.lookup a with
 | some o=>
  have e:=KX a o hk
  rw [ha] at e
  cases e
  refine core (fun _=>none) (fun _=> .inl rfl) (.inr ⟨_,vs.toArray,_,hk,rfl,rfl,rfl,by rw [qaA,lenV];exact hl,by simpa using rv⟩) (fun b u z=>by have z':(none:Option HO)=some u:=z;cases z') (fun b z=>absurd rfl z) fun z=>absurd rfl z
 | none=>
  refine core (fun b=>if b=a then some (.frz {cls:= .type "list",data:= .seq vs.toArray} (.lst (ns.map V.int))) else none) (fun b=> ?_) (.inl (.inr ⟨{cls:= .type "list",data:= .seq vs.toArray},qa4 rfl⟩)) (fun b u z=> ?_) (fun b z=> ?_) fun _=>hk
  ·by_cases hb:b=a
   ·exact .inr ⟨_,_,qa4 hb⟩
   ·exact .inl (qa5 hb)
  ·by_cases hb:b=a
   ·have z':=(qa4 hb).symm.trans z
    cases z'
    subst hb
    exact ⟨ha,by rw [qaH];exact hl,vs,_,rv,ha⟩
   ·have z':=(qa5 hb).symm.trans z
    cases z'
  ·by_cases hb:b=a
   ·exact hb
   ·exact absurd (qa5 hb) z
noncomputable def zat (s:Stmt):Arguments:=match s with
 | .FunctionDef _ a _ _ _ _ _ _ _ _=>a
 | _=>{posonlyargs:=[],args:=[],vararg:=none,kwonlyargs:=[],kw_defaults:=[],kwarg:=none,defaults:=[]}
noncomputable def zaq (s:Stmt):List Stmt:=match s with
 | .FunctionDef _ _ b _ _ _ _ _ _ _=>b
 | _=>[]
noncomputable def zac (s:Stmt):Scope:=match s with
 | .FunctionDef _ _ _ _ _ _ sc _ _ _=>sc
 | _=>{kind:= .function,names:=[],isGenerator:=false,isCoroutine:=false}
noncomputable abbrev CX0:CXT:=fun _ _ _ _ _ _=>False
noncomputable abbrev E0:XK:=fun _ _ _=>False
theorem zsx {X:Cx}:zgA CX0 X E0:=fun _ _ _ _ _ _ _ h=>h.elim
structure Fun (K:W.Frag) (x qual:Str) (st:Stmt) (f:Addr) (fd:FuncData):Prop where
 ex: ∃ (oc:Value) (od:Option Addr) (kV doc pm:Value) (an:Option Addr) (cdv ct:Value) (osl:Array (Option Value)),
  fd=W.fnOf x qual (zat st) (zaq st) (zac st) .none kV doc pm an cdv ct/\K.lookup f=some ⟨oc,od,.func fd,osl⟩/\W.codeIn K cdv qual=true
 kp:W.keepIn K (.ref f)=true
section
variable {P:Program} {w:World} {K:W.Frag} {mg:Str->Option Value} {base:Heap}
theorem Fun.ok {x qual:Str} {st:Stmt} {f:Addr} {fd:FuncData} {N ps:List Str} {k:Nat} {sp:Sp} (F:Fun K x qual st f fd) (S:zau N ps (zac st)) (len: ∀ vs H Q E,sp vs H Q E->vs.length=ps.length)
  (hbody: ∀ (cdv:Value) (A:Around) (outer:List Env) (s:Shared) (H:Hp) (vs:List V) (Q:VK) (E:XK),zej k (A.deeper (envOfC qual (zac st) s.heap.objs.size f cdv))->sp vs H Q E->
    ∃ t,PSs (zov CX0 P w K mg base N qual (zac st) f cdv A outer s H E).nox (zaq st) t/\t {nx:=fun _ H'=>Q .non H',rt:=Q} (zfr N vs) H):zbM P w K mg base CX0 (k+1) f fd ps sp:=by
 obtain ⟨oc,od,kV,doc,pm,an,cdv,ct,osl,rfl,lk,hcd⟩:=F.ex
 refine zrt lk hcd S len fun A outer s H vs Q E hr hsp=> ?_
 obtain ⟨t,h,q⟩:=hbody cdv A outer s H vs Q E hr hsp
 exact ⟨t,h.nox,q⟩
theorem Fun.binds {x qual:Str} {st:Stmt} {f:Addr} {fd:FuncData} {ps:List Str} (F:Fun K x qual st f fd)
  (h: ∀ (kV doc pm:Value) (an:Option Addr) (cdv ct:Value) (us:List Value),us.length=ps.length->bindArgs (W.fnOf x qual (zat st) (zaq st) (zac st) .none kV doc pm an cdv ct) ⟨us,[]⟩=pure (ps.zip us)):zaX K fd ps []:=by
 obtain ⟨oc,od,kV,doc,pm,an,cdv,ct,osl,rfl,lk,hcd⟩:=F.ex
 exact .all (h kV doc pm an cdv ct)
theorem zaI {x qual:Str} {st:Stmt} {f:Addr} {oc:Value} {od an:Option Addr} {osl:Array (Option Value)} {kV doc pm cdv ct:Value} (l:K.lookup f=some ⟨oc,od,.func (W.fnOf x qual (zat st) (zaq st) (zac st) .none kV doc pm an cdv ct),osl⟩)
  (c:W.codeIn K cdv qual=true) (k:W.keepIn K (.ref f)=true):Fun K x qual st f (W.fnOf x qual (zat st) (zaq st) (zac st) .none kV doc pm an cdv ct):=⟨⟨oc,od,kV,doc,pm,an,cdv,ct,osl,rfl,l,c⟩,k⟩
end
section
variable {X:Cx}
theorem pv (i:Nat) {x:Str} {pos:Pos} (hN:X.N[i]? = some x:=by rfl) (hv:Vis X.env.scope x:=by first | exact Or.inl rfl | exact Or.inr (Or.inl rfl) | exact Or.inr (Or.inr rfl)) (hd:(x==("__debug__":Str))=false:=by decide)
  (hcd:(x==("__classdict__":Str))=false:=by decide):PE X (.Name x pos) (zsY i):=zmG hN hv hd hcd
end
theorem zoP {A B:Prop} (h:B):if false=true then A else B:=by
 rw [qa5 Bool.false_ne_true]
 exact h
theorem zoF {A B:Prop} (h:A):if true=true then A else B:=by
 rw [qa4 rfl]
 exact h
def zlm (H H':Hp):Prop:= ∀ b o,H b=some o->H' b=some o
theorem zlm.refl (H:Hp):zlm H H:=fun _ _ h=>h
theorem zlm.trans {H H1 H2:Hp} (a:zlm H H1) (b:zlm H1 H2):zlm H H2:=fun c o h=>b c o (a c o h)
theorem zlm.free {H H':Hp} (e:zlm H H') {l:Addr} (h:H' l=Option.none):H l=Option.none:=by
 cases q:H l with
 | none=>rfl
 | some o=>
  rw [e l o q] at h
  cases h
theorem zlm.seq {K:W.Frag} {H H':Hp} {a:Addr} {xs:List V} (e:zlm H H') (h:SqL K H a xs):SqL K H' a xs:=by
 rcases h with (h | ⟨o,h⟩) | h
 ·exact .inl (.inl (e _ _ h))
 ·exact .inl (.inr ⟨o,e _ _ h⟩)
 ·exact .inr h
noncomputable def zbB (cells:List (Str×Addr)):List (Str×NameKind)->List (Str×Addr)->List (Str×Addr)
 | [],acc=>acc
 | (n,k)::r,acc=>if k== .free then zbB cells r ((n,(cells.lookup n).getD 0)::acc) else zbB cells r acc
theorem zdW {scope:Scope} {env:Env} (h: ∀ x∈scope.names,x.2= .free-> ∃ c,env.cells.lookup x.1=some c):closureFor scope env=pure (zbB env.cells scope.names []):=by
 simp only [closureFor]
 generalize hn:scope.names=names at h
 clear hn
 generalize hacc:([]:List (Str×Addr))=acc
 clear hacc
 have key: ∀ (names:List (Str×NameKind)) (acc:List (Str×Addr)),(∀ x∈names,x.2= .free-> ∃ c,env.cells.lookup x.1=some c)->
   (forIn (m:=Sem) names acc fun (x:Str×NameKind) (r:List (Str×Addr))=>(match x with
     | (name,kind)=>if (kind==NameKind.free)=true then do
         let a<-cellOf env name
         pure (ForInStep.yield ((name,a)::r))
       else pure (ForInStep.yield r)))=pure (zbB env.cells names acc):=by
  intro names
  induction names with
  | nil=>intro acc _;rfl
  | cons x r ih=>
   intro acc h
   obtain ⟨n,k⟩:=x
   rw [List.forIn_cons]
   unfold zbB
   by_cases hk:(k==NameKind.free)=true
   ·simp only [hk,if_true]
    obtain ⟨c,hc⟩:=h (n,k) qau (by simpa using hk)
    have e:cellOf env n=pure c:=by unfold cellOf;rw [show env.cells.lookup n=some c from hc]
    rw [e,show (env.cells.lookup n).getD 0=c by rw [show env.cells.lookup n=some c from hc];rfl]
    exact ih _ fun y hy=>h y (qan _ hy)
   ·simp only [hk,if_false]
    exact ih _ fun y hy=>h y (qan _ hy)
 have k:=key names acc h
 refine Eq.trans (congrArg (fun (z:Sem (List (Str×Addr)))=>z>>=fun r=>pure r) k) ?_
 rfl
theorem zem {cells:List (Str×Addr)}: ∀ {names:List (Str×NameKind)} {acc:List (Str×Addr)} {n:Str} {c:Addr},(n,c)∈zbB cells names acc->
  (n,c)∈acc\/((n,NameKind.free)∈names/\c=(cells.lookup n).getD 0)
 | [],_,_,_,h=> .inl h
 | (y,k)::r,acc,n,c,h=>by
  unfold zbB at h
  by_cases hk:(k==NameKind.free)=true
  ·rw [qa4 hk] at h
   have ek:k= .free:=by simpa using hk
   subst ek
   rcases zem h with h | ⟨h1,h2⟩
   ·rcases qaP.mp h with e | h
    ·cases e
     exact .inr ⟨qau,rfl⟩
    ·exact .inl h
   ·exact .inr ⟨qan _ h1,h2⟩
  ·rw [qa5 hk] at h
   rcases zem h with h | ⟨h1,h2⟩
   ·exact .inl h
   ·exact .inr ⟨qan _ h1,h2⟩
theorem zdJ {cells:List (Str×Addr)} {x:Str} {c:Addr} (hc:cells.lookup x=some c): ∀ (names:List (Str×NameKind)) (acc:List (Str×Addr)),((x,NameKind.free)∈names\/acc.lookup x=some c)->(zbB cells names acc).lookup x=some c
 | [],acc,h=>h.elim (fun z=>nomatch z) id
 | (y,k)::r,acc,h=>by
  unfold zbB
  by_cases hk:(k==NameKind.free)=true
  ·rw [qa4 hk]
   refine zdJ hc r _ ?_
   by_cases hy:x=y
   ·subst hy
    exact .inr (by rw [List.lookup_cons,beq_self_eq_true,hc];rfl)
   ·rcases h with h | h
    ·rcases qaP.mp h with e | h
     ·cases e;exact absurd rfl hy
     ·exact .inl h
    ·refine .inr ?_
     rw [List.lookup_cons,show (x==y)=false by simpa using hy]
     exact h
  ·rw [qa5 hk]
   refine zdJ hc r _ ?_
   rcases h with h | h
   ·rcases qaP.mp h with e | h
    ·cases e;exact absurd rfl hk
    ·exact .inl h
   ·exact .inr h
theorem zcU: ∀ {names:List (Str×NameKind)} {n:Nat} {acc:List (Str×Addr)} {x:Str} {c:Addr},(x,c)∈cellsFrom n names acc->(x,c)∈acc\/(n<=c/\(x,NameKind.cell)∈names)
 | [],_,_,_,_,h=> .inl h
 | (y,k)::r,n,acc,x,c,h=>by
  unfold cellsFrom at h
  by_cases hk:(k==NameKind.cell)=true
  ·rw [qa4 hk] at h
   have ek:k= .cell:=by simpa using hk
   subst ek
   rcases zcU h with h | ⟨h,h'⟩
   ·rcases qaP.mp h with e | h
    ·cases e;exact .inr ⟨qaV _,qau⟩
    ·exact .inl h
   ·exact .inr ⟨Nat.le_of_succ_le h,qan _ h'⟩
  ·rw [qa5 hk] at h
   rcases zcU h with h | ⟨h,h'⟩
   ·exact .inl h
   ·exact .inr ⟨h,qan _ h'⟩
theorem zce {x:Str} {c:Addr}: ∀ (names:List (Str×NameKind)) (n:Nat) (acc:List (Str×Addr)),(x,NameKind.cell)∉names->acc.lookup x=some c->(cellsFrom n names acc).lookup x=some c
 | [],_,_,_,h=>h
 | (y,k)::r,n,acc,hn,h=>by
  unfold cellsFrom
  by_cases hk:(k==NameKind.cell)=true
  ·rw [qa4 hk]
   have ek:k= .cell:=by simpa using hk
   subst ek
   refine zce r _ _ (fun z=>hn (qan _ z)) ?_
   have hy:x≠y:=fun e=>hn (by rw [e];exact qau)
   rw [List.lookup_cons,show (x==y)=false by simpa using hy]
   exact h
  ·rw [qa5 hk]
   exact zce r _ _ (fun z=>hn (qan _ z)) h
theorem zci: ∀ (names:List (Str×NameKind)) (n:Nat) (acc:List (Str×Addr)),(∀ x c,(x,c)∈acc->c<n)->(acc.Pairwise fun x y=>x.2≠y.2)->(cellsFrom n names acc).Pairwise fun x y=>x.2≠y.2
 | [],_,_,_,h=>h
 | (y,k)::r,n,acc,hlt,h=>by
  unfold cellsFrom
  by_cases hk:(k==NameKind.cell)=true
  ·rw [qa4 hk]
   refine zci r (n+1) _ (fun x c hm=> ?_) (qay.mpr ⟨fun z hz e=> ?_,h⟩)
   ·rcases qaP.mp hm with e | hm
    ·cases e;exact Nat.lt_succ_self _
    ·exact Nat.lt_succ_of_lt (hlt x c hm)
   ·have:=hlt z.1 z.2 hz
    have e':n=z.2:=e
    exact qaN _ (e'▸this)
  ·rw [qa5 hk]
   exact zci r n acc hlt h
noncomputable def znx (env:Env) (scope:Scope) (C:Addr):Env:=
 {scope:=relabel scope env,locals:=C,globals:=env.globals,cells:=cellsFrom (C+1) scope.names (zbB env.cells scope.names []),qual:=env.qual,func:=none,code:=env.code,frame:=env.frame,builtins:=env.builtins}
section
variable {M:Model} {A:Around} {E:Value->Shared->Prop} {s:Shared}
theorem zfp {scope:Scope} {env:Env} {cl:List (Str×Addr)} {Q:Env->Shared->Prop}
  (hQ: ∀ h',(∀ b o,s.heap.get? b=some o->h'.get? b=some o)->h'.Ns s.heap.objs.size (fun _=>none)->(∀ x c,(x,NameKind.cell)∈scope.names->(x,c)∈cellsFrom (s.heap.objs.size+1) scope.names cl->(x,c)∉cl->h'.IsCell c none)->
    Q {scope,locals:=s.heap.objs.size,globals:=env.globals,cells:=cellsFrom (s.heap.objs.size+1) scope.names cl,qual:=env.qual,func:=none,code:=env.code,frame:=env.frame,builtins:=env.builtins} {s with heap:=h'}):
  wpAny M A (newFunctionEnv scope env.globals cl [] env.qual none .none (some env)) Q E s:=by
 simp only [newFunctionEnv,Option.isSome_some,if_true]
 refine qaW (wpAny_alloc ?_)
 refine qaW (wpAny_layCells _ (fun name kind cells=>by cases hkc:kind==NameKind.cell<;>simp [hkc]) _ _ _ _ ?_)
 simp only [List.forIn_nil]
 refine qaW (qaX (qaX ?_))
 rw [show ({s with heap:=s.heap.push {cls:= .type "dict",data:= .dict #[]}}:Shared).heap.objs.size=s.heap.objs.size+1 from qaL ..]
 have key: ∀ (names:List (Str×NameKind)) (h:Heap) (acc:List (Str×Addr)) (x:Str) (c:Addr),(x,c)∈cellsFrom h.objs.size names acc->(x,c)∉acc->(pushCells h names).IsCell c none:=by
  intro names
  induction names with
  | nil=>intro h acc x c hm hn;exact absurd hm hn
  | cons y r ih=>
   intro h acc x c hm hn
   obtain ⟨n,k⟩:=y
   unfold cellsFrom at hm
   unfold pushCells
   by_cases hk:(k==NameKind.cell)=true
   ·rw [qa4 hk] at hm ⊢
    by_cases hin:(x,c)∈((n,h.objs.size)::acc)
    ·rcases qaP.mp hin with e | e
     ·cases e
      exact ⟨_,pushCells_keeps _ _ _ _ (qar _ rfl),rfl⟩
     ·exact absurd e hn
    ·refine ih (h.push {cls:= .type "cell",data:= .cell none}) ((n,h.objs.size)::acc) x c ?_ hin
     rw [qaL]
     exact hm
   ·rw [qa5 hk] at hm ⊢
    exact ih h acc x c hm hn
 refine hQ _ (fun b o e=>pushCells_keeps _ _ b o (qag _ e)) ((Heap.Ns.new s.heap (.type "dict")).keeps (pushCells_keeps _ _)) fun x c _ hm hn=> ?_
 refine key scope.names _ cl x c ?_ hn
 rw [qaL]
 exact hm
end
section
variable {prog:Program} {w:World} {A:Around} {E:Value->Shared->Prop} {R:Result->Shared->Prop} {s:Shared}
theorem zgU {elt target iter:Expr} {ifs:List Expr} {scope:Scope} {pos:Pos} {it acc:Value} {env:Env} (I:Nat->Shared->Prop)
  (turn: ∀ n s,I n s->wpAny (model prog w) A (pyNext it) (fun r s₁=>match r with
    | none=>R (.ok .next) s₁
    | some v=>wpAny (model prog w) A (letOwnedTupleGo target it v) (fun _ s₁'=>wpAny (model prog w) A (assign target env v) (fun _ s₂=>
        wpAny (model prog w) A (forIn ifs true fun c r=>if r=true then do let ok<-isTrue c env (eval c env);pure (ForInStep.yield ok) else pure (ForInStep.yield r)) (fun ok s₃=>
          if ok=true then wpAny (model prog w) A (eval elt env) (fun x s₄=>
            wpAny (model prog w) A (call (.builtin "list.append") [acc,x]) (fun _ s₅=> ∃ m,m<n/\I m s₅) (fun _ _=>False) s₄) (fun _ _=>False) s₃
          else ∃ m,m<n/\I m s₃) (fun _ _=>False) s₂) (fun _ _=>False) s₁') (fun _ _=>False) s₁) (fun _ _=>False) s)
  (n:Nat) (h:I n s):
  codeAny (model prog w) A (.compLoop (.ListComp elt [⟨target,iter,ifs,0⟩] scope pos) 0 it acc env) R s:=by
 refine codeAny_loop rfl I (fun n s hI=> ?_) n h
 show wpAny _ A ((compTurn (.ListComp elt [⟨target,iter,ifs,0⟩] scope pos) 0 it acc env).onRaise (fun x=>do noteFrame x env;theTreesLotGoes x)) _ _ s
 refine wpAny_noted ?_
 rw [compTurn_list]
 refine qaW (wpAny_standAt (qaW (qaZ (turn n s hI) (fun r s₁ h₁=> ?_) fun _ _ h'=>h'.elim)))
 cases r with
 | none=>exact qaX h₁
 | some v=>
  refine qaW (qaZ h₁ (fun _ s₁' h₁'=> ?_) fun _ _ h'=>h'.elim)
  refine qaW (qaZ h₁' (fun _ s₂ h₂=>qaW (qaZ h₂ (fun ok s₃ h₃=> ?_) fun _ _ h'=>h'.elim)) fun _ _ h'=>h'.elim)
  cases ok with
  | false=>exact qaX ⟨rfl,h₃⟩
  | true=>
   exact qaW (qaW (qaZ h₃ (fun x s₄ h₄=>qaW (qaZ h₄ (fun _ s₅ h₅=>qaX (qaX ⟨rfl,h₅⟩)) fun _ _ h'=>h'.elim)) fun _ _ h'=>h'.elim))
end
noncomputable abbrev cxB (X:Cx) (scope:Scope) (N:List Str) (s:Shared) (H:Hp) (fp:List Addr):Cx:=
 {prog:=X.prog,w:=X.w,K:=X.K,mg:=X.mg,base:=X.base,A:=X.A,N:=N,s₀:=s,H₀:=H,env:=znx X.env scope s.heap.objs.size,outer:=X.stack,stack:=X.stack,ex:=fp,
   fn:=fun x=>scope.names.lookup x==some .cell,calm:=X.calm,pn:=[],xe:=fun _ _=>False}
noncomputable def zm6 (Xn:List (Str×NameKind)) (XN:List Str) (names:List (Str×NameKind)) (N:List Str) (src:List (Option Nat)):Bool:=
 decide N.Nodup && decide (names.map (·.1)).Nodup && (src.length==N.length) &&
 names.all (fun x=>x.2 != .local || names.lookup x.1==some .local) &&
 names.all (fun x=>x.2 != .cell || names.lookup x.1==some .cell) &&
 names.all (fun x=>x.2 != .free || Xn.lookup x.1==some .cell || Xn.lookup x.1==some .free) &&
 (N.zip src).all (fun p=>match p.2 with
   | none=>true
   | some i=>XN[i]? == some p.1 && names.lookup p.1==some .free)
structure BOk (X:Cx) (scope:Scope) (N:List Str) (src:List (Option Nat)):Prop where
 kind:scope.kind= .function
 nd:N.Nodup
 keys:(scope.names.map (·.1)).Nodup
 len:src.length=N.length
 locs: ∀ x∈scope.names,x.2= .local->scope.names.lookup x.1=some .local
 cels: ∀ x∈scope.names,x.2= .cell->scope.names.lookup x.1=some .cell
 free: ∀ x∈scope.names,x.2= .free->X.env.kindOf x.1=some .cell\/X.env.kindOf x.1=some .free
 src: ∀ (k i:Nat) (x:Str),src[k]? = some (some i)->N[k]? = some x->X.N[i]? = some x/\scope.names.lookup x=some .free
theorem BOk.of {X:Cx} {scope:Scope} {N:List Str} {src:List (Option Nat)} {Xn:List (Str×NameKind)} {XN:List Str} (hk:scope.kind= .function) (hX:X.env.scope.names=Xn) (hN:X.N=XN)
  (h:zm6 Xn XN scope.names N src=true):BOk X scope N src:=by
 unfold zm6 at h
 simp only [qaG,qaD,List.all_eq_true,beq_iff_eq] at h
 obtain ⟨⟨⟨⟨⟨⟨h1,h2⟩,h3⟩,h4⟩,h4'⟩,h5⟩,h6⟩:=h
 refine ⟨hk,h1,h2,h3,fun x hx e=> ?_,fun x hx e=> ?_,fun x hx e=> ?_,fun k i x e1 e2=> ?_⟩
 ·have:=h4 x hx
  rw [e] at this
  simpa using this
 ·have:=h4' x hx
  rw [e] at this
  simpa using this
 ·have:=h5 x hx
  rw [e] at this
  unfold Env.kindOf
  rw [hX]
  simpa using this
 ·have hm:(x,some i)∈N.zip src:=by
   refine List.mem_iff_getElem?.mpr ⟨k,?_⟩
   rw [List.getElem?_zip_eq_some]
   exact ⟨e2,e1⟩
  have:=h6 _ hm
  dsimp only at this
  simp only [qaG,beq_iff_eq] at this
  rw [hN]
  exact this
noncomputable def bStart (src:List (Option Nat)) (σ:St):St:=src.map fun o=>o.bind fun i=>(σ[i]?).join
theorem zfs {scope:Scope} {env:Env} {x:Str}:(relabel scope env).names.lookup x=(scope.names.lookup x).map fun k=>if (k== .free && env.scope.kind== .function && env.kindOf x==some .cell) then .cell else k:=by
 show List.lookup x (scope.names.map _)=_
 induction scope.names with
 | nil=>rfl
 | cons y r ih=>
  obtain ⟨n,k⟩:=y
  rw [qaM]
  dsimp only
  by_cases hx:x=n
  ·subst hx
   by_cases hc:(k==NameKind.free && env.scope.kind== .function && env.kindOf x==some .cell)=true
   ·rw [qa4 hc,List.lookup_cons,List.lookup_cons,beq_self_eq_true]
    dsimp only [Option.map]
    rw [qa4 hc]
   ·rw [qa5 hc,List.lookup_cons,List.lookup_cons,beq_self_eq_true]
    dsimp only [Option.map]
    rw [qa5 hc]
  ·have hb:(x==n)=false:=by simpa using hx
   by_cases hc:(k==NameKind.free && env.scope.kind== .function && env.kindOf n==some .cell)=true
   ·rw [qa4 hc,List.lookup_cons,List.lookup_cons,hb]
    exact ih
   ·rw [qa5 hc,List.lookup_cons,List.lookup_cons,hb]
    exact ih
section
variable {X:Cx} {pins:List (Addr×Obj)} {σ:St} {H:Hp} {s:Shared} {scope:Scope} {N:List Str} {src:List (Option Nat)} {fp:List Addr}
theorem znI (I:Inv X pins σ H s) (B:BOk X scope N src) {x:Str} {c:Addr} (h:(x,c)∈zbB X.env.cells scope.names []):X.env.cells.lookup x=some c/\(x,NameKind.free)∈scope.names:=by
 rcases zem h with z | ⟨z,e⟩
 ·exact nomatch z
 ·obtain ⟨c',hc⟩:=I.ok.has x (B.free _ z rfl)
  rw [hc] at e
  exact ⟨by rw [hc,e];rfl,z⟩
theorem zgq {l:List (Str×NameKind)} (h:(l.map (·.1)).Nodup) {x:Str} {j k:NameKind} (a:(x,j)∈l) (b:(x,k)∈l):j=k:=by
 induction l with
 | nil=>exact nomatch a
 | cons y r ih=>
  obtain ⟨h1,h2⟩:=List.nodup_cons.mp (show (y.1::r.map (·.1)).Nodup from h)
  rcases qaP.mp a with e | a<;>rcases qaP.mp b with e' | b
  ·rw [<- e] at e';cases e';rfl
  ·exact absurd (qaU.mpr ⟨_,b,by rw [<- e]⟩) h1
  ·exact absurd (qaU.mpr ⟨_,a,by rw [<- e']⟩) h1
  ·exact ih h2 a b
theorem zeo (I:Inv X pins σ H s): ∀ (names:List (Str×NameKind)) (acc:List (Str×Addr)),(∀ x∈names,x.2= .free-> ∃ c,X.env.cells.lookup x.1=some c)->(names.map (·.1)).Nodup->(∀ x c,(x,c)∈acc->X.env.cells.lookup x=some c/\x∉names.map (·.1))->
  (acc.Pairwise fun x y=>x.2≠y.2)->(zbB X.env.cells names acc).Pairwise fun x y=>x.2≠y.2
 | [],_,_,_,_,h=>h
 | (n,k)::r,acc,hf,nd,ha,h=>by
  unfold zbB
  obtain ⟨h1,h2⟩:=List.nodup_cons.mp (show (n::r.map (·.1)).Nodup from nd)
  by_cases hk:(k==NameKind.free)=true
  ·rw [qa4 hk]
   obtain ⟨c,hc⟩:=hf (n,k) qau (by simpa using hk)
   have hc:X.env.cells.lookup n=some c:=hc
   rw [show (X.env.cells.lookup n).getD 0=c by rw [hc];rfl]
   refine zeo I r _ (fun x hx=>hf x (qan _ hx)) h2 (fun x c' hm=> ?_) (qay.mpr ⟨fun y hy e=> ?_,h⟩)
   ·rcases qaP.mp hm with e | hm
    ·cases e;exact ⟨hc,h1⟩
    ·exact ⟨(ha x c' hm).1,fun z=>(ha x c' hm).2 (qan _ z)⟩
   ·obtain ⟨q1,q2⟩:=ha y.1 y.2 hy
    have e':c=y.2:=e
    rw [<- e'] at q1
    have:=I.ok.inj _ _ _ hc q1
    exact q2 (by rw [<- this];exact qau)
  ·rw [qa5 hk]
   exact zeo I r acc (fun x hx=>hf x (qan _ hx)) h2 (fun x c' hm=>⟨(ha x c' hm).1,fun z=>(ha x c' hm).2 (qan _ z)⟩) h
theorem zka (I:Inv X pins σ H s) (B:BOk X scope N src) (hf: ∀ b∈fp,zhn X pins H b) (hfo: ∀ b∈fp, ∃ o,s.heap.get? b=some o) {h':Heap} (hk: ∀ b o,s.heap.get? b=some o->h'.get? b=some o) (hns:h'.Ns s.heap.objs.size (fun _=>none))
  (hce: ∀ x c,(x,NameKind.cell)∈scope.names->(x,c)∈cellsFrom (s.heap.objs.size+1) scope.names (zbB X.env.cells scope.names [])->(x,c)∉zbB X.env.cells scope.names []->h'.IsCell c none):
  Inv (cxB X scope N s H fp) [] (bStart src σ) H {s with heap:=h'}:=by
 have cin: ∀ {x:Str} {c:Addr},(x,c)∈zbB X.env.cells scope.names []->X.env.cells.lookup x=some c/\(x,NameKind.free)∈scope.names:=fun h=>znI I B h
 have old: ∀ {x:Str} {c:Addr},X.env.cells.lookup x=some c->c<s.heap.objs.size:=fun {x c} h=>(let ⟨_,q⟩:=I.cell x c h;q.lt)
 have all: ∀ {x:Str} {c:Addr},(x,c)∈cellsFrom (s.heap.objs.size+1) scope.names (zbB X.env.cells scope.names [])->(X.env.cells.lookup x=some c/\(x,NameKind.free)∈scope.names)\/(s.heap.objs.size<c/\(x,NameKind.cell)∈scope.names):=fun {x c} h=>by
  rcases zcU h with z | ⟨z,z'⟩
  ·exact .inl (cin z)
  ·exact .inr ⟨z,z'⟩
 have lk: ∀ {x:Str} {c:Addr},(znx X.env scope s.heap.objs.size).cells.lookup x=some c->(x,c)∈cellsFrom (s.heap.objs.size+1) scope.names (zbB X.env.cells scope.names []):=fun h=>PySem.mem_of_lookup h
 have hasF: ∀ x∈scope.names,x.2= .free-> ∃ c,X.env.cells.lookup x.1=some c:=fun x hx e=>I.ok.has x.1 (B.free x hx e)
 have ap:(cellsFrom (s.heap.objs.size+1) scope.names (zbB X.env.cells scope.names [])).Pairwise fun x y=>x.2≠y.2:=
  zci _ _ _ (fun x c hm=>Nat.lt_succ_of_lt (old (cin hm).1)) (zeo I scope.names [] hasF B.keys (fun _ _ z=>nomatch z) .nil)
 have outer: ∀ {x:Str} {c:Addr},(x,NameKind.free)∈scope.names->X.env.cells.lookup x=some c->(znx X.env scope s.heap.objs.size).cells.lookup x=some c:=fun {x c} h1 h2=>
  zce _ _ _ (fun z=>nomatch zgq B.keys h1 z) (zdJ h2 scope.names [] (.inl h1))
 have kinds: ∀ x,(znx X.env scope s.heap.objs.size).kindOf x=(scope.names.lookup x).map fun k=>if (k== .free && X.env.scope.kind== .function && X.env.kindOf x==some .cell) then .cell else k:=fun x=>zfs
 have ckind: ∀ x,((znx X.env scope s.heap.objs.size).kindOf x=some .cell\/(znx X.env scope s.heap.objs.size).kindOf x=some .free)->scope.names.lookup x=some .cell\/scope.names.lookup x=some .free:=fun x h=>by
  rw [kinds x] at h
  cases e:scope.names.lookup x with
  | none=>rw [e] at h;simp at h
  | some k=>
   rw [e] at h
   cases k<;>simp at h ⊢
 refine ⟨⟨I.ok.mod,B.kind,I.ok.glob,I.ok.blt,qaV _,fun x y c h1 h2=>name_of_addr ap (lk h1) (lk h2),fun x hx=> ?_,fun x c hfn hx=> ?_,I.ok.hd,I.handA,I.ok.frames,.inl rfl,fun b hb=> ?_,I.bs,qaS I.ok.bsz I.sz,fun b o e hb=> ?_,fun b hb hb'=> ?_,I.stack,I.stkFree⟩,
   rfl,I.bare,Un.kept hk,⟨_,hns,fun i x v h1 h2 h3=> ?_⟩,fun x c h=> ?_,I.hok.fresh (qaV _),fun x c h=> ?_,fun p hp=>absurd (show p∈([]:List (Addr×Obj)) from hp) (by simp),I.hok.kept hk,?_⟩
 ·-- has
  rcases ckind x hx with h | h
  ·exact Option.isSome_iff_exists.mp (W.cellsFrom_some scope.names _ _ (.inl h))
  ·have hm:=PySem.mem_of_lookup h
   obtain ⟨c,hc⟩:=hasF _ hm rfl
   exact ⟨c,outer hm hc⟩
 ·-- cab
  have hfn:scope.names.lookup x=some .cell:=by simpa using hfn
  rcases all (lk hx) with ⟨_,z⟩ | ⟨z,_⟩
  ·exact absurd (zgq B.keys z (PySem.mem_of_lookup hfn)) (by decide)
  ·exact Nat.le_of_lt z
 ·-- exf
  obtain ⟨o,ho⟩:=hfo b hb
  refine ⟨qaR (qaQ ho),fun x c hx z=> ?_⟩
  rcases all (lk hx) with ⟨q,_⟩ | ⟨q,_⟩
  ·exact (hf b hb).2.2.2.2.1 x c q z
  ·have:=qaQ ho
   rw [<- z] at this
   exact qaN _ (Nat.lt_trans q this)
 ·-- noex
  rcases (hf b hb).2.2.2.1 with z | z
  ·exact I.ok.noex b o e z
  ·exact qaN _ (qaw (qaw (qaQ e) I.ok.bsz) z)
 ·-- exfs
  rcases qaP.mp (I.stkSub b hb') with z | z
  ·exact (hf b hb).2.1 z
  ·exact (hf b hb).2.2.1 z
 ·-- loc
  unfold bStart at h2
  rw [List.getElem?_map] at h2
  cases e:src[i]? with
  | none=>rw [e] at h2;cases h2
  | some o=>
   rw [e] at h2
   cases o with
   | none=>cases h2
   | some j=>
    have h2:(σ[j]?).join=some v:=by simpa using h2
    have e3:σ[j]? = some (some v):=by
     cases q:σ[j]? with
     | none=>rw [q] at h2;cases h2
     | some z=>rw [q] at h2;simp at h2;rw [h2]
    obtain ⟨b1,b2⟩:=B.src i j x e h1
    have hm:=PySem.mem_of_lookup b2
    obtain ⟨m,hn,hl⟩:=I.loc
    have hfr:=B.free _ hm rfl
    obtain ⟨u,r,l⟩:=hl j x v b1 e3 (.inr hfr)
    rcases l with ⟨k,_⟩ | ⟨k,c,hc,q⟩
    ·rcases hfr with z | z<;>(have z':=k.symm.trans z;cases z')
    ·refine ⟨u,r,.inr ⟨?_,c,outer hm hc,q.keeps hk⟩⟩
     rw [kinds x,b2]
     dsimp only [Option.map]
     split
     ·exact .inl rfl
     ·exact .inr rfl
 ·-- cell
  rcases all (lk h) with ⟨q,_⟩ | ⟨q,q'⟩
  ·obtain ⟨v,z⟩:=I.cell x c q
   exact ⟨v,z.keeps hk⟩
  ·exact ⟨none,hce x c q' (lk h) fun z=>absurd (Nat.lt_trans q (old (cin z).1)) (qaN _)⟩
 ·-- freeC
  rcases all (lk h) with ⟨q,_⟩ | ⟨q,q'⟩
  ·exact I.freeC x c q
  ·exact I.hok.fresh (Nat.le_of_lt q)
 ·unfold bStart
  rw [qaH]
  exact B.len
end
def PCs (X:Cx) (ifs:List Expr) (t:TT):Prop:=
 ∀ (pins:List (Addr×Obj)) (s:Shared) (σ:St) (H:Hp) (Q:Bool->Hp->Prop),Inv X pins σ H s->t σ H Q->
  wpAny (model X.prog X.w) X.A (forIn ifs true fun c r=>if r=true then do let ok<-isTrue c X.env (eval c X.env);pure (ForInStep.yield ok) else pure (ForInStep.yield r)) (TP X pins σ Q) X.xe s
noncomputable def zte:TT:=fun _ H Q=>Q true H
theorem zoj {X:Cx}:PCs X [] zte:=fun pins s σ H Q I h=>wpAny_tests_nil ⟨H,I,h⟩
theorem zou {X:Cx} {c:Expr} {t:TT} (h:PT X c t):PCs X [c] t:=fun pins s σ H Q I hw=>wpAny_tests_one (h pins s σ H Q I hw)
def zro (J:It) (g:TG) (tc:TT) (te:TE) (σ0:St) (H1:Hp) (D:Addr) (Q:Hp->Prop):Prop:=
 ∃ W:Nat->Nat->St->Hp->Prop,(∃ m,W 0 m σ0 (upd H1 D (.lst [])))/\ ∀ i m σ' H',W i m σ' H'->
  (J.stop i H'/\Q H')\/(J.go i H'/\ ∃ Nn:St->Hp->Prop,(∀ σ2 H2,Nn σ2 H2-> ∃ m',m'<m/\W (i+1) m' σ2 H2)/\ ∀ x H2,J.yld i H' x H2->g x σ' H2 fun σ2 H3=>tc σ2 H3 fun b H4=>
    if b=true then te σ2 H4 fun y H5=> ∃ xs,H5 D=some (.lst xs)/\xs.length<sizeLine/\Nn σ2 (upd H5 D (.lst (xs++[y]))) else Nn σ2 H4)
section
variable {X:Cx} {scope:Scope} {N:List Str} {src:List (Option Nat)} {tg iter elt:Expr} {ifs:List Expr} {pos:Pos}
theorem zh8 {pins:List (Addr×Obj)} {σ:St} {H:Hp} {s₂:Shared} {it:Addr} {fp:List Addr} {tn:Nat->Heap->Prop} {J:It} {g:TG} {tc:TT} {te:TE} {Q:Addr->Hp->Prop} {E:Value->Shared->Prop} {RR:Value->Addr->Result->Shared->Prop}
  (B:BOk X scope N src)
  (hg: ∀ s H fp,PG (cxB X scope N s H fp) tg g) (ht: ∀ s H fp,PCs (cxB X scope N s H fp) ifs tc) (he: ∀ s H fp,PE (cxB X scope N s H fp) elt te)
  (I2:Inv X pins σ H s₂) (T:zoH X.prog X.w X.K tg J fp it tn) (st2:tn 0 s₂.heap) (f2: ∀ b∈fp,zhn X pins H b) (hw: ∀ D,H D=none->zro J g tc te (bStart src σ) H D (Q D))
  (hRR: ∀ D C H' s' m,Inv X pins σ H' s'->s'.heap.Ns C m->s₂.heap.objs.size<=C->C<s'.heap.objs.size->H' C=none->Q D H'->RR (.ref D) C (.ok .next) s'):
  wpAny (model X.prog X.w) X.A (newList []) (fun acc s₃=>wpAny (model X.prog X.w) X.A (newFunctionEnv scope X.env.globals (zbB X.env.cells scope.names []) [] X.env.qual none .none (some X.env)) (fun cenv s₄=>
    codeAny (model X.prog X.w) X.A (.compStart (.ListComp elt [⟨tg,iter,ifs,0⟩] scope pos) 0 (.ref it) acc {cenv with scope:=relabel scope X.env}) (RR acc cenv.locals) s₄) E s₃) E s₂:=by
 refine qaC (zfp fun h₁ hk₁ hns₁ hce₁=> ?_)
 dsimp only at hk₁ hns₁ hce₁ ⊢
 have hfresh:H s₂.heap.objs.size=none:=I2.hok.fresh (qaV _)
 have I3:Inv X pins σ (upd H s₂.heap.objs.size (.lst [])) {s₂ with heap:=s₂.heap.push {cls:= .type "list",dict:=none,data:= .seq ([]:List Value).toArray}}:=by
  have:=I2.lnew (its:=[]) (ys:=[]) (t':=s₂.toks) .nil (Nat.zero_le _)
  exact this
 obtain ⟨W,⟨m0,w0⟩,turn⟩:=hw _ hfresh
 generalize hD:s₂.heap.objs.size=D at*
 generalize hs3:({s₂ with heap:=s₂.heap.push {cls:= .type "list",dict:=none,data:= .seq ([]:List Value).toArray}}:Shared)=s₃ at*
 have hh3:s₂.heap.push {cls:= .type "list",dict:=none,data:= .seq ([]:List Value).toArray}=s₃.heap:=by rw [<- hs3]
 rw [hh3] at hk₁ hns₁ hce₁ ⊢
 have push3: ∀ b o,s₂.heap.get? b=some o->s₃.heap.get? b=some o:=fun b o e=>by rw [<- hs3];exact qag _ e
 have sz3:s₃.heap.objs.size=D+1:=by rw [<- hs3, <-hD];exact qaL ..
 have fpo: ∀ b∈fp, ∃ o,s₂.heap.get? b=some o/\ ∀ v,o.data≠ .cell v:=T.obj _ _ st2
 have fpD: ∀ b∈fp,b≠D:=fun b hb z=>by
  obtain ⟨o,e,_⟩:=fpo b hb
  have:=qaQ e
  rw [z, <-hD] at this
  exact qaN _ this
 have f3: ∀ b∈fp,zhn X pins (upd H D (.lst [])) b:=fun b hb=>⟨by rw [zaG (fpD b hb)];exact (f2 b hb).1,(f2 b hb).2⟩
 have I4:Inv (cxB X scope N s₃ (upd H D (.lst [])) fp) [] (bStart src σ) (upd H D (.lst [])) {s₃ with heap:=h₁}:=
  zka I3 B f3 (fun b hb=>let ⟨o,e,_⟩:=fpo b hb;⟨o,push3 b o e⟩) hk₁ hns₁ hce₁
 have fB: ∀ {H':Hp},(∀ b∈fp,H' b=none)-> ∀ b∈fp,zhn (cxB X scope N s₃ (upd H D (.lst [])) fp) [] H' b:=fun {H'} hn b hb=>
  ⟨hn b hb,(I4.ok.exf b hb).1,I4.ok.exfs b hb,.inl hb,fun x c e=>(I4.ok.exf b hb).2 x c e,fun p hp=>absurd (show p∈([]:List (Addr×Obj)) from hp) (by simp)⟩
 have stat4: ∀ s',s'=({s₃ with heap:=h₁}:Shared)->codeAny (model X.prog X.w) X.A (.compLoop (.ListComp elt [⟨tg,iter,ifs,0⟩] scope pos) 0 (.ref it) (.ref D) (znx X.env scope s₃.heap.objs.size)) (RR (.ref D) s₃.heap.objs.size) s':=by
  intro s' es
  refine zgU (fun n s'=> ∃ i σ' H',Inv (cxB X scope N s₃ (upd H D (.lst [])) fp) [] σ' H' s'/\tn i s'.heap/\(∀ b∈fp,H' b=none)/\W i n σ' H') ?_ m0 ⟨0,_,_,by rw [es];exact I4,by rw [es];exact T.keep _ _ _ st2 fun b hb o e=>hk₁ b o (push3 b o e),fun b hb=>(f3 b hb).1,w0⟩
  rintro n s5 ⟨i,σ5,H5,I5,st5,fr5,w5⟩
  rcases turn i n σ5 H5 w5 with ⟨stop,qn⟩ | ⟨go,Nn,hN,step⟩
  ·refine thn (T.done (cxB X scope N s₃ (upd H D (.lst [])) fp) rfl rfl rfl i [] s5 σ5 H5 _ I5 (fB fr5) st5 stop) fun r s6 ⟨hr,I6⟩=> ?_
   subst hr
   obtain ⟨m,hnC,_⟩:=I6.loc
   have un:=I6.base
   have u2:Un (frs X.stack) fp H H5 s₂.heap s6.heap:=by
    refine Un.trans ?_ un
    have:=Un.laid (fs:=frs X.stack) (ex:=fp) (H:=H) (h:=s₂.heap) (h':=s₃.heap) (a:=D) (o:= .lst []) push3 (Nat.le_of_eq hD) hfresh
    exact this
   refine hRR D _ H5 s6 m (I2.call' (ch:=fp) (by rw [I6.os, <-hs3]) u2 I6.hok I6.bare fun b hb=> ?_) hnC (by rw [sz3];exact Nat.le_succ _) hnC.lt I6.free qn
   obtain ⟨q0,q1,q2,q3,q4,q5⟩:=f2 b hb
   exact ⟨q3,q1,q4,q5⟩
  ·refine thn (T.item (cxB X scope N s₃ (upd H D (.lst [])) fp) rfl rfl rfl i [] s5 σ5 H5 _ I5 (fB fr5) st5 go) fun r s6 ⟨u,hr,h6⟩=> ?_
   subst hr
   refine thn h6 fun _ s7 ⟨x,H7,I7,r7,y7,st7,fr7⟩=> ?_
   have I7':=I7.pinned (fB fr7) (T.obj _ _ st7)
   refine thn (hg _ _ _ _ s7 σ5 H7 x u _ I7' r7 (step x H7 y7)) fun _ s8 ⟨σ8,H8,I8,q8⟩=> ?_
   refine thn (ht _ _ _ _ s8 σ8 H8 _ I8 q8) fun ok s9 ⟨H9,I9,q9⟩=> ?_
   have again: ∀ {σ7:St} {Hz:Hp} {sz:Shared},Inv (cxB X scope N s₃ (upd H D (.lst [])) fp) ([]++zgs fp s7.heap) σ7 Hz sz->Nn σ7 Hz-> ∃ m,m<n/\ ∃ i σ' H',Inv (cxB X scope N s₃ (upd H D (.lst [])) fp) [] σ' H' sz/\tn i sz.heap/\(∀ b∈fp,H' b=none)/\W i m σ' H':=fun {σz Hz sz} Iz nz=>by
    obtain ⟨m',hm,wz⟩:=hN _ _ nz
    refine ⟨m',hm,i+1,_,_,Iz.unpinned,T.keep _ _ _ st7 fun b hb o e=>(Iz.pin (b,o) (qak _ (qak _ (zdn hb e)))).1,fun b hb=> ?_,wz⟩
    obtain ⟨o,e,d⟩:=T.obj _ _ st7 b hb
    exact (Iz.pin (b,o) (qak _ (qak _ (zdn hb e)))).2.1
   cases ok with
   | false=>
    rw [qa5 (by decide)] at q9
    rw [qa5 (by decide)]
    exact again I9 q9
   | true=>
    rw [qa4 rfl] at q9
    rw [qa4 rfl]
    refine thn (he _ _ _ _ s9 σ8 H9 _ I9 q9) fun y s10 ⟨yv,H10,I10,ry,xs,e10,z10,q10⟩=> ?_
    refine thn (zg6 (X:=cxB X scope N s₃ (upd H D (.lst [])) fp) _ s10 σ8 H10 (.ref D) [yv] (.ref D) [y] (fun _ Hf=>Nn σ8 Hf) I10 rfl (.cons ry .nil) ⟨D,xs,yv,rfl,rfl,e10,z10,q10⟩) fun _ s11 ⟨_,H11,I11,_,q11⟩=> ?_
    exact again I11 q11
 exact codeAny_compStart_list (stat4 _ (by rw [<- hs3])) (T.self _ 0 _ _ _ (T.keep _ _ _ st2 fun b hb o e=>hk₁ b o (push3 b o e)) (stat4 _ (by rw [<- hs3])))
noncomputable def zlG (wi:TI) (g:TG) (tc:TT) (te:TE) (src:List (Option Nat)):TE:=fun σ H Q=>wi σ H fun J H1=> ∀ D,H1 D=none->zro J g tc te (bStart src σ) H1 D fun H'=>Q (.ref D) H'
theorem Inv.letGo {pins:List (Addr×Obj)} {σ:St} {H:Hp} {s:Shared} {C:Addr} {m:Str->Option Value} {h':Heap} (I:Inv X pins σ H s) (hn:s.heap.Ns C m) (hn':H C=none) (hC:X.s₀.heap.objs.size<=C) (hL:C≠X.env.locals) (hp: ∀ p∈X.pn++pins,p.1≠C) (hs:Heap.SameBut C s.heap h'):Inv X pins σ H {s with heap:=h'}:=by
 refine I.turned (t':=s.toks) (it:=C) (fun b o hb e=>(hs.2 b hb).trans e) hn' hL (.inr hC) (fun x c e z=> ?_) hp
 obtain ⟨v,o,ho,hd⟩:=I.cell x c e
 obtain ⟨o',es,ep,ho',hd',_⟩:=hn
 rw [z,ho'] at ho
 cases ho
 rw [hd'] at hd
 cases hd
theorem zkz {wi:TI} {g:TG} {tc:TT} {te:TE} (B:BOk X scope N src) (hi:PI X tg iter wi)
  (hg: ∀ s H fp,PG (cxB X scope N s H fp) tg g) (ht: ∀ s H fp,PCs (cxB X scope N s H fp) ifs tc) (he: ∀ s H fp,PE (cxB X scope N s H fp) elt te)
  (hs: ∀ x,foldedSetIterable iter X.env x=pure x:=by intro _;rfl):PE X (.ListComp elt [⟨tg,iter,ifs,0⟩] scope pos) (zlG wi g tc te src):=by
 intro pins s σ H Q I h
 rw [eval_ListComp]
 refine wpAny_comprehension_free (use:=none) rfl hs (zdW fun x hx e=>I.ok.has x.1 (B.free x hx e)) B.kind B.locs ?_
 refine thn (hi pins s σ H _ I h) fun v s1 h1=>thn h1 fun itv s2 h2=> ?_
 obtain ⟨it,fp,tn,J,H2,e,I2,T,st2,f2,hw⟩:=h2
 subst e
 refine zh8 (RR:=fun acc C=>compPost (model X.prog X.w) X.A X.xe none (EP X pins σ Q) acc C) (Q:=fun D H'=>Q (.ref D) H') B hg ht he I2 T st2 f2 hw ?_
 intro D C H' s' m I' hn hC hCs hf q
 refine ⟨m,hn,fun h' hs'=>⟨.ref D,H',I'.letGo hn hf (qaS I2.sz hC) (fun z=> ?_) (fun p hp z=> ?_) hs',rfl,q⟩⟩
 ·exact qaN _ (qaw (z▸I2.lt) hC)
 ·have:=qaQ (I2.pin p hp).1
  rw [z] at this
  exact qaN _ (qaw this hC)
theorem ziO {wi:TI} {g:TG} {tc:TT} {te:TE} {i:Nat} {y:Str} {py spos:Pos} (B:BOk X scope N src) (hi:PI X tg iter wi)
  (hg: ∀ s H fp,PG (cxB X scope N s H fp) tg g) (ht: ∀ s H fp,PCs (cxB X scope N s H fp) ifs tc) (he: ∀ s H fp,PE (cxB X scope N s H fp) elt te)
  (hN:X.N.Nodup) (hy:X.N[i]? = some y) (hx:Loc X.env.scope y) (hsw:swapsWith (.ListComp elt [⟨tg,iter,ifs,0⟩] scope pos) (some (.Name y py)) spos.line X.env=pure true)
  (hf:X.fn y=true\/X.env.scope.names.lookup y=some .local:=by first | exact .inl rfl | exact .inr rfl | assumption)
  (hs: ∀ x,foldedSetIterable iter X.env x=pure x:=by intro _;rfl):PS X (.Assign [.Name y py] (.ListComp elt [⟨tg,iter,ifs,0⟩] scope pos) spos) (zss (zlG wi g tc te src) (zoa i)):=by
 intro pins s σ H D0 I h
 rw [exec_Assign_Name_used _ _ _ _ hsw]
 refine qaW (wpAny_standAt (qaW ?_))
 show wpAny _ X.A (do let _<-comprehension (.ListComp elt [⟨tg,iter,ifs,0⟩] scope pos) scope X.env _ (newList []) false (eval iter X.env) (some (assign (.Name y py) X.env))) _ _ s
 refine qaW (qaZ (wpAny_comprehension_free (use:=some (assign (.Name y py) X.env)) (Q:=fun _ s'=>SP X pins D0 .next s') rfl hs (zdW fun x hx e=>I.ok.has x.1 (B.free x hx e)) B.kind B.locs ?_)
   (fun _ s' hq=>qaX (qaX hq)) fun _ _ e=>e)
 refine thn (hi pins s σ H _ I h) fun v s1 h1=>thn h1 fun itv s2 h2=> ?_
 obtain ⟨it,fp,tn,J,H2,e,I2,T,st2,f2,hw⟩:=h2
 subst e
 refine zh8 (RR:=fun acc C=>compPost (model X.prog X.w) X.A X.xe (some (assign (.Name y py) X.env)) (fun _ s'=>SP X pins D0 .next s') acc C) (Q:=fun D H'=>D0.nx (σ.set i (some (.ref D))) H') B hg ht he I2 T st2 f2 hw ?_
 intro D C H' s' m I' hn hC hCs hf' q
 show wpAny _ X.A (assign (.Name y py) X.env (.ref D)) _ _ _
 have hCL:C≠X.env.locals:=fun z=>qaN _ (qaw (z▸I2.lt) hC)
 have hCp: ∀ p∈X.pn++pins,p.1≠C:=fun p hp z=>by
  have:=qaQ (I2.pin p hp).1
  rw [z] at this
  exact qaN _ (qaw this hC)
 have hCc: ∀ x c,X.env.cells.lookup x=some c->c≠C:=fun x c e z=>by
  obtain ⟨v,hv⟩:=I2.cell x c e
  exact qaN _ (qaw (z▸hv.lt) hC)
 obtain ⟨oC,es,ep,hoC,hdC,hrest⟩:=hn
 have hCfs:C∉X.fs:=I2.nofs hC
 have Ip:Inv X (pins++[(C,oC)]) σ H' s':=I'.pins_of fun p hp=>by
  rcases qaK.mp hp with z | z
  ·exact I'.pin p (qak _ z)
  ·obtain rfl:p=(C,oC):=by simpa using z
   exact ⟨hoC,hf',hCL,hCfs,fun v z=>by have z':=hdC.symm.trans z;cases z'⟩
 refine wpAny_assign_Name (zgm Ip hN hy hx (v:= .ref D) rfl (fun s3 I3=> ?_) hf)
 have hC3:=(I3.pin (C,oC) (by simp)).1
 refine ⟨m,⟨oC,es,ep,hC3,hdC,hrest⟩,fun h' hs'=> ?_⟩
 exact ⟨_,H',(I3.unpinned).letGo ⟨oC,es,ep,hC3,hdC,hrest⟩ hf' (qaS I2.sz hC) hCL hCp hs',q⟩
end
end L2
namespace L3
open PySem PySem.Spec PyProof.Rows L2
inductive D where
 | non | bl (b:Bool) | int (i:Int) | str (x:Str) | tup (xs:List D) | lst (xs:List D) | cel (n:Nat) | set (xs:List Int) | dct | fn (a:Addr) | scr (xs:List D) | exn (c:String)
inductive C where
 | lst (xs:List D) | dic (kvs:List (Int×D)) | dead
noncomputable abbrev Hh:=List C
structure Io where
 c:List (Option Addr)
 x:List Addr
def Io.Has (ι:Io) (a:Addr):Prop:=some a∈ι.c\/a∈ι.x
inductive R (α:Type) where
 | ok (a:α) (h:Hh) | exc (c:String) (h:Hh) | bad
noncomputable def M (α:Type):=Hh->R α
@[inline] noncomputable def M.bind {α β:Type} (m:M α) (f:α->M β):M β:=fun h=>match m h with
 | .ok a h'=>f a h'
 | .exc c h'=> .exc c h'
 | .bad=> .bad
@[inline] noncomputable def M.pure {α:Type} (a:α):M α:=fun h=> .ok a h
noncomputable instance:Monad M where
 pure:=M.pure
 bind:=M.bind
noncomputable def M.bad {α:Type}:M α:=fun _=> .bad
def KL (K:W.Frag) (a:Addr) (xs:List V):Prop:=SqL K (fun _=>none) a xs
mutual
noncomputable def Rel (K:W.Frag) (ι:Io) (H:Hp):D->V->Prop
 | .non,v=>v= .non
 | .bl b,v=>v= .bl b
 | .int i,v=>v= .int i
 | .str x,v=>v= .str x
 | .tup ds,v=> ∃ a vs,v= .ref a/\(H a=some (.tup vs)/\ ¬ι.Has a)/\zas K ι H ds vs
 | .lst ds,v=> ∃ a vs,v= .ref a/\(H a=some (.lst vs)/\ ¬ι.Has a)/\zas K ι H ds vs
 | .scr ds,v=> ∃ a vs,v= .ref a/\((Rd H a (.lst vs)/\ ¬ι.Has a)\/KL K a vs)/\zas K ι H ds vs
 | .cel n,v=> ∃ a,v= .ref a/\(ι.c[n]? = some (some a)\/ι.c[n]? = some none)
 | .set xs,v=> ∃ a,v= .ref a/\H a=some (.set (fun k=>xs.any (· == k)) xs.length)/\ ¬ι.Has a
 | .dct,v=> ∃ a,v= .ref a/\H a=some (.dK [])/\ ¬ι.Has a
 | .fn a,v=>v= .ref a
 | .exn c,v=> ∃ a o C head vs,v= .ref a/\(H a=some (.frz o (.own 0))/\ ¬ι.Has a)/\W.nsIn K mainGlobals (c:Str)=some (some (.ref C))/\o.cls= .ref C/\o.dict=none/\o.data= .fields vs/\vs[2]? = some .none/\vs[1]? = some head
noncomputable def zas (K:W.Frag) (ι:Io) (H:Hp):List D->List V->Prop
 | [],vs=>vs=[]
 | d::ds,vs=> ∃ v r,vs=v::r/\Rel K ι H d v/\zas K ι H ds r
end
structure zbP (ι:Io) (H:Hp) (ι':Io) (H':Hp):Prop where
 old: ∀ (n:Nat) (o:Option Addr),ι.c[n]? = some o->ι'.c[n]? = some o\/ι'.c[n]? = some none
 new: ∀ a,some a∈ι'.c->some a∈ι.c\/H a=none
 hid:ι'.x=ι.x
 hidk: ∀ a∈ι.x,H' a=H a
 keep: ∀ b o,H b=some o-> ¬ι.Has b->H' b=some o
theorem zbP.refl (ι:Io) (H:Hp):zbP ι H ι H:=⟨fun _ _ h=> .inl h,fun _ h=> .inl h,rfl,fun _ _=>rfl,fun _ _ h _=>h⟩
theorem zbP.nin {ι ι':Io} {H H':Hp} (s:zbP ι H ι' H') {a:Addr} {o:HO} (h:H a=some o) (n: ¬ι.Has a): ¬ι'.Has a:=fun z=>by
 rcases z with z | z
 ·rcases s.new a z with z | z
  ·exact n (.inl z)
  ·rw [h] at z;cases z
 ·rw [s.hid] at z;exact n (.inr z)
theorem zbP.trans {ι ι1 ι2:Io} {H H1 H2:Hp} (s:zbP ι H ι1 H1) (t:zbP ι1 H1 ι2 H2):zbP ι H ι2 H2 where
 old:=fun n o h=>by
  rcases s.old n o h with h | h
  ·exact t.old n o h
  ·rcases t.old n _ h with h | h<;>exact .inr h
 new:=fun a h=>by
  rcases t.new a h with h | h
  ·exact s.new a h
  ·by_cases z:some a∈ι.c
   ·exact .inl z
   ·refine .inr ?_
    cases q:H a with
    | none=>rfl
    | some o=>
     by_cases z':a∈ι.x
     ·rw [s.hidk a z',q] at h;cases h
     ·rw [s.keep a o q (fun w=>w.elim z z')] at h;cases h
 hid:=t.hid.trans s.hid
 hidk:=fun a h=>(t.hidk a (by rw [s.hid];exact h)).trans (s.hidk a h)
 keep:=fun b o h n=>t.keep b o (s.keep b o h n) (s.nin h n)
theorem zbP.rd {ι ι':Io} {H H':Hp} (s:zbP ι H ι' H') {a:Addr} {u:HO} (h:Rd H a u) (n: ¬ι.Has a):Rd H' a u/\ ¬ι'.Has a:=by
 rcases h with h | ⟨o,h⟩
 ·exact ⟨.inl (s.keep _ _ h n),s.nin h n⟩
 ·exact ⟨.inr ⟨o,s.keep _ _ h n⟩,s.nin h n⟩
structure Pass (ι:Io) (H:Hp) (ι':Io) (H':Hp):Prop where
 old: ∀ (n:Nat) (o:Option Addr),ι.c[n]? = some o->ι'.c[n]? = some o\/ι'.c[n]? = some none
 keep: ∀ b o,H b=some o-> ¬ι.Has b->H' b=some o/\ ¬ι'.Has b
theorem zbP.pass {ι ι':Io} {H H':Hp} (s:zbP ι H ι' H'):Pass ι H ι' H':=⟨s.old,fun b o h n=>⟨s.keep b o h n,s.nin h n⟩⟩
theorem Pass.rd {ι ι':Io} {H H':Hp} (s:Pass ι H ι' H') {a:Addr} {u:HO} (h:Rd H a u) (n: ¬ι.Has a):Rd H' a u/\ ¬ι'.Has a:=by
 rcases h with h | ⟨o,h⟩
 ·exact ⟨.inl (s.keep _ _ h n).1,(s.keep _ _ h n).2⟩
 ·exact ⟨.inr ⟨o,(s.keep _ _ h n).1⟩,(s.keep _ _ h n).2⟩
section
variable {K:W.Frag} {ι ι':Io} {H H':Hp}
mutual
theorem Rel.pass (s:Pass ι H ι' H'): ∀ {d:D} {v:V},Rel K ι H d v->Rel K ι' H' d v
 | .non,_,h=>by simpa [Rel] using h
 | .bl _,_,h=>by simpa [Rel] using h
 | .int _,_,h=>by simpa [Rel] using h
 | .str _,_,h=>by simpa [Rel] using h
 | .tup ds,v,h=>by
  simp only [Rel] at h ⊢
  obtain ⟨a,vs,e,h1,h2⟩:=h
  exact ⟨a,vs,e,s.keep _ _ h1.1 h1.2,zas.pass s h2⟩
 | .lst ds,v,h=>by
  simp only [Rel] at h ⊢
  obtain ⟨a,vs,e,h1,h2⟩:=h
  exact ⟨a,vs,e,s.keep _ _ h1.1 h1.2,zas.pass s h2⟩
 | .scr ds,v,h=>by
  simp only [Rel] at h ⊢
  obtain ⟨a,vs,e,h1,h2⟩:=h
  exact ⟨a,vs,e,h1.imp (fun z=>s.rd z.1 z.2) id,zas.pass s h2⟩
 | .cel n,v,h=>by
  simp only [Rel] at h ⊢
  obtain ⟨a,e,h⟩:=h
  refine ⟨a,e,?_⟩
  rcases h with h | h
  ·exact s.old n _ h
  ·rcases s.old n _ h with h | h<;>exact .inr h
 | .set xs,v,h=>by
  simp only [Rel] at h ⊢
  obtain ⟨a,e,h,n⟩:=h
  exact ⟨a,e,(s.keep _ _ h n).1,(s.keep _ _ h n).2⟩
 | .dct,v,h=>by
  simp only [Rel] at h ⊢
  obtain ⟨a,e,h,n⟩:=h
  exact ⟨a,e,(s.keep _ _ h n).1,(s.keep _ _ h n).2⟩
 | .fn _,_,h=>by simpa [Rel] using h
 | .exn _,_,h=>by
  simp only [Rel] at h ⊢
  obtain ⟨a,o,C,head,vs,e,h1,h2⟩:=h
  exact ⟨a,o,C,head,vs,e,s.keep _ _ h1.1 h1.2,h2⟩
theorem zas.pass (s:Pass ι H ι' H'): ∀ {ds:List D} {vs:List V},zas K ι H ds vs->zas K ι' H' ds vs
 | [],_,h=>by simpa [zas] using h
 | d::ds,_,h=>by
  simp only [zas] at h ⊢
  obtain ⟨v,r,e,h1,h2⟩:=h
  exact ⟨v,r,e,Rel.pass s h1,zas.pass s h2⟩
end
theorem Rel.step (s:zbP ι H ι' H') {d:D} {v:V} (h:Rel K ι H d v):Rel K ι' H' d v:=h.pass s.pass
theorem zas.step (s:zbP ι H ι' H') {ds:List D} {vs:List V} (h:zas K ι H ds vs):zas K ι' H' ds vs:=h.pass s.pass
theorem zas.nil:zas K ι H [] []:=by simp [zas]
theorem zas.cons {d:D} {ds:List D} {v:V} {vs:List V} (h:Rel K ι H d v) (t:zas K ι H ds vs):zas K ι H (d::ds) (v::vs):=by simp only [zas];exact ⟨v,vs,rfl,h,t⟩
theorem zas.length: ∀ {ds:List D} {vs:List V},zas K ι H ds vs->ds.length=vs.length
 | [],_,h=>by simp only [zas] at h;subst h;rfl
 | d::ds,_,h=>by
  simp only [zas] at h
  obtain ⟨v,r,rfl,_,h⟩:=h
  simp [zas.length h]
theorem zas.get: ∀ {ds:List D} {vs:List V} {i:Nat} {d:D},zas K ι H ds vs->ds[i]? = some d-> ∃ v,vs[i]? = some v/\Rel K ι H d v
 | [],_,_,_,_,e=>by simp at e
 | d::ds,_,i,x,h,e=>by
  simp only [zas] at h
  obtain ⟨v,r,rfl,h1,h2⟩:=h
  cases i with
  | zero=>simp at e;subst e;exact ⟨v,rfl,h1⟩
  | succ i=>simp at e;simpa using zas.get h2 e
theorem zas.getV: ∀ {ds:List D} {vs:List V} {i:Nat} {v:V},zas K ι H ds vs->vs[i]? = some v-> ∃ d,ds[i]? = some d/\Rel K ι H d v
 | [],_,_,_,h,e=>by simp only [zas] at h;subst h;simp at e
 | d::ds,_,i,x,h,e=>by
  simp only [zas] at h
  obtain ⟨v,r,rfl,h1,h2⟩:=h
  cases i with
  | zero=>simp at e;subst e;exact ⟨d,rfl,h1⟩
  | succ i=>simp at e;simpa using zas.getV h2 e
theorem zas.append: ∀ {ds es:List D} {vs ws:List V},zas K ι H ds vs->zas K ι H es ws->zas K ι H (ds++es) (vs++ws)
 | [],_,_,_,h,t=>by simp only [zas] at h;subst h;exact t
 | d::ds,es,_,ws,h,t=>by
  simp only [zas] at h
  obtain ⟨v,r,rfl,h1,h2⟩:=h
  exact zas.cons h1 (zas.append h2 t)
theorem zas.take: ∀ {ds:List D} {vs:List V} (n:Nat),zas K ι H ds vs->zas K ι H (ds.take n) (vs.take n)
 | _,_,0,_=>by simpa using zas.nil
 | [],_,n+1,h=>by simp only [zas] at h;subst h;exact zas.nil
 | d::ds,_,n+1,h=>by
  simp only [zas] at h
  obtain ⟨v,r,rfl,h1,h2⟩:=h
  exact zas.cons h1 (zas.take n h2)
theorem zas.drop: ∀ {ds:List D} {vs:List V} (n:Nat),zas K ι H ds vs->zas K ι H (ds.drop n) (vs.drop n)
 | _,_,0,h=>h
 | [],_,n+1,h=>by simp only [zas] at h;subst h;exact zas.nil
 | d::ds,_,n+1,h=>by
  simp only [zas] at h
  obtain ⟨v,r,rfl,h1,h2⟩:=h
  exact zas.drop n h2
theorem zas.reverse {ds:List D} {vs:List V} (h:zas K ι H ds vs):zas K ι H ds.reverse vs.reverse:=by
 induction ds generalizing vs with
 | nil=>simp only [zas] at h;subst h;exact zas.nil
 | cons d ds ih=>
  simp only [zas] at h
  obtain ⟨v,r,rfl,h1,h2⟩:=h
  rw [List.reverse_cons,List.reverse_cons]
  exact zas.append (ih h2) (zas.cons h1 zas.nil)
theorem zas.set {d:D} {v:V} (hd:Rel K ι H d v): ∀ {ds:List D} {vs:List V} (i:Nat),zas K ι H ds vs->zas K ι H (ds.set i d) (vs.set i v)
 | [],_,_,h=>by simp only [zas] at h;subst h;exact zas.nil
 | x::ds,_,i,h=>by
  simp only [zas] at h
  obtain ⟨w,r,rfl,h1,h2⟩:=h
  cases i with
  | zero=>exact zas.cons hd h2
  | succ i=>exact zas.cons h1 (zas.set hd i h2)
theorem zdj: ∀ {is:List Int} {vs:List V},zas K ι H (is.map D.int) vs↔vs=is.map V.int
 | [],vs=>by simp [zas]
 | i::is,vs=>by
  simp only [qaM,zas]
  constructor
  ·rintro ⟨v,r,rfl,h1,h2⟩
   simp only [Rel] at h1
   rw [h1,zdj.mp h2]
  ·rintro rfl
   exact ⟨_,_,rfl,by simp [Rel],zdj.mpr rfl⟩
noncomputable def CO (K:W.Frag) (ι:Io) (H:Hp):C->HO->Prop
 | .lst ds,o=> ∃ vs,o= .lst vs/\zas K ι H ds vs
 | .dic kvs,o=> ∃ vs,o= .dK vs/\Paired (fun (p:Int×D) (q:Key×V)=>q.1= .inl p.1/\Rel K ι H p.2 q.2) kvs vs
 | .dead,_=>False
theorem CO.pass {c:C} {o:HO} (s:Pass ι H ι' H') (h:CO K ι H c o):CO K ι' H' c o:=by
 cases c with
 | lst ds=>obtain ⟨vs,e,r⟩:=h;exact ⟨vs,e,r.pass s⟩
 | dic kvs=>
  obtain ⟨vs,e,r⟩:=h
  refine ⟨vs,e,?_⟩
  clear e
  induction r with
  | nil=>exact .nil
  | cons a t ih=>exact .cons ⟨a.1,a.2.pass s⟩ ih
 | dead=>exact h
structure zbc (K:W.Frag) (ι:Io) (H:Hp) (h:Hh):Prop where
 len:h.length=ι.c.length
 inj: ∀ (m n:Nat) (a:Addr),ι.c[m]? = some (some a)->ι.c[n]? = some (some a)->m=n
 at_: ∀ (n:Nat) (a:Addr) (c:C),ι.c[n]? = some (some a)->h[n]? = some c-> ∃ o,H a=some o/\CO K ι H c o
 dead: ∀ (n:Nat),ι.c[n]? = some none->h[n]? = some .dead
 hidt: ∀ a∈ι.x,(∃ o,H a=some o)/\some a∉ι.c
noncomputable abbrev Sd:=List (Option D)
def zcj (K:W.Frag) (ι:Io) (H:Hp) (sd:Sd) (σ:L2.St):Prop:=sd.length=σ.length/\ ∀ (i:Nat) (d:D),sd[i]? = some (some d)-> ∃ v,σ[i]? = some (some v)/\Rel K ι H d v
theorem zcj.pass {sd:Sd} {σ:L2.St} (s:Pass ι H ι' H') (h:zcj K ι H sd σ):zcj K ι' H' sd σ:=⟨h.1,fun i d e=>let ⟨v,h1,h2⟩:=h.2 i d e;⟨v,h1,h2.pass s⟩⟩
theorem zcj.step {sd:Sd} {σ:L2.St} (s:zbP ι H ι' H') (h:zcj K ι H sd σ):zcj K ι' H' sd σ:=⟨h.1,fun i d e=>let ⟨v,h1,h2⟩:=h.2 i d e;⟨v,h1,h2.step s⟩⟩
theorem zcj.set {sd:Sd} {σ:L2.St} {d:D} {v:V} (h:zcj K ι H sd σ) (r:Rel K ι H d v) (i:Nat):zcj K ι H (sd.set i (some d)) (σ.set i (some v)):=by
 refine ⟨by rw [qaI,qaI];exact h.1,fun j d' e=> ?_⟩
 by_cases hij:i=j
 ·subst hij
  by_cases hl:i<sd.length
  ·rw [qai hl] at e
   cases e
   exact ⟨v,by rw [qai (by rw [<- h.1];exact hl)],r⟩
  ·rw [List.getElem?_eq_none (by rw [qaI];omega)] at e
   cases e
 ·rw [qao hij] at e ⊢
  exact h.2 j d' e
theorem zcj.skip {sd:Sd} {σ:L2.St} {o:Option V} (h:zcj K ι H sd σ) (i:Nat) (hn:sd[i]? = some none):zcj K ι H sd (σ.set i o):=by
 refine ⟨by rw [qaI];exact h.1,fun j d' e=> ?_⟩
 by_cases hij:i=j
 ·subst hij;rw [hn] at e;cases e
 ·rw [qao hij];exact h.2 j d' e
end
noncomputable abbrev St:=L2.St
noncomputable abbrev XE:=String->Hp->Prop
def Fin {α:Type} (K:W.Frag) (E:XE) (ι:Io) (H:Hp) (r:R α) (P:α->Io->Hp->Prop):Prop:=match r with
 | .ok a h'=> ∀ ι' H',zbP ι H ι' H'->zbc K ι' H' h'->P a ι' H'
 | .exc c h'=> ∀ ι' H',zbP ι H ι' H'->zbc K ι' H' h'->E c H'
 | .bad=>False
section
variable {α β:Type} {K:W.Frag} {E:XE} {ι ι':Io} {H H':Hp}
theorem Fin.step {r:R α} {P:α->Io->Hp->Prop} (s:zbP ι H ι' H') (h:Fin K E ι H r P):Fin K E ι' H' r P:=by
 cases r with
 | ok a h'=>exact fun ι2 H2 t hr=>h ι2 H2 (s.trans t) hr
 | exc c h'=>exact fun ι2 H2 t hr=>h ι2 H2 (s.trans t) hr
 | bad=>exact h
theorem Fin.mono {r:R α} {P P':α->Io->Hp->Prop} (h:Fin K E ι H r P) (m: ∀ a ι' H',P a ι' H'->P' a ι' H'):Fin K E ι H r P':=by
 cases r with
 | ok a h'=>exact fun ι2 H2 t hr=>m _ _ _ (h ι2 H2 t hr)
 | exc c h'=>exact h
 | bad=>exact h
theorem Fin.bind {m:M α} {f:α->M β} {h:Hh} {P:β->Io->Hp->Prop} {P':α->Io->Hp->Prop} (q:Fin K E ι H ((m>>=f) h) P)
  (k: ∀ a h' ι' H',m h= .ok a h'->zbP ι H ι' H'->zbc K ι' H' h'->Fin K E ι' H' (f a h') P->P' a ι' H'):Fin K E ι H (m h) P':=by
 have q':Fin K E ι H (M.bind m f h) P:=q
 unfold M.bind at q'
 cases e:m h with
 | ok a h'=>
  rw [e] at q'
  intro ι' H' s hr
  exact k a h' ι' H' e s hr (Fin.step s q')
 | exc c h'=>rw [e] at q';exact q'
 | bad=>rw [e] at q';exact q'
theorem Fin.out {a:α} {h:Hh} {P:α->Io->Hp->Prop} (hr:zbc K ι H h) (q:Fin K E ι H ((pure a:M α) h) P):P a ι H:=q ι H (zbP.refl _ _) hr
end
noncomputable def zhm (K:W.Frag) (E:XE) (f:Sd->M D):TE:=fun σ H Q=> ∃ ι h sd,zcj K ι H sd σ/\zbc K ι H h/\Fin K E ι H (f sd h) fun d ι' H'=> ∀ v,Rel K ι' H' d v->Q v H'
noncomputable def zfn (K:W.Frag) (E:XE) (f:Sd->M Bool):TT:=fun σ H Q=> ∃ ι h sd,zcj K ι H sd σ/\zbc K ι H h/\Fin K E ι H (f sd h) fun b ι' H'=>Q b H'
noncomputable def zsP (K:W.Frag) (E:XE) (f:Sd->M (List D)):TA:=fun σ H Q=> ∃ ι h sd,zcj K ι H sd σ/\zbc K ι H h/\Fin K E ι H (f sd h) fun ds ι' H'=> ∀ vs,zas K ι' H' ds vs->Q vs H'
noncomputable abbrev SE (X:Cx) (E:XE) (e:Expr) (f:Sd->M D):Prop:=PE X e (zhm X.K E f)
noncomputable abbrev ST (X:Cx) (E:XE) (e:Expr) (f:Sd->M Bool):Prop:=PT X e (zfn X.K E f)
noncomputable abbrev SA (X:Cx) (E:XE) (es:List Expr) (f:Sd->M (List D)):Prop:=PA X es (zsP X.K E f)
noncomputable def zek (K:W.Frag) (E:XE) (F:D->D->M D):R2:=fun x y H Q=> ∃ ι h d1 d2,Rel K ι H d1 x/\Rel K ι H d2 y/\zbc K ι H h/\Fin K E ι H (F d1 d2 h) fun d ι' H'=> ∀ v,Rel K ι' H' d v->Q v H'
noncomputable def zjm (K:W.Frag) (E:XE) (F:List D->M D):List V->Hp->VK->Prop:=fun xs H Q=> ∃ ι h ds,zas K ι H ds xs/\zbc K ι H h/\Fin K E ι H (F ds h) fun d ι' H'=> ∀ v,Rel K ι' H' d v->Q v H'
theorem PE.imp {X:Cx} {e:Expr} {t t':TE} (h:PE X e t) (m: ∀ σ H Q,t' σ H Q->t σ H Q):PE X e t':=fun pins s σ H Q I q=>h pins s σ H Q I (m _ _ _ q)
theorem PT.imp {X:Cx} {e:Expr} {t t':TT} (h:PT X e t) (m: ∀ σ H Q,t' σ H Q->t σ H Q):PT X e t':=fun pins s σ H Q I q=>h pins s σ H Q I (m _ _ _ q)
theorem PA.imp {X:Cx} {e:List Expr} {t t':TA} (h:PA X e t) (m: ∀ σ H Q,t' σ H Q->t σ H Q):PA X e t':=fun pos pins s σ H Q I q=>h pos pins s σ H Q I (m _ _ _ q)
theorem OpR.imp {X:Cx} {f:Value->Value->Sem Value} {r r':R2} (h:OpR X f r) (m: ∀ x y H Q,r' x y H Q->r x y H Q):OpR X f r':=fun pins s σ H x y v u Q I rx ry q=>h pins s σ H x y v u Q I rx ry (m _ _ _ _ q)
theorem za0.imp {X:Cx} {f:Value} {r r':List V->Hp->VK->Prop} (h:za0 X f r) (m: ∀ xs H Q,r' xs H Q->r xs H Q):za0 X f r':=by
 intro pins s σ H xs us Q I rx q
 exact h pins s σ H xs us Q I rx (m _ _ _ q)
theorem IxR.imp {X:Cx} {r r':R2} (h:IxR X r) (m: ∀ x y H Q,r' x y H Q->r x y H Q):IxR X r':=by
 intro value slice pins s σ H x y v u Q I rx ry q hs
 exact h value slice pins s σ H x y v u Q I rx ry (m _ _ _ _ q) hs
theorem MtM.imp {X:Cx} {id:String} {r r':V->List V->Hp->VK->Prop} (h:MtM X id r) (m: ∀ x xs H Q,r' x xs H Q->r x xs H Q):MtM X id r':=fun pins s σ H x xs v us Q I rx rs q=>h pins s σ H x xs v us Q I rx rs (m _ _ _ _ q)
theorem SlR.imp {X:Cx} {r r':V->Option Int->Option Int->Hp->VK->Prop} (h:SlR X r) (m: ∀ x l u H Q,r' x l u H Q->r x l u H Q):SlR X r':=fun pins s σ H x v vl vu lo hi sl Q I rx hs pl pu q=>h pins s σ H x v vl vu lo hi sl Q I rx hs pl pu (m _ _ _ _ _ q)
theorem zoY.imp {X:Cx} {r r':zpy} (h:zoY X r) (m: ∀ o i v H Q,r' o i v H Q->r o i v H Q):zoY X r':=fun pins s σ H o i v ov iv u Q I ro ri rv q=>h pins s σ H o i v ov iv u Q I ro ri rv (m _ _ _ _ _ q)
theorem PI.imp {X:Cx} {tg iter:Expr} {t t':TI} (h:PI X tg iter t) (m: ∀ σ H Q,t' σ H Q->t σ H Q):PI X tg iter t':=fun pins s σ H Q I q=>h pins s σ H Q I (m _ _ _ q)
theorem PG.imp {X:Cx} {tg:Expr} {t t':TG} (h:PG X tg t) (m: ∀ v σ H Q,t' v σ H Q->t v σ H Q):PG X tg t':=fun pins s σ H v u Q I r q=>h pins s σ H v u Q I r (m _ _ _ _ q)
theorem PS.imp {X:Cx} {st:Stmt} {t t':TS} (h:PS X st t) (m: ∀ D σ H,t' D σ H->t D σ H):PS X st t':=fun pins s σ H D I q=>h pins s σ H D I (m _ _ _ q)
theorem PSs.imp {X:Cx} {st:List Stmt} {t t':TS} (h:PSs X st t) (m: ∀ D σ H,t' D σ H->t D σ H):PSs X st t':=fun pins s σ H D I q=>h pins s σ H D I (m _ _ _ q)
section
variable {X:Cx} {E:XE} {a b e:Expr} {es:List Expr} {pos:Pos} {fa fb:Sd->M D}
theorem te2 {K:W.Frag} {F:D->D->M D} {r:R2} (hr: ∀ x y H Q,zek K E F x y H Q->r x y H Q) (σ:St) (H:Hp) (Q:VK) (q:zhm K E (fun sd=>do let x<-fa sd;let y<-fb sd;F x y) σ H Q):tOp r (zhm K E fa) (zhm K E fb) σ H Q:=by
 obtain ⟨ι,h,sd,L,hh,q⟩:=q
 refine ⟨ι,h,sd,L,hh,Fin.bind q fun d1 h1 ι1 H1 e1 s1 hr1 q1 v r1=> ?_⟩
 refine ⟨ι1,h1,sd,L.step s1,hr1,Fin.bind q1 fun d2 h2 ι2 H2 e2 s2 hr2 q2 w r2=> ?_⟩
 exact hr _ _ _ _ ⟨ι2,h2,d1,d2,r1.step s2,r2,hr2,q2⟩
theorem zrV {op:Operator} {F:D->D->M D} (ho:OpR X (binaryOp op) (zek X.K E F)) (ha:SE X E a fa) (hb:SE X E b fb):SE X E (.BinOp a op b pos) (fun sd=>do let x<-fa sd;let y<-fb sd;F x y):=
 PE.imp (zrS ho ha hb) (te2 fun _ _ _ _ q=>q)
theorem zqz {op:CmpOp} {F:D->D->M D} (ho:OpR X (compareOp op) (zek X.K E F)) (ha:SE X E a fa) (hb:SE X E b fb) (hm:behindInMarks op b=false):SE X E (.Compare a [op] [b] pos) (fun sd=>do let x<-fa sd;let y<-fb sd;F x y):=
 PE.imp (znB ho ha hb hm) (te2 fun _ _ _ _ q=>q)
theorem zsl {F:D->D->M D} (ho:IxR X (zek X.K E F)) (ha:SE X E a fa) (hb:SE X E b fb) (hs:zgf b):SE X E (.Subscript a b pos) (fun sd=>do let x<-fa sd;let y<-fb sd;F x y):=
 PE.imp (zq3 ho ha hb hs) (te2 fun _ _ _ _ q=>q)
noncomputable def zdg:D->M Bool
 | .bl b=>pure b
 | _=>M.bad
theorem zeK {K:W.Frag} {f:Sd->M D} (σ:St) (H:Hp) (Q:Bool->Hp->Prop) (q:zfn K E (fun sd=>do let x<-f sd;zdg x) σ H Q):(zhm K E f) σ H fun x H1=> ∃ c,x= .bl c/\Q c H1:=by
 obtain ⟨ι,h,sd,L,hh,q⟩:=q
 refine ⟨ι,h,sd,L,hh,Fin.bind q fun d1 h1 ι1 H1 e1 s1 hr1 q2 v r1=> ?_⟩
 cases d1 with
 | bl b=>simp only [Rel] at r1;exact ⟨b,r1,Fin.out hr1 q2⟩
 | _=>exact qa0 q2
theorem zq0 {op:CmpOp} {F:D->D->M D} (ho:OpR X (compareOp op) (zek X.K E F)) (ha:SE X E a fa) (hb:SE X E b fb) (hm:behindInMarks op b=false):
  ST X E (.Compare a [op] [b] pos) (fun sd=>do let z<-(do let x<-fa sd;let y<-fb sd;F x y);zdg z):=by
 refine PT.imp (znV ho ha hb hm) fun σ H Q q=> ?_
 have q1:=zeK (f:=fun sd=>do let x<-fa sd;let y<-fb sd;F x y) σ H Q q
 exact te2 (fun _ _ _ _ q=>q) σ H _ q1
theorem zqb {f:Sd->M D} (h:SE X E e f) (he: ∀ whole,isTrue e X.env whole=(do let v<-whole;standAt e.pos;holding [v] (truthy v)):=by intro _;rfl):ST X E e (fun sd=>do let x<-f sd;zdg x):=
 PT.imp (zo9 h he) fun σ H Q q=>zeK σ H Q q
theorem zqM {t:Sd->M Bool} (ha:ST X E a t):ST X E (.UnaryOp .Not a pos) (fun sd=>do let c<-t sd;pure (!c)):=by
 refine PT.imp (zqf ha) fun σ H Q ⟨ι,h,sd,L,hh,q⟩=>⟨ι,h,sd,L,hh,Fin.bind q fun c h1 ι1 H1 e1 s1 hr1 q1=> ?_⟩
 exact Fin.out hr1 q1
theorem zoV {t:Sd->M Bool} (ha:ST X E a t):PW X (.BoolOp .And [a] pos) (zfn X.K E t):=pw_and1 ha
theorem zo5 {t:Sd->M Bool} (ha:ST X E a t):PW X (.BoolOp .Or [a] pos) (zfn X.K E t):=pw_or1 ha
theorem PW.imp {t t':TT} (h:PW X e t) (m: ∀ σ H Q,t' σ H Q->t σ H Q):PW X e t':=fun whole pins s σ H Q I q=>h whole pins s σ H Q I (m _ _ _ q)
theorem zpl {zbS:List Expr} {t u:Sd->M Bool} (ha:ST X E a t) (hb:PW X (.BoolOp .And (b::zbS) pos) (zfn X.K E u)):PW X (.BoolOp .And (a::b::zbS) pos) (zfn X.K E fun sd=>do let c<-t sd;if c=true then u sd else pure false):=by
 refine PW.imp (pw_and ha hb) fun σ H Q ⟨ι,h,sd,L,hh,q⟩=>⟨ι,h,sd,L,hh,Fin.bind q fun c h1 ι1 H1 e1 s1 hr1 q1=> ?_⟩
 cases c with
 | true=>exact zoF ⟨ι1,h1,sd,L.step s1,hr1,q1⟩
 | false=>exact zoP (Fin.out hr1 q1)
theorem zrK {zbS:List Expr} {t u:Sd->M Bool} (ha:ST X E a t) (hb:PW X (.BoolOp .Or (b::zbS) pos) (zfn X.K E u)):PW X (.BoolOp .Or (a::b::zbS) pos) (zfn X.K E fun sd=>do let c<-t sd;if c=true then pure true else u sd):=by
 refine PW.imp (pw_or ha hb) fun σ H Q ⟨ι,h,sd,L,hh,q⟩=>⟨ι,h,sd,L,hh,Fin.bind q fun c h1 ι1 H1 e1 s1 hr1 q1=> ?_⟩
 cases c with
 | false=>exact zoP ⟨ι1,h1,sd,L.step s1,hr1,q1⟩
 | true=>exact zoF (Fin.out hr1 q1)
theorem znT {op:BoolOp} {vs:List Expr} {t:Sd->M Bool} (h:PW X (.BoolOp op vs pos) (zfn X.K E t)):ST X E (.BoolOp op vs pos) t:=h.pt
theorem zpe {op:BoolOp} (h:SE X E a fa):SE X E (.BoolOp op [a] pos) fa:=zqv h
theorem zpK {zbS:List Expr} (ha:SE X E a fa) (hb:SE X E (.BoolOp .And (b::zbS) pos) fb):SE X E (.BoolOp .And (a::b::zbS) pos) (fun sd=>do let c<-(do let x<-fa sd;zdg x);if c=true then fb sd else pure (.bl false)):=by
 refine PE.imp (zpb ha hb) fun σ H Q ⟨ι,h,sd,L,hh,q⟩=> ?_
 have q1:=zeK (K:=X.K) (E:=E) (f:=fa) σ H (fun c H1=>if c=true then zhm X.K E fb σ H1 Q else Q (.bl false) H1) ⟨ι,h,sd,L,hh,Fin.bind q fun c h1 ι1 H1 e1 s1 hr1 q1=> ?_⟩
 ·exact q1
 ·cases c with
  | true=>exact zoF ⟨ι1,h1,sd,L.step s1,hr1,q1⟩
  | false=>exact zoP (Fin.out hr1 q1 _ (by simp [Rel]))
theorem zsb {zbS:List Expr} (ha:SE X E a fa) (hb:SE X E (.BoolOp .Or (b::zbS) pos) fb):SE X E (.BoolOp .Or (a::b::zbS) pos) (fun sd=>do let c<-(do let x<-fa sd;zdg x);if c=true then pure (.bl true) else fb sd):=by
 refine PE.imp (zsi ha hb) fun σ H Q ⟨ι,h,sd,L,hh,q⟩=> ?_
 have q1:=zeK (K:=X.K) (E:=E) (f:=fa) σ H (fun c H1=>if c=true then Q (.bl true) H1 else zhm X.K E fb σ H1 Q) ⟨ι,h,sd,L,hh,Fin.bind q fun c h1 ι1 H1 e1 s1 hr1 q1=> ?_⟩
 ·exact q1
 ·cases c with
  | false=>exact zoP ⟨ι1,h1,sd,L.step s1,hr1,q1⟩
  | true=>exact zoF (Fin.out hr1 q1 _ (by simp [Rel]))
theorem zpB (ha:SE X E a fa):SE X E (.UnaryOp .Not a pos) (fun sd=>do let c<-(do let x<-fa sd;zdg x);pure (.bl (!c))):=by
 refine PE.imp (zpd ha) fun σ H Q ⟨ι,h,sd,L,hh,q⟩=> ?_
 have q1:=zeK (K:=X.K) (E:=E) (f:=fa) σ H (fun c H1=>Q (.bl (!c)) H1) ⟨ι,h,sd,L,hh,Fin.bind q fun c h1 ι1 H1 e1 s1 hr1 q1=> ?_⟩
 ·exact q1
 ·exact Fin.out hr1 q1 _ (by simp [Rel])
noncomputable def zaf (i:Nat):Sd->M D:=fun sd=>match sd[i]? with
 | some (some d)=>pure d
 | _=>M.bad
theorem zqo (i:Nat) {x:Str} (hN:X.N[i]? = some x) (hv:Vis X.env.scope x) (hd:(x==("__debug__":Str))=false:=by decide) (hcd:(x==("__classdict__":Str))=false:=by decide):SE X E (.Name x pos) (zaf i):=by
 refine PE.imp (zmG hN hv hd hcd) fun σ H Q ⟨ι,h,sd,L,hh,q⟩=> ?_
 unfold zaf at q
 cases e:sd[i]? with
 | none=>rw [e] at q;exact qa0 q
 | some o=>
  rw [e] at q
  cases o with
  | none=>exact qa0 q
  | some d=>
   obtain ⟨v,e1,r⟩:=L.2 i d e
   exact ⟨v,e1,Fin.out hh q v r⟩
theorem ziw {K:W.Frag} {d:D} {v:V} (r: ∀ ι H,Rel K ι H d v) (σ:St) (H:Hp) (Q:VK) (q:zhm K E (fun _=>pure d) σ H Q):tC v σ H Q:=by
 obtain ⟨ι,h,sd,L,hh,q⟩:=q
 exact Fin.out hh q v (r _ _)
theorem zpR {i:Int} {j:Nat}:SE X E (.Constant (.int i) j pos) (fun _=>pure (.int i)):=PE.imp zpx (ziw fun _ _=>by simp [Rel])
theorem zrX {i:Bool} {j:Nat}:SE X E (.Constant (.bool i) j pos) (fun _=>pure (.bl i)):=PE.imp zsK (ziw fun _ _=>by simp [Rel])
theorem zqV:SA X E [] (fun _=>pure []):=PA.imp zcM fun σ H Q ⟨ι,h,sd,L,hh,q⟩=>Fin.out hh q [] zas.nil
theorem znX {fs:Sd->M (List D)} (ha:SE X E e fa) (hr:SA X E es fs) (hs:starEach (e::es) X.env=(false,eval e X.env)::starEach es X.env:=by rfl):SA X E (e::es) (fun sd=>do let x<-fa sd;let r<-fs sd;pure (x::r)):=by
 refine PA.imp (zbE ha hr hs) fun σ H Q ⟨ι,h,sd,L,hh,q⟩=>⟨ι,h,sd,L,hh,Fin.bind q fun d h1 ι1 H1 e1 s1 hr1 q1 v rv=> ?_⟩
 refine ⟨ι1,h1,sd,L.step s1,hr1,Fin.bind q1 fun ds h2 ι2 H2 e2 s2 hr2 q2 vs rvs=> ?_⟩
 exact Fin.out hr2 q2 _ (zas.cons (rv.step s2) rvs)
end
theorem zbc.nin {K:W.Frag} {ι:Io} {H:Hp} {h:Hh} (hr:zbc K ι H h) {p:Addr} (hp:H p=none): ¬ι.Has p:=fun z=>by
 rcases z with z | z
 ·obtain ⟨n,hn⟩:=List.mem_iff_getElem?.mp z
  have hl:n<h.length:=by rw [hr.len];exact (qac.mp hn).1
  obtain ⟨o,e,_⟩:=hr.at_ n p h[n] hn (by simp [hl])
  rw [hp] at e
  cases e
 ·obtain ⟨⟨o,e⟩,_⟩:=hr.hidt p z
  rw [hp] at e
  cases e
theorem zbc.laidS {K:W.Frag} {ι:Io} {H:Hp} {h:Hh} (hr:zbc K ι H h) {p:Addr} {o:HO} (hp:H p=none):zbP ι H ι (upd H p o):=
 ⟨fun _ _ h=> .inl h,fun _ h=> .inl h,rfl,fun a ha=>zaG fun z=>hr.nin hp (.inr (z▸ha)),fun b o' h _=>by rw [zaG (zaY h hp)];exact h⟩
theorem zbc.laid {K:W.Frag} {ι:Io} {H:Hp} {h:Hh} {p:Addr} {o:HO} (hr:zbc K ι H h) (hp:H p=none):zbc K ι (upd H p o) h:=
 ⟨hr.len,hr.inj,fun n a c hn hc=>by
   obtain ⟨o',e2,e3⟩:=hr.at_ n a c hn hc
   exact ⟨o',by rw [zaG (zaY e2 hp)];exact e2,e3.pass (hr.laidS hp).pass⟩,hr.dead,fun a ha=>⟨by rw [zaG (show a≠p from fun z=>hr.nin hp (.inr (z▸ha)))];exact (hr.hidt a ha).1,(hr.hidt a ha).2⟩⟩
noncomputable def fits (n:Nat):M Unit:=if n<=sizeLine then pure () else M.bad
theorem Fin.fits {α:Type} {K:W.Frag} {E:XE} {ι:Io} {H:Hp} {n:Nat} {f:M α} {h:Hh} {P:α->Io->Hp->Prop} (q:Fin K E ι H ((do L3.fits n;f) h) P):n<=sizeLine/\Fin K E ι H (f h) P:=by
 have q':Fin K E ι H (M.bind (L3.fits n) (fun _=>f) h) P:=q
 unfold M.bind L3.fits at q'
 by_cases hn:n<=sizeLine
 ·rw [qa4 hn] at q'
  exact ⟨hn,q'⟩
 ·rw [qa5 hn] at q'
  exact qa0 q'
section
variable {X:Cx} {E:XE} {es:List Expr} {pos:Pos} {fs:Sd->M (List D)}
theorem zn5 {K:W.Frag} {ι:Io} {H:Hp} {h:Hh} {ds:List D} {vs:List V} {Q:VK} (hr:zbc K ι H h) (rl:zas K ι H ds vs) (q:Fin K E ι H ((pure (.tup ds):M D) h) fun d ι' H'=> ∀ v,Rel K ι' H' d v->Q v H') {p:Addr} (hp:H p=none):Q (.ref p) (upd H p (.tup vs)):=
 q ι _ (hr.laidS hp) (hr.laid hp) _ (by
   simp only [Rel]
   exact ⟨p,vs,rfl,⟨zaR,hr.nin hp⟩,rl.step (hr.laidS hp)⟩)
theorem zrc {K:W.Frag} {ι:Io} {H:Hp} {h:Hh} {ds:List D} {vs:List V} {Q:VK} (hr:zbc K ι H h) (rl:zas K ι H ds vs) (q:Fin K E ι H ((pure (.lst ds):M D) h) fun d ι' H'=> ∀ v,Rel K ι' H' d v->Q v H') {p:Addr} (hp:H p=none):Q (.ref p) (upd H p (.lst vs)):=
 q ι _ (hr.laidS hp) (hr.laid hp) _ (by
   simp only [Rel]
   exact ⟨p,vs,rfl,⟨zaR,hr.nin hp⟩,rl.step (hr.laidS hp)⟩)
noncomputable def zbf (ds:List D):M D:=fun h=> .ok (.cel h.length) (h++[.lst ds])
theorem zrw {K:W.Frag} {ι:Io} {H:Hp} {h:Hh} {c0:C} {o0:HO} {Q:VK} (hr:zbc K ι H h) (co:CO K ι H c0 o0) (q:Fin K E ι H (.ok (.cel h.length) (h++[c0])) fun d ι' H'=> ∀ v,Rel K ι' H' d v->Q v H') {p:Addr} (hp:H p=none):Q (.ref p) (upd H p o0):=by
 have hlen:=hr.len
 have nh:=hr.nin hp
 have st:zbP ι H ⟨ι.c++[some p],ι.x⟩ (upd H p o0):=by
  refine ⟨fun n o h=> .inl ?_,fun a h=> ?_,rfl,fun a ha=>zaG fun z=>nh (.inr (z▸ha)),fun b o' h _=>by rw [zaG (zaY h hp)];exact h⟩
  ·show (ι.c++[some p])[n]? = _
   rw [qad (qac.mp h).1];exact h
  ·rcases qaK.mp h with h | h
   ·exact .inl h
   ·simp at h;subst h;exact .inr hp
 have at_: ∀ (n:Nat) (a:Addr),(ι.c++[some p])[n]? = some (some a)->(ι.c[n]? = some (some a))\/(n=ι.c.length/\a=p):=fun n a h=>by
  by_cases hl:n<ι.c.length
  ·rw [qad hl] at h;exact .inl h
  ·rw [qaa (by omega)] at h
   have:n - ι.c.length=0:=by
    cases z:n - ι.c.length with
    | zero=>rfl
    | succ k=>rw [z] at h;simp at h
   rw [this] at h
   simp at h
   exact .inr ⟨by omega,h.symm⟩
 refine q _ _ st ⟨?_,fun m n a h1 h2=> ?_,fun n a c h1 h2=> ?_,fun n h1=> ?_,fun a ha=>⟨?_,fun z=> ?_⟩⟩ _ ?_
 ·show (h++[c0]).length=(ι.c++[some p]).length
  rw [qav,qav,hlen];rfl
 ·rcases at_ m a h1 with z1 | ⟨z1,z1'⟩<;>rcases at_ n a h2 with z2 | ⟨z2,z2'⟩
  ·exact hr.inj m n a z1 z2
  ·subst z2';exact absurd (.inl (List.mem_of_getElem? z1)) nh
  ·subst z1';exact absurd (.inl (List.mem_of_getElem? z2)) nh
  ·rw [z1,z2]
 ·rcases at_ n a h1 with z1 | ⟨z1,z1'⟩
  ·rw [qad (by rw [hlen];exact (qac.mp z1).1)] at h2
   obtain ⟨o',e2,e3⟩:=hr.at_ n a c z1 h2
   exact ⟨o',by rw [zaG (zaY e2 hp)];exact e2,e3.pass st.pass⟩
  ·subst z1 z1'
   rw [<- hlen,qaa (qaV _)] at h2
   simp at h2
   subst h2
   exact ⟨o0,zaR,co.pass st.pass⟩
 ·have h1:(ι.c++[some p])[n]? = some none:=h1
  by_cases hl:n<ι.c.length
  ·rw [qad hl] at h1
   rw [qad (by rw [hlen];exact hl)]
   exact hr.dead n h1
  ·rw [qaa (by omega)] at h1
   cases z:n - ι.c.length with
   | zero=>rw [z] at h1;simp at h1
   | succ k=>rw [z] at h1;simp at h1
 ·rw [zaG (show a≠p from fun z=>nh (.inr (z▸ha)))]
  exact (hr.hidt a ha).1
 ·rcases qaK.mp z with z | z
  ·exact (hr.hidt a ha).2 z
  ·simp at z;subst z;exact nh (.inr ha)
 ·simp only [Rel]
  refine ⟨p,rfl,.inl ?_⟩
  show (ι.c++[some p])[h.length]? = _
  rw [hlen,qaa (qaV _)]
  simp
theorem zsV {K:W.Frag} {ι:Io} {H:Hp} {h:Hh} {ds:List D} {vs:List V} {Q:VK} (hr:zbc K ι H h) (rl:zas K ι H ds vs) (q:Fin K E ι H (zbf ds h) fun d ι' H'=> ∀ v,Rel K ι' H' d v->Q v H') {p:Addr} (hp:H p=none):Q (.ref p) (upd H p (.lst vs)):=
 zrw hr (c0:= .lst ds) ⟨vs,rfl,rl⟩ q hp
theorem zpV {x1} (h:SA X E es fs):SE X E (.Tuple es x1 pos) (fun sd=>do let ds<-fs sd;fits ds.length;pure (.tup ds)):=by
 refine PE.imp (zpA h) fun σ H Q ⟨ι,h,sd,L,hh,q⟩=>⟨ι,h,sd,L,hh,Fin.bind q fun ds h1 ι1 H1 e1 s1 hr1 q1 vs rvs=> ?_⟩
 obtain ⟨z,q2⟩:=Fin.fits q1
 exact ⟨by rw [<- rvs.length];exact z,fun p hp=>zn5 hr1 rvs q2 hp⟩
theorem zqk (h:SA X E es fs):SE X E (.List es pos) (fun sd=>do let ds<-fs sd;fits ds.length;pure (.lst ds)):=by
 refine PE.imp (zjL h) fun σ H Q ⟨ι,h,sd,L,hh,q⟩=>⟨ι,h,sd,L,hh,Fin.bind q fun ds h1 ι1 H1 e1 s1 hr1 q1 vs rvs=> ?_⟩
 obtain ⟨z,q2⟩:=Fin.fits q1
 exact ⟨by rw [<- rvs.length];exact z,fun p hp=>zrc hr1 rvs q2 hp⟩
theorem zoS (h:SA X E es fs):SE X E (.List es pos) (fun sd=>do let ds<-fs sd;fits ds.length;zbf ds):=by
 refine PE.imp (zjL h) fun σ H Q ⟨ι,h,sd,L,hh,q⟩=>⟨ι,h,sd,L,hh,Fin.bind q fun ds h1 ι1 H1 e1 s1 hr1 q1 vs rvs=> ?_⟩
 obtain ⟨z,q2⟩:=Fin.fits q1
 exact ⟨by rw [<- rvs.length];exact z,fun p hp=>zsV hr1 rvs q2 hp⟩
end
inductive Out where
 | nx (sd:Sd) | rt (d:D) | bk (sd:Sd) | ct (sd:Sd)
noncomputable def zgw (K:W.Frag) (D0:zo1):Out->Io->Hp->Prop
 | .nx sd',ι',H'=> ∀ σ',zcj K ι' H' sd' σ'->D0.nx σ' H'
 | .rt d,ι',H'=> ∀ v,Rel K ι' H' d v->D0.rt v H'
 | .bk sd',ι',H'=> ∀ σ',zcj K ι' H' sd' σ'->D0.bk σ' H'
 | .ct sd',ι',H'=> ∀ σ',zcj K ι' H' sd' σ'->D0.ct σ' H'
noncomputable def zs0 (K:W.Frag) (E:XE) (G:Sd->M Out):TS:=fun D0 σ H=> ∃ ι h sd,zcj K ι H sd σ/\zbc K ι H h/\Fin K E ι H (G sd h) (zgw K D0)
noncomputable abbrev SS (X:Cx) (E:XE) (st:Stmt) (G:Sd->M Out):Prop:=PS X st (zs0 X.K E G)
noncomputable abbrev SSs (X:Cx) (E:XE) (st:List Stmt) (G:Sd->M Out):Prop:=PSs X st (zs0 X.K E G)
noncomputable def zdR (o:Out) (g:Sd->M Out):M Out:=match o with
 | .nx sd=>g sd
 | o=>pure o
section
variable {X:Cx} {E:XE} {pos:Pos}
theorem zo4:SSs X E [] (fun sd=>pure (.nx sd)):=PSs.imp zno fun D0 σ H ⟨ι,h,sd,L,hh,q⟩=>Fin.out hh q σ L
theorem zoO {st:Stmt} {zbS:List Stmt} {g g':Sd->M Out} (h1:SS X E st g) (h2:SSs X E zbS g'):SSs X E (st::zbS) (fun sd=>do let o<-g sd;zdR o g'):=by
 refine PSs.imp (zmj h1 h2) fun D0 σ H ⟨ι,h,sd,L,hh,q⟩=>⟨ι,h,sd,L,hh,Fin.bind q fun o h1 ι1 H1 e1 s1 hr1 q1=> ?_⟩
 cases o with
 | nx sd'=>exact fun σ' L'=>⟨ι1,h1,sd',L',hr1,q1⟩
 | rt d=>exact Fin.out (E:=E) (P:=zgw X.K D0) hr1 q1
 | bk sd'=>exact Fin.out (E:=E) (P:=zgw X.K D0) hr1 q1
 | ct sd'=>exact Fin.out (E:=E) (P:=zgw X.K D0) hr1 q1
theorem zqI {st:Stmt} {g:Sd->M Out} (h1:SS X E st g):SSs X E [st] g:=zoW h1
theorem zph {e:Expr} {f:Sd->M D} (he:SE X E e f) (hs:swapsWith e none pos.line X.env=pure false:=by rfl):SS X E (.Expr e pos) (fun sd=>do let _<-f sd;pure (.nx sd)):=by
 refine PS.imp (zn4 he hs) fun D0 σ H ⟨ι,h,sd,L,hh,q⟩=>⟨ι,h,sd,L,hh,Fin.bind q fun d h1 ι1 H1 e1 s1 hr1 q1 v rv=> ?_⟩
 exact Fin.out hr1 q1 σ (L.step s1)
theorem zst {e:Expr} {f:Sd->M D} (he:SE X E e f):SS X E (.Return (some e) pos) (fun sd=>do let d<-f sd;pure (.rt d)):=by
 refine PS.imp (zpS he) fun D0 σ H ⟨ι,h,sd,L,hh,q⟩=>⟨ι,h,sd,L,hh,Fin.bind q fun d h1 ι1 H1 e1 s1 hr1 q1 v rv=> ?_⟩
 exact Fin.out hr1 q1 v rv
theorem ztq {c:Expr} {a b:List Stmt} {t:Sd->M Bool} {g g':Sd->M Out} (hc:ST X E c t) (ha:SSs X E a g) (hb:SSs X E b g'):SS X E (.If c a b pos) (fun sd=>do let c<-t sd;if c=true then g sd else g' sd):=by
 refine PS.imp (zrz hc ha hb) fun D0 σ H ⟨ι,h,sd,L,hh,q⟩=>⟨ι,h,sd,L,hh,Fin.bind q fun c h1 ι1 H1 e1 s1 hr1 q1=> ?_⟩
 cases c with
 | true=>exact zoF ⟨ι1,h1,sd,L.step s1,hr1,q1⟩
 | false=>exact zoP ⟨ι1,h1,sd,L.step s1,hr1,q1⟩
noncomputable def zp7 (K:W.Frag) (E:XE) (g:D->Sd->M Sd):TG:=fun v σ H Q=> ∃ ι h sd d,zcj K ι H sd σ/\zbc K ι H h/\Rel K ι H d v/\Fin K E ι H (g d sd h) fun sd' ι' H'=> ∀ σ',zcj K ι' H' sd' σ'->Q σ' H'
noncomputable def zsI (K:W.Frag) (E:XE) (g:List D->Sd->M Sd):TGs:=fun vs σ H Q=> ∃ ι h sd ds,zcj K ι H sd σ/\zbc K ι H h/\zas K ι H ds vs/\Fin K E ι H (g ds sd h) fun sd' ι' H'=> ∀ σ',zcj K ι' H' sd' σ'->Q σ' H'
noncomputable abbrev SG (X:Cx) (E:XE) (tg:Expr) (g:D->Sd->M Sd):Prop:=PG X tg (zp7 X.K E g)
noncomputable abbrev SGs (X:Cx) (E:XE) (tgs:List Expr) (g:List D->Sd->M Sd):Prop:=PGs X tgs (zsI X.K E g)
noncomputable def zaC (i:Nat):D->Sd->M Sd:=fun d sd=>pure (sd.set i (some d))
theorem znN (i:Nat) {x:Str} (hN:X.N.Nodup) (hi:X.N[i]? = some x) (hx:Loc X.env.scope x) (hf:X.fn x=true\/X.env.scope.names.lookup x=some .local):SG X E (.Name x pos) (zaC i):=by
 refine PG.imp (zoQ hN hi hx hf) fun v σ H Q ⟨ι,h,sd,d,L,hh,r,q⟩=> ?_
 exact Fin.out hh q _ (L.set r i)
theorem PGs.imp {tgs:List Expr} {t t':TGs} (h:PGs X tgs t) (m: ∀ v σ H Q,t' v σ H Q->t v σ H Q):PGs X tgs t':=fun pins s σ H v u Q I r q=>h pins s σ H v u Q I r (m _ _ _ _ q)
noncomputable def zbO:List D->Sd->M Sd:=fun ds sd=>match ds with | []=>pure sd | _=>M.bad
noncomputable def zay (g:D->Sd->M Sd) (gs:List D->Sd->M Sd):List D->Sd->M Sd:=fun ds sd=>match ds with
 | []=>M.bad
 | d::r=>do let sd1<-g d sd;gs r sd1
theorem znj:SGs X E [] zbO:=by
 refine PGs.imp zoB fun v σ H Q ⟨ι,h,sd,ds,L,hh,r,q⟩=> ?_
 cases ds with
 | nil=>simp only [zas] at r;exact ⟨r,Fin.out hh q _ L⟩
 | cons d r=>exact qa0 q
theorem zl2 {e:Expr} {es:List Expr} {g:D->Sd->M Sd} {gs:List D->Sd->M Sd} (h1:SG X E e g) (h2:SGs X E es gs)
  (hs:(assignEach (e::es) X.env).map (·.2)=assign e X.env::(assignEach es X.env).map (·.2):=by rfl):SGs X E (e::es) (zay g gs):=by
 refine PGs.imp (zl6 h1 h2 hs) fun v σ H Q ⟨ι,h,sd,ds,L,hh,r,q⟩=> ?_
 cases ds with
 | nil=>exact qa0 q
 | cons d ds=>
  simp only [zas] at r
  obtain ⟨v1,vr,rfl,r1,r2⟩:=r
  refine ⟨v1,vr,rfl,ι,h,sd,d,L,hh,r1,Fin.bind q fun sd1 h1 ι1 H1 e1 s1 hr1 q1 σ1 L1=> ?_⟩
  exact ⟨ι1,h1,sd1,ds,L1,hr1,r2.step s1,q1⟩
noncomputable def zbQ (n:Nat) (gs:List D->Sd->M Sd):D->Sd->M Sd:=fun d sd=>match d with
 | .tup ds=>if ds.length=n then gs ds sd else M.bad
 | _=>M.bad
theorem zdA {K:W.Frag} {ι:Io} {H:Hp} {ds:List D} {v:V} (h:Rel K ι H (.tup ds) v): ∃ a vs,v= .ref a/\SqT K H a vs/\zas K ι H ds vs:=by
 simp only [Rel] at h
 obtain ⟨a,vs,e,h1,h2⟩:=h
 exact ⟨a,vs,e,.inl (.inl h1.1),h2⟩
theorem zkh {K:W.Frag} {ι:Io} {H:Hp} {ds:List D} {v:V} (h:Rel K ι H (.scr ds) v): ∃ a vs,v= .ref a/\SqL K H a vs/\zas K ι H ds vs:=by
 simp only [Rel] at h
 obtain ⟨a,vs,e,h1,h2⟩:=h
 refine ⟨a,vs,e,?_,h2⟩
 rcases h1 with h1 | h1
 ·exact .inl h1.1
 ·rcases h1 with h1 | h1
  ·rcases h1 with h1 | ⟨o,h1⟩<;>cases h1
  ·exact .inr h1
theorem zfD {K:W.Frag} {ι:Io} {H:Hp} {ds:List D} {v:V} (h:Rel K ι H (.lst ds) v): ∃ a vs,v= .ref a/\SqL K H a vs/\zas K ι H ds vs:=by
 simp only [Rel] at h
 obtain ⟨a,vs,e,h1,h2⟩:=h
 exact ⟨a,vs,e,.inl (.inl h1.1),h2⟩
theorem zqg {es:List Expr} {k:Nat} {gs:List D->Sd->M Sd} {n:Nat} (hc:X.calm=true) (h:SGs X E es gs)
  (hn:(assignEach es X.env).length=n:=by rfl) (hst:(assignEach es X.env).findIdx? (·.1)=none:=by rfl):SG X E (.Tuple es k pos) (zbQ n gs):=by
 refine PG.imp (zq8 hc h hn hst) fun v σ H Q ⟨ι,h,sd,d,L,hh,r,q⟩=> ?_
 cases d with
 | tup ds=>
  obtain ⟨a,vs,e,h1,h2⟩:=zdA r
  have q:Fin X.K E ι H ((if ds.length=n then gs ds sd else M.bad) h) _:=q
  by_cases hl:ds.length=n
  ·rw [qa4 hl] at q
   exact ⟨a,vs,e,h1,by rw [<- h2.length];exact hl,ι,h,sd,ds,L,hh,h2,q⟩
  ·rw [qa5 hl] at q
   exact qa0 q
 | _=>exact qa0 q
theorem zrN {tg e:Expr} {f:Sd->M D} {g:D->Sd->M Sd} (he:SE X E e f) (hg:SG X E tg g) (hs:swapsWithSole [tg] e pos.line X.env=pure false:=by rfl) (hw:swappedStores [tg] e X.env=pure none:=by rfl)
  (h1:(assignEach [tg] X.env).map (·.2)=[assign tg X.env]:=by rfl):SS X E (.Assign [tg] e pos) (fun sd=>do let d<-f sd;let sd'<-g d sd;pure (.nx sd')):=by
 refine PS.imp (zqQ he hg hs hw h1) fun D0 σ H ⟨ι,h,sd,L,hh,q⟩=>⟨ι,h,sd,L,hh,Fin.bind q fun d h1 ι1 H1 e1 s1 hr1 q1 v rv=> ?_⟩
 exact ⟨ι1,h1,sd,d,L.step s1,hr1,rv,Fin.bind q1 fun sd' h2 ι2 H2 e2 s2 hr2 q2=>Fin.out hr2 q2⟩
theorem zso (i:Nat) {x:Str} {e:Expr} {f:Sd->M D} {pos':Pos} (hN:X.N.Nodup) (hi:X.N[i]? = some x) (hx:Loc X.env.scope x) (hf:X.fn x=true\/X.env.scope.names.lookup x=some .local) (he:SE X E e f) (hs:swapsWith e (some (.Name x pos')) pos.line X.env=pure false:=by rfl):
  SS X E (.Assign [.Name x pos'] e pos) (fun sd=>do let d<-f sd;pure (.nx (sd.set i (some d)))):=by
 refine PS.imp (zqG hN hi hx he hs hf) fun D0 σ H ⟨ι,h,sd,L,hh,q⟩=>⟨ι,h,sd,L,hh,Fin.bind q fun d h1 ι1 H1 e1 s1 hr1 q1 v rv=> ?_⟩
 exact Fin.out hr1 q1 _ ((L.step s1).set rv i)
def zp2 (H H2:Hp):Prop:=H2=H\/ ∃ q vs,H q=none/\H2=upd H q (.tup vs)
theorem zp2.step {K:W.Frag} {ι:Io} {H H2:Hp} {h:Hh} (g:zp2 H H2) (hr:zbc K ι H h):zbP ι H ι H2/\zbc K ι H2 h:=by
 rcases g with e | ⟨q,vs,hq,e⟩
 ·subst e;exact ⟨zbP.refl _ _,hr⟩
 ·subst e;exact ⟨hr.laidS hq,hr.laid hq⟩
structure zm2 (K:W.Frag) (ι:Io) (H:Hp) (J:It) (ds:List D):Prop where
 go: ∀ ι' H' (i:Nat),Pass ι H ι' H'->i<ds.length->J.go i H'
 yld: ∀ ι' H' h (i:Nat) x H2,Pass ι H ι' H'->zbc K ι' H' h->i<ds.length->J.yld i H' x H2->zp2 H' H2/\ ∃ d,ds[i]? = some d/\Rel K ι' H2 d x
 stop: ∀ ι' H',Pass ι H ι' H'->J.stop ds.length H'
noncomputable def zr4 (K:W.Frag) (E:XE) (f:Sd->M (List D)):TI:=fun σ H Q=> ∃ ι h sd,zcj K ι H sd σ/\zbc K ι H h/\Fin K E ι H (f sd h) fun ds ι' H'=> ∀ J,zm2 K ι' H' J ds->Q J H'
noncomputable abbrev SI (X:Cx) (E:XE) (tg iter:Expr) (f:Sd->M (List D)):Prop:=PI X tg iter (zr4 X.K E f)
noncomputable def zeO:D->M (List D)
 | .tup ds=>pure ds
 | .lst ds=>pure ds
 | _=>M.bad
theorem zlN {K:W.Frag} {ι:Io} {H:Hp} {a:Addr} {vs:List V} {ds:List D} (h: ∀ ι' H',Pass ι H ι' H'->SqT K H' a vs) (rl:zas K ι H ds vs):zm2 K ι H (Itt K a) ds where
 go:=fun ι' H' i s hi=>⟨vs,vs[i]'(by rw [<- rl.length];exact hi),h ι' H' s,by simp⟩
 yld:=fun ι' H' _ i x H2 s _ hi ⟨e,y⟩=>by
  subst e
  have hx:=y vs (h ι' _ s)
  obtain ⟨d,e1,e2⟩:=rl.getV hx
  exact ⟨.inl rfl,d,e1,e2.pass s⟩
 stop:=fun ι' H' s=>⟨vs,h ι' H' s,by rw [rl.length];exact qaV _⟩
theorem zlT {K:W.Frag} {ι:Io} {H:Hp} {a:Addr} {vs:List V} {ds:List D} (h: ∀ ι' H',Pass ι H ι' H'->SqL K H' a vs) (rl:zas K ι H ds vs):zm2 K ι H (Itl K a) ds where
 go:=fun ι' H' i s hi=>⟨vs,vs[i]'(by rw [<- rl.length];exact hi),h ι' H' s,by simp⟩
 yld:=fun ι' H' _ i x H2 s _ hi ⟨e,y⟩=>by
  subst e
  have hx:=y vs (h ι' _ s)
  obtain ⟨d,e1,e2⟩:=rl.getV hx
  exact ⟨.inl rfl,d,e1,e2.pass s⟩
 stop:=fun ι' H' s=>⟨vs,h ι' H' s,by rw [rl.length];exact qaV _⟩
theorem Pass.refl (ι:Io) (H:Hp):Pass ι H ι H:=(zbP.refl ι H).pass
theorem zjR {K:W.Frag} {ι:Io} {H:Hp} {ds:List D} {v:V} (h:Rel K ι H (.tup ds) v): ∃ a vs,v= .ref a/\(∀ ι' H',Pass ι H ι' H'->SqT K H' a vs)/\zas K ι H ds vs:=by
 simp only [Rel] at h
 obtain ⟨a,vs,e,h1,h2⟩:=h
 exact ⟨a,vs,e,fun ι' H' s=> .inl (.inl (s.keep _ _ h1.1 h1.2).1),h2⟩
theorem zjZ {K:W.Frag} {ι:Io} {H:Hp} {ds:List D} {v:V} (h:Rel K ι H (.lst ds) v): ∃ a vs,v= .ref a/\(∀ ι' H',Pass ι H ι' H'->SqL K H' a vs)/\zas K ι H ds vs:=by
 simp only [Rel] at h
 obtain ⟨a,vs,e,h1,h2⟩:=h
 exact ⟨a,vs,e,fun ι' H' s=> .inl (.inl (s.keep _ _ h1.1 h1.2).1),h2⟩
end
end L3
namespace L2
open PySem PySem.Spec PyProof.Rows
noncomputable def ztx (K:W.Frag) (tl:TE):TI:=fun σ H R=>tl σ H fun x H1=> ∃ a,x= .ref a/\(((∃ xs,SqL K H1 a xs)/\R (Itl K a) H1)\/((∃ xs,SqT K H1 a xs)/\R (Itt K a) H1))
theorem zqY {X:Cx} {tg:Expr} {l:Expr} {tl:TE} (hl:PE X l tl):PI X tg l (ztx X.K tl):=by
 intro pins s σ H R I h
 refine thn (hl pins s σ H _ I h) fun v s1 ⟨x,H1,I1,r1,q1⟩=> ?_
 obtain ⟨a,e,⟨⟨xs,hq⟩,q⟩ | ⟨⟨xs,hq⟩,q⟩⟩:=q1
 ·subst e
  cases r1
  obtain ⟨its,rv,p,hz⟩:=I1.list hq
  refine wpAny_pyIter_list p.isList ?_
  refine ⟨s1.heap.objs.size,[s1.heap.objs.size],_,_,H1,rfl,I1.kept (t':=s1.toks) fun b o e=>qag _ e,zk6 a _,⟨_,qar _ rfl,rfl,rfl⟩,fun b hb=> ?_,q⟩
  have e:b=s1.heap.objs.size:=by simpa using hb
  subst e
  exact I1.fpOk (qaV _) (I1.hok.fresh (qaV _))
 ·subst e
  cases r1
  obtain ⟨its,rv,p,hz⟩:=I1.tuple hq
  refine wpAny_pyIter_tuple (show s1.heap.IsTuple a its.toArray from p) ?_
  refine ⟨s1.heap.objs.size,[s1.heap.objs.size],_,_,H1,rfl,I1.kept (t':=s1.toks) fun b o e=>qag _ e,zi4 a _,⟨_,qar _ rfl,rfl,rfl⟩,fun b hb=> ?_,q⟩
  have e:b=s1.heap.objs.size:=by simpa using hb
  subst e
  exact I1.fpOk (qaV _) (I1.hok.fresh (qaV _))
end L2
namespace L3
open PySem PySem.Spec PyProof.Rows L2
section
variable {X:Cx} {E:XE} {pos:Pos}
theorem zpD {tg e:Expr} {f:Sd->M D} (he:SE X E e f):SI X E tg e (fun sd=>do let d<-f sd;zeO d):=by
 refine PI.imp (zqY he) fun σ H Q ⟨ι,h,sd,L,hh,q⟩=>⟨ι,h,sd,L,hh,Fin.bind q fun d h1 ι1 H1 e1 s1 hr1 q1 v rv=> ?_⟩
 cases d with
 | lst ds=>
  obtain ⟨a,vs,e,h1',h2⟩:=zjZ rv
  exact ⟨a,e,.inl ⟨⟨vs,h1' _ _ (Pass.refl _ _)⟩,Fin.out hr1 q1 _ (zlT h1' h2)⟩⟩
 | tup ds=>
  obtain ⟨a,vs,e,h1',h2⟩:=zjR rv
  exact ⟨a,e,.inr ⟨⟨vs,h1' _ _ (Pass.refl _ _)⟩,Fin.out hr1 q1 _ (zlN h1' h2)⟩⟩
 | _=>exact qa0 q1
noncomputable def zeh (lo:Int) (n:Nat):List D:=(List.range n).map fun (k:Nat)=>D.int (lo+(k:Int))
theorem zij {K:W.Frag} {ι:Io} {H:Hp} {lo:Int} {n:Nat}:zm2 K ι H (Itr lo n) (zeh lo n) where
 go:=fun ι' H' i s hi=>by show i<n;simpa [zeh] using hi
 yld:=fun ι' H' _ i x H2 s _ hi ⟨e,y⟩=>by
  subst e y
  have hi:i<n:=by simpa [zeh] using hi
  refine ⟨.inl rfl,.int (lo+i),?_,by simp [Rel]⟩
  simp [zeh,hi]
 stop:=fun ι' H' s=>by
  show n<=(zeh lo n).length
  simp [zeh]
noncomputable def zbL (j:Int):Bool:=decide (-(2^62)<=j) && decide (j<2^62)
noncomputable def zj8:List D->M (List D)
 | [.int j]=>if zbL j=true then pure (zeh 0 j.toNat) else M.bad
 | _=>M.bad
noncomputable def zki:List D->M (List D)
 | [.int i,.int j]=>if zbL i=true/\zbL j=true then pure (zeh i (j - i).toNat) else M.bad
 | _=>M.bad
theorem zbV {j:Int} (h:zbL j=true): -(2^62)<=j/\j<2^62:=by
 unfold zbL at h
 simpa using h
theorem zos {tg a:Expr} {p:Pos} {fs:Sd->M (List D)} (hg:Gl X "range") (hm:X.mg "range"=none) (ha:SA X E [a] fs) (hs:starEach [a] X.env=[(false,eval a X.env)]:=by rfl):
  SI X E tg (.Call (.Name "range" p) [a] [] pos) (fun sd=>do let ds<-fs sd;zj8 ds):=by
 refine PI.imp (zk3 hg hm ha hs) fun σ H Q ⟨ι,h,sd,L,hh,q⟩=>⟨ι,h,sd,L,hh,Fin.bind q fun ds h1 ι1 H1 e1 s1 hr1 q1 vs rv=> ?_⟩
 match ds,rv,q1 with
 | [.int j],rv,q1=>
  simp only [zas,Rel] at rv
  obtain ⟨v,r,rfl,rfl,rfl⟩:=rv
  have q1:Fin X.K E ι1 H1 ((if zbL j=true then (pure (zeh 0 j.toNat):M (List D)) else M.bad) h1) _:=q1
  by_cases hj:zbL j=true
  ·rw [qa4 hj] at q1
   exact ⟨j,rfl,(zbV hj).1,(zbV hj).2,Fin.out hr1 q1 _ zij⟩
  ·rw [qa5 hj] at q1
   exact qa0 q1
 | [],_,q1=>exact qa0 q1
 | .non::_,_,q1=>exact qa0 q1
 | .bl _::_,_,q1=>exact qa0 q1
 | .str _::_,_,q1=>exact qa0 q1
 | .tup _::_,_,q1=>exact qa0 q1
 | .lst _::_,_,q1=>exact qa0 q1
 | .cel _::_,_,q1=>exact qa0 q1
 | .set _::_,_,q1=>exact qa0 q1
 | .dct::_,_,q1=>exact qa0 q1
 | .fn _::_,_,q1=>exact qa0 q1
 | .scr _::_,_,q1=>exact qa0 q1
 | .exn _::_,_,q1=>exact qa0 q1
 | .int _::_::_,_,q1=>exact qa0 q1
theorem znF {tg a b:Expr} {p:Pos} {fs:Sd->M (List D)} (hp:PI X tg (.Call (.Name "range" p) [a,b] [] pos) (zp5 (zsP X.K E fs))):
  SI X E tg (.Call (.Name "range" p) [a,b] [] pos) (fun sd=>do let ds<-fs sd;zki ds):=by
 refine PI.imp hp fun σ H Q ⟨ι,h,sd,L,hh,q⟩=>⟨ι,h,sd,L,hh,Fin.bind q fun ds h1 ι1 H1 e1 s1 hr1 q1 vs rv=> ?_⟩
 unfold zki at q1
 split at q1
 ·rename_i i j
  simp only [zas,Rel] at rv
  obtain ⟨v,r,rfl,rfl,v',r',rfl,rfl,rfl⟩:=rv
  by_cases hj:zbL i=true/\zbL j=true
  ·rw [qa4 hj] at q1
   exact ⟨i,j,rfl,⟨(zbV hj.1).1,(zbV hj.1).2,(zbV hj.2).1,(zbV hj.2).2⟩,Fin.out hr1 q1 _ zij⟩
  ·rw [qa5 hj] at q1
   exact qa0 q1
 ·exact qa0 q1
noncomputable def zbu (body:D->Sd->M Out):List D->Sd->M Out
 | [],sd=>pure (.nx sd)
 | x::r,sd=>do
  let o<-body x sd
  match o with
  | .nx sd'=>zbu body r sd'
  | .ct sd'=>zbu body r sd'
  | .bk sd'=>pure (.nx sd')
  | .rt d=>pure (.rt d)
theorem zru {tg iter:Expr} {body:List Stmt} {fi:Sd->M (List D)} {g:D->Sd->M Sd} {gb:Sd->M Out} (hc:X.calm=true) (hp:PassesOwn (model X.prog X.w) X.A X.env X.xe) (hi:SI X E tg iter fi) (hg:SG X E tg g) (hb:SSs X E body gb)
  (hs: ∀ x,foldedSetIterable iter X.env x=pure x:=by intro _;rfl):SS X E (.For tg iter body [] pos) (fun sd=>do let ds<-fi sd;zbu (fun x sd=>do let sd1<-g x sd;gb sd1) ds sd):=by
 refine PS.imp (zqj hp hc hi hg hb hs) fun D0 σ H ⟨ι,h,sd,L,hh,q⟩=>⟨ι,h,sd,L,hh,Fin.bind q fun ds h1 ι1 H1 e1 s1 hr1 q1 J ok=> ?_⟩
 refine ⟨fun i m σ' H'=>m=ds.length - i/\i<=ds.length/\ ∃ ι' h' sd',zbP ι1 H1 ι' H'/\zcj X.K ι' H' sd' σ'/\zbc X.K ι' H' h'/\Fin X.K E ι' H' (zbu (fun x sd=>do let sd1<-g x sd;gb sd1) (ds.drop i) sd' h') (zgw X.K D0),
   ⟨_,rfl,Nat.zero_le _,ι1,h1,sd,zbP.refl _ _,L.step s1,hr1,by simpa using q1⟩,?_⟩
 rintro i m σ2 H2 ⟨rfl,hi2,ι2,h2,sd2,s2,L2,hr2,q2⟩
 by_cases hlt:i<ds.length
 ·right
  refine ⟨ok.go ι2 H2 i s2.pass hlt,fun σ' H'=>i+1<=ds.length/\ ∃ ι' h' sd',zbP ι1 H1 ι' H'/\zcj X.K ι' H' sd' σ'/\zbc X.K ι' H' h'/\Fin X.K E ι' H' (zbu (fun x sd=>do let sd1<-g x sd;gb sd1) (ds.drop (i+1)) sd' h') (zgw X.K D0),
    fun σ' H' p=>⟨ds.length - (i+1),by omega,rfl,p.1,p.2⟩,fun x H3 y=> ?_⟩
  obtain ⟨gr,d,ed,rd⟩:=ok.yld ι2 H2 h2 i x H3 s2.pass hr2 hlt y
  obtain ⟨s3,hr3⟩:=gr.step hr2
  have edr:ds.drop i=d::ds.drop (i+1):=by
   rw [qae hlt]
   rw [qaf hlt] at ed
   rw [Option.some.inj ed]
  rw [edr] at q2
  have q3:Fin X.K E ι2 H3 (zbu (fun x sd=>do let sd1<-g x sd;gb sd1) (d::ds.drop (i+1)) sd2 h2) (zgw X.K D0):=Fin.step s3 q2
  refine ⟨ι2,h2,sd2,d,L2.step s3,hr3,rd,?_⟩
  have q5:Fin X.K E ι2 H3 ((g d sd2>>=fun sd1=>(gb sd1>>=fun o=>(match o with
    | .nx sd'=>zbu (fun x sd=>do let sd1<-g x sd;gb sd1) (ds.drop (i+1)) sd'
    | .ct sd'=>zbu (fun x sd=>do let sd1<-g x sd;gb sd1) (ds.drop (i+1)) sd'
    | .bk sd'=>pure (.nx sd')
    | .rt d=>pure (.rt d):M Out))) h2) (zgw X.K D0):=by
   have e:(zbu (fun x sd=>do let sd1<-g x sd;gb sd1) (d::ds.drop (i+1)) sd2 h2)=((g d sd2>>=fun sd1=>(gb sd1>>=fun o=>(match o with
     | .nx sd'=>zbu (fun x sd=>do let sd1<-g x sd;gb sd1) (ds.drop (i+1)) sd'
     | .ct sd'=>zbu (fun x sd=>do let sd1<-g x sd;gb sd1) (ds.drop (i+1)) sd'
     | .bk sd'=>pure (.nx sd')
     | .rt d=>pure (.rt d):M Out))) h2):=by
    show M.bind (M.bind (g d sd2) gb) _ h2=M.bind (g d sd2) _ h2
    unfold M.bind
    cases g d sd2 h2<;>rfl
   rw [<- e]
   exact q3
  refine Fin.bind q5 fun sd6 h6 ι6 H6 e6 s6 hr6 q6 σ6 L6=> ?_
  refine ⟨ι6,h6,sd6,L6,hr6,Fin.bind q6 fun o h7 ι7 H7 e7 s7 hr7 q7=> ?_⟩
  have st7:zbP ι1 H1 ι7 H7:=((s2.trans s3).trans s6).trans s7
  cases o with
  | nx sd'=>exact fun σ' L'=>⟨hlt,ι7,h7,sd',st7,L',hr7,q7⟩
  | ct sd'=>exact fun σ' L'=>⟨hlt,ι7,h7,sd',st7,L',hr7,q7⟩
  | bk sd'=>exact fun σ' L'=>Fin.out (E:=E) (P:=zgw X.K D0) hr7 q7 σ' L'
  | rt d=>exact fun v rv=>Fin.out (E:=E) (P:=zgw X.K D0) hr7 q7 v rv
 ·left
  have e:i=ds.length:=by omega
  subst e
  refine ⟨ok.stop ι2 H2 s2.pass,?_⟩
  rw [List.drop_length] at q2
  exact Fin.out (E:=E) (P:=zgw X.K D0) hr2 q2 σ2 L2
noncomputable def zbX (f:D->M (Option D)):List D->M (List D)
 | []=>pure []
 | x::r=>do
  let o<-f x
  let ys<-zbX f r
  pure (match o with | some y=>y::ys | none=>ys)
noncomputable def zaZ (g:D->Sd->M Sd) (tc:Sd->M Bool) (te:Sd->M D) (sd:Sd) (x:D):M (Option D):=do
 let sd1<-g x sd
 let c<-tc sd1
 if c=true then do
  let y<-te sd1
  pure (some y)
 else pure none
end
noncomputable def Io.hide (ι:Io) (p:Addr):Io:=⟨ι.c,p::ι.x⟩
noncomputable def Io.show (ι:Io):Io:=⟨ι.c,ι.x.tail⟩
theorem zmk {ι:Io} {a:Addr} (h:ι.show.Has a):ι.Has a:=h.imp id List.mem_of_mem_tail
section
variable {K:W.Frag} {ι ι':Io} {H H':Hp} {p:Addr} {o:HO} {h:Hh}
theorem zfe (hp:H p=none):Pass ι H (ι.hide p) (upd H p o):=⟨fun _ _ z=> .inl z,fun b o' hb n=>⟨by rw [zaG (zaY hb hp)];exact hb,fun z=>by
  rcases z with z | z
  · exact n (.inl z)
  · rcases qaP.mp z with z | z
    · rw [z,hp] at hb;cases hb
    · exact n (.inr z)⟩⟩
theorem zhj:Pass ι H ι.show H:=⟨fun _ _ z=> .inl z,fun b o' hb n=>⟨hb,fun z=>n (zmk z)⟩⟩
theorem zea (hp:p∈ι.x):Pass ι H ι (upd H p o):=⟨fun _ _ z=> .inl z,fun b o' hb n=>⟨by rw [zaG (show b≠p from fun z=>n (.inr (z▸hp)))];exact hb,n⟩⟩
theorem zbc.hide (hr:zbc K ι H h) (hp:H p=none):zbc K (ι.hide p) (upd H p o) h:=
 ⟨hr.len,hr.inj,fun n a c h1 h2=>by
   obtain ⟨o',e2,e3⟩:=hr.at_ n a c h1 h2
   exact ⟨o',by rw [zaG (zaY e2 hp)];exact e2,e3.pass (zfe hp)⟩,hr.dead,fun a ha=>by
   rcases qaP.mp ha with z | z
   · subst z;exact ⟨⟨o,zaR⟩,fun z=>hr.nin hp (.inl z)⟩
   · refine ⟨?_,(hr.hidt a z).2⟩
     rw [zaG (show a≠p from fun w=>hr.nin hp (.inr (w▸z)))]
     exact (hr.hidt a z).1⟩
theorem zbc.hid (hr:zbc K ι H h) (hp:p∈ι.x):zbc K ι (upd H p o) h:=
 ⟨hr.len,hr.inj,fun n a c h1 h2=>by
   obtain ⟨o',e2,e3⟩:=hr.at_ n a c h1 h2
   have ne:a≠p:=fun z=>(hr.hidt p hp).2 (z▸List.mem_of_getElem? h1)
   exact ⟨o',by rw [zaG ne];exact e2,e3.pass (zea hp)⟩,hr.dead,fun a ha=>by
   refine ⟨?_,(hr.hidt a ha).2⟩
   by_cases z:a=p
   · subst z;exact ⟨o,zaR⟩
   · rw [zaG z];exact (hr.hidt a ha).1⟩
theorem zbc.show (hr:zbc K ι H h):zbc K ι.show H h:=
 ⟨hr.len,hr.inj,fun n a c h1 h2=>by
   obtain ⟨o',e2,e3⟩:=hr.at_ n a c h1 h2
   exact ⟨o',e2,e3.pass zhj⟩,hr.dead,fun a ha=>hr.hidt a (List.mem_of_mem_tail ha)⟩
theorem zgN {ι1 ι2:Io} {H1 H2:Hp} (hp:H p=none) (hpx:p∉ι.x) (hx:ι1.x=p::ι.x) (s:zbP ι H ι1.show H1) (t:zbP ι1 H1 ι2 H2):zbP ι H ι2.show (upd H2 p o) where
 old:=fun n q h=>by
  rcases s.old n q h with h | h
  ·exact t.old n q h
  ·rcases t.old n _ h with h | h<;>exact .inr h
 new:=fun a h=>by
  rcases t.new a h with h | h
  ·exact s.new a h
  ·by_cases z:some a∈ι.c
   ·exact .inl z
   ·refine .inr ?_
    cases q:H a with
    | none=>rfl
    | some o=>
     by_cases z':a∈ι.x
     ·rw [s.hidk a z',q] at h;cases h
     ·rw [s.keep a o q (fun w=>w.elim z z')] at h;cases h
 hid:=by
  show ι2.x.tail=ι.x
  rw [t.hid,hx]
  rfl
 hidk:=fun a ha=>by
  have z:a≠p:=fun z=>hpx (z▸ha)
  rw [zaG z,t.hidk a (by rw [hx];exact qan _ ha)]
  exact s.hidk a ha
 keep:=fun b q hb n=>by
  have ne:b≠p:=zaY hb hp
  rw [zaG ne]
  refine t.keep b q (s.keep b q hb n) fun z=> ?_
  rcases z with z | z
  ·rcases s.new b z with z | z
   ·exact n (.inl z)
   ·rw [hb] at z;cases z
  ·rw [hx] at z
   rcases qaP.mp z with z | z
   ·exact ne z
   ·exact n (.inr z)
theorem zbP.shown {ι2:Io} {H2:Hp} {r:List Addr} (hx:ι.x=p::r) (t:zbP ι H ι2 H2):zbP ι.show H ι2.show H2 where
 old:=t.old
 new:=t.new
 hid:=by show ι2.x.tail=ι.x.tail;rw [t.hid]
 hidk:=fun a ha=>t.hidk a (List.mem_of_mem_tail ha)
 keep:=fun b q hb n=>by
  by_cases z:b=p
  ·subst z
   rw [t.hidk b (by rw [hx];exact qau)]
   exact hb
  ·refine t.keep b q hb fun w=> ?_
   rcases w with w | w
   ·exact n (.inl w)
   ·rw [hx] at w
    rcases qaP.mp w with w | w
    ·exact z w
    ·exact n (.inr (by show b∈ι.x.tail;rw [hx];exact w))
theorem Fin.bindB {α β:Type} {E:XE} {m:M α} {f:α->M β} {P:β->Io->Hp->Prop} {P':α->Io->Hp->Prop} {ιb:Io} {Hb:Hp} (q:Fin K E ιb Hb ((m>>=f) h) P)
  (conv: ∀ ι' H' h',zbP ι H ι' H'->zbc K ι' H' h'-> ∃ ι'',zbP ιb Hb ι'' H'/\zbc K ι'' H' h')
  (k: ∀ a h' ι' H',m h= .ok a h'->zbP ι H ι' H'->zbc K ι' H' h'->Fin K E ιb Hb (f a h') P->P' a ι' H'):Fin K E ι H (m h) P':=by
 have q':Fin K E ιb Hb (M.bind m f h) P:=q
 unfold M.bind at q'
 cases e:m h with
 | ok a h'=>
  rw [e] at q'
  intro ι' H' s hr
  exact k a h' ι' H' e s hr q'
 | exc c h'=>
  rw [e] at q'
  intro ι' H' s hr
  obtain ⟨ι'',s2,hr2⟩:=conv ι' H' h' s hr
  exact q' _ _ s2 hr2
 | bad=>rw [e] at q';exact q'
end
noncomputable instance:LawfulMonad M:=LawfulMonad.mk' M
 (id_map:=fun x=>by
   funext h
   show M.bind x (fun a=>M.pure (id a)) h=x h
   unfold M.bind M.pure
   cases x h<;>rfl)
 (pure_bind:=fun x f=>rfl)
 (bind_assoc:=fun x f g=>by
   funext h
   show M.bind (M.bind x f) g h=M.bind x (fun a=>M.bind (f a) g) h
   unfold M.bind
   cases x h<;>rfl)
noncomputable def zai (src:List (Option Nat)) (sd:Sd):Sd:=src.map fun o=>o.bind fun i=>(sd[i]?).join
theorem zcj.bStart {K:W.Frag} {ι:Io} {H:Hp} {sd:Sd} {σ:L2.St} {src:List (Option Nat)} (h:zcj K ι H sd σ):zcj K ι H (zai src sd) (bStart src σ):=by
 refine ⟨by unfold zai L2.bStart;rw [qaH,qaH],fun i d e=> ?_⟩
 unfold zai at e
 unfold L2.bStart
 rw [List.getElem?_map] at e ⊢
 cases z:src[i]? with
 | none=>rw [z] at e;cases e
 | some o=>
  rw [z] at e
  cases o with
  | none=>cases e
  | some j=>
   have e:(sd[j]?).join=some d:=by simpa using e
   cases w:sd[j]? with
   | none=>rw [w] at e;cases e
   | some q=>
    rw [w] at e
    have e:q=some d:=by simpa using e
    subst e
    obtain ⟨v,h1,h2⟩:=h.2 j d w
    exact ⟨v,by simp [h1],h2⟩
def zaA (g:D->Sd->M Sd) (src:List (Option Nat)):Prop:= ∀ x sd h sd1 h1,sd.length=src.length->(∀ (i:Nat),src[i]? = some none->sd[i]? = some none)->g x sd h= .ok sd1 h1->sd1.length=sd.length/\ ∀ (i:Nat) d,src[i]? ≠ some none->sd[i]? = some (some d)->sd1[i]? = some (some d)
def zaS (g:List D->Sd->M Sd) (src:List (Option Nat)):Prop:= ∀ x sd h sd1 h1,g x sd h= .ok sd1 h1->sd1.length=sd.length/\ ∀ (i:Nat) d,src[i]? ≠ some none->sd[i]? = some (some d)->sd1[i]? = some (some d)
theorem zj1 {i:Nat} {src:List (Option Nat)} (h:src[i]? = some none): ∀ x sd h sd1 h1,zaC i x sd h= .ok sd1 h1->sd1.length=sd.length/\ ∀ (j:Nat) d,src[j]? ≠ some none->sd[j]? = some (some d)->sd1[j]? = some (some d):=fun x sd h0 sd1 h1 e=>by
 have e:R.ok (sd.set i (some x)) h0= .ok sd1 h1:=e
 cases e
 refine ⟨qaI,fun j d hj e=> ?_⟩
 rw [qao (show i≠j from fun z=>hj (z▸h))]
 exact e
theorem zaA.name {i:Nat} {src:List (Option Nat)} (h:src[i]? = some none):zaA (zaC i) src:=fun x sd h0 sd1 h1 _ _ e=>zj1 h x sd h0 sd1 h1 e
theorem zaS.nil {src:List (Option Nat)}:zaS zbO src:=fun x sd h sd1 h1 e=>by
 cases x with
 | nil=>
  have e:R.ok sd h= .ok sd1 h1:=e
  cases e
  exact ⟨rfl,fun _ _ _ z=>z⟩
 | cons _ _=>cases (show R.bad=R.ok sd1 h1 from e)
theorem zaS.cons {i:Nat} {gs:List D->Sd->M Sd} {src:List (Option Nat)} (h:src[i]? = some none) (t:zaS gs src):zaS (zay (zaC i) gs) src:=fun x sd h0 sd1 h1 e=>by
 cases x with
 | nil=>cases (show R.bad=R.ok sd1 h1 from e)
 | cons d r=>
  have e:gs r (sd.set i (some d)) h0= .ok sd1 h1:=e
  obtain ⟨e1,e2⟩:=t r _ h0 sd1 h1 e
  refine ⟨by rw [e1,qaI],fun j d' hj z=>e2 j d' hj ?_⟩
  rw [qao (show i≠j from fun z=>hj (z▸h))]
  exact z
theorem zaA.tup {n:Nat} {gs:List D->Sd->M Sd} {src:List (Option Nat)} (t:zaS gs src):zaA (zbQ n gs) src:=fun x sd h0 sd1 h1 _ _ e=>by
 cases x with
 | tup ds=>
  have e:(if ds.length=n then gs ds sd else M.bad) h0= .ok sd1 h1:=e
  by_cases hl:ds.length=n
  ·rw [qa4 hl] at e;exact t _ _ _ _ _ e
  ·rw [qa5 hl] at e;cases (show R.bad=R.ok sd1 h1 from e)
 | _=>cases (show R.bad=R.ok sd1 h1 from e)
section
variable {X:Cx} {E:XE} {scope:Scope} {N:List Str} {src:List (Option Nat)} {tg iter elt:Expr} {ifs:List Expr} {pos:Pos}
noncomputable abbrev SCs (X:Cx) (E:XE) (ifs:List Expr) (t:Sd->M Bool):Prop:=PCs X ifs (zfn X.K E t)
theorem zpO:SCs X E [] (fun _=>pure true):=fun pins s σ H Q I ⟨ι,h,sd,L,hh,q⟩=>zoj pins s σ H Q I (Fin.out hh q)
theorem zpP {c:Expr} {t:Sd->M Bool} (h:ST X E c t):SCs X E [c] t:=zou h
theorem blk {K:W.Frag} {g:D->Sd->M Sd} {tc:Sd->M Bool} {te:Sd->M D} {J:It} {ds:List D} {ι:Io} {H:Hp} {h:Hh} {sd:Sd} {σ:L2.St} {Q:VK} {p:Addr} (hk:zaA g src) (L:zcj K ι H sd σ) (hr:zbc K ι H h) (ok:zm2 K ι H J ds) (hz:ds.length<=sizeLine)
  (q:Fin K E ι H ((do let ys<-zbX (zaZ g tc te (zai src sd)) ds;pure (D.lst ys)) h) fun d ι' H'=> ∀ v,Rel K ι' H' d v->Q v H') (hp:H p=none):
  zro J (zp7 K E g) (zfn K E tc) (zhm K E te) (bStart src σ) H p fun H'=>Q (.ref p) H':=by
 generalize hP:(fun (d:D) (ι':Io) (H':Hp)=> ∀ v,Rel K ι' H' d v->Q v H')=P at q
 generalize hf:zaZ g tc te (zai src sd)=f at q
 have hpx:p∉ι.x:=fun z=>hr.nin hp (.inr z)
 have h0len:(zai src sd).length=src.length:=by unfold zai;rw [qaH]
 have h0non: ∀ (i:Nat),src[i]? = some none->(zai src sd)[i]? = some none:=fun i e=>by unfold zai;rw [List.getElem?_map,e];rfl
 refine ⟨fun i m σ' H'=>m=ds.length - i/\i<=ds.length/\ ∃ ι' h' done vs,ι'.x=p::ι.x/\zbP ι H ι'.show H'/\zcj K ι' H' (zai src sd) σ'/\zbc K ι' H' h'/\H' p=some (.lst vs)/\zas K ι' H' done vs/\done.length<=i/\
     Fin K E ι H ((do let ys<-zbX f (ds.drop i);pure (D.lst (done++ys))) h') P,
   ⟨_,rfl,Nat.zero_le _,ι.hide p,h,[],[],rfl,?_,L.bStart.pass (zfe hp),hr.hide hp,zaR,zas.nil,qaV _,?_⟩,?_⟩
 ·have:=hr.laidS (o:= .lst []) hp
  exact ⟨this.old,this.new,this.hid,this.hidk,this.keep⟩
 ·simpa using q
 rintro i m σ2 H2 ⟨rfl,hi2,ι2,h2,done,vs,hx2,s2,L2,hr2,e2,rl2,dl2,q2⟩
 have ps2:Pass ι H ι2 H2:=⟨s2.old,fun b o hb n=>⟨s2.keep b o hb n,fun z=>by
   rcases z with z | z
   · exact s2.nin hb n (.inl z)
   · rw [hx2] at z
     rcases qaP.mp z with z | z
     · rw [z,hp] at hb;cases hb
     · exact n (.inr z)⟩⟩
 have hp2:p∈ι2.x:=by rw [hx2];exact qau
 have base: ∀ {ι':Io} {H':Hp},zbP ι2 H2 ι' H'->zbP ι H ι'.show H':=fun t=>s2.trans (t.shown hx2)
 by_cases hlt:i<ds.length
 ·right
  refine ⟨ok.go ι2 H2 i ps2 hlt,fun σ' H'=>i+1<=ds.length/\ ∃ ι' h' done vs,ι'.x=p::ι.x/\zbP ι H ι'.show H'/\zcj K ι' H' (zai src sd) σ'/\zbc K ι' H' h'/\H' p=some (.lst vs)/\zas K ι' H' done vs/\done.length<=i+1/\
    Fin K E ι H ((do let ys<-zbX f (ds.drop (i+1));pure (D.lst (done++ys))) h') P,fun σ' H' z=>⟨ds.length - (i+1),by omega,rfl,z.1,z.2⟩,fun x H3 y=> ?_⟩
  obtain ⟨gr,d,ed,rd⟩:=ok.yld ι2 H2 h2 i x H3 ps2 hr2 hlt y
  obtain ⟨s3,hr3⟩:=gr.step hr2
  have edr:ds.drop i=d::ds.drop (i+1):=by
   rw [qae hlt]
   rw [qaf hlt] at ed
   rw [Option.some.inj ed]
  rw [edr] at q2
  have q3:=q2
  have st3:zbP ι2 H2 ι2 H3:=s3
  have e3:H3 p=some (.lst vs):=by rw [s3.hidk p hp2];exact e2
  have eq1:(do let ys<-zbX f (d::ds.drop (i+1));pure (D.lst (done++ys)):M D)=(g d (zai src sd)>>=fun sd1=>tc sd1>>=fun c=>if c=true then (te sd1>>=fun y=>zbX f (ds.drop (i+1))>>=fun ys=>pure (D.lst (done++[y]++ys))) else (zbX f (ds.drop (i+1))>>=fun ys=>pure (D.lst (done++ys)))):=by
   rw [zbX]
   rw [<- hf]
   simp only [zaZ,bind_assoc]
   refine congrArg _ (funext fun sd1=> ?_)
   refine congrArg _ (funext fun c=> ?_)
   cases c with
   | true=>simp only [if_true,bind_assoc,pure_bind,List.append_assoc,List.cons_append,List.nil_append]
   | false=>simp only [qax,if_false,pure_bind]
  rw [eq1] at q3
  refine ⟨ι2,h2,zai src sd,d,L2.step s3,hr3,rd,?_⟩
  refine Fin.bindB q3 (fun ι' H' h' s hr'=>⟨ι'.show,base (s3.trans s),hr'.show⟩) fun sd4 h4 ι4 H4 e4 s4 hr4 q4 σ4 L4=> ?_
  have hx4:ι4.x=p::ι.x:=by rw [s4.hid];exact hx2
  obtain ⟨k1,k2⟩:=hk d _ h2 sd4 h4 h0len h0non e4
  refine ⟨ι4,h4,sd4,L4,hr4,Fin.bindB q4 (fun ι' H' h' s hr'=>⟨ι'.show,base ((s3.trans s4).trans s),hr'.show⟩) fun c h5 ι5 H5 e5 s5 hr5 q5=> ?_⟩
  have hx5:ι5.x=p::ι.x:=by rw [s5.hid];exact hx4
  have sub: ∀ {ι':Io} {H':Hp},zcj K ι' H' sd4 σ4->zcj K ι' H' (zai src sd) σ4:=fun {ι' H'} z=>⟨by rw [<- k1];exact z.1,fun j d' e=>z.2 j d' (k2 j d' (fun w=>by rw [h0non j w] at e;cases e) e)⟩
  have st5:zbP ι2 H2 ι5 H5:=(s3.trans s4).trans s5
  cases c with
  | false=>
   exact zoP ⟨hlt,ι5,h5,done,vs,hx5,base st5,sub (L4.step s5),hr5,by rw [st5.hidk p hp2];exact e2,rl2.step st5,Nat.le_succ_of_le dl2,q5⟩
  | true=>
   refine zoF ⟨ι5,h5,sd4,L4.step s5,hr5,Fin.bindB q5 (fun ι' H' h' s hr'=>⟨ι'.show,base (st5.trans s),hr'.show⟩) fun yd h6 ι6 H6 e6 s6 hr6 q6 y ry=> ?_⟩
   have st6:zbP ι2 H2 ι6 H6:=st5.trans s6
   have hx6:ι6.x=p::ι.x:=by rw [s6.hid];exact hx5
   have hp6:p∈ι6.x:=by rw [hx6];exact qau
   have e6':H6 p=some (.lst vs):=by rw [st6.hidk p hp2];exact e2
   refine ⟨vs,e6',by rw [<- rl2.length];omega,hlt,ι6,h6,done++[yd],vs++[y],hx6,zgN hp hpx hx2 s2 st6,?_,hr6.hid hp6,zaR,?_,?_,?_⟩
   ·exact ((sub (L4.step s5)).step s6).pass (zea hp6)
   ·exact ((rl2.step st6).append (zas.cons ry zas.nil)).pass (zea hp6)
   ·rw [qav,List.length_singleton];omega
   ·exact q6
 ·left
  have e:i=ds.length:=by omega
  subst e
  refine ⟨ok.stop ι2 H2 ps2,?_⟩
  rw [List.drop_length] at q2
  have q3:P (.lst done) ι2.show H2:=by
   have:Fin K E ι H ((pure (D.lst (done++[])):M D) h2) P:=q2
   rw [List.append_nil] at this
   exact this _ _ s2 hr2.show
  rw [<- hP] at q3
  refine q3 (.ref p) ?_
  simp only [Rel]
  refine ⟨p,vs,rfl,⟨e2,fun z=> ?_⟩,rl2.pass zhj⟩
  rcases z with z | z
  ·exact (hr2.hidt p (by rw [hx2];exact qau)).2 z
  ·exact hpx (by have z:p∈ι2.x.tail:=z;rw [hx2] at z;exact z)
noncomputable def zan (fi:Sd->M (List D)) (g:D->Sd->M Sd) (tc:Sd->M Bool) (te:Sd->M D) (src:List (Option Nat)):Sd->M D:=fun sd=>do
 let ds<-fi sd
 fits ds.length
 let ys<-zbX (zaZ g tc te (zai src sd)) ds
 pure (D.lst ys)
theorem zkE {K:W.Frag} {fi:Sd->M (List D)} {g:D->Sd->M Sd} {tc:Sd->M Bool} {te:Sd->M D} (hk:zaA g src) (σ:L2.St) (H:Hp) (Q:VK) (q:zhm K E (zan fi g tc te src) σ H Q):
  zlG (zr4 K E fi) (zp7 K E g) (zfn K E tc) (zhm K E te) src σ H Q:=by
 obtain ⟨ι,h,sd,L,hh,q⟩:=q
 refine ⟨ι,h,sd,L,hh,Fin.bind q fun ds h1 ι1 H1 e1 s1 hr1 q1 J ok p hp=> ?_⟩
 obtain ⟨z,q2⟩:=Fin.fits q1
 exact blk hk (L.step s1) hr1 ok z q2 hp
theorem zoc {fi:Sd->M (List D)} {g:D->Sd->M Sd} {tc:Sd->M Bool} {te:Sd->M D} (B:BOk X scope N src) (hk:zaA g src) (hi:SI X E tg iter fi)
  (hg: ∀ s H fp,SG (cxB X scope N s H fp) E tg g) (ht: ∀ s H fp,SCs (cxB X scope N s H fp) E ifs tc) (he: ∀ s H fp,SE (cxB X scope N s H fp) E elt te)
  (hs: ∀ x,foldedSetIterable iter X.env x=pure x:=by intro _;rfl):SE X E (.ListComp elt [⟨tg,iter,ifs,0⟩] scope pos) (zan fi g tc te src):=
 PE.imp (zkz B hi hg ht he hs) (zkE hk)
theorem zkn {fi:Sd->M (List D)} {g:D->Sd->M Sd} {tc:Sd->M Bool} {te:Sd->M D} (i:Nat) {y:Str} {py spos:Pos} (B:BOk X scope N src) (hk:zaA g src) (hi:SI X E tg iter fi)
  (hg: ∀ s H fp,SG (cxB X scope N s H fp) E tg g) (ht: ∀ s H fp,SCs (cxB X scope N s H fp) E ifs tc) (he: ∀ s H fp,SE (cxB X scope N s H fp) E elt te)
  (hN:X.N.Nodup) (hy:X.N[i]? = some y) (hx:Loc X.env.scope y) (hf:X.fn y=true\/X.env.scope.names.lookup y=some .local) (hsw:swapsWith (.ListComp elt [⟨tg,iter,ifs,0⟩] scope pos) (some (.Name y py)) spos.line X.env=pure true)
  (hs: ∀ x,foldedSetIterable iter X.env x=pure x:=by intro _;rfl):SS X E (.Assign [.Name y py] (.ListComp elt [⟨tg,iter,ifs,0⟩] scope pos) spos) (fun sd=>do let d<-zan fi g tc te src sd;pure (.nx (sd.set i (some d)))):=by
 refine PS.imp (ziO B hi hg ht he hN hy hx hsw hf hs) fun D0 σ H ⟨ι,h,sd,L,hh,q⟩=>zkE hk σ H _ ⟨ι,h,sd,L,hh,Fin.bind q fun d h1 ι1 H1 e1 s1 hr1 q1 v rv=> ?_⟩
 exact Fin.out (E:=E) (P:=zgw X.K D0) hr1 q1 _ ((L.step s1).set rv i)
end
section
variable {K:W.Frag} {ι:Io} {H:Hp} {h:Hh} {n:Nat} {a:Addr}
theorem ze4 {o:HO} (hn:ι.c[n]? = some (some a)):Pass ι H ι (upd H a o):=⟨fun _ _ z=> .inl z,fun b o' hb nb=>⟨by rw [zaG (show b≠a from fun z=>nb (.inl (z▸List.mem_of_getElem? hn)))];exact hb,nb⟩⟩
theorem zbc.cellS {o:HO} (hr:zbc K ι H h) (hn:ι.c[n]? = some (some a)):zbP ι H ι (upd H a o):=
 ⟨fun _ _ z=> .inl z,fun _ z=> .inl z,rfl,fun b hb=>zaG fun z=>(hr.hidt b hb).2 (z▸List.mem_of_getElem? hn),fun b o' hb nb=>((ze4 hn).keep b o' hb nb).1⟩
theorem zbc.cellO {c':C} {o':HO} (hr:zbc K ι H h) (hn:ι.c[n]? = some (some a)) (co:CO K ι H c' o'):zbc K ι (upd H a o') (h.set n c'):=by
 refine ⟨by rw [qaI];exact hr.len,hr.inj,fun m b c hm hc=> ?_,fun m hm=> ?_,fun b hb=>⟨?_,(hr.hidt b hb).2⟩⟩
 ·by_cases e:n=m
  ·subst e
   rw [hn] at hm
   cases hm
   rw [qai (by rw [hr.len];exact (qac.mp hn).1)] at hc
   cases hc
   exact ⟨o',zaR,co.pass (ze4 hn)⟩
  ·rw [qao e] at hc
   obtain ⟨o2,e2,e3⟩:=hr.at_ m b c hm hc
   have ne:b≠a:=fun z=>by subst z;exact e (hr.inj n m b hn hm)
   exact ⟨o2,by rw [zaG ne];exact e2,e3.pass (ze4 hn)⟩
 ·have e:n≠m:=fun z=>by subst z;rw [hn] at hm;cases hm
  rw [qao e]
  exact hr.dead m hm
 ·rw [zaG (show b≠a from fun z=>(hr.hidt b hb).2 (z▸List.mem_of_getElem? hn))]
  exact (hr.hidt b hb).1
theorem zbc.cell {ds':List D} {vs':List V} (hr:zbc K ι H h) (hn:ι.c[n]? = some (some a)) (rl:zas K ι H ds' vs'):zbc K ι (upd H a (.lst vs')) (h.set n (.lst ds')):=hr.cellO hn ⟨vs',rfl,rl⟩
theorem zbc.read {ds:List D} {v:V} (hr:zbc K ι H h) (r:Rel K ι H (.cel n) v) (e:h[n]? = some (.lst ds)): ∃ a vs,v= .ref a/\ι.c[n]? = some (some a)/\H a=some (.lst vs)/\zas K ι H ds vs:=by
 simp only [Rel] at r
 obtain ⟨a,e1,r | r⟩:=r
 ·obtain ⟨o,e3,vs,rfl,e4⟩:=hr.at_ n a _ r e
  exact ⟨a,vs,e1,r,e3,e4⟩
 ·rw [hr.dead n r] at e
  cases e
end
noncomputable def zam (n:Nat):M (List D):=fun h=>match h[n]? with
 | some (.lst ds)=> .ok ds h
 | _=> .bad
noncomputable def zbU (n:Nat) (ds:List D):M Unit:=fun h=> .ok () (h.set n (.lst ds))
theorem zcQ {n:Nat} {h h':Hh} {ds:List D} (e:zam n h= .ok ds h'):h'=h/\h[n]? = some (.lst ds):=by
 unfold zam at e
 cases z:h[n]? with
 | none=>rw [z] at e;cases e
 | some c=>
  rw [z] at e
  cases c with
  | lst xs=>cases e;exact ⟨rfl,rfl⟩
  | dic _=>cases e
  | dead=>cases e
noncomputable def ofO {α:Type}:Option α->M α
 | some a=>pure a
 | none=>M.bad
noncomputable def dIx:D->D->M D:=fun x y=>match x,y with
 | .tup ds,.int i=>ofO (atI ds i)
 | .lst ds,.int i=>ofO (atI ds i)
 | .scr ds,.int i=>ofO (atI ds i)
 | .cel n,.int i=>do let ds<-zam n;ofO (atI ds i)
 | _,_=>M.bad
theorem zf0 {K:W.Frag} {ι:Io} {H:Hp} {ds:List D} {vs:List V} {i:Int} {d:D} (rl:zas K ι H ds vs) (e:atI ds i=some d): ∃ v,atI vs i=some v/\Rel K ι H d v:=by
 unfold atI at e ⊢
 rw [<- rl.length]
 cases z:ixN ds.length i with
 | none=>rw [z] at e;cases e
 | some j=>
  rw [z] at e
  have e:ds[j]? = some d:=e
  exact rl.get e
section
variable {X:Cx} {E:XE}
theorem Fin.ofO {α:Type} {K:W.Frag} {ι:Io} {H:Hp} {h:Hh} {o:Option α} {P:α->Io->Hp->Prop} (hr:zbc K ι H h) (q:Fin K E ι H (L3.ofO o h) P): ∃ a,o=some a/\P a ι H:=by
 cases o with
 | none=>exact qa0 q
 | some a=>exact ⟨a,rfl,Fin.out hr q⟩
theorem ztm:IxR X (zek X.K E dIx):=by
 refine IxR.imp (zjG.or zqZ) fun x y H Q ⟨ι,h,d1,d2,r1,r2,hr,q⟩=> ?_
 cases d2 with
 | int i=>
  simp only [Rel] at r2
  cases d1 with
  | tup ds=>
   obtain ⟨a,vs,e,h1,h2⟩:=zdA r1
   obtain ⟨d,e1,q⟩:=Fin.ofO hr q
   obtain ⟨v,e2,rv⟩:=zf0 h2 e1
   exact .inr ⟨a,vs,i,v,e,r2,h1,e2,q v rv⟩
  | lst ds=>
   obtain ⟨a,vs,e,h1,h2⟩:=zfD r1
   obtain ⟨d,e1,q⟩:=Fin.ofO hr q
   obtain ⟨v,e2,rv⟩:=zf0 h2 e1
   exact .inl ⟨a,vs,i,v,e,r2,h1,e2,q v rv⟩
  | scr ds=>
   obtain ⟨a,vs,e,h1,h2⟩:=zkh r1
   obtain ⟨d,e1,q⟩:=Fin.ofO hr q
   obtain ⟨v,e2,rv⟩:=zf0 h2 e1
   exact .inl ⟨a,vs,i,v,e,r2,h1,e2,q v rv⟩
  | cel n=>
   have q:Fin X.K E ι H ((zam n>>=fun ds=>L3.ofO (atI ds i)) h) _:=q
   have q':Fin X.K E ι H (M.bind (zam n) (fun ds=>L3.ofO (atI ds i)) h) _:=q
   unfold M.bind at q'
   cases z:zam n h with
   | bad=>rw [z] at q';exact qa0 q'
   | exc c h'=>unfold zam at z;split at z<;>cases z
   | ok ds h'=>
    rw [z] at q'
    obtain ⟨rfl,z2⟩:=zcQ z
    obtain ⟨a,vs,e,hn,hH,rl⟩:=hr.read r1 z2
    obtain ⟨d,e1,q⟩:=Fin.ofO hr q'
    obtain ⟨v,e2,rv⟩:=zf0 rl e1
    exact .inl ⟨a,vs,i,v,e,r2,SqL.of hH,e2,q v rv⟩
  | _=>exact qa0 q
 | _=>cases d1<;>exact qa0 q
noncomputable def zkI (o i d:D):M Unit:=match o,i with
 | .cel n,.int k=>do
  let ds<-zam n
  let j<-ofO (ixN ds.length k)
  zbU n (ds.set j d)
 | _,_=>M.bad
theorem zp4 {o i:Expr} {pos:Pos} {fo fi:Sd->M D} (hp: ∀ {t:zpy},zoY X t->PG X (.Subscript o i pos) (zsX (zhm X.K E fo) (zhm X.K E fi) t)):
  SG X E (.Subscript o i pos) (fun d sd=>do let x<-fo sd;let y<-fi sd;zkI x y d;pure sd):=by
 refine PG.imp (hp zlW) fun v σ H Q ⟨ι,h,sd,d,L,hr,rd,q⟩=>⟨ι,h,sd,L,hr,Fin.bind q fun x h1 ι1 H1 e1 s1 hr1 q1 xv rx=> ?_⟩
 refine ⟨ι1,h1,sd,L.step s1,hr1,Fin.bind q1 fun y h2 ι2 H2 e2 s2 hr2 q2 yv ry=> ?_⟩
 cases x with
 | cel n=>
  cases y with
  | int k=>
   have rx2:=rx.step s2
   have q3:Fin X.K E ι2 H2 ((zam n>>=fun ds=>(ofO (ixN ds.length k)>>=fun j=>zbU n (ds.set j d)>>=fun _=>pure sd)) h2) (fun sd' ι' H'=> ∀ σ',zcj X.K ι' H' sd' σ'->Q σ' H'):=by
    have e:(do zkI (.cel n) (.int k) d;pure sd:M Sd)=(zam n>>=fun ds=>(ofO (ixN ds.length k)>>=fun j=>zbU n (ds.set j d)>>=fun _=>pure sd)):=by
     show ((zam n>>=fun ds=>(ofO (ixN ds.length k)>>=fun j=>zbU n (ds.set j d)))>>=fun _=>pure sd)=_
     simp only [bind_assoc]
    rw [<- e]
    exact q2
   have q':Fin X.K E ι2 H2 (M.bind (zam n) (fun ds=>(ofO (ixN ds.length k)>>=fun j=>zbU n (ds.set j d)>>=fun _=>pure sd)) h2) _:=q3
   unfold M.bind at q'
   cases z:zam n h2 with
   | bad=>rw [z] at q';exact qa0 q'
   | exc c h'=>unfold zam at z;split at z<;>cases z
   | ok ds h'=>
    rw [z] at q'
    obtain ⟨rfl,z2⟩:=zcQ z
    obtain ⟨a,vs,e,hn,hH,rl⟩:=hr2.read rx2 z2
    simp only [Rel] at ry
    have q4:Fin X.K E ι2 H2 (M.bind (ofO (ixN ds.length k)) (fun j=>zbU n (ds.set j d)>>=fun _=>pure sd) h') _:=q'
    unfold M.bind at q4
    cases z3:ixN ds.length k with
    | none=>rw [z3] at q4;exact qa0 q4
    | some j=>
     rw [z3] at q4
     have q5:Fin X.K E ι2 H2 (R.ok sd (h'.set n (.lst (ds.set j d)))) (fun sd' ι' H'=> ∀ σ',zcj X.K ι' H' sd' σ'->Q σ' H'):=q4
     refine ⟨a,vs,k,j,e,ry,hH,by rw [<- rl.length];exact z3,?_⟩
     have rd2:=(rd.step s1).step s2
     exact q5 ι2 _ (hr2.cellS hn) (hr2.cell hn (rl.set rd2 j)) σ (((L.step s1).step s2).step (hr2.cellS hn))
  | _=>exact qa0 q2
 | _=>cases y<;>exact qa0 q2
end
noncomputable abbrev E0x:XE:=fun _ _=>False
noncomputable def zch (K:W.Frag) (n:Nat) (F:List D->M D):Sp:=fun vs H Q _=>vs.length=n/\ ∃ ι h ds,zas K ι H ds vs/\zbc K ι H h/\Fin K E0x ι H (F ds h) fun d ι' H'=> ∀ v,Rel K ι' H' d v->Q v H'
noncomputable def zik (n:Nat) (ds:List D):Sd:=ds.map some++List.replicate (n - ds.length) none
noncomputable def zcS:Out->M D
 | .nx _=>pure .non
 | .rt d=>pure d
 | _=>M.bad
noncomputable def zc5 (n:Nat) (G:Sd->M Out) (ds:List D):M D:=do let o<-G (zik n ds);zcS o
theorem ziV {K:W.Frag} {ι:Io} {H:Hp} {ds:List D} {vs:List V} {N:List Str} (h:zas K ι H ds vs):zcj K ι H (zik N.length ds) (L2.zfr N vs):=by
 have hl:=h.length
 unfold zik L2.zfr
 refine ⟨by simp [hl],fun i d e=> ?_⟩
 by_cases hi:i<ds.length
 ·rw [qad (by simpa using hi),List.getElem?_map] at e
  cases z:ds[i]? with
  | none=>rw [z] at e;cases e
  | some d'=>
   rw [z] at e
   cases e
   obtain ⟨v,h1,h2⟩:=h.get z
   exact ⟨v,by rw [qad (by rw [qaH, <-hl];exact hi),List.getElem?_map,h1];rfl,h2⟩
 ·rw [qaa (by simpa using hi),List.getElem?_replicate] at e
  split at e<;>cases e
section
variable {P:Program} {w:World} {K:W.Frag} {mg:Str->Option Value} {base:Heap}
theorem zbh {x qual:Str} {st:Stmt} {f:Addr} {fd:FuncData} {N ps:List Str} {k:Nat} {G:Sd->M Out} (F:Fun K x qual st f fd) (S:zau N ps (zac st))
  (hb: ∀ (cdv:Value) (A:Around) (outer:List Env) (s:Shared) (H:Hp) (E:XK),zej k (A.deeper (envOfC qual (zac st) s.heap.objs.size f cdv))->SSs (zov CX0 P w K mg base N qual (zac st) f cdv A outer s H E).nox E0x (zaq st) G):
  zbM P w K mg base CX0 (k+1) f fd ps (zch K ps.length (zc5 N.length G)):=by
 refine F.ok S (fun vs H Q E h=>h.1) fun cdv A outer s H vs Q E hr ⟨hl,ι,h,ds,rl,hh,q⟩=>⟨_,hb cdv A outer s H E hr,ι,h,zik N.length ds,ziV rl,hh,?_⟩
 refine Fin.bind q fun o h1 ι1 H1 e1 s1 hr1 q1=> ?_
 cases o with
 | nx sd=>exact fun σ' _=>Fin.out hr1 q1 _ (by simp [Rel])
 | rt d=>exact fun v rv=>Fin.out hr1 q1 v rv
 | bk sd=>exact qa0 q1
 | ct sd=>exact qa0 q1
end
section
variable {X:Cx} {e:Expr} {es:List Expr} {pos p:Pos}
noncomputable def zax (n:Nat) (F:List D->M D) (ds:List D):M D:=if ds.length=n then F ds else M.bad
theorem znR {k:Nat} {f:Addr} {fd:FuncData} {ps:List Str} {n:Nat} {F:List D->M D} {fs:Sd->M (List D)} {x:Str} (G:zbM X.prog X.w X.K X.mg X.base CX0 k f fd ps (zch X.K n F)) (hr:zej k X.A) (hg:Gl X x) (hm:X.mg x=some (.ref f)) (hk:W.keepIn X.K (.ref f)=true) (hb:zaX X.K fd ps [])
  (ha:SA X E0x (e::es) fs) (hdb:(x==("__debug__":Str))=false:=by decide) (he:starEach (e::es) X.env=(false,eval e X.env)::starEach es X.env:=by rfl) (hpl:(backTo pos (starEach es X.env)).any (·.1)=false:=by rfl):
  SE X E0x (.Call (.Name x p) (e::es) [] pos) (fun sd=>do let ds<-fs sd;zax n F ds):=by
 refine PE.imp (zoy G hr hg hm hk hb (dvs:=[]) .nil (E:=fun _ _ _=>False) zsx ha hdb he hpl) fun σ H Q ⟨ι,h,sd,L,hh,q⟩=>⟨ι,h,sd,L,hh,Fin.bind q fun ds h1 ι1 H1 e1 s1 hr1 q1 vs rv=> ?_⟩
 show zch X.K n F (vs++[]) H1 Q _
 rw [List.append_nil]
 unfold zax at q1
 by_cases hl:ds.length=n
 ·rw [qa4 hl] at q1
  exact ⟨by rw [<- rv.length];exact hl,ι1,h1,ds,rv,hr1,q1⟩
 ·rw [qa5 hl] at q1
  exact qa0 q1
end
section
variable {X:Cx} {E:XE}
theorem Fin.guard {α:Type} {K:W.Frag} {ι:Io} {H:Hp} {h:Hh} {c:Prop} [Decidable c] {f:M α} {P:α->Io->Hp->Prop} (q:Fin K E ι H ((if c then f else M.bad) h) P):c/\Fin K E ι H (f h) P:=by
 by_cases hc:c
 ·rw [qa4 hc] at q;exact ⟨hc,q⟩
 ·rw [qa5 hc] at q;exact qa0 q
theorem zmu:OpR X (binaryOp .Add) (fun x y H Q=> ∃ a b ys,x= .ref a/\y= .ref b/\SqT X.K H a []/\SqT X.K H b ys/\Q (.ref b) H):=by
 intro pins s σ H x y v u Q I rx ry h
 obtain ⟨a,b,ys,rfl,rfl,ha,hb,q⟩:=h
 cases rx
 cases ry
 obtain ⟨its,r1,p1,_⟩:=I.tuple ha
 obtain ⟨its2,r2,p2,_⟩:=I.tuple hb
 cases r1
 obtain ⟨⟨cls,dd,data,sl⟩,ho,hc,n,hd⟩:=id p1
 obtain ⟨⟨cls2,dd2,data2,sl2⟩,ho2,hc2,n2,hd2⟩:=id p2
 simp only at hc hd hc2 hd2
 subst hc hd hc2 hd2
 exact concat_meets ⟨_,ho,rfl⟩ ⟨_,ho2,rfl⟩ noFill_tuple_add seq_tuple_add PySem.F.slot_tuple_add PySem.F.entry_tuple_add (PySem.F.args_tuple_add_2 _ _)
   (tuple_addW0 a b _ _ n n2 dd dd2 sl sl2 (by simp)) ⟨ho,ho2,⟨.ref b,H,I,rfl,q⟩⟩
noncomputable def ze9 (x y:D):M D:=match x,y with
 | .int i,.int j=>pure (.int (i+j))
 | .tup xs,.tup ys=>do fits (xs.length+ys.length);pure (.tup (xs++ys))
 | .lst xs,.lst ys=>do fits (xs.length+ys.length);pure (.lst (xs++ys))
 | .str x,.str y=>do fits (x.length+y.length);pure (.str (x++y))
 | _,_=>M.bad
theorem zbq:OpR X (binaryOp .Add) (zek X.K E ze9):=by
 refine OpR.imp (zra.or (zmu.or (zni.or (zqw.or ziN)))) fun x y H Q ⟨ι,h,d1,d2,r1,r2,hr,q⟩=> ?_
 unfold ze9 at q
 split at q
 ·simp only [Rel] at r1 r2
  exact .inl ⟨_,_,r1,r2,Fin.out hr q _ (by simp [Rel])⟩
 ·rename_i xs ys
  right
  obtain ⟨a,vs,e,h1,h2⟩:=zdA r1
  obtain ⟨b,ws,e',h1',h2'⟩:=zdA r2
  obtain ⟨z,q⟩:=Fin.fits q
  cases xs with
  | nil=>
   simp only [zas] at h2
   subst h2
   exact .inl ⟨a,b,ws,e,e',h1,h1',Fin.out hr q _ (by rw [<- e'];exact r2)⟩
  | cons x0 xr=>
   refine .inr (.inl ⟨a,b,vs,ws,e,e',h1,h1',fun z=> ?_,by rw [<- h2.length, <-h2'.length];exact z,fun z=> ?_,fun z p hp=>zn5 hr (h2.append h2') q hp⟩)
   ·subst z
    have:=h2.length
    cases this
   ·subst z
    have:=h2'.length
    cases ys with
    | nil=>rw [List.append_nil] at q;exact Fin.out hr q _ (by rw [<- e];exact r1)
    | cons _ _=>cases this
 ·rename_i xs ys
  right;right;right;left
  simp only [Rel] at r1 r2
  obtain ⟨a,vs,e,h1,h2⟩:=r1
  obtain ⟨b,ws,e',h1',h2'⟩:=r2
  obtain ⟨z,q⟩:=Fin.fits q
  exact ⟨a,b,vs,ws,e,e',h1.1,h1'.1,by rw [<- h2.length, <-h2'.length];exact z,fun p hp=>zrc hr (h2.append h2') q hp⟩
 ·simp only [Rel] at r1 r2
  obtain ⟨z,q⟩:=Fin.fits q
  exact .inr (.inr (.inr (.inr ⟨_,_,r1,r2,z,Fin.out hr q _ (by simp [Rel])⟩)))
 ·exact qa0 q
noncomputable def dII (C:Int->Int->Bool) (g:Int->Int->D) (x y:D):M D:=match x,y with
 | .int i,.int j=>if C i j=true then pure (g i j) else M.bad
 | _,_=>M.bad
theorem zlF {f:Value->Value->Sem Value} {C:Int->Int->Bool} {C':Int->Int->Prop} {g:Int->Int->V} {g':Int->Int->D} (ho:OpR X f (rI C' g)) (hc: ∀ i j,C i j=true->C' i j) (hg: ∀ i j ι H,Rel X.K ι H (g' i j) (g i j)):OpR X f (zek X.K E (dII C g')):=by
 refine OpR.imp ho fun x y H Q ⟨ι,h,d1,d2,r1,r2,hr,q⟩=> ?_
 unfold dII at q
 split at q
 ·simp only [Rel] at r1 r2
  obtain ⟨c,q⟩:=Fin.guard q
  exact ⟨_,_,r1,r2,hc _ _ c,Fin.out hr q _ (hg _ _ _ _)⟩
 ·exact qa0 q
theorem zix {f:Value->Value->Sem Value} {g:Int->Int->V} {g':Int->Int->D} (ho:OpR X f (rI0 g)) (hg: ∀ i j ι H,Rel X.K ι H (g' i j) (g i j)):OpR X f (zek X.K E (dII (fun _ _=>true) g')):=by
 refine OpR.imp ho fun x y H Q ⟨ι,h,d1,d2,r1,r2,hr,q⟩=> ?_
 unfold dII at q
 split at q
 ·simp only [Rel] at r1 r2
  obtain ⟨c,q⟩:=Fin.guard q
  exact ⟨_,_,r1,r2,Fin.out hr q _ (hg _ _ _ _)⟩
 ·exact qa0 q
noncomputable def zoZ:=dII (fun _ _=>true) fun i j=> .int (i - j)
theorem zhx:OpR X (binaryOp .Sub) (zek X.K E zoZ):=zix zql fun _ _ _ _=>by simp [Rel]
noncomputable def zbg (i:Int):Bool:=decide (-(2^64)<i) && decide (i<2^64)
theorem zc1 {i:Int} (h:zbg i=true): -(2^64)<i/\i<2^64:=by unfold zbg at h;simpa using h
theorem zlO:OpR X (binaryOp .FloorDiv) (rI (fun _ j=>0<j/\j<2^64) fun i j=> .int (i / j)):=opI fun i j _ _ _ _ _ hc q=>by
 refine floordiv_int (by omega) (by rw [Int.fdiv_eq_ediv_of_nonneg _ (by omega)];exact q) (.inl (PyProof.noPylong_of_log2 ?_))
 have h1:j.natAbs<2^64:=by omega
 have h0:j.natAbs≠0:=by omega
 exact Nat.lt_trans ((Nat.log2_lt h0).mpr h1) (by decide)
noncomputable def zoU:=dII (fun _ j=>decide (0<j) && decide (j<2^64)) fun i j=> .int (i / j)
theorem zmq:OpR X (binaryOp .FloorDiv) (zek X.K E zoU):=zlF zlO (fun i j h=>by simpa using h) fun _ _ _ _=>by simp [Rel]
noncomputable def zqR:=dII (fun _ j=>decide (0<j)) fun i j=> .int (i % j)
theorem zhH:OpR X (binaryOp .Mod) (zek X.K E zqR):=zlF zqr (fun i j h=>by simpa using h) fun _ _ _ _=>by simp [Rel]
noncomputable def zsC (i j:Int):Bool:=decide (0<=j) && decide (j<=1000000) && decide (i.natAbs<2^64)
noncomputable def zrs:=dII zsC fun i j=> .int (i^j.toNat)
theorem zlH {i j:Int} (h:zsC i j=true):zsg i j:=by unfold zsC at h;simpa [zsg,and_assoc] using h
theorem znH:OpR X (binaryOp .Pow) (zek X.K E zrs):=zlF zpQ (fun _ _=>zlH) fun _ _ _ _=>by simp [Rel]
noncomputable def ztg:=dII (fun _ _=>true) fun i j=> .int (Builtin.bitAnd i j)
noncomputable def dLt:=dII (fun _ _=>true) fun i j=> .bl (decide (i<j))
theorem zgL:OpR X (compareOp .Lt) (zek X.K E dLt):=zix zrL fun _ _ _ _=>by simp [Rel]
noncomputable def dLe:=dII (fun _ _=>true) fun i j=> .bl (decide (i<=j))
theorem zmM:OpR X (compareOp .LtE) (zek X.K E dLe):=zix zr6 fun _ _ _ _=>by simp [Rel]
noncomputable def dGt:=dII (fun _ _=>true) fun i j=> .bl (decide (j<i))
theorem zqp:OpR X (compareOp .Gt) (zek X.K E dGt):=zix zsa fun _ _ _ _=>by simp [Rel]
noncomputable def dGe:=dII (fun _ _=>true) fun i j=> .bl (decide (j<=i))
noncomputable def zo2:D->M D
 | .int i=>pure (.int (-i))
 | _=>M.bad
theorem zpf {a:Expr} {pos:Pos} {fa:Sd->M D} (ha:SE X E a fa):SE X E (.UnaryOp .USub a pos) (fun sd=>do let x<-fa sd;zo2 x):=by
 refine PE.imp (zrU zq7 ha) fun σ H Q ⟨ι,h,sd,L,hh,q⟩=>⟨ι,h,sd,L,hh,Fin.bind q fun d h1 ι1 H1 e1 s1 hr1 q1 v rv=> ?_⟩
 cases d with
 | int i=>simp only [Rel] at rv;exact ⟨i,rv,Fin.out hr1 q1 _ (by simp [Rel])⟩
 | _=>exact qa0 q1
mutual
noncomputable def pd:D->Option PyData
 | .non=>some .none
 | .bl b=>some (.bool b)
 | .int i=>some (.int i)
 | .str x=>some (.str x)
 | .tup xs=>(pdL xs).map .tuple
 | .lst xs=>(pdL xs).map .list
 | .scr xs=>(pdL xs).map .list
 | _=>none
noncomputable def pdL:List D->Option (List PyData)
 | []=>some []
 | x::xs=>match pd x,pdL xs with
  | some a,some r=>some (a::r)
  | _,_=>none
end
mutual
theorem zeZ {pins:List (Addr×Obj)} {σ:L2.St} {H:Hp} {s:Shared} {ι:Io} (I:Inv X pins σ H s): ∀ {d:D} {v:V} {u:Value} {p:PyData},Rel X.K ι H d v->zcf v u->pd d=some p-> ∃ as,Reads s.heap u p as
 | .non,v,u,p,r,ru,e=>by simp only [Rel] at r;subst r;cases ru;cases e;exact ⟨_,.none⟩
 | .bl b,v,u,p,r,ru,e=>by simp only [Rel] at r;subst r;cases ru;cases e;exact ⟨_,.bool _⟩
 | .int i,v,u,p,r,ru,e=>by simp only [Rel] at r;subst r;obtain ⟨t,rfl⟩:=ru;cases e;exact ⟨_,.int _ _⟩
 | .str i,v,u,p,r,ru,e=>by simp only [Rel] at r;subst r;obtain ⟨t,rfl⟩:=ru;cases e;exact ⟨_,.str _ _⟩
 | .tup ds,v,u,p,r,ru,e=>by
  obtain ⟨a,vs,rfl,h1,h2⟩:=zdA r
  cases ru
  obtain ⟨its,rv,pl,_⟩:=I.tuple h1
  obtain ⟨o,ho,hc,n,hd⟩:=pl
  unfold pd at e
  cases z:pdL ds with
  | none=>rw [z] at e;cases e
  | some ps=>
   rw [z] at e;cases e
   obtain ⟨as,q⟩:=zhe I h2 rv z
   exact ⟨_,.tuple ho hc hd (by simpa using q)⟩
 | .lst ds,v,u,p,r,ru,e=>by
  obtain ⟨a,vs,rfl,h1,h2⟩:=zfD r
  cases ru
  obtain ⟨its,rv,pl,_⟩:=I.list h1
  obtain ⟨o,ho,hc,n,hd⟩:=pl.isList
  unfold pd at e
  cases z:pdL ds with
  | none=>rw [z] at e;cases e
  | some ps=>
   rw [z] at e;cases e
   obtain ⟨as,q⟩:=zhe I h2 rv z
   exact ⟨_,.list ho hc hd (by simpa using q)⟩
 | .scr ds,v,u,p,r,ru,e=>by
  obtain ⟨a,vs,rfl,h1,h2⟩:=zkh r
  cases ru
  obtain ⟨its,rv,pl,_⟩:=I.list h1
  obtain ⟨o,ho,hc,n,hd⟩:=pl.isList
  unfold pd at e
  cases z:pdL ds with
  | none=>rw [z] at e;cases e
  | some ps=>
   rw [z] at e;cases e
   obtain ⟨as,q⟩:=zhe I h2 rv z
   exact ⟨_,.list ho hc hd (by simpa using q)⟩
 | .cel n,_,_,_,_,_,e=>by cases e
 | .set xs,_,_,_,_,_,e=>by cases e
 | .dct,_,_,_,_,_,e=>by cases e
 | .fn _,_,_,_,_,_,e=>by cases e
 | .exn _,_,_,_,_,_,e=>by cases e
theorem zhe {pins:List (Addr×Obj)} {σ:L2.St} {H:Hp} {s:Shared} {ι:Io} (I:Inv X pins σ H s): ∀ {ds:List D} {vs:List V} {us:List Value} {ps:List PyData},zas X.K ι H ds vs->za6 vs us->pdL ds=some ps-> ∃ as,ReadsAll s.heap us ps as
 | [],vs,us,ps,r,ru,e=>by simp only [zas] at r;subst r;cases ru;cases e;exact ⟨_,.nil⟩
 | d::ds,vs,us,ps,r,ru,e=>by
  simp only [zas] at r
  obtain ⟨v,vr,rfl,r1,r2⟩:=r
  cases ru with
  | cons ru1 ru2=>
   unfold pdL at e
   cases z:pd d with
   | none=>rw [z] at e;cases e
   | some a=>
    cases z2:pdL ds with
    | none=>rw [z,z2] at e;cases e
    | some b=>
     rw [z,z2] at e
     cases e
     obtain ⟨as,q1⟩:=zeZ I r1 ru1 z
     obtain ⟨bs,q2⟩:=zhe I r2 ru2 z2
     exact ⟨_,.cons q1 q2⟩
end
noncomputable def zfk (a b:PyData):Bool:=a.canLay0 && b.canLay0 && decide (min a.depth b.depth<=60)
noncomputable def zjX (neg:Bool) (x y:D):M D:=match pd x,pd y with
 | some a,some b=>if zfk a b=true then pure (.bl (if neg then !PyData.eqv a b else PyData.eqv a b)) else M.bad
 | _,_=>M.bad
noncomputable def dEq:=zjX false
noncomputable def dNe:=zjX true
theorem zeE {a b:PyData} (h:zfk a b=true):a.canLay0=true/\b.canLay0=true/\min a.depth b.depth<=60:=by unfold zfk at h;simpa [and_assoc] using h
theorem zim {K:W.Frag} {ι:Io} {H:Hp} {h:Hh} {neg:Bool} {x y:D} {P:D->Io->Hp->Prop} (q:Fin K E ι H (zjX neg x y h) P): ∃ a b,pd x=some a/\pd y=some b/\zfk a b=true/\Fin K E ι H ((pure (.bl (if neg then !PyData.eqv a b else PyData.eqv a b)):M D) h) P:=by
 unfold zjX at q
 cases e1:pd x with
 | none=>rw [e1] at q;exact qa0 q
 | some a=>
  cases e2:pd y with
  | none=>rw [e1,e2] at q;exact qa0 q
  | some b=>
   rw [e1,e2] at q
   obtain ⟨c,q⟩:=Fin.guard q
   exact ⟨a,b,rfl,rfl,c,q⟩
theorem zcO (hu:X.A.units+60<cLine):OpR X (compareOp .Eq) (zek X.K E dEq):=by
 intro pins s σ H x y v u Q I rx ry ⟨ι,h,d1,d2,r1,r2,hr,q⟩
 obtain ⟨a,b,e1,e2,c,q2⟩:=zim q
 obtain ⟨c1,c2,c3⟩:=zeE c
 obtain ⟨as,ra⟩:=zeZ I r1 rx e1
 obtain ⟨bs,rb⟩:=zeZ I r2 ry e2
 exact SeqAt.compareEq_reads ra rb c1 c2 (by omega) ⟨.bl _,H,I,rfl,Fin.out hr q2 (.bl _) (by simp [Rel])⟩
theorem ze2 (hu:X.A.units+60<cLine):OpR X (compareOp .NotEq) (zek X.K E dNe):=by
 intro pins s σ H x y v u Q I rx ry ⟨ι,h,d1,d2,r1,r2,hr,q⟩
 obtain ⟨a,b,e1,e2,c,q2⟩:=zim q
 obtain ⟨c1,c2,c3⟩:=zeE c
 obtain ⟨as,ra⟩:=zeZ I r1 rx e1
 obtain ⟨bs,rb⟩:=zeZ I r2 ry e2
 exact SeqAt.compareNe_reads ra rb c1 c2 (by omega) ⟨.bl _,H,I,rfl,Fin.out hr q2 (.bl _) (by simp [Rel])⟩
noncomputable def ziZ (a:PyData) (xs:List PyData):Bool:=a.canLay0 && PyData.canLayAll0 xs && decide (min (PyData.depthAll xs) a.depth<=50)
theorem zh9 {a:PyData} {xs:List PyData} (h:ziZ a xs=true):a.canLay0=true/\PyData.canLayAll0 xs=true/\min (PyData.depthAll xs) a.depth<=50:=by unfold ziZ at h;simpa [and_assoc] using h
noncomputable def zjp (neg:Bool) (x c:D):M D:=match pd x,c with
 | some a,.tup ds=>match pdL ds with
  | some xs=>if ziZ a xs=true then pure (.bl (if neg then !xs.any (fun y=>PyData.eqv y a) else xs.any fun y=>PyData.eqv y a)) else M.bad
  | none=>M.bad
 | some a,.lst ds=>match pdL ds with
  | some xs=>if ziZ a xs=true then pure (.bl (if neg then !xs.any (fun y=>PyData.eqv y a) else xs.any fun y=>PyData.eqv y a)) else M.bad
  | none=>M.bad
 | _,_=>M.bad
noncomputable def dIn:=zjp false
noncomputable def zda:=zjp true
theorem zie {K:W.Frag} {ι:Io} {H:Hp} {h:Hh} {neg:Bool} {x c:D} {P:D->Io->Hp->Prop} (q:Fin K E ι H (zjp neg x c h) P): ∃ a ds xs,pd x=some a/\pdL ds=some xs/\(c= .tup ds\/c= .lst ds)/\ziZ a xs=true/\
  Fin K E ι H ((pure (.bl (if neg then !xs.any (fun y=>PyData.eqv y a) else xs.any fun y=>PyData.eqv y a)):M D) h) P:=by
 unfold zjp at q
 cases e1:pd x with
 | none=>rw [e1] at q;exact qa0 q
 | some a=>
  rw [e1] at q
  cases c with
  | tup ds=>
   dsimp only at q
   cases e2:pdL ds with
   | none=>rw [e2] at q;exact qa0 q
   | some xs=>
    rw [e2] at q
    obtain ⟨c,q⟩:=Fin.guard q
    exact ⟨a,ds,xs,rfl,e2,.inl rfl,c,q⟩
  | lst ds=>
   dsimp only at q
   cases e2:pdL ds with
   | none=>rw [e2] at q;exact qa0 q
   | some xs=>
    rw [e2] at q
    obtain ⟨c,q⟩:=Fin.guard q
    exact ⟨a,ds,xs,rfl,e2,.inr rfl,c,q⟩
  | _=>exact qa0 q
theorem ze0 (hu:X.A.units+60<cLine):OpR X (compareOp .In) (zek X.K E dIn):=by
 intro pins s σ H x y v u Q I rx ry ⟨ι,h,d1,d2,r1,r2,hr,q⟩
 obtain ⟨a,ds,xs,e1,e2,ec,c,q2⟩:=zie q
 obtain ⟨c1,c2,c3⟩:=zh9 c
 obtain ⟨as,ra⟩:=zeZ I r1 rx e1
 rcases ec with rfl | rfl
 ·obtain ⟨bs,rb⟩:=zeZ I r2 ry (p:= .tuple xs) (by unfold pd;rw [e2];rfl)
  exact SeqAt.in_tuple_reads rb ra c2 c1 (by omega) ⟨.bl _,H,I,rfl,Fin.out hr q2 (.bl _) (by simp [Rel])⟩
 ·obtain ⟨bs,rb⟩:=zeZ I r2 ry (p:= .list xs) (by unfold pd;rw [e2];rfl)
  exact SeqAt.in_list_reads rb ra c2 c1 (by omega) ⟨.bl _,H,I,rfl,Fin.out hr q2 (.bl _) (by simp [Rel])⟩
theorem zcg (hu:X.A.units+60<cLine):OpR X (compareOp .NotIn) (zek X.K E zda):=by
 intro pins s σ H x y v u Q I rx ry ⟨ι,h,d1,d2,r1,r2,hr,q⟩
 obtain ⟨a,ds,xs,e1,e2,ec,c,q2⟩:=zie q
 obtain ⟨c1,c2,c3⟩:=zh9 c
 obtain ⟨as,ra⟩:=zeZ I r1 rx e1
 rcases ec with rfl | rfl
 ·obtain ⟨bs,rb⟩:=zeZ I r2 ry (p:= .tuple xs) (by unfold pd;rw [e2];rfl)
  exact SeqAt.notIn_tuple_reads rb ra c2 c1 (by omega) ⟨.bl _,H,I,rfl,Fin.out hr q2 (.bl _) (by simp [Rel])⟩
 ·obtain ⟨bs,rb⟩:=zeZ I r2 ry (p:= .list xs) (by unfold pd;rw [e2];rfl)
  exact SeqAt.notIn_list_reads rb ra c2 c1 (by omega) ⟨.bl _,H,I,rfl,Fin.out hr q2 (.bl _) (by simp [Rel])⟩
end
end L3
namespace HT
open PySem PySem.Spec PyProof.Rows L2
section
variable {prog:Program} {w:World} {A:Around} {E:Value->Shared->Prop} {s:Shared}
theorem zdI {t sl:Addr} {items:Array Value} {vl vu:Value} {lo hi:Option Int} {Q:Value->Shared->Prop} (ht:IsTup s.heap t items) (hs:s.heap.IsSliceOf sl vl vu .none) (pl:IsPart vl lo) (pu:IsPart vu hi)
  (hw:sIx items.size 0 lo=0/\sIx items.size items.size hi=items.size) (h:Q (.ref t) s):wpAny (model prog w) A (getItem (.ref t) (.ref sl)) Q E s:=by
 obtain ⟨os,hos,hcs,hds⟩:=id hs
 have hTs:s.TypeIs (.ref sl) "slice":=⟨os,hos,hcs⟩
 unfold getItem
 try with_reducible refine qaO ?_
 first | refine qaW (qaX ?_) | skip
 refine qaW (wpAny_sequenceKey ht.typeIs (by decide) ?_)
 refine qaW (wpAny_callSpecial?_slot (name:=Str.ofString "__getitem__") ht.typeIs PyProof.Rows.slot_tuple_getitem
   (wpAny_call_entry PyProof.Rows.slot_tuple_getitem ht.typeIs entry_tuple_getitem ?_ (args_tuple_getitem _ _)))
 show wpAny _ _ (Builtin.Tuple.tupleItemsOf (.ref t)>>=_) _ _ s
 refine qaW (tupleItemsOf_ ht ?_)
 refine qaW (wpAny_typeOf hTs ?_)
 rw [qa4 (by decide)]
 refine qaW (zc4 hs pl pu ?_)
 show wpAny _ _ (if (((sIx items.size 0 lo:Nat):Int)==0 && (1:Int)==1 && (sIx items.size items.size hi - sIx items.size 0 lo)==items.size)=true then _ else _) _ _ s
 rw [hw.1,hw.2,qa4 (by simp)]
 refine qaW (m:=Builtin.Tuple.tupleIsExact _) (qaW (wpAny_typeOf ht.typeIs (qaX ?_)))
 rw [qa4 (by decide)]
 refine qaW (wpAny_rule ?_)
 exact qaX ⟨_,rfl,qaX h⟩
end
end HT
namespace L2
open PySem PySem.Spec PyProof.Rows
section
variable {X:Cx} {e:Expr} {te:TE} {pos p2:Pos}
theorem znY:SlR X (fun x lo hi H Q=> ∃ a xs,x= .ref a/\SqT X.K H a xs/\(HT.sIx xs.length 0 lo=0/\HT.sIx xs.length xs.length hi=xs.length)/\Q (.ref a) H):=by
 intro pins s σ H x v vl vu lo hi sl Q I rx hs pl pu h
 obtain ⟨a,xs,rfl,hx,hw,q⟩:=h
 cases rx
 obtain ⟨its,r,ht,hz⟩:=I.tuple hx
 have hlen:its.toArray.size=xs.length:=by rw [qaA];exact r.length.symm
 refine ⟨"tuple",_,PyProof.Rows.slot_tuple_getitem.lookup,ht.typeIs,?_⟩
 exact HT.zdI ht hs pl pu (by rw [hlen];exact hw) ⟨.ref a,H,I,rfl,q⟩
theorem zeA:fillsNumberSlot (.type "tuple") "mul"=pure false:=
 PySem.fillsNumberSlot_seq (id:="tuple.__mul__") (r:=some (.builtin "tuple.__rmul__")) F.slot_tuple_mul.lookup (by decide +kernel) F.slot_tuple_rmul.lookup (by decide +kernel)
theorem zhc:seqRepeat? (.type "tuple")=pure (some (.builtin "tuple.__mul__")):=by
 unfold seqRepeat?
 rw [PySem.seqSlot_of (T:="tuple") (name:="__mul__") (id:="tuple.__mul__") F.slot_tuple_mul.lookup (by decide +kernel),PySem.seqSlot_of (T:="tuple") (name:="__rmul__") (id:="tuple.__rmul__") F.slot_tuple_rmul.lookup (by decide +kernel)]
 rfl
theorem zfq (k:Int) (t:Tok) (l:Addr) (items:Array Value) (n:Nat) (dd:Option Addr) (sl:Array (Option Value)):
  Meets (Builtin.«int.__rmul__» ⟨[.int k t,.ref l],[]⟩) (fun _ R s=>s.heap.get? l=some {cls:= .type "tuple",dict:=dd,data:= .seq items n,slots:=sl}/\R (.ok (.ret Value.notImplemented)) s):=
 .of_wp fun prog w A R s h=>by obtain ⟨hp,g,d,tk,os⟩:=s;obtain ⟨hl,h⟩:=h;wp_walk;exact ⟨_,rfl,h⟩
theorem zj4 (k:Int) (t:Tok) (l:Addr) (items:Array Value) (n:Nat) (dd:Option Addr) (sl:Array (Option Value)) (hne:items.isEmpty=false) (hk:2<=k) (hk2:k<1000) (hz:items.size*k.toNat<=sizeLine):
  Meets (Builtin.«tuple.__mul__» ⟨[.ref l,.int k t],[]⟩) (fun _ R s=>s.heap.get? l=some {cls:= .type "tuple",dict:=dd,data:= .seq items n,slots:=sl}/\
    R (.ok (.ret (.ref s.heap.objs.size))) {s with heap:=s.heap.push {cls:= .type "tuple",data:= .seq ((List.replicate k.toNat items).foldl (· ++ ·) #[])}}):=
 .of_wp fun prog w A R s h=>by
  obtain ⟨hp,g,d,tk,os⟩:=s;obtain ⟨hl,h⟩:=h
  unfold Builtin.«tuple.__mul__» 
  wp_walk
  have hk63: ¬(decide (k< -2^63) || decide (k>=2^63))=true:=by
   rw [Bool.or_eq_true,qaD,qaD]
   omega
  rw [qa5 hk63]
  dsimp only
  have ht:IsTup hp l items:=⟨_,hl,rfl,_,rfl⟩
  refine qaW (tupleItemsOf_ ht ?_)
  have h1: ¬(items.isEmpty || k==1)=true:=by
   rw [hne,Bool.false_or,beq_iff_eq]
   omega
  rw [qa5 h1]
  have h2: ¬(decide (k<=0) || items.isEmpty)=true:=by
   rw [hne,Bool.or_false,qaD]
   omega
  rw [qa5 h2]
  have hk0:((k.toNat:Nat):Int)=k:=Int.toNat_of_nonneg (by omega)
  have hm:((items.size:Nat):Int)*k=((items.size*k.toNat:Nat):Int):=by rw [Int.natCast_mul,hk0]
  have hsl:(sizeLine:Nat)=16777216:=by decide
  have h3: ¬((items.size:Int)*k>(2^63 - 1) / 8):=by
   rw [hm]
   omega
  rw [qa5 h3]
  have h4: ¬Builtin.Tuple.tupleTooMany ((items.size:Int)*k)=true:=by
   unfold Builtin.Tuple.tupleTooMany
   rw [hm,qaD]
   omega
  rw [qa5 h4]
  have hsz:sizeOk (.seq (List.foldl (fun x1 x2=>x1++x2) #[] (List.replicate k.toNat items))):=by
   show (List.foldl (fun x1 x2=>x1++x2) #[] (List.replicate k.toNat items)).size<=sizeLine
   have e: ∀ (m:Nat) (acc:Array Value),(List.foldl (fun x1 x2=>x1++x2) acc (List.replicate m items)).size=acc.size+m*items.size:=by
    intro m
    induction m with
    | zero=>intro acc;simp
    | succ m ih=>intro acc;rw [List.replicate_succ,List.foldl_cons,ih,Array.size_append,Nat.succ_mul];omega
   rw [e,Nat.mul_comm]
   simpa using hz
  exact qaW (m:=Builtin.Tuple.tupleExact _) (qaC (qaX ⟨_,rfl,h⟩) hsz)
theorem zn9:OpR X (binaryOp .Mult) (fun x y H Q=> ∃ a k xs,x= .ref a/\y= .int k/\SqT X.K H a xs/\xs≠[]/\2<=k/\k<1000/\xs.length*k.toNat<=sizeLine/\ ∀ p,H p=none->Q (.ref p) (upd H p (.tup (List.replicate k.toNat xs).flatten))):=by
 intro pins s σ H x y v u Q I rx ry h
 obtain ⟨a,k,xs,rfl,rfl,hx,hne,h1,h2,hz,q⟩:=h
 cases rx
 obtain ⟨t,rfl⟩:=ry
 obtain ⟨its,r,ht,_⟩:=I.tuple hx
 have hl:=r.length
 obtain ⟨⟨cls,dd,data,sl⟩,ho,hc,n,hd⟩:=id ht
 simp only at hc hd
 subst hc hd
 have hemp:its.toArray.isEmpty=false:=by
  cases its with
  | nil=>cases r;exact absurd rfl hne
  | cons _ _=>simp
 refine wpAny_binaryOp_repeat_ref (T:="tuple") (U:="int") (by decide) ⟨_,ho,rfl⟩ (fun s'=>typeIs_int s' k t) zeA F.fills_int_mul F.slot_int_rmul zhc F.slot_int_index.lookup
  (call_meets F.slot_int_rmul (typeIs_int s k t) F.entry_int_rmul (F.args_int_rmul_2 _ _) (zfq k t a its.toArray n dd sl)
    ⟨ho,rfl,⟨_,ho,rfl⟩,call_meets F.slot_tuple_mul ⟨_,ho,rfl⟩ F.entry_tuple_mul (F.args_tuple_mul_2 _ _) (zj4 k t a its.toArray n dd sl hemp h1 h2 (by rw [qaA, <-hl];exact hz)) ⟨ho,?_⟩⟩)
 have hnew:List.foldl (fun x1 x2=>x1++x2) #[] (List.replicate k.toNat its.toArray)=(List.replicate k.toNat its).flatten.toArray:=by
  have:=zgE its k.toNat []
  rw [List.nil_append] at this
  exact this
 rw [hnew]
 refine ⟨.ref _,_,I.laid (t':=s.toks) (o:= .tup (List.replicate k.toNat xs).flatten) (fun b ob q=>qag _ q) (qaV _) ?_,rfl,q _ (I.hok.fresh (qaV _))⟩
 exact ⟨by rw [zn7,Nat.mul_comm];exact hz,_,r.rep k.toNat,IsTup.new _ _⟩
end
end L2
namespace LT
open PySem PySem.Spec PyProof.Rows
noncomputable abbrev Up (xs:Array Nat):Prop:=xs.toList.Pairwise (· < ·)
theorem Up.lt {xs:Array Nat} (h:Up xs) {i j:Nat} {a b:Nat} (hi:xs[i]? = some a) (hj:xs[j]? = some b) (hij:i<j):a<b:=by
 have hi':xs.toList[i]? = some a:=by simpa using hi
 have hj':xs.toList[j]? = some b:=by simpa using hj
 obtain ⟨h1,e1⟩:=qac.mp hi'
 obtain ⟨h2,e2⟩:=qac.mp hj'
 have:=List.pairwise_iff_getElem.mp h i j h1 h2 hij
 rw [e1,e2] at this
 exact this
theorem zf6 {xs:Array Nat} (h:Up xs) (j:Nat): ∀ (fuel lo hi:Nat),hi - lo<=fuel->lo<=hi->hi<=xs.size->(∀ i a,i<lo->xs[i]? = some a->a<j)->(∀ i a,hi<=i->xs[i]? = some a->j<=a)->
  let r:=SetTable.below.go xs j fuel lo hi
  r<=xs.size/\(∀ i a,i<r->xs[i]? = some a->a<j)/\(∀ i a,r<=i->xs[i]? = some a->j<=a)
 | 0,lo,hi,hf,hl,hs,h1,h2=>by
  have e:lo=hi:=by omega
  subst e
  exact ⟨hs,h1,h2⟩
 | fuel+1,lo,hi,hf,hl,hs,h1,h2=>by
  unfold SetTable.below.go
  by_cases hlt:lo<hi
  ·rw [qa4 hlt]
   have hm:(lo+hi) / 2<xs.size:=by omega
   have em:xs[(lo+hi) / 2]? = some xs[(lo+hi) / 2]:=by simp [hm]
   have eg:xs.getD ((lo+hi) / 2) j=xs[(lo+hi) / 2]:=by simp [Array.getD,hm]
   dsimp only
   by_cases hc:xs.getD ((lo+hi) / 2) j<j
   ·rw [qa4 hc]
    refine zf6 h j fuel _ hi (by omega) (by omega) hs (fun i a hi' e=> ?_) h2
    rw [eg] at hc
    by_cases z:i=(lo+hi) / 2
    ·subst z;rw [em] at e;cases e;exact hc
    ·exact Nat.lt_trans (h.lt e em (by omega)) hc
   ·rw [qa5 hc]
    refine zf6 h j fuel lo _ (by omega) (by omega) (by omega) h1 fun i a hi' e=> ?_
    rw [eg] at hc
    by_cases z:i=(lo+hi) / 2
    ·subst z;rw [em] at e;cases e;omega
    ·have:=h.lt em e (by omega)
     omega
  ·rw [qa5 hlt]
   have e:lo=hi:=by omega
   subst e
   exact ⟨hs,h1,h2⟩
theorem zfQ {xs:Array Nat} (h:Up xs) (j:Nat):SetTable.below xs j<=xs.size/\(∀ i a,i<SetTable.below xs j->xs[i]? = some a->a<j)/\(∀ i a,SetTable.below xs j<=i->xs[i]? = some a->j<=a):=
 zf6 h j xs.size 0 xs.size (by omega) (Nat.zero_le _) (qaV _) (fun _ _ z=>absurd z (Nat.not_lt_zero _)) fun i a z e=>by
  have:=(qab.mp e).1
  omega
theorem zfL {xs:Array Nat} (h:Up xs) {k a:Nat} (e:xs[k]? = some a):SetTable.below xs (a+1)=k+1:=by
 obtain ⟨h1,h2,h3⟩:=zfQ h (a+1)
 by_cases c:SetTable.below xs (a+1)<=k
 ·have:=h3 k a c e
  omega
 ·by_cases c2:k+1<SetTable.below xs (a+1)
  ·have hl:k+1<xs.size:=by omega
   have e2:xs[k+1]? = some xs[k+1]:=by simp [hl]
   have a1:=h2 (k+1) _ c2 e2
   have a2:=h.lt e e2 (by omega)
   omega
  ·omega
theorem zfK {xs:Array Nat} (h:Up xs):SetTable.below xs 0=0:=by
 obtain ⟨h1,h2,h3⟩:=zfQ h 0
 by_cases c:SetTable.below xs 0=0
 ·exact c
 ·have hl:0<xs.size:=by omega
  exact absurd (h2 0 _ (by omega) (show xs[0]? = some xs[0] by simp [hl])) (Nat.not_lt_zero _)
theorem zkW {xs:Array Nat} (h:Up xs) {j:Nat} (hn:xs[SetTable.below xs j]? ≠ some j):Up (SetTable.insertAt xs (SetTable.below xs j) j):=by
 obtain ⟨h1,h2,h3⟩:=zfQ h j
 show (SetTable.insertAt xs (SetTable.below xs j) j).toList.Pairwise (· < ·)
 rw [SetTable.toList_insertAt]
 rw [qaq]
 have hsplit:xs.toList.take (SetTable.below xs j)++xs.toList.drop (SetTable.below xs j)=xs.toList:=List.take_append_drop ..
 have hp:(xs.toList.take (SetTable.below xs j)++xs.toList.drop (SetTable.below xs j)).Pairwise (· < ·):=by rw [hsplit];exact h
 obtain ⟨p1,p2,p3⟩:=qaq.mp hp
 have tk: ∀ a∈xs.toList.take (SetTable.below xs j),a<j:=fun a ha=>by
  obtain ⟨i,hi⟩:=List.mem_iff_getElem?.mp ha
  rw [List.getElem?_take] at hi
  split at hi
  ·rename_i hlt
   exact h2 i a hlt (by simpa using hi)
  ·cases hi
 have dr: ∀ a∈xs.toList.drop (SetTable.below xs j),j<a:=fun a ha=>by
  obtain ⟨i,hi⟩:=List.mem_iff_getElem?.mp ha
  rw [List.getElem?_drop] at hi
  have hi':xs[SetTable.below xs j+i]? = some a:=by simpa using hi
  have a1:=h3 _ a (by omega) hi'
  rcases Nat.lt_or_eq_of_le a1 with z | z
  ·exact z
  ·subst z
   exfalso
   cases i with
   | zero=>exact hn hi'
   | succ i=>
    have hl:=(qab.mp hi').1
    have e0:xs[SetTable.below xs j]? = some xs[SetTable.below xs j]:=by
     have:SetTable.below xs j<xs.size:=by omega
     simp [this]
    have b1:=h3 _ _ (qaV _) e0
    have b2:=h.lt e0 hi' (by omega)
    omega
 refine ⟨p1,qay.mpr ⟨dr,p2⟩,fun a ha b hb=> ?_⟩
 rcases qaP.mp hb with z | z
 ·rw [z];exact tk a ha
 ·exact p3 a ha b z
structure zht (t:SetTable) (led:Bool):Prop where
 up:Up t.place
 nod:t.dummies= #[]
 led:t.led=led
theorem zh5 {j:Nat}:SetTable.has #[] j=false:=by
 unfold SetTable.has
 simp
theorem zjS {t:SetTable} {led:Bool} (g:zht t led) {j:Nat} (h:t.slot j= .empty):t.place[SetTable.below t.place j]? ≠ some j:=fun e=>by
 unfold SetTable.slot at h
 dsimp only at h
 rw [e] at h
 simp at h
theorem ziJ {t:SetTable} {led:Bool} (g:zht t led) (f:Nat->Int) (h:Int): ∀ (fuel:Nat) (p:SetTable.Probe) (j:Nat) (d:Option Nat),p.dummy=none->SetTable.probe.go t f h fuel p=some (.empty j d)->t.slot j= .empty/\d=none
 | 0,_,_,_,_,e=>by cases e
 | fuel+1,p,j,d,hp,e=>by
  unfold SetTable.probe.go at e
  have adv: ∀ q:SetTable.Probe,q.dummy=none->(t.advance q).dummy=none:=fun q hq=>by
   unfold SetTable.advance
   split<;>exact hq
  split at e
  ·rename_i hs
   cases e
   exact ⟨hs,hp⟩
  ·rename_i hs
   exfalso
   unfold SetTable.slot at hs
   dsimp only at hs
   rw [g.nod,zh5] at hs
   split at hs<;>simp at hs
  ·split at e
   ·cases e
   ·exact ziJ g f h fuel _ j d (adv p hp) e
theorem zf9 {t:SetTable} {led:Bool} (g:zht t led) {h:Int} {j:Nat} {b:Bool} (e:t.freeSlot h=some (j,b)):t.place[SetTable.below t.place j]? ≠ some j:=by
 unfold SetTable.freeSlot at e
 split at e
 ·rename_i j' d' hpr
  obtain ⟨h1,h2⟩:=ziJ g _ _ _ _ _ _ rfl hpr
  subst h2
  cases e
  exact zjS g h1
 ·cases e
theorem zl0 (n:Nat):Up (Array.range n):=by
 show (Array.range n).toList.Pairwise (· < ·)
 rw [Array.toList_range]
 exact List.pairwise_lt_range
theorem zcl {t:SetTable} {led:Bool} (g:zht t led) (n:Nat):zht (t.standIn n) led:=⟨zl0 n,rfl,g.led⟩
theorem zhB {t:SetTable} {led:Bool} (g:zht t led) (es:Array (Int×Value)) (h:Int) (x:Value):zht (layNew t es h x).2.1 led:=by
 unfold layNew
 split
 ·rename_i slot wasDummy e
  have g2:zht (t.put slot).1 led:=by
   refine ⟨zkW g.up (zf9 g e),?_,g.led⟩
   show (if SetTable.has t.dummies slot then _ else t.dummies)= #[]
   rw [g.nod,zh5]
   rfl
  show zht ((t.put slot).1.orStandIn _) led
  unfold SetTable.orStandIn
  split
  ·exact g2
  ·exact zcl g2 _
 ·exact zcl g _
theorem zle {mask finger moves:Nat} {led plain:Bool} {hs:Array Int} {t:SetTable} {o:Array Nat} (e:SetTable.laid mask finger moves led plain hs=some (t,o)):zht t led:=by
 unfold SetTable.laid at e
 cases z:SetTable.layClean mask hs with
 | none=>rw [z] at e;cases e
 | some owner=>
  rw [z] at e
  have e:some (({mask,place:=(((List.range (mask+1)).filterMap fun j=>(owner.getD j none).map (j, ·)).map (·.1)).toArray,dummies:= #[],finger,led,moves,plain}:SetTable),_)=some (t,o):=e
  cases e
  refine ⟨?_,rfl,rfl⟩
  show (((List.range (mask+1)).filterMap fun j=>(owner.getD j none).map (j, ·)).map (·.1)).toArray.toList.Pairwise (· < ·)
  rw [List.toList_toArray,List.map_filterMap]
  have sub:List.Sublist ((List.range (mask+1)).filterMap fun j=>((owner.getD j none).map (j, ·)).map (·.1)) (List.range (mask+1)):=by
   generalize List.range (mask+1)=l
   induction l with
   | nil=>exact .slnil
   | cons a r ih=>
    rw [qat]
    cases q:owner.getD a none with
    | none=>exact ih.cons a
    | some v=>exact ih.cons₂ a
  exact List.pairwise_lt_range.sublist sub
theorem zfP {t:SetTable} {led:Bool} (g:zht t led) (es:Array (Int×Value)) (wanted:Nat):zht (relayAll t es wanted).2.1 led:=by
 unfold relayAll
 split
 ·rename_i t' order e
  have g2:zht t' t.led:=zle e
  rw [g.led] at g2
  dsimp only
  split
  ·exact g2
  ·exact zcl g _
 ·exact zcl g _
noncomputable def zc0 (w:World):Bool:= !w.params.followText "set-order"
def zgn (prog:Program) (w:World) (h:Heap) (a:Addr) (S:Int->Bool) (n:Nat):Prop:=
 ∃ ob es ep tb,(h.get? a=some ob/\ob.ExactSet/\ob.data= .set es ep tb)/\ElemsOf (intKind prog w) es.toList/\(∀ k,S k=true↔ ∃ e∈es.toList,(intKind prog w).is k e.2=true)/\
  (es.size<scanBound/\tb.fits es.size=true/\es.size=n)/\zht tb (zc0 w)
theorem zgn.move {prog:Program} {w:World} {h h':Heap} {a:Addr} {S S':Int->Bool} {n n':Nat} (g:zgn prog w h a S n) (k: ∀ ob,h.get? a=some ob->h'.get? a=some ob) (e: ∀ k,S k=S' k) (en:n=n'):zgn prog w h' a S' n':=by
 obtain ⟨ob,es,ep,tb,⟨h1,h2,h3⟩,h4,h5,⟨h6,h7,h8⟩,h9⟩:=g
 exact ⟨ob,es,ep,tb,⟨k ob h1,h2,h3⟩,h4,fun z=>by rw [<- e z];exact h5 z,⟨h6,h7,h8.trans en⟩,h9⟩
section
variable {prog:Program} {w:World} {A:Around} {E:Value->Shared->Prop} {s:Shared}
theorem stored {a:Addr} {ob:Obj} {es es':Array (Int×Value)} {ep:Nat} {tb tb':SetTable} {S:Int->Bool} {R:Unit->Shared->Prop} (ho:s.heap.get? a=some ob) (hx:ob.ExactSet) (hd:ob.data= .set es ep tb)
  (hE:ElemsOf (intKind prog w) es'.toList) (hS: ∀ k,S k=true↔ ∃ e∈es'.toList,(intKind prog w).is k e.2=true) (hb:es'.size<scanBound) (hf:tb'.fits es'.size=true) (hg:zht tb' (zc0 w))
  (q: ∀ h',Heap.SameBut a s.heap h'->h'.get? a=some {ob with data:= .set es' (ep+1) tb'}->zgn prog w h' a S es'.size->R () {s with heap:=h'}):wpAny (model prog w) A (storeSet a es' tb') R E s:=by
 have put:=putSet_of es' tb' hd
 have at1:(s.heap.update a (Obj.putSet es' tb')).get? a=some {ob with data:= .set es' (ep+1) tb'}:=by
  have z:=qal (Obj.putSet es' tb') ho (by rw [put];rfl)
  rwa [put] at z
 exact wpAny_storeSet_of ho hd (q _ (Heap.SameBut.update ..) at1 ⟨_,es',ep+1,tb',⟨at1,hx,rfl⟩,hE,hS,⟨hb,hf,rfl⟩,hg⟩) (fits_of_scanBound hb)
theorem zth {a:Addr} {S:Int->Bool} {n:Nat} {k:Int} {t:Tok} {Q:Bool->Shared->Prop} (g:zgn prog w s.heap a S n) (room:n+1<scanBound)
  (q: ∀ h' b,Heap.SameBut a s.heap h'->zgn prog w h' a (fun z=>S z || decide (z=k)) (if S k then n else n+1)->Q b {s with heap:=h'}):
  wpAny (model prog w) A (setAddHashed a (.int k t) ((intKind prog w).hash k)) Q E s:=by
 have kis:(intKind prog w).is k (.int k t)=true:=intKind_is _ _ _ _
 obtain ⟨ob,es,ep,tb,⟨h1,h2,h3⟩,h4,h5,⟨h6,h7,h8⟩,h9⟩:=g
 have scn:(Value.int k t).scannable=true:=rfl
 unfold setAddHashed setAddHashedIn
 refine qaO (qaW (wpAny_setState_of h1 h3 h7 ?_))
 dsimp only
 rw [qa4 (byScan_of scn h6 h4)]
 refine qaW ?_
 unfold setAddByScan
 refine qaW (wpAny_rule (qaW (wpAny_setScan_of kis h1 h3 h7 h4 ?_)))
 cases fi:List.findIdx? (fun e=>(intKind prog w).is k e.2) es.toList with
 | some j=>
  obtain ⟨lj,pj,_⟩:=List.findIdx?_eq_some_iff_getElem.mp fi
  have inS:S k=true:=(h5 k).mpr ⟨_,List.getElem_mem lj,pj⟩
  refine qaX (qaX ?_)
  have z:=q s.heap false (Heap.SameBut.refl ..) ⟨ob,es,ep,tb,⟨h1,h2,h3⟩,h4,fun y=> ?_,⟨h6,h7,by rw [inS];exact h8⟩,h9⟩
  ·exact z
  ·rw [<- h5 y,Bool.or_eq_true,qaD]
   exact ⟨fun c=>c.elim id fun c=>by rw [c];exact inS,.inl⟩
 | none=>
  have noS:S k=false:=by
   rw [<- Bool.not_eq_true,h5 k]
   rintro ⟨e,he,pe⟩
   have:=List.findIdx?_eq_none_iff.mp fi e he
   rw [pe] at this
   cases this
  have L1:=layNew_perm tb es ((intKind prog w).hash k) (.int k t)
  have L2:=layNew_fits tb es ((intKind prog w).hash k) (.int k t)
  have L3:=zhB h9 es ((intKind prog w).hash k) (.int k t)
  generalize hl:layNew tb es ((intKind prog w).hash k) (.int k t)=ln at L1 L2 L3 ⊢
  obtain ⟨es1,tb1,wd,gv⟩:=ln
  dsimp only at L1 L2 L3 ⊢
  rw [Array.toList_push] at L1
  have E1:ElemsOf (intKind prog w) es1.toList:=(h4.push kis scn).perm L1
  have M1: ∀ y,(S y || decide (y=k))=true↔ ∃ e∈es1.toList,(intKind prog w).is y e.2=true:=mem_push_iff kis h5 L1
  have Z1:es1.size=n+1:=by
   have z:=L1.length_eq
   rw [qav,qas,qas] at z
   rw [z,h8];rfl
  have B1:es1.size<scanBound:=by rw [Z1];exact room
  have quiet: ∀ (b:Bool) (s1:Shared) (R:Unit->Shared->Prop),R () s1->wpAny (model prog w) A (match b with | true=>rule "set.scan.the-table-gave-way" | false=>pure ()) R E s1:=fun b s1 R z=>by
   cases b
   ·exact qaX z
   ·exact wpAny_rule z
  have fin: ∀ (s1:Shared) (h':Heap),s1={s with heap:=h'}->Heap.SameBut a s.heap h'->zgn prog w h' a (fun y=>S y || decide (y=k)) es1.size->Q true s1:=fun s1 h' e1 sb gg=>by
   subst e1
   have z:=q h' true sb
   rw [noS] at z
   exact z (by rw [Z1] at gg;exact gg)
  refine qaW (quiet _ _ _ ?_)
  have tail: ∀ (gw:Bool->Sem Unit),(∀ (b:Bool) (s1:Shared) (R:Unit->Shared->Prop),R () s1->wpAny (model prog w) A (gw b) R E s1)->wpAny (model prog w) A (do
      storeSet a es1 tb1
      if (!wd && tb1.tooFull)=true then do
        gw (relayAll tb1 es1 (SetTable.grown es1.size)).2.2
        storeSet a (relayAll tb1 es1 (SetTable.grown es1.size)).1 (relayAll tb1 es1 (SetTable.grown es1.size)).2.1
        pure (some true)
      else pure (some true)) (fun r s'=>wpAny (model prog w) A (match r with | some b=>pure b | none=>setAddHashedIn a (.int k t) ((intKind prog w).hash k) 99999) Q E s') E s:=by
   intro gw hgw
   refine qaW (stored h1 h2 h3 E1 M1 B1 L2 L3 fun h' sb at1 gg=> ?_)
   by_cases full:(!wd && tb1.tooFull)=true
   ·rw [qa4 full]
    have P2:=relayAll_perm tb1 es1 (SetTable.grown es1.size)
    have F2:=relayAll_fits tb1 es1 (SetTable.grown es1.size)
    have G2:=zfP L3 es1 (SetTable.grown es1.size)
    generalize relayAll tb1 es1 (SetTable.grown es1.size)=rl at P2 F2 G2 ⊢
    obtain ⟨es2,tb2,gv2⟩:=rl
    dsimp only at P2 F2 G2 ⊢
    have Z2:es2.size=es1.size:=by
     have z:=P2.length_eq
     rwa [qas,qas] at z
    refine qaW (hgw _ _ _ (qaW (stored (s:={s with heap:=h'}) (S:=fun y=>S y || decide (y=k)) at1 h2 rfl (E1.perm P2) (fun y=>(M1 y).trans ?_) (by rw [Z2];exact B1) F2 G2 fun h'' sb2 _ gg2=> ?_)))
    ·exact ⟨fun ⟨e,he,pe⟩=>⟨e,P2.mem_iff.mpr he,pe⟩,fun ⟨e,he,pe⟩=>⟨e,P2.mem_iff.mp he,pe⟩⟩
    ·exact qaX (qaX (fin _ h'' rfl (sb.trans sb2) (by rw [Z2] at gg2;exact gg2)))
   ·rw [qa5 full]
    exact qaX (qaX (fin _ h' rfl sb gg))
  split
  ·rw [hashByValue_scannable 8 scn]
   refine qaW (qaX ?_)
   exact tail _ fun b s1 R z=>by cases b<;>first | exact qaX z | exact wpAny_rule z
  ·refine qaW (qaX ?_)
   exact tail _ fun b s1 R z=>by cases b<;>first | exact qaX z | exact wpAny_rule z
end
section
variable {prog:Program} {w:World} {A:Around} {R:Result->Shared->Prop} {it:Addr} {fp wr:List Addr} {G:Array GenState->Array GenState->Prop} {n:Nat} {P:Nat->Value->Prop} {St:Nat->Shared->Prop}
theorem zsS (W:WalksS prog w A.in1 it fp wr G n P St) (a:Addr) (ha:a∉fp) (val:Nat->Int) (hval: ∀ i v,P i v-> ∃ t,v= .int (val i) t) (room:n+1<scanBound):
  ∀ (left i:Nat) (s:Shared),n - i=left->i<=n->St i s->zgn prog w s.heap a (fun z=>(firstMet val i).any (· == z)) (firstMet val i).length->
   (∀ s',Moved (a::wr) G s s'->zgn prog w s'.heap a (fun z=>(firstMet val n).any (· == z)) (firstMet val n).length->R (.ok (.ret .none)) s')->
   codeAny (model prog w) A (.builtin "set.update.loop" ⟨[.ref a,.ref it],[]⟩) R s:=by
 have awr:a∉wr:=fun z=>ha (W.sub _ z)
 have more: ∀ b∈wr,b∈a::wr:=fun b z=> .tail _ z
 intro left
 induction left with
 | zero=>
  intro i s hleft hin st g q
  obtain rfl:i=n:=by omega
  refine codeAny_builtin F.entry_set_update_loop ?_
  rw [qap F.plain_set_update_loop _]
  show wpAny _ _ (pyNext (.ref it)>>=_) _ _ _
  refine qaW (W.done s _ _ st fun s' mv=> ?_)
  exact qaX (q s' (mv.mono more) (g.move (fun ob e=>mv.heap a ob awr e) (fun _=>rfl) rfl))
 | succ left ih=>
  intro i s hleft hin st g q
  have hi:i<n:=by omega
  refine codeAny_builtin F.entry_set_update_loop ?_
  rw [qap F.plain_set_update_loop _]
  show wpAny _ _ (pyNext (.ref it)>>=_) _ _ _
  refine qaW (W.item i s _ _ hi st fun v s1 pv st1 mv=> ?_)
  obtain ⟨t,rfl⟩:=hval i v pv
  have g1:zgn prog w s1.heap a (fun z=>(firstMet val i).any (· == z)) (firstMet val i).length:=g.move (fun ob e=>mv.heap a ob awr e) (fun _=>rfl) rfl
  show wpAny _ _ (holding [Value.int (val i) t] (setAdd a (.int (val i) t))>>=_) _ _ _
  refine qaW (qaO ?_)
  unfold setAdd
  refine qaO (qaW ((intKind prog w).pyHash (k:=val i) (intKind_is _ _ _ _) ?_))
  have few:=firstMet_length_le val i
  refine zth (s:={s1 with toks:=s1.toks+1}) g1 (by omega) fun h2 b sb g2=> ?_
  have g3:zgn prog w h2 a (fun z=>(firstMet val (i+1)).any (· == z)) (firstMet val (i+1)).length:=
   g2.move (fun _ e=>e) (fun z=>by rw [firstMet_succ,step_any]) (by rw [firstMet_succ,step_length])
  have off: ∀ b,b≠a->h2.get? b=s1.heap.get? b:=fun b hb=>sb.2 b hb
  refine qaX ⟨plainId_quiet F.plain_set_update_loop _,ih (i+1) _ (by omega) hi (W.frame _ s1 _ _ st1 (Nat.le_succ _) fun b hb ob e=> ?_) g3 fun s3 mv3 g4=> ?_⟩
  ·rw [off b fun z=>ha (z▸hb)]
   exact e
  ·refine q s3 (.trans W.gtrans ((mv.mono more).then_heap (Nat.le_succ _) fun b ob hb e=> ?_) mv3) g4
   rw [off b fun z=>hb (z▸ .head _)]
   exact e
end
section
variable {prog:Program} {w:World} {A:Around} {E:Value->Shared->Prop} {s:Shared}
theorem znc (h:Heap):zgn prog w (h.push {cls:= .type "set",dict:=none,data:= .set #[] 0 (.fresh 0 0 (zc0 w))}) h.objs.size (fun _=>false) 0:=
 ⟨_, #[],0,_,⟨qar _ rfl,⟨rfl,rfl,rfl⟩,rfl⟩,fun e he=>by simp at he,fun k=>by simp,⟨by decide,rfl,rfl⟩,⟨List.Pairwise.nil,rfl,rfl⟩⟩
theorem ztw (x:Value) {Q:Value->Shared->Prop} (q:Q (.ref s.heap.objs.size) {s with heap:=s.heap.push {cls:= .type "set",dict:=none,data:= .set #[] 0 (.fresh 0 0 (zc0 w))}}):
  codeAny (model prog w) A (.call (.builtin "set.__new__") ⟨[.type "set",x],[]⟩) (wants Q E) s:=by
 refine codeAny_of_tree ?_
 show wpAny _ _ (do checkBuiltinCall "set.__new__" ⟨[.type "set",x],[]⟩;again (.builtin "set.__new__" ⟨[.type "set",x],[]⟩)) _ _ _
 refine qaW (wpAny_of_eq (F.newCall_set_1 x) (qaX ⟨plainId_quiet F.plain_set_new _,codeAny_builtin F.entry_set_new ?_⟩))
 rw [qap F.plain_set_new _]
 unfold Builtin.«set.__new__» Builtin.Frozenset.newClass
 have self:=sub_set_self
 obtain ⟨hp,gs,dr,tk,os⟩:=s
 dsimp only
 wp_walk
 refine wpAny_askSetting (qaX ?_)
 dsimp only
 simp only [newObj]
 exact qaW (wpAny_alloc (qaX (qaX q)))
theorem zsZ {l:Addr} {T:String} {items:Array Value} {ns:List Int} {Q:Value->Shared->Prop} (hh:A.handled=none) (hT:(T="list"/\s.heap.IsList l items)\/(T="tuple"/\s.heap.IsTuple l items)) (hi:IntsAre items.toList ns) (room:items.size+1<scanBound)
  (q: ∀ (h':Heap) (tk:Nat),zgn prog w h' s.heap.objs.size (fun z=>(firstMet (fun i=>ns.getD i 0) items.size).any (· == z)) (firstMet (fun i=>ns.getD i 0) items.size).length->(∀ b ob,s.heap.get? b=some ob->h'.get? b=some ob)->
    Q (.ref s.heap.objs.size) {s with heap:=h',toks:=tk}):wpAny (model prog w) A (call (.type "set") [.ref l]) Q E s:=by
 obtain ⟨c,tl,hmro⟩:=F.called_set.mro
 have hmade:=F.called_set.made
 have hsub:=F.called_set.sub
 refine wpAny_call (codeAny_of_tree ?_)
 show wpAny _ _ (callAny (.type "set") _) _ _ _
 refine qaX ⟨Code.quiet_builtin _ (by decide +kernel),codeAny_builtin F.entry_type_call ?_⟩
 rw [Around.under_plain (weight_type_call_type "set" [.ref l] []) rfl]
 have hnt:=F.called_set.notType
 have hcc:=F.called_set.canCreate
 have htc:=F.typeCall_set_1 (.ref l)
 repeat' (first | assumption | wp_step)
 refine codeAny_mono (ztw (.ref l) (E:=E) (Q:=fun v s1=>v= .ref s.heap.objs.size/\s1={s with heap:=s.heap.push {cls:= .type "set",dict:=none,data:= .set #[] 0 (.fresh 0 0 (zc0 w))}}) ⟨rfl,rfl⟩) fun r s1 hr=> ?_
 cases r with
 | error e=>exact hr
 | ok fl=>
  cases fl with
  | ret v=>
   obtain ⟨rfl,rfl⟩:=hr
   have laid:(s.heap.push {cls:= .type "set",dict:=none,data:= .set #[] 0 (.fresh 0 0 (zc0 w))}).get? s.heap.objs.size=some {cls:= .type "set",dict:=none,data:= .set #[] 0 (.fresh 0 0 (zc0 w))}:=qar _ rfl
   have isSet:Shared.TypeIs {s with heap:=s.heap.push {cls:= .type "set",dict:=none,data:= .set #[] 0 (.fresh 0 0 (zc0 w))}} (.ref s.heap.objs.size) "set":=⟨_,laid,rfl⟩
   have hli:=F.called_set.init.lookup
   have hbi:=F.called_set.init.bind (.ref s.heap.objs.size)
   repeat' (first | assumption | wp_step)
   refine codeAny_mono (codeAny_call_builtin (R:=wants (fun z s2=>z= .none/\ ∃ h' tk,s2={s with heap:=h',toks:=tk}/\
       zgn prog w h' s.heap.objs.size (fun z=>(firstMet (fun i=>ns.getD i 0) items.size).any (· == z)) (firstMet (fun i=>ns.getD i 0) items.size).length/\(∀ b ob,s.heap.get? b=some ob->h'.get? b=some ob)) E) F.called_set.init.plain F.entry_set_init (check_set_init_1 isSet ?_)) fun r2 s2 hr2=> ?_
   ·have keepL: ∀ ob,s.heap.get? l=some ob->(s.heap.push {cls:= .type "set",dict:=none,data:= .set #[] 0 (.fresh 0 0 (zc0 w))}).get? l=some ob:=fun ob e=>qag _ e
    have hval: ∀ (i:Nat) (v:Value),items[i]? = some v-> ∃ t,v= .int ((fun i=>ns.getD i 0) i) t:=fun i v hv=>IntsAre.int_at hi i v (by rw [Array.getElem?_toList];exact hv)
    have hh3:A.in1.in1.in1.handled=none:=by simp [hh]
    have done1: ∀ (l0:Addr) (h0:Heap) (s':Shared),l0=s.heap.objs.size->Moved [l0,(s.heap.push {cls:= .type "set",dict:=none,data:= .set #[] 0 (.fresh 0 0 (zc0 w))}).objs.size] (fun a b=>b=a) {s with heap:=h0} s'->(∀ b ob,s.heap.get? b=some ob->h0.get? b=some ob)->
      (∀ b ob,s.heap.get? b=some ob->s'.heap.get? b=some ob)/\s'={s with heap:=s'.heap,toks:=s'.toks}:=fun l0 h0 s' e0 mv k0=>by
     refine ⟨fun b ob e=>mv.heap b ob (fun z=> ?_) (k0 b ob e),?_⟩
     ·have lt:=qaQ e
      rw [qaL,e0] at z
      simp only [qaP,qaF,or_false] at z
      rcases z with z | z
      ·exact qaN _ (z▸lt)
      ·exact qaN _ (Nat.lt_of_succ_lt (z▸lt))
     ·obtain ⟨h',g',d',tk',os'⟩:=s'
      have eg:g'=s.gens:=mv.gens
      have ed:d'=s.drawn:=mv.drawn
      have eo:os'=s.os:=mv.os
      subst eg ed eo
      rfl
    unfold Builtin.«set.__init__» noKeywords Builtin.Frozenset.updateFrom
    generalize hPI:pyIter=PI
    rcases hT with ⟨rfl,hl⟩ | ⟨rfl,hl⟩
    ·obtain ⟨⟨ocl,odi,oda,osl⟩,hol,hcl,nl,hdl⟩:=hl
     simp only at hcl hdl
     subst hcl hdl
     have hol':=keepL _ hol
     have f1:=F.sub_list_set
     have f2:=F.sub_list_frozenset
     have f3:(Value.type "list"==Value.type "dict")=false:=by decide
     wp_walk
     subst hPI
     have hl1:(s.heap.push {cls:= .type "set",dict:=none,data:= .set #[] 0 (.fresh 0 0 (zc0 w))}).IsList l items:=⟨_,hol',rfl,nl,rfl⟩
     refine wpAny_pyIter_list hl1 ?_
     refine qaW (wpAny_runValue ?_)
     have ltl:l<s.heap.objs.size:=qaQ hol
     have szp:(s.heap.push {cls:= .type "set",dict:=none,data:= .set #[] 0 (.fresh 0 0 (zc0 w))}).objs.size=s.heap.objs.size+1:=qaL ..
     have ne1:l≠(s.heap.push {cls:= .type "set",dict:=none,data:= .set #[] 0 (.fresh 0 0 (zc0 w))}).objs.size:=by rw [szp];exact qaR (Nat.lt_succ_of_lt ltl)
     have ne2:s.heap.objs.size∉[(s.heap.push {cls:= .type "set",dict:=none,data:= .set #[] 0 (.fresh 0 0 (zc0 w))}).objs.size,l]:=by
      rw [szp]
      simp only [qaP,qaF,or_false]
      rintro (z | z)
      ·exact Nat.succ_ne_self _ z.symm
      ·exact qaN _ (z▸ltl)
     refine zsS ((Walks.list hh3 _ l ne1 items).toS) s.heap.objs.size ne2 (fun i=>ns.getD i 0) hval room _ 0 _ rfl (Nat.zero_le _) ⟨⟨_,qar _ rfl,rfl,rfl⟩,hl1.push _⟩ ?g0 fun s' mv gg=> ?_
     case g0=>exact (znc s.heap).move (fun ob e=>qag _ e) (fun _=>rfl) rfl
     obtain ⟨k1,k2⟩:=done1 _ _ s' rfl mv fun b ob e=>qag _ (qag _ e)
     exact qaX (qaX ⟨rfl,s'.heap,s'.toks,k2,gg,k1⟩)
    ·obtain ⟨⟨ocl,odi,oda,osl⟩,hol,hcl,nl,hdl⟩:=hl
     simp only at hcl hdl
     subst hcl hdl
     have hol':=keepL _ hol
     have f1:=F.sub_tuple_set
     have f2:=F.sub_tuple_frozenset
     have f3:(Value.type "tuple"==Value.type "dict")=false:=by decide
     wp_walk
     subst hPI
     have hl1:(s.heap.push {cls:= .type "set",dict:=none,data:= .set #[] 0 (.fresh 0 0 (zc0 w))}).IsTuple l items:=⟨_,hol',rfl,nl,rfl⟩
     refine wpAny_pyIter_tuple hl1 ?_
     refine qaW (wpAny_runValue ?_)
     have ltl:l<s.heap.objs.size:=qaQ hol
     have szp:(s.heap.push {cls:= .type "set",dict:=none,data:= .set #[] 0 (.fresh 0 0 (zc0 w))}).objs.size=s.heap.objs.size+1:=qaL ..
     have ne1:l≠(s.heap.push {cls:= .type "set",dict:=none,data:= .set #[] 0 (.fresh 0 0 (zc0 w))}).objs.size:=by rw [szp];exact qaR (Nat.lt_succ_of_lt ltl)
     have ne2:s.heap.objs.size∉[(s.heap.push {cls:= .type "set",dict:=none,data:= .set #[] 0 (.fresh 0 0 (zc0 w))}).objs.size,l]:=by
      rw [szp]
      simp only [qaP,qaF,or_false]
      rintro (z | z)
      ·exact Nat.succ_ne_self _ z.symm
      ·exact qaN _ (z▸ltl)
     refine zsS ((Walks.tuple hh3 _ l ne1 items).toS) s.heap.objs.size ne2 (fun i=>ns.getD i 0) hval room _ 0 _ rfl (Nat.zero_le _) ⟨⟨_,qar _ rfl,rfl,rfl⟩,⟨_,qag _ hol',rfl,nl,rfl⟩⟩ ?g0 fun s' mv gg=> ?_
     case g0=>exact (znc s.heap).move (fun ob e=>qag _ e) (fun _=>rfl) rfl
     obtain ⟨k1,k2⟩:=done1 _ _ s' rfl mv fun b ob e=>qag _ (qag _ e)
     exact qaX (qaX ⟨rfl,s'.heap,s'.toks,k2,gg,k1⟩)
   ·cases r2 with
    | error e=>exact hr2
    | ok fl2=>
     cases fl2 with
     | ret z=>
      obtain ⟨rfl,h',tk,rfl,gg,k1⟩:=hr2
      repeat' (first | assumption | wp_step)
      exact q _ _ gg k1
     | _=>exact hr2.elim
  | _=>exact hr.elim
end
theorem zaQ:Slot "set_iterator" "__next__" "set_iterator.__next__":= .of (owner:="set_iterator") (n:="__next__") (by rw [typeLookup_type,builtinLookup_eq_fast];kernel_rfl) (by decide +kernel) (by decide +kernel) (by decide +kernel) (by first | exact .inl (by decide +kernel) | exact .inr (by decide +kernel)) (by rw [isSubtype_type];kernel_rfl)
theorem zdV:Slot "set_iterator" "__iter__" "set_iterator.__iter__":= .of (owner:="set_iterator") (n:="__iter__") (by rw [typeLookup_type,builtinLookup_eq_fast];kernel_rfl) (by decide +kernel) (by decide +kernel) (by decide +kernel) (by first | exact .inl (by decide +kernel) | exact .inr (by decide +kernel)) (by rw [isSubtype_type];kernel_rfl)
theorem zcG:entryFor table "set_iterator.__next__"=some Builtin.«set_iterator.__next__» := entryFor_of_tree (by kernel_rfl)
theorem zfm:entryFor table "set_iterator.__iter__"=some Builtin.«dict_keyiterator.__iter__» := entryFor_alias (id':="dict_keyiterator.__iter__") (by kernel_rfl) rfl (by decide +kernel) (by kernel_rfl)
theorem zc3 (a:Value):argsOk "set_iterator.__next__" ⟨[a],[]⟩:=by unfold argsOk;kernel_rfl
theorem zfR (a:Value):argsOk "set_iterator.__iter__" ⟨[a],[]⟩:=by unfold argsOk;kernel_rfl
theorem zft:entryFor table "set.__iter__"=some Builtin.«frozenset.__iter__» := entryFor_alias (id':="frozenset.__iter__") (by kernel_rfl) rfl (by decide +kernel) (by kernel_rfl)
def SIt (h:Heap) (it a:Addr) (first:Value) (i n ep:Nat):Prop:=h.get? it=some {cls:= .type "set_iterator",dict:=none,data:= .fields #[first,.int i 0,.ref a,.int n 0,.int ep 0],slots:= #[]}
structure zii (h:Heap) (a:Addr) (es:Array (Int×Value)) (ep:Nat) (tb:SetTable):Prop where
 at_: ∃ ob,h.get? a=some ob/\ob.ExactSet/\ob.data= .set es ep tb
 fits:tb.fits es.size=true
section
variable {prog:Program} {w:World} {A:Around} {E:Value->Shared->Prop} {s:Shared}
theorem zkq {it a:Addr} {first:Value} {i n ep:Nat} {es:Array (Int×Value)} {tb:SetTable} {Q:Option Value->Shared->Prop} (hI:SIt s.heap it a first i n ep) (hS:zii s.heap a es ep tb) (hn:es.size=n) (slot:Nat) (hf:first= .int slot 0)
  (q:wpAny (model prog w) A.in1 (do
    match<-setNext a slot i ep with
    | some (x,next)=>
      setField (.ref it) 0 (rawInt next)
      setField (.ref it) 1 (rawInt ((i:Int)+1))
      ret x
    | none=>setField (.ref it) 2 .none;raiseNew (<- newExc (.type "StopIteration") [])) (fun f s'=> ∃ v,f= .done (.ret v)/\Q (some v) s') (fun e s'=>wpAny (model prog w) A (do if<-isInstance e (.type "StopIteration") then pure none else throw e) Q E s') s):
  wpAny (model prog w) A (pyNext (.ref it)) Q E s:=by
 obtain ⟨ob,ho,hx,hd⟩:=hS.at_
 subst hf
 have tI:s.TypeIs (.ref it) "set_iterator":=⟨_,hI,rfl⟩
 unfold pyNext
 refine qaW (wpAny_attempt (wpAny_callSpecial?_slot (name:=Str.ofString "__next__") tI zaQ (wpAny_call_entry zaQ tI zcG ?_ (zc3 _))))
 unfold Builtin.«set_iterator.__next__»
 refine qaW (m:=slotArgs "__next__" 0 _) (qaX ?_)
 refine qaW (m:=fieldsOf (.ref it)) ?_
 unfold fieldsOf
 refine qaW (wpAny_load hI (qaX ?_))
 refine qaW (wpAny_setEntries_of ho hd hS.fits ?_)
 have zfj: ¬(((es.size:Nat):Int) != (n:Int))=true:=by rw [hn];simp
 rw [qa5 zfj]
 exact qaZ q (fun f s' ⟨v,e,z⟩=>⟨v,e,qaX z⟩) fun e s' z=>z
theorem zkK {it:Addr} {r:Shared->Prop} {Q:Option Value->Shared->Prop} (hh:A.handled=none) (q: ∀ h',(∀ b ob,s.heap.get? b=some ob->h'.get? b=some ob)->Q none {s with heap:=h'}):
  wpAny (model prog w) A.in1 (do raiseNew (<- newExc (.type "StopIteration") []):Sem PySem.Fin) (fun f s'=> ∃ v,f= .done (.ret v)/\Q (some v) s') (fun e s'=>wpAny (model prog w) A (do if<-isInstance e (.type "StopIteration") then pure none else throw e) Q E s') s:=by
 refine qaW ?_
 simp only [newExc,newTuple]
 refine qaW (qaC ?_ (by size_fits))
 refine qaW (m:=firstArgMember _ _) (wpAny_of_eq (a:=Value.none) (by first | rfl | (simp only [firstArgMember];rfl)) ?_)
 refine qaC ?_ (by size_fits)
 simp only [raiseNew]
 refine qaW (wpAny_handled ?_)
 rw [show A.in1.handled=none from hh]
 refine qaW (qaX (wpAny_throw ?_))
 refine qaW (wpAny_isInstance (T:="StopIteration") (b:=true) ⟨_,qar _ rfl,rfl⟩ isSubtype_stop ?_)
 exact qaX (q _ fun b ob e=>qag _ (qag _ e))
theorem SIt.set {h h':Heap} {it a:Addr} {first:Value} {i n ep:Nat} (x:SIt h it a first i n ep):it<h.objs.size:=qaQ x
theorem zfy {es:Array (Int×Value)} {tb:SetTable} (hf:tb.fits es.size=true):tb.place.size=es.size:=by
 unfold SetTable.fits at hf
 simp only [qaG,beq_iff_eq] at hf
 exact hf.1
theorem zdU {a:Addr} {ep i slot:Nat} {es:Array (Int×Value)} {tb:SetTable} {R:Option (Value×Nat)->Shared->Prop} (hS:zii s.heap a es ep tb) (led:tb.led=true) (bt:w.params.followText "set-order"=false) (pl:(!tb.plain && decide (es.size>1))=false)
  (q:R (match es[SetTable.below tb.place slot]?, tb.place[SetTable.below tb.place slot]? with | some (_,x),some j=>some (x,j+1) | _,_=>none) s):wpAny (model prog w) A (setNext a slot i ep) R E s:=by
 obtain ⟨ob,ho,hx,hd⟩:=hS.at_
 unfold setNext
 refine qaW (wpAny_setState_of ho hd hS.fits ?_)
 dsimp only
 unfold setsByText
 refine qaW (qaW (wpAny_askSetting (qaX ?_)))
 dsimp only
 rw [show (model prog w).w.params.followText "set-order"=false from bt]
 simp only [qax,if_false]
 show wpAny _ _ (if (!tb.plain && decide (es.size>1))=true then _ else _) _ _ _
 rw [qa5 (by rw [pl];exact Bool.false_ne_true)]
 refine qaW ?_
 show wpAny _ _ (if (!tb.led && !es.isEmpty)=true then _ else _) _ _ _
 rw [qa5 (by rw [led];exact Bool.false_ne_true)]
 exact qaX (qaX q)
theorem zet {a:Addr} {ep i slot:Nat} {es:Array (Int×Value)} {tb:SetTable} {R:Option (Value×Nat)->Shared->Prop} (hS:zii s.heap a es ep tb) (bt:w.params.followText "set-order"=true)
  (q:R (((pickOrder (w.params.setOrder a ep) es)[i]?).map fun e=>(e.2,slot)) s):wpAny (model prog w) A (setNext a slot i ep) R E s:=by
 obtain ⟨ob,ho,hx,hd⟩:=hS.at_
 unfold setNext
 refine qaW (wpAny_setState_of ho hd hS.fits ?_)
 dsimp only
 unfold setsByText
 refine qaW (qaW (wpAny_askSetting (qaX ?_)))
 dsimp only
 rw [show (model prog w).w.params.followText "set-order"=true from bt]
 simp only [if_true]
 rw [qa5 (by simp)]
 refine qaW ?_
 unfold setWalk
 refine qaW (wpAny_setState_of ho hd hS.fits ?_)
 dsimp only
 unfold setsByText
 refine qaW (qaW (wpAny_askSetting (qaX ?_)))
 dsimp only
 rw [show (model prog w).w.params.followText "set-order"=true from bt]
 simp only [if_true]
 refine qaW (wpAny_askSetting (qaX (qaX q)))
theorem zkD {it a:Addr} {n ep i slot nx:Nat} {x:Value} {es:Array (Int×Value)} {tb:SetTable} {Q:Option Value->Shared->Prop} (hI:SIt s.heap it a (.int slot 0) i n ep) (hS:zii s.heap a es ep tb) (hn:es.size=n)
  (st: ∀ (R:Option (Value×Nat)->Shared->Prop) (E':Value->Shared->Prop),R (some (x,nx)) s->wpAny (model prog w) A.in1 (setNext a slot i ep) R E' s)
  (q: ∀ h',SIt h' it a (.int nx 0) (i+1) n ep->Heap.SameBut it s.heap h'->Q (some x) {s with heap:=h'}):wpAny (model prog w) A (pyNext (.ref it)) Q E s:=by
 refine zkq hI hS hn slot rfl (qaW (st _ _ ?_))
 dsimp only
 refine qaW (wpAny_setField_rec hI (by simp) fun h1 a1 sb1=> ?_)
 refine qaW (wpAny_setField_rec (s:={s with heap:=h1}) a1 (by simp) fun h2 a2 sb2=> ?_)
 refine qaX ⟨x,rfl,q h2 ?_ (sb1.trans sb2)⟩
 unfold SIt
 rw [a2]
 simp [rawInt]
theorem zm9 {it a:Addr} {n ep i slot:Nat} {es:Array (Int×Value)} {tb:SetTable} {Q:Option Value->Shared->Prop} (hh:A.handled=none) (hI:SIt s.heap it a (.int slot 0) i n ep) (hS:zii s.heap a es ep tb) (hn:es.size=n)
  (st: ∀ (R:Option (Value×Nat)->Shared->Prop) (E':Value->Shared->Prop),R none s->wpAny (model prog w) A.in1 (setNext a slot i ep) R E' s)
  (q: ∀ h',(∀ b ob,b≠it->s.heap.get? b=some ob->h'.get? b=some ob)->Q none {s with heap:=h'}):wpAny (model prog w) A (pyNext (.ref it)) Q E s:=by
 refine zkq hI hS hn slot rfl (qaW (st _ _ ?_))
 dsimp only
 refine qaW (wpAny_setField_rec hI (by simp) fun h1 a1 sb1=> ?_)
 exact zkK (r:=fun _=>True) (it:=it) (s:={s with heap:=h1}) hh fun h' k=>q h' fun b ob hb e=>k b ob ((sb1.2 b hb).trans e)
end
theorem zdp {α:Type}: ∀ {l:List α} {i:Nat} {x:α},l[i]? = some x->List.Perm l (x::l.eraseIdx i)
 | [],_,_,e=>by simp at e
 | a::r,0,x,e=>by simp at e;subst e;exact .rfl
 | a::r,i+1,x,e=>by
  have e:r[i]? = some x:=by simpa using e
  exact ((zdp e).cons a).trans (.swap x a _)
theorem zer {α:Type} {l:List α} {i:Nat} {x:α} (e:l[i]? = some x):(l.eraseIdx i).length+1=l.length:=by
 have:=(zdp e).length_eq
 rw [qaE] at this
 exact this.symm
theorem zgQ {α:Type} (nx:Nat->Nat): ∀ (fuel k:Nat) (left:List α) (out:Array α),left.length=fuel->List.Perm (pickOrder.go nx fuel k left out).toList (out.toList++left)
 | 0,k,left,out,h=>by
  have:left=[]:=List.length_eq_zero_iff.mp h
  subst this
  simp [pickOrder.go]
 | fuel+1,k,left,out,h=>by
  unfold pickOrder.go
  have hl:nx k % left.length<left.length:=Nat.mod_lt _ (by omega)
  have e:left[nx k % left.length]? = some left[nx k % left.length]:=by simp [hl]
  rw [e]
  dsimp only
  have hz:=zer e
  refine (zgQ nx fuel (k+1) _ _ (by omega)).trans ?_
  rw [Array.toList_push,List.append_assoc]
  exact List.Perm.append_left _ (zdp e).symm
theorem zcz {α:Type} (nx:Nat->Nat) (xs:Array α):List.Perm (pickOrder nx xs).toList xs.toList:=by
 have:=zgQ nx xs.size 0 xs.toList #[] (by simp)
 simpa [pickOrder] using this
section
variable {prog:Program} {w:World} {A:Around} {E:Value->Shared->Prop} {s:Shared}
theorem zjd {src:Source} {n:Nat} {Q:Nat->Shared->Prop} (hn:n≠0) (q: ∀ k d,k<n->Q k {s with drawn:=d}):wpAny (model prog w) A (choose src n) Q E s:=fun Γ p hΓ=>⟨hn,q _ _ (Nat.mod_lt _ (Nat.pos_of_ne_zero hn))⟩
theorem zeu {α:Type}: ∀ (fuel:Nat) (xs:List α) (s:Shared) (Q:List α->Shared->Prop),xs.length<=fuel->(∀ ys d,List.Perm ys xs->Q ys {s with drawn:=d})->wpAny (model prog w) A (drawOrder fuel xs) Q E s
 | 0,xs,s,Q,h,q=>by
  have:xs=[]:=List.length_eq_zero_iff.mp (by omega)
  subst this
  unfold drawOrder
  exact qaX (q [] s.drawn .rfl)
 | fuel+1,[],s,Q,h,q=>by
  unfold drawOrder
  exact qaX (q [] s.drawn .rfl)
 | fuel+1,x::r,s,Q,h,q=>by
  unfold drawOrder
  refine qaW (zjd (by simp) fun k d hk=> ?_)
  have e:(x::r)[k]? = some (x::r)[k]:=by simp [hk]
  rw [e]
  dsimp only
  have hz:=zer e
  refine qaW (zeu fuel ((x::r).eraseIdx k) {s with drawn:=d} _ (by omega) fun ys d' p=>qaX ?_)
  exact q _ d' ((p.cons _).trans (zdp e).symm)
theorem zjb {it a tp:Addr} {n ep i p:Nat} {x:Value} {es:Array (Int×Value)} {tb:SetTable} {ps:Array Value} {Q:Option Value->Shared->Prop} (hI:SIt s.heap it a (.ref tp) i n ep) (hS:zii s.heap a es ep tb) (hn:es.size=n)
  (hT:s.heap.get? tp=some {cls:= .type "tuple",data:= .seq ps}) (hp:ps[i]? = some (.int (p:Nat) 0)) (he:(es[p]?).map (·.2)=some x)
  (q: ∀ h',SIt h' it a (.ref tp) (i+1) n ep->Heap.SameBut it s.heap h'->Q (some x) {s with heap:=h'}):wpAny (model prog w) A (pyNext (.ref it)) Q E s:=by
 obtain ⟨ob,ho,hx,hd⟩:=hS.at_
 have tI:s.TypeIs (.ref it) "set_iterator":=⟨_,hI,rfl⟩
 unfold pyNext
 refine qaW (wpAny_attempt (wpAny_callSpecial?_slot (name:=Str.ofString "__next__") tI zaQ (wpAny_call_entry zaQ tI zcG ?_ (zc3 _))))
 unfold Builtin.«set_iterator.__next__»
 refine qaW (m:=slotArgs "__next__" 0 _) (qaX ?_)
 refine qaW (m:=fieldsOf (.ref it)) ?_
 unfold fieldsOf
 refine qaW (wpAny_load hI (qaX ?_))
 refine qaW (wpAny_setEntries_of ho hd hS.fits ?_)
 have zfj: ¬(((es.size:Nat):Int) != (n:Int))=true:=by rw [hn];simp
 rw [qa5 zfj]
 refine qaW (m:=seqItems? (.ref tp)) ?_
 unfold seqItems?
 refine qaW (wpAny_load hT (qaX ?_))
 dsimp only
 rw [show ((i:Nat):Int).toNat=i from qaB i,hp]
 dsimp only
 refine qaW (m:=setNextDrawn a _ _) ?_
 unfold setNextDrawn
 refine qaW (wpAny_setState_of ho hd hS.fits ?_)
 dsimp only
 rw [show ((ep:Nat):Int).toNat=ep from qaB ep,show ((p:Nat):Int).toNat=p from qaB p,qa5 (by simp)]
 cases ee:es[p]? with
 | none=>rw [ee] at he;cases he
 | some e=>
  rw [ee] at he
  cases he
  dsimp only
  refine qaX ?_
  refine qaW (wpAny_setField_rec hI (by simp) fun h2 a2 sb2=> ?_)
  refine qaX ⟨_,rfl,qaX (q h2 ?_ sb2)⟩
  unfold SIt
  rw [a2]
  simp [rawInt]
theorem zkX {it a tp:Addr} {n ep i:Nat} {es:Array (Int×Value)} {tb:SetTable} {ps:Array Value} {Q:Option Value->Shared->Prop} (hh:A.handled=none) (hI:SIt s.heap it a (.ref tp) i n ep) (hS:zii s.heap a es ep tb) (hn:es.size=n)
  (hT:s.heap.get? tp=some {cls:= .type "tuple",data:= .seq ps}) (hp:ps[i]? = none)
  (q: ∀ h',(∀ b ob,b≠it->s.heap.get? b=some ob->h'.get? b=some ob)->Q none {s with heap:=h'}):wpAny (model prog w) A (pyNext (.ref it)) Q E s:=by
 obtain ⟨ob,ho,hx,hd⟩:=hS.at_
 have tI:s.TypeIs (.ref it) "set_iterator":=⟨_,hI,rfl⟩
 unfold pyNext
 refine qaW (wpAny_attempt (wpAny_callSpecial?_slot (name:=Str.ofString "__next__") tI zaQ (wpAny_call_entry zaQ tI zcG ?_ (zc3 _))))
 unfold Builtin.«set_iterator.__next__»
 refine qaW (m:=slotArgs "__next__" 0 _) (qaX ?_)
 refine qaW (m:=fieldsOf (.ref it)) ?_
 unfold fieldsOf
 refine qaW (wpAny_load hI (qaX ?_))
 refine qaW (wpAny_setEntries_of ho hd hS.fits ?_)
 have zfj: ¬(((es.size:Nat):Int) != (n:Int))=true:=by rw [hn];simp
 rw [qa5 zfj]
 refine qaW (m:=seqItems? (.ref tp)) ?_
 unfold seqItems?
 refine qaW (wpAny_load hT (qaX ?_))
 dsimp only
 rw [show ((i:Nat):Int).toNat=i from qaB i,hp]
 dsimp only
 refine qaW (wpAny_setField_rec hI (by simp) fun h1 a1 sb1=> ?_)
 refine qaW (wpAny_setField_rec (s:={s with heap:=h1}) a1 (by simp) fun h2 a2 sb2=> ?_)
 refine qaZ (zkK (Q:=Q) (E:=E) (r:=fun _=>True) (it:=it) (s:={s with heap:=h2}) hh fun h' k=>q h' fun b ob hb e=>k b ob ((sb2.2 b hb).trans ((sb1.2 b hb).trans e))) (fun f s' ⟨v,e,z⟩=>⟨v,e,qaX z⟩) fun e s' z=>z
theorem zeU {it a:Addr} {first:Value} {i n ep:Nat} {Q:Value->Shared->Prop} (hI:SIt s.heap it a first i n ep) (q:Q (.ref it) s):wpAny (model prog w) A (pyIter (.ref it)) Q E s:=by
 have tI:s.TypeIs (.ref it) "set_iterator":=⟨_,hI,rfl⟩
 refine wpAny_pyIter_slot tI zdV (wpAny_call_entry zdV tI zfm ?_ (zfR _))
 show wpAny _ _ (ret (.ref it)) _ _ _
 exact qaX ⟨_,rfl,"set_iterator",_,tI,zaQ.lookup,q⟩
theorem zii.keep {h h':Heap} {a:Addr} {es:Array (Int×Value)} {ep:Nat} {tb:SetTable} (x:zii h a es ep tb) (k: ∀ ob,h.get? a=some ob->h'.get? a=some ob):zii h' a es ep tb:=
 ⟨let ⟨ob,h1,h2⟩:=x.at_;⟨ob,k ob h1,h2⟩,x.fits⟩
noncomputable def zg1 (tb:SetTable):Nat->Nat
 | 0=>0
 | i+1=>tb.place.getD i 0+1
theorem zi1 (hh:A.handled=none) {it a:Addr} {ep:Nat} {es:Array (Int×Value)} {tb:SetTable} (hne:a≠it) (up:Up tb.place) (led:tb.led=true) (bt:w.params.followText "set-order"=false) (pl:(!tb.plain && decide (es.size>1))=false) (hf:tb.fits es.size=true):
  Walks prog w A it [it,a] [it] es.size (fun i v=> ∃ e,es.toList[i]? = some e/\v=e.2) (fun i h=>SIt h it a (.int (zg1 tb i:Nat) 0) i es.size ep/\zii h a es ep tb) where
 sub:=fun b hb=>by simp at hb;simp [hb]
 frame:=fun i h h' st k=>⟨k it (by simp) _ st.1,st.2.keep fun ob e=>k a (by simp) ob e⟩
 item:=fun i s Q E hi st q=>by
  have pz:=zfy hf
  have hi2:i<tb.place.size:=by omega
  have bl:SetTable.below tb.place (zg1 tb i)=i:=by
   cases i with
   | zero=>exact zfK up
   | succ i=>
    have hi3:i<tb.place.size:=by omega
    have e:tb.place[i]? = some (tb.place.getD i 0):=by simp [hi3,Array.getD]
    exact zfL up e
  have ep':tb.place.getD i 0=tb.place[i]:=by simp [hi2,Array.getD]
  refine zkD (nx:=zg1 tb (i+1)) (x:=es[i].2) st.1 st.2 rfl (fun R E' r=>zdU st.2 led bt pl ?_) fun h' a1 sb=> ?_
  ·rw [bl]
   have e1:es[i]? = some es[i]:=by simp [hi]
   have e2:tb.place[i]? = some tb.place[i]:=by simp [hi2]
   rw [e1,e2]
   show R (some (es[i].2,tb.place[i]+1)) s
   have e3:zg1 tb (i+1)=tb.place[i]+1:=by show tb.place.getD i 0+1=_;rw [ep']
   rw [<- e3]
   exact r
  ·exact q _ h' s.toks ⟨es[i],by simp [hi],rfl⟩ ⟨a1,st.2.keep fun ob e=>(sb.2 a hne).trans e⟩ fun b ob hb e=>(sb.2 b fun z=>hb (by simp [z])).trans e
 done:=fun s Q E st q=>by
  have pz:=zfy hf
  have bl:SetTable.below tb.place (zg1 tb es.size)=es.size:=by
   cases hz:es.size with
   | zero=>exact zfK up
   | succ i=>
    have hi3:i<tb.place.size:=by omega
    have e:tb.place[i]? = some (tb.place.getD i 0):=by simp [hi3,Array.getD]
    exact zfL up e
  refine zm9 hh st.1 st.2 rfl (fun R E' r=>zdU st.2 led bt pl ?_) fun h' k=>q h' s.toks fun b ob hb e=>k b ob (fun z=>hb (by simp [z])) e
  rw [bl]
  have e1:es[es.size]? = none:=by simp
  rw [e1]
  exact r
 self:=fun i s Q E st q=>zeU st.1 q
theorem zkU (hh:A.handled=none) {it a:Addr} {ep:Nat} {es:Array (Int×Value)} {tb:SetTable} (hne:a≠it) (bt:w.params.followText "set-order"=true) (hf:tb.fits es.size=true):
  Walks prog w A it [it,a] [it] es.size (fun i v=> ∃ e,(pickOrder (w.params.setOrder a ep) es).toList[i]? = some e/\v=e.2) (fun i h=>SIt h it a (.int (0:Nat) 0) i es.size ep/\zii h a es ep tb) where
 sub:=fun b hb=>by simp at hb;simp [hb]
 frame:=fun i h h' st k=>⟨k it (by simp) _ st.1,st.2.keep fun ob e=>k a (by simp) ob e⟩
 item:=fun i s Q E hi st q=>by
  have pz:(pickOrder (w.params.setOrder a ep) es).size=es.size:=by
   have:=(zcz (w.params.setOrder a ep) es).length_eq
   simpa using this
  have hi2:i<(pickOrder (w.params.setOrder a ep) es).size:=by omega
  refine zkD (nx:=0) (x:=(pickOrder (w.params.setOrder a ep) es)[i].2) st.1 st.2 rfl (fun R E' r=>zet st.2 bt ?_) fun h' a1 sb=> ?_
  ·have e1:(pickOrder (w.params.setOrder a ep) es)[i]? = some (pickOrder (w.params.setOrder a ep) es)[i]:=by simp [hi2]
   rw [e1]
   exact r
  ·exact q _ h' s.toks ⟨(pickOrder (w.params.setOrder a ep) es)[i],by simp [hi2],rfl⟩ ⟨a1,st.2.keep fun ob e=>(sb.2 a hne).trans e⟩ fun b ob hb e=>(sb.2 b fun z=>hb (by simp [z])).trans e
 done:=fun s Q E st q=>by
  have pz:(pickOrder (w.params.setOrder a ep) es).size=es.size:=by
   have:=(zcz (w.params.setOrder a ep) es).length_eq
   simpa using this
  refine zm9 hh st.1 st.2 rfl (fun R E' r=>zet st.2 bt ?_) fun h' k=>q h' s.toks fun b ob hb e=>k b ob (fun z=>hb (by simp [z])) e
  have e1:(pickOrder (w.params.setOrder a ep) es)[es.size]? = none:=by simp [pz]
  rw [e1]
  exact r
 self:=fun i s Q E st q=>zeU st.1 q
theorem zi3 (hh:A.handled=none) {it a tp:Addr} {ep:Nat} {es:Array (Int×Value)} {tb:SetTable} {ys:List Nat} (hne:a≠it) (hne2:tp≠it) (hp:List.Perm ys (List.range es.size)):
  Walks prog w A it [it,a,tp] [it] es.size (fun i v=> ∃ e,(ys.filterMap (es[·]?))[i]? = some e/\v=e.2) (fun i h=>SIt h it a (.ref tp) i es.size ep/\zii h a es ep tb/\h.get? tp=some {cls:= .type "tuple",data:= .seq (ys.map fun (i:Nat)=>rawInt i).toArray}) where
 sub:=fun b hb=>by simp at hb;simp [hb]
 frame:=fun i h h' st k=>⟨k it (by simp) _ st.1,st.2.1.keep fun ob e=>k a (by simp) ob e,k tp (by simp) _ st.2.2⟩
 item:=fun i s Q E hi st q=>by
  have hl:ys.length=es.size:=by simpa using hp.length_eq
  have hi2:i<ys.length:=by omega
  have lt: ∀ y∈ys,y<es.size:=fun y hy=>by simpa using hp.mem_iff.mp hy
  have lti:=lt _ (List.getElem_mem hi2)
  have fm: ∀ (zs:List Nat),(∀ y∈zs,y<es.size)-> ∀ (j:Nat) (y:Nat),zs[j]? = some y->(zs.filterMap (es[·]?))[j]? = es[y]? := by
   intro zs
   induction zs with
   | nil=>intro _ j y e;simp at e
   | cons z r ih=>
    intro hz j y e
    have lz:=hz z (.head _)
    rw [List.filterMap_cons_some (b:=es[z]) (by simp [lz])]
    cases j with
    | zero=>simp at e;subst e;simp [lz]
    | succ j=>simpa using ih (fun y hy=>hz y (.tail _ hy)) j y (by simpa using e)
  refine zjb (p:=ys[i]) (x:=es[ys[i]].2) st.1 st.2.1 rfl st.2.2 (by simp [hi2,rawInt]) (by simp [lti]) fun h' a1 sb=> ?_
  refine q _ h' s.toks ⟨es[ys[i]],?_,rfl⟩ ⟨a1,st.2.1.keep fun ob e=>(sb.2 a hne).trans e,(sb.2 tp hne2).trans st.2.2⟩ fun b ob hb e=>(sb.2 b fun z=>hb (by simp [z])).trans e
  rw [fm ys lt i ys[i] (by simp [hi2])]
  simp [lti]
 done:=fun s Q E st q=>by
  have hl:ys.length=es.size:=by simpa using hp.length_eq
  exact zkX hh st.1 st.2.1 rfl st.2.2 (by simp [hl]) fun h' k=>q h' s.toks fun b ob hb e=>k b ob (fun z=>hb (by simp [z])) e
 self:=fun i s Q E st q=>zeU st.1 q
end
section
variable {prog:Program} {w:World} {A:Around} {E:Value->Shared->Prop} {s:Shared}
structure zn1 (prog:Program) (w:World) (a it:Addr) (es:Array (Int×Value)) (ord:List (Int×Value)) (fp:List Addr) (St:Nat->Heap->Prop):Prop where
 walks: ∀ A:Around,A.handled=none->Walks prog w A it fp [it] es.size (fun i v=> ∃ e,ord[i]? = some e/\v=e.2) St
 perm:List.Perm ord es.toList
 mem:it∈fp
theorem zsz {a:Addr} {S:Int->Bool} {n:Nat} {Q:Value->Shared->Prop} (g:zgn prog w s.heap a S n)
  (q: ∀ it es ep tb ord fp St h' d,(∃ ob,s.heap.get? a=some ob/\ob.ExactSet/\ob.data= .set es ep tb)->zn1 prog w a it es ord fp St->St 0 h'->s.heap.objs.size<=it->(∀ b ob,s.heap.get? b=some ob->h'.get? b=some ob)->(∀ b∈fp,b=a\/s.heap.objs.size<=b)->es.size<scanBound->
    Q (.ref it) {s with heap:=h',drawn:=d}):wpAny (model prog w) A (pyIter (.ref a)) Q E s:=by
 obtain ⟨ob,es,ep,tb,⟨h1,h2,h3⟩,h4,h5,⟨h6,h7,h8⟩,h9⟩:=g
 have tS:s.TypeIs (.ref a) "set":=⟨ob,h1,h2.1⟩
 have lta:a<s.heap.objs.size:=qaQ h1
 refine wpAny_pyIter_slot tS F.slot_set_iter (wpAny_call_entry F.slot_set_iter tS zft ?_ (F.args_set_iter_1 _))
 unfold Builtin.«frozenset.__iter__»
 refine qaW (m:=Builtin.Frozenset.slot0 "__iter__" _) (qaX ?_)
 refine qaW (m:=Builtin.Frozenset.sizeOf a) ?_
 unfold Builtin.Frozenset.sizeOf
 refine qaW (wpAny_setEntries_of h1 h3 h7 (qaX ?_))
 refine qaW (m:=setDrawn a) ?_
 unfold setDrawn
 refine qaW (wpAny_setState_of h1 h3 h7 ?_)
 dsimp only
 unfold setsByText
 refine qaW (qaW (wpAny_askSetting (qaX (qaX ?_))))
 dsimp only
 have sobj: ∀ {h':Heap},(∀ b ob,s.heap.get? b=some ob->h'.get? b=some ob)->zii h' a es ep tb:=fun k=>⟨⟨ob,k _ _ h1,h2,h3⟩,h7⟩
 by_cases dr:(!(model prog w).w.params.followText "set-order" && (!tb.plain && decide (es.size>1)))=true
 ·show wpAny _ _ (if (!(model prog w).w.params.followText "set-order" && (!tb.plain && decide (es.size>1)))=true then _ else _) _ _ _
  rw [qa4 dr]
  refine qaW (zeu es.size (List.range es.size) s _ (by simp) fun ys d hp=> ?_)
  have hl:ys.length=es.size:=by simpa using hp.length_eq
  have small:es.size<=sizeLine:=fits_of_scanBound h6
  refine qaW ?_
  unfold newTuple
  refine qaC ?_ (by show (ys.map fun (i:Nat)=>rawInt i).toArray.size<=sizeLine;simp [hl];exact small)
  unfold setEpoch
  refine qaW (qaW (wpAny_setState_of (s:={s with heap:=_,drawn:=d}) (qag _ h1) h3 h7 (qaX ?_)))
  dsimp only
  refine qaW (qaC (qaX ⟨_,rfl,"set_iterator",_,⟨_,qar _ rfl,rfl⟩,zaQ.lookup,?_⟩))
  have z1:(s.heap.push {cls:= .type "tuple",dict:=none,data:= .seq (ys.map fun (i:Nat)=>rawInt i).toArray}).objs.size=s.heap.objs.size+1:=qaL ..
  have kp: ∀ (o2:Obj) b ob,s.heap.get? b=some ob->((s.heap.push {cls:= .type "tuple",dict:=none,data:= .seq (ys.map fun (i:Nat)=>rawInt i).toArray}).push o2).get? b=some ob:=fun o2 b ob e=>qag _ (qag _ e)
  refine q _ es ep tb (ys.filterMap (es[·]?)) [(s.heap.push {cls:= .type "tuple",dict:=none,data:= .seq (ys.map fun (i:Nat)=>rawInt i).toArray}).objs.size,a,s.heap.objs.size] _ _ d ⟨ob,h1,h2,h3⟩ ⟨fun A' hA=>zi3 (tb:=tb) (ep:=ep) hA ?_ ?_ hp,?_,.head _⟩ ⟨?_,sobj (kp _),?_⟩ ?_ (kp _) (fun b hb=> ?_) h6
  ·rw [z1];exact qaR (Nat.lt_succ_of_lt lta)
  ·rw [z1];exact qaR (Nat.lt_succ_self _)
  ·refine (hp.filterMap _).trans ?_
   rw [filterMap_getElem?_range]
  ·exact qar _ rfl
  ·exact qag _ (qar _ rfl)
  ·rw [z1];exact Nat.le_succ _
  ·simp only [qaP,qaF,or_false] at hb
   rcases hb with z | z | z
   ·right;rw [z,z1];exact Nat.le_succ _
   ·exact .inl z
   ·right;rw [z];exact qaV _
 ·show wpAny _ _ (if (!(model prog w).w.params.followText "set-order" && (!tb.plain && decide (es.size>1)))=true then _ else _) _ _ _
  rw [qa5 dr]
  refine qaW (qaX ?_)
  unfold setEpoch
  refine qaW (qaW (wpAny_setState_of h1 h3 h7 (qaX ?_)))
  dsimp only
  refine qaW (qaC (qaX ⟨_,rfl,"set_iterator",_,⟨_,qar _ rfl,rfl⟩,zaQ.lookup,?_⟩))
  have kp: ∀ (o2:Obj) b ob,s.heap.get? b=some ob->(s.heap.push o2).get? b=some ob:=fun o2 b ob e=>qag _ e
  have fpl: ∀ b∈[s.heap.objs.size,a],b=a\/s.heap.objs.size<=b:=fun b hb=>by
   simp only [qaP,qaF,or_false] at hb
   rcases hb with z | z
   ·right;rw [z];exact qaV _
   ·exact .inl z
  cases bt:w.params.followText "set-order" with
  | true=>
   exact q _ es ep tb _ [s.heap.objs.size,a] _ _ s.drawn ⟨ob,h1,h2,h3⟩ ⟨fun A' hA=>zkU (tb:=tb) (ep:=ep) hA (qaR lta) bt h7,zcz _ _,.head _⟩ ⟨qar _ rfl,sobj (kp _)⟩ (qaV _) (kp _) fpl h6
  | false=>
   have pl:(!tb.plain && decide (es.size>1))=false:=by
    rw [show (model prog w).w.params.followText "set-order"=false from bt] at dr
    simpa using dr
   have led:tb.led=true:=by
    rw [h9.led]
    unfold zc0
    rw [bt]
    rfl
   exact q _ es ep tb _ [s.heap.objs.size,a] _ _ s.drawn ⟨ob,h1,h2,h3⟩ ⟨fun A' hA=>zi1 (tb:=tb) (ep:=ep) hA (qaR lta) h9.up led bt pl h7,.rfl,.head _⟩ ⟨qar _ rfl,sobj (kp _)⟩ (qaV _) (kp _) fpl h6
theorem zlR {a:Addr} {S:Int->Bool} {n:Nat} {Q:List Value->Shared->Prop} (hh:A.handled=none) (g:zgn prog w s.heap a S n)
  (q: ∀ vs s' es ep tb,(∃ ob,s.heap.get? a=some ob/\ob.ExactSet/\ob.data= .set es ep tb)->List.Perm vs (es.toList.map (·.2))->(∀ b ob,s.heap.get? b=some ob->s'.heap.get? b=some ob)->s'.gens=s.gens->s'.os=s.os->Q vs s'):wpAny (model prog w) A (collect (.ref a)) Q E s:=by
 have tS: ∀ {h':Heap} {s':Shared},s'.heap=h'->(∀ b ob,s.heap.get? b=some ob->h'.get? b=some ob)->s'.TypeIs (.ref a) "set":=fun {h' s'} e k=>by
  obtain ⟨ob,es,ep,tb,⟨h1,h2,h3⟩,_⟩:=g
  exact ⟨ob,by rw [e];exact k _ _ h1,h2.1⟩
 have lta:a<s.heap.objs.size:=by
  obtain ⟨ob,es,ep,tb,⟨h1,h2,h3⟩,_⟩:=g
  exact qaQ h1
 unfold collect
 refine qaW (wpAny_runValue (codeAny_builtin F.entry_proto_collect ?_))
 rw [qap F.plain_proto_collect _]
 show wpAny _ _ (newList []>>=fun l=>again (.builtin "list.__iadd__" ⟨[l,.ref a],[]⟩)) _ _ _
 refine qaW (qaC (qaX ⟨plainId_quiet F.plain_list_iadd _,codeAny_builtin F.entry_list_iadd ?_⟩))
 rw [qap F.plain_list_iadd _]
 show wpAny _ _ (Builtin.List.listExtendWith (.ref s.heap.objs.size) (.ref a) (.ref s.heap.objs.size)) _ _ _
 unfold Builtin.List.listExtendWith
 have k1: ∀ b ob,s.heap.get? b=some ob->(s.heap.push {cls:= .type "list",data:= .seq ([]:List Value).toArray}).get? b=some ob:=fun b ob e=>qag _ e
 refine qaW (wpAny_typeOf (tS rfl k1) ?_)
 have nsame:Builtin.List.listSameRef (.ref s.heap.objs.size) (.ref a)=false:=by
  simp only [Builtin.List.listSameRef,beq_eq_false_iff_ne]
  exact fun z=>qaN _ (z▸lta)
 have nl:(Value.type "set"==Value.type "list")=false:=by decide
 have nt:(Value.type "set"==Value.type "tuple")=false:=by decide
 simp only [nsame,nl,nt,Bool.or_false,qax,if_false]
 refine qaW (zsz (g.move (fun ob e=>k1 _ _ e) (fun _=>rfl) rfl) fun it es ep tb ord fp St h2 d hob W st0 lit k2 fpl few=> ?_)
 refine qaW (qaO ?_)
 unfold Builtin.List.listLengthHint
 have k12: ∀ b ob,s.heap.get? b=some ob->h2.get? b=some ob:=fun b ob e=>k2 b ob (k1 b ob e)
 refine qaW (wpAny_specialOf (tS rfl k12) F.slot_set_len.lookup ?_)
 have sp:splitId "set.__len__"=some ("set","__len__"):=by decide +kernel
 dsimp only
 rw [sp]
 dsimp only
 refine qaW (wpAny_isInstance (tS rfl k12) sub_set_self ?_)
 rw [qa5 (by decide)]
 rw [qa4 (by decide +kernel)]
 refine qaW (wpAny_typeOf (tS rfl k12) (qaX ?_))
 rw [qa4 (by decide +kernel)]
 refine qaW (wpAny_rule ?_)
 have l2:h2.get? s.heap.objs.size=some {cls:= .type "list",data:= .seq ([]:List Value).toArray}:=k2 _ _ (qar _ rfl)
 refine qaW ?_
 unfold Builtin.List.listTouch
 show wpAny _ _ (updateSeq s.heap.objs.size (·.push .none)>>=fun _=>updateSeq s.heap.objs.size (·.pop)) _ _ _
 refine qaW (wpAny_updateSeq l2 rfl ?_)
 have l3:=qal (Obj.mapSeq (·.push Value.none)) l2 rfl
 refine wpAny_updateSeq l3 rfl ?_
 have l4:=qal (Obj.mapSeq (·.pop)) l3 rfl
 have oth: ∀ b ob,b≠s.heap.objs.size->h2.get? b=some ob->((h2.update s.heap.objs.size (Obj.mapSeq (·.push Value.none))).update s.heap.objs.size (Obj.mapSeq (·.pop))).get? b=some ob:=fun b ob hb e=>
  (qah _ _ (Ne.symm hb)).trans ((qah _ _ (Ne.symm hb)).trans e)
 have nfp:s.heap.objs.size∉fp:=fun z=>by
  rcases fpl _ z with z | z
  ·exact qaN _ (z▸lta)
  ·rw [show ({s with heap:=s.heap.push {cls:= .type "list",data:= .seq ([]:List Value).toArray}}:Shared).heap.objs.size=s.heap.objs.size+1 from qaL ..] at z
   exact qaN _ z
 have fin: ∀ (s':Shared) (vs:Array Value) (c:Nat),(∀ b ob,s.heap.get? b=some ob->s'.heap.get? b=some ob)->s'.gens=s.gens->s'.os=s.os->s'.heap.get? s.heap.objs.size=some {cls:= .type "list",dict:=none,data:= .seq vs c,slots:= #[]}->ItemsOf (fun i v=> ∃ e,ord[i]? = some e/\v=e.2) vs es.size->
   wpAny (model prog w) A (load s.heap.objs.size>>=fun o=>match o.data with | .seq xs _=>pure xs.toList | _=>unsupported "internal:collect") Q E s':=fun s' vs c k g1 g2 e it1=>by
  refine qaW (wpAny_load e (qaX (q vs.toList s' es ep tb ?_ ?_ k g1 g2)))
  ·obtain ⟨ob,o1,o2⟩:=hob
   obtain ⟨ob',es',ep',tb',⟨p1,p2,p3⟩,_⟩:=g
   have:=k1 _ _ p1
   rw [o1] at this
   cases this
   exact ⟨ob,p1,o2⟩
  ·have hl:ord.length=es.size:=by simpa using W.perm.length_eq
   have e2:vs.toList=ord.map (·.2):=by
    apply List.ext_getElem?
    intro i
    by_cases hi:i<es.size
    ·have hv0:i<vs.size:=by rw [it1.1];exact hi
     have hv:vs[i]? = some vs[i]:=by simp [hv0]
     obtain ⟨e,e1,e2⟩:=it1.2 i _ hv
     rw [List.getElem?_map,e1,Array.getElem?_toList,hv,e2]
     rfl
    ·rw [List.getElem?_eq_none (by simp [it1.1];omega),List.getElem?_eq_none (by simp [hl];omega)]
   rw [e2]
   exact W.perm.map _
 have Wk:=(W.walks A.in1 hh).toS
 refine qaX ⟨plainId_quiet F.plain_extend_loop _,codeAny_extend_loopS Wk ?_ _ nfp _ es.size 0 _ _ _ rfl (Nat.zero_le _) ?_ l4 (ItemsOf.nil _) fun s' vs c mv e it1=> ?_⟩
 ·exact fits_of_scanBound few
 ·exact (W.walks A.in1 hh).frame 0 h2 _ st0 fun b hb ob e=>oth b ob (fun z=>nfp (z▸hb)) e
 ·refine fin s' vs c (fun b ob e'=>mv.heap b ob ?_ (oth b ob ?_ (k12 b ob e'))) mv.gens mv.os e it1
  ·intro z
   rcases qaP.mp z with z | z
   ·exact qaN _ (z▸qaQ e')
   ·simp only [qaP,qaF,or_false] at z
    have:=qaQ e'
    rw [z] at this
    exact qaN _ (qaw this (qaS (by rw [qaL];exact Nat.le_succ _) lit))
  ·exact fun z=>qaN _ (z▸qaQ e')
end
noncomputable def zmR (x:Int):List Int->List Int
 | []=>[x]
 | y::r=>if x<=y then x::y::r else y::zmR x r
noncomputable def zen:List Int->List Int
 | []=>[]
 | x::r=>zmR x (zen r)
theorem zeJ (x:Int): ∀ l:List Int,List.Perm (zmR x l) (x::l)
 | []=> .rfl
 | y::r=>by
  unfold zmR
  split
  ·exact .rfl
  ·exact ((zeJ x r).cons y).trans (.swap x y r)
theorem zlP {x z:Int} {l:List Int}:z∈zmR x l↔z=x\/z∈l:=by rw [(zeJ x l).mem_iff,qaP]
theorem zkr (x:Int): ∀ l:List Int,l.Pairwise (· <= ·)->(zmR x l).Pairwise (· <= ·)
 | [],_=>by unfold zmR;simp
 | y::r,h=>by
  obtain ⟨h1,h2⟩:=qay.mp h
  unfold zmR
  split
  ·rename_i hxy
   refine qay.mpr ⟨fun z hz=> ?_,h⟩
   rcases qaP.mp hz with e | hz
   ·rw [e];exact hxy
   ·exact Int.le_trans hxy (h1 z hz)
  ·rename_i hxy
   refine qay.mpr ⟨fun z hz=> ?_,zkr x r h2⟩
   rcases zlP.mp hz with e | hz
   ·rw [e];omega
   ·exact h1 z hz
theorem zbe: ∀ l:List Int,List.Perm (zen l) l
 | []=> .rfl
 | x::r=>(zeJ x _).trans ((zbe r).cons x)
theorem zd3: ∀ l:List Int,(zen l).Pairwise (· <= ·)
 | []=> .nil
 | x::r=>zkr x _ (zd3 r)
theorem zeC {a b:List Int} (hp:a.Perm b) (h:a.Pairwise (· <= ·)):a=zen b:=W.ksm_same (hp.trans (zbe b).symm) h (zd3 b)
noncomputable def zhl (ns:List Int):List Int:=zen (ns.foldl step_dedup [])
theorem zkg (ns:List Int): ∀ (acc:List Int) (k:Int),(ns.foldl step_dedup acc).any (· == k)=(acc.any (· == k) || ns.any (· == k)):=by
 induction ns with
 | nil=>intro acc k;simp
 | cons x r ih=>
  intro acc k
  rw [List.foldl_cons,ih,step_any]
  simp only [List.any_cons]
  have:(x==k)=decide (k=x):=by
   by_cases h:k=x
   ·subst h;simp
   ·have h': ¬x=k:=fun e=>h e.symm
    simp [h,h']
  rw [this,Bool.or_assoc]
theorem zkw {ns:List Int} {k:Int}:k∈ns.foldl step_dedup []↔k∈ns:=by
 have:=zkg ns [] k
 simp only [List.any_nil,Bool.false_or] at this
 have e: ∀ l:List Int,k∈l↔(l.any fun x=>x==k)=true:=fun l=>by
  rw [List.any_eq_true]
  constructor
  ·exact fun h=>⟨k,h,by simp⟩
  ·rintro ⟨x,h,c⟩
   have c:x=k:=by simpa using c
   rw [<- c]
   exact h
 rw [e,e,this]
theorem zff (ns:List Int): ∀ acc:List Int,acc.Nodup->(ns.foldl step_dedup acc).Nodup:=by
 induction ns with
 | nil=>intro acc h;exact h
 | cons x r ih=>
  intro acc h
  refine ih _ ?_
  unfold step_dedup
  split
  ·exact h
  ·rename_i hx
   rw [List.nodup_append]
   refine ⟨h,by simp,fun a ha b hb=> ?_⟩
   simp only [List.mem_singleton] at hb
   subst hb
   intro e
   subst e
   exact hx (List.any_eq_true.mpr ⟨a,ha,by simp⟩)
theorem zeI {ns:List Int} {k:Int}:k∈zhl ns↔k∈ns:=by unfold zhl;rw [(zbe _).mem_iff,zkw]
theorem zhv (ns:List Int):(zhl ns).Pairwise (· < ·):=by
 have h1:=zd3 (ns.foldl step_dedup [])
 have h2:(zhl ns).Nodup:=(zbe _).nodup_iff.mpr (zff ns [] List.nodup_nil)
 exact (List.Pairwise.and h1 h2).imp fun ⟨a,b⟩=>by omega
theorem zhE (ns:List Int):firstMet (fun i=>ns.getD i 0) ns.length=ns.foldl step_dedup []:=by
 unfold firstMet
 congr 1
 apply List.ext_getElem?
 intro i
 by_cases hi:i<ns.length
 ·simp [hi,List.getD]
 ·rw [List.getElem?_eq_none (by simp;omega),List.getElem?_eq_none (by omega)]
theorem zeM: ∀ {fm ms:List Int},fm.Nodup->(∀ k,k∈fm->k∈ms)->ms.length<=fm.length->List.Perm ms fm
 | [],ms,_,_,h=>by
  have:ms=[]:=List.length_eq_zero_iff.mp (by simpa using h)
  subst this
  exact .rfl
 | x::r,ms,nd,hm,h=>by
  obtain ⟨n1,n2⟩:=List.nodup_cons.mp nd
  have hx:=hm x (.head _)
  have p:=List.perm_cons_erase hx
  have hl:=p.length_eq
  rw [qaE] at hl h
  refine p.trans ((zeM n2 (fun k hk=> ?_) (by omega)).cons x)
  have hne:k≠x:=fun e=>n1 (e▸hk)
  rcases qaP.mp (p.mem_iff.mp (hm k (.tail _ hk))) with e | e
  ·exact absurd e hne
  ·exact e
section
variable {prog:Program} {w:World} {A:Around} {E:Value->Shared->Prop} {s:Shared}
theorem zgV {l l':List Value} {ns:List Int} (p:List.Perm l l') (h:IntsAre l' ns): ∃ ms,IntsAre l ms/\List.Perm ms ns:=by
 induction p generalizing ns with
 | nil=>exact ⟨ns,h,.rfl⟩
 | cons x _ ih=>
  cases h with
  | cons n t h=>
   obtain ⟨ms,h1,h2⟩:=ih h
   exact ⟨n::ms,.cons n t h1,h2.cons n⟩
 | swap x y l=>
  cases h with
  | cons n t h=>
   cases h with
   | cons n' t' h=>exact ⟨n'::n::_,.cons n' t' (.cons n t h),.swap _ _ _⟩
 | trans _ _ ih1 ih2=>
  obtain ⟨ms,h1,h2⟩:=ih2 h
  obtain ⟨ms',h3,h4⟩:=ih1 h1
  exact ⟨ms',h3,h4.trans h2⟩
theorem zfM: ∀ {es:List (Int×Value)},ElemsOf (intKind prog w) es-> ∃ ms,IntsAre (es.map (·.2)) ms/\ ∀ k,k∈ms↔ ∃ e∈es,(intKind prog w).is k e.2=true
 | [],_=>⟨[],.nil,fun k=>by simp⟩
 | e::r,h=>by
  obtain ⟨ms,h1,h2⟩:=zfM (ElemsOf.tail h)
  obtain ⟨⟨k,hk,_⟩,_⟩:=ElemsOf.head h
  obtain ⟨t,ht⟩:=Value.isInt_shape (k:=k) (v:=e.2) hk
  refine ⟨k::ms,by rw [qaM,ht];exact .cons k t h1,fun z=> ?_⟩
  rw [qaP,h2 z]
  constructor
  ·rintro (c | ⟨e',c1,c2⟩)
   ·exact ⟨e,.head _,by rw [c];exact hk⟩
   ·exact ⟨e',.tail _ c1,c2⟩
  ·rintro ⟨e',c1,c2⟩
   rcases qaP.mp c1 with c | c
   ·subst c;exact .inl ((intKind prog w).inj _ _ _ c2 hk)
   ·exact .inr ⟨e',c,c2⟩
theorem ze5 {x:Value} {Q:Value->Shared->Prop} (hc: ∀ E':Value->Shared->Prop,wpAny (model prog w) A.in1 (collect x) (fun vs s1=> ∃ ns,IntsAre vs ns/\vs.length<64/\ ∀ out e h',IntsAre out (zen ns)->(∀ b ob,s1.heap.get? b=some ob->h'.get? b=some ob)->
      h'.get? s1.heap.objs.size=some (seqObj "list" out.toArray e)->Q (.ref s1.heap.objs.size) {s1 with heap:=h'}) E' s):wpAny (model prog w) A (call (.builtin "sorted") [x]) Q E s:=by
 refine Calls.call_function_entry kind_sorted plain_sorted entry_sorted (args_sorted1 _) ?_
 unfold Builtin.«sorted»
 refine qaW (m:=checkCount "sorted" 1 1 _) (qaX ?_)
 refine qaW (m:=collect x) (qaZ (hc _) (fun vs s1 ⟨ns,hI,h64,q⟩=> ?_) fun _ _ z=>z)
 have small:vs.length<=sizeLine:=qaS (Nat.le_of_lt h64) (by decide)
 refine qaW (wpAny_newList ?_ small)
 have at0:(s1.heap.push {cls:= .type "list",data:= .seq vs.toArray}).get? s1.heap.objs.size=some (seqObj "list" vs.toArray 0):=qar _ rfl
 refine qaW (qaO (wpAny_call_entry slot_list_sort ⟨_,at0,rfl⟩ entry_list_sort (list_sort_tree (s:={s1 with heap:=s1.heap.push {cls:= .type "list",data:= .seq vs.toArray}}) at0 hI h64 fun out ns' a1 a2 a3=>⟨_,rfl,?_⟩) (args_list_sort _)))
 obtain ⟨e,he⟩:=sortedHeap_at (out:=out) at0
 refine qaX ⟨_,rfl,q out.toList e _ ?_ (fun b ob eb=> ?_) (by simpa using he)⟩
 ·rw [<- zeC a2 a3];exact a1
 ·have lt:=qaQ eb
  rw [sortedHeap_old (qaR lt) (by rw [qaL];exact Nat.lt_succ_of_lt lt)]
  exact qag _ eb
theorem zho {l:Addr} {vs:List Value} {Q:List Value->Shared->Prop} (hl:s.heap.IsTuple l vs.toArray) (small:vs.length<=sizeLine)
  (q: ∀ h',(∀ b ob,s.heap.get? b=some ob->h'.get? b=some ob)->Q vs {s with heap:=h'}):wpAny (model prog w) A (collect (.ref l)) Q E s:=by
 obtain ⟨ob,ho,hc,n,hd⟩:=id hl
 unfold collect
 refine qaW (wpAny_runValue (codeAny_builtin F.entry_proto_collect ?_))
 rw [qap F.plain_proto_collect _]
 show wpAny _ _ (newList []>>=fun d=>again (.builtin "list.__iadd__" ⟨[d,.ref l],[]⟩)) _ _ _
 refine qaW (qaC (qaX ⟨plainId_quiet F.plain_list_iadd _,codeAny_builtin F.entry_list_iadd ?_⟩))
 rw [qap F.plain_list_iadd _]
 show wpAny _ _ (Builtin.List.listExtendWith (.ref s.heap.objs.size) (.ref l) (.ref s.heap.objs.size)) _ _ _
 unfold Builtin.List.listExtendWith
 have ho':(s.heap.push {cls:= .type "list",data:= .seq ([]:List Value).toArray}).get? l=some ob:=qag _ ho
 have d0:(s.heap.push {cls:= .type "list",data:= .seq ([]:List Value).toArray}).get? s.heap.objs.size=some (seqObj "list" #[] 0):=qar _ rfl
 refine qaW (wpAny_typeOf (T:="tuple") ⟨ob,ho',hc⟩ ?_)
 rw [qa4 (by simp)]
 refine qaW (listItems_at ho' hd ?_)
 refine qaW (listItems_at d0 rfl ?_)
 rw [qa5 (by simp)]
 refine qaW (listUpdate_at (xs:= #[]) (n:=0) d0 rfl ?_ (Nat.zero_le _) (by show (#[]++vs.toArray).size<=sizeLine+1;simp;omega))
 refine qaX ?_
 show wpAny _ _ (load s.heap.objs.size>>=fun o=>match o.data with | .seq xs _=>pure xs.toList | _=>unsupported "internal:collect") _ _ _
 refine qaW (wpAny_load (get?_update_seq d0 _) ?_)
 have z:=q ((s.heap.push {cls:= .type "list",data:= .seq ([]:List Value).toArray}).update s.heap.objs.size (Obj.mapSeq fun x=>x++vs.toArray)) fun b ob e=>(qah _ _ (fun z=>qaN _ (z▸qaQ e))).trans (qag _ e)
 show wpAny _ _ (pure ((#[]:Array Value)++vs.toArray).toList) _ _ _
 rw [show ((#[]:Array Value)++vs.toArray).toList=vs by simp]
 exact qaX z
end
end LT
namespace L2
open PySem PySem.Spec PyProof.Rows LT
section
variable {X:Cx}
noncomputable def zjK (P:Program) (w:World) (p:Addr) (ns:List Int):HO:= .ext fun h=>zgn P w h p (fun z=>(ns.foldl step_dedup []).any (· == z)) (ns.foldl step_dedup []).length
theorem zk8 (hc:X.calm=true):za0 X (.type "set") (fun xs H Q=> ∃ (a:Addr) (ns:List Int),xs=[.ref a]/\(SqL X.K H a (ns.map V.int)\/SqT X.K H a (ns.map V.int))/\ns.length<4000/\ ∀ p,H p=none->Q (.ref p) (upd H p (zjK X.prog X.w p ns))):=by
 intro pins s σ H xs us Q I r h
 obtain ⟨a,ns,rfl,hq,hl,q⟩:=h
 obtain ⟨u,rfl,rx⟩:=zeB r
 cases rx
 have fin: ∀ (items:Array Value),items.size=ns.length-> ∀ (h':Heap) (tk:Nat),zgn X.prog X.w h' s.heap.objs.size (fun z=>(firstMet (fun i=>ns.getD i 0) items.size).any (· == z)) (firstMet (fun i=>ns.getD i 0) items.size).length->(∀ b ob,s.heap.get? b=some ob->h'.get? b=some ob)->
   EP X pins σ Q (.ref s.heap.objs.size) {s with heap:=h',toks:=tk}:=fun items hz h' tk g k=>by
  rw [hz,zhE] at g
  refine ⟨.ref s.heap.objs.size,_,I.laid (t':=tk) (o:=zjK X.prog X.w s.heap.objs.size ns) k (qaV _) ⟨g,?_,fun h1 h2 z e=>z.move e (fun _=>rfl) rfl⟩,rfl,q _ (I.hok.fresh (qaV _))⟩
  obtain ⟨ob,es,ep,tb,⟨h1,_⟩,_⟩:=g
  exact ⟨ob,h1⟩
 have room:ns.length+1<scanBound:=by
  have:scanBound=4096:=rfl
  omega
 rcases hq with hq | hq
 ·obtain ⟨its,r',pl,_⟩:=I.list hq
  have hz:its.toArray.size=ns.length:=by rw [qaA, <-r'.length,qaH]
  exact zsZ (I.ok.hd hc) (.inl ⟨rfl,pl.isList⟩) (by simpa using zdo r') (by rw [hz];exact room) fun h' tk g k=>fin _ hz h' tk g k
 ·obtain ⟨its,r',pl,_⟩:=I.tuple hq
  have hz:its.toArray.size=ns.length:=by rw [qaA, <-r'.length,qaH]
  exact zsZ (I.ok.hd hc) (.inr ⟨rfl,pl⟩) (by simpa using zdo r') (by rw [hz];exact room) fun h' tk g k=>fin _ hz h' tk g k
theorem Inv.grown {pins:List (Addr×Obj)} {σ:St} {H:Hp} {s s':Shared} (I:Inv X pins σ H s) (ho:s'.os=s.os) (hg:s'.gens=s.gens) (k: ∀ b ob,s.heap.get? b=some ob->s'.heap.get? b=some ob):Inv X pins σ H s':=
 I.call' (ch:=[]) ho (Un.kept k) (I.hok.kept k) (by rw [hg];exact I.bare) fun b z=>nomatch z
theorem zlB {out:List Value} {ms:List Int} (h:IntsAre out ms):za6 (ms.map V.int) out:=zeL h
theorem zgr (hc:X.calm=true):za0 X (.builtin "sorted") (fun xs H Q=> ∃ (p:Addr) (ns:List Int),xs=[.ref p]/\((((ns.foldl step_dedup []).length<64/\H p=some (zjK X.prog X.w p ns))/\ ∀ l,H l=none->Q (.ref l) (upd H l (.lst ((zhl ns).map V.int))))\/
    ((ns.length<64/\(SqL X.K H p (ns.map V.int)\/SqT X.K H p (ns.map V.int)))/\ ∀ l,H l=none->Q (.ref l) (upd H l (.lst ((zen ns).map V.int)))))):=by
 intro pins s σ H xs us Q I r h
 obtain ⟨p,ns,rfl,h⟩:=h
 obtain ⟨u,rfl,rx⟩:=zeB r
 cases rx
 have fin: ∀ (s1:Shared) (ms:List Int),ms.length<=64->(∀ b ob,s.heap.get? b=some ob->s1.heap.get? b=some ob)->s1.gens=s.gens->s1.os=s.os->(∀ l,H l=none->Q (.ref l) (upd H l (.lst ((zen ms).map V.int))))-> ∀ out e h',IntsAre out (zen ms)->(∀ b ob,s1.heap.get? b=some ob->h'.get? b=some ob)->
   h'.get? s1.heap.objs.size=some (seqObj "list" out.toArray e)->EP X pins σ Q (.ref s1.heap.objs.size) {s1 with heap:=h'}:=fun s1 ms hm k g1 o1 q out e h' hi k2 e2=>by
  have I1:=I.grown o1 g1 k
  refine ⟨.ref s1.heap.objs.size,_,I1.laid (t':=s1.toks) (o:= .lst ((zen ms).map V.int)) k2 (qaV _) ⟨?_,out,e,zlB hi,e2⟩,rfl,q _ (I1.hok.fresh (qaV _))⟩
  rw [qaH,(zbe ms).length_eq]
  exact qaS hm (by decide)
 rcases h with ⟨⟨hl,hs⟩,q⟩ | ⟨⟨hl,hq⟩,q⟩
 ·obtain ⟨g,_⟩:=(show zbR X.prog X.w H s.heap p (zjK X.prog X.w p ns) from I.hok p _ hs)
  refine ze5 fun E'=>zlR (show X.A.in1.handled=none from I.ok.hd hc) g fun vs s1 es ep tb hob pv k g1 o1=> ?_
  obtain ⟨ob',es',ep',tb',⟨a1,a2,a3⟩,h4,h5,⟨h6,h7,h8⟩,h9⟩:=g
  obtain ⟨ob,b1,b2,b3⟩:=hob
  rw [a1] at b1
  cases b1
  rw [a3] at b3
  cases b3
  obtain ⟨ms,m1,m2⟩:=zfM h4
  obtain ⟨ms',m3,m4⟩:=zgV pv m1
  have len:ms.length=(ns.foldl step_dedup []).length:=by
   rw [<- m1.length,qaH,qas]
   exact h8
  have pm:List.Perm ms (ns.foldl step_dedup []):=zeM (zff ns [] List.nodup_nil) (fun z hz=>by
    rw [m2 z, <-h5 z]
    exact List.any_eq_true.mpr ⟨z,hz,by simp⟩) (Nat.le_of_eq len)
  have es1:zen ms'=zhl ns:=by
   unfold zhl
   exact zeC ((zbe ms').trans (m4.trans pm)) (zd3 ms')
  have lm:ms'.length<64:=by
   rw [m4.length_eq,len]
   exact hl
  refine ⟨ms',m3,by rw [m3.length];omega,fun out e h' hi k2 e2=> ?_⟩
  exact fin s1 ms' (by omega) k g1 o1 (by rw [es1];exact q) out e h' hi k2 e2
 ·rcases hq with hq | hq
  ·obtain ⟨its,r',pl,hz⟩:=I.list hq
   have hi:=zdo r'
   have lz:its.length=ns.length:=by rw [<- r'.length,qaH]
   refine ze5 fun E'=>collect_list pl.isList ?_ (by rw [lz, <-qaH (f:=V.int)];exact hz)
   refine ⟨ns,hi,by omega,fun out e h' hi2 k2 e2=> ?_⟩
   refine fin {s with heap:=(s.heap.push (seqObj "list" #[] 0)).update s.heap.objs.size (Obj.mapSeq fun x=>x++its.toArray)} ns (by omega) (fun b ob eb=> ?_) rfl rfl q out e h' hi2 k2 e2
   exact (qah _ _ (fun z=>qaN _ (z▸qaQ eb))).trans (qag _ eb)
  ·obtain ⟨its,r',pl,hz⟩:=I.tuple hq
   have hi:=zdo r'
   have lz:its.length=ns.length:=by rw [<- r'.length,qaH]
   refine ze5 fun E'=>zho pl (by rw [lz, <-qaH (f:=V.int)];exact hz) fun h1 k1=> ?_
   refine ⟨ns,hi,by omega,fun out e h' hi2 k2 e2=> ?_⟩
   exact fin {s with heap:=h1} ns (by omega) k1 rfl rfl q out e h' hi2 k2 e2
theorem zku (hc:X.calm=true):za0 X (.builtin "all") (fun xs H Q=> ∃ (a:Addr) (bs:List Bool),xs=[.ref a]/\SqL X.K H a (bs.map V.bl)/\Q (.bl (bs.all id)) H):=by
 intro pins s σ H xs us Q I r h
 obtain ⟨a,bs,rfl,hq,q⟩:=h
 obtain ⟨u,rfl,rx⟩:=zeB r
 cases rx
 obtain ⟨its,r',pl,hz⟩:=I.list hq
 have hlt:a<s.heap.objs.size:=by obtain ⟨_,e,_⟩:=pl.isList;exact qaQ e
 refine call_all_walk (wpAny_pyIter_list pl.isList ?_)
 refine ⟨s.heap.objs.size,[s.heap.objs.size,a],[s.heap.objs.size],its.toArray.size,_,_,fun i=>(bs[i]?).getD true,rfl,Walks.list (A:=X.A.in1) (I.ok.hd hc) _ a (qaR hlt) its.toArray,⟨⟨_,qar _ rfl,rfl,rfl⟩,pl.isList.push _⟩,fun i v s' Q' E' hP hQ=> ?_,fun h' tk hk=> ?_⟩
 ·have hv:its[i]? = some v:=by simpa using hP
  obtain ⟨hi,_⟩:=qac.mp hv
  have hlen:bs.length=its.length:=by rw [<- r'.length,qaH]
  have hb:(bs.map V.bl)[i]? = some (V.bl bs[i]):=by simp [hlen,hi]
  obtain ⟨u',hu,ru⟩:=r'.get hb
  rw [hv] at hu
  cases hu
  cases ru
  have e:(bs[i]?).getD true=bs[i]:=by simp [hlen,hi]
  have hQ:Q' ((bs[i]?).getD true) s':=hQ
  rw [e] at hQ
  exact wpAny_truthy_bool hQ
 ·have e:((List.range its.toArray.size).all fun i=>(bs[i]?).getD true)=bs.all id:=by
   have hlen:bs.length=its.length:=by rw [<- r'.length,qaH]
   rw [qaA, <-hlen]
   rw [Bool.eq_iff_iff,List.all_eq_true,List.all_eq_true]
   constructor
   ·intro h x hx
    obtain ⟨i,hi⟩:=List.mem_iff_getElem?.mp hx
    have hl:=(qac.mp hi).1
    have:=h i (by simpa using hl)
    rw [hi] at this
    exact this
   ·intro h i hi
    have hl:i<bs.length:=by simpa using hi
    have e1:bs[i]? = some bs[i]:=by simp [hl]
    rw [e1]
    exact h _ (List.getElem_mem hl)
  rw [e]
  refine ⟨.bl _,H,I.grown (s':={s with heap:=h',toks:=tk}) rfl rfl fun b ob eb=>hk b ob (fun z=> ?_) (qag _ eb),rfl,q⟩
  simp only [qaP,qaF,or_false] at z
  exact qaN _ (z▸qaQ eb)
end
end L2
namespace L3
open PySem PySem.Spec PyProof.Rows L2 LT
section
variable {X:Cx} {E:XE} {e:Expr} {es:List Expr} {pos p:Pos} {fs:Sd->M (List D)} {x:Str}
theorem zl5 {id:String} {F:List D->M D} (hc:za0 X (.builtin id) (zjm X.K E F)) (hg:Gl X x) (hm:X.mg x=none) (hv:bootBuiltins x=some (.builtin id)) (ha:SA X E (e::es) fs) (hn:x≠"__name__":=by decide) (hdb:(x==("__debug__":Str))=false:=by decide)
  (he:starEach (e::es) X.env=(false,eval e X.env)::starEach es X.env:=by rfl) (hpl:(backTo pos (starEach es X.env)).any (·.1)=false:=by rfl):SE X E (.Call (.Name x p) (e::es) [] pos) (fun sd=>do let ds<-fs sd;F ds):=
 PE.imp (zfZ hc hg hm hv ha hn hdb he hpl) fun σ H Q ⟨ι,h,sd,L,hh,q⟩=>⟨ι,h,sd,L,hh,Fin.bind q fun ds h1 ι1 H1 e1 s1 hr1 q1 vs rv=>⟨ι1,h1,ds,rv,hr1,q1⟩⟩
theorem zjT {T:String} {F:List D->M D} (hc:za0 X (.type T) (zjm X.K E F)) (hg:Gl X x) (hm:X.mg x=none) (hv:bootBuiltins x=some (.type T)) (ha:SA X E (e::es) fs) (hn:x≠"__name__":=by decide) (hdb:(x==("__debug__":Str))=false:=by decide)
  (he:starEach (e::es) X.env=(false,eval e X.env)::starEach es X.env:=by rfl) (hpl:(backTo pos (starEach es X.env)).any (·.1)=false:=by rfl):SE X E (.Call (.Name x p) (e::es) [] pos) (fun sd=>do let ds<-fs sd;F ds):=
 PE.imp (zcL hc hg hm hv ha hn hdb he hpl) fun σ H Q ⟨ι,h,sd,L,hh,q⟩=>⟨ι,h,sd,L,hh,Fin.bind q fun ds h1 ι1 H1 e1 s1 hr1 q1 vs rv=>⟨ι1,h1,ds,rv,hr1,q1⟩⟩
noncomputable def zll:D->M (List D)
 | .tup ds=>pure ds
 | .lst ds=>pure ds
 | .scr ds=>pure ds
 | .cel n=>zam n
 | _=>M.bad
theorem zdY {K:W.Frag} {ι:Io} {H:Hp} {h:Hh} {d:D} {v:V} {α:Type} {f:List D->M α} {P:α->Io->Hp->Prop} (hr:zbc K ι H h) (r:Rel K ι H d v) (q:Fin K E ι H ((do let ds<-zll d;f ds) h) P):
  ∃ a vs ds,v= .ref a/\((SqL K H a vs/\ ∀ ts,d≠ .tup ts)\/(SqT K H a vs/\d= .tup ds))/\zas K ι H ds vs/\Fin K E ι H (f ds h) P:=by
 cases d with
 | tup ds=>
  obtain ⟨a,vs,e,h1,h2⟩:=zdA r
  exact ⟨a,vs,ds,e,.inr ⟨h1,rfl⟩,h2,q⟩
 | lst ds=>
  obtain ⟨a,vs,e,h1,h2⟩:=zfD r
  exact ⟨a,vs,ds,e,.inl ⟨h1,fun _ z=>by cases z⟩,h2,q⟩
 | scr ds=>
  obtain ⟨a,vs,e,h1,h2⟩:=zkh r
  exact ⟨a,vs,ds,e,.inl ⟨h1,fun _ z=>by cases z⟩,h2,q⟩
 | cel n=>
  have q':Fin K E ι H (M.bind (zam n) f h) P:=q
  unfold M.bind at q'
  cases z:zam n h with
  | bad=>rw [z] at q';exact qa0 q'
  | exc c h'=>unfold zam at z;split at z<;>cases z
  | ok ds h'=>
   rw [z] at q'
   obtain ⟨rfl,z2⟩:=zcQ z
   obtain ⟨a,vs,e,hn,hH,rl⟩:=hr.read r z2
   exact ⟨a,vs,ds,e,.inl ⟨SqL.of hH,fun _ z=>by cases z⟩,rl,q'⟩
 | _=>exact qa0 q
theorem zmp {K:W.Frag} {H:Hp} {a:Addr} {vs:List V} {d:D} {ds:List D} (h:(SqL K H a vs/\ ∀ ts,d≠ .tup ts)\/(SqT K H a vs/\d= .tup ds)):SqL K H a vs\/SqT K H a vs:=h.imp And.left And.left
theorem zrH {K:W.Frag} {ι:Io} {H:Hp} {d:D} {xs:List V} (h:zas K ι H [d] xs): ∃ v,xs=[v]/\Rel K ι H d v:=by
 simp only [zas] at h
 obtain ⟨v,r,rfl,h1,rfl⟩:=h
 exact ⟨v,rfl,h1⟩
noncomputable def zo0 {α:Type} (f:D->M α):List D->M α
 | [d]=>f d
 | _=>M.bad
theorem zeF {α:Type} {K:W.Frag} {ι:Io} {H:Hp} {h:Hh} {f:D->M α} {ds:List D} {xs:List V} {P:α->Io->Hp->Prop} (rl:zas K ι H ds xs) (q:Fin K E ι H (zo0 f ds h) P): ∃ d v,xs=[v]/\Rel K ι H d v/\Fin K E ι H (f d h) P:=by
 match ds,rl,q with
 | [d],rl,q=>
  obtain ⟨v,e,r⟩:=zrH rl
  exact ⟨d,v,e,r,q⟩
 | [],_,q=>exact qa0 q
 | _::_::_,_,q=>exact qa0 q
noncomputable def zdC:List D->M D:=zo0 fun d=>do let ds<-zll d;pure (.int ds.length)
theorem zaE:za0 X (.builtin "len") (zjm X.K E zdC):=by
 refine za0.imp zgC fun xs H Q ⟨ι,h,ds,rl,hr,q⟩=> ?_
 obtain ⟨d,v,e,r,q⟩:=zeF rl q
 obtain ⟨a,vs,ds',e',hs,rl',q⟩:=zdY hr r q
 exact ⟨a,vs,by rw [e,e'],zmp hs,Fin.out hr q _ (by rw [rl'.length];simp [Rel])⟩
noncomputable def zbo:List D->M D:=zo0 fun d=>do let ds<-zll d;pure (.tup ds)
theorem zaD:za0 X (.type "tuple") (zjm X.K E zbo):=by
 refine za0.imp zgj fun xs H Q ⟨ι,h,ds,rl,hr,q⟩=> ?_
 obtain ⟨d,v,e,r,q⟩:=zeF rl q
 obtain ⟨a,vs,ds',e',hs,rl',q⟩:=zdY hr r q
 refine ⟨a,vs,by rw [e,e'],?_⟩
 rcases hs with ⟨hs,_⟩ | ⟨hs,hd⟩
 ·exact .inl ⟨hs,fun l hl=>zn5 hr rl' q hl⟩
 ·exact .inr ⟨hs,Fin.out hr q _ (by rw [<- e', <-hd];exact r)⟩
noncomputable def zsE:List D->M D:=zo0 fun d=>do let ds<-zll d;pure (.lst ds)
noncomputable def two2 (g:Int->Int->Int):List D->M D
 | [.int i,.int j]=>pure (.int (g i j))
 | _=>M.bad
theorem two2_inv {K:W.Frag} {ι:Io} {H:Hp} {h:Hh} {g:Int->Int->Int} {ds:List D} {xs:List V} {P:D->Io->Hp->Prop} (hr:zbc K ι H h) (rl:zas K ι H ds xs) (q:Fin K E ι H (two2 g ds h) P): ∃ i j,xs=[.int i,.int j]/\P (.int (g i j)) ι H:=by
 unfold two2 at q
 split at q
 ·simp only [zas,Rel] at rl
  obtain ⟨v,r,rfl,rfl,v',r',rfl,rfl,rfl⟩:=rl
  exact ⟨_,_,rfl,Fin.out hr q⟩
 ·exact qa0 q
noncomputable def zkH:=two2 fun i j=>if j>i then j else i
noncomputable def zow:=two2 fun i j=>if j<i then j else i
theorem zfH (hc:X.calm=true):za0 X (.builtin "max") (zjm X.K E zkH):=by
 refine za0.imp (zjv hc) fun xs H Q ⟨ι,h,ds,rl,hr,q⟩=> ?_
 obtain ⟨i,j,e,q⟩:=two2_inv hr rl q
 exact ⟨i,j,e,q _ (by simp [Rel])⟩
theorem zi2 (hc:X.calm=true):za0 X (.builtin "min") (zjm X.K E zow):=by
 refine za0.imp (zj7 hc) fun xs H Q ⟨ι,h,ds,rl,hr,q⟩=> ?_
 obtain ⟨i,j,e,q⟩:=two2_inv hr rl q
 exact ⟨i,j,e,q _ (by simp [Rel])⟩
noncomputable def znd:List D->Option (List Bool)
 | []=>some []
 | .bl b::r=>(znd r).map (b:: ·)
 | _=>none
noncomputable def zgG:List D->Option (List Int)
 | []=>some []
 | .int i::r=>(zgG r).map (i:: ·)
 | _=>none
theorem zh2 {K:W.Frag} {ι:Io} {H:Hp}: ∀ {ds:List D} {vs:List V} {bs:List Bool},zas K ι H ds vs->znd ds=some bs->vs=bs.map V.bl
 | [],_,_,h,e=>by simp only [zas] at h;subst h;cases e;rfl
 | d::ds,_,bs,h,e=>by
  simp only [zas] at h
  obtain ⟨v,r,rfl,h1,h2⟩:=h
  cases d with
  | bl b=>
   unfold znd at e
   cases z:znd ds with
   | none=>rw [z] at e;cases e
   | some cs=>
    rw [z] at e
    cases e
    simp only [Rel] at h1
    rw [h1,zh2 h2 z]
    rfl
  | _=>cases e
theorem zhh {K:W.Frag} {ι:Io} {H:Hp}: ∀ {ds:List D} {vs:List V} {bs:List Int},zas K ι H ds vs->zgG ds=some bs->vs=bs.map V.int
 | [],_,_,h,e=>by simp only [zas] at h;subst h;cases e;rfl
 | d::ds,_,bs,h,e=>by
  simp only [zas] at h
  obtain ⟨v,r,rfl,h1,h2⟩:=h
  cases d with
  | int b=>
   unfold zgG at e
   cases z:zgG ds with
   | none=>rw [z] at e;cases e
   | some cs=>
    rw [z] at e
    cases e
    simp only [Rel] at h1
    rw [h1,zhh h2 z]
    rfl
  | _=>cases e
theorem Fin.ofOb {α β:Type} {K:W.Frag} {ι:Io} {H:Hp} {h:Hh} {o:Option α} {f:α->M β} {P:β->Io->Hp->Prop} (q:Fin K E ι H ((do let a<-L3.ofO o;f a) h) P): ∃ a,o=some a/\Fin K E ι H (f a h) P:=by
 cases o with
 | none=>exact qa0 q
 | some a=>exact ⟨a,rfl,q⟩
noncomputable def zrr:List D->M D:=zo0 fun d=>match d with
 | .lst ds=>do let bs<-ofO (znd ds);pure (.bl (bs.all id))
 | _=>M.bad
theorem zg3 (hc:X.calm=true):za0 X (.builtin "all") (zjm X.K E zrr):=by
 refine za0.imp (zku hc) fun xs H Q ⟨ι,h,ds,rl,hr,q⟩=> ?_
 obtain ⟨d,v,e,r,q⟩:=zeF rl q
 cases d with
 | lst ds=>
  obtain ⟨a,vs,e',h1,h2⟩:=zfD r
  obtain ⟨bs,eb,q⟩:=Fin.ofOb q
  have:=zh2 h2 eb
  subst this
  exact ⟨a,bs,by rw [e,e'],h1,Fin.out hr q _ (by simp [Rel])⟩
 | _=>exact qa0 q
noncomputable def zdX (d:D):M D:=do
 let ds<-zll d
 let ns<-ofO (zgG ds)
 if (ns.foldl step_dedup []).length<64/\ns.length<4000 then pure (.lst ((zhl ns).map D.int)) else M.bad
theorem zi5 {p1 p2 pos2:Pos} {f:Sd->M D} (hc:X.calm=true) (hg1:Gl X "sorted") (hm1:X.mg "sorted"=none) (hg2:Gl X "set") (hm2:X.mg "set"=none) (he:SE X E e f)
  (h1:starEach [.Call (.Name "set" p2) [e] [] pos2] X.env=[(false,eval (.Call (.Name "set" p2) [e] [] pos2) X.env)]:=by rfl) (h2:starEach [e] X.env=[(false,eval e X.env)]:=by rfl):
  SE X E (.Call (.Name "sorted" p1) [.Call (.Name "set" p2) [e] [] pos2] [] pos) (fun sd=>do let d<-f sd;zdX d):=by
 refine PE.imp (zfZ (zgr hc) hg1 hm1 boot_sorted (zbE (zcL (zk8 hc) hg2 hm2 PyProof.Rows.boot_set (zbE he zcM h2) (he:=h2)) zcM h1) (he:=h1)) fun σ H Q ⟨ι,h,sd,L,hh,q⟩=>⟨ι,h,sd,L,hh,Fin.bind q fun d h1 ι1 H1 e1 s1 hr1 q1 v rv=> ?_⟩
 obtain ⟨a,vs,ds',e',hs,rl',q2⟩:=zdY hr1 rv q1
 obtain ⟨ns,en,q3⟩:=Fin.ofOb q2
 have:=zhh rl' en
 subst this
 obtain ⟨hl,q4⟩:=Fin.guard q3
 refine ⟨a,ns,by rw [e'],zmp hs,hl.2,fun p hp=> ?_⟩
 have hr2:zbc X.K ι1 (upd H1 p (zjK X.prog X.w p ns)) h1:=hr1.laid hp
 exact ⟨p,ns,rfl,.inl ⟨⟨hl.1,zaR⟩,fun l hl'=>zrc hr2 (zdj.mpr rfl) (Fin.step (hr1.laidS hp) q4) hl'⟩⟩
end
noncomputable def tyD:D->M String
 | .non=>pure "NoneType"
 | .bl _=>pure "bool"
 | .int _=>pure "int"
 | .str _=>pure "str"
 | .tup _=>pure "tuple"
 | .lst _=>pure "list"
 | .dct=>pure "dict"
 | .cel n=>do let _<-zam n;pure "list"
 | _=>M.bad
noncomputable def zj6:List String:=["NoneType","bool","int","str","tuple","list","dict"]
noncomputable def isB (T t:String):Bool:=t==T || (t=="bool" && T=="int")
noncomputable def zlk (T:String) (d:D):M D:=do let t<-tyD d;pure (.bl (isB T t))
def zjD (T:String):Prop:= ∀ (K:W.Frag), ∀ t∈zj6,W.kitOne K (.type t) (.type T)=some (isB T t)
noncomputable def zsQ (t T:String):Option Bool:=if ((Value.type t)==(Value.type T))=true then some true else if W.kitMeta T=true then (fastBuiltinMro t).map (·.contains (Value.type T)) else none
theorem ziv {T:String} (h:(zj6.all fun t=>zsQ t T==some (isB T t))=true):zjD T:=fun K t ht=>by
 have:=List.all_eq_true.mp h t ht
 have e:W.kitOne K (.type t) (.type T)=zsQ t T:=rfl
 rw [e]
 exact beq_iff_eq.mp this
theorem zgJ:zjD "tuple":=ziv (by decide +kernel)
theorem zlK:zjD "list":=ziv (by decide +kernel)
section
variable {X:Cx} {E:XE} {α:Type}
theorem znJ {K:W.Frag} {ι:Io} {H:Hp} {h:Hh} {d:D} {v:V} {f:String->M α} {P:α->Io->Hp->Prop} (hr:zbc K ι H h) (r:Rel K ι H d v) (q:Fin K E ι H ((do let t<-tyD d;f t) h) P):
  ∃ t,t∈zj6/\zid K H v (.type t)/\Fin K E ι H (f t h) P:=by
 cases d with
 | non=>simp only [Rel] at r;subst r;exact ⟨_,by decide,.non,q⟩
 | bl b=>simp only [Rel] at r;subst r;exact ⟨_,by decide,.bl b,q⟩
 | int b=>simp only [Rel] at r;subst r;exact ⟨_,by decide,.int b,q⟩
 | str b=>simp only [Rel] at r;subst r;exact ⟨_,by decide,.str b,q⟩
 | tup ds=>
  simp only [Rel] at r
  obtain ⟨a,vs,e,h1,h2⟩:=r
  subst e
  exact ⟨_,by decide,.tup h1.1,q⟩
 | lst ds=>
  simp only [Rel] at r
  obtain ⟨a,vs,e,h1,h2⟩:=r
  subst e
  exact ⟨_,by decide,.lst h1.1,q⟩
 | dct=>
  simp only [Rel] at r
  obtain ⟨a,e,h1,h2⟩:=r
  subst e
  exact ⟨_,by decide,.dK h1,q⟩
 | cel n=>
  have q':Fin K E ι H (M.bind (zam n) (fun _=>f "list") h) P:=by
   have e:(do let t<-tyD (.cel n);f t:M α)=(zam n>>=fun _=>f "list"):=by
    show ((zam n>>=fun _=>pure "list")>>=f)=_
    simp only [bind_assoc,pure_bind]
   rw [e] at q
   exact q
  unfold M.bind at q'
  cases z:zam n h with
  | bad=>rw [z] at q';exact qa0 q'
  | exc c h'=>unfold zam at z;split at z<;>cases z
  | ok ds h'=>
   rw [z] at q'
   obtain ⟨rfl,z2⟩:=zcQ z
   obtain ⟨a,vs,e,hn,hH,rl⟩:=hr.read r z2
   subst e
   exact ⟨_,by decide,.lst hH,q'⟩
 | _=>exact qa0 q
theorem zlu:za0 X (.builtin "isinstance") (fun xs H Q=> ∃ x t T b,xs=[x,.ty T]/\zid X.K H x t/\W.kitOne X.K t (.type T)=some b/\Q (.bl b) H):=by
 intro pins s σ H xs us Q I r h
 obtain ⟨x,t,T,b,rfl,ty,e,q⟩:=h
 cases r with
 | cons r1 r2=>
  cases r2 with
  | cons r3 r4=>
   cases r4
   cases r3
   exact zlh I r1 ty e fun tk=>⟨.bl b,H,I.tok tk,rfl,q⟩
theorem zqX {a:Expr} {x:Str} {T:String} {p1 p2 pos:Pos} {fa:Sd->M D} (hk:zjD T) (hg:Gl X "isinstance") (hm:X.mg "isinstance"=none) (hgT:Gl X x) (hmT:X.mg x=none) (hvT:bootBuiltins x=some (.type T)) (ha:SE X E a fa)
  (hn:x≠"__name__":=by decide) (hd:(x==("__debug__":Str))=false:=by decide)
  (h1:starEach [a,.Name x p2] X.env=(false,eval a X.env)::starEach [.Name x p2] X.env:=by rfl) (h2:starEach [.Name x p2] X.env=[(false,eval (.Name x p2) X.env)]:=by rfl)
  (hpl:(backTo pos (starEach [.Name x p2] X.env)).any (·.1)=false:=by rfl):
  SE X E (.Call (.Name "isinstance" p1) [a,.Name x p2] [] pos) (fun sd=>do let d<-fa sd;zlk T d):=by
 refine PE.imp (zfZ zlu hg hm PyProof.Rows.boot_isinstance (zbE ha (zbE (znp (v:= .ty T) hgT hmT hvT rfl hn hd) zcM h2) h1) (he:=h1) (hpl:=hpl)) fun σ H Q ⟨ι,h,sd,L,hh,q⟩=>⟨ι,h,sd,L,hh,Fin.bind q fun d h1 ι1 H1 e1 s1 hr1 q1 v rv=> ?_⟩
 obtain ⟨t,ht,ty,q2⟩:=znJ hr1 rv q1
 exact ⟨v,.type t,T,isB T t,rfl,ty,hk X.K t ht,Fin.out hr1 q2 _ (by simp [Rel])⟩
noncomputable def zq9:D->D->M D
 | .bl a,.bl b=>pure (.bl (a != b))
 | _,_=>M.bad
noncomputable def zjy (xs:List D) (lo hi:Option Int):List D:=(xs.drop (HT.sIx xs.length 0 lo)).take (HT.sIx xs.length xs.length hi - HT.sIx xs.length 0 lo)
noncomputable def dSl (d:D) (lo hi:Option Int):M D:=match d with
 | .tup ds=>pure (.tup (zjy ds lo hi))
 | .lst ds=>pure (.lst (zjy ds lo hi))
 | _=>M.bad
noncomputable def ztv (K:W.Frag) (E:XE) (f:Sd->M (Option Int)):TO:=fun σ H Q=> ∃ ι h sd,zcj K ι H sd σ/\zbc K ι H h/\Fin K E ι H (f sd h) fun o ι' H'=>Q o H'
noncomputable abbrev SO (X:Cx) (E:XE) (e:Option Expr) (f:Sd->M (Option Int)):Prop:=PO X e (ztv X.K E f)
theorem PO.imp {e:Option Expr} {t t':TO} (h:PO X e t) (m: ∀ σ H Q,t' σ H Q->t σ H Q):PO X e t':=fun pins s σ H Q I q=>h pins s σ H Q I (m _ _ _ q)
noncomputable def ziT:Sd->M (Option Int):=fun _=>pure none
noncomputable def zoR:D->M (Option Int)
 | .int i=>pure (some i)
 | _=>M.bad
noncomputable def ziX (f:Sd->M D):Sd->M (Option Int):=fun sd=>do let d<-f sd;zoR d
theorem zgc:SO X E none ziT:=PO.imp znk fun σ H Q ⟨ι,h,sd,L,hh,q⟩=>Fin.out hh q
theorem zgi {e:Expr} {f:Sd->M D} (h:SE X E e f):SO X E (some e) (ziX f):=by
 refine PO.imp (zor h) fun σ H Q ⟨ι,h,sd,L,hh,q⟩=>⟨ι,h,sd,L,hh,Fin.bind q fun d h1 ι1 H1 e1 s1 hr1 q1 v rv=> ?_⟩
 cases d with
 | int i=>simp only [Rel] at rv;exact ⟨i,rv,Fin.out hr1 q1⟩
 | _=>exact qa0 q1
noncomputable def cSl (f:Sd->M D) (lo hi:Sd->M (Option Int)):Sd->M D:=fun sd=>do let d<-f sd;let l<-lo sd;let u<-hi sd;dSl d l u
theorem zeD {e:Expr} {lo hi:Option Expr} {p2 pos:Pos} {f:Sd->M D} {fl fh:Sd->M (Option Int)} (he:SE X E e f) (hl:SO X E lo fl) (hu:SO X E hi fh):SE X E (.Subscript e (.Slice lo hi none p2) pos) (cSl f fl fh):=by
 refine PE.imp (zlD (znY.or (zpG.or zob)) he hl hu) fun σ H Q ⟨ι,h,sd,L,hh,q⟩=>⟨ι,h,sd,L,hh,Fin.bind q fun d h1 ι1 H1 e1 s1 hr1 q1 v rv=> ?_⟩
 refine ⟨ι1,h1,sd,L.step s1,hr1,Fin.bind q1 fun l h2 ι2 H2 e2 s2 hr2 q2=> ?_⟩
 refine ⟨ι2,h2,sd,(L.step s1).step s2,hr2,Fin.bind q2 fun u h3 ι3 H3 e3 s3 hr3 q3=> ?_⟩
 have rv3:=(rv.step s2).step s3
 cases d with
 | tup ds=>
  obtain ⟨a,vs,e,k1,k2⟩:=zdA rv3
  by_cases hw:HT.sIx vs.length 0 l=0/\HT.sIx vs.length vs.length u=vs.length
  ·refine .inl ⟨a,vs,e,k1,hw,?_⟩
   have ec:zjy ds l u=ds:=by
    unfold zjy
    rw [k2.length,hw.1,hw.2, <-k2.length]
    simp
   refine Fin.out hr3 q3 _ ?_
   rw [ec, <-e]
   exact rv3
  ·refine .inr (.inl ⟨a,vs,e,k1,hw,fun p hp=>zn5 hr3 ?_ q3 hp⟩)
   unfold zjy zmH
   rw [k2.length]
   exact zas.take _ (zas.drop _ k2)
 | lst ds=>
  obtain ⟨a,vs,e,k1,k2⟩:=zfD rv3
  refine .inr (.inr ⟨a,vs,e,k1,fun p hp=>zrc hr3 ?_ q3 hp⟩)
  unfold zjy zmH
  rw [k2.length]
  exact zas.take _ (zas.drop _ k2)
 | _=>exact qa0 q3
noncomputable def ztl:D->M D
 | .tup ds=>pure (.tup ds.reverse)
 | _=>M.bad
noncomputable def zo8 (x y:D):M D:=match x,y with
 | .int i,.int j=>if (zbg i || zbg j)=true then pure (.int (i*j)) else M.bad
 | .tup xs,.int k=>if xs≠[]/\2<=k/\k<1000/\xs.length*k.toNat<=sizeLine then pure (.tup (List.replicate k.toNat xs).flatten) else M.bad
 | _,_=>M.bad
theorem zas.rep {K:W.Frag} {ι:Io} {H:Hp} {ds:List D} {vs:List V} (h:zas K ι H ds vs): ∀ n,zas K ι H (List.replicate n ds).flatten (List.replicate n vs).flatten
 | 0=>zas.nil
 | n+1=>by
  rw [List.replicate_succ,List.replicate_succ,List.flatten_cons,List.flatten_cons]
  exact zas.append h (zas.rep h n)
theorem znW:OpR X (binaryOp .Mult) (zek X.K E zo8):=by
 refine OpR.imp (zqE.or zn9) fun x y H Q ⟨ι,h,d1,d2,r1,r2,hr,q⟩=> ?_
 unfold zo8 at q
 split at q
 ·simp only [Rel] at r1 r2
  obtain ⟨c,q⟩:=Fin.guard q
  refine .inl ⟨_,_,r1,r2,?_,Fin.out hr q _ (by simp [Rel])⟩
  rcases (Bool.or_eq_true _ _).mp c with z | z
  ·exact .inl (zc1 z)
  ·exact .inr (zc1 z)
 ·simp only [Rel] at r2
  obtain ⟨a,vs,e,k1,k2⟩:=zdA r1
  obtain ⟨⟨c1,c2,c3,c4⟩,q⟩:=Fin.guard q
  refine .inr ⟨a,_,vs,e,r2,k1,fun z=>c1 ?_,c2,c3,by rw [<- k2.length];exact c4,fun p hp=>zn5 hr (k2.rep _) q hp⟩
  subst z
  exact List.eq_nil_of_length_eq_zero k2.length
 ·exact qa0 q
mutual
noncomputable def pdH (h:Hh):D->Option PyData
 | .non=>some .none
 | .bl b=>some (.bool b)
 | .int i=>some (.int i)
 | .str x=>some (.str x)
 | .tup xs=>(zfo h xs).map .tuple
 | .lst xs=>(zfo h xs).map .list
 | .cel n=>match h[n]? with
  | some (.lst ds)=>(pdL ds).map .list
  | _=>none
 | _=>none
noncomputable def zfo (h:Hh):List D->Option (List PyData)
 | []=>some []
 | x::xs=>match pdH h x,zfo h xs with
  | some a,some r=>some (a::r)
  | _,_=>none
end
mutual
theorem zgF {pins:List (Addr×Obj)} {σ:L2.St} {H:Hp} {s:Shared} {ι:Io} {h:Hh} (I:Inv X pins σ H s) (hr:zbc X.K ι H h): ∀ {d:D} {v:V} {u:Value} {p:PyData},Rel X.K ι H d v->zcf v u->pdH h d=some p-> ∃ as,Reads s.heap u p as
 | .non,v,u,p,r,ru,e=>by simp only [Rel] at r;subst r;cases ru;simp only [pdH] at e;cases e;exact ⟨_,.none⟩
 | .bl b,v,u,p,r,ru,e=>by simp only [Rel] at r;subst r;cases ru;simp only [pdH] at e;cases e;exact ⟨_,.bool _⟩
 | .int i,v,u,p,r,ru,e=>by simp only [Rel] at r;subst r;obtain ⟨t,rfl⟩:=ru;simp only [pdH] at e;cases e;exact ⟨_,.int _ _⟩
 | .str i,v,u,p,r,ru,e=>by simp only [Rel] at r;subst r;obtain ⟨t,rfl⟩:=ru;simp only [pdH] at e;cases e;exact ⟨_,.str _ _⟩
 | .tup ds,v,u,p,r,ru,e=>by
  obtain ⟨a,vs,rfl,h1,h2⟩:=zdA r
  cases ru
  obtain ⟨its,rv,pl,_⟩:=I.tuple h1
  obtain ⟨o,ho,hc,n,hd⟩:=pl
  simp only [pdH] at e
  cases z:zfo h ds with
  | none=>rw [z] at e;cases e
  | some ps=>
   rw [z] at e;cases e
   obtain ⟨as,q⟩:=zhC I hr h2 rv z
   exact ⟨_,.tuple ho hc hd (by simpa using q)⟩
 | .lst ds,v,u,p,r,ru,e=>by
  obtain ⟨a,vs,rfl,h1,h2⟩:=zfD r
  cases ru
  obtain ⟨its,rv,pl,_⟩:=I.list h1
  obtain ⟨o,ho,hc,n,hd⟩:=pl.isList
  simp only [pdH] at e
  cases z:zfo h ds with
  | none=>rw [z] at e;cases e
  | some ps=>
   rw [z] at e;cases e
   obtain ⟨as,q⟩:=zhC I hr h2 rv z
   exact ⟨_,.list ho hc hd (by simpa using q)⟩
 | .cel m,v,u,p,r,ru,e=>by
  simp only [pdH] at e
  cases z0:h[m]? with
  | none=>rw [z0] at e;cases e
  | some c=>
   rw [z0] at e
   cases c with
   | dead=>cases e
   | dic _=>cases e
   | lst ds=>
    obtain ⟨a,vs,rfl,hn,hH,rl⟩:=hr.read r z0
    cases ru
    obtain ⟨its,rv,pl,_⟩:=I.list (SqL.of hH)
    obtain ⟨o,ho,hc,n,hd⟩:=pl.isList
    cases z:pdL ds with
    | none=>simp only [z] at e;cases e
    | some ps=>
     simp only [z] at e;cases e
     obtain ⟨as,q⟩:=zhe I rl rv z
     exact ⟨_,.list ho hc hd (by simpa using q)⟩
 | .scr ds,_,_,_,_,_,e=>by simp only [pdH] at e;cases e
 | .set xs,_,_,_,_,_,e=>by simp only [pdH] at e;cases e
 | .dct,_,_,_,_,_,e=>by simp only [pdH] at e;cases e
 | .fn _,_,_,_,_,_,e=>by simp only [pdH] at e;cases e
 | .exn _,_,_,_,_,_,e=>by simp only [pdH] at e;cases e
theorem zhC {pins:List (Addr×Obj)} {σ:L2.St} {H:Hp} {s:Shared} {ι:Io} {h:Hh} (I:Inv X pins σ H s) (hr:zbc X.K ι H h): ∀ {ds:List D} {vs:List V} {us:List Value} {ps:List PyData},zas X.K ι H ds vs->za6 vs us->zfo h ds=some ps-> ∃ as,ReadsAll s.heap us ps as
 | [],vs,us,ps,r,ru,e=>by simp only [zas] at r;subst r;cases ru;simp only [zfo] at e;cases e;exact ⟨_,.nil⟩
 | d::ds,vs,us,ps,r,ru,e=>by
  simp only [zas] at r
  obtain ⟨v,vr,rfl,r1,r2⟩:=r
  cases ru with
  | cons ru1 ru2=>
   simp only [zfo] at e
   cases z:pdH h d with
   | none=>rw [z] at e;cases e
   | some a=>
    cases z2:zfo h ds with
    | none=>rw [z,z2] at e;cases e
    | some b=>
     rw [z,z2] at e
     cases e
     obtain ⟨as,q1⟩:=zgF I hr r1 ru1 z
     obtain ⟨bs,q2⟩:=zhC I hr r2 ru2 z2
     exact ⟨_,.cons q1 q2⟩
end
noncomputable def zqy (x y:D):M D:=fun h=>match pdH h x,pdH h y with
 | some a,some b=>if zfk a b=true then .ok (.bl (PyData.eqv a b)) h else .bad
 | _,_=> .bad
theorem zqS (hu:X.A.units+60<cLine):OpR X (compareOp .Eq) (zek X.K E zqy):=by
 intro pins s σ H x y v u Q I rx ry ⟨ι,h,d1,d2,r1,r2,hr,q⟩
 unfold zqy at q
 cases e1:pdH h d1 with
 | none=>rw [e1] at q;exact qa0 q
 | some a=>
  cases e2:pdH h d2 with
  | none=>rw [e1,e2] at q;exact qa0 q
  | some b=>
   rw [e1,e2] at q
   dsimp only at q
   by_cases c:zfk a b=true
   ·rw [qa4 c] at q
    obtain ⟨c1,c2,c3⟩:=zeE c
    obtain ⟨as,ra⟩:=zgF I hr r1 rx e1
    obtain ⟨bs,rb⟩:=zgF I hr r2 ry e2
    exact SeqAt.compareEq_reads ra rb c1 c2 (by omega) ⟨.bl _,H,I,rfl,q ι H (zbP.refl _ _) hr (.bl _) (by simp [Rel])⟩
   ·rw [qa5 c] at q
    exact qa0 q
end
noncomputable abbrev FE:=Sd->M D
noncomputable abbrev FT:=Sd->M Bool
noncomputable abbrev FA:=Sd->M (List D)
noncomputable abbrev FS:=Sd->M Out
noncomputable def cOp (F:D->D->M D) (a b:FE):FE:=fun sd=>do let x<-a sd;let y<-b sd;F x y
noncomputable def cUn (F:D->M D) (a:FE):FE:=fun sd=>do let x<-a sd;F x
noncomputable def zaF (F:List D->M D) (a:FA):FE:=fun sd=>do let ds<-a sd;F ds
noncomputable def zc2 (F:D->D->M D) (a b:FE):FT:=fun sd=>do let z<-(do let x<-a sd;let y<-b sd;F x y);zdg z
noncomputable def zls (a:FE):FT:=fun sd=>do let x<-a sd;zdg x
noncomputable def zmF (t:FT):FT:=fun sd=>do let c<-t sd;pure (!c)
noncomputable def zo3 (t u:FT):FT:=fun sd=>do let c<-t sd;if c=true then u sd else pure false
noncomputable def tOr (t u:FT):FT:=fun sd=>do let c<-t sd;if c=true then pure true else u sd
noncomputable def zqD (a b:FE):FE:=fun sd=>do let c<-(do let x<-a sd;zdg x);if c=true then b sd else pure (.bl false)
noncomputable def cOr (a b:FE):FE:=fun sd=>do let c<-(do let x<-a sd;zdg x);if c=true then pure (.bl true) else b sd
noncomputable def zrn (a:FE):FE:=fun sd=>do let c<-(do let x<-a sd;zdg x);pure (.bl (!c))
noncomputable def cIf (t:FT) (a b:FE):FE:=fun sd=>do let c<-t sd;if c=true then a sd else b sd
noncomputable def cK (d:D):FE:=fun _=>pure d
noncomputable def zal:FA:=fun _=>pure []
noncomputable def zad (a:FE) (r:FA):FA:=fun sd=>do let x<-a sd;let r<-r sd;pure (x::r)
noncomputable def zcV (fs:FA):FE:=fun sd=>do let ds<-fs sd;fits ds.length;pure (.tup ds)
noncomputable def ziW (fs:FA):FE:=fun sd=>do let ds<-fs sd;fits ds.length;pure (.lst ds)
noncomputable def zeX (fs:FA):FE:=fun sd=>do let ds<-fs sd;fits ds.length;zbf ds
noncomputable def zhy:FS:=fun sd=>pure (.nx sd)
noncomputable def zav (g g':FS):FS:=fun sd=>do let o<-g sd;zdR o g'
noncomputable def zbN (i:Nat) (f:FE):FS:=fun sd=>do let d<-f sd;pure (.nx (sd.set i (some d)))
noncomputable def zcq (f:FE):FS:=fun sd=>do let d<-f sd;pure (.rt d)
noncomputable def sIf (t:FT) (g g':FS):FS:=fun sd=>do let c<-t sd;if c=true then g sd else g' sd
noncomputable def zkO (fi:FA) (g:D->Sd->M Sd) (gb:FS):FS:=fun sd=>do let ds<-fi sd;zbu (fun x sd=>do let sd1<-g x sd;gb sd1) ds sd
noncomputable def zj2 (f:FE) (g:D->Sd->M Sd):FS:=fun sd=>do let d<-f sd;let sd'<-g d sd;pure (.nx sd')
noncomputable def zel (f:FE):FS:=fun sd=>do let _<-f sd;pure (.nx sd)
noncomputable def iSq (f:FE):FA:=fun sd=>do let d<-f sd;zeO d
noncomputable def zey (fs:FA):FA:=fun sd=>do let ds<-fs sd;zj8 ds
noncomputable def zoG (fo fi:FE):D->Sd->M Sd:=fun d sd=>do let x<-fo sd;let y<-fi sd;zkI x y d;pure sd
section
variable {X:Cx} {E:XE} {a b e c:Expr} {es:List Expr} {pos p p1 p2:Pos} {fa fb f:FE} {fs:FA} {x:Str}
theorem zab (i:Nat) (hN:X.N[i]? = some x:=by rfl) (hv:Vis X.env.scope x:=by first | exact Or.inl rfl | exact Or.inr (Or.inl rfl) | exact Or.inr (Or.inr rfl)) (hd:(x==("__debug__":Str))=false:=by decide) (hcd:(x==("__classdict__":Str))=false:=by decide):SE X E (.Name x pos) (zaf i):=zqo i hN hv hd hcd
theorem zaj {i:Int} {j:Nat}:SE X E (.Constant (.int i) j pos) (cK (.int i)):=zpR
theorem zny {i:Bool} {j:Nat}:SE X E (.Constant (.bool i) j pos) (cK (.bl i)):=zrX
theorem zdS {op:Operator} {F:D->D->M D} (ho:OpR X (binaryOp op) (zek X.K E F)) (ha:SE X E a fa) (hb:SE X E b fb):SE X E (.BinOp a op b pos) (cOp F fa fb):=zrV ho ha hb
theorem zfl {op:CmpOp} {F:D->D->M D} (ho:OpR X (compareOp op) (zek X.K E F)) (ha:SE X E a fa) (hb:SE X E b fb) (hm:behindInMarks op b=false:=by rfl):SE X E (.Compare a [op] [b] pos) (cOp F fa fb):=zqz ho ha hb hm
theorem zaL {op:CmpOp} {F:D->D->M D} (ho:OpR X (compareOp op) (zek X.K E F)) (ha:SE X E a fa) (hb:SE X E b fb) (hm:behindInMarks op b=false:=by rfl):ST X E (.Compare a [op] [b] pos) (zc2 F fa fb):=zq0 ho ha hb hm
theorem za7 (ha:SE X E a fa) (hb:SE X E b fb) (hs:zgf b:=by intro _ _;rfl):SE X E (.Subscript a b pos) (cOp dIx fa fb):=zsl ztm ha hb hs
theorem zox (ha:SE X E a fa):SE X E (.UnaryOp .USub a pos) (cUn zo2 fa):=zpf ha
theorem zpj (ha:SE X E a fa):SE X E (.UnaryOp .Not a pos) (zrn fa):=zpB ha
theorem ziU {op:BoolOp} (h:SE X E a fa):SE X E (.BoolOp op [a] pos) fa:=zpe h
theorem zol {zbS:List Expr} (ha:SE X E a fa) (hb:SE X E (.BoolOp .And (b::zbS) pos) fb):SE X E (.BoolOp .And (a::b::zbS) pos) (zqD fa fb):=zpK ha hb
theorem zsp {zbS:List Expr} (ha:SE X E a fa) (hb:SE X E (.BoolOp .Or (b::zbS) pos) fb):SE X E (.BoolOp .Or (a::b::zbS) pos) (cOr fa fb):=zsb ha hb
theorem ze1 (h:SE X E e f) (he: ∀ whole,isTrue e X.env whole=(do let v<-whole;standAt e.pos;holding [v] (truthy v)):=by intro _;rfl):ST X E e (zls f):=zqb h he
theorem ziC {t:FT} (ha:ST X E a t):ST X E (.UnaryOp .Not a pos) (zmF t):=zqM ha
theorem zjC {t:FT} (ha:ST X E a t):PW X (.BoolOp .And [a] pos) (zfn X.K E t):=zoV ha
theorem zhi {t:FT} (ha:ST X E a t):PW X (.BoolOp .Or [a] pos) (zfn X.K E t):=zo5 ha
theorem zmK {zbS:List Expr} {t u:FT} (ha:ST X E a t) (hb:PW X (.BoolOp .And (b::zbS) pos) (zfn X.K E u)):PW X (.BoolOp .And (a::b::zbS) pos) (zfn X.K E (zo3 t u)):=zpl ha hb
theorem zhu {zbS:List Expr} {t u:FT} (ha:ST X E a t) (hb:PW X (.BoolOp .Or (b::zbS) pos) (zfn X.K E u)):PW X (.BoolOp .Or (a::b::zbS) pos) (zfn X.K E (tOr t u)):=zrK ha hb
theorem zdP {op:BoolOp} {vs:List Expr} {t:FT} (h:PW X (.BoolOp op vs pos) (zfn X.K E t)):ST X E (.BoolOp op vs pos) t:=znT h
theorem zkA {env:Env} (h: ∀ v p,e≠ .Starred v p):starEach (e::es) env=(false,eval e env)::starEach es env:=by
 cases e<;>first | rfl | exact absurd rfl (h _ _)
theorem zae:SA X E [] zal:=zqV
theorem zaa (ha:SE X E e fa) (hr:SA X E es fs) (hs:starEach (e::es) X.env=(false,eval e X.env)::starEach es X.env:=by exact zkA (fun _ _ z=>nomatch z)):SA X E (e::es) (zad fa fs):=znX ha hr hs
theorem zbk {k} (h:SA X E es fs):SE X E (.Tuple es k pos) (zcV fs):=zpV h
theorem ze7 (h:SA X E es fs):SE X E (.List es pos) (ziW fs):=zqk h
theorem zdZ (h:SA X E es fs):SE X E (.List es pos) (zeX fs):=zoS h
theorem zaK {id:String} {F:List D->M D} (hc:za0 X (.builtin id) (zjm X.K E F)) (hv:bootBuiltins x=some (.builtin id)) (hm:X.mg x=none) (ha:SA X E (e::es) fs) (hg:Gl X x:=by rfl) (hn:x≠"__name__":=by decide) (hdb:(x==("__debug__":Str))=false:=by decide)
  (he:starEach (e::es) X.env=(false,eval e X.env)::starEach es X.env:=by rfl) (hpl:(backTo pos (starEach es X.env)).any (·.1)=false:=by rfl):SE X E (.Call (.Name x p) (e::es) [] pos) (zaF F fs):=zl5 hc hg hm hv ha hn hdb he hpl
theorem zaM {T:String} {F:List D->M D} (hc:za0 X (.type T) (zjm X.K E F)) (hv:bootBuiltins x=some (.type T)) (hm:X.mg x=none) (ha:SA X E (e::es) fs) (hg:Gl X x:=by rfl) (hn:x≠"__name__":=by decide) (hdb:(x==("__debug__":Str))=false:=by decide)
  (he:starEach (e::es) X.env=(false,eval e X.env)::starEach es X.env:=by rfl) (hpl:(backTo pos (starEach es X.env)).any (·.1)=false:=by rfl):SE X E (.Call (.Name x p) (e::es) [] pos) (zaF F fs):=zjT hc hg hm hv ha hn hdb he hpl
theorem zom {T:String} (hk:zjD T) (hvT:bootBuiltins x=some (.type T)) (hm:X.mg "isinstance"=none) (hmT:X.mg x=none) (ha:SE X E a fa) (hg:Gl X "isinstance":=by rfl) (hgT:Gl X x:=by rfl)
  (hn:x≠"__name__":=by decide) (hd:(x==("__debug__":Str))=false:=by decide)
  (h1:starEach [a,.Name x p2] X.env=(false,eval a X.env)::starEach [.Name x p2] X.env:=by rfl) (h2:starEach [.Name x p2] X.env=[(false,eval (.Name x p2) X.env)]:=by rfl)
  (hpl:(backTo pos (starEach [.Name x p2] X.env)).any (·.1)=false:=by rfl):SE X E (.Call (.Name "isinstance" p1) [a,.Name x p2] [] pos) (cUn (zlk T) fa):=zqX hk hg hm hgT hmT hvT ha hn hd h1 h2 hpl
theorem zjE {pos2:Pos} (hc:X.calm=true) (hm1:X.mg "sorted"=none) (hm2:X.mg "set"=none) (he:SE X E e f) (hg1:Gl X "sorted":=by rfl) (hg2:Gl X "set":=by rfl)
  (h1:starEach [.Call (.Name "set" p2) [e] [] pos2] X.env=[(false,eval (.Call (.Name "set" p2) [e] [] pos2) X.env)]:=by rfl) (h2:starEach [e] X.env=[(false,eval e X.env)]:=by rfl):
  SE X E (.Call (.Name "sorted" p1) [.Call (.Name "set" p2) [e] [] pos2] [] pos) (cUn zdX f):=zi5 hc hg1 hm1 hg2 hm2 he h1 h2
theorem zao {k:Nat} {g:Addr} {fd:FuncData} {ps:List Str} {n:Nat} {F:List D->M D} (G:zbM X.prog X.w X.K X.mg X.base CX0 k g fd ps (zch X.K n F)) (hr:zej k X.A) (hm:X.mg x=some (.ref g)) (hk:W.keepIn X.K (.ref g)=true) (hb:zaX X.K fd ps [])
  (ha:SA X E0x (e::es) fs) (hg:Gl X x:=by rfl) (hdb:(x==("__debug__":Str))=false:=by decide) (he:starEach (e::es) X.env=(false,eval e X.env)::starEach es X.env:=by rfl) (hpl:(backTo pos (starEach es X.env)).any (·.1)=false:=by rfl):
  SE X E0x (.Call (.Name x p) (e::es) [] pos) (zaF (zax n F) fs):=znR G hr hg hm hk hb ha hdb he hpl
theorem zcP:SSs X E [] zhy:=zo4
theorem zap {st:Stmt} {g:FS} (h1:SS X E st g):SSs X E [st] g:=zqI h1
theorem zag {st:Stmt} {zbS:List Stmt} {g g':FS} (h1:SS X E st g) (h2:SSs X E zbS g'):SSs X E (st::zbS) (zav g g'):=zoO h1 h2
theorem za1 (he:SE X E e f):SS X E (.Return (some e) pos) (zcq f):=zst he
theorem ziL {ys ns:List Stmt} {t:FT} {g g':FS} (hc:ST X E c t) (ha:SSs X E ys g) (hb:SSs X E ns g'):SS X E (.If c ys ns pos) (sIf t g g'):=ztq hc ha hb
theorem zc8 (he:SE X E e f) (hs:swapsWith e none pos.line X.env=pure false:=by rfl):SS X E (.Expr e pos) (zel f):=zph he hs
theorem zaO (i:Nat) (hN:X.N.Nodup) (he:SE X E e f) (hi:X.N[i]? = some x:=by rfl) (hx:Loc X.env.scope x:=by first | exact Or.inl rfl | exact Or.inr rfl) (hf:X.fn x=true\/X.env.scope.names.lookup x=some .local:=by first | exact Or.inl rfl | exact Or.inr rfl)
  (hs:swapsWith e (some (.Name x p)) pos.line X.env=pure false:=by rfl):SS X E (.Assign [.Name x p] e pos) (zbN i f):=zso i hN hi hx hf he hs
theorem zfX {tg:Expr} {g:D->Sd->M Sd} (he:SE X E e f) (hg:SG X E tg g) (hs:swapsWithSole [tg] e pos.line X.env=pure false:=by rfl) (hw:swappedStores [tg] e X.env=pure none:=by rfl)
  (h1:(assignEach [tg] X.env).map (·.2)=[assign tg X.env]:=by rfl):SS X E (.Assign [tg] e pos) (zj2 f g):=zrN he hg hs hw h1
theorem zah (i:Nat) (hN:X.N.Nodup) (hi:X.N[i]? = some x:=by rfl) (hx:Loc X.env.scope x:=by first | exact Or.inl rfl | exact Or.inr rfl) (hf:X.fn x=true\/X.env.scope.names.lookup x=some .local:=by first | exact Or.inl rfl | exact Or.inr rfl):SG X E (.Name x pos) (zaC i):=znN i hN hi hx hf
theorem zbH:SGs X E [] zbO:=znj
theorem zaB {g:D->Sd->M Sd} {gs:List D->Sd->M Sd} (h1:SG X E e g) (h2:SGs X E es gs) (hs:(assignEach (e::es) X.env).map (·.2)=assign e X.env::(assignEach es X.env).map (·.2):=by rfl):SGs X E (e::es) (zay g gs):=zl2 h1 h2 hs
theorem zcr {k n:Nat} {gs:List D->Sd->M Sd} (hc:X.calm=true) (h:SGs X E es gs) (hn:(assignEach es X.env).length=n:=by rfl) (hst:(assignEach es X.env).findIdx? (·.1)=none:=by rfl):SG X E (.Tuple es k pos) (zbQ n gs):=zqg hc h hn hst
theorem zrb (ho:SE X E a fa) (hi:SE X E b fb) (ha: ∀ v,assign (.Subscript a b pos) X.env v=(do
      let ov<-holding [v] (eval a X.env)
      let iv<-holding [v,ov] (eval b X.env)
      standAt pos
      holding [v,ov,iv] (setItem ov iv v)
      release [v,ov,iv] []):=by intro _;rfl):SG X E (.Subscript a b pos) (zoG fa fb):=zp4 fun hs=>zqt ho hi hs ha
theorem zb4 {tg:Expr} (he:SE X E e f):SI X E tg e (iSq f):=zpD he
theorem zdL {tg:Expr} (hm:X.mg "range"=none) (ha:SA X E [a] fs) (hg:Gl X "range":=by rfl) (hs:starEach [a] X.env=[(false,eval a X.env)]:=by rfl):SI X E tg (.Call (.Name "range" p) [a] [] pos) (zey fs):=zos hg hm ha hs
theorem zge {tg iter:Expr} {body:List Stmt} {fi:FA} {g:D->Sd->M Sd} {gb:FS} (hc:X.calm=true) (hp:PassesOwn (model X.prog X.w) X.A X.env X.xe) (hi:SI X E tg iter fi) (hg:SG X E tg g) (hb:SSs X E body gb)
  (hs: ∀ x,foldedSetIterable iter X.env x=pure x:=by intro _;rfl):SS X E (.For tg iter body [] pos) (zkO fi g gb):=zru hc hp hi hg hb hs
theorem zbT:SCs X E [] (fun _=>pure true):=zpO
theorem zbJ {t:FT} (h:ST X E c t):SCs X E [c] t:=zpP h
theorem zaW {scope:Scope} {N:List Str} {src:List (Option Nat)} {tg iter elt:Expr} {ifs:List Expr} {fi:FA} {g:D->Sd->M Sd} {tc:FT} {te:FE} (hc:X.calm=true) (B:BOk X scope N src) (hk:zaA g src) (hi:SI X E tg iter fi)
  (hg: ∀ s H fp,SG (cxB X scope N s H fp) E tg g) (ht: ∀ s H fp,SCs (cxB X scope N s H fp) E ifs tc) (he: ∀ s H fp,SE (cxB X scope N s H fp) E elt te)
  (hs: ∀ x,foldedSetIterable iter X.env x=pure x:=by intro _;rfl):SE X E (.ListComp elt [⟨tg,iter,ifs,0⟩] scope pos) (zan fi g tc te src):=zoc B hk hi hg ht he hs
theorem zdk {scope:Scope} {N:List Str} {src:List (Option Nat)} {tg iter elt:Expr} {ifs:List Expr} {fi:FA} {g:D->Sd->M Sd} {tc:FT} {te:FE} (i:Nat) {y:Str} {py spos:Pos} (hc:X.calm=true) (hN:X.N.Nodup) (B:BOk X scope N src) (hk:zaA g src) (hi:SI X E tg iter fi)
  (hg: ∀ s H fp,SG (cxB X scope N s H fp) E tg g) (ht: ∀ s H fp,SCs (cxB X scope N s H fp) E ifs tc) (he: ∀ s H fp,SE (cxB X scope N s H fp) E elt te)
  (hy:X.N[i]? = some y:=by rfl) (hx:Loc X.env.scope y:=by first | exact Or.inl rfl | exact Or.inr rfl) (hf:X.fn y=true\/X.env.scope.names.lookup y=some .local:=by first | exact Or.inl rfl | exact Or.inr rfl) (hsw:swapsWith (.ListComp elt [⟨tg,iter,ifs,0⟩] scope pos) (some (.Name y py)) spos.line X.env=pure true:=by rfl)
  (hs: ∀ x,foldedSetIterable iter X.env x=pure x:=by intro _;rfl):SS X E (.Assign [.Name y py] (.ListComp elt [⟨tg,iter,ifs,0⟩] scope pos) spos) (zbN i (zan fi g tc te src)):=zkn i B hk hi hg ht he hN hy hx hf hsw hs
end
theorem zbc.empty {K:W.Frag} {H:Hp}:zbc K ⟨[],[]⟩ H []:=⟨rfl,fun m n a h=>by simp at h,fun n a c h=>by simp at h,fun n h=>by simp at h,fun a h=>by cases h⟩
theorem zsw {K:W.Frag} {F:List D->M D} {H:Hp} {a:Addr} {ns:List Int} (hS:SqL K H a (ns.map V.int)) (hm: ∃ h',F [.scr (ns.map D.int)] []= .ok (.bl true) h'):zch K 1 F [.ref a] H (fun v _=>v= .bl true) fun _ _ _=>False:=by
 obtain ⟨h',e⟩:=hm
 refine ⟨rfl,⟨[],[]⟩,[],[.scr (ns.map D.int)],zas.cons ?_ zas.nil,zbc.empty,?_⟩
 ·simp only [Rel]
  refine ⟨a,ns.map V.int,rfl,?_,zdj.mpr rfl⟩
  rcases hS with h | h
  ·exact .inl ⟨h,fun z=>by rcases z with z | z<;>cases z⟩
  ·exact .inr (.inr h)
 ·rw [e]
  intro ι1 H1 s hr v rv
  simpa [Rel] using rv
section
variable {sd:Sd} {a b:FE} {fs:FA} {t u:FT} {g g':FS} {F:D->D->M D}
@[simp] theorem zex:cOp F a b sd=(do let x<-a sd;let y<-b sd;F x y):=rfl
@[simp] theorem zsq {F:D->M D}:cUn F a sd=(do let x<-a sd;F x):=rfl
@[simp] theorem zcN {F:List D->M D}:zaF F fs sd=(do let ds<-fs sd;F ds):=rfl
@[simp] theorem zhf:zc2 F a b sd=(do let z<-(do let x<-a sd;let y<-b sd;F x y);zdg z):=rfl
@[simp] theorem zqA:zls a sd=(do let x<-a sd;zdg x):=rfl
@[simp] theorem zpX:zmF t sd=(do let c<-t sd;pure (!c)):=rfl
@[simp] theorem zpq:zo3 t u sd=(do let c<-t sd;if c=true then u sd else pure false):=rfl
@[simp] theorem zsf:tOr t u sd=(do let c<-t sd;if c=true then pure true else u sd):=rfl
@[simp] theorem zpL:zqD a b sd=(do let c<-(do let x<-a sd;zdg x);if c=true then b sd else pure (.bl false)):=rfl
@[simp] theorem zr1:cOr a b sd=(do let c<-(do let x<-a sd;zdg x);if c=true then pure (.bl true) else b sd):=rfl
@[simp] theorem zpm:zrn a sd=(do let c<-(do let x<-a sd;zdg x);pure (.bl (!c))):=rfl
@[simp] theorem zsL:cIf t a b sd=(do let c<-t sd;if c=true then a sd else b sd):=rfl
@[simp] theorem zhY {d:D}:cK d sd=pure d:=rfl
@[simp] theorem zb3:zal sd=pure []:=rfl
@[simp] theorem zbp:zad a fs sd=(do let x<-a sd;let r<-fs sd;pure (x::r)):=rfl
@[simp] theorem zkx:zcV fs sd=(do let ds<-fs sd;fits ds.length;pure (.tup ds)):=rfl
@[simp] theorem zic:ziW fs sd=(do let ds<-fs sd;fits ds.length;pure (.lst ds)):=rfl
@[simp] theorem zfV:zeX fs sd=(do let ds<-fs sd;fits ds.length;zbf ds):=rfl
@[simp] theorem zh6:zhy sd=pure (.nx sd):=rfl
@[simp] theorem zb6:zav g g' sd=(do let o<-g sd;zdR o g'):=rfl
@[simp] theorem zde {i:Nat}:zbN i a sd=(do let d<-a sd;pure (.nx (sd.set i (some d)))):=rfl
@[simp] theorem zc6:zcq a sd=(do let d<-a sd;pure (.rt d)):=rfl
@[simp] theorem zlX:sIf t g g' sd=(do let c<-t sd;if c=true then g sd else g' sd):=rfl
@[simp] theorem zkL {fi:FA} {gt:D->Sd->M Sd}:zkO fi gt g sd=(do let ds<-fi sd;zbu (fun x sd=>do let sd1<-gt x sd;g sd1) ds sd):=rfl
@[simp] theorem zm3 {gt:D->Sd->M Sd}:zj2 a gt sd=(do let d<-a sd;let sd'<-gt d sd;pure (.nx sd')):=rfl
@[simp] theorem zhD:zel a sd=(do let _<-a sd;pure (.nx sd)):=rfl
@[simp] theorem zsr:iSq a sd=(do let d<-a sd;zeO d):=rfl
@[simp] theorem ziH:zey fs sd=(do let ds<-fs sd;zj8 ds):=rfl
@[simp] theorem zns {d:D}:zoG a b d sd=(do let x<-a sd;let y<-b sd;zkI x y d;pure sd):=rfl
@[simp] theorem zgp {i:Nat} {d:D}:zaC i d sd=pure (sd.set i (some d)):=rfl
@[simp] theorem zi8:zdR (.nx sd) g=g sd:=rfl
@[simp] theorem zrR {d:D}:zdR (.rt d) g=pure (.rt d):=rfl
@[simp] theorem ztD:zdR (.bk sd) g=pure (.bk sd):=rfl
@[simp] theorem ztE:zdR (.ct sd) g=pure (.ct sd):=rfl
@[simp] theorem zsu:zcS (.nx sd)=pure .non:=rfl
@[simp] theorem zgt {d:D}:zcS (.rt d)=pure d:=rfl
@[simp] theorem zgI {c:Bool}:zdg (.bl c)=pure c:=rfl
@[simp] theorem zsh {lo hi:Sd->M (Option Int)}:cSl a lo hi sd=(do let d<-a sd;let l<-lo sd;let u<-hi sd;dSl d l u):=rfl
@[simp] theorem zoz:ziT sd=pure none:=rfl
@[simp] theorem znD:ziX a sd=(do let d<-a sd;zoR d):=rfl
@[simp] theorem zo6 {i:Int}:zoR (.int i)=pure (some i):=rfl
@[simp] theorem zse {ds:List D} {lo hi:Option Int}:dSl (.tup ds) lo hi=pure (.tup (zjy ds lo hi)):=rfl
@[simp] theorem zrv {ds:List D}:ztl (.tup ds)=pure (.tup ds.reverse):=rfl
@[simp] theorem zrO {i:Int}:zo2 (.int i)=pure (.int (-i)):=rfl
@[simp] theorem zfa {i j:Int}:ze9 (.int i) (.int j)=pure (.int (i+j)):=rfl
@[simp] theorem zpi {xs ys:List D}:ze9 (.tup xs) (.tup ys)=(do fits (xs.length+ys.length);pure (.tup (xs++ys))):=rfl
@[simp] theorem zqL {xs ys:List D}:ze9 (.lst xs) (.lst ys)=(do fits (xs.length+ys.length);pure (.lst (xs++ys))):=rfl
@[simp] theorem zrG {i j:Int}:zoZ (.int i) (.int j)=pure (.int (i - j)):=rfl
@[simp] theorem zs5 {i j:Int}:ztg (.int i) (.int j)=pure (.int (Builtin.bitAnd i j)):=rfl
@[simp] theorem zrg {i j:Int}:dLt (.int i) (.int j)=pure (.bl (decide (i<j))):=rfl
@[simp] theorem zsR {i j:Int}:dLe (.int i) (.int j)=pure (.bl (decide (i<=j))):=rfl
@[simp] theorem zs4 {i j:Int}:dGt (.int i) (.int j)=pure (.bl (decide (j<i))):=rfl
@[simp] theorem ztF {i j:Int}:dGe (.int i) (.int j)=pure (.bl (decide (j<=i))):=rfl
@[simp] theorem zsc {i j:Bool}:zq9 (.bl i) (.bl j)=pure (.bl (i != j)):=rfl
@[simp] theorem zpZ {ds:List D}:zdC [.tup ds]=pure (.int ds.length):=rfl
@[simp] theorem zpW {ds:List D}:zdC [.lst ds]=pure (.int ds.length):=rfl
@[simp] theorem znb {ds:List D}:zdC [.scr ds]=pure (.int ds.length):=rfl
@[simp] theorem zqN {ds:List D}:zbo [.tup ds]=pure (.tup ds):=rfl
@[simp] theorem zmD {ds:List D}:zbo [.lst ds]=pure (.tup ds):=rfl
@[simp] theorem zqF {ds:List D}:zsE [.tup ds]=pure (.lst ds):=rfl
@[simp] theorem zrW {ds:List D}:zeO (.tup ds)=pure ds:=rfl
@[simp] theorem zsJ {ds:List D}:zeO (.lst ds)=pure ds:=rfl
@[simp] theorem zoi {F:List D->M D} {x:D}:zax 1 F [x]=F [x]:=rfl
@[simp] theorem zcF {F:List D->M D} {x y:D}:zax 2 F [x,y]=F [x,y]:=rfl
@[simp] theorem zoX {F:List D->M D} {x y z:D}:zax 3 F [x,y,z]=F [x,y,z]:=rfl
@[simp] theorem zcm {body:D->Sd->M Out}:zbu body [] sd=pure (.nx sd):=rfl
theorem zcA {body:D->Sd->M Out} {x:D} {r:List D}:zbu body (x::r) sd=(do let o<-body x sd;match o with | .nx sd'=>zbu body r sd' | .ct sd'=>zbu body r sd' | .bk sd'=>pure (.nx sd') | .rt d=>pure (.rt d)):=rfl
@[simp] theorem zjO {gs:List D->Sd->M Sd} {x y:D}:zbQ 2 gs (.tup [x,y]) sd=gs [x,y] sd:=rfl
@[simp] theorem zjW:zbO [] sd=pure sd:=rfl
@[simp] theorem zhW {gt:D->Sd->M Sd} {gs:List D->Sd->M Sd} {x:D} {r:List D}:zay gt gs (x::r) sd=(do let sd1<-gt x sd;gs r sd1):=rfl
@[simp] theorem zpn {n:Nat} {k:Int} {d:D}:zkI (.cel n) (.int k) d=(do let ds<-zam n;let j<-ofO (ixN ds.length k);zbU n (ds.set j d)):=rfl
@[simp] theorem zsd {ds:List D} {i:Int}:dIx (.tup ds) (.int i)=ofO (atI ds i):=rfl
@[simp] theorem zod {ds:List D} {i:Int}:dIx (.lst ds) (.int i)=ofO (atI ds i):=rfl
@[simp] theorem zsD {ds:List D} {i:Int}:dIx (.scr ds) (.int i)=ofO (atI ds i):=rfl
@[simp] theorem zlY {n:Nat} {i:Int}:dIx (.cel n) (.int i)=(do let ds<-zam n;ofO (atI ds i)):=rfl
@[simp] theorem ziQ {α:Type} {x:α}:ofO (some x)=pure x:=rfl
@[simp] theorem zqm {x:D} {r:List D}:atI (x::r) 0=some x:=by unfold atI ixN;simp
@[simp] theorem zsm {x y:D} {r:List D}:atI (x::y::r) 1=some y:=by
 have:=zdl (xs:=x::y::r) (j:=1) (v:=y) rfl
 simpa using this
end
theorem zaP {n:Nat} (h:n<=1000):fits n=pure ():=by
 unfold fits
 rw [qa4 (qaS h (by decide))]
theorem zmg {i j:Int} (h:(zbg i || zbg j)=true):zo8 (.int i) (.int j)=pure (.int (i*j)):=by
 show (if (zbg i || zbg j)=true then _ else _)=_
 rw [qa4 h]
theorem zgg {i:Int} (h: -1000000000000000<i) (h':i<1000000000000000):zbg i=true:=by unfold zbg;simp;omega
theorem zqT {i j:Int} (h: -1000000000000000<i) (h':i<1000000000000000):zo8 (.int i) (.int j)=pure (.int (i*j)):=zmg (by rw [zgg h h'];rfl)
theorem zhF {i j:Int} (h:0<j):zqR (.int i) (.int j)=pure (.int (i % j)):=by
 show (if (decide (0<j))=true then _ else _)=_
 rw [qa4 (by simpa using h)]
theorem zlt {i j:Int} (h:0<j) (h':j<2^64):zoU (.int i) (.int j)=pure (.int (i / j)):=by
 show (if (decide (0<j) && decide (j<2^64))=true then _ else _)=_
 rw [qa4 (by rw [qaG];exact ⟨by simpa using h,by simpa using h'⟩)]
theorem zmN {i j:Int}:dEq (.int i) (.int j)=pure (.bl (i==j)):=by
 unfold dEq zjX
 simp only [pd]
 rw [qa4 (show zfk (.int i) (.int j)=true from rfl)]
 rfl
def wp {α:Type} (m:M α) (h:Hh) (P:α->Hh->Prop):Prop:= ∃ a h',m h= .ok a h'/\P a h'
section
variable {α β:Type} {h:Hh} {P P':α->Hh->Prop}
theorem zak {a:α}:wp (pure a:M α) h P↔P a h:=⟨fun ⟨b,h',e,q⟩=>by cases (show R.ok a h=R.ok b h' from e);exact q,fun q=>⟨a,h,rfl,q⟩⟩
theorem zar {m:M β} {f:β->M α}:wp (m>>=f) h P↔wp m h fun b h'=>wp (f b) h' P:=by
 constructor
 ·rintro ⟨a,h',e,q⟩
  have e:M.bind m f h= .ok a h':=e
  unfold M.bind at e
  cases z:m h with
  | ok b h1=>rw [z] at e;exact ⟨b,h1,z,a,h',e,q⟩
  | exc c h1=>rw [z] at e;cases e
  | bad=>rw [z] at e;cases e
 ·rintro ⟨b,h1,e,a,h',e2,q⟩
  refine ⟨a,h',?_,q⟩
  show M.bind m f h=_
  unfold M.bind
  rw [e]
  exact e2
theorem zeY {m:M α} (q:wp m h P) (k: ∀ a h',P a h'->P' a h'):wp m h P':=by
 obtain ⟨a,h',e,q⟩:=q
 exact ⟨a,h',e,k _ _ q⟩
theorem za4 {n:Nat} {ds:List D} {P:List D->Hh->Prop} (e:h[n]? = some (.lst ds)):wp (zam n) h P↔P ds h:=by
 unfold wp zam
 rw [e]
 exact ⟨fun ⟨b,h',e,q⟩=>by cases e;exact q,fun q=>⟨_,_,rfl,q⟩⟩
theorem zdc {n:Nat} {ds:List D} {P:Unit->Hh->Prop}:wp (zbU n ds) h P↔P () (h.set n (.lst ds)):=⟨fun ⟨b,h',e,q⟩=>by cases (show R.ok () (h.set n (.lst ds))=R.ok b h' from e);exact q,fun q=>⟨_,_,rfl,q⟩⟩
theorem zgR {ds:List D} {P:D->Hh->Prop}:wp (zbf ds) h P↔P (.cel h.length) (h++[.lst ds]):=⟨fun ⟨b,h',e,q⟩=>by cases (show R.ok (D.cel h.length) (h++[C.lst ds])=R.ok b h' from e);exact q,fun q=>⟨_,_,rfl,q⟩⟩
end
theorem zfE {f:D->M (Option D)} {k:D->Option D}: ∀ {ds:List D},(∀ x∈ds,f x=pure (k x))->zbX f ds=pure (ds.filterMap k)
 | [],_=>rfl
 | x::r,hf=>by
  rw [zbX,hf x qau,zfE fun y hy=>hf y (qan _ hy)]
  simp only [pure_bind]
  cases e:k x<;>simp [qat,e]
theorem ziM {fi:FA} {g:D->Sd->M Sd} {tc:FT} {te:FE} {src:List (Option Nat)} {sd:Sd} {ds:List D} {k:D->Option D} (hi:fi sd=pure ds) (hl:ds.length<=1000) (hf: ∀ x∈ds,zaZ g tc te (zai src sd) x=pure (k x)):zan fi g tc te src sd=pure (.lst (ds.filterMap k)):=by
 unfold zan
 rw [hi]
 simp only [pure_bind]
 rw [zaP hl]
 simp only [pure_bind]
 rw [zfE hf]
 simp only [pure_bind]
theorem zjN {fi:FA} {g:D->Sd->M Sd} {tc:FT} {te:FE} {src:List (Option Nat)} {sd:Sd} {ds:List D} {k:D->D} (hi:fi sd=pure ds) (hl:ds.length<=1000) (hf: ∀ x∈ds,zaZ g tc te (zai src sd) x=pure (some (k x))):zan fi g tc te src sd=pure (.lst (ds.map k)):=by
 rw [ziM (k:=fun x=>some (k x)) hi hl hf]
 simp
theorem zig: ∀ bs:List Bool,znd (bs.map D.bl)=some bs
 | []=>rfl
 | b::r=>by rw [qaM,znd,zig r];rfl
theorem zgo: ∀ bs:List Int,zgG (bs.map D.int)=some bs
 | []=>rfl
 | b::r=>by rw [qaM,zgG,zgo r];rfl
theorem zju (bs:List Bool):zrr [.lst (bs.map D.bl)]=pure (.bl (bs.all id)):=by
 show (do let bs<-ofO (znd (bs.map D.bl));pure (.bl (bs.all id)):M D)=_
 rw [zig]
 rfl
noncomputable def kn:D->Bool
 | .non | .bl _ | .int _ | .str _ | .tup _ | .lst _ | .dct=>true
 | _=>false
noncomputable def isT:D->Bool
 | .tup _=>true
 | _=>false
theorem zmU {d:D} (k:kn d=true):zlk "tuple" d=pure (.bl (isT d)):=by
 cases d<;>simp [kn] at k<;>simp [zlk,tyD,isB,isT]
mutual
noncomputable def zkP:D->Bool
 | .non | .bl _ | .int _=>true
 | .str x=>PyData.strOk x
 | .tup ds=>decide (ds.length<64) && zhK ds
 | .lst ds=>decide (ds.length<64) && zhK ds
 | _=>false
noncomputable def zhK:List D->Bool
 | []=>true
 | d::r=>zkP d && zhK r
end
mutual
theorem znt: ∀ {d:D},zkP d=true-> ∃ p,pd d=some p/\p.canLay0=true
 | .non,_=>⟨.none,rfl,rfl⟩
 | .bl b,_=>⟨.bool b,rfl,rfl⟩
 | .int i,_=>⟨.int i,rfl,rfl⟩
 | .str x,g=>⟨.str x,rfl,by simpa [zkP,PyData.canLay0] using g⟩
 | .tup ds,g=>by
  have g2:zhK ds=true:=by simp [zkP] at g;exact g.2
  obtain ⟨ps,e,c⟩:=zf8 g2
  exact ⟨.tuple ps,by unfold pd;rw [e];rfl,c⟩
 | .lst ds,g=>by
  have g2:zhK ds=true:=by simp [zkP] at g;exact g.2
  obtain ⟨ps,e,c⟩:=zf8 g2
  exact ⟨.list ps,by unfold pd;rw [e];rfl,c⟩
 | .cel _,g=>by simp [zkP] at g
 | .set _,g=>by simp [zkP] at g
 | .dct,g=>by simp [zkP] at g
 | .fn _,g=>by simp [zkP] at g
 | .scr _,g=>by simp [zkP] at g
 | .exn _,g=>by simp [zkP] at g
theorem zf8: ∀ {ds:List D},zhK ds=true-> ∃ ps,pdL ds=some ps/\PyData.canLayAll0 ps=true
 | [],_=>⟨[],rfl,rfl⟩
 | d::r,g=>by
  simp [zhK] at g
  obtain ⟨p,e,c⟩:=znt g.1
  obtain ⟨ps,e2,c2⟩:=zf8 g.2
  exact ⟨p::ps,by unfold pdL;rw [e,e2],by simp [PyData.canLayAll0,c,c2]⟩
end
theorem zbi: ∀ xs:List Int,pdL (xs.map D.int)=some (xs.map PyData.int)
 | []=>rfl
 | x::r=>by rw [qaM,pdL,zbi r];rfl
theorem zaJ: ∀ xs:List Int,PyData.canLayAll0 (xs.map PyData.int)=true
 | []=>rfl
 | x::r=>by simp [PyData.canLayAll0,PyData.canLay0,zaJ r]
theorem zaU: ∀ xs:List Int,PyData.depthAll (xs.map PyData.int)=0
 | []=>rfl
 | x::r=>by simp [PyData.depthAll,PyData.depth,zaU r]
theorem zcs: ∀ xs ys:List Int,PyData.eqvAll (xs.map PyData.int) (ys.map PyData.int)=(xs==ys)
 | [],[]=>rfl
 | [],_::_=>rfl
 | _::_,[]=>rfl
 | x::xs,y::ys=>by
  simp only [qaM,PyData.eqvAll,PyData.eqv,zcs xs ys]
  rfl
theorem zed (k:Int): ∀ xs:List Int,((xs.map PyData.int).any fun y=>PyData.eqv y (.int k))=xs.any (· == k)
 | []=>rfl
 | x::r=>by simp only [qaM,List.any_cons,zed k r];rfl
theorem zef (k:Int) (xs:List Int):dIn (.int k) (.tup (xs.map D.int))=pure (.bl (xs.any (· == k))):=by
 show zjp false (.int k) (.tup (xs.map D.int))=_
 unfold zjp
 simp only [pd]
 rw [zbi]
 have c:ziZ (.int k) (xs.map PyData.int)=true:=by
  unfold ziZ
  simp [PyData.canLay0,zaJ,PyData.depth,zaU]
 simp only [c,if_true,zed]
 rfl
end L3
namespace L2
open PySem PySem.Spec PyProof.Rows LT
section
variable {X:Cx}
theorem zgO:za0 X (.builtin "divmod") (fun xs H Q=> ∃ i j:Int,xs=[.int i,.int j]/\0<j/\j<2^100/\ ∀ p,H p=none->Q (.ref p) (upd H p (.tup [.int (i / j),.int (i % j)]))):=by
 intro pins s σ H xs us Q I r h
 obtain ⟨i,j,rfl,h0,h1,q⟩:=h
 cases r with
 | cons r1 r2=>
  cases r2 with
  | cons r3 r4=>
   cases r4
   obtain ⟨t,rfl⟩:=r1
   obtain ⟨u,rfl⟩:=r3
   refine divmod_int (by omega) ?_ (.inl (PyProof.noPylong_of_log2 ?_))
   ·refine ⟨.ref s.heap.objs.size,_,I.laid (t':=s.toks+1+1) (o:= .tup [.int (i / j),.int (i % j)]) (fun b ob q=>qag _ q) (qaV _) ?_,rfl,q _ (I.hok.fresh (qaV _))⟩
    refine ⟨by show 2<=sizeLine;decide,[.int (i.fdiv j) s.toks,.int (i.fmod j) (s.toks+1)],.cons ⟨s.toks,by rw [Int.fdiv_eq_ediv_of_nonneg _ (by omega)]⟩ (.cons ⟨s.toks+1,by rw [Int.fmod_eq_emod_of_nonneg _ (by omega)]⟩ .nil),IsTup.new _ _⟩
   ·have h1:j.natAbs<2^100:=by omega
    have h0:j.natAbs≠0:=by omega
    exact Nat.lt_trans ((Nat.log2_lt h0).mpr h1) (by decide)
end
end L2
namespace L3
open PySem PySem.Spec PyProof.Rows L2 LT
section
variable {X:Cx} {E:XE} {a b c o e:Expr} {pos apos cpos:Pos} {fa fb fc fo fe:FE}
noncomputable def zeT:List D->M D
 | [.int i,.int j]=>if 0<j/\j<2^100 then pure (.tup [.int (i / j),.int (i % j)]) else M.bad
 | _=>M.bad
theorem zha:za0 X (.builtin "divmod") (zjm X.K E zeT):=by
 refine za0.imp zgO fun xs H Q ⟨ι,h,ds,rl,hr,q⟩=> ?_
 unfold zeT at q
 split at q
 ·simp only [zas,Rel] at rl
  obtain ⟨v,r,rfl,rfl,v',r',rfl,rfl,rfl⟩:=rl
  obtain ⟨⟨c1,c2⟩,q⟩:=Fin.guard q
  refine ⟨_,_,rfl,c1,c2,fun p hp=>zn5 hr ?_ q hp⟩
  exact zas.cons (by simp [Rel]) (zas.cons (by simp [Rel]) zas.nil)
 ·exact qa0 q
noncomputable def zb2:D->M Unit
 | .cel n=>do let _<-zam n;pure ()
 | _=>M.bad
noncomputable def zba (x y:D):M D:=match x with
 | .cel n=>do
  let ds<-zam n
  fits (ds.length+1)
  zbU n (ds++[y])
  pure .non
 | _=>M.bad
noncomputable def za5 (fo fe:FE):FE:=fun sd=>do
 let x<-fo sd
 zb2 x
 let y<-fe sd
 zba x y
theorem zf5 {α:Type} {K:W.Frag} {ι:Io} {H:Hp} {h:Hh} {n:Nat} {f:List D->M α} {P:α->Io->Hp->Prop} (q:Fin K E ι H ((zam n>>=f) h) P): ∃ ds,h[n]? = some (.lst ds)/\Fin K E ι H (f ds h) P:=by
 have q':Fin K E ι H (M.bind (zam n) f h) P:=q
 unfold M.bind at q'
 cases z:zam n h with
 | bad=>rw [z] at q';exact qa0 q'
 | exc c h'=>unfold zam at z;split at z<;>cases z
 | ok ds h'=>
  rw [z] at q'
  obtain ⟨rfl,z2⟩:=zcQ z
  exact ⟨ds,z2,q'⟩
theorem zct (ho:SE X E o fo) (he:SE X E e fe)
  (hbase:attributeBase o "append" X.env (eval o X.env)=eval o X.env:=by rfl)
  (hfew:((backTo cpos (starEach [e] X.env)).all (fun x=> !x.1) && (backToKw cpos (keywordEach [] X.env)).all (fun x=>x.1.isSome)
    && decide (([e]:List Expr).length+([]:List Keyword).length+(if ([]:List Keyword).isEmpty then 0 else 1)<30))=true:=by rfl)
  (hline:(apos.endLine==cpos.line)=true:=by rfl) (hs:starEach [e] X.env=(false,eval e X.env)::starEach [] X.env:=by rfl) (hplain:(backTo cpos (starEach [] X.env)).any (·.1)=false:=by rfl):
  SE X E (.Call (.Attribute o "append" apos) [e] [] cpos) (za5 fo fe):=by
 refine PE.imp (zpr PySem.F.plainAttrs_list PySem.F.slot_list_append PySem.F.type_list_append zg6 ho (zbE he zcM hs) hbase hfew hline hs hplain) fun σ H Q ⟨ι,h,sd,L,hh,q⟩=>⟨ι,h,sd,L,hh,Fin.bind q fun d h1 ι1 H1 e1 s1 hr1 q1 v rv=> ?_⟩
 cases d with
 | cel n=>
  have q2:Fin X.K E ι1 H1 ((zam n>>=fun _=>fe sd>>=fun y=>zba (.cel n) y) h1) (fun d ι' H'=> ∀ v,Rel X.K ι' H' d v->Q v H'):=by
   have ee:(zb2 (.cel n)>>=fun _=>fe sd>>=fun y=>zba (.cel n) y:M D)=(zam n>>=fun _=>fe sd>>=fun y=>zba (.cel n) y):=by
    show ((zam n>>=fun _=>pure ())>>=fun _=>fe sd>>=fun y=>zba (.cel n) y)=_
    simp only [bind_assoc,pure_bind]
   rw [<- ee]
   exact q1
  obtain ⟨ds,e2,q3⟩:=zf5 q2
  obtain ⟨a,vs,rfl,hn,hH,rl⟩:=hr1.read rv e2
  refine ⟨.inl ⟨rfl,vs,SqL.of hH⟩,ι1,h1,sd,L.step s1,hr1,Fin.bind q3 fun y h3 ι3 H3 e3 s3 hr3 q4 w rw'=> ?_⟩
  have rv3:=rv.step s3
  have q5:Fin X.K E ι3 H3 ((zam n>>=fun ds=>fits (ds.length+1)>>=fun _=>zbU n (ds++[y])>>=fun _=>pure D.non) h3) (fun d ι' H'=> ∀ v,Rel X.K ι' H' d v->Q v H'):=q4
  obtain ⟨ds3,e4,q6⟩:=zf5 q5
  obtain ⟨a3,vs3,ea,hn3,hH3,rl3⟩:=hr3.read rv3 e4
  cases ea
  obtain ⟨z,q7⟩:=Fin.fits q6
  refine ⟨a,vs3,w,rfl,rfl,hH3,by rw [<- rl3.length];omega,?_⟩
  have q8:Fin X.K E ι3 H3 (R.ok D.non (h3.set n (.lst (ds3++[y])))) (fun d ι' H'=> ∀ v,Rel X.K ι' H' d v->Q v H'):=q7
  exact q8 ι3 _ (hr3.cellS hn3) (hr3.cell hn3 (rl3.append (zas.cons rw' zas.nil))) _ (by simp [Rel])
 | _=>exact qa0 q1
end
end L3
namespace Att
open PySem PySem.W PySem.Calls PyProof.Rows
theorem zfI: ∀ {ns:List Int} {i:Int},i∈ns->Builtin.Int.intBits i<=WData.weightAll (ns.map WData.int)
 | n::r,i,h=>by
  rw [qaM,WData.weightAll]
  rcases qaP.mp h with e | e
  ·subst e
   have:WData.weight (.int i)=Builtin.Int.intBits i:=by simp only [WData.weight,Builtin.Int.intBits]
   omega
  ·have:=zfI e
   omega
theorem znS {ns:List Int} (h:WData.layableAll [WData.list (ns.map WData.int)]=true): ∀ i∈ns,Builtin.Int.intBits i<=2^20:=by
 intro i hi
 have h2:WData.weight (WData.list (ns.map WData.int))<=2^20:=by
  simp only [WData.layableAll,List.all_cons,List.all_nil,Bool.and_true,WData.layable,qaG,qaD] at h
  exact h.2
 have h3:WData.weight (WData.list (ns.map WData.int))=WData.weightAll (ns.map WData.int):=by simp only [WData.weight]
 have:=zfI hi
 omega
theorem zg2 {l:OpenLaw} {n:Nat} {q:Program} {loose:List Str} {XP:(Str->Option Value)->Heap->Prop} {YP:World->Heap->Prop} {d:DefRec}
  (hn:l.most=some n) (hdf:d.params.defaults=[])
  (call: ∀ (w:World) (s₀ s₁:Shared) (mg mb:Str->Option Value) (fa:Addr) (o:Obj) (pm cd doc:Value) (a:Addr) (vs:List Value) (ns:List Int),
    Ground q loose [] XP w s₀ mg mb s₁.heap->YP w s₁.heap->
    s₁.heap.get? fa=some o->o.data= .func (docDef d.name d.params d.body d.scope pm cd doc)->s₁.heap.CodeRec cd d.name->mg d.name=some (.ref fa)->
    s₁.heap.get? a=some {cls:= .type "list",data:= .seq vs.toArray}->IntsAre vs ns->ns.length<=n->(∀ i∈ns,Builtin.Int.intBits i<=2^20)->s₁.gens= #[]->
    codeAny (model l.prog w) callerA (.call (.ref fa) ⟨[.ref a],[]⟩) (fun r s'=>r= .ok (.ret (.bool true))/\OldK s₁.heap s'.heap/\s'.os=s₁.os/\AllBare s'.gens) s₁):
  WalkO q loose XP YP l.row.toRowW d [] (fun f vs=>PySem.call f vs):=by
 intro w s₀ s₁ mg mb G Y fa o pm cd doc dV kV ho hd hcd hD hmg hg args vals as hpre hlay hrd hwl hlo
 obtain rfl:dV= .none:=Dflts.none hD hdf
 obtain rfl:kV= .none:=Dflts.noKw hD
 obtain ⟨a,vs,ns,rfl,rfl,hobj,hints,hlen⟩:=zjw hn hpre hwl
 refine enter_call (codeAny_mono (call w s₀ s₁ mg mb fa o pm cd doc a vs ns G Y ho (fd_plain hd) hcd hmg hobj hints hlen (znS hlay) hg) fun r s' hq=> ?_)
 obtain ⟨rfl,h2,h3,h4⟩:=hq
 exact ⟨.inl ⟨.bool true,.bool true,[],rfl,fun _=>rfl,.bool true,zjr l _,fun _=>⟨List.Pairwise.nil,fun _ hm=>(nomatch hm)⟩⟩,h2,h3,h4⟩
end Att
namespace L2
open PySem PySem.Spec PyProof.Rows
theorem zlx {l:W.OpenLaw} {n k:Nat} {q:Program} {loose:List Str} {XP:(Str->Option Value)->Heap->Prop} {YP:World->Heap->Prop} {d:DefRec} {K:Params->W.Frag} {CX:World->CXT} {sp:World->Sp} {x:Str}
  (hn:l.most=some n) (hn2:n<=sizeLine) (hdf:d.params.defaults=[]) (hr:zej k callerA)
  (hY: ∀ (w:World) (h:Heap),YP w h->(K w.params).In h)
  (F: ∀ (w:World) (mg:Str->Option Value) (fa:Addr) (h:Heap),(K w.params).In h->h.Ns mainGlobals mg->mg d.name=some (.ref fa)->
    ∃ fd:FuncData,(∀ (s:Shared) (u:Value),BindsTo s fd ⟨[u],[]⟩ [(x,u)])/\
      ∀ base:Heap,(K w.params).In base->base.Ns mainGlobals mg->zbM l.prog w (K w.params) mg base (CX w) k fa fd [x] (sp w))
  (hsp: ∀ (w:World) (H:Hp) (a:Addr) (ns:List Int),ns.length<=n->(∀ i∈ns,Builtin.Int.intBits i<=2^20)->SqL (K w.params) H a (ns.map V.int)->sp w [.ref a] H (fun v _=>v= .bl true) fun _ _ _=>False)
  (hCX: ∀ (w:World) (H:Hp) (s:Shared) (e:Value) (s':Shared),CX w [] H s (fun _ _ _=>False) e s'->False):
  W.WalkO q loose XP YP l.row.toRowW d [] (fun f vs=>PySem.call f vs):=by
 refine Att.zg2 hn hdf fun w s₀ s₁ mg mb fa o pm cd doc a vs ns G Y ho hd hcd hmg hobj hints hlen hbits hg=> ?_
 have KX:=hY w _ Y
 obtain ⟨fd,hb,hF⟩:=F w mg fa _ KX G.T.g hmg
 exact zlQ KX G.T.g G.T.b G.T.builtins G.T.nolimit hg hobj hints (qaS hlen hn2) hr hF hb (fun H hO hS=>hsp w H a ns hlen hbits hS) fun H e s'=>hCX w H s₁ e s'
end L2
namespace L3
open PySem PySem.Spec PyProof.Rows L2 LT
section
variable {X:Cx} {E:XE}
noncomputable def zgK (i j:Int):Bool:=decide (Builtin.Int.intBits i+Builtin.Int.intBits j<=2^26)
theorem zj0 {i j:Int} (h:zgK i j=true):IntMulOk i j:=by
 unfold zgK at h
 rw [qaD] at h
 unfold IntMulOk
 intro z
 rw [qaG] at z
 have z2:=z.2
 unfold Builtin.Int.intTooBig at z2
 have hb:bitsLine=2^27:=rfl
 rw [qaD,hb] at z2
 omega
theorem zoL:OpR X (binaryOp .Mult) (rI (fun i j=>IntMulOk i j) fun i j=> .int (i*j)):=opI fun _ _ _ _ _ _ _ hc q=>mul_int q hc
noncomputable def zgl:=dII (fun i j=>zbg i || zbg j || zgK i j) fun i j=> .int (i*j)
theorem zeR:OpR X (binaryOp .Mult) (zek X.K E zgl):=zlF (zoL) (fun i j h=>by
  rw [Bool.or_eq_true] at h
  rcases h with h | h
  · rcases (Bool.or_eq_true _ _).mp h with z | z
    · have:=zc1 z
      exact IntMulOk.of_left (intBits_le_64 this.1 this.2)
    · have:=zc1 z
      exact IntMulOk.of_right (intBits_le_64 this.1 this.2)
  · exact zj0 h) fun _ _ _ _=>by simp [Rel]
end
end L3
namespace PySem
open Sem (wp)
open AutoSeq1 (wpAny_loadPart')
section
variable {prog:Program} {w:World} {A:Around} {E:Value->Shared->Prop} {s:Shared}
theorem zgh {Q:List Value->Shared->Prop} {r:Addr} {a b c:Int} {t u v:Tok} {n:Nat} (hh:A.handled=none) (hr:IsRange s.heap r a b c t u v) (hsmall:Builtin.Range.small a b c=true)
  (hn:Builtin.Range.rangeSize a b c=n) (hlen:n<=2^24)
  (hQ: ∀ h' tk acc,(∀ b o,s.heap.get? b=some o->h'.get? b=some o)->ItemsOf (fun i v=> ∃ t,v= .int (a+i*c) t) acc n->Q acc.toList {s with heap:=h',toks:=tk}):
  wpAny (model prog w) A (collect (.ref r)) Q E s:=by
 unfold collect
 refine qaW (wpAny_runValue (codeAny_builtin F.entry_proto_collect ?_))
 rw [qap F.plain_proto_collect _]
 show wpAny _ A.in1 (newList []>>=fun l=>again (.builtin "list.__iadd__" ⟨[l,.ref r],[]⟩)) _ _ s
 refine qaW (qaC ?_)
 refine qaX ⟨plainId_quiet F.plain_list_iadd _,codeAny_builtin F.entry_list_iadd ?_⟩
 rw [qap F.plain_list_iadd _]
 show wpAny _ A.in1 (Builtin.List.listExtendWith (.ref s.heap.objs.size) (.ref r) (.ref s.heap.objs.size)) _ _ _
 have hS:(s.heap.push {cls:= .type "list",data:= .seq ([]:List Value).toArray}).get? s.heap.objs.size=some {cls:= .type "list",data:= .seq #[] 0}:=qar _ rfl
 have zsB: ∀ (h':Heap) (tk:Nat) (acc:Array Value) (c':Nat),(∀ b o,b≠s.heap.objs.size->(s.heap.push {cls:= .type "list",data:= .seq ([]:List Value).toArray}).get? b=some o->h'.get? b=some o)->h'.get? s.heap.objs.size=some {cls:= .type "list",dict:=none,data:= .seq acc c',slots:= #[]}->
   ItemsOf (fun i v=> ∃ t,v= .int (a+i*c) t) acc n->wpAny (model prog w) A (match Value.ref s.heap.objs.size with
   | Value.ref a=>do
     match (<- load a).data with
       | Data.seq xs _=>pure xs.toList
       | _=>unsupported "internal:collect"
   | _=>unsupported "internal:collect") Q E {s with heap:=h',toks:=tk}:=fun h' tk acc c' hk hS' hacc=>by
  show wpAny _ A (load s.heap.objs.size>>=_) _ _ _
  refine qaW (wpAny_load hS' ?_)
  refine qaX ?_
  exact hQ h' tk acc (fun b o e=>hk b o (qaR (qaQ e)) (qag _ e)) hacc
 refine qaZ (wpAny_extend_range (A:=A) (s:={s with heap:=s.heap.push {cls:= .type "list",data:= .seq ([]:List Value).toArray}}) (R:=fun res s'=>res= .ok (.ret (.ref s.heap.objs.size))/\ ∃ (h':Heap) (tk:Nat) (acc:Array Value) (c':Nat),s'={s with heap:=h',toks:=tk}/\
     (∀ b o,b≠s.heap.objs.size->(s.heap.push {cls:= .type "list",data:= .seq ([]:List Value).toArray}).get? b=some o->h'.get? b=some o)/\h'.get? s.heap.objs.size=some {cls:= .type "list",dict:=none,data:= .seq acc c',slots:= #[]}/\ItemsOf (fun i v=> ∃ t,v= .int (a+i*c) t) acc n)
   hh (qag _ hr) hsmall hn hlen s.heap.objs.size (.ref s.heap.objs.size) 0 hS fun h' tk acc c' hk hS' hacc=>⟨rfl,h',tk,acc,c',rfl,hk,hS',hacc⟩) (fun fin s' h=> ?_) (fun e s' h=> ?_)
 ·cases fin with
  | done f=>
   obtain ⟨e,h',tk,acc,c',rfl,hk,hS',hacc⟩:=h
   cases e
   exact zsB h' tk acc c' hk hS' hacc
  | again c'=>exact ⟨h.1,codeAny_mono h.2 fun r s'' hr=>by obtain ⟨rfl,h',tk,acc,c',rfl,hk,hS',hacc⟩:=hr;exact zsB h' tk acc c' hk hS' hacc⟩
 ·exact absurd h.1 (by simp)
end
theorem zdd (l:Addr) (a b c:Int) (t u v:Tok) (n:Nat) (hsmall:Builtin.Range.small a b c=true) (hn:Builtin.Range.rangeSize a b c=n) (hlen:n<=2^24):
  Meets (Builtin.«tuple.__new__» ⟨[.type "tuple",.ref l],[]⟩)
   (fun A R s=>A.in1.handled=none/\IsRange s.heap l a b c t u v/\ ∀ (h':Heap) (tk:Nat) (acc:Array Value),(∀ b o',s.heap.get? b=some o'->h'.get? b=some o')->ItemsOf (fun i v=> ∃ t,v= .int (a+i*c) t) acc n->R (.ok (.ret (.ref h'.objs.size))) {s with heap:=h'.push {cls:= .type "tuple",data:= .seq acc},toks:=tk}):=
 .of_wp fun prog w A R s h=>by
  obtain ⟨hp,g,d,tk,os⟩:=s;obtain ⟨hh,ht,h⟩:=h
  have hsub:=sub_tuple_self
  have hinit:=init_tuple_lookup
  have hmh:=madeHere_tuple
  have hT:Shared.TypeIs ⟨hp,g,d,tk,os⟩ (.ref l) "range":=⟨_,ht,rfl⟩
  wp_walk using wpAny_loadPart' ht,wpAny_typeOf hT,zgh hh ht hsmall hn hlen
  intro h' tk' acc hk hacc
  show wpAny _ _ (Builtin.Tuple.tupleExact acc.toList.toArray>>=fun v=>ret v) _ _ _
  unfold Builtin.Tuple.tupleExact
  have hsz:acc.size<=sizeLine:=by
   have:acc.size=n:=hacc.1
   have:sizeLine=2^24:=rfl
   omega
  refine qaW (qaC ?_ (by show acc.toList.toArray.size<=sizeLine;simpa using hsz))
  refine qaX ⟨_,rfl,?_⟩
  have e:acc.toList.toArray=acc:=by simp
  rw [e]
  exact h h' tk' acc hk hacc
end PySem
namespace L2
open PySem PySem.Spec PyProof.Rows LT
theorem zdN: ∀ (ns:List Int) (us:List Value),ns.length=us.length->(∀ (j:Nat) u,us[j]? = some u-> ∃ t,u=Value.int (ns.getD j 0) t)->za6 (ns.map V.int) us
 | [],[],_,_=> .nil
 | [],_::_,h,_=>by cases h
 | _::_,[],h,_=>by cases h
 | n::ns,u::us,h,hg=>by
  refine .cons ?_ (zdN ns us (by simpa using h) fun j w e=> ?_)
  ·obtain ⟨t,e⟩:=hg 0 u rfl
   exact ⟨t,by simpa using e⟩
  ·obtain ⟨t,e⟩:=hg (j+1) w (by simpa using e)
   exact ⟨t,by simpa using e⟩
section
variable {X:Cx}
theorem zeW:za0 X (.type "range") (fun xs H Q=> ∃ j:Int,xs=[.int j]/\ ∀ p,H p=none->Q (.ref p) (upd H p (.rng 0 j))):=by
 intro pins s σ H xs us Q I r h
 obtain ⟨j,rfl,q⟩:=h
 obtain ⟨u,rfl,rx⟩:=zeB r
 obtain ⟨t,rfl⟩:=rx
 refine call_range_1 ?_
 exact ⟨.ref s.heap.objs.size,_,I.laid (t':=s.toks+1+1) (o:= .rng 0 j) (fun b ob q=>qag _ q) (qaV _) ⟨_,_,_,qar _ rfl⟩,rfl,q _ (I.hok.fresh (qaV _))⟩
theorem zh1 {j:Int} (h0:0<=j):Builtin.Range.rangeSize 0 j 1=(j.toNat:Int):=by
 unfold Builtin.Range.rangeSize
 rw [qa4 (by decide)]
 split
 ·rw [Int.ediv_one];omega
 ·omega
theorem zgk (hc:X.calm=true):za0 X (.type "tuple") (fun xs H Q=> ∃ (p:Addr) (j:Int),xs=[.ref p]/\H p=some (.rng 0 j)/\0<=j/\j<1000/\ ∀ l,H l=none->Q (.ref l) (upd H l (.tup (((List.range j.toNat).map fun (k:Nat)=>(k:Int)).map V.int)))):=by
 intro pins s σ H xs us Q I r h
 obtain ⟨p,j,rfl,hp,h0,h1,q⟩:=h
 obtain ⟨u,rfl,rx⟩:=zeB r
 cases rx
 obtain ⟨t,u',v,hr⟩:=(show zbR X.prog X.w H s.heap p (.rng 0 j) from I.hok p _ hp)
 refine callType_new F.called_tuple (by decide) (F.typeCall_tuple_1 _) (F.newCall_tuple_1 _) (fun obj=>F.args_object_init_2 obj _) F.entry_tuple_new
  (zdd p 0 j 1 t u' v j.toNat (small_one (by omega) (by omega) (by omega) (by omega)) (zh1 h0) (by omega)) ⟨show X.A.in1.in1.handled=none from I.ok.hd hc,hr,fun h' tk acc hk hacc=>⟨⟨_,qar _ rfl,rfl⟩,?_⟩⟩
 have I1:Inv X pins σ H {s with heap:=h',toks:=tk}:=I.kept (t':=tk) hk
 have hl:acc.toList.length=j.toNat:=by rw [qas];exact hacc.1
 have I2:=I1.laid (t':=tk) (h':=h'.push {cls:= .type "tuple",data:= .seq acc}) (a:=h'.objs.size) (o:= .tup (((List.range j.toNat).map fun (k:Nat)=>(k:Int)).map V.int)) (fun b o e=>qag _ e) (qaV _)
  ⟨by rw [qaH,qaH,List.length_range];exact qaS (show j.toNat<=1000 by omega) (by decide),acc.toList,zdN _ _ (by rw [qaH,List.length_range,hl]) (fun k w e=> ?_),by simpa using IsTup.new _ _⟩
 ·exact ⟨.ref h'.objs.size,_,I2,rfl,q _ (I1.hok.fresh (qaV _))⟩
 ·have hk':k<j.toNat:=by rw [<- hl];exact (qac.mp e).1
  obtain ⟨t,et⟩:=hacc.2 k w (by simpa using e)
  refine ⟨t,?_⟩
  rw [et]
  simp [hk']
end
end L2
namespace L3
open PySem PySem.Spec PyProof.Rows L2 LT
section
variable {X:Cx} {E:XE} {e:Expr} {f:FE}
noncomputable def zgd:D->M D
 | .int j=>if 0<=j/\j<1000 then pure (.tup (zeh 0 j.toNat)) else M.bad
 | _=>M.bad
theorem zil {K:W.Frag} {ι:Io} {H:Hp} {n:Nat}:zas K ι H (zeh 0 n) (((List.range n).map fun (k:Nat)=>(k:Int)).map V.int):=by
 have:zeh 0 n=((List.range n).map fun (k:Nat)=>(k:Int)).map D.int:=by unfold zeh;simp
 rw [this]
 exact zdj.mpr rfl
theorem zib {p1 p2 pos pos2:Pos} (hc:X.calm=true) (hm1:X.mg "tuple"=none) (hm2:X.mg "range"=none) (he:SE X E e f) (hg1:Gl X "tuple":=by rfl) (hg2:Gl X "range":=by rfl)
  (h1:starEach [.Call (.Name "range" p2) [e] [] pos2] X.env=[(false,eval (.Call (.Name "range" p2) [e] [] pos2) X.env)]:=by rfl) (h2:starEach [e] X.env=[(false,eval e X.env)]:=by rfl):
  SE X E (.Call (.Name "tuple" p1) [.Call (.Name "range" p2) [e] [] pos2] [] pos) (cUn zgd f):=by
 refine PE.imp (zcL (zgk hc) hg1 hm1 PyProof.Rows.boot_tuple (zbE (zcL zeW hg2 hm2 boot_range (zbE he zcM h2) (he:=h2)) zcM h1) (he:=h1)) fun σ H Q ⟨ι,h,sd,L,hh,q⟩=>⟨ι,h,sd,L,hh,Fin.bind q fun d h1 ι1 H1 e1 s1 hr1 q1 v rv=> ?_⟩
 cases d with
 | int j=>
  simp only [Rel] at rv
  obtain ⟨⟨c1,c2⟩,q2⟩:=Fin.guard q1
  refine ⟨j,by rw [rv],fun p hp=> ?_⟩
  have hr2:zbc X.K ι1 (upd H1 p (.rng 0 j)) h1:=hr1.laid hp
  exact ⟨p,j,rfl,zaR,c1,c2,fun l hl=>zn5 hr2 zil (Fin.step (hr1.laidS hp) q2) hl⟩
 | _=>exact qa0 q1
end
@[simp] theorem zbd {d:D} {r:Sd}:zaf 0 (some d::r)=pure d:=rfl
@[simp] theorem zbl {n:Nat} {x:Option D} {r:Sd}:zaf (n+1) (x::r)=zaf n r:=rfl
noncomputable def zhO (m:Int):Int->List D->Bool
 | _,[]=>true
 | l,.int i::r=>decide (l<=i) && decide (i<m) && zhO m (i+1) r
 | _,_::_=>false
theorem zfh {m:Int}: ∀ {xs:List Int} {l:Int},zhO m l (xs.map D.int)=true↔xs.Pairwise (· < ·)/\ ∀ x∈xs,l<=x/\x<m
 | [],l=>by simp [zhO]
 | x::r,l=>by
  rw [qaM,zhO,qaG,qaG,zfh (xs:=r) (l:=x+1),qay]
  simp only [qaD,qaP,forall_eq_or_imp]
  constructor
  ·rintro ⟨⟨h1,h2⟩,h3,h4⟩
   refine ⟨⟨fun y hy=> ?_,h3⟩,⟨h1,h2⟩,fun y hy=> ?_⟩
   ·have:=(h4 y hy).1;omega
   ·have:=h4 y hy;omega
  ·rintro ⟨⟨h1,h2⟩,⟨h3,h4⟩,h5⟩
   refine ⟨⟨h3,h4⟩,h2,fun y hy=> ?_⟩
   have a1:=h1 y hy
   have a2:=h5 y hy
   omega
theorem zf1 {m:Int}: ∀ {ts:List D} {l:Int},zhO m l ts=true->l<=m->(ts.length:Int)<=m - l
 | [],l,_,h=>by simp;omega
 | d::r,l,h,hl=>by
  cases d<;>first
   | (simp [zhO] at h;done)
   | (rename_i i
      rw [zhO,qaG,qaG,qaD,qaD] at h
      have:=zf1 h.2 (by omega)
      simp
      omega)
def Bx (b:Nat) (h:Hh):Prop:= ∃ z:Int,h[b]? = some (.lst [.int z])
def Ext (b:Nat) (h h':Hh):Prop:=Bx b h'/\ ∀ (n:Nat) (c:C),n≠b->h[n]? = some c->h'[n]? = some c
theorem Ext.refl {b:Nat} {h:Hh} (q:Bx b h):Ext b h h:=⟨q,fun _ _ _ e=>e⟩
theorem Ext.trans {b:Nat} {h h1 h2:Hh} (p:Ext b h h1) (q:Ext b h1 h2):Ext b h h2:=⟨q.1,fun n c hn e=>q.2 n c hn (p.2 n c hn e)⟩
theorem Bx.set {b:Nat} {h:Hh} {z:Int} (q:Bx b h):Ext b h (h.set b (.lst [.int z])):=by
 obtain ⟨y,e⟩:=q
 have hl:=(qac.mp e).1
 exact ⟨⟨z,qai hl⟩,fun n c hn e=>by rw [qao (Ne.symm hn)];exact e⟩
theorem Bx.push {b:Nat} {h:Hh} {c:C} (q:Bx b h):Ext b h (h++[c]):=by
 obtain ⟨y,e⟩:=q
 have hl:=(qac.mp e).1
 refine ⟨⟨y,by rw [qad hl];exact e⟩,fun n c' hn e=> ?_⟩
 rw [qad (qac.mp e).1]
 exact e
theorem zby {j:Int} (h0:0<=j) (h:j<1000):zj8 [.int j]=pure (zeh 0 j.toNat):=by
 show (if zbL j=true then _ else _)=_
 rw [qa4 (by unfold zbL;simp;omega)]
theorem zk1 {n:Nat} {d:D} (h:d∈zeh 0 n): ∃ i:Int,d= .int i/\0<=i/\i<n:=by
 unfold zeh at h
 obtain ⟨k,hk,e⟩:=qaU.mp h
 have:=List.mem_range.mp hk
 exact ⟨0+(k:Int),e.symm,by omega,by omega⟩
theorem zjz {n:Nat}:(zeh 0 n).length=n:=by unfold zeh;simp
theorem zbn (n:Nat):zeh 0 n=((List.range n).map fun (k:Nat)=>(k:Int)).map D.int:=by unfold zeh;simp
theorem zke {α:Type} {c:Prop} [Decidable c] {a b:M α} {h:Hh} {P:α->Hh->Prop}:wp (if c then a else b) h P↔if c then wp a h P else wp b h P:=by split<;>exact Iff.rfl
end L3
namespace L2
open PySem PySem.Spec PyProof.Rows L3
theorem zbR.there {P:Program} {w:World} {H:Hp} {h:Heap} {a:Addr} {o:HO} (x:zbR P w H h a o): ∃ ob,h.get? a=some ob:=by
 cases o with
 | lst xs=>obtain ⟨_,_,_,_,e⟩:=x;exact ⟨_,e⟩
 | tup xs=>obtain ⟨_,_,_,ob,e,_⟩:=x;exact ⟨ob,e⟩
 | dK kvs=>obtain ⟨_,_,_,_,ob,_,_,e,_⟩:=x;exact ⟨ob,e⟩
 | dT kvs=>obtain ⟨_,_,_,_,ob,_,_,e,_⟩:=x;exact ⟨ob,e⟩
 | set S n=>obtain ⟨ob,_,_,_,e,_⟩:=x;exact ⟨ob,e⟩
 | ins C dx fs=>obtain ⟨_,_,_,e,_⟩:=x;exact ⟨_,e⟩
 | own y=>exact x
 | xd fs=>obtain ⟨_,⟨ob,_,_,e,_⟩,_⟩:=x;exact ⟨ob,e⟩
 | rng lo hi=>obtain ⟨_,_,_,e⟩:=x;exact ⟨_,e⟩
 | frz ob u=>exact ⟨ob,x.1⟩
 | tbl ps=>exact ⟨_,x⟩
 | met f y=>exact ⟨_,x⟩
 | ext φ=>exact x.2.1
structure HS (H H':Hp) (h:Heap):Prop where
 free: ∀ b o,h.get? b=some o->H b=none->H' b=none
 tups: ∀ b xs,H b=some (.tup xs)->H' b=some (.tup xs)
 frzs: ∀ b o u,H b=some (.frz o u)->H' b=some (.frz o u)
 tbls: ∀ b ps,H b=some (.tbl ps)-> ∃ more,H' b=some (.tbl (ps++more))
structure FlB (P:Program) (w:World) (l:List Env) (H:Hp) (h:Heap) (H':Hp) (B:Heap):Prop where
 old: ∀ b o,h.get? b=some o->b∉frs l-> ∃ o',B.get? b=some o'/\(H b=none->o'=o)
 trk: ∀ b u,H' b=some u-> ∃ o,B.get? b=some o
 ok:HOk P w H' B
structure Fl (P:Program) (w:World) (l:List Env) (H:Hp) (s:Shared) (a C:Addr) (fl:Value) (H':Hp) (s':Shared):Prop where
 os:s'.os=s.os
 bare:AllBare s'.gens
 base: ∃ B:Heap,Fly B l a (.ref C) fl s'.heap/\FlB P w l H s.heap H' B
 slot: ∀ b o,s.heap.get? b=some o->H b=none->b∈frs l-> ∃ sl,s'.heap.get? b=some {o with slots:=sl}
 hs:HS H H' s.heap
section
variable {P:Program} {w:World} {l:List Env} {H H':Hp} {s s':Shared} {a C:Addr} {fl:Value}
theorem Fl.un (y:Fl P w l H s a C fl H' s'):Un (frs l) [] H H' s.heap s'.heap:=by
 obtain ⟨B,y1,y2⟩:=y.base
 refine ⟨fun b o e n hb _=> ?_,fun b o e n hb _=>y.slot b o e n hb,fun b o e n _=>y.hs.free b o e n,fun b o e _=> ?_,y.hs.tups,y.hs.frzs,y.hs.tbls⟩
 ·obtain ⟨o',e',q⟩:=y2.old b o e hb
  rw [<- q n]
  exact y1.stays b o' e'
 ·by_cases hb:b∈frs l
  ·obtain ⟨_,o',e',_⟩:=y1.frames.mem hb
   exact ⟨o',e'⟩
  ·obtain ⟨o',e',_⟩:=y2.old b o e hb
   exact ⟨o',y1.stays b o' e'⟩
theorem Fl.hok (y:Fl P w l H s a C fl H' s'):HOk P w H' s'.heap:=by
 obtain ⟨B,y1,y2⟩:=y.base
 exact y2.ok.kept y1.stays
theorem Fl.exc (y:Fl P w l H s a C fl H' s'): ∃ head,zhI s'.heap a (.ref C) head:=by
 obtain ⟨B,y1,y2⟩:=y.base
 obtain ⟨hd,z,_⟩:=y1.exc
 exact ⟨hd,z⟩
theorem Fl.fresh (y:Fl P w l H s a C fl H' s'):s.heap.get? a=none/\H' a=none/\a∉frs l:=by
 obtain ⟨B,y1,y2⟩:=y.base
 have nf:a∉frs l:=fun z=>by
  obtain ⟨_,o,e,n⟩:=y1.frames.mem z
  obtain ⟨_,⟨ob,vs,e2,_,_,d,_⟩,_⟩:=y1.exc
  rw [e] at e2
  cases e2
  exact n vs d
 refine ⟨?_,?_,nf⟩
 ·cases q:s.heap.get? a with
  | none=>rfl
  | some o=>
   obtain ⟨o',e,_⟩:=y2.old a o q nf
   rw [y1.new] at e
   cases e
 ·cases q:H' a with
  | none=>rfl
  | some u=>
   obtain ⟨o',e⟩:=y2.trk a u q
   rw [y1.new] at e
   cases e
theorem Fl.mv {B h':Heap} {fl':Value} (os:s'.os=s.os) (bare:AllBare s'.gens) (slot: ∀ b o,s.heap.get? b=some o->H b=none->b∈frs l-> ∃ sl,s'.heap.get? b=some {o with slots:=sl}) (hs:HS H H' s.heap)
  (fr:s'.heap.FunFrames B l) (z:Fly B l a (.ref C) fl' h') (y:FlB P w l H s.heap H' B) (u:s'.heap.UpToSlots h'):Fl P w l H s a C fl' H' {s' with heap:=h'}:=by
 refine ⟨os,bare,⟨B,z,y⟩,fun b o e n hb=> ?_,hs⟩
 obtain ⟨sl,e2⟩:=slot b o e n hb
 obtain ⟨_,o2,e3,n3⟩:=fr.mem hb
 rw [e2] at e3
 cases e3
 obtain ⟨sl',e4⟩:=u b _ e2 n3
 exact ⟨sl',e4⟩
section
variable {M:Model} {A:Around} {E:Value->Shared->Prop} {env:Env} {outer:List Env} {L:Addr} {Q:Unit->Shared->Prop}
theorem Fl.off (y:Fl P w l H s a C fl H' s') (k: ∀ h',Fl P w l H s a C .none H' {s' with heap:=h'}->Q () {s' with heap:=h'}):wpAny M A (setFlight (.ref a) none) Q E s':=by
 obtain ⟨B,y1,y2⟩:=y.base
 exact zfC y1 fun h' z u=>k h' (Fl.mv y.os y.bare y.slot y.hs y1.frames z y2 fun b o e n=>⟨o.slots,u b o e n⟩)
end
end
structure zon (X:Cx):Prop where
 stk:X.stack=X.env::X.outer
 frm:X.env.frame=some X.env.locals
 ex:X.ex=[]
theorem zon.frs {X:Cx} (z:zon X):frs X.stack=X.env.locals::frs X.outer:=by
 rw [z.stk]
 unfold L2.frs
 rw [qat,z.frm]
section
variable {X:Cx} {pins:List (Addr×Obj)} {σ:St} {H H':Hp} {s s':Shared} {a C:Addr} {M:Model} {E:Value->Shared->Prop} {Q:Unit->Shared->Prop}
theorem Inv.below (I:Inv X pins σ H s) {b:Addr} {o:Obj} (e:X.s₀.heap.get? b=some o):b≠X.env.locals:=qaR (qaw (qaQ e) I.ok.above)
theorem Fl.made {h':Heap} {vs:List Value} (z:zon X) (I:Inv X pins σ H s) (m:Heap.MadeExcOf s.heap h' a (.ref C) vs) (k: ∀ s2,Fl X.prog X.w X.outer X.H₀ X.s₀ a C .none H s2->Q () s2):wpAny M X.A (leaving X.env (.ref a)) Q E {s with heap:=h'}:=by
 have nex: ∀ b,b∉X.ex:=fun b h=>by rw [z.ex] at h;cases h
 have hfr:=I.ok.frames
 have hl:=I.stack
 have hin: ∀ env∈X.stack, ∀ b,env.frame=some b->b∈frs X.stack:=fun env he b hb=>List.mem_filterMap.mpr ⟨env,he,hb⟩
 have hl2:=W.funFrames_hide hl hin
 have hl3:h'.FunFrames (W.hideAll s.heap (frs X.stack)) X.stack:=hl2.of_keeps fun b o e _=>⟨o,m.keeps b o e,rfl⟩
 have inB: ∀ {b:Addr} {o:Obj},s.heap.get? b=some o->b∉frs X.stack->(W.hideAll s.heap (frs X.stack)).get? b=some o:=fun e n=>W.hideAll_get _ e n
 have ofB: ∀ {b:Addr} {o:Obj},(W.hideAll s.heap (frs X.stack)).get? b=some o->s.heap.get? b=some o:=fun e=>W.of_hideAll _ e
 have trk: ∀ b u,H b=some u->b∉frs X.stack:=fun b u e hm=>by rw [I.stkFree b hm] at e;cases e
 have newB:(W.hideAll s.heap (frs X.stack)).get? a=none:=by
  cases q:(W.hideAll s.heap (frs X.stack)).get? a with
  | none=>rfl
  | some o=>have:=ofB q;rw [m.new] at this;cases this
 have hst:=z.stk
 refine zhs (B:=W.hideAll s.heap (frs X.stack)) (by rw [<- hst];exact hfr) (by rw [<- hst];exact hl3) z.frm (zlI m) (fun b o e=>m.keeps b o (ofB e)) newB fun h2 q u=>k _ ?_
 have nin: ∀ b o,X.s₀.heap.get? b=some o->b∉frs X.outer->b∉frs X.stack:=fun b o e hb hm=>by
  rw [z.frs] at hm
  rcases qaP.mp hm with r | r
  ·exact I.below e r
  ·exact hb r
 refine ⟨I.os,I.bare,⟨_,q,fun b o e hb=> ?_,fun b v e=> ?_,fun b v e=> ?_⟩,fun b o e n hb=> ?_,fun b o e n=>I.base.free b o e n (nex b),I.base.tups,I.base.frzs,I.base.tbls⟩
 ·obtain ⟨o1,e1⟩:=I.base.there b o e (nex b)
  refine ⟨o1,inB e1 (nin b o e hb),fun n=> ?_⟩
  have e3:=I.base.keep b o e n hb (nex b)
  rw [e1] at e3
  cases e3
  rfl
 ·obtain ⟨o,e1⟩:=(I.hok b v e).there
  exact ⟨o,inB e1 (trk b v e)⟩
 ·refine (I.hok b v e).stay (fun c o hc e1=>inB e1 ?_) (fun _ r=>r) fun _ _ r=>r
  rcases hc with rfl | hc
  ·exact trk _ v e
  ·exact trk _ _ hc
 ·obtain ⟨sl,e1⟩:=I.base.slot b o e n hb (nex b)
  have hb2:b∈frs X.stack:=by rw [z.frs];exact qan _ hb
  obtain ⟨_,o3,e3,n3⟩:=hl.mem hb2
  rw [e1] at e3
  cases e3
  obtain ⟨sl4,e4⟩:=u b _ (m.keeps b _ e1) n3
  exact ⟨sl4,e4⟩
end
noncomputable def CXE (P:Program) (w:World):CXT:=fun outer H s E e s'=> ∃ a C H',e= .ref a/\Fl P w outer H s a C .none H' s'/\E e (some C) H'
end L2
namespace L3
open PySem PySem.Spec PyProof.Rows L2
def zhQ (K:W.Frag) (c:String) (C:Addr):Prop:=W.nsIn K mainGlobals (c:Str)=some (some (.ref C))
noncomputable def zsW (K:W.Frag) (E:XE):XK:=fun _ oc H'=> ∃ c C,oc=some C/\zhQ K c C/\E c H'
noncomputable def zta (K:W.Frag) (E:XK):XE:=fun c H'=> ∀ C v,zhQ K c C->E v (some C) H'
section
variable {P:Program} {w:World} {K:W.Frag} {mg:Str->Option Value} {base:Heap} {N:List Str} {qual:Str} {scope:Scope} {f:Addr} {cd:Value} {A:Around} {outer:List Env} {s:Shared} {H:Hp} {E:XK}
end
noncomputable def noX {α:Type} (m:M α):M α:=fun h=>match m h with
 | .exc _ _=> .bad
 | r=>r
theorem Fin.noX {α:Type} {K:W.Frag} {E E':XE} {ι:Io} {H:Hp} {m:M α} {h:Hh} {P:α->Io->Hp->Prop} (q:Fin K E ι H (L3.noX m h) P):Fin K E' ι H (m h) P:=by
 unfold L3.noX at q
 cases e:m h with
 | ok a h'=>rw [e] at q;exact q
 | exc c h'=>rw [e] at q;exact qa0 q
 | bad=>rw [e] at q;exact q
noncomputable def spE (K:W.Frag) (n:Nat) (F:List D->M D):Sp:=fun vs H Q E=>vs.length=n/\ ∃ ι h ds,zas K ι H ds vs/\zbc K ι H h/\Fin K (zta K E) ι H (F ds h) fun d ι' H'=> ∀ v,Rel K ι' H' d v->Q v H'
section
variable {P:Program} {w:World} {K:W.Frag} {mg:Str->Option Value} {base:Heap}
end
section
variable {X:Cx} {E:XE} {e:Expr} {es:List Expr} {pos p:Pos}
theorem Fin.exmono {α:Type} {K:W.Frag} {E E':XE} {ι:Io} {H:Hp} {r:R α} {P:α->Io->Hp->Prop} (m: ∀ c H',E c H'->E' c H') (q:Fin K E ι H r P):Fin K E' ι H r P:=by
 cases r with
 | ok a h'=>exact q
 | exc c h'=>exact fun ι2 H2 t hr=>m _ _ (q ι2 H2 t hr)
 | bad=>exact q
end
end L3
namespace L2
open PySem PySem.Spec PyProof.Rows L3
structure zf7 (k:Nat) (A:Around):Prop where
 dp:A.depth+3*k+5<recursionLimit
 un:A.units+16*k+200<cLine
theorem zf7.of {k:Nat} {A:Around} (r:zej k A):zf7 k A:=⟨r.dp,r.un⟩
theorem zf7.deeper {k:Nat} {A:Around} (r:zf7 (k+1) A) (env:Env):zf7 k (A.deeper env):=
 ⟨by have:=r.dp;show A.depth+1+3*k+5<_;omega,by have:=r.un;show A.units+3+16*k+200<_;omega⟩
theorem zf7.mono {j k:Nat} {A:Around} (r:zf7 k A) (h:j<=k):zf7 j A:=⟨by have:=r.dp;omega,by have:=r.un;omega⟩
structure FnH (P:Program) (w:World) (K:W.Frag) (mg:Str->Option Value) (base:Heap) (k:Nat) (f:Addr) (fd:FuncData) (ps:List Str) (sp:Sp):Prop where
 len: ∀ vs H Q E,sp vs H Q E->vs.length=ps.length
 run: ∀ (A:Around) (outer:List Env) (s:Shared) (H:Hp) (args:Args) (us:List Value) (vs:List V) (Q:VK),zf7 k A->zm7 P w K mg base A outer s H->BindsTo s fd args (ps.zip us)->za6 vs us->sp vs H Q E0->
  codeAny (model P w) A (.call (.ref f) args) (CR CX0 outer P w H s Q E0) s
section
variable {X:Cx} {pins:List (Addr×Obj)} {σ:St} {H H':Hp} {s s':Shared} {a:Addr} {o:Obj}
end
section
variable {X:Cx} {pins:List (Addr×Obj)} {σ:St} {H H':Hp} {s s':Shared} {a C CE:Addr} {ce en:Str} {pce pos:Pos} {b₀:Stmt} {suite:List Stmt} {j:Nat} {Q:Flow->Shared->Prop} {E:Value->Shared->Prop}
end
noncomputable abbrev zne:List Value:=[.type "ValueError",.type "Exception",.type "BaseException",.type "object"]
section
variable {X:Cx} {pins pins':List (Addr×Obj)} {σ:St} {H H':Hp} {s s':Shared} {xe:Value->Shared->Prop}
end
end L2
namespace L3
open PySem PySem.Spec PyProof.Rows L2
section
variable {X:Cx} {pins:List (Addr×Obj)} {σ:L2.St} {H:Hp} {s:Shared} {a C:Addr} {o:Obj} {vs:Array Value} {head:Value} {c:String} {gk en pe:Str} {p1 p2 p3:Pos} {j k:Nat} {fk:Addr} {fdk:FuncData} {Fk:List D->M D} {Qv:VK} {ι:Io} {h:Hh}
end
section
variable {X:Cx} {E:XE} {body:List Stmt} {ce en gk pe x:Str} {pce p1 p2 p3 p4 p5 hp pos:Pos} {CE fk:Addr} {fdk:FuncData} {Fk:List D->M D} {gb:FS} {j k i:Nat} {known:List String}
noncomputable def zqu (c:String):FS:=fun _ h=> .exc c h
end
end L3
namespace L3
open PySem PySem.W
section
variable {prog:Program} {w:World} {A:Around} {E:Value->Shared->Prop} {s:Shared} {K:Frag} {x D:Addr} {ox:Obj}
end
end L3
namespace L3
open PySem PySem.Spec PyProof.Rows L2
noncomputable def kxb (K:W.Frag) (C:Addr):Bool:=(W.clsIn K C).isSome && W.findIn K (.ref C) "__getattribute__"==some (some (.builtin "BaseException.__getattribute__")) && W.findIn K (.ref C) "__getattr__"==some none && W.findIn K (.ref C) "__class__"==some (some (.builtin "object.__class__"))
 && W.specialIn K (.builtin "object.__class__") "__get__"==some (some (.builtin "getset_descriptor.__get__")) && W.takesIn K (.builtin "object.__class__")==some true && W.mroIn K C (.type "object")==some true && W.mroIn K C (.type "BaseException")==some true
structure zrF (K:W.Frag) (CE:Addr) (names:List String) (c:String) (C:Addr):Prop where
 exc:W.excIn K C zne "ValueError.__new__"=true
 cov:W.exmOne K (.ref C) (.ref CE)=some true
 kx:kxb K C=true
 ve:W.kitOne K (.ref C) (.type "ValueError")=some true
 one: ∀ c'∈names, ∀ C',zhQ K c' C'->W.kitOne K (.ref C) (.ref C')=some (c==c')
def zrp (K:W.Frag) (CE:Addr) (names:List String):Prop:= ∀ c∈names, ∀ C,zhQ K c C->zrF K CE names c C
noncomputable def zmI (K:W.Frag) (CE:Addr) (tab:List (String×Addr)):Bool:=tab.all fun p=>W.nsIn K mainGlobals (p.1:Str)==some (some (.ref p.2)) && W.excIn K p.2 zne "ValueError.__new__" && W.exmOne K (.ref p.2) (.ref CE)==some true && kxb K p.2 && W.kitOne K (.ref p.2) (.type "ValueError")==some true
 && tab.all fun r=>W.kitOne K (.ref p.2) (.ref r.2)==some (p.1==r.1)
theorem zrp.of {K:W.Frag} {CE:Addr} {tab:List (String×Addr)} (h:zmI K CE tab=true):zrp K CE (tab.map (·.1)):=by
 unfold zmI at h
 rw [List.all_eq_true] at h
 have key: ∀ c∈tab.map (·.1), ∀ C,zhQ K c C->(c,C)∈tab:=fun c hc C hC=>by
  obtain ⟨p,hp,rfl⟩:=qaU.mp hc
  have h1:=h p hp
  simp only [qaG,beq_iff_eq] at h1
  have e:=h1.1.1.1.1.1
  unfold zhQ at hC
  rw [hC] at e
  cases e
  exact hp
 intro c hc C hC
 have h1:=h _ (key c hc C hC)
 simp only [qaG,beq_iff_eq,List.all_eq_true] at h1
 obtain ⟨⟨⟨⟨⟨a1,a2⟩,a3⟩,a4⟩,a5⟩,a6⟩:=h1
 exact ⟨a2,a3,a4,a5,fun c' hc' C' hC'=>a6 _ (key c' hc' C' hC')⟩
theorem zrp.known {K:W.Frag} {CE:Addr} {names:List String} (h:zrp K CE names): ∀ c∈names, ∀ C,zhQ K c C->W.exmOne K (.ref C) (.ref CE)=some true:=fun c hc C hC=>(h c hc C hC).cov
section
variable {X:Cx} {E:XE}
variable {a:Expr} {p1 p2 pos:Pos} {fa:FE} {CE CC:Addr} {names:List String}
end
end L3
namespace L3
open PySem
section
variable {prog:Program} {w:World} {A:Around} {E:Value->Shared->Prop} {s:Shared}
end
end L3
namespace L2
open PySem PySem.Spec PyProof.Rows L3
section
variable {X:Cx}
theorem zjc:MtM X "list.extend" (fun x vs H Q=> ∃ l b xs zs,x= .ref l/\vs=[.ref b]/\H l=some (.lst xs)/\SqT X.K H b zs/\xs.length+zs.length<=sizeLine/\Q .non (upd H l (.lst (xs++zs)))):=by
 intro pins s σ H x vs v us Q I rx rv h
 obtain ⟨l,b,xs,zs,rfl,rfl,hH,hB,hz,q⟩:=h
 cases rx
 obtain ⟨u,rfl,ru⟩:=zeB rv
 cases ru
 obtain ⟨z,its,n,r,hl,e⟩:=I.lstM hH
 obtain ⟨its2,r2,⟨ob,e2,c2,n2,d2⟩,z2⟩:=I.tuple hB
 have l2:=r2.length
 have hsz:its.toArray.size+its2.toArray.size<=sizeLine:=by rw [qaA,qaA];omega
 refine wpAny_call (codeAny_call_builtin F.slot_list_extend.plain F.entry_list_extend (F.slot_list_extend.check _ _ _ _ _ _ _ _ ⟨_,e,rfl⟩ (F.args_list_extend_2 _ _) ?_))
 unfold Builtin.«list.extend»
 refine qaW (qaX ?_)
 unfold Builtin.List.listExtendWith
 refine qaW (wpAny_typeOf ⟨ob,e2,c2⟩ ?_)
 have h1:(Builtin.List.listSameRef (.ref l) (.ref b) || Value.type "tuple"==Value.type "list" || Value.type "tuple"==Value.type "tuple")=true:=by simp
 simp only [h1,if_true]
 unfold Builtin.List.listItems
 refine qaW (qaW (wpAny_seqItems e2 d2 (qaX ?_)))
 refine qaW (qaW (wpAny_seqItems e rfl (qaX ?_)))
 rw [qa5 (by rw [zlr hsz,Bool.and_false];exact Bool.false_ne_true)]
 refine qaW (wpAny_updateSeq e rfl ?_ (by rw [qaA];omega))
 refine qaX ?_
 refine ⟨.non,_,I.lset (its':=its++its2) hH e (by simp) (r.append r2) ?_,rfl,q⟩
 rw [qav]
 omega
end
end L2
namespace L3
open PySem PySem.Spec PyProof.Rows L2
noncomputable def ztt (f:FE):FE:=fun sd=>noX (f sd)
noncomputable def ztr (f:FS):FS:=fun sd=>noX (f sd)
theorem zn6 {X:Cx}:zgA (CXE X.prog X.w) X (zsW X.K E0x):=fun _ _ _ _ _ _ _ h=>by
 obtain ⟨_,_,_,_,_,_,_,_,_,z⟩:=h
 exact z.elim
section
variable {X:Cx} {E:XE} {a e o:Expr} {es:List Expr} {pos p cpos apos:Pos} {f fo fe fa:FE} {fs:FA} {x:Str}
noncomputable def zgM:List D->M D
 | [.int i]=>pure (.int i)
 | [.bl b]=>pure (.int (if b then 1 else 0))
 | _=>M.bad
theorem zfv:za0 X (.type "int") (zjm X.K E zgM):=by
 refine za0.imp zkk fun xs H Q ⟨ι,h,ds,rl,hr,q⟩=> ?_
 unfold zgM at q
 split at q
 ·simp only [zas,Rel] at rl
  obtain ⟨v,r,rfl,rfl,rfl⟩:=rl
  exact .inl ⟨_,rfl,Fin.out hr q _ (by simp [Rel])⟩
 ·simp only [zas,Rel] at rl
  obtain ⟨v,r,rfl,rfl,rfl⟩:=rl
  exact .inr ⟨_,rfl,Fin.out hr q _ (by simp [Rel])⟩
 ·exact qa0 q
noncomputable def zdG (x y:D):M D:=match x,y with
 | .cel n,.tup zs=>do
  let ds<-zam n
  fits (ds.length+zs.length)
  zbU n (ds++zs)
  pure .non
 | _,_=>M.bad
noncomputable def zhN (fo fe:FE):FE:=fun sd=>do
 let x<-fo sd
 zb2 x
 let y<-fe sd
 zdG x y
theorem zmb (ho:SE X E o fo) (he:SE X E e fe)
  (hbase:attributeBase o "extend" X.env (eval o X.env)=eval o X.env:=by rfl)
  (hfew:((backTo cpos (starEach [e] X.env)).all (fun x=> !x.1) && (backToKw cpos (keywordEach [] X.env)).all (fun x=>x.1.isSome)
    && decide (([e]:List Expr).length+([]:List Keyword).length+(if ([]:List Keyword).isEmpty then 0 else 1)<30))=true:=by rfl)
  (hline:(apos.endLine==cpos.line)=true:=by rfl) (hs:starEach [e] X.env=(false,eval e X.env)::starEach [] X.env:=by rfl) (hplain:(backTo cpos (starEach [] X.env)).any (·.1)=false:=by rfl):
  SE X E (.Call (.Attribute o "extend" apos) [e] [] cpos) (zhN fo fe):=by
 refine PE.imp (zpr PySem.F.plainAttrs_list PySem.F.slot_list_extend PySem.F.type_list_extend zjc ho (zbE he zcM hs) hbase hfew hline hs hplain) fun σ H Q ⟨ι,h,sd,L,hh,q⟩=>⟨ι,h,sd,L,hh,Fin.bind q fun d h1 ι1 H1 e1 s1 hr1 q1 v rv=> ?_⟩
 cases d with
 | cel n=>
  have q2:Fin X.K E ι1 H1 ((zam n>>=fun _=>fe sd>>=fun y=>zdG (.cel n) y) h1) (fun d ι' H'=> ∀ v,Rel X.K ι' H' d v->Q v H'):=by
   have ee:(zb2 (.cel n)>>=fun _=>fe sd>>=fun y=>zdG (.cel n) y:M D)=(zam n>>=fun _=>fe sd>>=fun y=>zdG (.cel n) y):=by
    show ((zam n>>=fun _=>pure ())>>=fun _=>fe sd>>=fun y=>zdG (.cel n) y)=_
    simp only [bind_assoc,pure_bind]
   rw [<- ee]
   exact q1
  obtain ⟨ds,e2,q3⟩:=zf5 q2
  obtain ⟨a,vs,rfl,hn,hH,rl⟩:=hr1.read rv e2
  refine ⟨.inl ⟨rfl,vs,SqL.of hH⟩,ι1,h1,sd,L.step s1,hr1,Fin.bind q3 fun y h3 ι3 H3 e3 s3 hr3 q4 w rw'=> ?_⟩
  have rv3:=rv.step s3
  cases y with
  | tup zs=>
   have q5:Fin X.K E ι3 H3 ((zam n>>=fun ds=>fits (ds.length+zs.length)>>=fun _=>zbU n (ds++zs)>>=fun _=>pure D.non) h3) (fun d ι' H'=> ∀ v,Rel X.K ι' H' d v->Q v H'):=q4
   obtain ⟨ds3,e4,q6⟩:=zf5 q5
   obtain ⟨a3,vs3,ea,hn3,hH3,rl3⟩:=hr3.read rv3 e4
   cases ea
   obtain ⟨b,ws,eb,hb,rlb⟩:=zdA rw'
   obtain ⟨z,q7⟩:=Fin.fits q6
   refine ⟨a,b,vs3,ws,rfl,by rw [eb],hH3,hb,by rw [<- rl3.length, <-rlb.length];exact z,?_⟩
   have q8:Fin X.K E ι3 H3 (R.ok D.non (h3.set n (.lst (ds3++zs)))) (fun d ι' H'=> ∀ v,Rel X.K ι' H' d v->Q v H'):=q7
   exact q8 ι3 _ (hr3.cellS hn3) (hr3.cell hn3 (rl3.append rlb)) _ (by simp [Rel])
  | _=>exact qa0 q4
 | _=>exact qa0 q1
end
section
variable {P:Program} {w:World} {K:W.Frag} {mg:Str->Option Value} {base:Heap}
theorem toE {k:Nat} {f:Addr} {fd:FuncData} {ps:List Str} {n:Nat} {F:List D->M D} (G:zbM P w K mg base CX0 k f fd ps (zch K n F)):zbM P w K mg base (CXE P w) k f fd ps (spE K n fun ds=>noX (F ds)):=by
 have h: ∀ vs H Q E,spE K n (fun ds=>noX (F ds)) vs H Q E->zch K n F vs H Q E0:=fun vs H Q E ⟨hl,ι,h,ds,rl,hh,q⟩=>⟨hl,ι,h,ds,rl,hh,Fin.noX q⟩
 refine ⟨fun vs H Q E q=>G.len vs H Q E0 (h vs H Q E q),fun A outer s H args us vs Q E hr he hb hv hs=> ?_⟩
 refine codeAny_mono (G.run A outer s H args us vs Q E0 hr he hb hv (h vs H Q E hs)) fun r s' z=> ?_
 cases r with
 | error e=>exact qa0 z
 | ok f=>cases f<;>exact z
end
section
variable {X:Cx} {E:XE} {body:List Stmt} {ce en gk pe x:Str} {pce p1 p2 p3 p4 p5 hp pos:Pos} {CE fk:Addr} {fdk:FuncData} {Fk:List D->M D} {gb:FS} {k:Nat} {known:List String}
end
noncomputable def zgT (Fs:List (List D->M D)) (i:D):M (List D->M D):=match i with
 | .int j=>(match ixN Fs.length j with
   | some m=>ofO Fs[m]?
   | none=>M.bad)
 | _=>M.bad
noncomputable def znK (n:Nat) (Fs:List (List D->M D)) (fi:FE) (fs:FA):FE:=fun sd=>do
 let i<-fi sd
 let F<-zgT Fs i
 let ds<-fs sd
 zax n F ds
structure Fns (X:Cx) (n:Nat) (addrs:List Addr) (Fs:List (List D->M D)):Prop where
 len:Fs.length=addrs.length
 ok: ∀ (m:Nat) (F:List D->M D) (a:Addr),Fs[m]? = some F->addrs[m]? = some a-> ∃ k fd ps,zbM X.prog X.w X.K X.mg X.base (CXE X.prog X.w) k a fd ps (spE X.K n F)/\zej k X.A/\W.keepIn X.K (.ref a)=true/\zaX X.K fd ps []
theorem Fns.nil {X:Cx} {n:Nat}:Fns X n [] []:=⟨rfl,fun m F a h=>by simp at h⟩
theorem Fns.cons {X:Cx} {n k:Nat} {a:Addr} {F:List D->M D} {addrs:List Addr} {Fs:List (List D->M D)} {fd:FuncData} {ps:List Str} (G:zbM X.prog X.w X.K X.mg X.base (CXE X.prog X.w) k a fd ps (spE X.K n F)) (hr:zej k X.A) (hk:W.keepIn X.K (.ref a)=true) (hb:zaX X.K fd ps []) (h:Fns X n addrs Fs):Fns X n (a::addrs) (F::Fs):=by
 refine ⟨by simp [h.len],fun m F' a' h1 h2=> ?_⟩
 cases m with
 | zero=>simp at h1 h2;subst h1 h2;exact ⟨k,fd,ps,G,hr,hk,hb⟩
 | succ m=>simp at h1 h2;exact h.ok m F' a' h1 h2
section
variable {X:Cx} {E:XE} {e ix:Expr} {es fes:List Expr} {pos p q3 q4:Pos} {fi:FE} {fs:FA} {x:Str}
theorem zq5 {a:Addr} {addrs:List Addr} (hm:X.mg x=some (.ref a)) (h:PA X fes (fun _ H Q=>Q (addrs.map V.ref) H)) (hg:Gl X x:=by rfl) (hd:(x==("__debug__":Str))=false:=by decide) (hs:starEach (.Name x p::fes) X.env=(false,eval (.Name x p) X.env)::starEach fes X.env:=by rfl):
  PA X (.Name x p::fes) (fun _ H Q=>Q ((a::addrs).map V.ref) H):=zbE (zoI (v:= .ref a) hg hm rfl hd) h hs
theorem zqa:PA X [] (fun _ H Q=>Q (([]:List Addr).map V.ref) H):=zcM
theorem zoE {n:Nat} {i:Int} {m:Nat} (h:ixN n i=some m):m<n:=by
 unfold ixN at h
 split at h
 ·split at h
  ·cases h;omega
  ·cases h
 ·split at h
  ·cases h;omega
  ·cases h
theorem zp3 {n:Nat} {addrs:List Addr} {Fs:List (List D->M D)} (hfe:PA X fes (fun _ H Q=>Q (addrs.map V.ref) H)) (hF:Fns X n addrs Fs) (hx:zgA (CXE X.prog X.w) X (zsW X.K E)) (hi:SE X E ix fi) (ha:SA X E (e::es) fs) (hsz:addrs.length<=60:=by simp) (hs:zgf ix:=by intro _ _;rfl)
  (he:starEach (e::es) X.env=(false,eval e X.env)::starEach es X.env:=by rfl) (hpl:(backTo pos (starEach es X.env)).any (·.1)=false:=by rfl):
  SE X E (.Call (.Subscript (.List fes q3) ix q4) (e::es) [] pos) (znK n Fs fi fs):=by
 intro pins s σ H Q I ⟨ι,h,sd,L,hh,q⟩
 show wpAny (model X.prog X.w) X.A (eval (.Subscript (.List fes q3) ix q4) X.env>>=fun f=>callWith pos f [] (backTo pos (starEach (e::es) X.env)) (backToKw pos (keywordEach [] X.env))) _ _ s
 refine qaW ?_
 refine thn (zq3 (pos:=q4) zjG (zjL hfe) hi hs pins s σ H (fun v H1=> ∃ (a:Addr) (m:Nat) (F:List D->M D) (ι1:Io) (h1:Hh),v= .ref a/\Fs[m]? = some F/\addrs[m]? = some a/\zcj X.K ι1 H1 sd σ/\zbc X.K ι1 H1 h1/\Fin X.K E ι1 H1 ((do let ds<-fs sd;zax n F ds) h1) fun d ι' H'=> ∀ v,Rel X.K ι' H' d v->Q v H') I ?_) fun f s1 hf=> ?_
 ·refine ⟨by rw [qaH];exact qaS hsz (by decide),fun p hp=>⟨ι,h,sd,L.step (hh.laidS hp),hh.laid hp,?_⟩⟩
  refine Fin.bind (Fin.step (hh.laidS hp) q) fun d h1 ι1 H1 e1 s1 hr1 q1 v rv=> ?_
  cases d with
  | int j=>
   simp only [Rel] at rv
   subst rv
   have hp1:H1 p=some (.lst (addrs.map V.ref)):=s1.keep p _ zaR (hh.nin hp)
   cases ej:ixN Fs.length j with
   | none=>
    have q2:Fin X.K E ι1 H1 ((zgT Fs (.int j)>>=fun F=>fs sd>>=fun ds=>zax n F ds) h1) _:=q1
    unfold zgT at q2
    simp only [ej] at q2
    exact qa0 q2
   | some m=>
    have hm:=zoE ej
    have hm2:m<addrs.length:=by rw [<- hF.len];exact hm
    refine ⟨p,_,j,.ref addrs[m],rfl,rfl,SqL.of hp1,?_,addrs[m],m,Fs[m],ι1,h1,rfl,by simp [hm],by simp [hm2],(L.step (hh.laidS hp)).step s1,hr1,?_⟩
    ·unfold atI
     rw [qaH, <-hF.len,ej]
     simp [hm2]
    ·have q2:Fin X.K E ι1 H1 ((zgT Fs (.int j)>>=fun F=>fs sd>>=fun ds=>zax n F ds) h1) _:=q1
     unfold zgT at q2
     simp only [ej,qaf hm] at q2
     exact q2
  | _=>exact qa0 q1
 ·obtain ⟨v,H1,I1,rv,a,m,F,ι1,h1,rfl,hFm,ham,L1,hr1,q1⟩:=hf
  obtain rfl:f=Value.ref a:=rv
  obtain ⟨k,fd,ps,G,hr,hk,hb⟩:=hF.ok m F a hFm ham
  refine W.callWith_K (h₀:=X.base) I.ok.mod.kin hk (thn (ha pos pins s1 σ H1 _ I1 ⟨ι1,h1,sd,L1,hr1,Fin.bind q1 fun ds h2 ι2 H2 e2 s2 hr2 q2 vs rvs=> ?_⟩) fun us s2 ⟨vs,H2,I2,r,q⟩=>⟨I2.kIn,zmT G hr hb (dvs:=[]) .nil hx I2 r q⟩) he hpl
  show spE X.K n F (vs++[]) H2 Q _
  rw [List.append_nil]
  unfold zax at q2
  by_cases hl:ds.length=n
  ·rw [qa4 hl] at q2
   exact ⟨by rw [<- rvs.length];exact hl,ι2,h2,ds,rvs,hr2,Fin.exmono (fun c H' z C v hc=>⟨c,C,rfl,hc,z⟩) q2⟩
  ·rw [qa5 hl] at q2
   exact qa0 q2
end
end L3
namespace L2
open PySem PySem.Spec PyProof.Rows
section
variable {X:Cx} {tg:Expr}
theorem zg0 (hc:X.calm=true):za0 X (.type "list") (fun xs H Q=> ∃ (p:Addr) (j:Int),xs=[.ref p]/\H p=some (.rng 0 j)/\0<=j/\j<1000/\ ∀ l,H l=none->Q (.ref l) (upd H l (.lst (((List.range j.toNat).map fun (k:Nat)=>(k:Int)).map V.int)))):=by
 intro pins s σ H xs us Q I r h
 obtain ⟨p,j,rfl,hp,h0,h1,q⟩:=h
 obtain ⟨u,rfl,rx⟩:=zeB r
 cases rx
 obtain ⟨t,u',v,hr⟩:=(show zbR X.prog X.w H s.heap p (.rng 0 j) from I.hok p _ hp)
 refine call_list_range (I.ok.hd hc) hr (small_one (by omega) (by omega) (by omega) (by omega)) (zh1 h0) (by omega) fun h' tk acc c' hk hS hacc=> ?_
 have hl:acc.toList.length=j.toNat:=by rw [qas];exact hacc.1
 have I2:=I.laid (t':=tk) (h':=h') (a:=s.heap.objs.size) (o:= .lst (((List.range j.toNat).map fun (k:Nat)=>(k:Int)).map V.int)) hk (qaV _)
  (show zbR X.prog X.w _ h' _ (.lst _) from ⟨by rw [qaH,qaH,List.length_range];exact qaS (show j.toNat<=1000 by omega) (by decide),acc.toList,c',zdN _ _ (by rw [qaH,List.length_range,hl]) (fun k w e=> ?_),by simpa using hS⟩)
 ·exact ⟨.ref s.heap.objs.size,_,I2,rfl,q _ (I.hok.fresh (qaV _))⟩
 ·have hk':k<j.toNat:=by rw [<- hl];exact (qac.mp e).1
  obtain ⟨t,et⟩:=hacc.2 k w (by simpa using e)
  refine ⟨t,?_⟩
  rw [et]
  simp [hk']
end
end L2
namespace L3
open PySem PySem.Spec PyProof.Rows L2
section
variable {X:Cx} {E:XE} {e o:Expr} {f fo fe:FE} {pos apos cpos:Pos}
noncomputable def zeg (tc:FT) (gb:FS):Nat->FS
 | 0,_=>M.bad
 | n+1,sd=>do
  let b<-tc sd
  if b=true then
   let o<-gb sd
   match o with
   | .nx sd'=>zeg tc gb n sd'
   | .ct sd'=>zeg tc gb n sd'
   | .bk sd'=>pure (.nx sd')
   | .rt d=>pure (.rt d)
  else pure (.nx sd)
noncomputable def zgP (n:Nat) (tc:FT) (gb:FS):FS:=zeg tc gb n
theorem zhr {c:Expr} {body:List Stmt} {tc:FT} {gb:FS} (n:Nat) (hp:PassesOwn (model X.prog X.w) X.A X.env X.xe) (hc:ST X E c tc) (hb:SSs X E body gb):SS X E (.While c body [] pos) (zgP n tc gb):=by
 refine PS.imp (zlM hp hc hb) fun D0 σ H ⟨ι,h,sd,L,hh,q⟩=> ?_
 refine ⟨fun m σ' H'=> ∃ ι' h' sd',zcj X.K ι' H' sd' σ'/\zbc X.K ι' H' h'/\Fin X.K E ι' H' (zeg tc gb m sd' h') (zgw X.K D0),⟨n,ι,h,sd,L,hh,q⟩,?_⟩
 rintro m σ2 H2 ⟨ι2,h2,sd2,L2,hr2,q2⟩
 cases m with
 | zero=>exact qa0 q2
 | succ m=>
  refine ⟨ι2,h2,sd2,L2,hr2,Fin.bind q2 fun b h3 ι3 H3 e3 s3 hr3 q3=> ?_⟩
  cases b with
  | true=>
   refine ⟨fun σ' H'=> ∃ ι' h' sd',zcj X.K ι' H' sd' σ'/\zbc X.K ι' H' h'/\Fin X.K E ι' H' (zeg tc gb m sd' h') (zgw X.K D0),fun σ' H' p=>⟨m,by omega,p⟩,ι3,h3,sd2,L2.step s3,hr3,Fin.bind q3 fun o h7 ι7 H7 e7 s7 hr7 q7=> ?_⟩
   cases o with
   | nx sd'=>exact fun σ' L'=>⟨ι7,h7,sd',L',hr7,q7⟩
   | ct sd'=>exact fun σ' L'=>⟨ι7,h7,sd',L',hr7,q7⟩
   | bk sd'=>exact fun σ' L'=>Fin.out (E:=E) (P:=zgw X.K D0) hr7 q7 σ' L'
   | rt d=>exact fun v rv=>Fin.out (E:=E) (P:=zgw X.K D0) hr7 q7 v rv
  | false=>exact Fin.out (E:=E) (P:=zgw X.K D0) hr3 q3 σ2 (L2.step s3)
noncomputable def zds:D->M D
 | .int j=>if 0<=j/\j<1000 then pure (.lst (zeh 0 j.toNat)) else M.bad
 | _=>M.bad
theorem zd8 {p1 p2 pos pos2:Pos} (hc:X.calm=true) (hm1:X.mg "list"=none) (hm2:X.mg "range"=none) (he:SE X E e f) (hg1:Gl X "list":=by rfl) (hg2:Gl X "range":=by rfl)
  (h1:starEach [.Call (.Name "range" p2) [e] [] pos2] X.env=[(false,eval (.Call (.Name "range" p2) [e] [] pos2) X.env)]:=by rfl) (h2:starEach [e] X.env=[(false,eval e X.env)]:=by rfl):
  SE X E (.Call (.Name "list" p1) [.Call (.Name "range" p2) [e] [] pos2] [] pos) (cUn zds f):=by
 refine PE.imp (zcL (zg0 hc) hg1 hm1 PyProof.Rows.boot_list (zbE (zcL zeW hg2 hm2 boot_range (zbE he zcM h2) (he:=h2)) zcM h1) (he:=h1)) fun σ H Q ⟨ι,h,sd,L,hh,q⟩=>⟨ι,h,sd,L,hh,Fin.bind q fun d h1 ι1 H1 e1 s1 hr1 q1 v rv=> ?_⟩
 cases d with
 | int j=>
  simp only [Rel] at rv
  obtain ⟨⟨c1,c2⟩,q2⟩:=Fin.guard q1
  refine ⟨j,by rw [rv],fun p hp=> ?_⟩
  have hr2:zbc X.K ι1 (upd H1 p (.rng 0 j)) h1:=hr1.laid hp
  exact ⟨p,j,rfl,zaR,c1,c2,fun l hl=>zrc hr2 zil (Fin.step (hr1.laidS hp) q2) hl⟩
 | _=>exact qa0 q1
theorem zas.eraseIdx {K:W.Frag} {ι:Io} {H:Hp}: ∀ {ds:List D} {vs:List V} (i:Nat),zas K ι H ds vs->zas K ι H (ds.eraseIdx i) (vs.eraseIdx i)
 | [],vs,i,h=>by
  simp only [zas] at h
  subst h
  simpa using zas.nil
 | x::r,vs,i,h=>by
  simp only [zas] at h
  obtain ⟨v,vs',rfl,rv,rl⟩:=h
  cases i with
  | zero=>simpa using rl
  | succ i=>exact zas.cons rv (zas.eraseIdx i rl)
end
end L3
namespace L3
open PySem
open Sem (wp)
open AutoSeq1 (wpAny_loadPart')
section
variable {prog:Program} {w:World} {A:Around} {E:Value->Shared->Prop} {s:Shared}
theorem zei {it l:Addr} {i:Nat} {items:Array Value} {x:Value} {Q:Value->Shared->Prop} (hit:s.heap.IsTupleIter it l i) (hl:s.heap.IsTuple l items) (hx:items[i]? = some x)
  (hQ: ∀ h',h'.IsTupleIter it l (i+1)->Heap.SameBut it s.heap h'->Q x {s with heap:=h'}):wpAny (model prog w) A (Builtin.SmallTypes.nextOf (.ref it)) Q E s:=by
 obtain ⟨o,ho,hc,hd⟩:=id hit
 obtain ⟨ol,hol,_,nl,hdl⟩:=hl
 unfold Builtin.SmallTypes.nextOf
 refine qaW (wpAny_callSpecial?_slot (name:=Str.ofString "__next__") hit.typeIs F.slot_tuple_iterator_next
   (wpAny_call_entry F.slot_tuple_iterator_next hit.typeIs F.entry_tuple_iterator_next ?_ (F.args_tuple_iterator_next_1 _)))
 show wpAny _ _ (field (.ref it) 0>>=_) _ _ s
 refine qaW (wpAny_field ho hd (x:= .ref l) rfl ?_)
 show wpAny _ _ (if (Value.ref l==Value.none)=true then _ else _) _ _ s
 rw [qa5 (show ¬((Value.ref l==Value.none)=true) from Bool.false_ne_true)]
 show wpAny _ _ (field (.ref it) 1>>=_) _ _ s
 refine qaW (wpAny_field ho hd (x:= .int i 0) rfl ?_)
 show wpAny _ _ (seqItems? (.ref l)>>=_) _ _ s
 refine qaW (wpAny_seqItems hol hdl ?_)
 simp only [qaB,hx]
 refine qaW (wpAny_setField ho hd (by simp) (qaX ⟨x,rfl,qaX (hQ _ ?_ (Heap.SameBut.update ..))⟩))
 exact ⟨_,qal _ ho (Obj.isFreed_of_fields (Obj.data_mapFields hd _)),(Obj.cls_mapFields ..).trans hc,by
   rw [Obj.data_mapFields hd];simp [rawInt]⟩
theorem zew {it l:Addr} {i:Nat} {items:Array Value} {Q:Value->Shared->Prop} (hh:zjo A s.heap) (hit:s.heap.IsTupleIter it l i) (hl:s.heap.IsTuple l items) (hx:items[i]? = none)
  (hE: ∀ h' e,Heap.ExtBut it s.heap h'->(∃ o,h'.get? e=some o/\o.cls= .type "StopIteration")->E (.ref e) {s with heap:=h'}):wpAny (model prog w) A (Builtin.SmallTypes.nextOf (.ref it)) Q E s:=by
 obtain ⟨o,h1,h2,h3⟩:=id hit
 obtain ⟨ol,l1,_,nl,l2⟩:=hl
 unfold Builtin.SmallTypes.nextOf
 refine qaW (wpAny_callSpecial?_slot (name:=Str.ofString "__next__") hit.typeIs F.slot_tuple_iterator_next
   (wpAny_call_entry F.slot_tuple_iterator_next hit.typeIs F.entry_tuple_iterator_next ?_ (F.args_tuple_iterator_next_1 _)))
 show wpAny _ _ (field (.ref it) 0>>=_) _ _ s
 refine qaW (wpAny_field h1 h3 (x:= .ref l) rfl ?_)
 show wpAny _ _ (if (Value.ref l==Value.none)=true then _ else _) _ _ s
 rw [qa5 (show ¬(Value.ref l==Value.none)=true from nofun)]
 show wpAny _ _ (field (.ref it) 1>>=_) _ _ s
 refine qaW (wpAny_field h1 h3 (x:= .int i 0) rfl ?_)
 show wpAny _ _ (seqItems? (.ref l)>>=_) _ _ s
 refine qaW (wpAny_seqItems l1 l2 ?_)
 simp only [qaB,hx]
 refine qaW (wpAny_rule (qaW (wpAny_setField h1 h3 (by simp) ?_)))
 show wpAny _ _ (newExc (.type "StopIteration") []>>=_) _ _ _
 refine qaW ?_
 simp only [newExc,newTuple]
 refine qaW (qaC ?_ (by size_fits))
 refine qaW (m:=firstArgMember _ _) (wpAny_of_eq (a:=Value.none) (by first | rfl | (simp only [firstArgMember];rfl)) ?_)
 refine qaC ?_ (by size_fits)
 rcases hh with hh | ⟨ha,cls,head,hh,hX⟩
 ·simp only [raiseNew]
  refine qaW (wpAny_handled ?_)
  first | rw [show A.in1.handled=none from hh] | rw [hh]
  refine qaW (qaX (wpAny_throw ?_))
  exact hE _ _ (((Heap.SameBut.update ..).extBut.push _).push _) ⟨_,qar _ rfl,rfl⟩
 have nit:ha≠it:=fun z=>by
  subst z
  obtain ⟨ob,vs,x1,_,_,x4,x5,x6⟩:=hX
  rw [h1] at x1
  cases x1
  rw [h3] at x4
  cases x4
  simp at x5
 have hX1:zhI (s.heap.update it (Obj.mapFields (·.setIfInBounds 0 Value.none))) ha cls head:=by
  obtain ⟨ob,vs,x1,x2⟩:=hX
  exact ⟨ob,vs,(qah _ _ (Ne.symm nit)).trans x1,x2⟩
 obtain ⟨ob,vs,x1,x2⟩:=hX1
 have y1:=qag {cls:= .type "tuple",dict:=none,data:= .seq [].toArray} x1
 refine zcR (h:=ha) (cls:=cls) (head:=head) hh ⟨ob,vs,qag _ y1,x2⟩ (qar _ rfl) rfl (by simp;omega) (qaR (qaQ y1)) ?_
 refine hE _ _ (fun b o hb z=> ?_) ⟨_,qal _ (qar _ rfl) rfl,rfl⟩
 have z1:(s.heap.update it (Obj.mapFields (·.setIfInBounds 0 Value.none))).get? b=some o:=(qah _ _ (Ne.symm hb)).trans z
 have z2:=qag {cls:= .type "tuple",dict:=none,data:= .seq [].toArray} z1
 rw [qah _ _ (Nat.ne_of_gt (qaQ z2))]
 exact qag _ z2
end
noncomputable def zbj (A:Around):List Addr:=match A.handled with
 | some (.ref a)=>[a]
 | _=>[]
theorem zjo.keep {A:Around} {h h':Heap} (x:zjo A h) (k: ∀ b∈zbj A, ∀ o,h.get? b=some o->h'.get? b=some o):zjo A h':=by
 rcases x with x | ⟨a,cls,head,x1,ob,vs,x2,x3⟩
 ·exact .inl x
 ·exact .inr ⟨a,cls,head,x1,ob,vs,k a (by unfold zbj;rw [x1];simp) _ x2,x3⟩
theorem zeP {prog:Program} {w:World} {A:Around} (it l:Addr) (hne:l≠it) (items:Array Value):
  Draws prog w A.in1 it (it::l::zbj A) items.size (fun i v=>items[i]? = some v) (fun i h=>h.IsTupleIter it l i/\h.IsTuple l items/\zjo A h/\it∉zbj A) where
 live:=fun _ _ st=>let ⟨o,ho,_⟩:=st.1;⟨o,ho⟩
 frame:=fun _ _ _ st hk=>⟨st.1.at fun o e=>hk it (by simp) o e,st.2.1.at fun o e=>hk l (by simp) o e,st.2.2.1.keep fun b hb o e=>hk b (by simp [hb]) o e,st.2.2.2⟩
 item:=fun i s Q E hi st hQ=>by
  refine zei st.1 st.2.1 (x:=items[i]) (by simp [hi]) fun h' hit' hs'=> ?_
  exact hQ _ h' s.toks (by simp [hi]) ⟨hit',st.2.1.extBut hs'.extBut hne,st.2.2.1.keep fun b hb o e=>(hs'.2 b fun z=>st.2.2.2 (z▸hb)).trans e,st.2.2.2⟩ hs'
 done:=fun s Q E st hE=>zew (A:=A.in1) st.2.2.1 st.1 st.2.1 (by simp) hE
theorem zdt (l:Addr) (items:Array Value) (n:Nat) (dct:Option Addr) (sl:Array (Option Value)):
  Meets (Builtin.«enumerate.__new__» ⟨[.type "enumerate",.ref l],[]⟩) (fun _ R s=>s.heap.get? l=some {cls:= .type "tuple",dict:=dct,data:= .seq items n,slots:=sl}/\
    R (.ok (.ret (.ref (s.heap.push {cls:= .type "tuple_iterator",data:= .fields #[.ref l,.int 0 0]}).objs.size)))
      {s with heap:=(s.heap.push {cls:= .type "tuple_iterator",data:= .fields #[.ref l,.int 0 0]}).push {cls:= .type "enumerate",data:= .fields #[.none,.bool false,.ref s.heap.objs.size,rawInt 0,.none,.none]}}):=
 .of_wp fun prog w A R s h=>by
  obtain ⟨hp,g,d,tk,os⟩:=s;obtain ⟨hl,h⟩:=h
  have hsub:=sub_enumerate
  have hL:Heap.IsTuple (Shared.heap ⟨hp,g,d,tk,os⟩) l items:=⟨_,hl,rfl,n,rfl⟩
  wp_walk using wpAny_loadPart' hl
  refine wpAny_stack_any fun st=>qaX ?_
  split
  ·rename_i c _ _ _ _ _
   cases (c==Value.type "enumerate")
   ·wp_walk using wpAny_loadPart' hl,wpAny_pyIter_tuple hL
    exact ⟨_,rfl,h⟩
   ·wp_walk using wpAny_loadPart' hl,wpAny_pyIter_tuple hL
    exact ⟨_,rfl,h⟩
  ·wp_walk using wpAny_loadPart' hl,wpAny_pyIter_tuple hL
   exact ⟨_,rfl,h⟩
end L3
namespace L3
open PySem
section
variable {prog:Program} {w:World} {A:Around} {E:Value->Shared->Prop} {s:Shared}
theorem zdu {l:Addr} {items:Array Value} {Q:Value->Shared->Prop} (hL:s.heap.IsTuple l items)
  (h: ∀ h',IsEnum h' (s.heap.objs.size+1) s.heap.objs.size 0 .none->h'.IsTupleIter s.heap.objs.size l 0->h'.objs.size=s.heap.objs.size+2->
    (∀ b o,s.heap.get? b=some o->h'.get? b=some o)->Q (.ref (s.heap.objs.size+1)) {s with heap:=h'}):
  wpAny (model prog w) A (call (.type "enumerate") [.ref l]) Q E s:=by
 obtain ⟨⟨c,dct,dt,sl⟩,hl,hc,n,hd⟩:=hL
 replace hc:c= .type "tuple":=hc
 replace hd:dt= .seq items n:=hd
 subst hc hd
 refine callType_new F.called_enumerate (by decide) (F.typeCall_enumerate_1 _) (F.newCall_enumerate_1 _) (fun obj=>F.args_object_init_2 obj _) F.entry_enumerate_new
  (zdt l items n dct sl) ⟨hl,?_⟩
 have hz:(s.heap.push {cls:= .type "tuple_iterator",data:= .fields #[.ref l,.int 0 0]}).objs.size=s.heap.objs.size+1:=qaL ..
 show _/\_
 rw [hz]
 have he:IsEnum ((s.heap.push {cls:= .type "tuple_iterator",data:= .fields #[.ref l,.int 0 0]}).push
     {cls:= .type "enumerate",data:= .fields #[.none,.bool false,.ref s.heap.objs.size,rawInt 0,.none,.none]}) (s.heap.objs.size+1) s.heap.objs.size 0 .none:=by
  have:=qar (s.heap.push {cls:= .type "tuple_iterator",data:= .fields #[.ref l,.int 0 0]})
   (o:={cls:= .type "enumerate",data:= .fields #[.none,.bool false,.ref s.heap.objs.size,rawInt 0,.none,.none]}) rfl
  rw [hz] at this;exact this
 exact ⟨⟨_,he,rfl⟩,h _ he ⟨_,qag _ (qar _ rfl),rfl,rfl⟩ (by rw [qaL,hz]) fun b o x=>qag _ (qag _ x)⟩
end
end L3
namespace L2
open PySem PySem.Spec PyProof.Rows
section
variable {X:Cx} {pins:List (Addr×Obj)} {σ:St} {H:Hp} {s:Shared} {h':Heap}
theorem Inv.turned2 {t':Nat} {e it:Addr} (I:Inv X pins σ H s) (k: ∀ b o,b≠e->b≠it->s.heap.get? b=some o->h'.get? b=some o) (f:zhn X pins H e) (g:zhn X pins H it):Inv X pins σ H {s with heap:=h',toks:=t'}:=by
 obtain ⟨f0,f1,f2,f3,f4,f5⟩:=f
 obtain ⟨g0,g1,g2,g3,g4,g5⟩:=g
 have ne: ∀ b u,H b=some u->b≠e:=fun b u q z=>by rw [z,f0] at q;cases q
 have nit: ∀ b u,H b=some u->b≠it:=fun b u q z=>by rw [z,g0] at q;cases q
 have kk: ∀ b o,b∉[e,it]->s.heap.get? b=some o->h'.get? b=some o:=fun b o hb q=>k b o (fun z=>hb (by simp [z])) (fun z=>hb (by simp [z])) q
 refine I.step (g':=s.gens) (d':=s.drawn) (ch:=[e,it]) (fun b hb=> ?_) (fun b o _ _ hc q _=>kk b o hc q) (fun b o _ _ hc q _=>⟨o.slots,kk b o hc q⟩) (fun _ _ _ _ n=>n)
  (fun b o hc q=>⟨o,kk b o hc q⟩) (fun _ _ q=>q) (fun _ _ _ q=>q) (fun b ps q=>⟨#[],by rw [q];simp⟩) (fun m hm=> ?_) (fun b u q=> ?_) I.bare
 ·have z:b=e\/b=it:=by simpa using hb
  rcases z with rfl | rfl
  ·exact ⟨f3,f1,f4,f5⟩
  ·exact ⟨g3,g1,g4,g5⟩
 ·obtain ⟨o,es,ep,ho,r⟩:=hm
  exact ⟨o,es,ep,k _ o (Ne.symm f1) (Ne.symm g1) ho,r⟩
 ·refine (I.hok b u q).stay (fun c v hc q'=> ?_) (fun _ q=>q) fun _ _ q=>q
  rcases hc with z | z
  ·rw [z];exact k b v (ne b u q) (nit b u q) (by rw [<- z];exact q')
  ·exact k c v (ne c _ z) (nit c _ z) q'
end
noncomputable def Ite (K:W.Frag) (a:Addr):It:=
 ⟨fun i H=> ∃ xs x,SqT K H a xs/\xs[i]? = some x,fun i H x H'=> ∃ T y,H T=none/\H'=upd H T (.tup [.int i,y])/\x= .ref T/\ ∀ xs,SqT K H a xs->xs[i]? = some y,fun i H=> ∃ xs,SqT K H a xs/\xs.length=i⟩
theorem zlg {P:Program} {w:World} {K:W.Frag} {elts:List Expr} {k:Nat} {pos:Pos} (a e it:Addr) (hei:e≠it):zoH P w K (.Tuple elts k pos) (Ite K a) [e,it] e (fun i h=>(∃ old,IsEnum h e it i old)/\h.IsTupleIter it a i) where
 mem:=by simp
 obj:=fun i h st b hb=>by
  obtain ⟨⟨old,he⟩,o,ho,hc,hd⟩:=st
  have z:b=e\/b=it:=by simpa using hb
  rcases z with rfl | rfl
  ·exact ⟨_,he,fun v z=>by cases z⟩
  ·exact ⟨o,ho,fun v z=>by rw [hd] at z;cases z⟩
 keep:=fun i h h' st k=>⟨let ⟨old,he⟩:=st.1;⟨old,k e (by simp) _ he⟩,st.2.at fun o q=>k it (by simp) o q⟩
 item:=by
  intro X hP hw hK i pins s σ H E I hf st hg
  subst hP hw hK
  obtain ⟨xs,y,hq,hx⟩:=hg
  obtain ⟨its,rv,p,hz⟩:=I.tuple hq
  obtain ⟨u,hu,ru⟩:=rv.get hx
  obtain ⟨⟨old,he⟩,hit⟩:=st
  have hfe:=hf e (by simp)
  have hfi:=hf it (by simp)
  obtain ⟨ot,ht,hct,nt,hdt⟩:=(show s.heap.IsTuple a its.toArray from p)
  obtain ⟨oi,hi,hci,hdi⟩:=id hit
  have hai:a≠it:=fun z=>by
   subst z
   rw [ht] at hi
   cases hi
   rw [hdt] at hdi
   cases hdi
  have hea:e≠a:=fun z=>by
   subst z
   have he':s.heap.get? e=_:=he
   rw [ht] at he'
   cases he'
   cases hdt
  have hin:it∉L3.zbj X.A:=fun z=>by
   rcases I.hand with q | ⟨ha,cls,head,q,ob,vs,x1,_,_,x4,x5,_⟩
   ·unfold L3.zbj at z;rw [q] at z;simp at z
   ·unfold L3.zbj at z
    rw [q] at z
    have:it=ha:=by simpa using z
    subst this
    rw [hi] at x1
    cases x1
    rw [hdi] at x4
    cases x4
    simp at x5
  have hen:e∉L3.zbj X.A:=fun z=>by
   rcases I.hand with q | ⟨ha,cls,head,q,ob,vs,x1,_,_,x4,x5,_⟩
   ·unfold L3.zbj at z;rw [q] at z;simp at z
   ·unfold L3.zbj at z
    rw [q] at z
    have:e=ha:=by simpa using z
    subst this
    have he':s.heap.get? e=_:=he
    rw [x1] at he'
    cases he'
    cases x4
    simp at x5
  have hlt:i<its.toArray.size:=by
   have:=(qac.mp hu).1
   simpa using this
  refine wpAny_pyNext_enum_itemD (L3.zeP (A:=X.A) it a hai its.toArray) he ⟨hit,p,I.hand,hin⟩ hlt hei (by simp [hei,hea,hen]) fun x h1 tk hP ho hs' hT hsz hk=> ?_
  have hxu:x=u:=by
   have:its[i]? = some x:=by simpa using hP
   rw [hu] at this
   exact (Option.some.inj this).symm
  subst hxu
  refine ⟨_,rfl,wpAny_letOwnedTupleGo_enum ho fun h2 he2 hs2=> ?_⟩
  have het:e≠s.heap.objs.size:=qaR (qaQ he)
  have hit':it≠s.heap.objs.size:=qaR (qaQ hi)
  have fresh:=I.hok.fresh (qaV s.heap.objs.size)
  have I1:Inv X pins σ (upd H s.heap.objs.size (.tup [.int i,y])) {s with heap:=s.heap.push {cls:= .type "tuple",data:= .seq #[.int i tk,x]},toks:=tk+1}:=
   I.laid (t':=tk+1) (fun b o q=>qag _ q) (qaV _) (show zbR X.prog X.w _ _ _ (.tup [.int i,y]) from ⟨by show 2<=sizeLine;decide,[.int i tk,x],.cons ⟨tk,rfl⟩ (.cons ru .nil),IsTup.new _ _⟩)
  have fe:zhn X pins (upd H s.heap.objs.size (.tup [.int i,y])) e:=⟨by rw [zaG het];exact hfe.1,hfe.2⟩
  have fi:zhn X pins (upd H s.heap.objs.size (.tup [.int i,y])) it:=⟨by rw [zaG hit'];exact hfi.1,hfi.2⟩
  have I2:Inv X pins σ (upd H s.heap.objs.size (.tup [.int i,y])) {s with heap:=h1,toks:=tk+1}:=I1.turned2 (t':=tk+1) (h':=h1) (fun b o hb1 hb2 q=>by
    rcases Heap.get?_push_cases q with ⟨z1,z2⟩ | z
    · rw [z1,z2];exact hT
    · exact hk b o hb1 hb2 z) fe fi
  obtain ⟨f0,f1,f2,f3,f4,f5⟩:=fe
  have I3:Inv X pins σ (upd H s.heap.objs.size (.tup [.int i,y])) {s with heap:=h2,toks:=tk+1}:=I2.turned (t':=tk+1) (fun b o hb q=>(hs2.2 b hb).trans q) f0 f1 f3 f4 f5
  refine ⟨.ref s.heap.objs.size,_,I3,rfl,⟨s.heap.objs.size,y,fresh,rfl,rfl,fun ys hy=>by rw [I.tuple_inj hy hq];exact hx⟩,⟨⟨x,by simpa using he2⟩,hs'.1.at fun o q=>(hs2.2 it (Ne.symm hei)).trans q⟩,fun b hb=> ?_⟩
  have z:b=e\/b=it:=by simpa using hb
  rcases z with rfl | rfl
  ·exact f0
  ·exact fi.1
 done:=by
  intro X hP hw hK i pins s σ H E I hf st hg
  subst hP hw hK
  obtain ⟨xs,hq,hx⟩:=hg
  obtain ⟨its,rv,p,hz⟩:=I.tuple hq
  obtain ⟨⟨old,he⟩,hit⟩:=st
  have hfi:=hf it (by simp)
  obtain ⟨ot,ht,hct,nt,hdt⟩:=(show s.heap.IsTuple a its.toArray from p)
  obtain ⟨oi,hi,hci,hdi⟩:=id hit
  have hai:a≠it:=fun z=>by
   subst z
   rw [ht] at hi
   cases hi
   rw [hdt] at hdi
   cases hdi
  have hin:it∉L3.zbj X.A:=fun z=>by
   rcases I.hand with q | ⟨ha,cls,head,q,ob,vs,x1,_,_,x4,x5,_⟩
   ·unfold L3.zbj at z;rw [q] at z;simp at z
   ·unfold L3.zbj at z
    rw [q] at z
    have:it=ha:=by simpa using z
    subst this
    rw [hi] at x1
    cases x1
    rw [hdi] at x4
    cases x4
    simp at x5
  have hn:its.toArray.size=i:=by
   have:=rv.length
   simp
   omega
  subst hn
  obtain ⟨f0,f1,f2,f3,f4,f5⟩:=hfi
  exact wpAny_pyNext_enum_endD (L3.zeP (A:=X.A) it a hai its.toArray) he ⟨hit,p,I.hand,hin⟩ fun h' hx'=>⟨rfl,I.turned (t':=s.toks) (fun b o hb q=>hx' b o hb q) f0 f1 f3 f4 f5⟩
 self:=fun _ _ _ _ _ st h=>let ⟨⟨_,he⟩,_⟩:=st;wpAny_pyIter_enum he h
section
variable {X:Cx} {elts:List Expr} {k:Nat} {tpos:Pos}
noncomputable def zsk (K:W.Frag) (ta:TA):TI:=fun σ H R=>ta σ H fun vs H1=> ∃ a,vs=[.ref a]/\(∃ xs,SqT K H1 a xs)/\R (Ite K a) H1
theorem znO {l:Expr} {ta:TA} {p pos:Pos} (hg:Gl X "enumerate") (hm:X.mg "enumerate"=none) (ha:PA X [l] ta) (hs:starEach [l] X.env=[(false,eval l X.env)]:=by rfl):
  PI X (.Tuple elts k tpos) (.Call (.Name "enumerate" p) [l] [] pos) (zsk X.K ta):=by
 intro pins s σ H R I h
 refine Call_ (zfg I hg hm PyProof.Rows.boot_enumerate (PyProof.Rows.callWith_type1 (thn (ha pos pins s σ H _ I h) fun us s1 ⟨vs,H1,I1,r1,q1⟩=> ?_) hs rfl))
 obtain ⟨a,e,⟨xs,hq⟩,q⟩:=q1
 subst e
 cases r1 with
 | cons r rr=>
  cases rr
  cases r
  obtain ⟨its,rv,p,hz⟩:=I1.tuple hq
  refine L3.zdu (show s1.heap.IsTuple a its.toArray from p) fun h' he hit hsz kp=> ?_
  refine wpAny_pyIter_enum he ?_
  refine ⟨s1.heap.objs.size+1,[s1.heap.objs.size+1,s1.heap.objs.size],_,_,H1,rfl,I1.kept (t':=s1.toks) kp,zlg a _ _ (Nat.succ_ne_self _),⟨⟨_,he⟩,hit⟩,fun b hb=> ?_,q⟩
  have z:b=s1.heap.objs.size+1\/b=s1.heap.objs.size:=by simpa using hb
  rcases z with rfl | rfl
  ·exact I1.fpOk (Nat.le_succ _) (I1.hok.fresh (Nat.le_succ _))
  ·exact I1.fpOk (qaV _) (I1.hok.fresh (qaV _))
end
end L2
namespace L3
open PySem PySem.Spec PyProof.Rows L2
section
variable {X:Cx} {E:XE} {elts:List Expr} {k:Nat} {tpos pos:Pos}
noncomputable def zhd (ds:List D):List D:=(List.range ds.length).map fun (i:Nat)=> .tup [.int i,ds.getD i .non]
theorem zmi {K:W.Frag} {ι:Io} {H:Hp} {a:Addr} {vs:List V} {ds:List D} (h: ∀ ι' H',Pass ι H ι' H'->SqT K H' a vs) (rl:zas K ι H ds vs):zm2 K ι H (Ite K a) (zhd ds) where
 go:=fun ι' H' i s hi=>by
  have hi:i<ds.length:=by simpa [zhd] using hi
  obtain ⟨v,ev,_⟩:=zas.get rl (i:=i) (d:=ds[i]) (by simp [hi])
  exact ⟨vs,v,h ι' H' s,ev⟩
 yld:=fun ι' H' _ i x H2 s hr hi ⟨T,y,hT,e,e2,hy⟩=>by
  subst e e2
  have hi:i<ds.length:=by simpa [zhd] using hi
  obtain ⟨v,ev,rv⟩:=zas.get rl (i:=i) (d:=ds[i]) (by simp [hi])
  have ey:=hy vs (h ι' H' s)
  rw [ev] at ey
  cases ey
  refine ⟨.inr ⟨T,_,hT,rfl⟩,.tup [.int i,ds[i]],by simp [zhd,hi],?_⟩
  obtain ⟨st,hr2⟩:=zp2.step (.inr ⟨T,[.int i,y],hT,rfl⟩) hr
  have rv2:Rel K ι' (upd H' T (.tup [.int i,y])) ds[i] y:=(rv.pass s).step st
  simp only [Rel]
  exact ⟨T,_,rfl,⟨zaR,hr.nin hT⟩,zas.cons (by simp [Rel]) (zas.cons rv2 zas.nil)⟩
 stop:=fun ι' H' s=>⟨vs,h ι' H' s,by rw [<- rl.length];simp [zhd]⟩
noncomputable def zqh (f:FE):FA:=fun sd=>do
 let d<-f sd
 match d with
 | .tup ds=>pure (zhd ds)
 | _=>M.bad
theorem zmO {l:Expr} {f:FE} {p:Pos} (hm:X.mg "enumerate"=none) (he:SE X E l f) (hg:Gl X "enumerate":=by rfl) (hs:starEach [l] X.env=[(false,eval l X.env)]:=by rfl):SI X E (.Tuple elts k tpos) (.Call (.Name "enumerate" p) [l] [] pos) (zqh f):=by
 refine PI.imp (znO hg hm (zbE he zcM hs) hs) fun σ H Q ⟨ι,h,sd,L,hh,q⟩=>⟨ι,h,sd,L,hh,Fin.bind q fun d h1 ι1 H1 e1 s1 hr1 q1 v rv=> ?_⟩
 cases d with
 | tup ds=>
  obtain ⟨a,vs,e,h1',h2⟩:=zjR rv
  exact ⟨a,by rw [e],⟨vs,h1' _ _ (Pass.refl _ _)⟩,Fin.out hr1 q1 _ (zmi h1' h2)⟩
 | _=>exact qa0 q1
end
end L3
namespace L3
open PySem PyProof.Rows
section
open PySem.SeqAt
open PySem.AutoSeq1 (wpAny_loadPart')
open PySem.MeetsSeq PySem.MeetsSeq2 PySem.MeetsSeq3
section
variable {prog:Program} {w:World} {A:Around} {E:Value->Shared->Prop} {s:Shared}
end
def zkC (h:Heap) (v:Value) (p:Int×List Int):Prop:= ∃ (a q:Addr) (t:Tok) (its:List Value),v= .ref a/\IsTup h a #[.int p.1 t,.ref q]/\IsTup h q its.toArray/\IntsAre its p.2
theorem zkC.keep {h h':Heap} {v:Value} {p:Int×List Int} (k: ∀ b o,h.get? b=some o->h'.get? b=some o):zkC h v p->zkC h' v p:=fun ⟨a,q,t,its,e,⟨o,x1,x2⟩,⟨o',y1,y2⟩,z⟩=>⟨a,q,t,its,e,⟨o,k _ _ x1,x2⟩,⟨o',k _ _ y1,y2⟩,z⟩
end
end L3
namespace L3
open PySem
section
variable {prog:Program} {w:World} {A:Around} {R:Result->Shared->Prop} {I:Addr} {fp wr:List Addr} {n:Nat} {P:Nat->Value->Prop} {St:Nat->Heap->Prop} {h0:Heap}
end
section
variable {prog:Program} {w:World} {A:Around} {E:Value->Shared->Prop} {s:Shared}
end
end L3
namespace L2
open PySem PySem.Spec PyProof.Rows L3
section
variable {X:Cx}
end
end L2
namespace L3
open PySem PySem.Spec PyProof.Rows L2
section
variable {X:Cx} {E:XE}
noncomputable def zs1:FS:=fun _=>M.bad
theorem zrC {st:Stmt}:SS X E st zs1:=fun pins s σ H D I h=>by
 obtain ⟨ι,h,sd,L,hh,q⟩:=h
 exact qa0 q
end
section
variable {X:Cx} {E:XE}
noncomputable def zk2:List D->M D:=zo0 fun d=>do let ds<-zll d;zbf ds
theorem ziK:za0 X (.type "list") (zjm X.K E zk2):=by
 refine za0.imp zgD fun xs H Q ⟨ι,h,ds,rl,hr,q⟩=> ?_
 obtain ⟨d,v,e,r,q⟩:=zeF rl q
 obtain ⟨a,vs,ds',e',hs,rl',q⟩:=zdY hr r q
 exact ⟨a,vs,by rw [e,e'],zmp hs,fun l hl=>zsV hr rl' q hl⟩
noncomputable def zmQ (x y:D):M D:=fun h=>match pdH h x,pdH h y with
 | some a,some b=>if zfk a b=true then .ok (.bl (!PyData.eqv a b)) h else .bad
 | _,_=> .bad
theorem zmP (hu:X.A.units+60<cLine):OpR X (compareOp .NotEq) (zek X.K E zmQ):=by
 intro pins s σ H x y v u Q I rx ry ⟨ι,h,d1,d2,r1,r2,hr,q⟩
 unfold zmQ at q
 cases e1:pdH h d1 with
 | none=>rw [e1] at q;exact qa0 q
 | some a=>
  cases e2:pdH h d2 with
  | none=>rw [e1,e2] at q;exact qa0 q
  | some b=>
   rw [e1,e2] at q
   dsimp only at q
   by_cases c:zfk a b=true
   ·rw [qa4 c] at q
    obtain ⟨c1,c2,c3⟩:=zeE c
    obtain ⟨as,ra⟩:=zgF I hr r1 rx e1
    obtain ⟨bs,rb⟩:=zgF I hr r2 ry e2
    exact SeqAt.compareNe_reads ra rb c1 c2 (by omega) ⟨.bl _,H,I,rfl,q ι H (zbP.refl _ _) hr (.bl _) (by simp [Rel])⟩
   ·rw [qa5 c] at q
    exact qa0 q
noncomputable def zrq (d:D):M Bool:=do let ds<-zll d;pure (!ds.isEmpty)
noncomputable def zmz (f:FE):FT:=fun sd=>do let d<-f sd;zrq d
theorem zm0 {e:Expr} {f:FE} (h:SE X E e f) (he: ∀ whole,isTrue e X.env whole=(do let v<-whole;standAt e.pos;holding [v] (truthy v)):=by intro _;rfl):ST X E e (zmz f):=by
 refine PT.imp (zl1 h he) fun σ H Q ⟨ι,h,sd,L,hh,q⟩=>⟨ι,h,sd,L,hh,Fin.bind q fun d h1 ι1 H1 e1 s1 hr1 q1 v rv=> ?_⟩
 obtain ⟨a,vs,ds',e',hs,rl',q2⟩:=zdY hr1 rv q1
 have hl:=rl'.length
 have ee:(!ds'.isEmpty)= !vs.isEmpty:=by
  cases ds' with
  | nil=>
   cases vs with
   | nil=>rfl
   | cons _ _=>simp at hl
  | cons _ _=>
   cases vs with
   | nil=>simp at hl
   | cons _ _=>rfl
 rw [ee] at q2
 refine ⟨!vs.isEmpty,?_,Fin.out hr1 q2⟩
 rw [e']
 rcases zmp hs with z | z
 ·exact .inl ⟨vs,z,rfl⟩
 ·exact .inr (.inl ⟨vs,z,rfl⟩)
end
end L3
section
namespace TS
set_option autoImplicit false
open PySem PyProof PyProof.Rows
noncomputable abbrev Ga:Bool->Keyed->Array Keyed->Nat->Nat->Nat->StateT SortSt Sem (Option Nat):=sortPriv% PySem.Builtin.gallop
noncomputable abbrev Lt:Keyed->Keyed->StateT SortSt Sem (Option Bool):=sortPriv% PySem.Builtin.lt
noncomputable abbrev El:Array Keyed->Nat->StateT SortSt Sem Keyed:=sortPriv% PySem.Builtin.elem
structure Cx where
 prog:Program
 w:World
 A:Around
 E:Value->Shared->Prop
 s:Shared
 kd:SortKind
 O:KeyOrd
 ky:Value->O.α
 ok:Value->Prop
 cmp: ∀ (E':Value->Shared->Prop) (x y:Value) (Q:Bool->Shared->Prop),ok x->ok y->Q (O.blt (ky x) (ky y)) s->wpAny (model prog w) A (keyLt' kd x y) Q E' s
noncomputable abbrev Cx.wp (c:Cx) {α:Type} (m:StateT SortSt Sem α) (Q:α->SortSt->Prop) (st:SortSt):Prop:=wpS (model c.prog c.w) c.A c.E c.s m Q st
noncomputable def Cx.lt (c:Cx) (x y:Keyed):Bool:=c.O.blt (c.ky x.1) (c.ky y.1)
def Cx.le (c:Cx) (x y:Keyed):Prop:=c.lt y x=false
section
variable {c:Cx}
theorem Cx.le_refl (x:Keyed):c.le x x:=c.O.irrefl _
theorem Cx.le_of_lt {x y:Keyed} (h:c.lt x y=true):c.le x y:=KeyOrd.klt_asymm (O:=c.O) h
theorem Cx.le_trans {x y z:Keyed} (h:c.le x y) (h2:c.le y z):c.le x z:=KeyOrd.kle_trans (O:=c.O) h h2
end
end TS
end
section
namespace TS
set_option autoImplicit false
open PySem PyProof PyProof.Rows
noncomputable abbrev Sg:Nat->StateT SortSt Sem Unit:=sortPriv% PySem.Builtin.setMinGallop
structure Sm (st st':SortSt):Prop where
 k:kindOf st'=kindOf st
 a:arrOf st'=arrOf st
 p:pendingOf st'=pendingOf st
 f:failedOf st'=failedOf st
theorem Sm.refl (st:SortSt):Sm st st:=⟨rfl,rfl,rfl,rfl⟩
theorem Sm.g {st st':SortSt} (h:Sm st st') (n:Nat):Sm st (SortSt.mk' (kindOf st') (arrOf st') (pendingOf st') n (failedOf st')):=⟨h.k,h.a,h.p,h.f⟩
structure Mg (r:Keyed->Keyed->Prop) (O L R T:List Keyed):Prop where
 s:O.Pairwise r
 l: ∀ x,x∈O-> ∀ y,y∈L->r x y
 r: ∀ x,x∈O-> ∀ y,y∈R->r x y
 p:(O++(L++R)).Perm T
section
variable {r:Keyed->Keyed->Prop} {O L R T X:List Keyed}
theorem Mg.symm (h:Mg r O L R T):Mg r O R L T:=⟨h.s,h.r,h.l,(List.Perm.append_left O List.perm_append_comm).trans h.p⟩
theorem Mg.fin (h:Mg r O L R T) (hs:(L++R).Pairwise r):(O++(L++R)).Pairwise r/\(O++(L++R)).Perm T:=by
 refine ⟨?_,h.p⟩
 rw [qaq]
 refine ⟨h.s,hs,fun x hx y hy=> ?_⟩
 rcases qaK.mp hy with hy | hy
 ·exact h.l x hx y hy
 ·exact h.r x hx y hy
end
section
variable {c:Cx}
def srt (c:Cx) (a:Array Keyed):Prop:=a.toList.Pairwise c.le
def okA (c:Cx) (a:Array Keyed):Prop:= ∀ x,x∈a.toList->c.ok x.1
structure MgA (c:Cx) (a b out:Array Keyed) (ia ib:Nat):Prop where
 m:Mg c.le out.toList (a.toList.drop ia) (b.toList.drop ib) (a.toList++b.toList)
 z:out.size=ia+ib
 la:ia<=a.size
 lb:ib<=b.size
def Fi (c:Cx) (a b res:Array Keyed):Prop:=srt c res/\res.toList.Perm (a.toList++b.toList)
variable {a b out:Array Keyed} {ia ib k:Nat}
theorem MgA.done (h:MgA c a b out ia ib) (ha:srt c a) (hb:srt c b) (he:ia=a.size\/ib=b.size):Fi c a b (out++a.extract ia++b.extract ib):=by
 have e:(out++a.extract ia++b.extract ib).toList=out.toList++(a.toList.drop ia++b.toList.drop ib):=by
  simp [List.extract,List.take_of_length_le]
 have hs:(a.toList.drop ia++b.toList.drop ib).Pairwise c.le:=by
  rcases he with he | he
  ·rw [List.drop_eq_nil_of_le (by simp [he]),List.nil_append]
   exact List.Pairwise.sublist (List.drop_sublist _ _) hb
  ·rw [List.drop_eq_nil_of_le (as:=b.toList) (by simp [he]),List.append_nil]
   exact List.Pairwise.sublist (List.drop_sublist _ _) ha
 obtain ⟨h1,h2⟩:=h.m.fin hs
 exact ⟨by unfold srt;rw [e];exact h1,by rw [e];exact h2⟩
end
end TS
end
section
namespace TS
set_option autoImplicit false
open PySem PyProof PyProof.Rows
section
variable {c:Cx} {a b:Array Keyed}
theorem zke {α:Type} {p:Prop} [Decidable p] {x y:StateT SortSt Sem α} {Q:α->SortSt->Prop} {st:SortSt} (h1:p->c.wp x Q st) (h2: ¬p->c.wp y Q st):c.wp (if p then x else y) Q st:=by
 by_cases h:p
 ·rw [qa4 h];exact h1 h
 ·rw [qa5 h];exact h2 h
noncomputable abbrev StL:=ForInStep (Option (Array Keyed)×Array Keyed×Nat×Nat×Nat×Nat×Nat)
structure Ex (c:Cx) (a b:Array Keyed) (N:Nat) (Q:StL->SortSt->Prop) (st:SortSt):Prop where
 d1: ∀ res t,Fi c a b res->Q (.done (some res,t)) st
 d2: ∀ o i j t,MgA c a b o i j->i+1<a.size->j<b.size->N<=o.size->Q (.done (none,o,i,j,t)) st/\Q (.yield (none,o,i,j,t)) st
 hl: ∀ (o:Array Keyed) (i j:Nat),MgA c a b o i j->i+1=a.size->Fi c a b (o++b.extract j++a.extract i)
 ha:srt c a
 hb:srt c b
 oa:okA c a
 ob:okA c b
 hk:kindOf st=c.kd
section
variable {N:Nat} {Q:StL->SortSt->Prop} {st:SortSt} {o:Array Keyed} {i j g k l u v:Nat}
end
theorem zsB {β:Type} {n:Nat} {x:β} {f f':Nat->β->StateT SortSt Sem (ForInStep β)} (h: ∀ i r,f i r=f' i r):forIn [0:n] x f=forIn [0:n] x f':=by
 rw [show f=f' from funext fun i=>funext (h i)]
end
end TS
end
section
namespace TS
set_option autoImplicit false
open PySem PyProof PyProof.Rows
section
variable {c:Cx} {a b out:Array Keyed} {na nb at':Nat}
structure MgH (c:Cx) (a b out:Array Keyed) (na nb:Nat):Prop where
 m:Mg (fun x y=>c.le y x) out.toList (a.toList.take na).reverse (b.toList.take nb).reverse (a.toList++b.toList)
 z:out.size+na+nb=a.size+b.size
 la:na<=a.size
 lb:nb<=b.size
theorem zkd {l:Array Keyed} (n:Nat) (h:srt c l):((l.toList.take n).reverse).Pairwise (fun x y=>c.le y x):=by
 rw [List.pairwise_reverse]
 exact List.Pairwise.sublist (List.take_sublist _ _) h
theorem zjs {r:List Keyed} {O L R T:List Keyed} (h:Mg (fun x y=>c.le y x) O L R T) (hs:(L++R).Pairwise (fun x y=>c.le y x)) (e:r=(O++(L++R)).reverse):r.Pairwise c.le/\r.Perm T:=by
 obtain ⟨h1,h2⟩:=h.fin hs
 subst e
 exact ⟨by rw [List.pairwise_reverse];exact h1,(List.reverse_perm _).trans h2⟩
theorem MgH.done (h:MgH c a b out na nb) (ha:srt c a) (hb:srt c b) (he:na=0\/nb=0):Fi c a b (a.extract 0 na++b.extract 0 nb++out.reverse):=by
 have hs:((b.toList.take nb).reverse++(a.toList.take na).reverse).Pairwise (fun x y=>c.le y x):=by
  rcases he with he | he
  ·subst he;simpa using zkd nb hb
  ·subst he;simpa using zkd na ha
 exact zjs h.m.symm hs (by simp [List.extract])
theorem MgH.first (h:MgH c a b out na nb) (ha:srt c a) (_hb:srt c b) (he:nb=1) (hl: ∀ y,b[0]? = some y-> ∀ x,x∈a.toList->c.le y x):Fi c a b (b.extract 0 nb++a.extract 0 na++out.reverse):=by
 subst he
 have hlb:=h.lb
 have ed:b.toList.take 1=[b[0]]:=by
  obtain ⟨l⟩:=b
  cases l with
  | nil=>simp at hlb
  | cons x l=>simp
 have hs:((a.toList.take na).reverse++(b.toList.take 1).reverse).Pairwise (fun x y=>c.le y x):=by
  rw [ed,qaq]
  refine ⟨zkd na ha,List.pairwise_singleton _ _,?_⟩
  intro x hx y hy
  rw [List.mem_singleton.mp hy]
  exact hl _ (getElem?_pos b 0 (by omega)) x (List.mem_of_mem_take (List.mem_reverse.mp hx))
 exact zjs h.m hs (by simp [List.extract])
noncomputable abbrev H5:=Option (Array Keyed)×Nat×Nat×Array Keyed×Nat
noncomputable abbrev H6:=Option (Array Keyed)×Nat×Nat×Array Keyed×Nat×Nat
noncomputable abbrev H7:=Option (Array Keyed)×Nat×Nat×Array Keyed×Nat×Nat×Nat
def Hi (c:Cx) (a b:Array Keyed) (N:Nat) (p q:Nat) (o:Array Keyed):Prop:=MgH c a b o p q/\0<p/\1<q/\N<=o.size
structure Ey (c:Cx) (a b:Array Keyed) (N:Nat) (Q:ForInStep H7->SortSt->Prop) (st:SortSt):Prop where
 d1: ∀ res t,Fi c a b res->Q (.done (some res,t)) st
 d2: ∀ p q o t,Hi c a b N p q o->Q (.done (none,p,q,o,t)) st/\Q (.yield (none,p,q,o,t)) st
 hl: ∀ (o:Array Keyed) (i j:Nat),MgH c a b o i j->j=1->Fi c a b (b.extract 0 j++a.extract 0 i++o.reverse)
 ha:srt c a
 hb:srt c b
 oa:okA c a
 ob:okA c b
 hk:kindOf st=c.kd
noncomputable def U4 (a b:Array Keyed) (p q:Nat) (o:Array Keyed) (g k l:Nat):StateT SortSt Sem (ForInStep H7):=El a (p - 1)>>=fun z=>
 if (p - 1==0)=true then pure (.done (some (a.extract 0 (p - 1)++b.extract 0 q++(o.push z).reverse),p - 1,q,o.push z,g,k,l))
 else if (decide (k<7) && decide (l<7))=true then pure (.done (none,p - 1,q,o.push z,g,k,l)) else pure (.yield (none,p - 1,q,o.push z,g,k,l))
noncomputable def U3 (a b:Array Keyed) (p q:Nat) (o:Array Keyed) (g k v:Nat):StateT SortSt Sem (ForInStep H7):=El b (q - 1)>>=fun y=>
 if (q - 1==1)=true then pure (.done (some (b.extract 0 (q - 1)++a.extract 0 p++(o.push y).reverse),p,q - 1,o.push y,g,k,v))
 else El a (p - 1)>>=fun z=>Ga true z b 0 (q - 1) (q - 1 - 1)>>=fun x=>match x with
  | some l=>if q - 1 - l>0 then
    if (l==1)=true then pure (.done (some (b.extract 0 l++a.extract 0 p++(o.push y++(b.extract l (q - 1)).reverse).reverse),p,l,o.push y++(b.extract l (q - 1)).reverse,g,k,q - 1 - l))
    else if (l==0)=true then pure (.done (some (a.extract 0 p++b.extract 0 l++(o.push y++(b.extract l (q - 1)).reverse).reverse),p,l,o.push y++(b.extract l (q - 1)).reverse,g,k,q - 1 - l))
    else U4 a b p l (o.push y++(b.extract l (q - 1)).reverse) g k (q - 1 - l)
   else U4 a b p (q - 1) (o.push y) g k (q - 1 - l)
  | _=>pure (.done (some (a.extract 0 p++b.extract 0 (q - 1)++(o.push y).reverse),p,q - 1,o.push y,g,k,v))
noncomputable def U2 (a b:Array Keyed) (p q:Nat) (o:Array Keyed) (g u v:Nat):StateT SortSt Sem (ForInStep H7):=El b (q - 1)>>=fun y=>Ga false y a 0 p (p - 1)>>=fun x=>match x with
  | some k=>if p - k>0 then
    if (k==0)=true then pure (.done (some (a.extract 0 k++b.extract 0 q++(o++(a.extract k p).reverse).reverse),k,q,o++(a.extract k p).reverse,g,p - k,v))
    else U3 a b k q (o++(a.extract k p).reverse) g (p - k) v
   else U3 a b p q o g (p - k) v
  | _=>pure (.done (some (a.extract 0 p++b.extract 0 q++o.reverse),p,q,o,g,u,v))
noncomputable def Z1 (a b:Array Keyed) (g:Nat) (p q:Nat) (o:Array Keyed) (u v:Nat):StateT SortSt Sem (ForInStep H6):=El b (q - 1)>>=fun y=>El a (p - 1)>>=fun z=>Lt y z>>=fun x=>match x with
 | some w=>if w=true then El a (p - 1)>>=fun z=>if (p - 1==0)=true then pure (.done (some (a.extract 0 (p - 1)++b.extract 0 q++(o.push z).reverse),p - 1,q,o.push z,u+1,0)) else if u+1>=g then pure (.done (none,p - 1,q,o.push z,u+1,0)) else pure (.yield (none,p - 1,q,o.push z,u+1,0))
  else El b (q - 1)>>=fun y=>if (q - 1==1)=true then pure (.done (some (b.extract 0 (q - 1)++a.extract 0 p++(o.push y).reverse),p,q - 1,o.push y,0,v+1)) else if v+1>=g then pure (.done (none,p,q - 1,o.push y,0,v+1)) else pure (.yield (none,p,q - 1,o.push y,0,v+1))
 | _=>pure (.done (some (a.extract 0 p++b.extract 0 q++o.reverse),p,q,o,u,v))
noncomputable def Z2 (a b:Array Keyed) (p q:Nat) (o:Array Keyed) (g u v:Nat):StateT SortSt Sem (ForInStep H7):=
 if g>1 then Sg (g - 1)>>=fun _=>U2 a b p q o (g - 1) u v else Sg g>>=fun _=>U2 a b p q o g u v
section
variable {N:Nat} {Q:ForInStep H7->SortSt->Prop} {st:SortSt} {o:Array Keyed} {p q g k l u v:Nat}
end
end
end TS
end
section
namespace TS
set_option autoImplicit false
open PySem PyProof PyProof.Rows
structure Loc (xs ys:Array Keyed) (lo hi:Nat):Prop where
 p:ys.toList.Perm xs.toList
 o: ∀ i,i<lo\/hi<=i->ys[i]? = xs[i]?
theorem Loc.refl (xs:Array Keyed) (lo hi:Nat):Loc xs xs lo hi:=⟨List.Perm.refl _,fun _ _=>rfl⟩
theorem Loc.trans {xs ys zs:Array Keyed} {lo hi:Nat} (h:Loc xs ys lo hi) (h2:Loc ys zs lo hi):Loc xs zs lo hi:=⟨h2.p.trans h.p,fun i hi=>(h2.o i hi).trans (h.o i hi)⟩
theorem Loc.size {xs ys:Array Keyed} {lo hi:Nat} (h:Loc xs ys lo hi):ys.size=xs.size:=by simpa using h.p.length_eq
section
variable {c:Cx}
def sg (c:Cx) (xs:Array Keyed) (lo hi:Nat):Prop:= ∀ i j x y,lo<=i->i<=j->j<hi->xs[i]? = some x->xs[j]? = some y->c.le x y
end
end TS
end
section
namespace TS
set_option autoImplicit false
open PySem PyProof PyProof.Rows
noncomputable abbrev CR:Nat->Nat->StateT SortSt Sem (Option Nat):=sortPriv% PySem.Builtin.countRun
structure St (c:Cx) (a0:Array Keyed) (p0:Array (Nat×Nat×Nat)) (lo hi:Nat) (st:SortSt):Prop where
 k:kindOf st=c.kd
 f:failedOf st=none
 p:pendingOf st=p0
 l:Loc a0 (arrOf st) lo hi
section
variable {c:Cx} {a0:Array Keyed} {p0:Array (Nat×Nat×Nat)} {lo hi:Nat}
noncomputable def KV (c:Cx) (xs:Array Keyed) (i:Nat):c.O.α:=c.ky (xs[i]?.getD (.none,.none)).1
def up (c:Cx) (xs:Array Keyed) (lo hi:Nat):Prop:= ∀ i j,lo<=i->i<=j->j<hi->c.O.kle (KV c xs i) (KV c xs j)
def ek (c:Cx) (xs:Array Keyed) (lo hi:Nat):Prop:= ∀ i,lo<=i->i<hi->KV c xs i=KV c xs (hi - 1)
theorem St.set {st:SortSt} {xs:Array Keyed} (h:St c a0 p0 lo hi st) (hl:Loc (arrOf st) xs lo hi):St c a0 p0 lo hi (setArr st xs):=⟨h.k,h.f,h.p,h.l.trans hl⟩
theorem St.ok {st:SortSt} (h:St c a0 p0 lo hi st) (ho:okA c a0):okA c (arrOf st):=fun x hx=>ho x (h.l.p.mem_iff.mp hx)
end
end TS
end
section
namespace TS
set_option autoImplicit false
open PySem PyProof PyProof.Rows
section
variable {c:Cx}
noncomputable def chn (c:Cx) (xs:Array Keyed):List (Nat×Nat×Nat)->Nat->Nat->Prop
 | [],a,b=>a=b
 | t::r,a,b=>t.1=a/\0<t.2.1/\sg c xs a (a+t.2.1)/\chn c xs r (a+t.2.1) b
structure Rn (c:Cx) (a0:Array Keyed) (lo:Nat) (st:SortSt):Prop where
 k:kindOf st=c.kd
 f:failedOf st=none
 p:(arrOf st).toList.Perm a0.toList
 h:chn c (arrOf st) (pendingOf st).toList 0 lo
theorem Rn.size {a0:Array Keyed} {lo:Nat} {st:SortSt} (h:Rn c a0 lo st):(arrOf st).size=a0.size:=by simpa using h.p.length_eq
theorem Rn.ok {a0:Array Keyed} {lo:Nat} {st:SortSt} (h:Rn c a0 lo st) (ho:okA c a0):okA c (arrOf st):=fun x hx=>ho x (h.p.mem_iff.mp hx)
end
end TS
end
section
namespace TS
set_option autoImplicit false
open PySem PyProof PyProof.Rows
noncomputable def h6 (h:Heap) (a:Addr) (vs:List Value):Heap:=((h.update a (Obj.mapSeq fun _=> #[])).push (seqObj "tuple" vs.toArray 0)).push (seqObj "list" #[] 0)
def Srt (prog:Program) (w:World) (A:Around) (vs:List Value) (s1:Shared) (kd:SortKind) (O:KeyOrd) (ky:Value->O.α) (ok:Value->Prop):Prop:=
 (∀ v,v∈vs->ok v)/\ ∀ s2:Shared,(∀ b o,s1.heap.get? b=some o->s2.heap.get? b=some o)->
  (2<=vs.length-> ∀ (E:Value->Shared->Prop) (Q:SortKind->Shared->Prop),Q kd s2->wpAny (model prog w) A (keyKind' vs.toArray) Q E s2)/\
  ∀ (E:Value->Shared->Prop) (x y:Value) (Q:Bool->Shared->Prop),ok x->ok y->Q (O.blt (ky x) (ky y)) s2->wpAny (model prog w) A (keyLt' kd x y) Q E s2
end TS
end
namespace TS
set_option autoImplicit false
open PySem PyProof PyProof.Rows PySem.SeqAt
open PySem.MeetsSeq PySem.MeetsSeq2 PySem.MeetsSeq3
inductive Rs (A:Around) (s:Shared) (b:Bool):List ((Value×Value)×Nat)->Bool->Bool->Prop
 | nil (d:Bool):Rs A s b [] d d
 | eq {p q:Value} {i:Nat} {zbS:List ((Value×Value)×Nat)} {d r:Bool} (h:EqAt A s p q true) (t:Rs A s b zbS d r):Rs A s b (((p,q),i)::zbS) d r
 | ne {p q:Value} {i:Nat} {zbS:List ((Value×Value)×Nat)} {d l:Bool} (h:EqAt A s p q false) (t: ∀ (prog:Program) (w:World) (E:Value->Shared->Prop) (Q:Bool->Shared->Prop),Q l s->wpAny (model prog w) A (oneLt' (b && i==0) p q) Q E s):Rs A s b (((p,q),i)::zbS) d l
section
variable {prog:Program} {w:World} {A:Around} {s:Shared}
def znl (h:Heap) (v:Value) (ns:List Int):Prop:= ∃ (a:Addr) (its:List Value),v= .ref a/\IsTup h a its.toArray/\IntsAre its ns
end
end TS
namespace TS
set_option autoImplicit false
open PySem PyProof PyProof.Rows PySem.SeqAt
def ziy (h:Heap) (v:Value):Prop:= ∃ (a:Addr) (xs:Array Value) (n:Int) (t:Tok),v= .ref a/\IsTup h a xs/\xs[0]? = some (.int n t)
section
variable {prog:Program} {w:World} {A:Around} {s:Shared}
theorem zl4 {v:Value} (h:ziy s.heap v) {E:Value->Shared->Prop}:wpAny (model prog w) A (firstOfTuple' v) (fun r s'=>s'=s/\ ∃ n t,r=some (.int n t)) E s:=by
 obtain ⟨a,xs,n,t,rfl,⟨o,e1,e2,m,d⟩,hx⟩:=h
 refine qaW (wpAny_typeOf (T:="tuple") ⟨o,e1,e2⟩ ?_)
 have:(Value.type "tuple" != Value.type "tuple")=false:=by rfl
 rw [this]
 refine qaW (listItems_at e1 d (qaX ⟨rfl,n,t,hx⟩))
theorem zgW {E:Value->Shared->Prop}: ∀ (vs:List Value),(∀ v,v∈vs->ziy s.heap v)->wpAny (model prog w) A (vs.mapM firstOfTuple') (fun r s'=>s'=s/\ ∃ us ns,IntsAre us ns/\r=us.map some/\us.length=vs.length) E s
 | [],_=>by rw [List.mapM_nil];exact qaX ⟨rfl,[],[],.nil,rfl,rfl⟩
 | v::vs,h=>by
  rw [List.mapM_cons]
  refine qaW (qaZ (zl4 (h v (qau ..))) ?_ fun _ _ e=>e)
  rintro r s' ⟨es,n,t,rfl⟩
  rw [es]
  refine qaW (qaZ (zgW vs fun u hu=>h u (qan _ hu)) ?_ fun _ _ e=>e)
  rintro r s' ⟨es,us,ns,h1,rfl,h3⟩
  rw [es]
  exact qaX ⟨rfl,.int n t::us,n::ns,.cons n t h1,rfl,by simp [h3]⟩
theorem znq {vs:List Value} (h: ∀ v,v∈vs->ziy s.heap v) (h0:2<=vs.length) {E:Value->Shared->Prop} {Q:SortKind->Shared->Prop} (hq:Q (tuples' true) s):wpAny (model prog w) A (keyKind' vs.toArray) Q E s:=by
 rw [keyKind'_eq,List.mapM_toArray,map_eq_pure_bind,bind_assoc]
 refine qaW (qaZ (zgW vs h) ?_ fun _ _ e=>e)
 rintro r s' ⟨rfl,us,ns,h1,rfl,h3⟩
 rw [pure_bind]
 rw [qa4 (by simp)]
 refine qaW (wpAny_rule ?_)
 have e1:Array.filterMap id (us.map some).toArray=us.toArray:=by simp
 rw [e1,oneTypeOnly'_eq,List.mapM_toArray,mapM_typeOf_ints h1]
 simp only [map_pure,pure_bind]
 obtain ⟨u,us',rfl⟩: ∃ u us',us=u::us':=by
  cases us with
  | nil=>simp at h3;omega
  | cons u us'=>exact ⟨u,us',rfl⟩
 have hall:((List.map (fun _=>Value.type "int") (u::us')).toArray.all fun x=>x==Value.type "int")=true:=by
  simp only [List.all_toArray,List.all_map,List.all_eq_true]
  intro _ _
  rfl
 have h0':(List.map (fun _=>Value.type "int") (u::us')).toArray[0]? = some (Value.type "int"):=by simp
 rw [h0']
 simp only [hall,if_true,pure_bind]
 exact qaX hq
end
theorem znl.keep {h h':Heap} {v:Value} {p:List Int} (k: ∀ b o,h.get? b=some o->h'.get? b=some o):znl h v p->znl h' v p:=fun ⟨a,its,e,⟨o,x1,x2⟩,z⟩=>⟨a,its,e,⟨o,k _ _ x1,x2⟩,z⟩
structure KR where
 O:KeyOrd
 dflt:O.α
 At:Heap->Value->O.α->Prop
 inj: ∀ {h v p q},At h v p->At h v q->p=q
 keep: ∀ {h h':Heap} {v p},(∀ b o,h.get? b=some o->h'.get? b=some o)->At h v p->At h' v p
 first: ∀ {h v p},At h v p->ziy h v
 lt: ∀ {prog:Program} {w:World} {A:Around} {s:Shared} {E:Value->Shared->Prop} {Q:Bool->Shared->Prop} {u v p q},At s.heap v p->At s.heap u q->A.units+2<cLine->Q (O.blt p q) s->wpAny (model prog w) A (keyLt' (tuples' true) v u) Q E s
open Classical in
noncomputable def KR.ky (k:KR) (h:Heap) (v:Value):k.O.α:=if e: ∃ p,k.At h v p then e.choose else k.dflt
theorem KR.ky_eq {k:KR} {h:Heap} {v:Value} {p:k.O.α} (e:k.At h v p):k.ky h v=p:=by
 unfold KR.ky
 rw [dif_pos ⟨p,e⟩]
 exact k.inj (Exists.choose_spec ⟨p,e⟩) e
theorem KR.srt (k:KR) {prog:Program} {w:World} {A:Around} {vs:List Value} {s1:Shared} (hr:A.units+2<cLine) (h: ∀ v,v∈vs-> ∃ p,k.At s1.heap v p):Srt prog w A vs s1 (tuples' true) k.O (k.ky s1.heap) (fun v=> ∃ p,k.At s1.heap v p):=by
 refine ⟨h,fun s2 hk=>⟨fun h2 E Q hq=>znq (fun v hv=> ?_) h2 hq,fun E x y Q hx hy hq=> ?_⟩⟩
 ·obtain ⟨p,hp⟩:=h v hv
  exact k.first (k.keep hk hp)
 ·obtain ⟨p,hp⟩:=hx
  obtain ⟨q,hq'⟩:=hy
  rw [KR.ky_eq hp,KR.ky_eq hq'] at hq
  exact k.lt (k.keep hk hp) (k.keep hk hq') hr hq
end TS
namespace TS
set_option autoImplicit false
open PySem PyProof.Rows
end TS
namespace L2
open PySem PySem.Spec PyProof.Rows TS
section
variable {X:L2.Cx}
end
end L2
namespace L3
open PySem PySem.Spec PyProof.Rows L2 TS
section
variable {X:L2.Cx} {E:XE}
end
end L3
namespace L3
open PySem PySem.Spec PyProof.Rows L2
section
variable {X:Cx} {E:XE}
end
section
variable {X:Cx} {E:XE} {scope:Scope} {N:List Str} {src:List (Option Nat)} {tg iter elt:Expr} {ifs:List Expr} {pos:Pos}
theorem ztp {K:W.Frag} {g:D->Sd->M Sd} {tc:Sd->M Bool} {te:Sd->M D} {J:It} {ds:List D} {ι:Io} {H:Hp} {h:Hh} {sd:Sd} {σ:L2.St} {Q:VK} {p:Addr} (hk:zaA g src) (L:zcj K ι H sd σ) (hr:zbc K ι H h) (ok:zm2 K ι H J ds) (hz:ds.length<=sizeLine)
  (q:Fin K E ι H ((do let ys<-zbX (zaZ g tc te (zai src sd)) ds;zbf ys) h) fun d ι' H'=> ∀ v,Rel K ι' H' d v->Q v H') (hp:H p=none):
  zro J (zp7 K E g) (zfn K E tc) (zhm K E te) (bStart src σ) H p fun H'=>Q (.ref p) H':=by
 generalize hP:(fun (d:D) (ι':Io) (H':Hp)=> ∀ v,Rel K ι' H' d v->Q v H')=P at q
 generalize hf:zaZ g tc te (zai src sd)=f at q
 have hpx:p∉ι.x:=fun z=>hr.nin hp (.inr z)
 have h0len:(zai src sd).length=src.length:=by unfold zai;rw [qaH]
 have h0non: ∀ (i:Nat),src[i]? = some none->(zai src sd)[i]? = some none:=fun i e=>by unfold zai;rw [List.getElem?_map,e];rfl
 refine ⟨fun i m σ' H'=>m=ds.length - i/\i<=ds.length/\ ∃ ι' h' done vs,ι'.x=p::ι.x/\zbP ι H ι'.show H'/\zcj K ι' H' (zai src sd) σ'/\zbc K ι' H' h'/\H' p=some (.lst vs)/\zas K ι' H' done vs/\done.length<=i/\
     Fin K E ι H ((do let ys<-zbX f (ds.drop i);zbf (done++ys)) h') P,
   ⟨_,rfl,Nat.zero_le _,ι.hide p,h,[],[],rfl,?_,L.bStart.pass (zfe hp),hr.hide hp,zaR,zas.nil,qaV _,?_⟩,?_⟩
 ·have:=hr.laidS (o:= .lst []) hp
  exact ⟨this.old,this.new,this.hid,this.hidk,this.keep⟩
 ·simpa using q
 rintro i m σ2 H2 ⟨rfl,hi2,ι2,h2,done,vs,hx2,s2,L2,hr2,e2,rl2,dl2,q2⟩
 have ps2:Pass ι H ι2 H2:=⟨s2.old,fun b o hb n=>⟨s2.keep b o hb n,fun z=>by
   rcases z with z | z
   · exact s2.nin hb n (.inl z)
   · rw [hx2] at z
     rcases qaP.mp z with z | z
     · rw [z,hp] at hb;cases hb
     · exact n (.inr z)⟩⟩
 have hp2:p∈ι2.x:=by rw [hx2];exact qau
 have base: ∀ {ι':Io} {H':Hp},zbP ι2 H2 ι' H'->zbP ι H ι'.show H':=fun t=>s2.trans (t.shown hx2)
 by_cases hlt:i<ds.length
 ·right
  refine ⟨ok.go ι2 H2 i ps2 hlt,fun σ' H'=>i+1<=ds.length/\ ∃ ι' h' done vs,ι'.x=p::ι.x/\zbP ι H ι'.show H'/\zcj K ι' H' (zai src sd) σ'/\zbc K ι' H' h'/\H' p=some (.lst vs)/\zas K ι' H' done vs/\done.length<=i+1/\
    Fin K E ι H ((do let ys<-zbX f (ds.drop (i+1));zbf (done++ys)) h') P,fun σ' H' z=>⟨ds.length - (i+1),by omega,rfl,z.1,z.2⟩,fun x H3 y=> ?_⟩
  obtain ⟨gr,d,ed,rd⟩:=ok.yld ι2 H2 h2 i x H3 ps2 hr2 hlt y
  obtain ⟨s3,hr3⟩:=gr.step hr2
  have edr:ds.drop i=d::ds.drop (i+1):=by
   rw [qae hlt]
   rw [qaf hlt] at ed
   rw [Option.some.inj ed]
  rw [edr] at q2
  have q3:=q2
  have st3:zbP ι2 H2 ι2 H3:=s3
  have e3:H3 p=some (.lst vs):=by rw [s3.hidk p hp2];exact e2
  have eq1:(do let ys<-zbX f (d::ds.drop (i+1));zbf (done++ys):M D)=(g d (zai src sd)>>=fun sd1=>tc sd1>>=fun c=>if c=true then (te sd1>>=fun y=>zbX f (ds.drop (i+1))>>=fun ys=>zbf (done++[y]++ys)) else (zbX f (ds.drop (i+1))>>=fun ys=>zbf (done++ys))):=by
   rw [zbX]
   rw [<- hf]
   simp only [zaZ,bind_assoc]
   refine congrArg _ (funext fun sd1=> ?_)
   refine congrArg _ (funext fun c=> ?_)
   cases c with
   | true=>simp only [if_true,bind_assoc,pure_bind,List.append_assoc,List.cons_append,List.nil_append]
   | false=>simp only [qax,if_false,pure_bind]
  rw [eq1] at q3
  refine ⟨ι2,h2,zai src sd,d,L2.step s3,hr3,rd,?_⟩
  refine Fin.bindB q3 (fun ι' H' h' s hr'=>⟨ι'.show,base (s3.trans s),hr'.show⟩) fun sd4 h4 ι4 H4 e4 s4 hr4 q4 σ4 L4=> ?_
  have hx4:ι4.x=p::ι.x:=by rw [s4.hid];exact hx2
  obtain ⟨k1,k2⟩:=hk d _ h2 sd4 h4 h0len h0non e4
  refine ⟨ι4,h4,sd4,L4,hr4,Fin.bindB q4 (fun ι' H' h' s hr'=>⟨ι'.show,base ((s3.trans s4).trans s),hr'.show⟩) fun c h5 ι5 H5 e5 s5 hr5 q5=> ?_⟩
  have hx5:ι5.x=p::ι.x:=by rw [s5.hid];exact hx4
  have sub: ∀ {ι':Io} {H':Hp},zcj K ι' H' sd4 σ4->zcj K ι' H' (zai src sd) σ4:=fun {ι' H'} z=>⟨by rw [<- k1];exact z.1,fun j d' e=>z.2 j d' (k2 j d' (fun w=>by rw [h0non j w] at e;cases e) e)⟩
  have st5:zbP ι2 H2 ι5 H5:=(s3.trans s4).trans s5
  cases c with
  | false=>
   exact zoP ⟨hlt,ι5,h5,done,vs,hx5,base st5,sub (L4.step s5),hr5,by rw [st5.hidk p hp2];exact e2,rl2.step st5,Nat.le_succ_of_le dl2,q5⟩
  | true=>
   refine zoF ⟨ι5,h5,sd4,L4.step s5,hr5,Fin.bindB q5 (fun ι' H' h' s hr'=>⟨ι'.show,base (st5.trans s),hr'.show⟩) fun yd h6 ι6 H6 e6 s6 hr6 q6 y ry=> ?_⟩
   have st6:zbP ι2 H2 ι6 H6:=st5.trans s6
   have hx6:ι6.x=p::ι.x:=by rw [s6.hid];exact hx5
   have hp6:p∈ι6.x:=by rw [hx6];exact qau
   have e6':H6 p=some (.lst vs):=by rw [st6.hidk p hp2];exact e2
   refine ⟨vs,e6',by rw [<- rl2.length];omega,hlt,ι6,h6,done++[yd],vs++[y],hx6,zgN hp hpx hx2 s2 st6,?_,hr6.hid hp6,zaR,?_,?_,?_⟩
   ·exact ((sub (L4.step s5)).step s6).pass (zea hp6)
   ·exact ((rl2.step st6).append (zas.cons ry zas.nil)).pass (zea hp6)
   ·rw [qav,List.length_singleton];omega
   ·exact q6
 ·left
  have e:i=ds.length:=by omega
  subst e
  refine ⟨ok.stop ι2 H2 ps2,?_⟩
  rw [List.drop_length] at q2
  have hin:p∈ι2.x:=hp2
  have hpc:some p∉ι2.c:=(hr2.hidt p hin).2
  have htl:ι2.x.tail=ι.x:=by rw [hx2];rfl
  have q3:Fin K E ι H (zbf done h2) P:=by
   have:Fin K E ι H ((zbf (done++[]):M D) h2) P:=q2
   rw [List.append_nil] at this
   exact this
  have hmem: ∀ a,some a∈ι2.c++[some p]↔some a∈ι2.c\/a=p:=fun a=>by simp
  have ps:Pass ι2 H2 ⟨ι2.c++[some p],ι.x⟩ H2:=by
   refine ⟨fun n o h=> .inl ?_,fun b o hb n=>⟨hb,fun z=> ?_⟩⟩
   ·show (ι2.c++[some p])[n]? = _
    rw [qad (qac.mp h).1]
    exact h
   ·rcases z with z | z
    ·rcases (hmem b).mp z with z | z
     ·exact n (.inl z)
     ·exact n (.inr (z▸hin))
    ·exact n (.inr (by rw [hx2];exact qan _ z))
  have st:zbP ι H ⟨ι2.c++[some p],ι.x⟩ H2:=by
   refine ⟨fun n o h=> ?_,fun a h=> ?_,rfl,s2.hidk,s2.keep⟩
   ·rcases s2.old n o h with z | z
    ·left
     have z:ι2.c[n]? = some o:=z
     show (ι2.c++[some p])[n]? = _
     rw [qad (qac.mp z).1]
     exact z
    ·right
     have z:ι2.c[n]? = some none:=z
     show (ι2.c++[some p])[n]? = _
     rw [qad (qac.mp z).1]
     exact z
   ·rcases (hmem a).mp h with z | z
    ·exact s2.new a z
    ·exact .inr (z▸hp)
  have hr3:zbc K ⟨ι2.c++[some p],ι.x⟩ H2 (h2++[.lst done]):=by
   have hl:=hr2.len
   refine ⟨by simp [hl],fun a b c ha hb=> ?_,fun n a c ha hc=> ?_,fun n hn=> ?_,fun a ha=> ?_⟩
   ·have ha:(ι2.c++[some p])[a]? = some (some c):=ha
    have hb:(ι2.c++[some p])[b]? = some (some c):=hb
    have key: ∀ n,(ι2.c++[some p])[n]? = some (some c)->(n<ι2.c.length/\ι2.c[n]? = some (some c))\/(n=ι2.c.length/\c=p):=fun n hn=>by
     by_cases hlt':n<ι2.c.length
     ·rw [qad hlt'] at hn
      exact .inl ⟨hlt',hn⟩
     ·have:=(qac.mp hn).1
      rw [qav,List.length_singleton] at this
      have e:n=ι2.c.length:=by omega
      subst e
      rw [qaa (qaV _)] at hn
      simp at hn
      exact .inr ⟨rfl,hn.symm⟩
    rcases key a ha with ⟨l1,a1⟩ | ⟨a1,a2⟩<;>rcases key b hb with ⟨l2,b1⟩ | ⟨b1,b2⟩
    ·exact hr2.inj a b c a1 b1
    ·exact absurd (List.mem_of_getElem? a1) (b2▸hpc)
    ·exact absurd (List.mem_of_getElem? b1) (a2▸hpc)
    ·omega
   ·have ha:(ι2.c++[some p])[n]? = some (some a):=ha
    by_cases hlt':n<ι2.c.length
    ·rw [qad hlt'] at ha
     rw [qad (by omega)] at hc
     obtain ⟨o',e2',e3'⟩:=hr2.at_ n a c ha hc
     exact ⟨o',e2',e3'.pass ps⟩
    ·have:=(qac.mp ha).1
     rw [qav,List.length_singleton] at this
     have e:n=ι2.c.length:=by omega
     subst e
     rw [qaa (qaV _)] at ha
     rw [<- hl,qaa (qaV _)] at hc
     simp at ha hc
     subst ha
     subst hc
     exact ⟨_,e2,vs,rfl,rl2.pass ps⟩
   ·have hn:(ι2.c++[some p])[n]? = some none:=hn
    by_cases hlt':n<ι2.c.length
    ·rw [qad hlt'] at hn
     rw [qad (by omega)]
     exact hr2.dead n hn
    ·have:=(qac.mp hn).1
     rw [qav,List.length_singleton] at this
     have e:n=ι2.c.length:=by omega
     subst e
     rw [qaa (qaV _)] at hn
     simp at hn
   ·have h1:=hr2.hidt a (by rw [hx2];exact qan _ ha)
    exact ⟨h1.1,fun z=>by
      rcases (hmem a).mp z with z | z
      · exact h1.2 z
      · exact hpx (z▸ha)⟩
  have q4:P (.cel h2.length) ⟨ι2.c++[some p],ι.x⟩ H2:=q3 _ _ st hr3
  rw [<- hP] at q4
  refine q4 (.ref p) ?_
  simp only [Rel]
  refine ⟨p,rfl,.inl ?_⟩
  show (ι2.c++[some p])[h2.length]? = _
  rw [hr2.len,qaa (qaV _)]
  simp
noncomputable def zfu (fi:Sd->M (List D)) (g:D->Sd->M Sd) (tc:Sd->M Bool) (te:Sd->M D) (src:List (Option Nat)):Sd->M D:=fun sd=>do
 let ds<-fi sd
 fits ds.length
 let ys<-zbX (zaZ g tc te (zai src sd)) ds
 zbf ys
theorem zlq {K:W.Frag} {fi:Sd->M (List D)} {g:D->Sd->M Sd} {tc:Sd->M Bool} {te:Sd->M D} (hk:zaA g src) (σ:L2.St) (H:Hp) (Q:VK) (q:zhm K E (zfu fi g tc te src) σ H Q):
  zlG (zr4 K E fi) (zp7 K E g) (zfn K E tc) (zhm K E te) src σ H Q:=by
 obtain ⟨ι,h,sd,L,hh,q⟩:=q
 refine ⟨ι,h,sd,L,hh,Fin.bind q fun ds h1 ι1 H1 e1 s1 hr1 q1 J ok p hp=> ?_⟩
 obtain ⟨z,q2⟩:=Fin.fits q1
 exact ztp hk (L.step s1) hr1 ok z q2 hp
theorem zoN {fi:FA} {g:D->Sd->M Sd} {tc:FT} {te:FE} (hc:X.calm=true) (B:BOk X scope N src) (hk:zaA g src) (hi:SI X E tg iter fi)
  (hg: ∀ s H fp,SG (cxB X scope N s H fp) E tg g) (ht: ∀ s H fp,SCs (cxB X scope N s H fp) E ifs tc) (he: ∀ s H fp,SE (cxB X scope N s H fp) E elt te)
  (hs: ∀ x,foldedSetIterable iter X.env x=pure x:=by intro _;rfl):SE X E (.ListComp elt [⟨tg,iter,ifs,0⟩] scope pos) (zfu fi g tc te src):=
 PE.imp (zkz B hi hg ht he hs) (zlq hk)
noncomputable def zn2 (d:D):M D:=match d with
 | .cel n=>fun h=>match h[n]? with
  | some (.lst ds)=> .ok (.lst ds) (h.set n .dead)
  | _=> .bad
 | _=>M.bad
theorem zmv {e:Expr} {f:FE} (he:SE X E e f):SE X E e (cUn zn2 f):=by
 refine PE.imp he fun σ H Q ⟨ι,h,sd,L,hh,q⟩=>⟨ι,h,sd,L,hh,Fin.bind q fun d h1 ι1 H1 e1 s1 hr1 q1 v rv=> ?_⟩
 cases d with
 | cel n=>
  simp only [Rel] at rv
  obtain ⟨a,rfl,hn⟩:=rv
  rcases hn with hn | hn
  rotate_left
  ·have hd:=hr1.dead n hn
   have:Fin X.K E ι1 H1 (match h1[n]? with | some (.lst ds)=>R.ok (D.lst ds) (h1.set n .dead) | _=> .bad) _:=q1
   rw [hd] at this
   exact qa0 this
  have hlt:=(qac.mp hn).1
  have hl:=hr1.len
  obtain ⟨c,hc⟩: ∃ c,h1[n]? = some c:=⟨h1[n],by simp [hl,hlt]⟩
  obtain ⟨ds,vs,rfl,e2,rl⟩: ∃ ds vs,c= .lst ds/\H1 a=some (.lst vs)/\zas X.K ι1 H1 ds vs:=by
   obtain ⟨o,e1,e2⟩:=hr1.at_ n a c hn hc
   cases c with
   | lst ds=>obtain ⟨vs,rfl,rl⟩:=e2;exact ⟨ds,vs,rfl,e1,rl⟩
   | dic kvs=>
    have:Fin X.K E ι1 H1 (match h1[n]? with | some (.lst ds)=>R.ok (D.lst ds) (h1.set n .dead) | _=> .bad) _:=q1
    rw [hc] at this
    exact qa0 this
   | dead=>exact qa0 e2
  have q2:Fin X.K E ι1 H1 (.ok (.lst ds) (h1.set n .dead)) fun d ι' H'=> ∀ v,Rel X.K ι' H' d v->Q v H':=by
   have:Fin X.K E ι1 H1 (match h1[n]? with | some (.lst ds)=>R.ok (D.lst ds) (h1.set n .dead) | _=> .bad) _:=q1
   rw [hc] at this
   exact this
  have mem: ∀ b,some b∈ι1.c.set n none->some b∈ι1.c:=fun b hb=>by
   rcases List.mem_or_eq_of_mem_set hb with z | z
   ·exact z
   ·cases z
  have st:zbP ι1 H1 ⟨ι1.c.set n none,ι1.x⟩ H1:=by
   refine ⟨fun k o hk=> ?_,fun b hb=> .inl (mem b hb),rfl,fun _ _=>rfl,fun _ _ h _=>h⟩
   by_cases hkn:n=k
   ·subst hkn
    right
    show (ι1.c.set n none)[n]? = _
    rw [qai hlt]
   ·left
    show (ι1.c.set n none)[k]? = _
    rw [qao hkn]
    exact hk
  have hna:some a∉ι1.c.set n none:=fun z=>by
   obtain ⟨k,hk⟩:=List.getElem?_of_mem z
   by_cases hkn:n=k
   ·subst hkn
    rw [qai hlt] at hk
    cases hk
   ·rw [qao hkn] at hk
    exact hkn (hr1.inj n k a hn hk)
  have hrn:zbc X.K ⟨ι1.c.set n none,ι1.x⟩ H1 (h1.set n .dead):=by
   refine ⟨by simp [hl],fun i j b hi hj=> ?_,fun k b c' hk hc'=> ?_,fun k hk=> ?_,fun b hb=>⟨(hr1.hidt b hb).1,fun z=>(hr1.hidt b hb).2 (mem b z)⟩⟩
   ·have hi:(ι1.c.set n none)[i]? = some (some b):=hi
    have hj:(ι1.c.set n none)[j]? = some (some b):=hj
    have key: ∀ k,(ι1.c.set n none)[k]? = some (some b)->ι1.c[k]? = some (some b):=fun k hk=>by
     by_cases hkn:n=k
     ·subst hkn
      rw [qai hlt] at hk
      cases hk
     ·rw [qao hkn] at hk
      exact hk
    exact hr1.inj i j b (key i hi) (key j hj)
   ·have hk:(ι1.c.set n none)[k]? = some (some b):=hk
    by_cases hkn:n=k
    ·subst hkn
     rw [qai hlt] at hk
     cases hk
    ·rw [qao hkn] at hk hc'
     obtain ⟨o',x2,x3⟩:=hr1.at_ k b c' hk hc'
     exact ⟨o',x2,x3.pass st.pass⟩
   ·have hk:(ι1.c.set n none)[k]? = some none:=hk
    by_cases hkn:n=k
    ·subst hkn
     rw [qai (by omega)]
    ·rw [qao hkn] at hk ⊢
     exact hr1.dead k hk
  refine q2 _ _ st hrn (.ref a) ?_
  simp only [Rel]
  refine ⟨a,vs,rfl,⟨e2,fun z=> ?_⟩,rl.step st⟩
  rcases z with z | z
  ·exact hna z
  ·exact (hr1.hidt a z).2 (List.mem_of_getElem? hn)
 | _=>exact qa0 q1
end
end L3
namespace L3
open PySem
open Sem (wp)
open AutoSeq1 (wpAny_loadPart')
section
variable {prog:Program} {w:World} {A:Around} {E:Value->Shared->Prop} {s:Shared}
theorem zez {it l:Addr} {i:Nat} {items:Array Value} {Q:Value->Shared->Prop} (hh:zjo A s.heap) (hit:s.heap.IsListIter it l i) (hl:s.heap.IsList l items) (hx:items[i]? = none)
  (hE: ∀ h' e,Heap.ExtBut it s.heap h'->(∃ o,h'.get? e=some o/\o.cls= .type "StopIteration")->E (.ref e) {s with heap:=h'}):wpAny (model prog w) A (Builtin.SmallTypes.nextOf (.ref it)) Q E s:=by
 obtain ⟨o,h1,h2,h3⟩:=id hit
 obtain ⟨ol,l1,_,nl,l2⟩:=hl
 unfold Builtin.SmallTypes.nextOf
 refine qaW (wpAny_callSpecial?_slot (name:=Str.ofString "__next__") hit.typeIs slot_listiter_next
   (wpAny_call_entry slot_listiter_next hit.typeIs entry_listiter_next ?_ (args_listiter_next _)))
 show wpAny _ _ (field (.ref it) 0>>=_) _ _ s
 refine qaW (wpAny_field h1 h3 (x:= .ref l) rfl ?_)
 show wpAny _ _ (if (Value.ref l==Value.none)=true then _ else _) _ _ s
 rw [qa5 (show ¬(Value.ref l==Value.none)=true from nofun)]
 show wpAny _ _ (field (.ref it) 1>>=_) _ _ s
 refine qaW (wpAny_field h1 h3 (x:= .int i 0) rfl ?_)
 show wpAny _ _ (seqItems? (.ref l)>>=_) _ _ s
 refine qaW (wpAny_seqItems l1 l2 ?_)
 simp only [qaB,hx]
 refine qaW (wpAny_rule (qaW (wpAny_setField h1 h3 (by simp) ?_)))
 show wpAny _ _ (newExc (.type "StopIteration") []>>=_) _ _ _
 refine qaW ?_
 simp only [newExc,newTuple]
 refine qaW (qaC ?_ (by size_fits))
 refine qaW (m:=firstArgMember _ _) (wpAny_of_eq (a:=Value.none) (by first | rfl | (simp only [firstArgMember];rfl)) ?_)
 refine qaC ?_ (by size_fits)
 rcases hh with hh | ⟨ha,cls,head,hh,hX⟩
 ·simp only [raiseNew]
  refine qaW (wpAny_handled ?_)
  first | rw [show A.in1.handled=none from hh] | rw [hh]
  refine qaW (qaX (wpAny_throw ?_))
  exact hE _ _ (((Heap.SameBut.update ..).extBut.push _).push _) ⟨_,qar _ rfl,rfl⟩
 have nit:ha≠it:=fun z=>by
  subst z
  obtain ⟨ob,vs,x1,_,_,x4,x5,x6⟩:=hX
  rw [h1] at x1
  cases x1
  rw [h3] at x4
  cases x4
  simp at x5
 have hX1:zhI (s.heap.update it (Obj.mapFields (·.setIfInBounds 0 Value.none))) ha cls head:=by
  obtain ⟨ob,vs,x1,x2⟩:=hX
  exact ⟨ob,vs,(qah _ _ (Ne.symm nit)).trans x1,x2⟩
 obtain ⟨ob,vs,x1,x2⟩:=hX1
 have y1:=qag {cls:= .type "tuple",dict:=none,data:= .seq [].toArray} x1
 refine zcR (h:=ha) (cls:=cls) (head:=head) hh ⟨ob,vs,qag _ y1,x2⟩ (qar _ rfl) rfl (by simp;omega) (qaR (qaQ y1)) ?_
 refine hE _ _ (fun b o hb z=> ?_) ⟨_,qal _ (qar _ rfl) rfl,rfl⟩
 have z1:(s.heap.update it (Obj.mapFields (·.setIfInBounds 0 Value.none))).get? b=some o:=(qah _ _ (Ne.symm hb)).trans z
 have z2:=qag {cls:= .type "tuple",dict:=none,data:= .seq [].toArray} z1
 rw [qah _ _ (Nat.ne_of_gt (qaQ z2))]
 exact qag _ z2
end
theorem zfi {prog:Program} {w:World} {A:Around} (it l:Addr) (hne:l≠it) (items:Array Value):
  Draws prog w A.in1 it (it::l::zbj A) items.size (fun i v=>items[i]? = some v) (fun i h=>h.IsListIter it l i/\h.IsList l items/\zjo A h/\it∉zbj A) where
 live:=fun _ _ st=>let ⟨o,ho,_⟩:=st.1;⟨o,ho⟩
 frame:=fun _ _ _ st hk=>⟨st.1.at fun o e=>hk it (by simp) o e,st.2.1.at fun o e=>hk l (by simp) o e,st.2.2.1.keep fun b hb o e=>hk b (by simp [hb]) o e,st.2.2.2⟩
 item:=fun i s Q E hi st hQ=>by
  refine wpAny_nextOf_list_item st.1 st.2.1 (x:=items[i]) (by simp [hi]) fun h' hit' hs'=> ?_
  exact hQ _ h' s.toks (by simp [hi]) ⟨hit',st.2.1.extBut hs'.extBut hne,st.2.2.1.keep fun b hb o e=>(hs'.2 b fun z=>st.2.2.2 (z▸hb)).trans e,st.2.2.2⟩ hs'
 done:=fun s Q E st hE=>zez (A:=A.in1) st.2.2.1 st.1 st.2.1 (by simp) hE
end L3
namespace L2
open PySem PySem.Spec PyProof.Rows
noncomputable def zrE (K:W.Frag) (a:Addr):It:=
 ⟨fun i H=> ∃ xs x,SqL K H a xs/\xs[i]? = some x,fun i H x H'=> ∃ T y,H T=none/\H'=upd H T (.tup [.int i,y])/\x= .ref T/\ ∀ xs,SqL K H a xs->xs[i]? = some y,fun i H=> ∃ xs,SqL K H a xs/\xs.length=i⟩
theorem ziY {P:Program} {w:World} {K:W.Frag} {elts:List Expr} {k:Nat} {pos:Pos} (a e it:Addr) (hei:e≠it):zoH P w K (.Tuple elts k pos) (zrE K a) [e,it] e (fun i h=>(∃ old,IsEnum h e it i old)/\h.IsListIter it a i) where
 mem:=by simp
 obj:=fun i h st b hb=>by
  obtain ⟨⟨old,he⟩,o,ho,hc,hd⟩:=st
  have z:b=e\/b=it:=by simpa using hb
  rcases z with rfl | rfl
  ·exact ⟨_,he,fun v z=>by cases z⟩
  ·exact ⟨o,ho,fun v z=>by rw [hd] at z;cases z⟩
 keep:=fun i h h' st k=>⟨let ⟨old,he⟩:=st.1;⟨old,k e (by simp) _ he⟩,st.2.at fun o q=>k it (by simp) o q⟩
 item:=by
  intro X hP hw hK i pins s σ H E I hf st hg
  subst hP hw hK
  obtain ⟨xs,y,hq,hx⟩:=hg
  obtain ⟨its,rv,p,hz⟩:=I.list hq
  obtain ⟨u,hu,ru⟩:=rv.get hx
  obtain ⟨⟨old,he⟩,hit⟩:=st
  have hfe:=hf e (by simp)
  have hfi:=hf it (by simp)
  obtain ⟨ot,ht,hct,nt,hdt⟩:=p.isList
  obtain ⟨oi,hi,hci,hdi⟩:=id hit
  have hai:a≠it:=fun z=>by
   subst z
   rw [ht] at hi
   cases hi
   rw [hdt] at hdi
   cases hdi
  have hea:e≠a:=fun z=>by
   subst z
   have he':s.heap.get? e=_:=he
   rw [ht] at he'
   cases he'
   cases hdt
  have hin:it∉L3.zbj X.A:=fun z=>by
   rcases I.hand with q | ⟨ha,cls,head,q,ob,vs,x1,_,_,x4,x5,_⟩
   ·unfold L3.zbj at z;rw [q] at z;simp at z
   ·unfold L3.zbj at z
    rw [q] at z
    have:it=ha:=by simpa using z
    subst this
    rw [hi] at x1
    cases x1
    rw [hdi] at x4
    cases x4
    simp at x5
  have hen:e∉L3.zbj X.A:=fun z=>by
   rcases I.hand with q | ⟨ha,cls,head,q,ob,vs,x1,_,_,x4,x5,_⟩
   ·unfold L3.zbj at z;rw [q] at z;simp at z
   ·unfold L3.zbj at z
    rw [q] at z
    have:e=ha:=by simpa using z
    subst this
    have he':s.heap.get? e=_:=he
    rw [x1] at he'
    cases he'
    cases x4
    simp at x5
  have hlt:i<its.toArray.size:=by
   have:=(qac.mp hu).1
   simpa using this
  refine wpAny_pyNext_enum_itemD (L3.zfi (A:=X.A) it a hai its.toArray) he ⟨hit,p.isList,I.hand,hin⟩ hlt hei (by simp [hei,hea,hen]) fun x h1 tk hP ho hs' hT hsz hk=> ?_
  have hxu:x=u:=by
   have:its[i]? = some x:=by simpa using hP
   rw [hu] at this
   exact (Option.some.inj this).symm
  subst hxu
  refine ⟨_,rfl,wpAny_letOwnedTupleGo_enum ho fun h2 he2 hs2=> ?_⟩
  have het:e≠s.heap.objs.size:=qaR (qaQ he)
  have hit':it≠s.heap.objs.size:=qaR (qaQ hi)
  have fresh:=I.hok.fresh (qaV s.heap.objs.size)
  have I1:Inv X pins σ (upd H s.heap.objs.size (.tup [.int i,y])) {s with heap:=s.heap.push {cls:= .type "tuple",data:= .seq #[.int i tk,x]},toks:=tk+1}:=
   I.laid (t':=tk+1) (fun b o q=>qag _ q) (qaV _) (show zbR X.prog X.w _ _ _ (.tup [.int i,y]) from ⟨by show 2<=sizeLine;decide,[.int i tk,x],.cons ⟨tk,rfl⟩ (.cons ru .nil),IsTup.new _ _⟩)
  have fe:zhn X pins (upd H s.heap.objs.size (.tup [.int i,y])) e:=⟨by rw [zaG het];exact hfe.1,hfe.2⟩
  have fi:zhn X pins (upd H s.heap.objs.size (.tup [.int i,y])) it:=⟨by rw [zaG hit'];exact hfi.1,hfi.2⟩
  have I2:Inv X pins σ (upd H s.heap.objs.size (.tup [.int i,y])) {s with heap:=h1,toks:=tk+1}:=I1.turned2 (t':=tk+1) (h':=h1) (fun b o hb1 hb2 q=>by
    rcases Heap.get?_push_cases q with ⟨z1,z2⟩ | z
    · rw [z1,z2];exact hT
    · exact hk b o hb1 hb2 z) fe fi
  obtain ⟨f0,f1,f2,f3,f4,f5⟩:=fe
  have I3:Inv X pins σ (upd H s.heap.objs.size (.tup [.int i,y])) {s with heap:=h2,toks:=tk+1}:=I2.turned (t':=tk+1) (fun b o hb q=>(hs2.2 b hb).trans q) f0 f1 f3 f4 f5
  refine ⟨.ref s.heap.objs.size,_,I3,rfl,⟨s.heap.objs.size,y,fresh,rfl,rfl,fun ys hy=>by rw [I.list_inj hy hq];exact hx⟩,⟨⟨x,by simpa using he2⟩,hs'.1.at fun o q=>(hs2.2 it (Ne.symm hei)).trans q⟩,fun b hb=> ?_⟩
  have z:b=e\/b=it:=by simpa using hb
  rcases z with rfl | rfl
  ·exact f0
  ·exact fi.1
 done:=by
  intro X hP hw hK i pins s σ H E I hf st hg
  subst hP hw hK
  obtain ⟨xs,hq,hx⟩:=hg
  obtain ⟨its,rv,p,hz⟩:=I.list hq
  obtain ⟨⟨old,he⟩,hit⟩:=st
  have hfi:=hf it (by simp)
  obtain ⟨ot,ht,hct,nt,hdt⟩:=p.isList
  obtain ⟨oi,hi,hci,hdi⟩:=id hit
  have hai:a≠it:=fun z=>by
   subst z
   rw [ht] at hi
   cases hi
   rw [hdt] at hdi
   cases hdi
  have hin:it∉L3.zbj X.A:=fun z=>by
   rcases I.hand with q | ⟨ha,cls,head,q,ob,vs,x1,_,_,x4,x5,_⟩
   ·unfold L3.zbj at z;rw [q] at z;simp at z
   ·unfold L3.zbj at z
    rw [q] at z
    have:it=ha:=by simpa using z
    subst this
    rw [hi] at x1
    cases x1
    rw [hdi] at x4
    cases x4
    simp at x5
  have hn:its.toArray.size=i:=by
   have:=rv.length
   simp
   omega
  subst hn
  obtain ⟨f0,f1,f2,f3,f4,f5⟩:=hfi
  exact wpAny_pyNext_enum_endD (L3.zfi (A:=X.A) it a hai its.toArray) he ⟨hit,p.isList,I.hand,hin⟩ fun h' hx'=>⟨rfl,I.turned (t':=s.toks) (fun b o hb q=>hx' b o hb q) f0 f1 f3 f4 f5⟩
 self:=fun _ _ _ _ _ st h=>let ⟨⟨_,he⟩,_⟩:=st;wpAny_pyIter_enum he h
section
variable {X:Cx} {elts:List Expr} {k:Nat} {tpos:Pos}
noncomputable def zrf (K:W.Frag) (ta:TA):TI:=fun σ H R=>ta σ H fun vs H1=> ∃ a,vs=[.ref a]/\(∃ xs,SqL K H1 a xs)/\R (zrE K a) H1
theorem zlS {l:Expr} {ta:TA} {p pos:Pos} (hg:Gl X "enumerate") (hm:X.mg "enumerate"=none) (ha:PA X [l] ta) (hs:starEach [l] X.env=[(false,eval l X.env)]:=by rfl):
  PI X (.Tuple elts k tpos) (.Call (.Name "enumerate" p) [l] [] pos) (zrf X.K ta):=by
 intro pins s σ H R I h
 refine Call_ (zfg I hg hm PyProof.Rows.boot_enumerate (PyProof.Rows.callWith_type1 (thn (ha pos pins s σ H _ I h) fun us s1 ⟨vs,H1,I1,r1,q1⟩=> ?_) hs rfl))
 obtain ⟨a,e,⟨xs,hq⟩,q⟩:=q1
 subst e
 cases r1 with
 | cons r rr=>
  cases rr
  cases r
  obtain ⟨its,rv,p,hz⟩:=I1.list hq
  refine PySem.call_enumerate_list p.isList fun h' he hit hsz kp=> ?_
  refine wpAny_pyIter_enum he ?_
  refine ⟨s1.heap.objs.size+1,[s1.heap.objs.size+1,s1.heap.objs.size],_,_,H1,rfl,I1.kept (t':=s1.toks) kp,ziY a _ _ (Nat.succ_ne_self _),⟨⟨_,he⟩,hit⟩,fun b hb=> ?_,q⟩
  have z:b=s1.heap.objs.size+1\/b=s1.heap.objs.size:=by simpa using hb
  rcases z with rfl | rfl
  ·exact I1.fpOk (Nat.le_succ _) (I1.hok.fresh (Nat.le_succ _))
  ·exact I1.fpOk (qaV _) (I1.hok.fresh (qaV _))
end
end L2
namespace L3
open PySem PySem.Spec PyProof.Rows L2
section
variable {X:Cx} {E:XE} {elts:List Expr} {k:Nat} {tpos pos:Pos}
theorem zlj {K:W.Frag} {ι:Io} {H:Hp} {a:Addr} {vs:List V} {ds:List D} (h: ∀ ι' H',Pass ι H ι' H'->SqL K H' a vs) (rl:zas K ι H ds vs):zm2 K ι H (zrE K a) (zhd ds) where
 go:=fun ι' H' i s hi=>by
  have hi:i<ds.length:=by simpa [zhd] using hi
  obtain ⟨v,ev,_⟩:=zas.get rl (i:=i) (d:=ds[i]) (by simp [hi])
  exact ⟨vs,v,h ι' H' s,ev⟩
 yld:=fun ι' H' _ i x H2 s hr hi ⟨T,y,hT,e,e2,hy⟩=>by
  subst e e2
  have hi:i<ds.length:=by simpa [zhd] using hi
  obtain ⟨v,ev,rv⟩:=zas.get rl (i:=i) (d:=ds[i]) (by simp [hi])
  have ey:=hy vs (h ι' H' s)
  rw [ev] at ey
  cases ey
  refine ⟨.inr ⟨T,_,hT,rfl⟩,.tup [.int i,ds[i]],by simp [zhd,hi],?_⟩
  obtain ⟨st,hr2⟩:=zp2.step (.inr ⟨T,[.int i,y],hT,rfl⟩) hr
  have rv2:Rel K ι' (upd H' T (.tup [.int i,y])) ds[i] y:=(rv.pass s).step st
  simp only [Rel]
  exact ⟨T,_,rfl,⟨zaR,hr.nin hT⟩,zas.cons (by simp [Rel]) (zas.cons rv2 zas.nil)⟩
 stop:=fun ι' H' s=>⟨vs,h ι' H' s,by rw [<- rl.length];simp [zhd]⟩
noncomputable def zla (f:FE):FA:=fun sd=>do
 let d<-f sd
 match d with
 | .lst ds=>pure (zhd ds)
 | _=>M.bad
theorem zkc {l:Expr} {f:FE} {p:Pos} (hm:X.mg "enumerate"=none) (he:SE X E l f) (hg:Gl X "enumerate":=by rfl) (hs:starEach [l] X.env=[(false,eval l X.env)]:=by rfl):SI X E (.Tuple elts k tpos) (.Call (.Name "enumerate" p) [l] [] pos) (zla f):=by
 refine PI.imp (zlS hg hm (zbE he zcM hs) hs) fun σ H Q ⟨ι,h,sd,L,hh,q⟩=>⟨ι,h,sd,L,hh,Fin.bind q fun d h1 ι1 H1 e1 s1 hr1 q1 v rv=> ?_⟩
 cases d with
 | lst ds=>
  obtain ⟨a,vs,e,h1',h2⟩:=zjZ rv
  exact ⟨a,by rw [e],⟨vs,h1' _ _ (Pass.refl _ _)⟩,Fin.out hr1 q1 _ (zlj h1' h2)⟩
 | _=>exact qa0 q1
noncomputable def zkV (fs:FA):FA:=fun sd=>do let ds<-fs sd;zki ds
theorem zrk {tg a b:Expr} {p:Pos} {fs:FA} (hm:X.mg "range"=none) (ha:SA X E [a,b] fs) (hg:Gl X "range":=by rfl) (hs:starEach [a,b] X.env=[(false,eval a X.env),(false,eval b X.env)]:=by rfl) (hs2:starEach [b] X.env=[(false,eval b X.env)]:=by rfl):
  SI X E tg (.Call (.Name "range" p) [a,b] [] pos) (zkV fs):=znF (zjF hg hm ha hs hs2)
end
end L3
namespace L2
open PySem PySem.Spec PyProof.Rows
section
variable {κ:Type} [DecidableEq κ]
noncomputable def zs2 (kvs:List (κ×V)) (k:κ) (v:V):List (κ×V):=
 if (kvs.any fun kv=>decide (kv.1=k))=true then kvs.map (fun kv=>if kv.1=k then (kv.1,v) else kv) else kvs++[(k,v)]
theorem KV.any {kvs:List (κ×V)} {vs:List (κ×Value)} (r:KV kvs vs) (k:κ):(kvs.any fun kv=>decide (kv.1=k))=vs.any fun kv=>decide (kv.1=k):=by
 unfold KV at r
 induction r with
 | nil=>rfl
 | cons h t ih=>rw [List.any_cons,List.any_cons,ih,h.1]
theorem KV.repl {kvs:List (κ×V)} {vs:List (κ×Value)} (r:KV kvs vs) (k:κ) {y:V} {u:Value} (ry:zcf y u):
  KV (kvs.map fun kv=>if kv.1=k then (kv.1,y) else kv) (vs.map fun kv=>if kv.1=k then (kv.1,u) else kv):=by
 unfold KV at r ⊢
 induction r with
 | nil=>exact .nil
 | @cons p q ps qs h t ih=>
  rw [qaM,qaM]
  refine .cons ?_ ih
  obtain ⟨h1,h2⟩:=h
  by_cases e:p.1=k
  ·rw [qa4 e,qa4 (h1.symm.trans e)];exact ⟨h1,ry⟩
  ·rw [qa5 e,qa5 (fun z=>e (h1.trans z))];exact ⟨h1,h2⟩
theorem KV.put {kvs:List (κ×V)} {vs:List (κ×Value)} (r:KV kvs vs) (k:κ) {y:V} {u:Value} (ry:zcf y u):KV (zs2 kvs k y) (stored vs k u):=by
 unfold zs2 stored
 rw [r.any k]
 by_cases e:(vs.any fun kv=>decide (kv.1=k))=true
 ·rw [qa4 e,qa4 e];exact r.repl k ry
 ·rw [qa5 e,qa5 e];exact Paired.snoc r ⟨rfl,ry⟩
theorem KV.length {kvs:List (κ×V)} {vs:List (κ×Value)} (r:KV kvs vs):kvs.length=vs.length:=Paired.length r
end
section
variable {X:Cx}
end
end L2
namespace L3
open PySem PySem.Spec PyProof.Rows L2
section
variable {X:L2.Cx} {E:XE}
end
open LT
section
variable {h:Hh}
end
end L3
namespace L3
open PySem PySem.Spec PyProof.Rows L2
structure Fd (K:W.Frag) (x:Str) (st:Stmt) (a:Addr) (d:FuncData):Prop where
 e:W.nsIn K mainGlobals x=some (some (.ref a))
 F:Fun K x x st a d
section
variable {X:Cx} {E:XE}
end
open LT
def Gro (h h':Hh):Prop:= ∃ t,h'=h++t
theorem Gro.refl {h:Hh}:Gro h h:=⟨[],by simp⟩
theorem Gro.trans {h h1 h2:Hh} (a:Gro h h1) (b:Gro h1 h2):Gro h h2:=by
 obtain ⟨t,rfl⟩:=a
 obtain ⟨u,rfl⟩:=b
 exact ⟨t++u,by simp⟩
theorem Gro.get {h h':Hh} {n:Nat} {c:C} (g:Gro h h') (e:h[n]? = some c):h'[n]? = some c:=by
 obtain ⟨t,rfl⟩:=g
 rw [qad (qac.mp e).1]
 exact e
theorem Gro.ext {b:Nat} {h h':Hh} (q:Bx b h) (g:Gro h h'):Ext b h h':=by
 obtain ⟨z,e⟩:=q
 exact ⟨⟨z,g.get e⟩,fun n c _ e=>g.get e⟩
def Ev {α:Type} (m:M α) (a:α):Prop:= ∀ h, ∃ h',m h= .ok a h'/\Gro h h'
section
variable {α β:Type} {m:M α} {a:α} {f:α->M β} {b:β} {h:Hh} {P:α->Hh->Prop}
theorem Ev.pure:Ev (Pure.pure a:M α) a:=fun h=>⟨h,rfl,.refl⟩
theorem Ev.of (e:m=Pure.pure a):Ev m a:=e▸ .pure
theorem Ev.bind (x:Ev m a) (y:Ev (f a) b):Ev (m>>=f) b:=fun h=>by
 obtain ⟨h1,e1,g1⟩:=x h
 obtain ⟨h2,e2,g2⟩:=y h1
 refine ⟨h2,?_,g1.trans g2⟩
 show M.bind m f h=_
 unfold M.bind
 rw [e1]
 exact e2
theorem Ev.wp (x:Ev m a) (k: ∀ h',Gro h h'->P a h'):wp m h P:=by
 obtain ⟨h1,e1,g1⟩:=x h
 exact ⟨a,h1,e1,k h1 g1⟩
theorem Ev.of_wp (x: ∀ h,L3.wp m h fun r h'=>r=a/\Gro h h'):Ev m a:=fun h=>by
 obtain ⟨r,h1,e1,rfl,g⟩:=x h
 exact ⟨h1,e1,g⟩
theorem Ev.noX (x:Ev m a):Ev (L3.noX m) a:=fun h=>by
 obtain ⟨h1,e1,g1⟩:=x h
 refine ⟨h1,?_,g1⟩
 unfold L3.noX
 rw [e1]
end
@[simp] theorem zl9 {α:Type} {a:α}:noX (pure a:M α)=pure a:=rfl
noncomputable def zgY {α:Type} (c:String):M α:=fun h=> .exc c h
@[simp] theorem zi7 {α β:Type} {c:String} {f:α->M β}:((zgY c:M α)>>=f)=zgY c:=rfl
@[simp] theorem zlV {c:String} {sd:Sd}:zqu c sd=zgY c:=rfl
theorem zp1 {n:Nat} {Fs:List (List D->M D)} {fi:FE} {fs:FA} {sd:Sd}:znK n Fs fi fs sd=(do let i<-fi sd;let F<-zgT Fs i;let ds<-fs sd;zax n F ds):=rfl
noncomputable def tI (xs:List Int):D:= .tup (xs.map D.int)
noncomputable def zbm (o:List Int×Int):D:= .tup [tI o.1,.int o.2]
noncomputable def zaN (m:Int) (os:List (List Int×Int)):D:= .tup [.int m,.tup (os.map zbm)]
structure Stk (m:Int) (os:List (List Int×Int)):Prop where
 m0:1<=m
 m1:m<=10
 len:os.length<=12
 up: ∀ o∈os,o.1.Pairwise (· < ·)
 bd: ∀ o∈os, ∀ x∈o.1,0<=x/\x<m
 ne: ∀ o∈os,o.1≠[]
 pos: ∀ o∈os,0<o.2
theorem Stk.olen {m:Int} {os:List (List Int×Int)} (s:Stk m os): ∀ o∈os,o.1.length<=10:=fun o ho=>by
 have h:=zf1 (m:=m) (ts:=o.1.map D.int) (l:=0) (zfh.mpr ⟨s.up o ho,fun x hx=>s.bd o ho x hx⟩) (by have:=s.m0;omega)
 rw [qaH] at h
 have:=s.m1
 omega
theorem zjx {fo fe:FE} {sd:Sd}:zhN fo fe sd=(do let x<-fo sd;zb2 x;let y<-fe sd;zdG x y):=rfl
theorem znL {n:Nat}:zb2 (.cel n)=(do let _<-zam n;pure ()):=rfl
theorem zln {n:Nat} {zs:List D}:zdG (.cel n) (.tup zs)=(do let ds<-zam n;fits (ds.length+zs.length);zbU n (ds++zs);pure .non):=rfl
theorem zj9 {xs:List Int} {m:Int} (m0:0<=m) (h:xs.Pairwise (· < ·)) (b: ∀ x∈xs,0<=x/\x<m):(xs.length:Int)<=m:=by
 have:=zf1 (m:=m) (ts:=xs.map D.int) (l:=0) (zfh.mpr ⟨h,b⟩) m0
 rw [qaH] at this
 omega
theorem zmn {xs:List Int} {m:Int} (m0:0<=m) (b: ∀ x∈xs,0<=x/\x<m):((zhl xs).length:Int)<=m:=zj9 m0 (zhv xs) fun x hx=>b x (zeI.mp hx)
theorem zhp {xs:List Int} {m:Int} (m0:0<=m) (m1:m<=60) (b: ∀ x∈xs,0<=x/\x<m):(xs.foldl step_dedup []).length<64:=by
 have h:=zmn m0 b
 unfold zhl at h
 rw [(zbe _).length_eq] at h
 omega
theorem zgz {n:Nat} {h:Hh} {xs:List Int} {P:D->Hh->Prop} (e:h[n]? = some (.lst (xs.map D.int))) (h1:(xs.foldl step_dedup []).length<64) (h2:xs.length<4000) (k:P (.lst ((zhl xs).map D.int)) h):wp (zdX (.cel n)) h P:=by
 unfold zdX
 show wp (zam n>>=_) h P
 rw [zar,za4 e]
 show wp (do let ns<-ofO (zgG (xs.map D.int));if (ns.foldl step_dedup []).length<64/\ns.length<4000 then pure (.lst ((zhl ns).map D.int)) else M.bad:M D) h P
 rw [zgo]
 show wp (if (xs.foldl step_dedup []).length<64/\xs.length<4000 then (pure (.lst ((zhl xs).map D.int)):M D) else M.bad) h P
 rw [qa4 ⟨h1,h2⟩,zak]
 exact k
theorem zmc: ∀ {xs ys:List Int},xs.Pairwise (· < ·)->ys.Pairwise (· < ·)->(∀ k,k∈xs↔k∈ys)->xs=ys:=by
 intro xs ys hx hy hm
 have nx:xs.Nodup:=hx.imp fun z=>by omega
 have ny:ys.Nodup:=hy.imp fun z=>by omega
 have p:List.Perm xs ys:=(List.perm_ext_iff_of_nodup nx ny).mpr hm
 exact (zeC p (hx.imp fun z=>by omega)).trans (zeC (List.Perm.refl ys) (hy.imp fun z=>by omega)).symm
theorem zkJ {x y:D} {a b:PyData} (e1:pd x=some a) (e2:pd y=some b) (h:zfk a b=true):dEq x y=pure (.bl (PyData.eqv a b)):=by
 show zjX false x y=_
 unfold zjX
 rw [e1,e2]
 simp only [h,if_true]
 rfl
theorem zoT (xs:List Int):pd (tI xs)=some (.tuple (xs.map PyData.int)):=by unfold tI pd;rw [zbi];rfl
theorem zna (xs ys:List Int):dEq (tI xs) (tI ys)=pure (.bl (xs==ys)):=by
 rw [zkJ (zoT xs) (zoT ys) (by unfold zfk;simp [PyData.canLay0,zaJ,PyData.depth,zaU])]
 simp only [PyData.eqv,zcs]
theorem znE (xs ys:List Int):dEq (.lst (xs.map D.int)) (.lst (ys.map D.int))=pure (.bl (xs==ys)):=by
 have e1:pd (.lst (xs.map D.int))=some (.list (xs.map PyData.int)):=by unfold pd;rw [zbi];rfl
 have e2:pd (.lst (ys.map D.int))=some (.list (ys.map PyData.int)):=by unfold pd;rw [zbi];rfl
 rw [zkJ e1 e2 (by unfold zfk;simp [PyData.canLay0,zaJ,PyData.depth,zaU])]
 simp only [PyData.eqv,zcs]
def gk (d:D):Prop:=kn d=true/\ ∀ ds,d= .tup ds->ds.length<64/\ ∀ x∈ds,kn x=true
theorem zdO {os:List (List Int×Int)} {i:Int} (h0:0<=i) (h1:i<os.length):atI (os.map zbm) i=some (zbm (os.getD i.toNat ([],0))):=by
 have hl:i.toNat<os.length:=by omega
 have:=zdl (xs:=os.map zbm) (j:=i.toNat) (v:=zbm (os.getD i.toNat ([],0))) (by simp [hl,List.getD])
 rw [<- this]
 congr 1
 omega
theorem zdH (k:Int) (xs:List Int):zda (.int k) (.lst (xs.map D.int))=pure (.bl (!xs.any (· == k))):=by
 show zjp true (.int k) (.lst (xs.map D.int))=_
 unfold zjp
 simp only [pd]
 rw [zbi]
 have c:ziZ (.int k) (xs.map PyData.int)=true:=by
  unfold ziZ
  simp [PyData.canLay0,zaJ,PyData.depth,zaU]
 simp only [c,if_true,zed]
theorem zi0 {xs:List Int} (h:xs.Nodup):(zen xs).Pairwise (· < ·):=by
 have h1:=zd3 xs
 have h2:(zen xs).Nodup:=(zbe xs).nodup_iff.mpr h
 exact (List.pairwise_and_iff.mpr ⟨h1,h2⟩).imp fun z=>by have:=z.1;have:=z.2;omega
theorem zkR {xs:List Int} {m:Int} (m0:0<=m) (h:xs.Nodup) (b: ∀ x∈xs,0<=x/\x<m):(xs.length:Int)<=m:=by
 rw [<- (zbe xs).length_eq]
 exact zj9 m0 (zi0 h) fun x hx=>b x ((zbe xs).mem_iff.mp hx)
theorem zfO {j:Int} (h0:0<=j) (h1:j<1000):zgd (.int j)=pure (tI ((List.range j.toNat).map fun (k:Nat)=>(k:Int))):=by
 show (if 0<=j/\j<1000 then _ else _)=_
 rw [qa4 ⟨h0,h1⟩,zbn]
 rfl
theorem zr7 {i j:Int}:zow [.int i,.int j]=pure (.int (if j<i then j else i)):=rfl
theorem zr8 {i j:Int}:zkH [.int i,.int j]=pure (.int (if j>i then j else i)):=rfl
theorem zmh (xs:List Int):dNe (tI xs) (.tup [])=pure (.bl (!xs.isEmpty)):=by
 show zjX true _ _=_
 unfold zjX
 rw [zoT xs,show pd (.tup [])=some (.tuple []) from rfl]
 have c:zfk (.tuple (xs.map PyData.int)) (.tuple [])=true:=by
  unfold zfk
  simp [PyData.canLay0,PyData.canLayAll0,zaJ,PyData.depth,PyData.depthAll,zaU]
 simp only [c,if_true,PyData.eqv]
 cases xs<;>rfl
theorem zld {b:Nat} {turn:D->M (Option D)} (ht: ∀ (i:Int) {h:Hh} {Q:Option D->Hh->Prop},Bx b h->(∀ o h',Ext b h h'->(o=none\/o=some (.int i))->Q o h')->wp (turn (.int i)) h Q):
  ∀ (is:List Int) {h:Hh} {P:List D->Hh->Prop},Bx b h->(∀ (ys:List Int) h',Ext b h h'->ys.Sublist is->P (ys.map D.int) h')->wp (zbX turn (is.map D.int)) h P
 | [],h,P,q,k=>by
  rw [List.map_nil,zbX,zak]
  exact k [] h (Ext.refl q) .slnil
 | i::r,h,P,q,k=>by
  rw [qaM,zbX,zar]
  refine ht i q fun o h2 x2 ho=> ?_
  rw [zar]
  refine zld ht r x2.1 fun ys h3 x3 hl=> ?_
  rw [zak]
  rcases ho with rfl | rfl
  ·exact k ys h3 (x2.trans x3) (.cons _ hl)
  ·exact k (i::ys) h3 (x2.trans x3) (.cons₂ _ hl)
theorem zdf (n:Nat):((List.range n).map fun (k:Nat)=>(k:Int)).Pairwise (· < ·):=by
 rw [List.pairwise_map]
 exact List.pairwise_lt_range.imp fun z=>by omega
theorem zeQ {n:Nat}: ∀ x∈(List.range n).map fun (k:Nat)=>(k:Int),0<=x/\x<n:=fun x hx=>by
 obtain ⟨k,hk,rfl⟩:=qaU.mp hx
 have:=List.mem_range.mp hk
 omega
def EvX {α:Type} (m:M α) (c:String):Prop:= ∀ h, ∃ h',m h= .exc c h'/\Gro h h'
section
variable {α β:Type} {m:M α} {a:α} {f:α->M β} {c:String}
theorem EvX.raise:EvX (zgY c:M α) c:=fun h=>⟨h,rfl,.refl⟩
theorem EvX.of (e:m=zgY c):EvX m c:=e▸ .raise
theorem EvX.left (x:EvX m c):EvX (m>>=f) c:=fun h=>by
 obtain ⟨h1,e1,g1⟩:=x h
 refine ⟨h1,?_,g1⟩
 show M.bind m f h=_
 unfold M.bind
 rw [e1]
end
theorem zrd {g:FS} {sd:Sd}:ztr g sd=noX (g sd):=rfl
theorem zpp {g:FE} {sd:Sd}:ztt g sd=noX (g sd):=rfl
theorem zh3 (xs:List D) {k:Int} (h:0<=k):L3.zjy xs none (some k)=xs.take k.toNat:=by
 have e:=HT.zk7 xs.length xs.length k.toNat
 rw [Int.toNat_of_nonneg h] at e
 unfold L3.zjy
 have e0:HT.sIx xs.length 0 none=0:=rfl
 rw [e0,e]
 simp
theorem zih (xs:List D) {k:Int} (h:0<=k):L3.zjy xs (some k) none=xs.drop k.toNat:=by
 have e:=HT.zk7 xs.length 0 k.toNat
 rw [Int.toNat_of_nonneg h] at e
 unfold L3.zjy
 have e0:HT.sIx xs.length xs.length none=xs.length:=rfl
 rw [e0,e]
 by_cases hk:k.toNat<=xs.length
 ·rw [Nat.min_eq_left hk,List.take_of_length_le (by rw [List.length_drop];omega)]
 ·rw [Nat.min_eq_right (by omega),List.drop_eq_nil_of_le (show xs.length<=k.toNat by omega)]
  simp
theorem znz {xs:List Int} {m:Int} (m0:0<=m) (h:xs.Pairwise (· < ·)) (b: ∀ x∈xs,0<=x/\x<m):(xs==(List.range m.toNat).map fun (k:Nat)=>(k:Int))=((xs.length:Int)==m):=by
 rw [Bool.eq_iff_iff,beq_iff_eq,beq_iff_eq]
 constructor
 ·intro e
  rw [e]
  simp
  omega
 ·intro e
  refine zmc h (zdf _) fun k=>⟨fun hk=> ?_,fun hk=> ?_⟩
  ·obtain ⟨h1,h2⟩:=b k hk
   exact qaU.mpr ⟨k.toNat,List.mem_range.mpr (by omega),by omega⟩
  ·have hb:=zeQ k hk
   by_cases c:k∈xs
   ·exact c
   ·exfalso
    have:=zkR (xs:=k::xs) m0 (List.nodup_cons.mpr ⟨c,h.imp fun z=>by omega⟩) fun x hx=>by
     rcases qaP.mp hx with rfl | hx
     ·omega
     ·exact b x hx
    rw [qaE] at this
    omega
end L3
namespace K62
open PySem PySem.Spec PyProof.Rows L2 L3
noncomputable def G_25:FS:=zav (sIf (zc2 dLt (zaf 1) (zaF zdC (zad (zaf 0) zal))) (zcq (cOp dIx (zaf 0) (zaf 1))) zhy) (zcq (cOp ze9 (cOp zo8 (cK (.int 6151)) (zaf 1)) (cK (.int 29))))
noncomputable def F_25:List D->M D:=zc5 2 G_25
theorem d_25 (x0 x1:D):F_25 [x0,x1]=(do let o<-G_25 [some x0,some x1];zcS o):=rfl
noncomputable def G_26:FS:=zav (zbN 2 (cOp ze9 (cOp zgl (cOp ze9 (zaf 0) (cK (.int 1))) (cK (.int 40692))) (cOp zgl (cK (.int 104729)) (zaf 1)))) (zav (zbN 2 (cOp ze9 (cOp zqR (cOp zgl (zaf 2) (zaf 2)) (cK (.int 2147483399))) (zaf 1))) (zcq (cOp zqR (cOp zgl (zaf 2) (cOp ze9 (zaf 2) (cK (.int 31)))) (cK (.int 2147483563)))))
noncomputable def F_26:List D->M D:=zc5 3 G_26
theorem d_26 (x0 x1:D):F_26 [x0,x1]=(do let o<-G_26 [some x0,some x1,none];zcS o):=rfl
noncomputable def zdb:FS:=zbN 3 (cOp ze9 (cOp zgl (zaf 3) (cK (.int 2147483647))) (zaF (zax 2 F_26) (zad (zaf 2) (zad (zaf 4) zal))))
noncomputable def G_27:FS:=zav (zbN 2 (zaF (zax 2 F_25) (zad (zaf 0) (zad (zaf 1) zal)))) (zav (sIf (zc2 dEq (cOp zqR (zaf 2) (cK (.int 2))) (cK (.int 0))) (zcq (zeX (zad (cOp zoU (zaf 2) (cK (.int 2))) zal))) zhy) (zav (zbN 3 (cK (.int 0))) (zav (zkO (zey (zad (cK (.int 24)) zal)) (zaC 4) zdb) (zcq (zeX (zad (zaf 3) zal))))))
noncomputable def F_27:List D->M D:=zc5 5 G_27
theorem d_27 (x0 x1:D):F_27 [x0,x1]=(do let o<-G_27 [some x0,some x1,none,none,none];zcS o):=rfl
noncomputable def G_28:FS:=zav (zj2 (zaF zeT (zad (cOp dIx (zaf 0) (cK (.int 0))) (zad (zaf 1) zal))) (zbQ 2 (zay (zaC 2) (zay (zaC 3) zbO)))) (zav (zj2 (zaf 2) (zoG (zaf 0) (cK (.int 0)))) (zcq (zaf 3)))
noncomputable def F_28:List D->M D:=zc5 4 G_28
theorem d_28 (x0 x1:D):F_28 [x0,x1]=(do let o<-G_28 [some x0,some x1,none,none];zcS o):=rfl
noncomputable def zcJ:FE:=zaf 0
noncomputable def zcK:FT:=zc2 dLe (zaF (zax 2 F_28) (zad (zaf 1) (zad (cK (.int 4)) zal))) (zaf 2)
noncomputable def zbw:FS:=zav (zbN 8 (zan (zey (zad (zaf 3) zal)) (zaC 0) zcK zcJ [none,some 0,some 5])) (zav (sIf (zc2 dEq (zaf 8) (ziW zal)) (zbN 8 (ziW (zad (zaF (zax 2 F_28) (zad (zaf 0) (zad (zaf 3) zal))) zal))) zhy) (zel (za5 (zaf 6) (zcV (zad (zaF zbo (zad (zaf 8) zal)) (zad (cOp ze9 (cK (.int 1)) (zaF (zax 2 F_28) (zad (zaf 0) (zad (zaf 4) zal)))) zal))))))
noncomputable def G_29:FS:=zav (zbN 3 (cOp ze9 (cK (.int 1)) (zaF (zax 2 F_28) (zad (zaf 0) (zad (zaf 1) zal))))) (zav (zbN 4 (cOp dIx (ziW (zad (cK (.int 1)) (zad (cK (.int 3)) (zad (cK (.int 20)) (zad (cOp zrs (cK (.int 10)) (cK (.int 20))) zal))))) (zaF (zax 2 F_28) (zad (zaf 0) (zad (cK (.int 4)) zal))))) (zav (zbN 5 (zaF (zax 2 F_28) (zad (zaf 0) (zad (cK (.int 3)) zal)))) (zav (zbN 6 (zeX zal)) (zav (zkO (zey (zad (zaF (zax 2 F_28) (zad (zaf 0) (zad (cOp ze9 (zaf 2) (cK (.int 1))) zal))) zal)) (zaC 7) zbw) (zcq (zcV (zad (zaf 3) (zad (zaF zbo (zad (zaf 6) zal)) zal))))))))
noncomputable def F_29:List D->M D:=zc5 9 G_29
theorem d_29 (x0 x1 x2:D):F_29 [x0,x1,x2]=(do let o<-G_29 [some x0,some x1,some x2,none,none,none,none,none,none];zcS o):=rfl
noncomputable def zcb:FE:=zaf 0
noncomputable def zca:FT:=zc2 dIn (zaf 1) (cOp dIx (zaf 0) (cK (.int 0)))
noncomputable def zd4:FE:=zaf 0
noncomputable def zcY:FT:=zc2 dEq (zan (iSq (zaf 1)) (zaC 0) zca zcb [none,some 0]) (ziW zal)
noncomputable def G_30:FS:=zav (zj2 (zaF (zax 3 F_29) (zad (zaf 0) (zad (zaf 1) (zad (cOp zoZ (zaf 2) (cK (.int 1))) zal)))) (zbQ 2 (zay (zaC 3) (zay (zaC 4) zbO)))) (zav (zbN 5 (zaF zbo (zad (zan (zey (zad (zaf 3) zal)) (zaC 0) zcY zd4 [none,some 4]) zal))) (zav (zbN 6 (zaF (zax 2 F_28) (zad (zaf 0) (zad (cOp ze9 (zaF zdC (zad (zaf 4) zal)) (cK (.int 1))) zal)))) (zav (sIf (zc2 dNe (zaf 5) (zcV zal)) (zbN 4 (cOp ze9 (cOp ze9 (cSl (zaf 4) ziT (ziX (zaf 6))) (zcV (zad (zcV (zad (zaf 5) (zad (cOp ze9 (cK (.int 1)) (zaF (zax 2 F_28) (zad (zaf 0) (zad (cK (.int 9)) zal)))) zal))) zal))) (cSl (zaf 4) (ziX (zaf 6)) ziT))) zhy) (zcq (zcV (zad (zaf 3) (zad (zaf 4) zal)))))))
noncomputable def F_30:List D->M D:=zc5 7 G_30
theorem d_30 (x0 x1 x2:D):F_30 [x0,x1,x2]=(do let o<-G_30 [some x0,some x1,some x2,none,none,none,none];zcS o):=rfl
noncomputable def za2:FT:=zo3 (zc2 dLt (zaF zdC (zad (zaf 3) zal)) (cK (.int 10))) (zc2 dEq (zaF (zax 2 F_28) (zad (zaf 0) (zad (cK (.int 2)) zal))) (cK (.int 1)))
noncomputable def za3:FS:=zav (zj2 (cOp dIx (zaf 3) (zaF (zax 2 F_28) (zad (zaf 0) (zad (zaF zdC (zad (zaf 3) zal)) zal)))) (zbQ 2 (zay (zaC 4) (zay (zaC 5) zbO)))) (zav (zbN 6 (zaF (zax 2 F_28) (zad (zaf 0) (zad (zaF zdC (zad (zaf 4) zal)) zal)))) (zav (zbN 7 (cOp ze9 (cSl (zaf 4) ziT (ziX (zaf 6))) (cSl (zaf 4) (ziX (cOp ze9 (zaf 6) (cK (.int 1)))) ziT))) (zav (sIf (tOr (zc2 dEq (zaf 7) (zcV zal)) (zc2 dEq (zaF (zax 2 F_28) (zad (zaf 0) (zad (cK (.int 2)) zal))) (cK (.int 1)))) (zbN 7 (zaf 4)) zhy) (zel (za5 (zaf 3) (zcV (zad (zaf 7) (zad (zaF zkH (zad (cK (.int 1)) (zad (cOp ze9 (cOp zoZ (zaf 5) (cK (.int 1))) (zaF (zax 2 F_28) (zad (zaf 0) (zad (cK (.int 3)) zal)))) zal))) zal))))))))
noncomputable def G_37:FS:=zav (zj2 (zaF (zax 3 F_30) (zad (zaf 0) (zad (cK (.int 6)) (zad (cK (.int 8)) zal)))) (zbQ 2 (zay (zaC 1) (zay (zaC 2) zbO)))) (zav (zbN 3 (zaF zk2 (zad (zaf 2) zal))) (zav (zgP 1000 za2 za3) (zcq (zcV (zad (zaf 1) (zad (zaF zbo (zad (zaf 3) zal)) zal))))))
noncomputable def F_37:List D->M D:=zc5 8 G_37
theorem d_37 (x0:D):F_37 [x0]=(do let o<-G_37 [some x0,none,none,none,none,none,none,none];zcS o):=rfl
noncomputable def zcE:FE:=zaf 0
noncomputable def zcy:FT:=zc2 zda (zaf 0) (zaf 1)
noncomputable def G_31:FS:=zav (zj2 (cOp dIx (cOp dIx (zaf 0) (cK (.int 1))) (zaf 1)) (zbQ 2 (zay (zaC 3) (zay (zaC 4) zbO)))) (zav (zj2 (cOp dIx (cOp dIx (zaf 0) (cK (.int 1))) (zaf 2)) (zbQ 2 (zay (zaC 5) (zay (zaC 6) zbO)))) (zav (sIf (tOr (zc2 dEq (zaf 1) (zaf 2)) (tOr (zc2 dNe (zan (iSq (zaf 5)) (zaC 0) zcy zcE [none,some 3]) (ziW zal)) (zc2 dGt (zaf 4) (zaf 6)))) (zcq (cK (.bl false))) zhy) (zcq (cOr (zrn (zqD (cOp dEq (zaf 3) (zaf 5)) (cOp dEq (zaf 4) (zaf 6)))) (cOp dLt (zaf 1) (zaf 2))))))
noncomputable def F_31:List D->M D:=zc5 7 G_31
theorem d_31 (x0 x1 x2:D):F_31 [x0,x1,x2]=(do let o<-G_31 [some x0,some x1,some x2,none,none,none,none];zcS o):=rfl
noncomputable def zec:FE:=zaf 0
noncomputable def zd5:FT:=zc2 dIn (zaf 2) (cOp dIx (zaf 1) (cK (.int 0)))
noncomputable def G_32:FS:=zcq (zan (zqh (cOp dIx (zaf 0) (cK (.int 1)))) (zbQ 2 (zay (zaC 0) (zay (zaC 1) zbO))) zd5 zec [none,none,some 1])
noncomputable def F_32:List D->M D:=zc5 2 G_32
theorem d_32 (x0 x1:D):F_32 [x0,x1]=(do let o<-G_32 [some x0,some x1];zcS o):=rfl
noncomputable def zbs:FE:=zaf 0
noncomputable def zbr:FT:=zc2 zda (zaf 0) (zaf 1)
noncomputable def G_33:FS:=zav (zbN 3 (zaF (zax 2 F_32) (zad (zaf 0) (zad (zaf 1) zal)))) (zav (zbN 4 (zaF (zax 2 F_32) (zad (zaf 0) (zad (zaf 2) zal)))) (zav (sIf (tOr (zc2 dEq (zaf 1) (zaf 2)) (zc2 dNe (zan (iSq (zaf 3)) (zaC 0) zbr zbs [none,some 4]) (ziW zal))) (zcq (cK (.bl false))) zhy) (zcq (cOr (cOp dNe (zaf 3) (zaf 4)) (cOp dLt (zaf 1) (zaf 2))))))
noncomputable def F_33:List D->M D:=zc5 5 G_33
theorem d_33 (x0 x1 x2:D):F_33 [x0,x1,x2]=(do let o<-G_33 [some x0,some x1,some x2,none,none];zcS o):=rfl
noncomputable def zcD:FE:=zaf 0
noncomputable def zcx:FT:=zls (znK 3 [fun ds=>noX (F_31 ds),fun ds=>noX (F_33 ds)] (zaF zgM (zad (zaf 1) zal)) (zad (zaf 2) (zad (zaf 0) (zad (zaf 3) zal))))
noncomputable def zbZ:FS:=zav (zbN 5 (zan (zey (zad (zaf 2) zal)) (zaC 0) zcx zcD [none,some 1,some 0,some 4])) (sIf (zc2 dNe (zaf 5) (ziW zal)) (zel (za5 (zaf 3) (zcV (zad (zaf 4) (zad (cOp dIx (zaf 5) (cK (.int 0))) zal))))) zhy)
noncomputable def G_34:FS:=zav (zbN 2 (cOp dIx (ziW (zad (zaF zdC (zad (cOp dIx (zaf 0) (cK (.int 1))) zal)) (zad (cOp dIx (zaf 0) (cK (.int 0))) zal))) (zaF zgM (zad (zaf 1) zal)))) (zav (zbN 3 (zeX zal)) (zav (zkO (zey (zad (zaf 2) zal)) (zaC 4) zbZ) (zcq (cUn zn2 (zaf 3)))))
noncomputable def F_34:List D->M D:=zc5 6 G_34
theorem d_34 (x0 x1:D):F_34 [x0,x1]=(do let o<-G_34 [some x0,some x1,none,none,none,none];zcS o):=rfl
noncomputable def zd9:FE:=zaf 0
noncomputable def zcT:FT:=zc2 dIn (zaf 1) (zaf 2)
noncomputable def zcc:FS:=zav (zj2 (cOp dIx (cOp dIx (zaf 0) (cK (.int 1))) (zaf 4)) (zbQ 2 (zay (zaC 5) (zay (zaC 6) zbO)))) (zel (za5 (zaf 3) (zcV (zad (zaF zbo (zad (zan (zla (zaf 1)) (zbQ 2 (zay (zaC 0) (zay (zaC 1) zbO))) zcT zd9 [none,none,some 5]) zal)) (zad (zaf 6) zal)))))
noncomputable def G_35:FS:=zav (zbN 3 (zeX zal)) (zav (zkO (iSq (zaf 2)) (zaC 4) zcc) (zcq (zcV (zad (zaF zdC (zad (zaf 1) zal)) (zad (zaF zbo (zad (zaf 3) zal)) zal)))))
noncomputable def F_35:List D->M D:=zc5 7 G_35
theorem d_35 (x0 x1 x2:D):F_35 [x0,x1,x2]=(do let o<-G_35 [some x0,some x1,some x2,none,none,none,none];zcS o):=rfl
noncomputable def zdy:FE:=zaf 0
noncomputable def zdx:FE:=zaf 0
noncomputable def zdz:FT:=zc2 zda (zaf 0) (zaf 1)
noncomputable def zdv:FE:=zaf 0
noncomputable def zdw:FE:=zaf 0
noncomputable def zdB:FT:=zc2 zda (zaf 0) (zaf 1)
noncomputable def zcI:FE:=zaf 0
noncomputable def zcB:FT:=zc2 dIn (zaf 0) (zaf 1)
noncomputable def zcv:FE:=zaf 0
noncomputable def zcC:FT:=zc2 dNe (zan (iSq (cOp dIx (cOp dIx (cOp dIx (zaf 1) (cK (.int 1))) (zaf 0)) (cK (.int 0)))) (zaC 0) zcB zcI [none,some 2]) (ziW zal)
noncomputable def zcw:FE:=zaf 0
noncomputable def zcH:FT:=zc2 zda (zaf 0) (zaf 1)
noncomputable def zb1:FE:=cOp dIx (cOp dIx (zaf 1) (cK (.int 1))) (zaf 0)
noncomputable def zbY:FE:=cOp dIx (cOp dIx (zaf 1) (cK (.int 0))) (zaf 0)
noncomputable def zdh:FE:=cOp dIx (cOp dIx (zaf 1) (cK (.int 0))) (zaf 0)
noncomputable def zdm:FE:=cOp dIx (cOp dIx (zaf 1) (cK (.int 1))) (zaf 0)
noncomputable def zb0:FT:=zls (cK (.bl true))
noncomputable def zbv:FS:=zav (zbN 3 (zan (iSq (zaF (zax 2 F_34) (zad (zaf 0) (zad (cK (.bl false)) zal)))) (zbQ 2 (zay (zaC 0) (zay (zaC 1) zbO))) (fun _=>pure true) zdy [none,none])) (zav (zbN 4 (zan (zey (zad (zaF zdC (zad (cOp dIx (zaf 0) (cK (.int 1))) zal)) zal)) (zaC 0) zdz zdx [none,some 3])) (zav (zbN 5 (cUn zds (cOp dIx (zaf 0) (cK (.int 0))))) (zav (zbN 6 (zan (iSq (zaF (zax 2 F_34) (zad (zaF (zax 3 F_35) (zad (zaf 0) (zad (zaf 5) (zad (zaf 4) zal)))) (zad (cK (.bl true)) zal)))) (zbQ 2 (zay (zaC 0) (zay (zaC 1) zbO))) (fun _=>pure true) zdv [none,none])) (zav (zbN 7 (zan (iSq (zaf 5)) (zaC 0) zdB zdw [none,some 6])) (zav (zbN 4 (zan (iSq (zaf 4)) (zaC 0) zcC zcv [none,some 0,some 7])) (zav (sIf (zo3 (zc2 dEq (zaF zdC (zad (zaf 4) zal)) (zaF zdC (zad (cOp dIx (zaf 0) (cK (.int 1))) zal))) (zc2 dEq (zaf 6) (ziW zal))) (zcq (zcV (zad (zcV (zad (zaf 0) (zad (zaF zbo (zad (cOp dIx (zaf 1) (cK (.int 0))) zal)) (zad (zaF zbo (zad (cOp dIx (zaf 1) (cK (.int 1))) zal)) zal)))) (zad (cUn zn2 (zaf 2)) zal)))) zhy) (zav (zbN 3 (zan (zey (zad (zaF zdC (zad (cOp dIx (zaf 0) (cK (.int 1))) zal)) zal)) (zaC 0) zcH zcw [none,some 4])) (zav (zel (za5 (zaf 2) (zcV (zad (zaF zbo (zad (zan (iSq (zaf 3)) (zaC 0) (fun _=>pure true) zb1 [none,some 1]) zal)) (zad (zaF zbo (zad (zan (iSq (zaf 6)) (zaC 0) (fun _=>pure true) zbY [none,some 1]) zal)) zal))))) (zav (zbN 0 (zaF (zax 3 F_35) (zad (zaf 0) (zad (zaf 7) (zad (zaf 4) zal))))) (zbN 1 (zcV (zad (zan (iSq (zaf 7)) (zaC 0) (fun _=>pure true) zdh [none,some 1]) (zad (zan (iSq (zaf 4)) (zaC 0) (fun _=>pure true) zdm [none,some 1]) zal)))))))))))))
noncomputable def G_36:FS:=zav (zbN 1 (zcV (zad (cUn zds (cOp dIx (zaf 0) (cK (.int 0)))) (zad (cUn zds (zaF zdC (zad (cOp dIx (zaf 0) (cK (.int 1))) zal))) zal)))) (zav (zbN 2 (zeX zal)) (zgP 1000 zb0 zbv))
noncomputable def F_36:List D->M D:=zc5 8 G_36
theorem d_36 (x0:D):F_36 [x0]=(do let o<-G_36 [some x0,none,none,none,none,none,none,none];zcS o):=rfl
noncomputable def zcW:FE:=cOp dIx (zaf 0) (cK (.int 0))
noncomputable def zd2:FE:=zaf 0
noncomputable def zdT:FT:=zc2 zda (zaf 0) (zaf 1)
noncomputable def G_22:FS:=zav (zbN 2 (zan (iSq (zaf 1)) (zaC 0) (fun _=>pure true) zcW [none])) (zcq (zan (zey (zad (zaf 0) zal)) (zaC 0) zdT zd2 [none,some 2]))
noncomputable def F_22:List D->M D:=zc5 3 G_22
theorem d_22 (x0 x1:D):F_22 [x0,x1]=(do let o<-G_22 [some x0,some x1,none];zcS o):=rfl
noncomputable def za9:FS:=zel (zhN (zaf 1) (cOp dIx (zaf 2) (cK (.int 0))))
noncomputable def G_4:FS:=zav (zbN 1 (zeX zal)) (zav (zkO (iSq (zaf 0)) (zaC 2) za9) (zcq (zaF zbo (zad (cUn zdX (zaf 1)) zal))))
noncomputable def F_4:List D->M D:=zc5 3 G_4
theorem d_4 (x0:D):F_4 [x0]=(do let o<-G_4 [some x0,none,none];zcS o):=rfl
noncomputable def G_5:FS:=zcq (cOp dEq (zaF zdC (zad (zaF (zax 1 F_4) (zad (zaf 1) zal)) zal)) (cOp dIx (zaf 0) (cK (.int 0))))
noncomputable def F_5:List D->M D:=zc5 2 G_5
theorem d_5 (x0 x1:D):F_5 [x0,x1]=(do let o<-G_5 [some x0,some x1];zcS o):=rfl
noncomputable def G_2:FS:=zcq (zaF (zax 2 F_5) (zad (zaf 0) (zad (cOp dIx (zaf 0) (cK (.int 1))) zal)))
noncomputable def F_2:List D->M D:=zc5 1 G_2
theorem d_2 (x0:D):F_2 [x0]=(do let o<-G_2 [some x0];zcS o):=rfl
noncomputable def G_3:FS:=sIf (zmF (zls (zaF (zax 1 F_2) (zad (zaf 0) zal)))) zs1 zhy
noncomputable def F_3:List D->M D:=zc5 1 G_3
theorem d_3 (x0:D):F_3 [x0]=(do let o<-G_3 [some x0];zcS o):=rfl
noncomputable def G_19:FS:=zcq (zqD (cOp dIx (cOp dIx (zaf 0) (zaf 2)) (zaf 1)) (cOr (cOp dLt (zaf 1) (zaf 2)) (zrn (cOp dIx (cOp dIx (zaf 0) (zaf 1)) (zaf 2)))))
noncomputable def F_19:List D->M D:=zc5 3 G_19
theorem d_19 (x0 x1 x2:D):F_19 [x0,x1,x2]=(do let o<-G_19 [some x0,some x1,some x2];zcS o):=rfl
noncomputable def zcn:FE:=zaf 0
noncomputable def zcp:FT:=zls (zaF (zax 3 F_19) (zad (zaf 1) (zad (zaf 0) (zad (zaf 2) zal))))
noncomputable def zcu:FS:=zav (zbN 3 (zan (zey (zad (zaF zdC (zad (zaf 0) zal)) zal)) (zaC 0) zcp zcn [none,some 0,some 2])) (sIf (zmz (zaf 3)) (zel (za5 (zaf 1) (zcV (zad (zaf 2) (zad (cOp dIx (zaf 3) (cK (.int 0))) zal))))) zhy)
noncomputable def G_18:FS:=zav (zbN 1 (zeX zal)) (zav (zkO (zey (zad (zaF zdC (zad (zaf 0) zal)) zal)) (zaC 2) zcu) (zcq (cUn zn2 (zaf 1))))
noncomputable def F_18:List D->M D:=zc5 4 G_18
theorem d_18 (x0:D):F_18 [x0]=(do let o<-G_18 [some x0,none,none,none];zcS o):=rfl
noncomputable def zcX:FE:=cOp dIn (zaf 0) (zaf 1)
noncomputable def G_17:FS:=zcq (zaF zrr (zad (zan (iSq (zaf 0)) (zaC 0) (fun _=>pure true) zcX [none,some 1]) zal))
noncomputable def F_17:List D->M D:=zc5 2 G_17
theorem d_17 (x0 x1:D):F_17 [x0,x1]=(do let o<-G_17 [some x0,some x1];zcS o):=rfl
noncomputable def zbG:FE:=zqD (cOp dLe (cOp dIx (zaf 0) (cK (.int 1))) (cOp dIx (zaf 1) (cK (.int 1)))) (zaF (zax 2 F_17) (zad (cOp dIx (zaf 1) (cK (.int 0))) (zad (cOp dIx (zaf 0) (cK (.int 0))) zal)))
noncomputable def G_14:FS:=zcq (zan (iSq (cOp dIx (zaf 0) (cK (.int 1)))) (zaC 0) (fun _=>pure true) zbG [none,some 1])
noncomputable def F_14:List D->M D:=zc5 2 G_14
theorem d_14 (x0 x1:D):F_14 [x0,x1]=(do let o<-G_14 [some x0,some x1];zcS o):=rfl
noncomputable def zbz:FE:=zaF (zax 2 F_14) (zad (zaf 1) (zad (zaf 0) zal))
noncomputable def G_13:FS:=zcq (zan (iSq (cOp dIx (zaf 0) (cK (.int 1)))) (zaC 0) (fun _=>pure true) zbz [none,some 0])
noncomputable def F_13:List D->M D:=zc5 1 G_13
theorem d_13 (x0:D):F_13 [x0]=(do let o<-G_13 [some x0];zcS o):=rfl
noncomputable def G_9:FS:=zav (zel (zaF (zax 1 F_3) (zad (zaf 0) zal))) (zcq (zaF (zax 1 F_18) (zad (zaF (zax 1 F_13) (zad (zaf 0) zal)) zal)))
noncomputable def F_9:List D->M D:=zc5 1 G_9
theorem d_9 (x0:D):F_9 [x0]=(do let o<-G_9 [some x0];zcS o):=rfl
noncomputable def zbI:FE:=zaf 0
noncomputable def zbF:FT:=zc2 dIn (zaf 2) (cOp dIx (zaf 1) (cK (.int 0)))
noncomputable def G_6:FS:=zcq (zaF zbo (zad (zan (zqh (cOp dIx (zaf 0) (cK (.int 1)))) (zbQ 2 (zay (zaC 0) (zay (zaC 1) zbO))) zbF zbI [none,none,some 1]) zal))
noncomputable def F_6:List D->M D:=zc5 2 G_6
theorem d_6 (x0 x1:D):F_6 [x0,x1]=(do let o<-G_6 [some x0,some x1];zcS o):=rfl
noncomputable def zbt:FE:=zaF (zax 2 F_17) (zad (zaF (zax 2 F_6) (zad (zaf 1) (zad (zaf 0) zal))) (zad (zaf 2) zal))
noncomputable def G_16:FS:=zav (zbN 2 (zaF (zax 2 F_6) (zad (zaf 0) (zad (zaf 1) zal)))) (zcq (zan (zey (zad (cOp dIx (zaf 0) (cK (.int 0))) zal)) (zaC 0) (fun _=>pure true) zbt [none,some 0,some 2]))
noncomputable def F_16:List D->M D:=zc5 3 G_16
theorem d_16 (x0 x1:D):F_16 [x0,x1]=(do let o<-G_16 [some x0,some x1,none];zcS o):=rfl
noncomputable def zbA:FE:=zaF (zax 2 F_16) (zad (zaf 1) (zad (zaf 0) zal))
noncomputable def G_15:FS:=zcq (zan (zey (zad (cOp dIx (zaf 0) (cK (.int 0))) zal)) (zaC 0) (fun _=>pure true) zbA [none,some 0])
noncomputable def F_15:List D->M D:=zc5 1 G_15
theorem d_15 (x0:D):F_15 [x0]=(do let o<-G_15 [some x0];zcS o):=rfl
noncomputable def G_10:FS:=zav (zel (zaF (zax 1 F_3) (zad (zaf 0) zal))) (zcq (zaF (zax 1 F_18) (zad (zaF (zax 1 F_15) (zad (zaf 0) zal)) zal)))
noncomputable def F_10:List D->M D:=zc5 1 G_10
theorem d_10 (x0:D):F_10 [x0]=(do let o<-G_10 [some x0];zcS o):=rfl
noncomputable def zev:FE:=zaf 0
noncomputable def zdi:FT:=zc2 dIn (zaf 1) (cOp dIx (zaf 2) (cK (.int 0)))
noncomputable def G_8:FS:=zcq (zaF zbo (zad (zan (zla (zaf 1)) (zbQ 2 (zay (zaC 0) (zay (zaC 1) zbO))) zdi zev [none,none,some 0]) zal))
noncomputable def F_8:List D->M D:=zc5 2 G_8
theorem d_8 (x0 x1:D):F_8 [x0,x1]=(do let o<-G_8 [some x0,some x1];zcS o):=rfl
noncomputable def zdM:FE:=cOp dIx (cOp dIx (zaf 1) (cK (.int 1))) (zaf 0)
noncomputable def zdD:FE:=zcV (zad (zaF (zax 2 F_8) (zad (zaf 0) (zad (zaf 1) zal))) (zad (cOp dIx (zaf 0) (cK (.int 1))) zal))
noncomputable def G_7:FS:=zav (zbN 3 (zan (iSq (zaf 2)) (zaC 0) (fun _=>pure true) zdM [none,some 0])) (zcq (zcV (zad (zaF zdC (zad (zaf 1) zal)) (zad (zaF zbo (zad (zan (iSq (zaf 3)) (zaC 0) (fun _=>pure true) zdD [none,some 1]) zal)) zal))))
noncomputable def F_7:List D->M D:=zc5 4 G_7
theorem d_7 (x0 x1 x2:D):F_7 [x0,x1,x2]=(do let o<-G_7 [some x0,some x1,some x2,none];zcS o):=rfl
noncomputable def zb7:FE:=zaf 0
noncomputable def zb9:FT:=zmz (zaF (zax 2 F_8) (zad (cOp dIx (cOp dIx (zaf 1) (cK (.int 1))) (zaf 0)) (zad (zaf 2) zal)))
noncomputable def zb8:FE:=cOp dIx (cOp dIx (zaf 1) (cK (.int 1))) (zaf 0)
noncomputable def zb5:FE:=cOp dIx (cOp dIx (zaf 1) (cK (.int 2))) (zaf 0)
noncomputable def G_21:FS:=zav (zbN 1 (cOp dIx (zaf 0) (cK (.int 0)))) (zav (zbN 2 (zaF (zax 2 F_22) (zad (zaF zdC (zad (cOp dIx (zaf 1) (cK (.int 1))) zal)) (zad (zaF (zax 1 F_9) (zad (zaf 1) zal)) zal)))) (zav (zbN 3 (cUn zds (cOp dIx (zaf 1) (cK (.int 0))))) (zav (zbN 4 (zaF (zax 2 F_22) (zad (cOp dIx (zaf 1) (cK (.int 0))) (zad (zaF (zax 1 F_10) (zad (zaF (zax 3 F_7) (zad (zaf 1) (zad (zaf 3) (zad (zaf 2) zal)))) zal)) zal)))) (zav (zbN 2 (zan (iSq (zaf 2)) (zaC 0) zb9 zb7 [none,some 1,some 4])) (zav (zbN 5 (zaF zbo (zad (zan (iSq (zaf 4)) (zaC 0) (fun _=>pure true) zb8 [none,some 0]) zal))) (zav (zbN 6 (zaF zbo (zad (zan (iSq (zaf 2)) (zaC 0) (fun _=>pure true) zb5 [none,some 0]) zal))) (zcq (zcV (zad (zaF (zax 3 F_7) (zad (zaf 1) (zad (zaf 4) (zad (zaf 2) zal)))) (zad (zaf 5) (zad (zaf 6) zal)))))))))))
noncomputable def F_21:List D->M D:=zc5 7 G_21
theorem d_21 (x0:D):F_21 [x0]=(do let o<-G_21 [some x0,none,none,none,none,none,none];zcS o):=rfl
noncomputable def zaV:FT:=zc2 dNe (zaf 2) (cOp dIx (zaf 1) (cUn zo2 (cK (.int 1))))
noncomputable def za8:FS:=zav (zel (za5 (zaf 1) (zaf 2))) (zbN 2 (zaF (zax 1 F_21) (zad (zaf 2) zal)))
noncomputable def G_20:FS:=zav (zbN 1 (zeX (zad (zcV (zad (zaf 0) (zad (cUn zgd (cOp dIx (zaf 0) (cK (.int 0)))) (zad (cUn zgd (zaF zdC (zad (cOp dIx (zaf 0) (cK (.int 1))) zal))) zal)))) zal))) (zav (zbN 2 (zaF (zax 1 F_21) (zad (cOp dIx (zaf 1) (cUn zo2 (cK (.int 1)))) zal))) (zav (zgP 1000 zaV za8) (zcq (cUn zn2 (zaf 1)))))
noncomputable def F_20:List D->M D:=zc5 3 G_20
theorem d_20 (x0:D):F_20 [x0]=(do let o<-G_20 [some x0,none,none];zcS o):=rfl
noncomputable def G_11:FS:=zcq (cOp dIx (zaF (zax 1 F_20) (zad (zaf 0) zal)) (cUn zo2 (cK (.int 1))))
noncomputable def F_11:List D->M D:=zc5 1 G_11
theorem d_11 (x0:D):F_11 [x0]=(do let o<-G_11 [some x0];zcS o):=rfl
noncomputable def zdE:FE:=zaf 0
noncomputable def zdK:FT:=zc2 zda (zaf 0) (zaf 1)
noncomputable def G_24:FS:=zcq (zaF zbo (zad (zan (iSq (zaf 0)) (zaC 0) zdK zdE [none,some 1]) zal))
noncomputable def F_24:List D->M D:=zc5 2 G_24
theorem d_24 (x0 x1:D):F_24 [x0,x1]=(do let o<-G_24 [some x0,some x1];zcS o):=rfl
noncomputable def G_23:FS:=zcq (zcV (zad (zaF (zax 2 F_24) (zad (cOp dIx (zaf 0) (cK (.int 2))) (zad (cOp dIx (zaf 1) (cK (.int 2))) zal))) (zad (zaF (zax 2 F_24) (zad (cOp dIx (zaf 0) (cK (.int 1))) (zad (cOp dIx (zaf 1) (cK (.int 1))) zal))) zal)))
noncomputable def F_23:List D->M D:=zc5 2 G_23
theorem d_23 (x0 x1:D):F_23 [x0,x1]=(do let o<-G_23 [some x0,some x1];zcS o):=rfl
noncomputable def zeq:FE:=zaF (zax 2 F_23) (zad (cOp dIx (zaf 1) (cOp zoZ (zaf 0) (cK (.int 1)))) (zad (cOp dIx (zaf 1) (zaf 0)) zal))
noncomputable def G_12:FS:=zav (zbN 1 (zaF (zax 1 F_20) (zad (zaf 0) zal))) (zcq (zfu (zkV (zad (cK (.int 1)) (zad (zaF zdC (zad (zaf 1) zal)) zal))) (zaC 0) (fun _=>pure true) zeq [none,some 1]))
noncomputable def F_12:List D->M D:=zc5 2 G_12
theorem d_12 (x0:D):F_12 [x0]=(do let o<-G_12 [some x0,none];zcS o):=rfl
noncomputable def zhU:FE:=cUn (zlk "tuple") (zaf 0)
noncomputable def zhA:FS:=zav (zbN 8 (zaF (zax 1 F_12) (zad (zaf 3) zal))) (zav (sIf (tOr (zmF (zls (cUn (zlk "list") (zaf 8)))) (zc2 zmQ (zaf 8) (zaf 5))) (zcq (cK (.bl false))) zhy) (zel (za5 (zaf 8) (zcV zal))))
noncomputable def ze8:FS:=zav (zj2 (zaF (zax 1 F_36) (zad (zaf 3) zal)) (zbQ 2 (zay (zaC 4) (zay (zaC 5) zbO)))) (zav (zbN 6 (zaF (zax 1 F_11) (zad (zaf 3) zal))) (zav (sIf (tOr (zmF (zls (cUn (zlk "tuple") (zaf 6)))) (tOr (zc2 zmQ (zaf 6) (zaf 4)) (zmF (zls (zaF zrr (zad (zan (iSq (zaf 6)) (zaC 0) (fun _=>pure true) zhU [none]) zal)))))) (zcq (cK (.bl false))) zhy) (zkO (zey (zad (cK (.int 2)) zal)) (zaC 7) zhA)))
noncomputable def zf3:FS:=zav (zbN 2 (zaF (zax 2 F_27) (zad (zaf 0) (zad (zaf 1) zal)))) (zkO (iSq (ziW (zad (zaF (zax 1 F_37) (zad (zaf 2) zal)) (zad (zaF (zax 3 F_30) (zad (zaf 2) (zad (cK (.int 6)) (zad (cK (.int 8)) zal)))) zal)))) (zaC 3) ze8)
noncomputable def G_38:FS:=zav (zkO (zey (zad (zaF zkH (zad (cK (.int 1)) (zad (zaF zow (zad (zaF zdC (zad (zaf 0) zal)) (zad (cK (.int 4)) zal))) zal))) zal)) (zaC 1) zf3) (zcq (cOp zqy (zaF (zax 1 F_11) (zad (zcV (zad (cK (.int 1)) (zad (zcV (zad (zcV (zad (zcV (zad (cK (.int 0)) zal)) (zad (cK (.int 3)) zal))) zal)) zal))) zal)) (zcV (zad (zcV (zad (cK (.int 1)) (zad (zcV (zad (zcV (zad (zcV (zad (cK (.int 0)) zal)) (zad (cK (.int 3)) zal))) zal)) zal))) (zad (zcV (zad (cK (.int 0)) zal)) (zad (zcV (zad (cK (.int 0)) zal)) zal))))))
noncomputable def F_38:List D->M D:=zc5 9 G_38
theorem d_38 (x0:D):F_38 [x0]=(do let o<-G_38 [some x0,none,none,none,none,none,none,none,none];zcS o):=rfl
end K62
set_option genInjectivity false
set_option genSizeOf false
set_option genSizeOfSpec false
namespace K62
open PySem PySem.Spec PyProof.Rows L2 L3
noncomputable def top (i:Nat):Stmt:=PySem.Challenge.pw_cheapcovers_k62_lesser_stocks.main.body.getD i (.Pass ⟨0,0,0,0⟩)
theorem zc7 {A:Around} {k:Nat} (hr:zej k A):A.units+60<cLine:=by have:=hr.units;omega
theorem zmJ:bootBuiltins "all"=some (.builtin "all"):=by decide +kernel
theorem zkm:bootBuiltins "divmod"=some (.builtin "divmod"):=by decide +kernel
theorem zmZ:bootBuiltins "int"=some (.type "int"):=by decide +kernel
theorem zbC:bootBuiltins "len"=some (.builtin "len"):=by decide +kernel
theorem zkS:bootBuiltins "list"=some (.type "list"):=by decide +kernel
theorem zmX:bootBuiltins "max"=some (.builtin "max"):=by decide +kernel
theorem zpH:bootBuiltins "min"=some (.builtin "min"):=by decide +kernel
theorem zaT:bootBuiltins "tuple"=some (.type "tuple"):=by decide +kernel
noncomputable abbrev s_25:Stmt:=top 29
noncomputable abbrev s_26:Stmt:=top 30
noncomputable abbrev s_27:Stmt:=top 31
noncomputable abbrev s_28:Stmt:=top 32
noncomputable abbrev s_29:Stmt:=top 33
noncomputable abbrev s_30:Stmt:=top 34
noncomputable abbrev s_37:Stmt:=top 41
noncomputable abbrev s_31:Stmt:=top 35
noncomputable abbrev s_32:Stmt:=top 36
noncomputable abbrev s_33:Stmt:=top 37
noncomputable abbrev s_34:Stmt:=top 38
noncomputable abbrev s_35:Stmt:=top 39
noncomputable abbrev s_36:Stmt:=top 40
noncomputable abbrev s_22:Stmt:=top 25
noncomputable abbrev s_4:Stmt:=top 6
noncomputable abbrev s_5:Stmt:=top 7
noncomputable abbrev s_2:Stmt:=top 4
noncomputable abbrev s_3:Stmt:=top 5
noncomputable abbrev s_19:Stmt:=top 22
noncomputable abbrev s_18:Stmt:=top 21
noncomputable abbrev s_17:Stmt:=top 20
noncomputable abbrev s_14:Stmt:=top 17
noncomputable abbrev s_13:Stmt:=top 16
noncomputable abbrev s_9:Stmt:=top 12
noncomputable abbrev s_6:Stmt:=top 8
noncomputable abbrev s_16:Stmt:=top 19
noncomputable abbrev s_15:Stmt:=top 18
noncomputable abbrev s_10:Stmt:=top 13
noncomputable abbrev s_8:Stmt:=top 10
noncomputable abbrev s_7:Stmt:=top 9
noncomputable abbrev s_21:Stmt:=top 24
noncomputable abbrev s_20:Stmt:=top 23
noncomputable abbrev s_11:Stmt:=top 14
noncomputable abbrev s_24:Stmt:=top 27
noncomputable abbrev s_23:Stmt:=top 26
noncomputable abbrev s_12:Stmt:=top 15
noncomputable abbrev s_38:Stmt:=top 42
structure Ad where
 a_25:Addr
 d_25:FuncData
 a_26:Addr
 d_26:FuncData
 a_27:Addr
 d_27:FuncData
 a_28:Addr
 d_28:FuncData
 a_29:Addr
 d_29:FuncData
 a_30:Addr
 d_30:FuncData
 a_37:Addr
 d_37:FuncData
 a_31:Addr
 d_31:FuncData
 a_32:Addr
 d_32:FuncData
 a_33:Addr
 d_33:FuncData
 a_34:Addr
 d_34:FuncData
 a_35:Addr
 d_35:FuncData
 a_36:Addr
 d_36:FuncData
 a_22:Addr
 d_22:FuncData
 a_4:Addr
 d_4:FuncData
 a_5:Addr
 d_5:FuncData
 a_2:Addr
 d_2:FuncData
 a_3:Addr
 d_3:FuncData
 a_19:Addr
 d_19:FuncData
 a_18:Addr
 d_18:FuncData
 a_17:Addr
 d_17:FuncData
 a_14:Addr
 d_14:FuncData
 a_13:Addr
 d_13:FuncData
 a_9:Addr
 d_9:FuncData
 a_6:Addr
 d_6:FuncData
 a_16:Addr
 d_16:FuncData
 a_15:Addr
 d_15:FuncData
 a_10:Addr
 d_10:FuncData
 a_8:Addr
 d_8:FuncData
 a_7:Addr
 d_7:FuncData
 a_21:Addr
 d_21:FuncData
 a_20:Addr
 d_20:FuncData
 a_11:Addr
 d_11:FuncData
 a_24:Addr
 d_24:FuncData
 a_23:Addr
 d_23:FuncData
 a_12:Addr
 d_12:FuncData
 a_38:Addr
 d_38:FuncData
structure Tx (K:W.Frag) (mg:Str->Option Value) (t:Ad):Prop where
 n_all:mg "all"=none
 n_divmod:mg "divmod"=none
 n_enumerate:mg "enumerate"=none
 n_int:mg "int"=none
 n_isinstance:mg "isinstance"=none
 n_len:mg "len"=none
 n_list:mg "list"=none
 n_max:mg "max"=none
 n_min:mg "min"=none
 n_range:mg "range"=none
 n_set:mg "set"=none
 n_sorted:mg "sorted"=none
 n_tuple:mg "tuple"=none
 m_25:mg "_law_cell"=some (.ref t.a_25)
 F_25:Fun K "_law_cell" "_law_cell" s_25 t.a_25 t.d_25
 b_25:zaX K t.d_25 ["script","k"] []
 m_26:mg "_law_mix"=some (.ref t.a_26)
 F_26:Fun K "_law_mix" "_law_mix" s_26 t.a_26 t.d_26
 b_26:zaX K t.d_26 ["cell","k"] []
 m_27:mg "_law_box"=some (.ref t.a_27)
 F_27:Fun K "_law_box" "_law_box" s_27 t.a_27 t.d_27
 b_27:zaX K t.d_27 ["script","k"] []
 m_28:mg "_law_take"=some (.ref t.a_28)
 F_28:Fun K "_law_take" "_law_take" s_28 t.a_28 t.d_28
 b_28:zaX K t.d_28 ["box","many"] []
 m_29:mg "_law_stock"=some (.ref t.a_29)
 F_29:Fun K "_law_stock" "_law_stock" s_29 t.a_29 t.d_29
 b_29:zaX K t.d_29 ["box","most_things","most_offers"] []
 m_30:mg "_law_full"=some (.ref t.a_30)
 F_30:Fun K "_law_full" "_law_full" s_30 t.a_30 t.d_30
 b_30:zaX K t.d_30 ["box","most_things","most_offers"] []
 m_37:mg "_law_alike_stock"=some (.ref t.a_37)
 F_37:Fun K "_law_alike_stock" "_law_alike_stock" s_37 t.a_37 t.d_37
 b_37:zaX K t.d_37 ["box"] []
 m_31:mg "_law_rules"=some (.ref t.a_31)
 F_31:Fun K "_law_rules" "_law_rules" s_31 t.a_31 t.d_31
 b_31:zaX K t.d_31 ["stock","by","offer"] []
 m_32:mg "_law_have"=some (.ref t.a_32)
 F_32:Fun K "_law_have" "_law_have" s_32 t.a_32 t.d_32
 b_32:zaX K t.d_32 ["stock","thing"] []
 m_33:mg "_law_thing_rules"=some (.ref t.a_33)
 F_33:Fun K "_law_thing_rules" "_law_thing_rules" s_33 t.a_33 t.d_33
 b_33:zaX K t.d_33 ["stock","by","thing"] []
 m_34:mg "_law_ruled"=some (.ref t.a_34)
 F_34:Fun K "_law_ruled" "_law_ruled" s_34 t.a_34 t.d_34
 b_34:zaX K t.d_34 ["stock","things"] []
 m_35:mg "_law_left"=some (.ref t.a_35)
 F_35:Fun K "_law_left" "_law_left" s_35 t.a_35 t.d_35
 b_35:zaX K t.d_35 ["stock","things","offers"] []
 m_36:mg "_law_swept"=some (.ref t.a_36)
 F_36:Fun K "_law_swept" "_law_swept" s_36 t.a_36 t.d_36
 b_36:zaX K t.d_36 ["stock"] []
 m_22:mg "not_ruled"=some (.ref t.a_22)
 F_22:Fun K "not_ruled" "not_ruled" s_22 t.a_22 t.d_22
 b_22:zaX K t.d_22 ["count","ruled"] []
 m_4:mg "things_together"=some (.ref t.a_4)
 F_4:Fun K "things_together" "things_together" s_4 t.a_4 t.d_4
 b_4:zaX K t.d_4 ["offers"] []
 m_5:mg "have_all"=some (.ref t.a_5)
 F_5:Fun K "have_all" "have_all" s_5 t.a_5 t.d_5
 b_5:zaX K t.d_5 ["stock","offers"] []
 m_2:mg "is_full"=some (.ref t.a_2)
 F_2:Fun K "is_full" "is_full" s_2 t.a_2 t.d_2
 b_2:zaX K t.d_2 ["stock"] []
 m_3:mg "need_full"=some (.ref t.a_3)
 F_3:Fun K "need_full" "need_full" s_3 t.a_3 t.d_3
 b_3:zaX K t.d_3 ["stock"] []
 m_19:mg "rules"=some (.ref t.a_19)
 F_19:Fun K "rules" "rules" s_19 t.a_19 t.d_19
 b_19:zaX K t.d_19 ["table","other","number"] []
 m_18:mg "ruled_by"=some (.ref t.a_18)
 F_18:Fun K "ruled_by" "ruled_by" s_18 t.a_18 t.d_18
 b_18:zaX K t.d_18 ["table"] []
 m_17:mg "are_among"=some (.ref t.a_17)
 F_17:Fun K "are_among" "are_among" s_17 t.a_17 t.d_17
 b_17:zaX K t.d_17 ["numbers","others"] []
 m_14:mg "as_good_offers"=some (.ref t.a_14)
 F_14:Fun K "as_good_offers" "as_good_offers" s_14 t.a_14 t.d_14
 b_14:zaX K t.d_14 ["stock","offer"] []
 m_13:mg "table_of_offers"=some (.ref t.a_13)
 F_13:Fun K "table_of_offers" "table_of_offers" s_13 t.a_13 t.d_13
 b_13:zaX K t.d_13 ["stock"] []
 m_9:mg "ruled_offers"=some (.ref t.a_9)
 F_9:Fun K "ruled_offers" "ruled_offers" s_9 t.a_9 t.d_9
 b_9:zaX K t.d_9 ["stock"] []
 m_6:mg "offers_with"=some (.ref t.a_6)
 F_6:Fun K "offers_with" "offers_with" s_6 t.a_6 t.d_6
 b_6:zaX K t.d_6 ["stock","thing"] []
 m_16:mg "as_scarce_things"=some (.ref t.a_16)
 F_16:Fun K "as_scarce_things" "as_scarce_things" s_16 t.a_16 t.d_16
 b_16:zaX K t.d_16 ["stock","thing"] []
 m_15:mg "table_of_things"=some (.ref t.a_15)
 F_15:Fun K "table_of_things" "table_of_things" s_15 t.a_15 t.d_15
 b_15:zaX K t.d_15 ["stock"] []
 m_10:mg "ruled_things"=some (.ref t.a_10)
 F_10:Fun K "ruled_things" "ruled_things" s_10 t.a_10 t.d_10
 b_10:zaX K t.d_10 ["stock"] []
 m_8:mg "narrowed"=some (.ref t.a_8)
 F_8:Fun K "narrowed" "narrowed" s_8 t.a_8 t.d_8
 b_8:zaX K t.d_8 ["offer","things"] []
 m_7:mg "rest_of"=some (.ref t.a_7)
 F_7:Fun K "rest_of" "rest_of" s_7 t.a_7 t.d_7
 b_7:zaX K t.d_7 ["stock","things","numbers"] []
 m_21:mg "behind_sweep"=some (.ref t.a_21)
 F_21:Fun K "behind_sweep" "behind_sweep" s_21 t.a_21 t.d_21
 b_21:zaX K t.d_21 ["stay"] []
 m_20:mg "stays_by_sweeps"=some (.ref t.a_20)
 F_20:Fun K "stays_by_sweeps" "stays_by_sweeps" s_20 t.a_20 t.d_20
 b_20:zaX K t.d_20 ["stock"] []
 m_11:mg "lesser_stock"=some (.ref t.a_11)
 F_11:Fun K "lesser_stock" "lesser_stock" s_11 t.a_11 t.d_11
 b_11:zaX K t.d_11 ["stock"] []
 m_24:mg "missing"=some (.ref t.a_24)
 F_24:Fun K "missing" "missing" s_24 t.a_24 t.d_24
 b_24:zaX K t.d_24 ["numbers","others"] []
 m_23:mg "left_out"=some (.ref t.a_23)
 F_23:Fun K "left_out" "left_out" s_23 t.a_23 t.d_23
 b_23:zaX K t.d_23 ["stay","later"] []
 m_12:mg "sweeps"=some (.ref t.a_12)
 F_12:Fun K "sweeps" "sweeps" s_12 t.a_12 t.d_12
 b_12:zaX K t.d_12 ["stock"] []
 m_38:mg "law"=some (.ref t.a_38)
 F_38:Fun K "law" "law" s_38 t.a_38 t.d_38
 b_38:zaX K t.d_38 ["script"] []
section
variable {P:Program} {w:World} {K:W.Frag} {mg:Str->Option Value} {base:Heap} {t:Ad}
theorem sc_25:zau ["script","k"] ["script","k"] (zac s_25):=⟨rfl,rfl,rfl,by decide +kernel,rfl,by decide +kernel,by decide +kernel⟩
theorem ok_25 (T:Tx K mg t):zbM P w K mg base CX0 1 t.a_25 t.d_25 ["script","k"] (zch K 2 F_25):=by
 refine zbh (k:=0) (G:=G_25) (N:=["script","k"]) (ps:=["script","k"]) (st:=s_25) T.F_25 sc_25 fun cdv A outer s H E hr=> ?_
 refine zag ?_ ?_
 refine ziL ?_ ?_ ?_
 refine zaL ?_ ?_ ?_
 exact zgL
 exact zab 1
 refine zaK (id:="len") ?_ ?_ ?_ ?_
 exact zaE
 exact zbC
 exact T.n_len
 refine zaa ?_ ?_
 exact zab 0
 exact zae
 refine zap ?_
 refine za1 ?_
 refine za7 ?_ ?_
 exact zab 0
 exact zab 1
 exact zcP
 refine zap ?_
 refine za1 ?_
 refine zdS ?_ ?_ ?_
 exact zbq
 refine zdS ?_ ?_ ?_
 exact znW
 exact zaj
 exact zab 1
 exact zaj
theorem nd_26:(["cell","k","number"]:List Str).Nodup:=by decide +kernel
theorem sc_26:zau ["cell","k","number"] ["cell","k"] (zac s_26):=⟨rfl,rfl,rfl,by decide +kernel,rfl,by decide +kernel,by decide +kernel⟩
theorem ok_26 (T:Tx K mg t):zbM P w K mg base CX0 1 t.a_26 t.d_26 ["cell","k"] (zch K 2 F_26):=by
 refine zbh (k:=0) (G:=G_26) (N:=["cell","k","number"]) (ps:=["cell","k"]) (st:=s_26) T.F_26 sc_26 fun cdv A outer s H E hr=> ?_
 refine zag ?_ ?_
 refine zaO 2 ?_ ?_
 exact nd_26
 refine zdS ?_ ?_ ?_
 exact zbq
 refine zdS ?_ ?_ ?_
 exact zeR
 refine zdS ?_ ?_ ?_
 exact zbq
 exact zab 0
 exact zaj
 exact zaj
 refine zdS ?_ ?_ ?_
 exact zeR
 exact zaj
 exact zab 1
 refine zag ?_ ?_
 refine zaO 2 ?_ ?_
 exact nd_26
 refine zdS ?_ ?_ ?_
 exact zbq
 refine zdS ?_ ?_ ?_
 exact zhH
 refine zdS ?_ ?_ ?_
 exact zeR
 exact zab 2
 exact zab 2
 exact zaj
 exact zab 1
 refine zap ?_
 refine za1 ?_
 refine zdS ?_ ?_ ?_
 exact zhH
 refine zdS ?_ ?_ ?_
 exact zeR
 exact zab 2
 refine zdS ?_ ?_ ?_
 exact zbq
 exact zab 2
 exact zaj
 exact zaj
theorem nd_27:(["script","k","here","number","j"]:List Str).Nodup:=by decide +kernel
theorem sc_27:zau ["script","k","here","number","j"] ["script","k"] (zac s_27):=⟨rfl,rfl,rfl,by decide +kernel,rfl,by decide +kernel,by decide +kernel⟩
theorem ok_27 (T:Tx K mg t):zbM P w K mg base CX0 2 t.a_27 t.d_27 ["script","k"] (zch K 2 F_27):=by
 have G_25:=ok_25 (P:=P) (w:=w) (base:=base) T
 have G_26:=ok_26 (P:=P) (w:=w) (base:=base) T
 refine zbh (k:=1) (G:=G_27) (N:=["script","k","here","number","j"]) (ps:=["script","k"]) (st:=s_27) T.F_27 sc_27 fun cdv A outer s H E hr=> ?_
 refine zag ?_ ?_
 refine zaO 2 ?_ ?_
 exact nd_27
 refine zao (k:=1) (g:=t.a_25) (fd:=t.d_25) (ps:=["script","k"]) ?_ ?_ ?_ ?_ ?_ ?_
 exact G_25
 exact (hr.mono (by decide))
 exact T.m_25
 exact T.F_25.kp
 exact T.b_25
 refine zaa ?_ ?_
 exact zab 0
 refine zaa ?_ ?_
 exact zab 1
 exact zae
 refine zag ?_ ?_
 refine ziL ?_ ?_ ?_
 refine zaL ?_ ?_ ?_
 exact (zcO (zc7 hr))
 refine zdS ?_ ?_ ?_
 exact zhH
 exact zab 2
 exact zaj
 exact zaj
 refine zap ?_
 refine za1 ?_
 refine zdZ ?_
 refine zaa ?_ ?_
 refine zdS ?_ ?_ ?_
 exact zmq
 exact zab 2
 exact zaj
 exact zae
 exact zcP
 refine zag ?_ ?_
 refine zaO 3 ?_ ?_
 exact nd_27
 exact zaj
 refine zag ?_ ?_
 refine zge ?_ ?_ ?_ ?_ ?_
 exact rfl
 exact PassesOwn.never
 refine zdL ?_ ?_
 exact T.n_range
 refine zaa ?_ ?_
 exact zaj
 exact zae
 exact zah 4 nd_27
 refine zap ?_
 refine zaO 3 ?_ ?_
 exact nd_27
 refine zdS ?_ ?_ ?_
 exact zbq
 refine zdS ?_ ?_ ?_
 exact zeR
 exact zab 3
 exact zaj
 refine zao (k:=1) (g:=t.a_26) (fd:=t.d_26) (ps:=["cell","k"]) ?_ ?_ ?_ ?_ ?_ ?_
 exact G_26
 exact (hr.mono (by decide))
 exact T.m_26
 exact T.F_26.kp
 exact T.b_26
 refine zaa ?_ ?_
 exact zab 2
 refine zaa ?_ ?_
 exact zab 4
 exact zae
 refine zap ?_
 refine za1 ?_
 refine zdZ ?_
 refine zaa ?_ ?_
 exact zab 3
 exact zae
theorem nd_28:(["box","many","left","digit"]:List Str).Nodup:=by decide +kernel
theorem sc_28:zau ["box","many","left","digit"] ["box","many"] (zac s_28):=⟨rfl,rfl,rfl,by decide +kernel,rfl,by decide +kernel,by decide +kernel⟩
theorem ok_28 (T:Tx K mg t):zbM P w K mg base CX0 1 t.a_28 t.d_28 ["box","many"] (zch K 2 F_28):=by
 refine zbh (k:=0) (G:=G_28) (N:=["box","many","left","digit"]) (ps:=["box","many"]) (st:=s_28) T.F_28 sc_28 fun cdv A outer s H E hr=> ?_
 refine zag ?_ ?_
 refine zfX ?_ ?_
 refine zaK (id:="divmod") ?_ ?_ ?_ ?_
 exact zha
 exact zkm
 exact T.n_divmod
 refine zaa ?_ ?_
 refine za7 ?_ ?_
 exact zab 0
 exact zaj
 refine zaa ?_ ?_
 exact zab 1
 exact zae
 refine zcr ?_ ?_
 exact rfl
 refine zaB ?_ ?_
 exact zah 2 nd_28
 refine zaB ?_ ?_
 exact zah 3 nd_28
 exact zbH
 refine zag ?_ ?_
 refine zfX ?_ ?_
 exact zab 2
 refine zrb ?_ ?_
 exact zab 0
 exact zaj
 refine zap ?_
 refine za1 ?_
 exact zab 3
theorem nd_29:(["box","most_things","most_offers","many","kind","full","offers","turn","things"]:List Str).Nodup:=by decide +kernel
theorem zpY:(["thing","box","full"]:List Str).Nodup:=by decide +kernel
theorem sc_29:zau ["box","most_things","most_offers","many","kind","full","offers","turn","things"] ["box","most_things","most_offers"] (zac s_29):=⟨rfl,rfl,rfl,by decide +kernel,rfl,by decide +kernel,by decide +kernel⟩
theorem ok_29 (T:Tx K mg t):zbM P w K mg base CX0 2 t.a_29 t.d_29 ["box","most_things","most_offers"] (zch K 3 F_29):=by
 have G_28:=ok_28 (P:=P) (w:=w) (base:=base) T
 refine zbh (k:=1) (G:=G_29) (N:=["box","most_things","most_offers","many","kind","full","offers","turn","things"]) (ps:=["box","most_things","most_offers"]) (st:=s_29) T.F_29 sc_29 fun cdv A outer s H E hr=> ?_
 refine zag ?_ ?_
 refine zaO 3 ?_ ?_
 exact nd_29
 refine zdS ?_ ?_ ?_
 exact zbq
 exact zaj
 refine zao (k:=1) (g:=t.a_28) (fd:=t.d_28) (ps:=["box","many"]) ?_ ?_ ?_ ?_ ?_ ?_
 exact G_28
 exact (hr.mono (by decide))
 exact T.m_28
 exact T.F_28.kp
 exact T.b_28
 refine zaa ?_ ?_
 exact zab 0
 refine zaa ?_ ?_
 exact zab 1
 exact zae
 refine zag ?_ ?_
 refine zaO 4 ?_ ?_
 exact nd_29
 refine za7 ?_ ?_
 refine ze7 ?_
 refine zaa ?_ ?_
 exact zaj
 refine zaa ?_ ?_
 exact zaj
 refine zaa ?_ ?_
 exact zaj
 refine zaa ?_ ?_
 refine zdS ?_ ?_ ?_
 exact znH
 exact zaj
 exact zaj
 exact zae
 refine zao (k:=1) (g:=t.a_28) (fd:=t.d_28) (ps:=["box","many"]) ?_ ?_ ?_ ?_ ?_ ?_
 exact G_28
 exact (hr.mono (by decide))
 exact T.m_28
 exact T.F_28.kp
 exact T.b_28
 refine zaa ?_ ?_
 exact zab 0
 refine zaa ?_ ?_
 exact zaj
 exact zae
 refine zag ?_ ?_
 refine zaO 5 ?_ ?_
 exact nd_29
 refine zao (k:=1) (g:=t.a_28) (fd:=t.d_28) (ps:=["box","many"]) ?_ ?_ ?_ ?_ ?_ ?_
 exact G_28
 exact (hr.mono (by decide))
 exact T.m_28
 exact T.F_28.kp
 exact T.b_28
 refine zaa ?_ ?_
 exact zab 0
 refine zaa ?_ ?_
 exact zaj
 exact zae
 refine zag ?_ ?_
 refine zaO 6 ?_ ?_
 exact nd_29
 refine zdZ ?_
 exact zae
 refine zag ?_ ?_
 refine zge ?_ ?_ ?_ ?_ ?_
 exact rfl
 exact PassesOwn.never
 refine zdL ?_ ?_
 exact T.n_range
 refine zaa ?_ ?_
 refine zao (k:=1) (g:=t.a_28) (fd:=t.d_28) (ps:=["box","many"]) ?_ ?_ ?_ ?_ ?_ ?_
 exact G_28
 exact (hr.mono (by decide))
 exact T.m_28
 exact T.F_28.kp
 exact T.b_28
 refine zaa ?_ ?_
 exact zab 0
 refine zaa ?_ ?_
 refine zdS ?_ ?_ ?_
 exact zbq
 exact zab 2
 exact zaj
 exact zae
 exact zae
 exact zah 7 nd_29
 refine zag ?_ ?_
 refine zdk 8 (N:=["thing","box","full"]) ?_ ?_ ?_ ?_ ?_ ?_ ?_ ?_
 exact rfl
 exact nd_29
 exact (BOk.of (Xn:=(zac s_29).names) (XN:=["box","most_things","most_offers","many","kind","full","offers","turn","things"]) rfl rfl rfl (by decide +kernel))
 exact (zaA.name (i:=0) rfl)
 refine zdL ?_ ?_
 exact T.n_range
 refine zaa ?_ ?_
 exact zab 3
 exact zae
 intro _ _ _
 exact zah 0 zpY
 intro _ _ _
 refine zbJ ?_
 refine zaL ?_ ?_ ?_
 exact zmM
 refine zao (k:=1) (g:=t.a_28) (fd:=t.d_28) (ps:=["box","many"]) ?_ ?_ ?_ ?_ ?_ ?_
 exact G_28
 exact (hr.mono (by decide))
 exact T.m_28
 exact T.F_28.kp
 exact T.b_28
 refine zaa ?_ ?_
 exact zab 1
 refine zaa ?_ ?_
 exact zaj
 exact zae
 exact zab 2
 intro _ _ _
 exact zab 0
 refine zag ?_ ?_
 refine ziL ?_ ?_ ?_
 refine zaL ?_ ?_ ?_
 exact (zcO (zc7 hr))
 exact zab 8
 refine ze7 ?_
 exact zae
 refine zap ?_
 refine zaO 8 ?_ ?_
 exact nd_29
 refine ze7 ?_
 refine zaa ?_ ?_
 refine zao (k:=1) (g:=t.a_28) (fd:=t.d_28) (ps:=["box","many"]) ?_ ?_ ?_ ?_ ?_ ?_
 exact G_28
 exact (hr.mono (by decide))
 exact T.m_28
 exact T.F_28.kp
 exact T.b_28
 refine zaa ?_ ?_
 exact zab 0
 refine zaa ?_ ?_
 exact zab 3
 exact zae
 exact zae
 exact zcP
 refine zap ?_
 refine zc8 ?_
 refine zct ?_ ?_
 exact zab 6
 refine zbk ?_
 refine zaa ?_ ?_
 refine zaM (T:="tuple") ?_ ?_ ?_ ?_
 exact zaD
 exact zaT
 exact T.n_tuple
 refine zaa ?_ ?_
 exact zab 8
 exact zae
 refine zaa ?_ ?_
 refine zdS ?_ ?_ ?_
 exact zbq
 exact zaj
 refine zao (k:=1) (g:=t.a_28) (fd:=t.d_28) (ps:=["box","many"]) ?_ ?_ ?_ ?_ ?_ ?_
 exact G_28
 exact (hr.mono (by decide))
 exact T.m_28
 exact T.F_28.kp
 exact T.b_28
 refine zaa ?_ ?_
 exact zab 0
 refine zaa ?_ ?_
 exact zab 4
 exact zae
 exact zae
 refine zap ?_
 refine za1 ?_
 refine zbk ?_
 refine zaa ?_ ?_
 exact zab 3
 refine zaa ?_ ?_
 refine zaM (T:="tuple") ?_ ?_ ?_ ?_
 exact zaD
 exact zaT
 exact T.n_tuple
 refine zaa ?_ ?_
 exact zab 6
 exact zae
 exact zae
theorem nd_30:(["box","most_things","most_offers","many","offers","left","at"]:List Str).Nodup:=by decide +kernel
theorem zp0:(["thing","offers"]:List Str).Nodup:=by decide +kernel
theorem zpw:(["one","thing"]:List Str).Nodup:=by decide +kernel
theorem sc_30:zau ["box","most_things","most_offers","many","offers","left","at"] ["box","most_things","most_offers"] (zac s_30):=⟨rfl,rfl,rfl,by decide +kernel,rfl,by decide +kernel,by decide +kernel⟩
theorem ok_30 (T:Tx K mg t):zbM P w K mg base CX0 3 t.a_30 t.d_30 ["box","most_things","most_offers"] (zch K 3 F_30):=by
 have G_29:=ok_29 (P:=P) (w:=w) (base:=base) T
 have G_28:=ok_28 (P:=P) (w:=w) (base:=base) T
 refine zbh (k:=2) (G:=G_30) (N:=["box","most_things","most_offers","many","offers","left","at"]) (ps:=["box","most_things","most_offers"]) (st:=s_30) T.F_30 sc_30 fun cdv A outer s H E hr=> ?_
 refine zag ?_ ?_
 refine zfX ?_ ?_
 refine zao (k:=2) (g:=t.a_29) (fd:=t.d_29) (ps:=["box","most_things","most_offers"]) ?_ ?_ ?_ ?_ ?_ ?_
 exact G_29
 exact (hr.mono (by decide))
 exact T.m_29
 exact T.F_29.kp
 exact T.b_29
 refine zaa ?_ ?_
 exact zab 0
 refine zaa ?_ ?_
 exact zab 1
 refine zaa ?_ ?_
 refine zdS ?_ ?_ ?_
 exact zhx
 exact zab 2
 exact zaj
 exact zae
 refine zcr ?_ ?_
 exact rfl
 refine zaB ?_ ?_
 exact zah 3 nd_30
 refine zaB ?_ ?_
 exact zah 4 nd_30
 exact zbH
 refine zag ?_ ?_
 refine zaO 5 ?_ ?_
 exact nd_30
 refine zaM (T:="tuple") ?_ ?_ ?_ ?_
 exact zaD
 exact zaT
 exact T.n_tuple
 refine zaa ?_ ?_
 refine zaW (N:=["thing","offers"]) ?_ ?_ ?_ ?_ ?_ ?_ ?_
 exact rfl
 exact (BOk.of (Xn:=(zac s_30).names) (XN:=["box","most_things","most_offers","many","offers","left","at"]) rfl rfl rfl (by decide +kernel))
 exact (zaA.name (i:=0) rfl)
 refine zdL ?_ ?_
 exact T.n_range
 refine zaa ?_ ?_
 exact zab 3
 exact zae
 intro _ _ _
 exact zah 0 zp0
 intro _ _ _
 refine zbJ ?_
 refine zaL ?_ ?_ ?_
 exact (zcO (zc7 hr))
 refine zaW (N:=["one","thing"]) ?_ ?_ ?_ ?_ ?_ ?_ ?_
 exact rfl
 exact (BOk.of (N:=["one","thing"]) (src:=[none,some 0]) rfl rfl rfl (by rfl))
 exact (zaA.name (i:=0) rfl)
 refine zb4 ?_
 exact zab 1
 intro _ _ _
 exact zah 0 zpw
 intro _ _ _
 refine zbJ ?_
 refine zaL ?_ ?_ ?_
 exact (ze0 (zc7 hr))
 exact zab 1
 refine za7 ?_ ?_
 exact zab 0
 exact zaj
 intro _ _ _
 exact zab 0
 refine ze7 ?_
 exact zae
 intro _ _ _
 exact zab 0
 exact zae
 refine zag ?_ ?_
 refine zaO 6 ?_ ?_
 exact nd_30
 refine zao (k:=1) (g:=t.a_28) (fd:=t.d_28) (ps:=["box","many"]) ?_ ?_ ?_ ?_ ?_ ?_
 exact G_28
 exact (hr.mono (by decide))
 exact T.m_28
 exact T.F_28.kp
 exact T.b_28
 refine zaa ?_ ?_
 exact zab 0
 refine zaa ?_ ?_
 refine zdS ?_ ?_ ?_
 exact zbq
 refine zaK (id:="len") ?_ ?_ ?_ ?_
 exact zaE
 exact zbC
 exact T.n_len
 refine zaa ?_ ?_
 exact zab 4
 exact zae
 exact zaj
 exact zae
 refine zag ?_ ?_
 refine ziL ?_ ?_ ?_
 refine zaL ?_ ?_ ?_
 exact (ze2 (zc7 hr))
 exact zab 5
 refine zbk ?_
 exact zae
 refine zap ?_
 refine zaO 4 ?_ ?_
 exact nd_30
 refine zdS ?_ ?_ ?_
 exact zbq
 refine zdS ?_ ?_ ?_
 exact zbq
 refine zeD ?_ ?_ ?_
 exact zab 4
 exact zgc
 refine zgi ?_
 exact zab 6
 refine zbk ?_
 refine zaa ?_ ?_
 refine zbk ?_
 refine zaa ?_ ?_
 exact zab 5
 refine zaa ?_ ?_
 refine zdS ?_ ?_ ?_
 exact zbq
 exact zaj
 refine zao (k:=1) (g:=t.a_28) (fd:=t.d_28) (ps:=["box","many"]) ?_ ?_ ?_ ?_ ?_ ?_
 exact G_28
 exact (hr.mono (by decide))
 exact T.m_28
 exact T.F_28.kp
 exact T.b_28
 refine zaa ?_ ?_
 exact zab 0
 refine zaa ?_ ?_
 exact zaj
 exact zae
 exact zae
 exact zae
 refine zeD ?_ ?_ ?_
 exact zab 4
 refine zgi ?_
 exact zab 6
 exact zgc
 exact zcP
 refine zap ?_
 refine za1 ?_
 refine zbk ?_
 refine zaa ?_ ?_
 exact zab 3
 refine zaa ?_ ?_
 exact zab 4
 exact zae
theorem nd_37:(["box","many","offers","found","things","price","at","fewer"]:List Str).Nodup:=by decide +kernel
theorem sc_37:zau ["box","many","offers","found","things","price","at","fewer"] ["box"] (zac s_37):=⟨rfl,rfl,rfl,by decide +kernel,rfl,by decide +kernel,by decide +kernel⟩
theorem ok_37 (T:Tx K mg t):zbM P w K mg base CX0 4 t.a_37 t.d_37 ["box"] (zch K 1 F_37):=by
 have G_30:=ok_30 (P:=P) (w:=w) (base:=base) T
 have G_28:=ok_28 (P:=P) (w:=w) (base:=base) T
 refine zbh (k:=3) (G:=G_37) (N:=["box","many","offers","found","things","price","at","fewer"]) (ps:=["box"]) (st:=s_37) T.F_37 sc_37 fun cdv A outer s H E hr=> ?_
 refine zag ?_ ?_
 refine zfX ?_ ?_
 refine zao (k:=3) (g:=t.a_30) (fd:=t.d_30) (ps:=["box","most_things","most_offers"]) ?_ ?_ ?_ ?_ ?_ ?_
 exact G_30
 exact (hr.mono (by decide))
 exact T.m_30
 exact T.F_30.kp
 exact T.b_30
 refine zaa ?_ ?_
 exact zab 0
 refine zaa ?_ ?_
 exact zaj
 refine zaa ?_ ?_
 exact zaj
 exact zae
 refine zcr ?_ ?_
 exact rfl
 refine zaB ?_ ?_
 exact zah 1 nd_37
 refine zaB ?_ ?_
 exact zah 2 nd_37
 exact zbH
 refine zag ?_ ?_
 refine zaO 3 ?_ ?_
 exact nd_37
 refine zaM (T:="list") ?_ ?_ ?_ ?_
 exact ziK
 exact zkS
 exact T.n_list
 refine zaa ?_ ?_
 exact zab 2
 exact zae
 refine zag ?_ ?_
 refine zhr 1000 ?_ ?_ ?_
 exact PassesOwn.never
 refine zdP ?_
 refine zmK ?_ ?_
 refine zaL ?_ ?_ ?_
 exact zgL
 refine zaK (id:="len") ?_ ?_ ?_ ?_
 exact zaE
 exact zbC
 exact T.n_len
 refine zaa ?_ ?_
 exact zab 3
 exact zae
 exact zaj
 refine zjC ?_
 refine zaL ?_ ?_ ?_
 exact (zcO (zc7 hr))
 refine zao (k:=1) (g:=t.a_28) (fd:=t.d_28) (ps:=["box","many"]) ?_ ?_ ?_ ?_ ?_ ?_
 exact G_28
 exact (hr.mono (by decide))
 exact T.m_28
 exact T.F_28.kp
 exact T.b_28
 refine zaa ?_ ?_
 exact zab 0
 refine zaa ?_ ?_
 exact zaj
 exact zae
 exact zaj
 refine zag ?_ ?_
 refine zfX ?_ ?_
 refine za7 ?_ ?_
 exact zab 3
 refine zao (k:=1) (g:=t.a_28) (fd:=t.d_28) (ps:=["box","many"]) ?_ ?_ ?_ ?_ ?_ ?_
 exact G_28
 exact (hr.mono (by decide))
 exact T.m_28
 exact T.F_28.kp
 exact T.b_28
 refine zaa ?_ ?_
 exact zab 0
 refine zaa ?_ ?_
 refine zaK (id:="len") ?_ ?_ ?_ ?_
 exact zaE
 exact zbC
 exact T.n_len
 refine zaa ?_ ?_
 exact zab 3
 exact zae
 exact zae
 refine zcr ?_ ?_
 exact rfl
 refine zaB ?_ ?_
 exact zah 4 nd_37
 refine zaB ?_ ?_
 exact zah 5 nd_37
 exact zbH
 refine zag ?_ ?_
 refine zaO 6 ?_ ?_
 exact nd_37
 refine zao (k:=1) (g:=t.a_28) (fd:=t.d_28) (ps:=["box","many"]) ?_ ?_ ?_ ?_ ?_ ?_
 exact G_28
 exact (hr.mono (by decide))
 exact T.m_28
 exact T.F_28.kp
 exact T.b_28
 refine zaa ?_ ?_
 exact zab 0
 refine zaa ?_ ?_
 refine zaK (id:="len") ?_ ?_ ?_ ?_
 exact zaE
 exact zbC
 exact T.n_len
 refine zaa ?_ ?_
 exact zab 4
 exact zae
 exact zae
 refine zag ?_ ?_
 refine zaO 7 ?_ ?_
 exact nd_37
 refine zdS ?_ ?_ ?_
 exact zbq
 refine zeD ?_ ?_ ?_
 exact zab 4
 exact zgc
 refine zgi ?_
 exact zab 6
 refine zeD ?_ ?_ ?_
 exact zab 4
 refine zgi ?_
 refine zdS ?_ ?_ ?_
 exact zbq
 exact zab 6
 exact zaj
 exact zgc
 refine zag ?_ ?_
 refine ziL ?_ ?_ ?_
 refine zdP ?_
 refine zhu ?_ ?_
 refine zaL ?_ ?_ ?_
 exact (zcO (zc7 hr))
 exact zab 7
 refine zbk ?_
 exact zae
 refine zhi ?_
 refine zaL ?_ ?_ ?_
 exact (zcO (zc7 hr))
 refine zao (k:=1) (g:=t.a_28) (fd:=t.d_28) (ps:=["box","many"]) ?_ ?_ ?_ ?_ ?_ ?_
 exact G_28
 exact (hr.mono (by decide))
 exact T.m_28
 exact T.F_28.kp
 exact T.b_28
 refine zaa ?_ ?_
 exact zab 0
 refine zaa ?_ ?_
 exact zaj
 exact zae
 exact zaj
 refine zap ?_
 refine zaO 7 ?_ ?_
 exact nd_37
 exact zab 4
 exact zcP
 refine zap ?_
 refine zc8 ?_
 refine zct ?_ ?_
 exact zab 3
 refine zbk ?_
 refine zaa ?_ ?_
 exact zab 7
 refine zaa ?_ ?_
 refine zaK (id:="max") ?_ ?_ ?_ ?_
 exact (zfH rfl)
 exact zmX
 exact T.n_max
 refine zaa ?_ ?_
 exact zaj
 refine zaa ?_ ?_
 refine zdS ?_ ?_ ?_
 exact zbq
 refine zdS ?_ ?_ ?_
 exact zhx
 exact zab 5
 exact zaj
 refine zao (k:=1) (g:=t.a_28) (fd:=t.d_28) (ps:=["box","many"]) ?_ ?_ ?_ ?_ ?_ ?_
 exact G_28
 exact (hr.mono (by decide))
 exact T.m_28
 exact T.F_28.kp
 exact T.b_28
 refine zaa ?_ ?_
 exact zab 0
 refine zaa ?_ ?_
 exact zaj
 exact zae
 exact zae
 exact zae
 refine zap ?_
 refine za1 ?_
 refine zbk ?_
 refine zaa ?_ ?_
 exact zab 1
 refine zaa ?_ ?_
 refine zaM (T:="tuple") ?_ ?_ ?_ ?_
 exact zaD
 exact zaT
 exact T.n_tuple
 refine zaa ?_ ?_
 exact zab 3
 exact zae
 exact zae
theorem nd_31:(["stock","by","offer","one","price","other","cost"]:List Str).Nodup:=by decide +kernel
theorem zpa:(["thing","one"]:List Str).Nodup:=by decide +kernel
theorem sc_31:zau ["stock","by","offer","one","price","other","cost"] ["stock","by","offer"] (zac s_31):=⟨rfl,rfl,rfl,by decide +kernel,rfl,by decide +kernel,by decide +kernel⟩
theorem ok_31 (T:Tx K mg t):zbM P w K mg base CX0 1 t.a_31 t.d_31 ["stock","by","offer"] (zch K 3 F_31):=by
 refine zbh (k:=0) (G:=G_31) (N:=["stock","by","offer","one","price","other","cost"]) (ps:=["stock","by","offer"]) (st:=s_31) T.F_31 sc_31 fun cdv A outer s H E hr=> ?_
 refine zag ?_ ?_
 refine zfX ?_ ?_
 refine za7 ?_ ?_
 refine za7 ?_ ?_
 exact zab 0
 exact zaj
 exact zab 1
 refine zcr ?_ ?_
 exact rfl
 refine zaB ?_ ?_
 exact zah 3 nd_31
 refine zaB ?_ ?_
 exact zah 4 nd_31
 exact zbH
 refine zag ?_ ?_
 refine zfX ?_ ?_
 refine za7 ?_ ?_
 refine za7 ?_ ?_
 exact zab 0
 exact zaj
 exact zab 2
 refine zcr ?_ ?_
 exact rfl
 refine zaB ?_ ?_
 exact zah 5 nd_31
 refine zaB ?_ ?_
 exact zah 6 nd_31
 exact zbH
 refine zag ?_ ?_
 refine ziL ?_ ?_ ?_
 refine zdP ?_
 refine zhu ?_ ?_
 refine zaL ?_ ?_ ?_
 exact (zcO (zc7 hr))
 exact zab 1
 exact zab 2
 refine zhu ?_ ?_
 refine zaL ?_ ?_ ?_
 exact (ze2 (zc7 hr))
 refine zaW (N:=["thing","one"]) ?_ ?_ ?_ ?_ ?_ ?_ ?_
 exact rfl
 exact (BOk.of (Xn:=(zac s_31).names) (XN:=["stock","by","offer","one","price","other","cost"]) rfl rfl rfl (by decide +kernel))
 exact (zaA.name (i:=0) rfl)
 refine zb4 ?_
 exact zab 5
 intro _ _ _
 exact zah 0 zpa
 intro _ _ _
 refine zbJ ?_
 refine zaL ?_ ?_ ?_
 exact (zcg (zc7 hr))
 exact zab 0
 exact zab 1
 intro _ _ _
 exact zab 0
 refine ze7 ?_
 exact zae
 refine zhi ?_
 refine zaL ?_ ?_ ?_
 exact zqp
 exact zab 4
 exact zab 6
 refine zap ?_
 refine za1 ?_
 exact zny
 exact zcP
 refine zap ?_
 refine za1 ?_
 refine zsp ?_ ?_
 refine zpj ?_
 refine zol ?_ ?_
 refine zfl ?_ ?_ ?_
 exact (zcO (zc7 hr))
 exact zab 3
 exact zab 5
 refine ziU ?_
 refine zfl ?_ ?_ ?_
 exact (zcO (zc7 hr))
 exact zab 4
 exact zab 6
 refine ziU ?_
 refine zfl ?_ ?_ ?_
 exact zgL
 exact zab 1
 exact zab 2
theorem zm5:(["offer","one","thing"]:List Str).Nodup:=by decide +kernel
theorem sc_32:zau ["stock","thing"] ["stock","thing"] (zac s_32):=⟨rfl,rfl,rfl,by decide +kernel,rfl,by decide +kernel,by decide +kernel⟩
theorem ok_32 (T:Tx K mg t):zbM P w K mg base CX0 1 t.a_32 t.d_32 ["stock","thing"] (zch K 2 F_32):=by
 refine zbh (k:=0) (G:=G_32) (N:=["stock","thing"]) (ps:=["stock","thing"]) (st:=s_32) T.F_32 sc_32 fun cdv A outer s H E hr=> ?_
 refine zap ?_
 refine za1 ?_
 refine zaW (N:=["offer","one","thing"]) ?_ ?_ ?_ ?_ ?_ ?_ ?_
 exact rfl
 exact (BOk.of (Xn:=(zac s_32).names) (XN:=["stock","thing"]) rfl rfl rfl (by decide +kernel))
 exact (zaA.tup (zaS.cons (i:=0) rfl (zaS.cons (i:=1) rfl zaS.nil)))
 refine zmO ?_ ?_
 exact T.n_enumerate
 refine za7 ?_ ?_
 exact zab 0
 exact zaj
 intro _ _ _
 refine zcr ?_ ?_
 exact rfl
 refine zaB ?_ ?_
 exact zah 0 zm5
 refine zaB ?_ ?_
 exact zah 1 zm5
 exact zbH
 intro _ _ _
 refine zbJ ?_
 refine zaL ?_ ?_ ?_
 exact (ze0 (zc7 hr))
 exact zab 2
 refine za7 ?_ ?_
 exact zab 1
 exact zaj
 intro _ _ _
 exact zab 0
theorem nd_33:(["stock","by","thing","one","other"]:List Str).Nodup:=by decide +kernel
theorem zqK:(["offer","other"]:List Str).Nodup:=by decide +kernel
theorem sc_33:zau ["stock","by","thing","one","other"] ["stock","by","thing"] (zac s_33):=⟨rfl,rfl,rfl,by decide +kernel,rfl,by decide +kernel,by decide +kernel⟩
theorem ok_33 (T:Tx K mg t):zbM P w K mg base CX0 2 t.a_33 t.d_33 ["stock","by","thing"] (zch K 3 F_33):=by
 have G_32:=ok_32 (P:=P) (w:=w) (base:=base) T
 refine zbh (k:=1) (G:=G_33) (N:=["stock","by","thing","one","other"]) (ps:=["stock","by","thing"]) (st:=s_33) T.F_33 sc_33 fun cdv A outer s H E hr=> ?_
 refine zag ?_ ?_
 refine zaO 3 ?_ ?_
 exact nd_33
 refine zao (k:=1) (g:=t.a_32) (fd:=t.d_32) (ps:=["stock","thing"]) ?_ ?_ ?_ ?_ ?_ ?_
 exact G_32
 exact (hr.mono (by decide))
 exact T.m_32
 exact T.F_32.kp
 exact T.b_32
 refine zaa ?_ ?_
 exact zab 0
 refine zaa ?_ ?_
 exact zab 1
 exact zae
 refine zag ?_ ?_
 refine zaO 4 ?_ ?_
 exact nd_33
 refine zao (k:=1) (g:=t.a_32) (fd:=t.d_32) (ps:=["stock","thing"]) ?_ ?_ ?_ ?_ ?_ ?_
 exact G_32
 exact (hr.mono (by decide))
 exact T.m_32
 exact T.F_32.kp
 exact T.b_32
 refine zaa ?_ ?_
 exact zab 0
 refine zaa ?_ ?_
 exact zab 2
 exact zae
 refine zag ?_ ?_
 refine ziL ?_ ?_ ?_
 refine zdP ?_
 refine zhu ?_ ?_
 refine zaL ?_ ?_ ?_
 exact (zcO (zc7 hr))
 exact zab 1
 exact zab 2
 refine zhi ?_
 refine zaL ?_ ?_ ?_
 exact (ze2 (zc7 hr))
 refine zaW (N:=["offer","other"]) ?_ ?_ ?_ ?_ ?_ ?_ ?_
 exact rfl
 exact (BOk.of (Xn:=(zac s_33).names) (XN:=["stock","by","thing","one","other"]) rfl rfl rfl (by decide +kernel))
 exact (zaA.name (i:=0) rfl)
 refine zb4 ?_
 exact zab 3
 intro _ _ _
 exact zah 0 zqK
 intro _ _ _
 refine zbJ ?_
 refine zaL ?_ ?_ ?_
 exact (zcg (zc7 hr))
 exact zab 0
 exact zab 1
 intro _ _ _
 exact zab 0
 refine ze7 ?_
 exact zae
 refine zap ?_
 refine za1 ?_
 exact zny
 exact zcP
 refine zap ?_
 refine za1 ?_
 refine zsp ?_ ?_
 refine zfl ?_ ?_ ?_
 exact (ze2 (zc7 hr))
 exact zab 3
 exact zab 4
 refine ziU ?_
 refine zfl ?_ ?_ ?_
 exact zgL
 exact zab 1
 exact zab 2
theorem nd_34:(["stock","things","many","found","one","some"]:List Str).Nodup:=by decide +kernel
theorem zpk:(["by","things","stock","one"]:List Str).Nodup:=by decide +kernel
theorem sc_34:zau ["stock","things","many","found","one","some"] ["stock","things"] (zac s_34):=⟨rfl,rfl,rfl,by decide +kernel,rfl,by decide +kernel,by decide +kernel⟩
theorem ok_34 (T:Tx K mg t):zbM P w K mg base CX0 3 t.a_34 t.d_34 ["stock","things"] (zch K 2 F_34):=by
 have G_31:=ok_31 (P:=P) (w:=w) (base:=base) T
 have G_33:=ok_33 (P:=P) (w:=w) (base:=base) T
 refine zbh (k:=2) (G:=G_34) (N:=["stock","things","many","found","one","some"]) (ps:=["stock","things"]) (st:=s_34) T.F_34 sc_34 fun cdv A outer s H E hr=> ?_
 refine zag ?_ ?_
 refine zaO 2 ?_ ?_
 exact nd_34
 refine za7 ?_ ?_
 refine ze7 ?_
 refine zaa ?_ ?_
 refine zaK (id:="len") ?_ ?_ ?_ ?_
 exact zaE
 exact zbC
 exact T.n_len
 refine zaa ?_ ?_
 refine za7 ?_ ?_
 exact zab 0
 exact zaj
 exact zae
 refine zaa ?_ ?_
 refine za7 ?_ ?_
 exact zab 0
 exact zaj
 exact zae
 refine zaM (T:="int") ?_ ?_ ?_ ?_
 exact zfv
 exact zmZ
 exact T.n_int
 refine zaa ?_ ?_
 exact zab 1
 exact zae
 refine zag ?_ ?_
 refine zaO 3 ?_ ?_
 exact nd_34
 refine zdZ ?_
 exact zae
 refine zag ?_ ?_
 refine zge ?_ ?_ ?_ ?_ ?_
 exact rfl
 exact PassesOwn.never
 refine zdL ?_ ?_
 exact T.n_range
 refine zaa ?_ ?_
 exact zab 2
 exact zae
 exact zah 4 nd_34
 refine zag ?_ ?_
 refine zdk 5 (N:=["by","things","stock","one"]) ?_ ?_ ?_ ?_ ?_ ?_ ?_ ?_
 exact rfl
 exact nd_34
 exact (BOk.of (Xn:=(zac s_34).names) (XN:=["stock","things","many","found","one","some"]) rfl rfl rfl (by decide +kernel))
 exact (zaA.name (i:=0) rfl)
 refine zdL ?_ ?_
 exact T.n_range
 refine zaa ?_ ?_
 exact zab 2
 exact zae
 intro _ _ _
 exact zah 0 zpk
 intro _ _ _
 refine zbJ ?_
 refine ze1 ?_
 refine zp3 (addrs:=[t.a_31,t.a_33]) (Fs:=[fun ds=>noX (F_31 ds),fun ds=>noX (F_33 ds)]) ?_ ?_ ?_ ?_ ?_
 refine zq5 ?_ ?_
 exact T.m_31
 refine zq5 ?_ ?_
 exact T.m_33
 exact zqa
 refine Fns.cons (k:=1) (fd:=t.d_31) (ps:=["stock","by","offer"]) ?_ ?_ ?_ ?_ ?_
 exact (toE G_31)
 exact (hr.mono (by decide))
 exact T.F_31.kp
 exact T.b_31
 refine Fns.cons (k:=2) (fd:=t.d_33) (ps:=["stock","by","thing"]) ?_ ?_ ?_ ?_ ?_
 exact (toE G_33)
 exact (hr.mono (by decide))
 exact T.F_33.kp
 exact T.b_33
 exact Fns.nil
 exact zn6
 refine zaM (T:="int") ?_ ?_ ?_ ?_
 exact zfv
 exact zmZ
 exact T.n_int
 refine zaa ?_ ?_
 exact zab 1
 exact zae
 refine zaa ?_ ?_
 exact zab 2
 refine zaa ?_ ?_
 exact zab 0
 refine zaa ?_ ?_
 exact zab 3
 exact zae
 intro _ _ _
 exact zab 0
 refine zap ?_
 refine ziL ?_ ?_ ?_
 refine zaL ?_ ?_ ?_
 exact (ze2 (zc7 hr))
 exact zab 5
 refine ze7 ?_
 exact zae
 refine zap ?_
 refine zc8 ?_
 refine zct ?_ ?_
 exact zab 3
 refine zbk ?_
 refine zaa ?_ ?_
 exact zab 4
 refine zaa ?_ ?_
 refine za7 ?_ ?_
 exact zab 5
 exact zaj
 exact zae
 exact zcP
 refine zap ?_
 refine za1 ?_
 refine zmv ?_
 exact zab 3
theorem nd_35:(["stock","things","offers","rows","offer","own","price"]:List Str).Nodup:=by decide +kernel
theorem zm1:(["place","thing","own"]:List Str).Nodup:=by decide +kernel
theorem sc_35:zau ["stock","things","offers","rows","offer","own","price"] ["stock","things","offers"] (zac s_35):=⟨rfl,rfl,rfl,by decide +kernel,rfl,by decide +kernel,by decide +kernel⟩
theorem ok_35 (T:Tx K mg t):zbM P w K mg base CX0 1 t.a_35 t.d_35 ["stock","things","offers"] (zch K 3 F_35):=by
 refine zbh (k:=0) (G:=G_35) (N:=["stock","things","offers","rows","offer","own","price"]) (ps:=["stock","things","offers"]) (st:=s_35) T.F_35 sc_35 fun cdv A outer s H E hr=> ?_
 refine zag ?_ ?_
 refine zaO 3 ?_ ?_
 exact nd_35
 refine zdZ ?_
 exact zae
 refine zag ?_ ?_
 refine zge ?_ ?_ ?_ ?_ ?_
 exact rfl
 exact PassesOwn.never
 refine zb4 ?_
 exact zab 2
 exact zah 4 nd_35
 refine zag ?_ ?_
 refine zfX ?_ ?_
 refine za7 ?_ ?_
 refine za7 ?_ ?_
 exact zab 0
 exact zaj
 exact zab 4
 refine zcr ?_ ?_
 exact rfl
 refine zaB ?_ ?_
 exact zah 5 nd_35
 refine zaB ?_ ?_
 exact zah 6 nd_35
 exact zbH
 refine zap ?_
 refine zc8 ?_
 refine zct ?_ ?_
 exact zab 3
 refine zbk ?_
 refine zaa ?_ ?_
 refine zaM (T:="tuple") ?_ ?_ ?_ ?_
 exact zaD
 exact zaT
 exact T.n_tuple
 refine zaa ?_ ?_
 refine zaW (N:=["place","thing","own"]) ?_ ?_ ?_ ?_ ?_ ?_ ?_
 exact rfl
 exact (BOk.of (Xn:=(zac s_35).names) (XN:=["stock","things","offers","rows","offer","own","price"]) rfl rfl rfl (by decide +kernel))
 exact (zaA.tup (zaS.cons (i:=0) rfl (zaS.cons (i:=1) rfl zaS.nil)))
 refine zkc ?_ ?_
 exact T.n_enumerate
 exact zab 1
 intro _ _ _
 refine zcr ?_ ?_
 exact rfl
 refine zaB ?_ ?_
 exact zah 0 zm1
 refine zaB ?_ ?_
 exact zah 1 zm1
 exact zbH
 intro _ _ _
 refine zbJ ?_
 refine zaL ?_ ?_ ?_
 exact (ze0 (zc7 hr))
 exact zab 1
 exact zab 2
 intro _ _ _
 exact zab 0
 exact zae
 refine zaa ?_ ?_
 exact zab 6
 exact zae
 refine zap ?_
 refine za1 ?_
 refine zbk ?_
 refine zaa ?_ ?_
 refine zaK (id:="len") ?_ ?_ ?_ ?_
 exact zaE
 exact zbC
 exact T.n_len
 refine zaa ?_ ?_
 exact zab 1
 exact zae
 refine zaa ?_ ?_
 refine zaM (T:="tuple") ?_ ?_ ?_ ?_
 exact zaD
 exact zaT
 exact T.n_tuple
 refine zaa ?_ ?_
 exact zab 3
 exact zae
 exact zae
theorem nd_36:(["stock","names","rows","out","offers","every","gone","things"]:List Str).Nodup:=by decide +kernel
theorem zmE:(["offer","by"]:List Str).Nodup:=by decide +kernel
theorem zpE:(["offer","out"]:List Str).Nodup:=by decide +kernel
theorem zmY:(["thing","by"]:List Str).Nodup:=by decide +kernel
theorem zrl:(["thing","gone"]:List Str).Nodup:=by decide +kernel
theorem zp8:(["offer","stock","things"]:List Str).Nodup:=by decide +kernel
theorem zre:(["thing","things"]:List Str).Nodup:=by decide +kernel
theorem zq6:(["offer","offers"]:List Str).Nodup:=by decide +kernel
theorem zqJ:(["offer","names"]:List Str).Nodup:=by decide +kernel
theorem zpg:(["thing","names"]:List Str).Nodup:=by decide +kernel
theorem zpv:(["thing","names"]:List Str).Nodup:=by decide +kernel
theorem zqx:(["offer","names"]:List Str).Nodup:=by decide +kernel
theorem sc_36:zau ["stock","names","rows","out","offers","every","gone","things"] ["stock"] (zac s_36):=⟨rfl,rfl,rfl,by decide +kernel,rfl,by decide +kernel,by decide +kernel⟩
theorem ok_36 (T:Tx K mg t):zbM P w K mg base CX0 4 t.a_36 t.d_36 ["stock"] (zch K 1 F_36):=by
 have G_34:=ok_34 (P:=P) (w:=w) (base:=base) T
 have G_35:=ok_35 (P:=P) (w:=w) (base:=base) T
 refine zbh (k:=3) (G:=G_36) (N:=["stock","names","rows","out","offers","every","gone","things"]) (ps:=["stock"]) (st:=s_36) T.F_36 sc_36 fun cdv A outer s H E hr=> ?_
 refine zag ?_ ?_
 refine zaO 1 ?_ ?_
 exact nd_36
 refine zbk ?_
 refine zaa ?_ ?_
 refine zd8 ?_ ?_ ?_ ?_
 exact rfl
 exact T.n_list
 exact T.n_range
 refine za7 ?_ ?_
 exact zab 0
 exact zaj
 refine zaa ?_ ?_
 refine zd8 ?_ ?_ ?_ ?_
 exact rfl
 exact T.n_list
 exact T.n_range
 refine zaK (id:="len") ?_ ?_ ?_ ?_
 exact zaE
 exact zbC
 exact T.n_len
 refine zaa ?_ ?_
 refine za7 ?_ ?_
 exact zab 0
 exact zaj
 exact zae
 exact zae
 refine zag ?_ ?_
 refine zaO 2 ?_ ?_
 exact nd_36
 refine zdZ ?_
 exact zae
 refine zap ?_
 refine zhr 1000 ?_ ?_ ?_
 exact PassesOwn.never
 refine ze1 ?_
 exact zny
 refine zag ?_ ?_
 refine zaO 3 ?_ ?_
 exact nd_36
 refine zaW (N:=["offer","by"]) ?_ ?_ ?_ ?_ ?_ ?_ ?_
 exact rfl
 exact (BOk.of (Xn:=(zac s_36).names) (XN:=["stock","names","rows","out","offers","every","gone","things"]) rfl rfl rfl (by decide +kernel))
 exact (zaA.tup (zaS.cons (i:=0) rfl (zaS.cons (i:=1) rfl zaS.nil)))
 refine zb4 ?_
 refine zao (k:=3) (g:=t.a_34) (fd:=t.d_34) (ps:=["stock","things"]) ?_ ?_ ?_ ?_ ?_ ?_
 exact G_34
 exact (hr.mono (by decide))
 exact T.m_34
 exact T.F_34.kp
 exact T.b_34
 refine zaa ?_ ?_
 exact zab 0
 refine zaa ?_ ?_
 exact zny
 exact zae
 intro _ _ _
 refine zcr ?_ ?_
 exact rfl
 refine zaB ?_ ?_
 exact zah 0 zmE
 refine zaB ?_ ?_
 exact zah 1 zmE
 exact zbH
 intro _ _ _
 exact zbT
 intro _ _ _
 exact zab 0
 refine zag ?_ ?_
 refine zaO 4 ?_ ?_
 exact nd_36
 refine zaW (N:=["offer","out"]) ?_ ?_ ?_ ?_ ?_ ?_ ?_
 exact rfl
 exact (BOk.of (Xn:=(zac s_36).names) (XN:=["stock","names","rows","out","offers","every","gone","things"]) rfl rfl rfl (by decide +kernel))
 exact (zaA.name (i:=0) rfl)
 refine zdL ?_ ?_
 exact T.n_range
 refine zaa ?_ ?_
 refine zaK (id:="len") ?_ ?_ ?_ ?_
 exact zaE
 exact zbC
 exact T.n_len
 refine zaa ?_ ?_
 refine za7 ?_ ?_
 exact zab 0
 exact zaj
 exact zae
 exact zae
 intro _ _ _
 exact zah 0 zpE
 intro _ _ _
 refine zbJ ?_
 refine zaL ?_ ?_ ?_
 exact (zcg (zc7 hr))
 exact zab 0
 exact zab 1
 intro _ _ _
 exact zab 0
 refine zag ?_ ?_
 refine zaO 5 ?_ ?_
 exact nd_36
 refine zd8 ?_ ?_ ?_ ?_
 exact rfl
 exact T.n_list
 exact T.n_range
 refine za7 ?_ ?_
 exact zab 0
 exact zaj
 refine zag ?_ ?_
 refine zaO 6 ?_ ?_
 exact nd_36
 refine zaW (N:=["thing","by"]) ?_ ?_ ?_ ?_ ?_ ?_ ?_
 exact rfl
 exact (BOk.of (Xn:=(zac s_36).names) (XN:=["stock","names","rows","out","offers","every","gone","things"]) rfl rfl rfl (by decide +kernel))
 exact (zaA.tup (zaS.cons (i:=0) rfl (zaS.cons (i:=1) rfl zaS.nil)))
 refine zb4 ?_
 refine zao (k:=3) (g:=t.a_34) (fd:=t.d_34) (ps:=["stock","things"]) ?_ ?_ ?_ ?_ ?_ ?_
 exact G_34
 exact (hr.mono (by decide))
 exact T.m_34
 exact T.F_34.kp
 exact T.b_34
 refine zaa ?_ ?_
 refine zao (k:=1) (g:=t.a_35) (fd:=t.d_35) (ps:=["stock","things","offers"]) ?_ ?_ ?_ ?_ ?_ ?_
 exact G_35
 exact (hr.mono (by decide))
 exact T.m_35
 exact T.F_35.kp
 exact T.b_35
 refine zaa ?_ ?_
 exact zab 0
 refine zaa ?_ ?_
 exact zab 5
 refine zaa ?_ ?_
 exact zab 4
 exact zae
 refine zaa ?_ ?_
 exact zny
 exact zae
 intro _ _ _
 refine zcr ?_ ?_
 exact rfl
 refine zaB ?_ ?_
 exact zah 0 zmY
 refine zaB ?_ ?_
 exact zah 1 zmY
 exact zbH
 intro _ _ _
 exact zbT
 intro _ _ _
 exact zab 0
 refine zag ?_ ?_
 refine zaO 7 ?_ ?_
 exact nd_36
 refine zaW (N:=["thing","gone"]) ?_ ?_ ?_ ?_ ?_ ?_ ?_
 exact rfl
 exact (BOk.of (Xn:=(zac s_36).names) (XN:=["stock","names","rows","out","offers","every","gone","things"]) rfl rfl rfl (by decide +kernel))
 exact (zaA.name (i:=0) rfl)
 refine zb4 ?_
 exact zab 5
 intro _ _ _
 exact zah 0 zrl
 intro _ _ _
 refine zbJ ?_
 refine zaL ?_ ?_ ?_
 exact (zcg (zc7 hr))
 exact zab 0
 exact zab 1
 intro _ _ _
 exact zab 0
 refine zag ?_ ?_
 refine zaO 4 ?_ ?_
 exact nd_36
 refine zaW (N:=["offer","stock","things"]) ?_ ?_ ?_ ?_ ?_ ?_ ?_
 exact rfl
 exact (BOk.of (Xn:=(zac s_36).names) (XN:=["stock","names","rows","out","offers","every","gone","things"]) rfl rfl rfl (by decide +kernel))
 exact (zaA.name (i:=0) rfl)
 refine zb4 ?_
 exact zab 4
 intro _ _ _
 exact zah 0 zp8
 intro _ _ _
 refine zbJ ?_
 refine zaL ?_ ?_ ?_
 exact (ze2 (zc7 hr))
 refine zaW (N:=["thing","things"]) ?_ ?_ ?_ ?_ ?_ ?_ ?_
 exact rfl
 exact (BOk.of (N:=["thing","things"]) (src:=[none,some 2]) rfl rfl rfl (by rfl))
 exact (zaA.name (i:=0) rfl)
 refine zb4 ?_
 refine za7 ?_ ?_
 refine za7 ?_ ?_
 refine za7 ?_ ?_
 exact zab 1
 exact zaj
 exact zab 0
 exact zaj
 intro _ _ _
 exact zah 0 zre
 intro _ _ _
 refine zbJ ?_
 refine zaL ?_ ?_ ?_
 exact (ze0 (zc7 hr))
 exact zab 0
 exact zab 1
 intro _ _ _
 exact zab 0
 refine ze7 ?_
 exact zae
 intro _ _ _
 exact zab 0
 refine zag ?_ ?_
 refine ziL ?_ ?_ ?_
 refine zdP ?_
 refine zmK ?_ ?_
 refine zaL ?_ ?_ ?_
 exact (zcO (zc7 hr))
 refine zaK (id:="len") ?_ ?_ ?_ ?_
 exact zaE
 exact zbC
 exact T.n_len
 refine zaa ?_ ?_
 exact zab 4
 exact zae
 refine zaK (id:="len") ?_ ?_ ?_ ?_
 exact zaE
 exact zbC
 exact T.n_len
 refine zaa ?_ ?_
 refine za7 ?_ ?_
 exact zab 0
 exact zaj
 exact zae
 refine zjC ?_
 refine zaL ?_ ?_ ?_
 exact (zcO (zc7 hr))
 exact zab 6
 refine ze7 ?_
 exact zae
 refine zap ?_
 refine za1 ?_
 refine zbk ?_
 refine zaa ?_ ?_
 refine zbk ?_
 refine zaa ?_ ?_
 exact zab 0
 refine zaa ?_ ?_
 refine zaM (T:="tuple") ?_ ?_ ?_ ?_
 exact zaD
 exact zaT
 exact T.n_tuple
 refine zaa ?_ ?_
 refine za7 ?_ ?_
 exact zab 1
 exact zaj
 exact zae
 refine zaa ?_ ?_
 refine zaM (T:="tuple") ?_ ?_ ?_ ?_
 exact zaD
 exact zaT
 exact T.n_tuple
 refine zaa ?_ ?_
 refine za7 ?_ ?_
 exact zab 1
 exact zaj
 exact zae
 exact zae
 refine zaa ?_ ?_
 refine zmv ?_
 exact zab 2
 exact zae
 exact zcP
 refine zag ?_ ?_
 refine zaO 3 ?_ ?_
 exact nd_36
 refine zaW (N:=["offer","offers"]) ?_ ?_ ?_ ?_ ?_ ?_ ?_
 exact rfl
 exact (BOk.of (Xn:=(zac s_36).names) (XN:=["stock","names","rows","out","offers","every","gone","things"]) rfl rfl rfl (by decide +kernel))
 exact (zaA.name (i:=0) rfl)
 refine zdL ?_ ?_
 exact T.n_range
 refine zaa ?_ ?_
 refine zaK (id:="len") ?_ ?_ ?_ ?_
 exact zaE
 exact zbC
 exact T.n_len
 refine zaa ?_ ?_
 refine za7 ?_ ?_
 exact zab 0
 exact zaj
 exact zae
 exact zae
 intro _ _ _
 exact zah 0 zq6
 intro _ _ _
 refine zbJ ?_
 refine zaL ?_ ?_ ?_
 exact (zcg (zc7 hr))
 exact zab 0
 exact zab 1
 intro _ _ _
 exact zab 0
 refine zag ?_ ?_
 refine zc8 ?_
 refine zct ?_ ?_
 exact zab 2
 refine zbk ?_
 refine zaa ?_ ?_
 refine zaM (T:="tuple") ?_ ?_ ?_ ?_
 exact zaD
 exact zaT
 exact T.n_tuple
 refine zaa ?_ ?_
 refine zaW (N:=["offer","names"]) ?_ ?_ ?_ ?_ ?_ ?_ ?_
 exact rfl
 exact (BOk.of (Xn:=(zac s_36).names) (XN:=["stock","names","rows","out","offers","every","gone","things"]) rfl rfl rfl (by decide +kernel))
 exact (zaA.name (i:=0) rfl)
 refine zb4 ?_
 exact zab 3
 intro _ _ _
 exact zah 0 zqJ
 intro _ _ _
 exact zbT
 intro _ _ _
 refine za7 ?_ ?_
 refine za7 ?_ ?_
 exact zab 1
 exact zaj
 exact zab 0
 exact zae
 refine zaa ?_ ?_
 refine zaM (T:="tuple") ?_ ?_ ?_ ?_
 exact zaD
 exact zaT
 exact T.n_tuple
 refine zaa ?_ ?_
 refine zaW (N:=["thing","names"]) ?_ ?_ ?_ ?_ ?_ ?_ ?_
 exact rfl
 exact (BOk.of (Xn:=(zac s_36).names) (XN:=["stock","names","rows","out","offers","every","gone","things"]) rfl rfl rfl (by decide +kernel))
 exact (zaA.name (i:=0) rfl)
 refine zb4 ?_
 exact zab 6
 intro _ _ _
 exact zah 0 zpg
 intro _ _ _
 exact zbT
 intro _ _ _
 refine za7 ?_ ?_
 refine za7 ?_ ?_
 exact zab 1
 exact zaj
 exact zab 0
 exact zae
 exact zae
 refine zag ?_ ?_
 refine zaO 0 ?_ ?_
 exact nd_36
 refine zao (k:=1) (g:=t.a_35) (fd:=t.d_35) (ps:=["stock","things","offers"]) ?_ ?_ ?_ ?_ ?_ ?_
 exact G_35
 exact (hr.mono (by decide))
 exact T.m_35
 exact T.F_35.kp
 exact T.b_35
 refine zaa ?_ ?_
 exact zab 0
 refine zaa ?_ ?_
 exact zab 7
 refine zaa ?_ ?_
 exact zab 4
 exact zae
 refine zap ?_
 refine zaO 1 ?_ ?_
 exact nd_36
 refine zbk ?_
 refine zaa ?_ ?_
 refine zaW (N:=["thing","names"]) ?_ ?_ ?_ ?_ ?_ ?_ ?_
 exact rfl
 exact (BOk.of (Xn:=(zac s_36).names) (XN:=["stock","names","rows","out","offers","every","gone","things"]) rfl rfl rfl (by decide +kernel))
 exact (zaA.name (i:=0) rfl)
 refine zb4 ?_
 exact zab 7
 intro _ _ _
 exact zah 0 zpv
 intro _ _ _
 exact zbT
 intro _ _ _
 refine za7 ?_ ?_
 refine za7 ?_ ?_
 exact zab 1
 exact zaj
 exact zab 0
 refine zaa ?_ ?_
 refine zaW (N:=["offer","names"]) ?_ ?_ ?_ ?_ ?_ ?_ ?_
 exact rfl
 exact (BOk.of (Xn:=(zac s_36).names) (XN:=["stock","names","rows","out","offers","every","gone","things"]) rfl rfl rfl (by decide +kernel))
 exact (zaA.name (i:=0) rfl)
 refine zb4 ?_
 exact zab 4
 intro _ _ _
 exact zah 0 zqx
 intro _ _ _
 exact zbT
 intro _ _ _
 refine za7 ?_ ?_
 refine za7 ?_ ?_
 exact zab 1
 exact zaj
 exact zab 0
 exact zae
theorem nd_22:(["count","ruled","out"]:List Str).Nodup:=by decide +kernel
theorem zqc:(["pair"]:List Str).Nodup:=by decide +kernel
theorem zqe:(["number","out"]:List Str).Nodup:=by decide +kernel
theorem sc_22:zau ["count","ruled","out"] ["count","ruled"] (zac s_22):=⟨rfl,rfl,rfl,by decide +kernel,rfl,by decide +kernel,by decide +kernel⟩
theorem ok_22 (T:Tx K mg t):zbM P w K mg base CX0 1 t.a_22 t.d_22 ["count","ruled"] (zch K 2 F_22):=by
 refine zbh (k:=0) (G:=G_22) (N:=["count","ruled","out"]) (ps:=["count","ruled"]) (st:=s_22) T.F_22 sc_22 fun cdv A outer s H E hr=> ?_
 refine zag ?_ ?_
 refine zaO 2 ?_ ?_
 exact nd_22
 refine zaW (N:=["pair"]) ?_ ?_ ?_ ?_ ?_ ?_ ?_
 exact rfl
 exact (BOk.of (Xn:=(zac s_22).names) (XN:=["count","ruled","out"]) rfl rfl rfl (by decide +kernel))
 exact (zaA.name (i:=0) rfl)
 refine zb4 ?_
 exact zab 1
 intro _ _ _
 exact zah 0 zqc
 intro _ _ _
 exact zbT
 intro _ _ _
 refine za7 ?_ ?_
 exact zab 0
 exact zaj
 refine zap ?_
 refine za1 ?_
 refine zaW (N:=["number","out"]) ?_ ?_ ?_ ?_ ?_ ?_ ?_
 exact rfl
 exact (BOk.of (Xn:=(zac s_22).names) (XN:=["count","ruled","out"]) rfl rfl rfl (by decide +kernel))
 exact (zaA.name (i:=0) rfl)
 refine zdL ?_ ?_
 exact T.n_range
 refine zaa ?_ ?_
 exact zab 0
 exact zae
 intro _ _ _
 exact zah 0 zqe
 intro _ _ _
 refine zbJ ?_
 refine zaL ?_ ?_ ?_
 exact (zcg (zc7 hr))
 exact zab 0
 exact zab 1
 intro _ _ _
 exact zab 0
theorem nd_4:(["offers","things","offer"]:List Str).Nodup:=by decide +kernel
theorem sc_4:zau ["offers","things","offer"] ["offers"] (zac s_4):=⟨rfl,rfl,rfl,by decide +kernel,rfl,by decide +kernel,by decide +kernel⟩
theorem ok_4 (T:Tx K mg t):zbM P w K mg base CX0 1 t.a_4 t.d_4 ["offers"] (zch K 1 F_4):=by
 refine zbh (k:=0) (G:=G_4) (N:=["offers","things","offer"]) (ps:=["offers"]) (st:=s_4) T.F_4 sc_4 fun cdv A outer s H E hr=> ?_
 refine zag ?_ ?_
 refine zaO 1 ?_ ?_
 exact nd_4
 refine zdZ ?_
 exact zae
 refine zag ?_ ?_
 refine zge ?_ ?_ ?_ ?_ ?_
 exact rfl
 exact PassesOwn.never
 refine zb4 ?_
 exact zab 0
 exact zah 2 nd_4
 refine zap ?_
 refine zc8 ?_
 refine zmb ?_ ?_
 exact zab 1
 refine za7 ?_ ?_
 exact zab 2
 exact zaj
 refine zap ?_
 refine za1 ?_
 refine zaM (T:="tuple") ?_ ?_ ?_ ?_
 exact zaD
 exact zaT
 exact T.n_tuple
 refine zaa ?_ ?_
 refine zjE ?_ ?_ ?_ ?_
 exact rfl
 exact T.n_sorted
 exact T.n_set
 exact zab 1
 exact zae
theorem sc_5:zau ["stock","offers"] ["stock","offers"] (zac s_5):=⟨rfl,rfl,rfl,by decide +kernel,rfl,by decide +kernel,by decide +kernel⟩
theorem ok_5 (T:Tx K mg t):zbM P w K mg base CX0 2 t.a_5 t.d_5 ["stock","offers"] (zch K 2 F_5):=by
 have G_4:=ok_4 (P:=P) (w:=w) (base:=base) T
 refine zbh (k:=1) (G:=G_5) (N:=["stock","offers"]) (ps:=["stock","offers"]) (st:=s_5) T.F_5 sc_5 fun cdv A outer s H E hr=> ?_
 refine zap ?_
 refine za1 ?_
 refine zfl ?_ ?_ ?_
 exact (zcO (zc7 hr))
 refine zaK (id:="len") ?_ ?_ ?_ ?_
 exact zaE
 exact zbC
 exact T.n_len
 refine zaa ?_ ?_
 refine zao (k:=1) (g:=t.a_4) (fd:=t.d_4) (ps:=["offers"]) ?_ ?_ ?_ ?_ ?_ ?_
 exact G_4
 exact (hr.mono (by decide))
 exact T.m_4
 exact T.F_4.kp
 exact T.b_4
 refine zaa ?_ ?_
 exact zab 1
 exact zae
 exact zae
 refine za7 ?_ ?_
 exact zab 0
 exact zaj
theorem sc_2:zau ["stock"] ["stock"] (zac s_2):=⟨rfl,rfl,rfl,by decide +kernel,rfl,by decide +kernel,by decide +kernel⟩
theorem ok_2 (T:Tx K mg t):zbM P w K mg base CX0 3 t.a_2 t.d_2 ["stock"] (zch K 1 F_2):=by
 have G_5:=ok_5 (P:=P) (w:=w) (base:=base) T
 refine zbh (k:=2) (G:=G_2) (N:=["stock"]) (ps:=["stock"]) (st:=s_2) T.F_2 sc_2 fun cdv A outer s H E hr=> ?_
 refine zap ?_
 refine za1 ?_
 refine zao (k:=2) (g:=t.a_5) (fd:=t.d_5) (ps:=["stock","offers"]) ?_ ?_ ?_ ?_ ?_ ?_
 exact G_5
 exact (hr.mono (by decide))
 exact T.m_5
 exact T.F_5.kp
 exact T.b_5
 refine zaa ?_ ?_
 exact zab 0
 refine zaa ?_ ?_
 refine za7 ?_ ?_
 exact zab 0
 exact zaj
 exact zae
theorem sc_3:zau ["stock"] ["stock"] (zac s_3):=⟨rfl,rfl,rfl,by decide +kernel,rfl,by decide +kernel,by decide +kernel⟩
theorem ok_3 (T:Tx K mg t):zbM P w K mg base CX0 4 t.a_3 t.d_3 ["stock"] (zch K 1 F_3):=by
 have G_2:=ok_2 (P:=P) (w:=w) (base:=base) T
 refine zbh (k:=3) (G:=G_3) (N:=["stock"]) (ps:=["stock"]) (st:=s_3) T.F_3 sc_3 fun cdv A outer s H E hr=> ?_
 refine zap ?_
 refine ziL ?_ ?_ ?_
 refine ziC ?_
 refine ze1 ?_
 refine zao (k:=3) (g:=t.a_2) (fd:=t.d_2) (ps:=["stock"]) ?_ ?_ ?_ ?_ ?_ ?_
 exact G_2
 exact (hr.mono (by decide))
 exact T.m_2
 exact T.F_2.kp
 exact T.b_2
 refine zaa ?_ ?_
 exact zab 0
 exact zae
 refine zap ?_
 exact zrC
 exact zcP
theorem sc_19:zau ["table","other","number"] ["table","other","number"] (zac s_19):=⟨rfl,rfl,rfl,by decide +kernel,rfl,by decide +kernel,by decide +kernel⟩
theorem ok_19 (T:Tx K mg t):zbM P w K mg base CX0 1 t.a_19 t.d_19 ["table","other","number"] (zch K 3 F_19):=by
 refine zbh (k:=0) (G:=G_19) (N:=["table","other","number"]) (ps:=["table","other","number"]) (st:=s_19) T.F_19 sc_19 fun cdv A outer s H E hr=> ?_
 refine zap ?_
 refine za1 ?_
 refine zol ?_ ?_
 refine za7 ?_ ?_
 refine za7 ?_ ?_
 exact zab 0
 exact zab 2
 exact zab 1
 refine ziU ?_
 refine zsp ?_ ?_
 refine zfl ?_ ?_ ?_
 exact zgL
 exact zab 1
 exact zab 2
 refine ziU ?_
 refine zpj ?_
 refine za7 ?_ ?_
 refine za7 ?_ ?_
 exact zab 0
 exact zab 1
 exact zab 2
theorem nd_18:(["table","ruled","number","rulers"]:List Str).Nodup:=by decide +kernel
theorem zp9:(["other","table","number"]:List Str).Nodup:=by decide +kernel
theorem sc_18:zau ["table","ruled","number","rulers"] ["table"] (zac s_18):=⟨rfl,rfl,rfl,by decide +kernel,rfl,by decide +kernel,by decide +kernel⟩
theorem ok_18 (T:Tx K mg t):zbM P w K mg base CX0 2 t.a_18 t.d_18 ["table"] (zch K 1 F_18):=by
 have G_19:=ok_19 (P:=P) (w:=w) (base:=base) T
 refine zbh (k:=1) (G:=G_18) (N:=["table","ruled","number","rulers"]) (ps:=["table"]) (st:=s_18) T.F_18 sc_18 fun cdv A outer s H E hr=> ?_
 refine zag ?_ ?_
 refine zaO 1 ?_ ?_
 exact nd_18
 refine zdZ ?_
 exact zae
 refine zag ?_ ?_
 refine zge ?_ ?_ ?_ ?_ ?_
 exact rfl
 exact PassesOwn.never
 refine zdL ?_ ?_
 exact T.n_range
 refine zaa ?_ ?_
 refine zaK (id:="len") ?_ ?_ ?_ ?_
 exact zaE
 exact zbC
 exact T.n_len
 refine zaa ?_ ?_
 exact zab 0
 exact zae
 exact zae
 exact zah 2 nd_18
 refine zag ?_ ?_
 refine zdk 3 (N:=["other","table","number"]) ?_ ?_ ?_ ?_ ?_ ?_ ?_ ?_
 exact rfl
 exact nd_18
 exact (BOk.of (Xn:=(zac s_18).names) (XN:=["table","ruled","number","rulers"]) rfl rfl rfl (by decide +kernel))
 exact (zaA.name (i:=0) rfl)
 refine zdL ?_ ?_
 exact T.n_range
 refine zaa ?_ ?_
 refine zaK (id:="len") ?_ ?_ ?_ ?_
 exact zaE
 exact zbC
 exact T.n_len
 refine zaa ?_ ?_
 exact zab 0
 exact zae
 exact zae
 intro _ _ _
 exact zah 0 zp9
 intro _ _ _
 refine zbJ ?_
 refine ze1 ?_
 refine zao (k:=1) (g:=t.a_19) (fd:=t.d_19) (ps:=["table","other","number"]) ?_ ?_ ?_ ?_ ?_ ?_
 exact G_19
 exact (hr.mono (by decide))
 exact T.m_19
 exact T.F_19.kp
 exact T.b_19
 refine zaa ?_ ?_
 exact zab 1
 refine zaa ?_ ?_
 exact zab 0
 refine zaa ?_ ?_
 exact zab 2
 exact zae
 intro _ _ _
 exact zab 0
 refine zap ?_
 refine ziL ?_ ?_ ?_
 refine zm0 ?_
 exact zab 3
 refine zap ?_
 refine zc8 ?_
 refine zct ?_ ?_
 exact zab 1
 refine zbk ?_
 refine zaa ?_ ?_
 exact zab 2
 refine zaa ?_ ?_
 refine za7 ?_ ?_
 exact zab 3
 exact zaj
 exact zae
 exact zcP
 refine zap ?_
 refine za1 ?_
 refine zmv ?_
 exact zab 1
theorem zpU:(["number","others"]:List Str).Nodup:=by decide +kernel
theorem sc_17:zau ["numbers","others"] ["numbers","others"] (zac s_17):=⟨rfl,rfl,rfl,by decide +kernel,rfl,by decide +kernel,by decide +kernel⟩
theorem ok_17 (T:Tx K mg t):zbM P w K mg base CX0 1 t.a_17 t.d_17 ["numbers","others"] (zch K 2 F_17):=by
 refine zbh (k:=0) (G:=G_17) (N:=["numbers","others"]) (ps:=["numbers","others"]) (st:=s_17) T.F_17 sc_17 fun cdv A outer s H E hr=> ?_
 refine zap ?_
 refine za1 ?_
 refine zaK (id:="all") ?_ ?_ ?_ ?_
 exact (zg3 rfl)
 exact zmJ
 exact T.n_all
 refine zaa ?_ ?_
 refine zaW (N:=["number","others"]) ?_ ?_ ?_ ?_ ?_ ?_ ?_
 exact rfl
 exact (BOk.of (Xn:=(zac s_17).names) (XN:=["numbers","others"]) rfl rfl rfl (by decide +kernel))
 exact (zaA.name (i:=0) rfl)
 refine zb4 ?_
 exact zab 0
 intro _ _ _
 exact zah 0 zpU
 intro _ _ _
 exact zbT
 intro _ _ _
 refine zfl ?_ ?_ ?_
 exact (ze0 (zc7 hr))
 exact zab 0
 exact zab 1
 exact zae
theorem zry:(["other","offer"]:List Str).Nodup:=by decide +kernel
theorem sc_14:zau ["stock","offer"] ["stock","offer"] (zac s_14):=⟨rfl,rfl,rfl,by decide +kernel,rfl,by decide +kernel,by decide +kernel⟩
theorem ok_14 (T:Tx K mg t):zbM P w K mg base CX0 2 t.a_14 t.d_14 ["stock","offer"] (zch K 2 F_14):=by
 have G_17:=ok_17 (P:=P) (w:=w) (base:=base) T
 refine zbh (k:=1) (G:=G_14) (N:=["stock","offer"]) (ps:=["stock","offer"]) (st:=s_14) T.F_14 sc_14 fun cdv A outer s H E hr=> ?_
 refine zap ?_
 refine za1 ?_
 refine zaW (N:=["other","offer"]) ?_ ?_ ?_ ?_ ?_ ?_ ?_
 exact rfl
 exact (BOk.of (Xn:=(zac s_14).names) (XN:=["stock","offer"]) rfl rfl rfl (by decide +kernel))
 exact (zaA.name (i:=0) rfl)
 refine zb4 ?_
 refine za7 ?_ ?_
 exact zab 0
 exact zaj
 intro _ _ _
 exact zah 0 zry
 intro _ _ _
 exact zbT
 intro _ _ _
 refine zol ?_ ?_
 refine zfl ?_ ?_ ?_
 exact zmM
 refine za7 ?_ ?_
 exact zab 0
 exact zaj
 refine za7 ?_ ?_
 exact zab 1
 exact zaj
 refine ziU ?_
 refine zao (k:=1) (g:=t.a_17) (fd:=t.d_17) (ps:=["numbers","others"]) ?_ ?_ ?_ ?_ ?_ ?_
 exact G_17
 exact (hr.mono (by decide))
 exact T.m_17
 exact T.F_17.kp
 exact T.b_17
 refine zaa ?_ ?_
 refine za7 ?_ ?_
 exact zab 1
 exact zaj
 refine zaa ?_ ?_
 refine za7 ?_ ?_
 exact zab 0
 exact zaj
 exact zae
theorem zrx:(["offer","stock"]:List Str).Nodup:=by decide +kernel
theorem sc_13:zau ["stock"] ["stock"] (zac s_13):=⟨rfl,rfl,rfl,by decide +kernel,rfl,by decide +kernel,by decide +kernel⟩
theorem ok_13 (T:Tx K mg t):zbM P w K mg base CX0 3 t.a_13 t.d_13 ["stock"] (zch K 1 F_13):=by
 have G_14:=ok_14 (P:=P) (w:=w) (base:=base) T
 refine zbh (k:=2) (G:=G_13) (N:=["stock"]) (ps:=["stock"]) (st:=s_13) T.F_13 sc_13 fun cdv A outer s H E hr=> ?_
 refine zap ?_
 refine za1 ?_
 refine zaW (N:=["offer","stock"]) ?_ ?_ ?_ ?_ ?_ ?_ ?_
 exact rfl
 exact (BOk.of (Xn:=(zac s_13).names) (XN:=["stock"]) rfl rfl rfl (by decide +kernel))
 exact (zaA.name (i:=0) rfl)
 refine zb4 ?_
 refine za7 ?_ ?_
 exact zab 0
 exact zaj
 intro _ _ _
 exact zah 0 zrx
 intro _ _ _
 exact zbT
 intro _ _ _
 refine zao (k:=2) (g:=t.a_14) (fd:=t.d_14) (ps:=["stock","offer"]) ?_ ?_ ?_ ?_ ?_ ?_
 exact G_14
 exact (hr.mono (by decide))
 exact T.m_14
 exact T.F_14.kp
 exact T.b_14
 refine zaa ?_ ?_
 exact zab 1
 refine zaa ?_ ?_
 exact zab 0
 exact zae
theorem sc_9:zau ["stock"] ["stock"] (zac s_9):=⟨rfl,rfl,rfl,by decide +kernel,rfl,by decide +kernel,by decide +kernel⟩
theorem ok_9 (T:Tx K mg t):zbM P w K mg base CX0 5 t.a_9 t.d_9 ["stock"] (zch K 1 F_9):=by
 have G_3:=ok_3 (P:=P) (w:=w) (base:=base) T
 have G_18:=ok_18 (P:=P) (w:=w) (base:=base) T
 have G_13:=ok_13 (P:=P) (w:=w) (base:=base) T
 refine zbh (k:=4) (G:=G_9) (N:=["stock"]) (ps:=["stock"]) (st:=s_9) T.F_9 sc_9 fun cdv A outer s H E hr=> ?_
 refine zag ?_ ?_
 refine zc8 ?_
 refine zao (k:=4) (g:=t.a_3) (fd:=t.d_3) (ps:=["stock"]) ?_ ?_ ?_ ?_ ?_ ?_
 exact G_3
 exact (hr.mono (by decide))
 exact T.m_3
 exact T.F_3.kp
 exact T.b_3
 refine zaa ?_ ?_
 exact zab 0
 exact zae
 refine zap ?_
 refine za1 ?_
 refine zao (k:=2) (g:=t.a_18) (fd:=t.d_18) (ps:=["table"]) ?_ ?_ ?_ ?_ ?_ ?_
 exact G_18
 exact (hr.mono (by decide))
 exact T.m_18
 exact T.F_18.kp
 exact T.b_18
 refine zaa ?_ ?_
 refine zao (k:=3) (g:=t.a_13) (fd:=t.d_13) (ps:=["stock"]) ?_ ?_ ?_ ?_ ?_ ?_
 exact G_13
 exact (hr.mono (by decide))
 exact T.m_13
 exact T.F_13.kp
 exact T.b_13
 refine zaa ?_ ?_
 exact zab 0
 exact zae
 exact zae
theorem zo7:(["number","offer","thing"]:List Str).Nodup:=by decide +kernel
theorem sc_6:zau ["stock","thing"] ["stock","thing"] (zac s_6):=⟨rfl,rfl,rfl,by decide +kernel,rfl,by decide +kernel,by decide +kernel⟩
theorem ok_6 (T:Tx K mg t):zbM P w K mg base CX0 1 t.a_6 t.d_6 ["stock","thing"] (zch K 2 F_6):=by
 refine zbh (k:=0) (G:=G_6) (N:=["stock","thing"]) (ps:=["stock","thing"]) (st:=s_6) T.F_6 sc_6 fun cdv A outer s H E hr=> ?_
 refine zap ?_
 refine za1 ?_
 refine zaM (T:="tuple") ?_ ?_ ?_ ?_
 exact zaD
 exact zaT
 exact T.n_tuple
 refine zaa ?_ ?_
 refine zaW (N:=["number","offer","thing"]) ?_ ?_ ?_ ?_ ?_ ?_ ?_
 exact rfl
 exact (BOk.of (Xn:=(zac s_6).names) (XN:=["stock","thing"]) rfl rfl rfl (by decide +kernel))
 exact (zaA.tup (zaS.cons (i:=0) rfl (zaS.cons (i:=1) rfl zaS.nil)))
 refine zmO ?_ ?_
 exact T.n_enumerate
 refine za7 ?_ ?_
 exact zab 0
 exact zaj
 intro _ _ _
 refine zcr ?_ ?_
 exact rfl
 refine zaB ?_ ?_
 exact zah 0 zo7
 refine zaB ?_ ?_
 exact zah 1 zo7
 exact zbH
 intro _ _ _
 refine zbJ ?_
 refine zaL ?_ ?_ ?_
 exact (ze0 (zc7 hr))
 exact zab 2
 refine za7 ?_ ?_
 exact zab 1
 exact zaj
 intro _ _ _
 exact zab 0
 exact zae
theorem nd_16:(["stock","thing","having"]:List Str).Nodup:=by decide +kernel
theorem zrD:(["other","stock","having"]:List Str).Nodup:=by decide +kernel
theorem sc_16:zau ["stock","thing","having"] ["stock","thing"] (zac s_16):=⟨rfl,rfl,rfl,by decide +kernel,rfl,by decide +kernel,by decide +kernel⟩
theorem ok_16 (T:Tx K mg t):zbM P w K mg base CX0 2 t.a_16 t.d_16 ["stock","thing"] (zch K 2 F_16):=by
 have G_6:=ok_6 (P:=P) (w:=w) (base:=base) T
 have G_17:=ok_17 (P:=P) (w:=w) (base:=base) T
 refine zbh (k:=1) (G:=G_16) (N:=["stock","thing","having"]) (ps:=["stock","thing"]) (st:=s_16) T.F_16 sc_16 fun cdv A outer s H E hr=> ?_
 refine zag ?_ ?_
 refine zaO 2 ?_ ?_
 exact nd_16
 refine zao (k:=1) (g:=t.a_6) (fd:=t.d_6) (ps:=["stock","thing"]) ?_ ?_ ?_ ?_ ?_ ?_
 exact G_6
 exact (hr.mono (by decide))
 exact T.m_6
 exact T.F_6.kp
 exact T.b_6
 refine zaa ?_ ?_
 exact zab 0
 refine zaa ?_ ?_
 exact zab 1
 exact zae
 refine zap ?_
 refine za1 ?_
 refine zaW (N:=["other","stock","having"]) ?_ ?_ ?_ ?_ ?_ ?_ ?_
 exact rfl
 exact (BOk.of (Xn:=(zac s_16).names) (XN:=["stock","thing","having"]) rfl rfl rfl (by decide +kernel))
 exact (zaA.name (i:=0) rfl)
 refine zdL ?_ ?_
 exact T.n_range
 refine zaa ?_ ?_
 refine za7 ?_ ?_
 exact zab 0
 exact zaj
 exact zae
 intro _ _ _
 exact zah 0 zrD
 intro _ _ _
 exact zbT
 intro _ _ _
 refine zao (k:=1) (g:=t.a_17) (fd:=t.d_17) (ps:=["numbers","others"]) ?_ ?_ ?_ ?_ ?_ ?_
 exact G_17
 exact (hr.mono (by decide))
 exact T.m_17
 exact T.F_17.kp
 exact T.b_17
 refine zaa ?_ ?_
 refine zao (k:=1) (g:=t.a_6) (fd:=t.d_6) (ps:=["stock","thing"]) ?_ ?_ ?_ ?_ ?_ ?_
 exact G_6
 exact (hr.mono (by decide))
 exact T.m_6
 exact T.F_6.kp
 exact T.b_6
 refine zaa ?_ ?_
 exact zab 1
 refine zaa ?_ ?_
 exact zab 0
 exact zae
 refine zaa ?_ ?_
 exact zab 2
 exact zae
theorem zrY:(["thing","stock"]:List Str).Nodup:=by decide +kernel
theorem sc_15:zau ["stock"] ["stock"] (zac s_15):=⟨rfl,rfl,rfl,by decide +kernel,rfl,by decide +kernel,by decide +kernel⟩
theorem ok_15 (T:Tx K mg t):zbM P w K mg base CX0 3 t.a_15 t.d_15 ["stock"] (zch K 1 F_15):=by
 have G_16:=ok_16 (P:=P) (w:=w) (base:=base) T
 refine zbh (k:=2) (G:=G_15) (N:=["stock"]) (ps:=["stock"]) (st:=s_15) T.F_15 sc_15 fun cdv A outer s H E hr=> ?_
 refine zap ?_
 refine za1 ?_
 refine zaW (N:=["thing","stock"]) ?_ ?_ ?_ ?_ ?_ ?_ ?_
 exact rfl
 exact (BOk.of (Xn:=(zac s_15).names) (XN:=["stock"]) rfl rfl rfl (by decide +kernel))
 exact (zaA.name (i:=0) rfl)
 refine zdL ?_ ?_
 exact T.n_range
 refine zaa ?_ ?_
 refine za7 ?_ ?_
 exact zab 0
 exact zaj
 exact zae
 intro _ _ _
 exact zah 0 zrY
 intro _ _ _
 exact zbT
 intro _ _ _
 refine zao (k:=2) (g:=t.a_16) (fd:=t.d_16) (ps:=["stock","thing"]) ?_ ?_ ?_ ?_ ?_ ?_
 exact G_16
 exact (hr.mono (by decide))
 exact T.m_16
 exact T.F_16.kp
 exact T.b_16
 refine zaa ?_ ?_
 exact zab 1
 refine zaa ?_ ?_
 exact zab 0
 exact zae
theorem sc_10:zau ["stock"] ["stock"] (zac s_10):=⟨rfl,rfl,rfl,by decide +kernel,rfl,by decide +kernel,by decide +kernel⟩
theorem ok_10 (T:Tx K mg t):zbM P w K mg base CX0 5 t.a_10 t.d_10 ["stock"] (zch K 1 F_10):=by
 have G_3:=ok_3 (P:=P) (w:=w) (base:=base) T
 have G_18:=ok_18 (P:=P) (w:=w) (base:=base) T
 have G_15:=ok_15 (P:=P) (w:=w) (base:=base) T
 refine zbh (k:=4) (G:=G_10) (N:=["stock"]) (ps:=["stock"]) (st:=s_10) T.F_10 sc_10 fun cdv A outer s H E hr=> ?_
 refine zag ?_ ?_
 refine zc8 ?_
 refine zao (k:=4) (g:=t.a_3) (fd:=t.d_3) (ps:=["stock"]) ?_ ?_ ?_ ?_ ?_ ?_
 exact G_3
 exact (hr.mono (by decide))
 exact T.m_3
 exact T.F_3.kp
 exact T.b_3
 refine zaa ?_ ?_
 exact zab 0
 exact zae
 refine zap ?_
 refine za1 ?_
 refine zao (k:=2) (g:=t.a_18) (fd:=t.d_18) (ps:=["table"]) ?_ ?_ ?_ ?_ ?_ ?_
 exact G_18
 exact (hr.mono (by decide))
 exact T.m_18
 exact T.F_18.kp
 exact T.b_18
 refine zaa ?_ ?_
 refine zao (k:=3) (g:=t.a_15) (fd:=t.d_15) (ps:=["stock"]) ?_ ?_ ?_ ?_ ?_ ?_
 exact G_15
 exact (hr.mono (by decide))
 exact T.m_15
 exact T.F_15.kp
 exact T.b_15
 refine zaa ?_ ?_
 exact zab 0
 exact zae
 exact zae
theorem zpM:(["place","thing","offer"]:List Str).Nodup:=by decide +kernel
theorem sc_8:zau ["offer","things"] ["offer","things"] (zac s_8):=⟨rfl,rfl,rfl,by decide +kernel,rfl,by decide +kernel,by decide +kernel⟩
theorem ok_8 (T:Tx K mg t):zbM P w K mg base CX0 1 t.a_8 t.d_8 ["offer","things"] (zch K 2 F_8):=by
 refine zbh (k:=0) (G:=G_8) (N:=["offer","things"]) (ps:=["offer","things"]) (st:=s_8) T.F_8 sc_8 fun cdv A outer s H E hr=> ?_
 refine zap ?_
 refine za1 ?_
 refine zaM (T:="tuple") ?_ ?_ ?_ ?_
 exact zaD
 exact zaT
 exact T.n_tuple
 refine zaa ?_ ?_
 refine zaW (N:=["place","thing","offer"]) ?_ ?_ ?_ ?_ ?_ ?_ ?_
 exact rfl
 exact (BOk.of (Xn:=(zac s_8).names) (XN:=["offer","things"]) rfl rfl rfl (by decide +kernel))
 exact (zaA.tup (zaS.cons (i:=0) rfl (zaS.cons (i:=1) rfl zaS.nil)))
 refine zkc ?_ ?_
 exact T.n_enumerate
 exact zab 1
 intro _ _ _
 refine zcr ?_ ?_
 exact rfl
 refine zaB ?_ ?_
 exact zah 0 zpM
 refine zaB ?_ ?_
 exact zah 1 zpM
 exact zbH
 intro _ _ _
 refine zbJ ?_
 refine zaL ?_ ?_ ?_
 exact (ze0 (zc7 hr))
 exact zab 1
 refine za7 ?_ ?_
 exact zab 2
 exact zaj
 intro _ _ _
 exact zab 0
 exact zae
theorem nd_7:(["stock","things","numbers","offers"]:List Str).Nodup:=by decide +kernel
theorem zrB:(["number","stock"]:List Str).Nodup:=by decide +kernel
theorem zsF:(["offer","things"]:List Str).Nodup:=by decide +kernel
theorem sc_7:zau ["stock","things","numbers","offers"] ["stock","things","numbers"] (zac s_7):=⟨rfl,rfl,rfl,by decide +kernel,rfl,by decide +kernel,by decide +kernel⟩
theorem ok_7 (T:Tx K mg t):zbM P w K mg base CX0 2 t.a_7 t.d_7 ["stock","things","numbers"] (zch K 3 F_7):=by
 have G_8:=ok_8 (P:=P) (w:=w) (base:=base) T
 refine zbh (k:=1) (G:=G_7) (N:=["stock","things","numbers","offers"]) (ps:=["stock","things","numbers"]) (st:=s_7) T.F_7 sc_7 fun cdv A outer s H E hr=> ?_
 refine zag ?_ ?_
 refine zdk 3 (N:=["number","stock"]) ?_ ?_ ?_ ?_ ?_ ?_ ?_ ?_
 exact rfl
 exact nd_7
 exact (BOk.of (Xn:=(zac s_7).names) (XN:=["stock","things","numbers","offers"]) rfl rfl rfl (by decide +kernel))
 exact (zaA.name (i:=0) rfl)
 refine zb4 ?_
 exact zab 2
 intro _ _ _
 exact zah 0 zrB
 intro _ _ _
 exact zbT
 intro _ _ _
 refine za7 ?_ ?_
 refine za7 ?_ ?_
 exact zab 1
 exact zaj
 exact zab 0
 refine zap ?_
 refine za1 ?_
 refine zbk ?_
 refine zaa ?_ ?_
 refine zaK (id:="len") ?_ ?_ ?_ ?_
 exact zaE
 exact zbC
 exact T.n_len
 refine zaa ?_ ?_
 exact zab 1
 exact zae
 refine zaa ?_ ?_
 refine zaM (T:="tuple") ?_ ?_ ?_ ?_
 exact zaD
 exact zaT
 exact T.n_tuple
 refine zaa ?_ ?_
 refine zaW (N:=["offer","things"]) ?_ ?_ ?_ ?_ ?_ ?_ ?_
 exact rfl
 exact (BOk.of (Xn:=(zac s_7).names) (XN:=["stock","things","numbers","offers"]) rfl rfl rfl (by decide +kernel))
 exact (zaA.name (i:=0) rfl)
 refine zb4 ?_
 exact zab 3
 intro _ _ _
 exact zah 0 zsF
 intro _ _ _
 exact zbT
 intro _ _ _
 refine zbk ?_
 refine zaa ?_ ?_
 refine zao (k:=1) (g:=t.a_8) (fd:=t.d_8) (ps:=["offer","things"]) ?_ ?_ ?_ ?_ ?_ ?_
 exact G_8
 exact (hr.mono (by decide))
 exact T.m_8
 exact T.F_8.kp
 exact T.b_8
 refine zaa ?_ ?_
 exact zab 0
 refine zaa ?_ ?_
 exact zab 1
 exact zae
 refine zaa ?_ ?_
 refine za7 ?_ ?_
 exact zab 0
 exact zaj
 exact zae
 exact zae
 exact zae
theorem nd_21:(["stay","stock","numbers","every","things","old_things","old_offers"]:List Str).Nodup:=by decide +kernel
theorem zpc:(["number","stock","things"]:List Str).Nodup:=by decide +kernel
theorem zpI:(["thing","stay"]:List Str).Nodup:=by decide +kernel
theorem zqq:(["number","stay"]:List Str).Nodup:=by decide +kernel
theorem sc_21:zau ["stay","stock","numbers","every","things","old_things","old_offers"] ["stay"] (zac s_21):=⟨rfl,rfl,rfl,by decide +kernel,rfl,by decide +kernel,by decide +kernel⟩
theorem ok_21 (T:Tx K mg t):zbM P w K mg base CX0 6 t.a_21 t.d_21 ["stay"] (zch K 1 F_21):=by
 have G_22:=ok_22 (P:=P) (w:=w) (base:=base) T
 have G_9:=ok_9 (P:=P) (w:=w) (base:=base) T
 have G_10:=ok_10 (P:=P) (w:=w) (base:=base) T
 have G_7:=ok_7 (P:=P) (w:=w) (base:=base) T
 have G_8:=ok_8 (P:=P) (w:=w) (base:=base) T
 refine zbh (k:=5) (G:=G_21) (N:=["stay","stock","numbers","every","things","old_things","old_offers"]) (ps:=["stay"]) (st:=s_21) T.F_21 sc_21 fun cdv A outer s H E hr=> ?_
 refine zag ?_ ?_
 refine zaO 1 ?_ ?_
 exact nd_21
 refine za7 ?_ ?_
 exact zab 0
 exact zaj
 refine zag ?_ ?_
 refine zaO 2 ?_ ?_
 exact nd_21
 refine zao (k:=1) (g:=t.a_22) (fd:=t.d_22) (ps:=["count","ruled"]) ?_ ?_ ?_ ?_ ?_ ?_
 exact G_22
 exact (hr.mono (by decide))
 exact T.m_22
 exact T.F_22.kp
 exact T.b_22
 refine zaa ?_ ?_
 refine zaK (id:="len") ?_ ?_ ?_ ?_
 exact zaE
 exact zbC
 exact T.n_len
 refine zaa ?_ ?_
 refine za7 ?_ ?_
 exact zab 1
 exact zaj
 exact zae
 refine zaa ?_ ?_
 refine zao (k:=5) (g:=t.a_9) (fd:=t.d_9) (ps:=["stock"]) ?_ ?_ ?_ ?_ ?_ ?_
 exact G_9
 exact (hr.mono (by decide))
 exact T.m_9
 exact T.F_9.kp
 exact T.b_9
 refine zaa ?_ ?_
 exact zab 1
 exact zae
 exact zae
 refine zag ?_ ?_
 refine zaO 3 ?_ ?_
 exact nd_21
 refine zd8 ?_ ?_ ?_ ?_
 exact rfl
 exact T.n_list
 exact T.n_range
 refine za7 ?_ ?_
 exact zab 1
 exact zaj
 refine zag ?_ ?_
 refine zaO 4 ?_ ?_
 exact nd_21
 refine zao (k:=1) (g:=t.a_22) (fd:=t.d_22) (ps:=["count","ruled"]) ?_ ?_ ?_ ?_ ?_ ?_
 exact G_22
 exact (hr.mono (by decide))
 exact T.m_22
 exact T.F_22.kp
 exact T.b_22
 refine zaa ?_ ?_
 refine za7 ?_ ?_
 exact zab 1
 exact zaj
 refine zaa ?_ ?_
 refine zao (k:=5) (g:=t.a_10) (fd:=t.d_10) (ps:=["stock"]) ?_ ?_ ?_ ?_ ?_ ?_
 exact G_10
 exact (hr.mono (by decide))
 exact T.m_10
 exact T.F_10.kp
 exact T.b_10
 refine zaa ?_ ?_
 refine zao (k:=2) (g:=t.a_7) (fd:=t.d_7) (ps:=["stock","things","numbers"]) ?_ ?_ ?_ ?_ ?_ ?_
 exact G_7
 exact (hr.mono (by decide))
 exact T.m_7
 exact T.F_7.kp
 exact T.b_7
 refine zaa ?_ ?_
 exact zab 1
 refine zaa ?_ ?_
 exact zab 3
 refine zaa ?_ ?_
 exact zab 2
 exact zae
 exact zae
 exact zae
 refine zag ?_ ?_
 refine zdk 2 (N:=["number","stock","things"]) ?_ ?_ ?_ ?_ ?_ ?_ ?_ ?_
 exact rfl
 exact nd_21
 exact (BOk.of (Xn:=(zac s_21).names) (XN:=["stay","stock","numbers","every","things","old_things","old_offers"]) rfl rfl rfl (by decide +kernel))
 exact (zaA.name (i:=0) rfl)
 refine zb4 ?_
 exact zab 2
 intro _ _ _
 exact zah 0 zpc
 intro _ _ _
 refine zbJ ?_
 refine zm0 ?_
 refine zao (k:=1) (g:=t.a_8) (fd:=t.d_8) (ps:=["offer","things"]) ?_ ?_ ?_ ?_ ?_ ?_
 exact G_8
 exact (hr.mono (by decide))
 exact T.m_8
 exact T.F_8.kp
 exact T.b_8
 refine zaa ?_ ?_
 refine za7 ?_ ?_
 refine za7 ?_ ?_
 exact zab 1
 exact zaj
 exact zab 0
 refine zaa ?_ ?_
 exact zab 2
 exact zae
 intro _ _ _
 exact zab 0
 refine zag ?_ ?_
 refine zaO 5 ?_ ?_
 exact nd_21
 refine zaM (T:="tuple") ?_ ?_ ?_ ?_
 exact zaD
 exact zaT
 exact T.n_tuple
 refine zaa ?_ ?_
 refine zaW (N:=["thing","stay"]) ?_ ?_ ?_ ?_ ?_ ?_ ?_
 exact rfl
 exact (BOk.of (Xn:=(zac s_21).names) (XN:=["stay","stock","numbers","every","things","old_things","old_offers"]) rfl rfl rfl (by decide +kernel))
 exact (zaA.name (i:=0) rfl)
 refine zb4 ?_
 exact zab 4
 intro _ _ _
 exact zah 0 zpI
 intro _ _ _
 exact zbT
 intro _ _ _
 refine za7 ?_ ?_
 refine za7 ?_ ?_
 exact zab 1
 exact zaj
 exact zab 0
 exact zae
 refine zag ?_ ?_
 refine zaO 6 ?_ ?_
 exact nd_21
 refine zaM (T:="tuple") ?_ ?_ ?_ ?_
 exact zaD
 exact zaT
 exact T.n_tuple
 refine zaa ?_ ?_
 refine zaW (N:=["number","stay"]) ?_ ?_ ?_ ?_ ?_ ?_ ?_
 exact rfl
 exact (BOk.of (Xn:=(zac s_21).names) (XN:=["stay","stock","numbers","every","things","old_things","old_offers"]) rfl rfl rfl (by decide +kernel))
 exact (zaA.name (i:=0) rfl)
 refine zb4 ?_
 exact zab 2
 intro _ _ _
 exact zah 0 zqq
 intro _ _ _
 exact zbT
 intro _ _ _
 refine za7 ?_ ?_
 refine za7 ?_ ?_
 exact zab 1
 exact zaj
 exact zab 0
 exact zae
 refine zap ?_
 refine za1 ?_
 refine zbk ?_
 refine zaa ?_ ?_
 refine zao (k:=2) (g:=t.a_7) (fd:=t.d_7) (ps:=["stock","things","numbers"]) ?_ ?_ ?_ ?_ ?_ ?_
 exact G_7
 exact (hr.mono (by decide))
 exact T.m_7
 exact T.F_7.kp
 exact T.b_7
 refine zaa ?_ ?_
 exact zab 1
 refine zaa ?_ ?_
 exact zab 4
 refine zaa ?_ ?_
 exact zab 2
 exact zae
 refine zaa ?_ ?_
 exact zab 5
 refine zaa ?_ ?_
 exact zab 6
 exact zae
theorem nd_20:(["stock","stays","later"]:List Str).Nodup:=by decide +kernel
theorem sc_20:zau ["stock","stays","later"] ["stock"] (zac s_20):=⟨rfl,rfl,rfl,by decide +kernel,rfl,by decide +kernel,by decide +kernel⟩
theorem ok_20 (T:Tx K mg t):zbM P w K mg base CX0 7 t.a_20 t.d_20 ["stock"] (zch K 1 F_20):=by
 have G_21:=ok_21 (P:=P) (w:=w) (base:=base) T
 refine zbh (k:=6) (G:=G_20) (N:=["stock","stays","later"]) (ps:=["stock"]) (st:=s_20) T.F_20 sc_20 fun cdv A outer s H E hr=> ?_
 refine zag ?_ ?_
 refine zaO 1 ?_ ?_
 exact nd_20
 refine zdZ ?_
 refine zaa ?_ ?_
 refine zbk ?_
 refine zaa ?_ ?_
 exact zab 0
 refine zaa ?_ ?_
 refine zib ?_ ?_ ?_ ?_
 exact rfl
 exact T.n_tuple
 exact T.n_range
 refine za7 ?_ ?_
 exact zab 0
 exact zaj
 refine zaa ?_ ?_
 refine zib ?_ ?_ ?_ ?_
 exact rfl
 exact T.n_tuple
 exact T.n_range
 refine zaK (id:="len") ?_ ?_ ?_ ?_
 exact zaE
 exact zbC
 exact T.n_len
 refine zaa ?_ ?_
 refine za7 ?_ ?_
 exact zab 0
 exact zaj
 exact zae
 exact zae
 exact zae
 refine zag ?_ ?_
 refine zaO 2 ?_ ?_
 exact nd_20
 refine zao (k:=6) (g:=t.a_21) (fd:=t.d_21) (ps:=["stay"]) ?_ ?_ ?_ ?_ ?_ ?_
 exact G_21
 exact (hr.mono (by decide))
 exact T.m_21
 exact T.F_21.kp
 exact T.b_21
 refine zaa ?_ ?_
 refine za7 ?_ ?_
 exact zab 1
 refine zox ?_
 exact zaj
 exact zae
 refine zag ?_ ?_
 refine zhr 1000 ?_ ?_ ?_
 exact PassesOwn.never
 refine zaL ?_ ?_ ?_
 exact (ze2 (zc7 hr))
 exact zab 2
 refine za7 ?_ ?_
 exact zab 1
 refine zox ?_
 exact zaj
 refine zag ?_ ?_
 refine zc8 ?_
 refine zct ?_ ?_
 exact zab 1
 exact zab 2
 refine zap ?_
 refine zaO 2 ?_ ?_
 exact nd_20
 refine zao (k:=6) (g:=t.a_21) (fd:=t.d_21) (ps:=["stay"]) ?_ ?_ ?_ ?_ ?_ ?_
 exact G_21
 exact (hr.mono (by decide))
 exact T.m_21
 exact T.F_21.kp
 exact T.b_21
 refine zaa ?_ ?_
 exact zab 2
 exact zae
 refine zap ?_
 refine za1 ?_
 refine zmv ?_
 exact zab 1
theorem sc_11:zau ["stock"] ["stock"] (zac s_11):=⟨rfl,rfl,rfl,by decide +kernel,rfl,by decide +kernel,by decide +kernel⟩
theorem ok_11 (T:Tx K mg t):zbM P w K mg base CX0 8 t.a_11 t.d_11 ["stock"] (zch K 1 F_11):=by
 have G_20:=ok_20 (P:=P) (w:=w) (base:=base) T
 refine zbh (k:=7) (G:=G_11) (N:=["stock"]) (ps:=["stock"]) (st:=s_11) T.F_11 sc_11 fun cdv A outer s H E hr=> ?_
 refine zap ?_
 refine za1 ?_
 refine za7 ?_ ?_
 refine zao (k:=7) (g:=t.a_20) (fd:=t.d_20) (ps:=["stock"]) ?_ ?_ ?_ ?_ ?_ ?_
 exact G_20
 exact (hr.mono (by decide))
 exact T.m_20
 exact T.F_20.kp
 exact T.b_20
 refine zaa ?_ ?_
 exact zab 0
 exact zae
 refine zox ?_
 exact zaj
theorem zpo:(["number","others"]:List Str).Nodup:=by decide +kernel
theorem sc_24:zau ["numbers","others"] ["numbers","others"] (zac s_24):=⟨rfl,rfl,rfl,by decide +kernel,rfl,by decide +kernel,by decide +kernel⟩
theorem ok_24 (T:Tx K mg t):zbM P w K mg base CX0 1 t.a_24 t.d_24 ["numbers","others"] (zch K 2 F_24):=by
 refine zbh (k:=0) (G:=G_24) (N:=["numbers","others"]) (ps:=["numbers","others"]) (st:=s_24) T.F_24 sc_24 fun cdv A outer s H E hr=> ?_
 refine zap ?_
 refine za1 ?_
 refine zaM (T:="tuple") ?_ ?_ ?_ ?_
 exact zaD
 exact zaT
 exact T.n_tuple
 refine zaa ?_ ?_
 refine zaW (N:=["number","others"]) ?_ ?_ ?_ ?_ ?_ ?_ ?_
 exact rfl
 exact (BOk.of (Xn:=(zac s_24).names) (XN:=["numbers","others"]) rfl rfl rfl (by decide +kernel))
 exact (zaA.name (i:=0) rfl)
 refine zb4 ?_
 exact zab 0
 intro _ _ _
 exact zah 0 zpo
 intro _ _ _
 refine zbJ ?_
 refine zaL ?_ ?_ ?_
 exact (zcg (zc7 hr))
 exact zab 0
 exact zab 1
 intro _ _ _
 exact zab 0
 exact zae
theorem sc_23:zau ["stay","later"] ["stay","later"] (zac s_23):=⟨rfl,rfl,rfl,by decide +kernel,rfl,by decide +kernel,by decide +kernel⟩
theorem ok_23 (T:Tx K mg t):zbM P w K mg base CX0 2 t.a_23 t.d_23 ["stay","later"] (zch K 2 F_23):=by
 have G_24:=ok_24 (P:=P) (w:=w) (base:=base) T
 refine zbh (k:=1) (G:=G_23) (N:=["stay","later"]) (ps:=["stay","later"]) (st:=s_23) T.F_23 sc_23 fun cdv A outer s H E hr=> ?_
 refine zap ?_
 refine za1 ?_
 refine zbk ?_
 refine zaa ?_ ?_
 refine zao (k:=1) (g:=t.a_24) (fd:=t.d_24) (ps:=["numbers","others"]) ?_ ?_ ?_ ?_ ?_ ?_
 exact G_24
 exact (hr.mono (by decide))
 exact T.m_24
 exact T.F_24.kp
 exact T.b_24
 refine zaa ?_ ?_
 refine za7 ?_ ?_
 exact zab 0
 exact zaj
 refine zaa ?_ ?_
 refine za7 ?_ ?_
 exact zab 1
 exact zaj
 exact zae
 refine zaa ?_ ?_
 refine zao (k:=1) (g:=t.a_24) (fd:=t.d_24) (ps:=["numbers","others"]) ?_ ?_ ?_ ?_ ?_ ?_
 exact G_24
 exact (hr.mono (by decide))
 exact T.m_24
 exact T.F_24.kp
 exact T.b_24
 refine zaa ?_ ?_
 refine za7 ?_ ?_
 exact zab 0
 exact zaj
 refine zaa ?_ ?_
 refine za7 ?_ ?_
 exact zab 1
 exact zaj
 exact zae
 exact zae
theorem nd_12:(["stock","stays"]:List Str).Nodup:=by decide +kernel
theorem zrJ:(["place","stays"]:List Str).Nodup:=by decide +kernel
theorem sc_12:zau ["stock","stays"] ["stock"] (zac s_12):=⟨rfl,rfl,rfl,by decide +kernel,rfl,by decide +kernel,by decide +kernel⟩
theorem ok_12 (T:Tx K mg t):zbM P w K mg base CX0 8 t.a_12 t.d_12 ["stock"] (zch K 1 F_12):=by
 have G_20:=ok_20 (P:=P) (w:=w) (base:=base) T
 have G_23:=ok_23 (P:=P) (w:=w) (base:=base) T
 refine zbh (k:=7) (G:=G_12) (N:=["stock","stays"]) (ps:=["stock"]) (st:=s_12) T.F_12 sc_12 fun cdv A outer s H E hr=> ?_
 refine zag ?_ ?_
 refine zaO 1 ?_ ?_
 exact nd_12
 refine zao (k:=7) (g:=t.a_20) (fd:=t.d_20) (ps:=["stock"]) ?_ ?_ ?_ ?_ ?_ ?_
 exact G_20
 exact (hr.mono (by decide))
 exact T.m_20
 exact T.F_20.kp
 exact T.b_20
 refine zaa ?_ ?_
 exact zab 0
 exact zae
 refine zap ?_
 refine za1 ?_
 refine zoN (N:=["place","stays"]) ?_ ?_ ?_ ?_ ?_ ?_ ?_
 exact rfl
 exact (BOk.of (Xn:=(zac s_12).names) (XN:=["stock","stays"]) rfl rfl rfl (by decide +kernel))
 exact (zaA.name (i:=0) rfl)
 refine zrk ?_ ?_
 exact T.n_range
 refine zaa ?_ ?_
 exact zaj
 refine zaa ?_ ?_
 refine zaK (id:="len") ?_ ?_ ?_ ?_
 exact zaE
 exact zbC
 exact T.n_len
 refine zaa ?_ ?_
 exact zab 1
 exact zae
 exact zae
 intro _ _ _
 exact zah 0 zrJ
 intro _ _ _
 exact zbT
 intro _ _ _
 refine zao (k:=2) (g:=t.a_23) (fd:=t.d_23) (ps:=["stay","later"]) ?_ ?_ ?_ ?_ ?_ ?_
 exact G_23
 exact (hr.mono (by decide))
 exact T.m_23
 exact T.F_23.kp
 exact T.b_23
 refine zaa ?_ ?_
 refine za7 ?_ ?_
 exact zab 1
 refine zdS ?_ ?_ ?_
 exact zhx
 exact zab 0
 exact zaj
 refine zaa ?_ ?_
 refine za7 ?_ ?_
 exact zab 1
 exact zab 0
 exact zae
theorem nd_38:(["script","k","box","stock","due","rows","found","turn","some"]:List Str).Nodup:=by decide +kernel
theorem zpT:(["part"]:List Str).Nodup:=by decide +kernel
theorem sc_38:zau ["script","k","box","stock","due","rows","found","turn","some"] ["script"] (zac s_38):=⟨rfl,rfl,rfl,by decide +kernel,rfl,by decide +kernel,by decide +kernel⟩
theorem ok_38 (T:Tx K mg t):zbM P w K mg base CX0 9 t.a_38 t.d_38 ["script"] (zch K 1 F_38):=by
 have G_27:=ok_27 (P:=P) (w:=w) (base:=base) T
 have G_37:=ok_37 (P:=P) (w:=w) (base:=base) T
 have G_30:=ok_30 (P:=P) (w:=w) (base:=base) T
 have G_36:=ok_36 (P:=P) (w:=w) (base:=base) T
 have G_11:=ok_11 (P:=P) (w:=w) (base:=base) T
 have G_12:=ok_12 (P:=P) (w:=w) (base:=base) T
 refine zbh (k:=8) (G:=G_38) (N:=["script","k","box","stock","due","rows","found","turn","some"]) (ps:=["script"]) (st:=s_38) T.F_38 sc_38 fun cdv A outer s H E hr=> ?_
 refine zag ?_ ?_
 refine zge ?_ ?_ ?_ ?_ ?_
 exact rfl
 exact PassesOwn.never
 refine zdL ?_ ?_
 exact T.n_range
 refine zaa ?_ ?_
 refine zaK (id:="max") ?_ ?_ ?_ ?_
 exact (zfH rfl)
 exact zmX
 exact T.n_max
 refine zaa ?_ ?_
 exact zaj
 refine zaa ?_ ?_
 refine zaK (id:="min") ?_ ?_ ?_ ?_
 exact (zi2 rfl)
 exact zpH
 exact T.n_min
 refine zaa ?_ ?_
 refine zaK (id:="len") ?_ ?_ ?_ ?_
 exact zaE
 exact zbC
 exact T.n_len
 refine zaa ?_ ?_
 exact zab 0
 exact zae
 refine zaa ?_ ?_
 exact zaj
 exact zae
 exact zae
 exact zae
 exact zah 1 nd_38
 refine zag ?_ ?_
 refine zaO 2 ?_ ?_
 exact nd_38
 refine zao (k:=2) (g:=t.a_27) (fd:=t.d_27) (ps:=["script","k"]) ?_ ?_ ?_ ?_ ?_ ?_
 exact G_27
 exact (hr.mono (by decide))
 exact T.m_27
 exact T.F_27.kp
 exact T.b_27
 refine zaa ?_ ?_
 exact zab 0
 refine zaa ?_ ?_
 exact zab 1
 exact zae
 refine zap ?_
 refine zge ?_ ?_ ?_ ?_ ?_
 exact rfl
 exact PassesOwn.never
 refine zb4 ?_
 refine ze7 ?_
 refine zaa ?_ ?_
 refine zao (k:=4) (g:=t.a_37) (fd:=t.d_37) (ps:=["box"]) ?_ ?_ ?_ ?_ ?_ ?_
 exact G_37
 exact (hr.mono (by decide))
 exact T.m_37
 exact T.F_37.kp
 exact T.b_37
 refine zaa ?_ ?_
 exact zab 2
 exact zae
 refine zaa ?_ ?_
 refine zao (k:=3) (g:=t.a_30) (fd:=t.d_30) (ps:=["box","most_things","most_offers"]) ?_ ?_ ?_ ?_ ?_ ?_
 exact G_30
 exact (hr.mono (by decide))
 exact T.m_30
 exact T.F_30.kp
 exact T.b_30
 refine zaa ?_ ?_
 exact zab 2
 refine zaa ?_ ?_
 exact zaj
 refine zaa ?_ ?_
 exact zaj
 exact zae
 exact zae
 exact zah 3 nd_38
 refine zag ?_ ?_
 refine zfX ?_ ?_
 refine zao (k:=4) (g:=t.a_36) (fd:=t.d_36) (ps:=["stock"]) ?_ ?_ ?_ ?_ ?_ ?_
 exact G_36
 exact (hr.mono (by decide))
 exact T.m_36
 exact T.F_36.kp
 exact T.b_36
 refine zaa ?_ ?_
 exact zab 3
 exact zae
 refine zcr ?_ ?_
 exact rfl
 refine zaB ?_ ?_
 exact zah 4 nd_38
 refine zaB ?_ ?_
 exact zah 5 nd_38
 exact zbH
 refine zag ?_ ?_
 refine zaO 6 ?_ ?_
 exact nd_38
 refine zao (k:=8) (g:=t.a_11) (fd:=t.d_11) (ps:=["stock"]) ?_ ?_ ?_ ?_ ?_ ?_
 exact G_11
 exact (hr.mono (by decide))
 exact T.m_11
 exact T.F_11.kp
 exact T.b_11
 refine zaa ?_ ?_
 exact zab 3
 exact zae
 refine zag ?_ ?_
 refine ziL ?_ ?_ ?_
 refine zdP ?_
 refine zhu ?_ ?_
 refine ziC ?_
 refine ze1 ?_
 refine zom ?_ ?_ ?_ ?_ ?_
 exact zgJ
 exact zaT
 exact T.n_isinstance
 exact T.n_tuple
 exact zab 6
 refine zhu ?_ ?_
 refine zaL ?_ ?_ ?_
 exact (zmP (zc7 hr))
 exact zab 6
 exact zab 4
 refine zhi ?_
 refine ziC ?_
 refine ze1 ?_
 refine zaK (id:="all") ?_ ?_ ?_ ?_
 exact (zg3 rfl)
 exact zmJ
 exact T.n_all
 refine zaa ?_ ?_
 refine zaW (N:=["part"]) ?_ ?_ ?_ ?_ ?_ ?_ ?_
 exact rfl
 exact (BOk.of (Xn:=(zac s_38).names) (XN:=["script","k","box","stock","due","rows","found","turn","some"]) rfl rfl rfl (by decide +kernel))
 exact (zaA.name (i:=0) rfl)
 refine zb4 ?_
 exact zab 6
 intro _ _ _
 exact zah 0 zpT
 intro _ _ _
 exact zbT
 intro _ _ _
 refine zom ?_ ?_ ?_ ?_ ?_
 exact zgJ
 exact zaT
 exact T.n_isinstance
 exact T.n_tuple
 exact zab 0
 exact zae
 refine zap ?_
 refine za1 ?_
 exact zny
 exact zcP
 refine zap ?_
 refine zge ?_ ?_ ?_ ?_ ?_
 exact rfl
 exact PassesOwn.never
 refine zdL ?_ ?_
 exact T.n_range
 refine zaa ?_ ?_
 exact zaj
 exact zae
 exact zah 7 nd_38
 refine zag ?_ ?_
 refine zaO 8 ?_ ?_
 exact nd_38
 refine zao (k:=8) (g:=t.a_12) (fd:=t.d_12) (ps:=["stock"]) ?_ ?_ ?_ ?_ ?_ ?_
 exact G_12
 exact (hr.mono (by decide))
 exact T.m_12
 exact T.F_12.kp
 exact T.b_12
 refine zaa ?_ ?_
 exact zab 3
 exact zae
 refine zag ?_ ?_
 refine ziL ?_ ?_ ?_
 refine zdP ?_
 refine zhu ?_ ?_
 refine ziC ?_
 refine ze1 ?_
 refine zom ?_ ?_ ?_ ?_ ?_
 exact zlK
 exact zkS
 exact T.n_isinstance
 exact T.n_list
 exact zab 8
 refine zhi ?_
 refine zaL ?_ ?_ ?_
 exact (zmP (zc7 hr))
 exact zab 8
 exact zab 5
 refine zap ?_
 refine za1 ?_
 exact zny
 exact zcP
 refine zap ?_
 refine zc8 ?_
 refine zct ?_ ?_
 exact zab 8
 refine zbk ?_
 exact zae
 refine zap ?_
 refine za1 ?_
 refine zfl ?_ ?_ ?_
 exact (zqS (zc7 hr))
 refine zao (k:=8) (g:=t.a_11) (fd:=t.d_11) (ps:=["stock"]) ?_ ?_ ?_ ?_ ?_ ?_
 exact G_11
 exact (hr.mono (by decide))
 exact T.m_11
 exact T.F_11.kp
 exact T.b_11
 refine zaa ?_ ?_
 refine zbk ?_
 refine zaa ?_ ?_
 exact zaj
 refine zaa ?_ ?_
 refine zbk ?_
 refine zaa ?_ ?_
 refine zbk ?_
 refine zaa ?_ ?_
 refine zbk ?_
 refine zaa ?_ ?_
 exact zaj
 exact zae
 refine zaa ?_ ?_
 exact zaj
 exact zae
 exact zae
 exact zae
 exact zae
 refine zbk ?_
 refine zaa ?_ ?_
 refine zbk ?_
 refine zaa ?_ ?_
 exact zaj
 refine zaa ?_ ?_
 refine zbk ?_
 refine zaa ?_ ?_
 refine zbk ?_
 refine zaa ?_ ?_
 refine zbk ?_
 refine zaa ?_ ?_
 exact zaj
 exact zae
 refine zaa ?_ ?_
 exact zaj
 exact zae
 exact zae
 exact zae
 refine zaa ?_ ?_
 refine zbk ?_
 refine zaa ?_ ?_
 exact zaj
 exact zae
 refine zaa ?_ ?_
 refine zbk ?_
 refine zaa ?_ ?_
 exact zaj
 exact zae
 exact zae
end
end K62
namespace L3
open PySem PySem.Spec PyProof.Rows L2 LT
section
theorem ziP {i j:Int} (h0:0<j) (h1:j<2^100):zeT [.int i,.int j]=pure (.tup [.int (i / j),.int (i % j)]):=by
 unfold zeT
 simp only
 rw [qa4 ⟨h0,h1⟩]
theorem zfY {i j:Int} (h:(zbg i || zbg j || zgK i j)=true):zgl (.int i) (.int j)=pure (.int (i*j)):=by
 show (if (zbg i || zbg j || zgK i j)=true then _ else _)=_
 rw [qa4 h]
theorem zkQ {i j:Int} (h: -1000000000000000<i) (h':i<1000000000000000):zgl (.int i) (.int j)=pure (.int (i*j)):=zfY (by rw [zgg h h'];rfl)
theorem zjB {i j:Int} (h: -1000000000000000<j) (h':j<1000000000000000):zgl (.int i) (.int j)=pure (.int (i*j)):=zfY (by rw [zgg h h'];simp)
theorem zoD {x:Int} {n:Nat} (h:x.natAbs<2^n):Builtin.Int.intBits x<=n:=by
 unfold Builtin.Int.intBits
 split
 ·exact Nat.zero_le _
 ·rename_i c
  have h0:x.natAbs≠0:=fun z=>c (by simp;omega)
  exact (Nat.log2_lt h0).mpr h
theorem zhS {x:Int} {n:Nat} (h:Builtin.Int.intBits x<=n):x.natAbs<2^n:=by
 unfold Builtin.Int.intBits at h
 split at h
 ·rename_i c
  have:x=0:=by simpa using c
  subst this
  exact Nat.pow_pos (by decide)
 ·rename_i c
  have h0:x.natAbs≠0:=fun z=>c (by simp;omega)
  exact (Nat.log2_lt h0).mp h
theorem zmo {c k:Int} {n:Nat} (h:Builtin.Int.intBits c<=n) (k0:0<=k) (k1:k<24):Builtin.Int.intBits ((c+1)*40692+104729*k)<=n+22:=by
 refine zoD ?_
 have h1:=zhS h
 rw [Nat.pow_add]
 generalize 2^n=B at h1
 have:(2:Nat)^22=4194304:=rfl
 rw [this]
 omega
theorem zri:zrs (.int 10) (.int 20)=pure (.int 100000000000000000000):=by
 unfold zrs dII
 simp only
 rw [qa4 (by decide)]
 rfl
theorem zk5 {n:Nat}:zbo [.cel n]=(do let ds<-zam n;pure (.tup ds)):=rfl
end
section
noncomputable def pdO (o:List Int×Int):PyData:= .tuple [.tuple (o.1.map PyData.int),.int o.2]
theorem zhR: ∀ os:List (List Int×Int),pdL (os.map zbm)=some (os.map pdO)
 | []=>rfl
 | o::r=>by
  rw [qaM,pdL,zhR r]
  simp only [zbm,tI,pd,pdL,zbi,Option.map,pdO,qaM]
theorem zfU: ∀ os:List (List Int×Int),PyData.canLayAll0 (os.map pdO)=true
 | []=>rfl
 | o::r=>by simp [PyData.canLayAll0,PyData.canLay0,zaJ,zfU r,pdO]
theorem zmd (os:List (List Int×Int)):dEq (.lst (os.map zbm)) (.lst [])=pure (.bl os.isEmpty):=by
 have e1:pd (.lst (os.map zbm))=some (.list (os.map pdO)):=by unfold pd;rw [zhR];rfl
 have e2:pd (.lst [])=some (.list []):=rfl
 rw [zkJ e1 e2 (by unfold zfk;simp [PyData.canLay0,PyData.canLayAll0,zfU,PyData.depth,PyData.depthAll])]
 cases os<;>rfl
theorem zkZ (os:List (List Int×Int)):PyData.depthAll (os.map pdO)<=2:=by
 induction os with
 | nil=>simp [PyData.depthAll]
 | cons o r ih=>
  rw [qaM]
  simp only [PyData.depthAll,PyData.depth,zaU,pdO]
  omega
theorem zh4: ∀ os:List (List Int×Int),PyData.eqvAll (os.map pdO) (os.map pdO)=true
 | []=>rfl
 | o::r=>by
  rw [qaM]
  simp [PyData.eqvAll,PyData.eqv,pdO,zcs,zh4 r]
theorem zjY {x y:D} {a b:PyData} (e1:pd x=some a) (e2:pd y=some b) (h:zfk a b=true):dNe x y=pure (.bl (!PyData.eqv a b)):=by
 show zjX true x y=_
 unfold zjX
 rw [e1,e2]
 simp only [h,if_true]
theorem zg7 {α:Type} {g':α->D} {f:D->M (Option D)} {k:α->Option D}: ∀ {xs:List α},(∀ x∈xs,f (g' x)=pure (k x))->zbX f (xs.map g')=pure (xs.filterMap k)
 | [],_=>rfl
 | x::r,hf=>by
  rw [qaM,zbX,hf x qau,zg7 fun y hy=>hf y (qan _ hy)]
  simp only [pure_bind]
  cases e:k x<;>simp [qat,e]
theorem zaw {α:Type} {g':α->D} {fi:FA} {g:D->Sd->M Sd} {tc:FT} {te:FE} {src:List (Option Nat)} {sd:Sd} {xs:List α} {k:α->Option D} (hi:fi sd=pure (xs.map g')) (hl:xs.length<=1000) (hf: ∀ x∈xs,zaZ g tc te (zai src sd) (g' x)=pure (k x)):zan fi g tc te src sd=pure (.lst (xs.filterMap k)):=by
 unfold zan
 rw [hi]
 simp only [pure_bind]
 rw [zaP (by rw [qaH];exact hl)]
 simp only [pure_bind]
 rw [zg7 hf]
 simp only [pure_bind]
theorem zaz {α:Type} {p:α->Bool} {g:α->D}: ∀ xs:List α,xs.filterMap (fun x=>if p x=true then some (g x) else none)=(xs.filter p).map g
 | []=>rfl
 | x::r=>by
  rw [qat,List.filter_cons,zaz r]
  cases p x<;>simp
end
section
noncomputable def Rul (S:Nat->Nat->Bool) (b one:Nat):Bool:=S one b && (decide (b<one) || !S b one)
noncomputable def zjn (S:Nat->Nat->Bool) (n one:Nat):Option D:=match (List.range n).filter fun b=>Rul S b one with
 | []=>none
 | b::_=>some (.tup [.int (one:Int),.int (b:Int)])
noncomputable def zhP (S:Nat->Nat->Bool) (n:Nat):List D:=(List.range n).filterMap (zjn S n)
noncomputable def ziI (S:Nat->Nat->Bool) (n:Nat):D:= .lst ((List.range n).map fun i=> .lst ((List.range n).map fun j=> .bl (S i j)))
theorem zmy {S:Nat->Nat->Bool} {n i j:Nat} (hi:i<n) (hj:j<n):atI ((List.range n).map fun i=>D.lst ((List.range n).map fun j=> .bl (S i j))) (i:Int)=some (.lst ((List.range n).map fun j=> .bl (S i j)))/\atI ((List.range n).map fun j=>D.bl (S i j)) (j:Int)=some (.bl (S i j)):=
 ⟨zdl (by simp [hi]),zdl (by simp [hj])⟩
theorem ziF {α β:Type} (d:α) (f:α->β) (xs:List α):xs.map f=(List.range xs.length).map fun i=>f (xs.getD i d):=by
 refine List.ext_getElem (by simp) fun i h1 h2=> ?_
 simp at h1
 simp [List.getD,h1]
theorem zio {n:Nat} {h:Hh} {ds:List D} {P:D->Hh->Prop} (e:h[n]? = some (.lst ds)) (k:P (.lst ds) (h.set n .dead)):wp (zn2 (.cel n)) h P:=by
 refine ⟨.lst ds,h.set n .dead,?_,k⟩
 unfold zn2
 simp only
 rw [e]
theorem zd0 {h:Hh} {c c':C}:(h++[c]).set h.length c'=h++[c']:=by
 rw [List.set_append_right _ _ (qaV _)]
 simp
theorem zga {h:Hh} {n:Nat} {c:C} (e:h[n]? = some c):h.set n c=h:=by
 refine List.ext_getElem? fun j=> ?_
 by_cases hj:n=j
 ·subst hj
  rw [qai (qac.mp e).1,e]
 ·rw [qao hj]
theorem zdq (xs:List Int):dNe (.lst (xs.map D.int)) (.lst [])=pure (.bl (!xs.isEmpty)):=by
 have e1:pd (.lst (xs.map D.int))=some (.list (xs.map PyData.int)):=by unfold pd;rw [zbi];rfl
 have e2:pd (.lst [])=some (.list []):=rfl
 rw [zjY e1 e2 (by unfold zfk;simp [PyData.canLay0,PyData.canLayAll0,zaJ,PyData.depth,PyData.depthAll,zaU])]
 cases xs<;>rfl
theorem zn3 (xs ys:List Int):dNe (.lst (xs.map D.int)) (.lst (ys.map D.int))=pure (.bl (!(xs==ys))):=by
 have e1:pd (.lst (xs.map D.int))=some (.list (xs.map PyData.int)):=by unfold pd;rw [zbi];rfl
 have e2:pd (.lst (ys.map D.int))=some (.list (ys.map PyData.int)):=by unfold pd;rw [zbi];rfl
 rw [zjY e1 e2 (by unfold zfk;simp [PyData.canLay0,zaJ,PyData.depth,zaU])]
 simp only [PyData.eqv,zcs]
noncomputable def inB (xs ys:List Int):Bool:=xs.all fun x=>ys.any (· == x)
theorem zc9 {xs ys:List Int}:inB xs ys=true↔ ∀ x∈xs,x∈ys:=by
 unfold inB
 simp [List.all_eq_true]
theorem zfJ {xs ys:List Int}:(xs.filter fun x=> !ys.any (· == x)).isEmpty=inB xs ys:=by
 rw [Bool.eq_iff_iff,List.isEmpty_iff,List.filter_eq_nil_iff]
 unfold inB
 simp
theorem znf {xs ys:List Int} (hx:xs.Pairwise (· < ·)) (hy:ys.Pairwise (· < ·)) (h:inB xs ys=true):inB ys xs=(ys==xs):=by
 rw [Bool.eq_iff_iff,beq_iff_eq]
 constructor
 ·intro h2
  exact zmc hy hx fun k=>⟨fun z=>zc9.mp h2 k z,fun z=>zc9.mp h k z⟩
 ·rintro rfl
  exact zc9.mpr fun _ z=>z
end
section
theorem zmf {F0 F1:List D->M D}:zgT [F0,F1] (.int 0)=pure F0:=rfl
theorem zly {F0 F1:List D->M D}:zgT [F0,F1] (.int 1)=pure F1:=rfl
theorem zes (k:Int) (xs:List Int):zda (.int k) (.tup (xs.map D.int))=pure (.bl (!xs.any (· == k))):=by
 show zjp true (.int k) (.tup (xs.map D.int))=_
 unfold zjp
 simp only [pd]
 rw [zbi]
 have c:ziZ (.int k) (xs.map PyData.int)=true:=by
  unfold ziZ
  simp [PyData.canLay0,zaJ,PyData.depth,zaU]
 simp only [c,if_true,zed]
theorem zlU (xs:List Nat):dNe (.lst (xs.map fun (b:Nat)=> .int (b:Int))) (.lst [])=pure (.bl (!xs.isEmpty)):=by
 have:=zdq (xs.map fun (b:Nat)=>(b:Int))
 rw [qaT] at this
 rw [show (fun (b:Nat)=>D.int (b:Int))=D.int∘(fun (b:Nat)=>(b:Int)) from rfl,this]
 cases xs<;>rfl
end
section
theorem zhz {n:Nat} {tc:FT} {gb:FS} {sd:Sd}:zeg tc gb (n+1) sd=(do let b<-tc sd;if b=true then (do let o<-gb sd;match o with | .nx sd'=>zeg tc gb n sd' | .ct sd'=>zeg tc gb n sd' | .bk sd'=>pure (.nx sd') | .rt d=>pure (.rt d)) else pure (.nx sd)):=rfl
theorem zng {n:Nat}:zdC [.cel n]=(do let ds<-zam n;pure (.int ds.length)):=rfl
theorem zqO {n:Nat} {h:Hh} {ds:List D} {P:D->Hh->Prop} (e:h[n]? = some (.lst ds)) (k:P (.bl true) h):wp (zlk "list" (.cel n)) h P:=by
 have eb:isB "list" "list"=true:=by decide
 show wp (do let t<-(do let _<-zam n;pure "list");pure (.bl (isB "list" t)):M D) h P
 simp only [bind_assoc,pure_bind,zar,za4 e,zak,eb]
 exact k
end
section
theorem zko (k:Int) (xs:List Int):dIn (.int k) (.lst (xs.map D.int))=pure (.bl (xs.any (· == k))):=by
 show zjp false (.int k) (.lst (xs.map D.int))=_
 unfold zjp
 simp only [pd]
 rw [zbi]
 have c:ziZ (.int k) (xs.map PyData.int)=true:=by
  unfold ziZ
  simp [PyData.canLay0,zaJ,PyData.depth,zaU]
 simp only [c,if_true,zed]
 rfl
noncomputable def cI (xs:List Nat):List Int:=xs.map fun (j:Nat)=>(j:Int)
theorem zfA (xs:List Nat):(cI xs).length=xs.length:=qaH _
theorem zco (xs:List Nat):(cI xs).map D.int=xs.map fun (j:Nat)=> .int (j:Int):=by
 unfold cI
 rw [qaT]
 rfl
theorem zmL {xs:List Nat} {k:Nat}:(cI xs).any (· == (k:Int))=xs.any (· == k):=by
 unfold cI
 rw [List.any_map]
 refine congrArg (fun f=>xs.any f) (funext fun j=> ?_)
 show ((j:Int)==(k:Int))=(j==k)
 rw [Bool.eq_iff_iff,beq_iff_eq,beq_iff_eq]
 omega
theorem zfT {xs:List Nat} {k:Nat}:xs.any (· == k)=true↔k∈xs:=by
 rw [List.any_eq_true]
 constructor
 ·rintro ⟨x,hx,e⟩
  rw [beq_iff_eq] at e
  exact e▸hx
 ·intro h
  exact ⟨k,h,by simp⟩
theorem zd1 {n:Nat} (h:n<1000):zds (.int (n:Int))=pure (.lst ((cI (List.range n)).map D.int)):=by
 show (if 0<=(n:Int)/\(n:Int)<1000 then (pure (.lst (zeh 0 ((n:Int)).toNat)):M D) else M.bad)=_
 rw [qa4 ⟨by omega,by omega⟩,qaB,zbn]
 rfl
end
section
theorem zfS {α:Type} {xs:List α} {x:α}:atI (xs++[x]) (-1)=some x:=by
 have e:ixN (xs++[x]).length (-1)=some xs.length:=by
  unfold ixN
  rw [qa5 (by omega),qa4 (by rw [qav,List.length_singleton];omega),qav,List.length_singleton]
  congr 1
  omega
 unfold atI
 rw [e]
 simp
theorem zgb {xs:List Int} {j:Nat} (h:j<xs.length):atI (xs.map D.int) (j:Int)=some (.int (xs.getD j 0)):=zdl (by simp [List.getD,h])
theorem zd7 {α:Type} {xs:List α} {d:α}:(List.range xs.length).map (fun j=>xs.getD j d)=xs:=by
 refine List.ext_getElem (by simp) fun i h1 h2=> ?_
 simp [List.getD,h2]
theorem zfw {xs:List Int} {js:List Nat} (hx:xs.Nodup) (hj:js.Pairwise (· < ·)) (hb: ∀ j∈js,j<xs.length):(js.map fun j=>xs.getD j 0).Nodup:=by
 unfold List.Nodup
 rw [List.pairwise_map]
 refine List.Pairwise.imp_of_mem (fun {a b} ha hb' hlt e=> ?_) hj
 have h1:=hb a ha
 have h2:=hb b hb'
 simp only [List.getD,qaf h1,qaf h2,Option.getD_some] at e
 exact (List.pairwise_iff_getElem.mp hx a b h1 h2 hlt) e
end
section
def Kp (N:Nat) (h h':Hh):Prop:=N<=h'.length/\ ∀ k,k<N->h'[k]? = h[k]?
theorem Kp.gro {h h':Hh} (k:Kp h.length h h'):Gro h h':=by
 refine ⟨h'.drop h.length,List.ext_getElem? fun j=> ?_⟩
 by_cases hj:j<h.length
 ·rw [qad hj,k.2 j hj]
 ·rw [qaa (by omega),List.getElem?_drop]
  congr 1
  omega
theorem zlo {fi:FA} {g:D->Sd->M Sd} {tc:FT} {te:FE} {src:List (Option Nat)} {sd:Sd} {ds:List D} (e:zan fi g tc te src sd=pure (.lst ds)):zfu fi g tc te src sd=zbf ds:=by
 have e1:zan fi g tc te src sd=(do let ys<-(do let xs<-fi sd;fits xs.length;zbX (zaZ g tc te (zai src sd)) xs);pure (.lst ys)):=by
  unfold zan
  simp only [bind_assoc]
 have e2:zfu fi g tc te src sd=(do let ys<-(do let xs<-fi sd;fits xs.length;zbX (zaZ g tc te (zai src sd)) xs);zbf ys):=by
  unfold zfu
  simp only [bind_assoc]
 rw [e1] at e
 rw [e2]
 generalize (do let xs<-fi sd;fits xs.length;zbX (zaZ g tc te (zai src sd)) xs:M (List D))=X at e
 funext h
 have eh:=congrFun e h
 have b1:(X>>=fun ys=>(pure (.lst ys):M D)) h=match X h with | .ok ys h'=> .ok (.lst ys) h' | .exc c h'=> .exc c h' | .bad=> .bad:=by
  show M.bind X _ h=_
  unfold M.bind
  cases X h<;>rfl
 rw [b1] at eh
 show M.bind X _ h=_
 unfold M.bind
 cases hx:X h with
 | ok ys h'=>
  rw [hx] at eh
  cases eh
  rfl
 | _=>rw [hx] at eh;cases eh
noncomputable def zd6 (xs ys:List Int):List Int:=xs.filter fun x=> !ys.any (· == x)
theorem zg9 {xs:List Int} {J:List Nat} (hx:xs.Nodup) (hJ: ∀ j∈J,j<xs.length):((List.range xs.length).filter fun j=> !J.any (· == j)).map (fun j=>xs.getD j 0)=zd6 xs (J.map fun j=>xs.getD j 0):=by
 have e:xs=(List.range xs.length).map fun j=>xs.getD j 0:=zd7.symm
 have key: ∀ ys:List Int,zd6 xs ys=((List.range xs.length).filter fun j=> !ys.any (· == xs.getD j 0)).map fun j=>xs.getD j 0:=fun ys=>by
  unfold zd6
  conv=>lhs;rw [e]
  rw [List.filter_map]
  rfl
 rw [key]
 congr 1
 refine List.filter_congr fun j hj=> ?_
 have hj:=List.mem_range.mp hj
 congr 1
 rw [Bool.eq_iff_iff,zfT,List.any_eq_true]
 constructor
 ·intro h
  exact ⟨xs.getD j 0,qaU.mpr ⟨j,h,rfl⟩,by simp⟩
 ·rintro ⟨z,hz,ez⟩
  obtain ⟨k,hk,rfl⟩:=qaU.mp hz
  have hkl:=hJ k hk
  rw [beq_iff_eq] at ez
  simp only [List.getD,qaf hkl,qaf hj,Option.getD_some] at ez
  rcases Nat.lt_trichotomy k j with h | h | h
  ·exact absurd ez (List.pairwise_iff_getElem.mp hx k j hkl hj h)
  ·exact h▸hk
  ·exact absurd ez.symm (List.pairwise_iff_getElem.mp hx j k hj hkl h)
end
section
theorem zeb {h:Hh}: ∀ xs:List Int,zfo h (xs.map D.int)=some (xs.map PyData.int)
 | []=>by rw [List.map_nil,zfo];rfl
 | x::r=>by
  rw [qaM,zfo,zeb r,pdH]
  rfl
theorem zgZ {h:Hh}: ∀ os:List (List Int×Int),zfo h (os.map zbm)=some (os.map pdO)
 | []=>by rw [List.map_nil,zfo];rfl
 | o::r=>by
  rw [qaM,zfo,zgZ r]
  simp only [zbm,tI,pdH,zfo,zeb,Option.map,pdO,qaM]
noncomputable def prD (p:List Int×List Int):D:= .tup [tI p.1,tI p.2]
noncomputable def pdP (p:List Int×List Int):PyData:= .tuple [.tuple (p.1.map PyData.int),.tuple (p.2.map PyData.int)]
theorem zmV: ∀ ps:List (List Int×List Int),pdL (ps.map prD)=some (ps.map pdP)
 | []=>rfl
 | p::r=>by
  rw [qaM,pdL,zmV r]
  simp only [prD,tI,pd,pdL,zbi,Option.map,pdP,qaM]
theorem zh0 {h:Hh}: ∀ ps:List (List Int×List Int),zfo h (ps.map prD)=some (ps.map pdP)
 | []=>by rw [List.map_nil,zfo];rfl
 | p::r=>by
  rw [qaM,zfo,zh0 r]
  simp only [prD,tI,pdH,zfo,zeb,Option.map,pdP,qaM]
theorem zkF: ∀ ps:List (List Int×List Int),PyData.canLayAll0 (ps.map pdP)=true
 | []=>rfl
 | p::r=>by simp [PyData.canLayAll0,PyData.canLay0,zaJ,zkF r,pdP]
theorem znU (ps:List (List Int×List Int)):PyData.depthAll (ps.map pdP)<=2:=by
 induction ps with
 | nil=>simp [PyData.depthAll]
 | cons o r ih=>
  rw [qaM]
  simp only [PyData.depthAll,PyData.depth,zaU,pdP]
  omega
theorem zlc: ∀ ps:List (List Int×List Int),PyData.eqvAll (ps.map pdP) (ps.map pdP)=true
 | []=>rfl
 | p::r=>by
  rw [qaM]
  simp [PyData.eqvAll,PyData.eqv,zcs,zlc r,pdP]
theorem zof {h:Hh} {n:Nat} {ps:List (List Int×List Int)} {P:D->Hh->Prop} (e:h[n]? = some (.lst (ps.map prD))) (k:P (.bl false) h):wp (zmQ (.cel n) (.lst (ps.map prD))) h P:=by
 have a:pdH h (.cel n)=some (.list (ps.map pdP)):=by
  rw [pdH,e]
  show (pdL (ps.map prD)).map PyData.list=_
  rw [zmV]
  rfl
 have b:pdH h (.lst (ps.map prD))=some (.list (ps.map pdP)):=by
  rw [pdH,zh0]
  rfl
 have c:zfk (.list (ps.map pdP)) (.list (ps.map pdP))=true:=by
  have:=znU ps
  unfold zfk
  simp [PyData.canLay0,zkF,PyData.depth]
  omega
 refine ⟨.bl false,h,?_,k⟩
 unfold zmQ
 rw [a,b]
 simp only [c,if_true,PyData.eqv,zlc,Bool.not_true]
end
end L3
namespace K62
open PySem PySem.Spec PyProof.Rows L2 L3 LT
set_option hygiene false in
local macro_rules | `(tactic| ac_nf0)=> `(tactic| simp only [zb6,zde,zm3,zc6,zlX,zkL,zhD,zh6,zcN,zbp,zb3,zex,zsq,zhY,zbd,zbl,pure_bind,bind_assoc,zi8,zrR,zgt,zsu,List.set,zhf,zqA,zpX,zpq,zsf,zpL,zr1,zpm,zsL,zkx,zic,zfV,zgI,zoi,zcF,zoX,zfa,zsd,zod,zqm,zsm,ziQ,zpZ,zpW,zrW,zsJ,zsr,ziH,zgp,zjO,zhW,zjW,zmD,zqN,zar,zak,zgR,qaE,qaJ,qaH,Nat.zero_add,Nat.reduceAdd,Nat.reduceLeDiff,zaP,zbm,tI,zjx,znL,zln,zp1,zlV,zi7,zl9,zsh,zoz,znD,zo6,zse,zrv,zrO,zpi,zqL,zqF,zr8,zrG,zs4,if_true,Bool.not_true,Bool.not_false,qax,if_false,qav,List.cons_append,List.nil_append,zrd,zpp])
variable {m:Int} {os:List (List Int×Int)} {i:Nat}
theorem zbD {h:Hh} {b:Nat} {m:Int} {P:D->Hh->Prop} (q:Bx b h) (h0:0<m) (h1:m<2^100) (k: ∀ t h',0<=t->t<m->Ext b h h'->P (.int t) h'):wp (F_28 [.cel b,.int m]) h P:=by
 obtain ⟨z,e⟩:=id q
 rw [d_28]
 have e2:ixN ([D.int z]:List D).length 0=some 0:=rfl
 simp only [G_28,zb6,zm3,zcN,zbp,zb3,zex,zbd,zbl,pure_bind,bind_assoc,zhY,zlY,zar,za4 e,zqm,ziQ,zak,ziP h0 h1,zjO,zhW,zgp,zjW,zi8,List.set,zns,zpn,e2,zdc,zc6,zgt]
 exact k _ _ (Int.emod_nonneg _ (by omega)) (Int.emod_lt_of_pos _ h0) q.set
theorem znZ {ns:List Int} {k:Int} (h0:0<=k) (h1:k<6) (hb: ∀ i∈ns,Builtin.Int.intBits i<=2^20): ∃ c:Int,F_25 [.scr (ns.map D.int),.int k]=pure (.int c)/\Builtin.Int.intBits c<=2^20:=by
 rw [d_25]
 simp only [G_25,zb6,zlX,zhf,zbl,zbd,pure_bind,bind_assoc,zcN,zbp,zb3,znb,zrg,zgI]
 by_cases hk:k<((ns.map D.int).length:Int)
 ·have hk':k.toNat<ns.length:=by simp at hk;omega
  have ea:atI (ns.map D.int) k=some (.int ns[k.toNat]):=by
   have:=zdl (xs:=ns.map D.int) (j:=k.toNat) (v:= .int ns[k.toNat]) (by simp [hk'])
   rw [<- this]
   congr 1
   omega
  simp only [hk,decide_true,if_true,zc6,zex,zbd,zbl,pure_bind,zsD,ea,ziQ,zrR,zgt]
  exact ⟨_,rfl,hb _ (List.getElem_mem hk')⟩
 ·simp only [hk,decide_false,qax,if_false,zh6,pure_bind,zi8,zc6,zex,zhY,zbl,zbd,zqT (show (-1000000000000000:Int)<6151 by decide) (show (6151:Int)<1000000000000000 by decide),zfa,zgt]
  exact ⟨_,rfl,qaS (intBits_le_64 (by omega) (by omega)) (by decide)⟩
theorem zq1 {c k:Int} (hc:Builtin.Int.intBits c<=2^20) (k0:0<=k) (k1:k<24): ∃ r:Int,F_26 [.int c,.int k]=pure (.int r):=by
 rw [d_26]
 have hm:zgK ((c+1)*40692+104729*k) ((c+1)*40692+104729*k)=true:=by
  have:=zmo hc k0 k1
  unfold zgK
  rw [qaD]
  have e1:(2:Nat)^20=1048576:=rfl
  have e2:(2:Nat)^26=67108864:=rfl
  rw [e1] at this
  rw [e2]
  omega
 have n0:=Int.emod_nonneg (((c+1)*40692+104729*k)*((c+1)*40692+104729*k)) (show (2147483399:Int)≠0 by decide)
 have n1:=Int.emod_lt_of_pos (((c+1)*40692+104729*k)*((c+1)*40692+104729*k)) (show (0:Int)<2147483399 by decide)
 simp only [G_26,zb6,zde,zex,zbd,zbl,zhY,zfa,pure_bind,bind_assoc,zjB (show (-1000000000000000:Int)<40692 by decide) (show (40692:Int)<1000000000000000 by decide),zkQ (show (-1000000000000000:Int)<104729 by decide) (show (104729:Int)<1000000000000000 by decide),
   zi8,List.set,zfY (show (zbg ((c+1)*40692+104729*k) || zbg ((c+1)*40692+104729*k) || zgK ((c+1)*40692+104729*k) ((c+1)*40692+104729*k))=true by rw [hm];simp),zhF (show (0:Int)<2147483399 by decide),zc6]
 generalize hN:((c+1)*40692+104729*k)*((c+1)*40692+104729*k) % 2147483399=N at n0 n1
 simp only [zkQ (i:=N+k) (show -1000000000000000<N+k by omega) (show N+k<1000000000000000 by omega),pure_bind,zhF (show (0:Int)<2147483563 by decide),zgt]
 exact ⟨_,rfl⟩
theorem zia {s0 s1:Option D} {c:Int} (hc:Builtin.Int.intBits c<=2^20): ∀ (ds:List D) (n:Int) (x4:Option D),(∀ d∈ds, ∃ j:Int,d= .int j/\0<=j/\j<24)->
  ∃ (n':Int) (x4':Option D),zbu (fun x sd=>do let sd1<-zaC 4 x sd;zdb sd1) ds [s0,s1,some (.int c),some (.int n),x4]=pure (.nx [s0,s1,some (.int c),some (.int n'),x4'])
 | [],n,x4,_=>⟨n,x4,rfl⟩
 | d::r,n,x4,hd=>by
  obtain ⟨j,rfl,j0,j1⟩:=hd _ qau
  obtain ⟨mx,em⟩:=zq1 hc j0 j1
  obtain ⟨n',x4',ih⟩:=zia hc r (n*2147483647+mx) (some (.int j)) (fun y hy=>hd y (qan _ hy))
  refine ⟨n',x4',?_⟩
  rw [zcA, <-ih]
  simp only [zdb,zgp,List.set,pure_bind,bind_assoc,zde,zex,zbl,zbd,zhY,zjB (i:=n) (show (-1000000000000000:Int)<2147483647 by decide) (show (2147483647:Int)<1000000000000000 by decide),zcN,zbp,zb3,zcF,em,zfa]
theorem zrh {h:Hh} {ns:List Int} {k:Int} {P:D->Hh->Prop} (hb: ∀ i∈ns,Builtin.Int.intBits i<=2^20) (k0:0<=k) (k6:k<6) (q: ∀ z:Int,P (.cel h.length) (h++[.lst [.int z]])):wp (F_27 [.scr (ns.map D.int),.int k]) h P:=by
 obtain ⟨c,ec,hc⟩:=znZ k0 k6 hb
 rw [d_27]
 simp only [G_27,zb6,zde,zcN,zbp,zb3,zbd,zbl,pure_bind,bind_assoc,zcF,ec,zi8,List.set,zlX,zhf,zex,zhY,zhF (show (0:Int)<2 by decide),zmN,zgI]
 by_cases hc2:(c % 2==0)=true
 ·simp only [hc2,if_true,zc6,zfV,zbp,zb3,zex,zbl,zbd,zhY,pure_bind,bind_assoc,zlt (show (0:Int)<2 by decide) (show (2:Int)<2^64 by decide),qaE,qaJ,zaP (show 0+1<=1000 by decide),zar,zgR,zak,zrR,zgt]
  exact q _
 ·obtain ⟨n',x4',el⟩:=zia (s0:=some (.scr (ns.map D.int))) (s1:=some (.int k)) hc (zeh 0 24) 0 none (fun d hd=>by
    obtain ⟨i,e,i0,i1⟩:=zk1 hd
    exact ⟨i,e,i0,by omega⟩)
  have er:zj8 [.int 24]=pure (zeh 0 24):=zby (by decide) (by decide)
  simp only [hc2,if_false,zh6,pure_bind,zi8,zb6,zde,zhY,List.set,zbl,zbd,zkL,ziH,zbp,zb3,er,bind_assoc,el,zc6,zfV,qaE,qaJ,zaP (show 0+1<=1000 by decide),zar,zgR,zak,zgt,qax]
  exact q _
theorem zdF (xs:List Int):dEq (.lst (xs.map D.int)) (.lst [])=pure (.bl xs.isEmpty):=by
 have:=znE xs []
 rw [List.map_nil] at this
 rw [this]
 cases xs<;>rfl
def Go (m:Int) (o:List Int×Int):Prop:=o.1.Pairwise (· < ·)/\(∀ x∈o.1,0<=x/\x<m)/\o.1≠[]/\0<o.2
theorem zji {b:Nat} {full:Int} (i:Int) {h:Hh} {Q:Option D->Hh->Prop} (q:Bx b h) (k: ∀ o h',Ext b h h'->(o=none\/o=some (.int i))->Q o h'):
  wp (zaZ (zaC 0) zcK zcJ [none,some (.cel b),some (.int full)] (.int i)) h Q:=by
 simp only [zaZ,zgp,List.set,pure_bind,zcK,zhf,zcN,zbp,zb3,zbl,zbd,zhY,bind_assoc,zcF,zar]
 refine zbD q (by decide) (by decide) fun t h2 t0 t1 x2=> ?_
 simp only [zsR,zak,zgI]
 rw [zke]
 split
 ·simp only [zcJ,zbd,pure_bind,zak]
  exact k _ _ x2 (.inr rfl)
 ·rw [zak]
  exact k _ _ x2 (.inl rfl)
theorem zfz {b n:Nat} {m kind full:Int} {s1 s2:Option D} {N:Nat} (hN:N<=12) (hnb:n≠b) (m0:1<=m) (m1:m<=10) (k0:0<kind) (k1:kind<2^100): ∀ (ds:List D) {h:Hh} {x7 x8:Option D} {os:List (List Int×Int)} {P:Out->Hh->Prop},Bx b h->h[n]? = some (.lst (os.map zbm))->(∀ o∈os,Go m o)->os.length+ds.length<=N->
  (∀ (x7' x8':Option D) (os':List (List Int×Int)) (h':Hh),Bx b h'->h'[n]? = some (.lst (os'.map zbm))->(∀ o∈os',Go m o)->os'.length<=N->P (.nx [some (.cel b),s1,s2,some (.int m),some (.int kind),some (.int full),some (.cel n),x7',x8']) h')->
  wp (zbu (fun x sd=>do let sd1<-zaC 7 x sd;zbw sd1) ds [some (.cel b),s1,s2,some (.int m),some (.int kind),some (.int full),some (.cel n),x7,x8]) h P
 | [],h,x7,x8,os,P,q,e,ho,hl,k=>by
  rw [zcm,zak]
  exact k _ _ os h q e ho (by simpa using hl)
 | d::r,h,x7,x8,os,P,q,e,ho,hl,k=>by
  have ih: ∀ {h:Hh} {x7 x8:Option D} {os:List (List Int×Int)},Bx b h->h[n]? = some (.lst (os.map zbm))->(∀ o∈os,Go m o)->os.length+r.length<=N->
   wp (zbu (fun x sd=>do let sd1<-zaC 7 x sd;zbw sd1) r [some (.cel b),s1,s2,some (.int m),some (.int kind),some (.int full),some (.cel n),x7,x8]) h P:=fun q e ho hl=>zfz hN hnb m0 m1 k0 k1 r q e ho hl k
  rw [zcA]
  generalize zbu (fun x sd=>do let sd1<-zaC 7 x sd;zbw sd1) r=zbS at ih ⊢
  have eb:zai [none,some 0,some 5] [some (.cel b),s1,s2,some (.int m),some (.int kind),some (.int full),some (.cel n),some d,x8]=[none,some (D.cel b),some (.int full)]:=rfl
  simp only [zgp,List.set,pure_bind,zbw,zb6,zde,zar]
  unfold zan
  simp only [ziH,zbp,zb3,zbl,zbd,pure_bind,zby (show 0<=m by omega) (show m<1000 by omega),zar,zjz,zaP (show m.toNat<=1000 by omega),zak,eb]
  rw [zbn]
  refine zld (fun i {h Q} q k=>zji i q k) _ q fun ys h2 x2 hys=> ?_
  have hyu:=(zdf m.toNat).sublist hys
  have hyb: ∀ x∈ys,0<=x/\x<m:=fun x hx=>by have:=zeQ x (hys.subset hx);omega
  have fin: ∀ (zs:List Int) (h3:Hh),(zs.Pairwise (· < ·)/\(∀ x∈zs,0<=x/\x<m)/\zs≠[])->Ext b h h3->wp ((za5 (zaf 6) (zcV (zad (zaF zbo (zad (zaf 8) zal)) (zad (cOp ze9 (cK (.int 1)) (zaF (zax 2 F_28) (zad (zaf 0) (zad (zaf 4) zal)))) zal)))) [some (.cel b),s1,s2,some (.int m),some (.int kind),some (.int full),some (.cel n),some d,some (.lst (zs.map D.int))]) h3
    fun _ h4=>wp (zbS [some (.cel b),s1,s2,some (.int m),some (.int kind),some (.int full),some (.cel n),some d,some (.lst (zs.map D.int))]) h4 P:=fun zs h3 hz x3=>by
   have e3:=x3.2 n _ hnb e
   simp only [za5,zb2,zbl,zbd,pure_bind,bind_assoc,zar,za4 e3,zkx,zbp,zb3,zcN,zmD,zex,zhY,zcF,zak]
   refine zbD x3.1 k0 k1 fun t h4 t0 t1 x4=> ?_
   have e4:=x4.2 n _ hnb e3
   simp only [zfa,pure_bind,zak,zar,qaE,qaJ,zaP (show 0+1+1<=1000 by decide),zba,za4 e4,qaH,zaP (show os.length+1<=1000 by simp at hl;omega),zdc]
   have hlt:n<h4.length:=(qac.mp e4).1
   refine ih (os:=os++[(zs,1+t)]) ?_ (by rw [qai hlt];simp [zbm,tI]) ?_ ?_
   ·obtain ⟨y,ey⟩:=x4.1
    exact ⟨y,by rw [qao hnb];exact ey⟩
   ·intro o hmem
    rcases qaK.mp hmem with w | w
    ·exact ho o w
    ·simp at w
     subst w
     exact ⟨hz.1,hz.2.1,hz.2.2,by show (0:Int)<1+t;omega⟩
   ·simp at hl ⊢
    omega
  simp only [zak,zi8,List.set,zb6,zlX,zhf,zbl,zbd,pure_bind,zic,zb3,qaJ,zaP (show 0<=1000 by decide),zdF,zgI,bind_assoc,zar]
  rw [zke]
  split
  ·simp only [zde,zic,zbp,zb3,zcN,zbl,zbd,pure_bind,bind_assoc,zcF,zar]
   refine zbD x2.1 (by omega) (by omega) fun t h3 t0 t1 x3=> ?_
   simp only [zak,pure_bind,zar,qaE,qaJ,zaP (show 0+1<=1000 by decide),List.set,zi8,zhD]
   exact zeY (fin [t] h3 ⟨by simp,by simp;omega,by simp⟩ (x2.trans x3)) fun _ _ z=>z
  ·rename_i hne
   simp only [zh6,zak,zi8,zhD,zar]
   exact zeY (fin ys h2 ⟨hyu,hyb,fun z=>hne (by rw [z];rfl)⟩ x2) fun _ _ z=>z
theorem zlJ {h:Hh} {b:Nat} {mt mo:Int} {P:D->Hh->Prop} (q:Bx b h) (t0:1<=mt) (t1:mt<=10) (o0:0<=mo) (o1:mo<=12) (k: ∀ (m:Int) (os:List (List Int×Int)) h',Bx b h'->1<=m->m<=mt->(os.length:Int)<=mo->(∀ o∈os,Go m o)->P (zaN m os) h'):wp (F_29 [.cel b,.int mt,.int mo]) h P:=by
 rw [d_29]
 simp only [G_29,zb6,zde,zex,zhY,zcN,zbp,zb3,zbd,zbl,pure_bind,bind_assoc,zcF,zar]
 refine zbD q (by omega) (by omega) fun t h2 t0' t1' x2=> ?_
 simp only [zfa,pure_bind,zak,zi8,List.set,zb6,zde,zex,zic,zbp,zb3,zhY,zri,bind_assoc,zar,qaE,qaJ,zaP (show 0+1+1+1+1<=1000 by decide),zcN,zbd,zbl,zcF]
 refine zbD x2.1 (by decide) (by decide) fun f h3 f0 f1 x3=> ?_
 obtain ⟨kind,ef,g0,g1⟩: ∃ kind:Int,atI [D.int 1,.int 3,.int 20,.int 100000000000000000000] f=some (.int kind)/\0<kind/\kind<2^100:=by
  have:f=0\/f=1\/f=2\/f=3:=by omega
  rcases this with rfl | rfl | rfl | rfl
  ·exact ⟨1,rfl,by decide,by decide⟩
  ·exact ⟨3,rfl,by decide,by decide⟩
  ·exact ⟨20,rfl,by decide,by decide⟩
  ·exact ⟨100000000000000000000,rfl,by decide,by decide⟩
 simp only [zod,ef,ziQ,zak,zi8,List.set,zb6,zde,zcN,zbp,zb3,zbd,zhY,pure_bind,bind_assoc,zcF,zar]
 refine zbD x3.1 (by decide) (by decide) fun full h4 u0 u1 x4=> ?_
 simp only [zak,zi8,List.set,zb6,zde,zfV,zb3,pure_bind,qaJ,zaP (show 0<=1000 by decide),zar,zgR,zkL,ziH,zbp,zcN,zex,zbl,zbd,zhY,zfa,bind_assoc,zcF]
 have x5:=x4.1.push (c:= .lst [])
 have hnb:h4.length≠b:=fun z=>by
  obtain ⟨y,ey⟩:=x4.1
  have:=(qac.mp ey).1
  omega
 refine zbD x5.1 (by omega) (by omega) fun turns h6 v0 v1 x6=> ?_
 have e6:h6[h4.length]? = some (.lst []):=x6.2 _ _ hnb (by simp)
 simp only [zak,pure_bind,zby v0 (show turns<1000 by omega),zar]
 refine zfz (N:=mo.toNat) (by omega) hnb (by omega) (by omega) g0 g1 _ x6.1 (os:=[]) e6 (fun o ho=>by cases ho) (by rw [zjz];simp;omega) fun x7 x8 os h7 q7 e7 ho hl=> ?_
 simp only [zi8,zc6,zkx,zbp,zb3,zbl,zbd,pure_bind,bind_assoc,zcN,zk5,zar,za4 e7,zak,qaE,qaJ,zaP (show 0+1+1<=1000 by decide),zgt]
 exact k (1+t) os h7 q7 (by omega) (by omega) (by omega) ho
theorem zit {n:Nat} {s0:Option D}: ∀ (os:List (List Int×Int)) {h:Hh} {xs:List Int} {x2:Option D} {P:Out->Hh->Prop},h[n]? = some (.lst (xs.map D.int))->xs.length+(os.flatMap (·.1)).length<=1000->
  (∀ x2' h',(∀ k,k≠n->h'[k]? = h[k]?)->h'.length=h.length->h'[n]? = some (.lst ((xs++os.flatMap (·.1)).map D.int))->P (.nx [s0,some (.cel n),x2']) h')->
  wp (zbu (fun x sd=>do let sd1<-zaC 2 x sd;za9 sd1) (os.map zbm) [s0,some (.cel n),x2]) h P
 | [],h,xs,x2,P,e,_,k=>by
  rw [List.map_nil,zcm,zak]
  exact k x2 h (fun _ _=>rfl) rfl (by simpa using e)
 | o::os,h,xs,x2,P,e,hl,k=>by
  have hln:=(qac.mp e).1
  rw [List.flatMap_cons,qav] at hl
  have ih:=fun (x2':Option D)=>zit (s0:=s0) (n:=n) os (h:=h.set n (.lst ((xs++o.1).map D.int))) (xs:=xs++o.1) (x2:=x2') (P:=P) (qai hln) (by rw [qav];omega) fun x2'' h' h1 h2 h3=>k x2'' h' (fun j hj=>(h1 j hj).trans (qao (Ne.symm hj))) (h2.trans (qaI ..)) (by rw [h3,List.flatMap_cons,List.append_assoc])
  rw [qaM,zcA]
  generalize zbu (fun x sd=>do let sd1<-zaC 2 x sd;za9 sd1) (os.map zbm)=zbS at ih ⊢
  have f:=zaP (show (xs.map D.int).length+(o.1.map D.int).length<=1000 by rw [qaH,qaH];omega)
  simp only [qaH] at f
  simp only [za9]
  ac_nf0
  simp only [zar,za4 e,zak,qaH,f,zdc, <-List.map_append]
  exact ih _
theorem zpJ {d:D} {os:List (List Int×Int)} {m:Int} (hd:zeO d=pure (os.map zbm)) (m0:0<=m) (m1:m<=60) (hl:(os.flatMap (·.1)).length<=1000) (b: ∀ o∈os, ∀ x∈o.1,0<=x/\x<m):Ev (F_4 [d]) (tI (zhl (os.flatMap (·.1)))):=by
 refine .of_wp fun h=> ?_
 rw [d_4]
 simp only [G_4]
 ac_nf0
 simp only [hd,zak]
 refine zit os (xs:=[]) (by simp) (by simpa using hl) fun x2 h' h1 h2 h3=> ?_
 ac_nf0
 have bb: ∀ x∈os.flatMap (·.1),0<=x/\x<m:=fun x hx=>by
  obtain ⟨o,ho,hx⟩:=List.mem_flatMap.mp hx
  exact b o ho x hx
 refine zgz (by simpa using h3) (zhp m0 m1 bb) (by omega) ?_
 ac_nf0
 refine ⟨trivial,⟨[.lst ((os.flatMap (·.1)).map D.int)],List.ext_getElem? fun j=> ?_⟩⟩
 by_cases hj:j=h.length
 ·subst hj
  rw [h3]
  simp
 ·rw [h1 j hj]
  by_cases hlt:j<h.length
  ·rw [qad hlt,qad hlt]
  ·rw [List.getElem?_eq_none (by simp;omega),List.getElem?_eq_none (by simp;omega)]
theorem zmx {os:List (List Int×Int)} {n:Nat} (h: ∀ o∈os,o.1.length<=n):(os.flatMap (·.1)).length<=os.length*n:=by
 induction os with
 | nil=>simp
 | cons o r ih=>
  rw [List.flatMap_cons,qav,qaE,Nat.succ_mul]
  have a1:=h o qau
  have a2:=ih fun x hx=>h x (qan _ hx)
  omega
theorem zqH (s:Stk m os) {d:D} {os':List (List Int×Int)} (hd:zeO d=pure (os'.map zbm)) (hl:os'.length<=12) (hs: ∀ o∈os',o∈os):Ev (F_5 [zaN m os,d]) (.bl (((zhl (os'.flatMap (·.1))).length:Int)==m)):=by
 have tg:=zpJ hd (m:=m) (by have:=s.m0;omega) (by have:=s.m1;omega) (by have:=zmx (os:=os') (n:=10) fun o ho=>s.olen o (hs o ho);omega) fun o ho=>s.bd o (hs o ho)
 refine .of_wp fun h=> ?_
 rw [d_5]
 simp only [G_5,zaN]
 ac_nf0
 refine tg.wp fun h' g=> ?_
 ac_nf0
 rw [zmN]
 ac_nf0
 exact ⟨trivial,g⟩
noncomputable def zhk (t:Int) (o:List Int×Int):Bool:=o.1.any (· == t)
noncomputable def zbx (m:Int) (os:List (List Int×Int)):List Int:=((List.range m.toNat).map fun (k:Nat)=>(k:Int)).filter fun t=>(os.filter (zhk t)).isEmpty
noncomputable def wI (os:List (List Int×Int)) (t:Int):List Int:=((List.range os.length).filter fun j=>zhk t (os.getD j ([],0))).map fun (j:Nat)=>(j:Int)
theorem zin {m:Int} {os:List (List Int×Int)} (m0:1<=m) (m1:m<=10) (hl:os.length<=12) (h: ∀ o∈os,Go m o):Stk m os:=
 ⟨m0,m1,hl,fun o ho=>(h o ho).1,fun o ho=>(h o ho).2.1,fun o ho=>(h o ho).2.2.1,fun o ho=>(h o ho).2.2.2⟩
theorem zop {fi:FA} {src:List (Option Nat)} {sd:Sd} {t:Int} (hi:fi sd=pure (os.map zbm)) (hl:os.length<=1000) (eb:zai src sd=[none,some (.int t)]):zan fi (zaC 0) zca zcb src sd=pure (.lst ((os.filter (zhk t)).map zbm)):=by
 rw [<- zaz]
 refine zaw hi hl fun o ho=> ?_
 rw [eb]
 simp only [zaZ,zca,zcb]
 ac_nf0
 rw [zef]
 ac_nf0
 unfold zhk
 split<;>rfl
theorem zky {fi:FA} {tc:FT} {src:List (Option Nat)} {sd:Sd} {x:Option D} (hi:fi sd=pure (zeh 0 m.toNat)) (m1:m<=1000) (eb:zai src sd=[none,x]) (hc: ∀ t:Int,tc [some (.int t),x]=pure ((os.filter (zhk t)).isEmpty)):zan fi (zaC 0) tc (zaf 0) src sd=pure (.lst ((zbx m os).map D.int)):=by
 unfold zbx
 rw [<- zaz]
 refine zaw (by rw [hi,zbn]) (by simp;omega) fun t ht=> ?_
 rw [eb]
 simp only [zaZ]
 ac_nf0
 rw [hc]
 ac_nf0
 split<;>rfl
theorem zli (s:Stk m os):(zbx m os).isEmpty=(((zhl (os.flatMap (·.1))).length:Int)==m):=by
 have m0:=s.m0
 rw [<- znz (by omega) (zhv _) fun x hx=>by
   obtain ⟨o,ho,hx⟩:=List.mem_flatMap.mp (zeI.mp hx)
   exact s.bd o ho x hx]
 rw [Bool.eq_iff_iff,beq_iff_eq,List.isEmpty_iff]
 unfold zbx
 rw [List.filter_eq_nil_iff]
 constructor
 ·intro h
  refine zmc (zhv _) (zdf _) fun k=> ?_
  rw [zeI]
  constructor
  ·intro hk
   obtain ⟨o,ho,hx⟩:=List.mem_flatMap.mp hk
   have:=s.bd o ho k hx
   exact qaU.mpr ⟨k.toNat,List.mem_range.mpr (by omega),by omega⟩
  ·intro hk
   have:=h k hk
   rw [List.isEmpty_iff] at this
   obtain ⟨o,ho⟩:=List.exists_mem_of_ne_nil _ this
   obtain ⟨h1,h2⟩:=List.mem_filter.mp ho
   exact List.mem_flatMap.mpr ⟨o,h1,by simpa [zhk] using h2⟩
 ·intro e t ht
  rw [<- e,zeI] at ht
  obtain ⟨o,ho,hx⟩:=List.mem_flatMap.mp ht
  rw [List.isEmpty_iff]
  intro z
  have:o∈os.filter (zhk t):=List.mem_filter.mpr ⟨ho,by simpa [zhk] using hx⟩
  rw [z] at this
  cases this
theorem zis:dIx (zaN m os) (.int 1)=pure (.tup (os.map zbm)):=rfl
theorem znG:dIx (zaN m os) (.int 0)=pure (.int m):=rfl
theorem zn8 (s:Stk m os):Ev (F_2 [zaN m os]) (.bl (zbx m os).isEmpty):=by
 rw [zli s]
 refine .of_wp fun h=> ?_
 rw [d_2]
 simp only [G_2]
 ac_nf0
 rw [zis]
 ac_nf0
 refine (zqH s (d:= .tup (os.map zbm)) rfl s.len fun o ho=>ho).wp fun h' g=> ?_
 ac_nf0
 exact ⟨trivial,g⟩
theorem zjV (s:Stk m os) (hf:(zbx m os).isEmpty=true):Ev (F_3 [zaN m os]) .non:=by
 refine .of_wp fun h=> ?_
 rw [d_3]
 simp only [G_3]
 ac_nf0
 refine (zn8 s).wp fun h' g=> ?_
 rw [hf]
 ac_nf0
 exact ⟨trivial,g⟩
theorem zgH {fi:FA} {src:List (Option Nat)} {sd:Sd} {t:Int} (hi:fi sd=pure (zhd (os.map zbm))) (hl:os.length<=1000) (eb:zai src sd=[none,none,some (.int t)]):zan fi (zbQ 2 (zay (zaC 0) (zay (zaC 1) zbO))) zbF zbI src sd=pure (.lst ((wI os t).map D.int)):=by
 unfold wI
 rw [qaT, <-zaz]
 refine zaw (g':=fun (i:Nat)=> .tup [.int i,(os.map zbm).getD i .non]) (by rw [hi];unfold zhd;rw [qaH]) (by simpa using hl) fun i hi'=> ?_
 have hi2:i<os.length:=List.mem_range.mp hi'
 have eo:(os.map zbm).getD i .non=zbm (os.getD i ([],0)):=by simp [List.getD,hi2]
 rw [eb]
 simp only [zaZ,zbF,zbI,eo]
 ac_nf0
 rw [zef]
 ac_nf0
 unfold zhk
 split<;>rfl
theorem zkj (s:Stk m os) {t:Int}:F_6 [zaN m os,.int t]=pure (tI (wI os t)):=by
 have ol:=s.len
 have ec:zan (zqh (cOp dIx (zaf 0) (cK (.int 1)))) (zbQ 2 (zay (zaC 0) (zay (zaC 1) zbO))) zbF zbI [none,none,some 1] [some (zaN m os),some (.int t)]=pure (.lst ((wI os t).map D.int)):=zgH rfl (by omega) rfl
 rw [d_6]
 simp only [G_6]
 ac_nf0
 rw [ec]
 ac_nf0
theorem zlA (s:Stk m os) {a:Nat} {p:Int}:(zbx m (os.take a++[(zbx m os,p)]++os.drop a)).isEmpty=true:=by
 rw [List.isEmpty_iff]
 unfold zbx
 rw [List.filter_eq_nil_iff]
 intro t ht
 rw [List.isEmpty_iff]
 intro z
 by_cases c:(os.filter (zhk t)).isEmpty=true
 ·have h1:t∈zbx m os:=List.mem_filter.mpr ⟨ht,c⟩
  have h2:(zbx m os,p)∈(os.take a++[(zbx m os,p)]++os.drop a).filter (zhk t):=List.mem_filter.mpr ⟨by simp,by simpa [zhk] using h1⟩
  unfold zbx at h2
  rw [z] at h2
  cases h2
 ·rw [List.isEmpty_iff] at c
  obtain ⟨o,ho⟩:=List.exists_mem_of_ne_nil _ c
  obtain ⟨h1,h2⟩:=List.mem_filter.mp ho
  have h3:o∈os.take a++os.drop a:=by rw [List.take_append_drop];exact h1
  have h4:o∈(os.take a++[(zbx m os,p)]++os.drop a).filter (zhk t):=List.mem_filter.mpr ⟨by
    rcases qaK.mp h3 with w | w
    · simp [w]
    · simp [w],h2⟩
  unfold zbx at h4
  rw [z] at h4
  cases h4
theorem zjQ {h:Hh} {b:Nat} {mt mo:Int} {P:D->Hh->Prop} (q:Bx b h) (t0:1<=mt) (t1:mt<=10) (o0:1<=mo) (o1:mo<=12) (k: ∀ (m:Int) (os:List (List Int×Int)) h',Bx b h'->Stk m os->(zbx m os).isEmpty=true->(os.length:Int)<=mo->m<=mt->P (zaN m os) h'):wp (F_30 [.cel b,.int mt,.int mo]) h P:=by
 rw [d_30]
 simp only [G_30]
 ac_nf0
 refine zlJ q t0 t1 (by omega) (by omega) fun m os h2 q2 m0 m1 ol ho=> ?_
 have s:=zin m0 (by omega) (by omega) ho
 have ec:zan (zey (zad (zaf 3) zal)) (zaC 0) zcY zd4 [none,some 4] [some (.cel b),some (.int mt),some (.int mo),some (.int m),some (.tup (os.map zbm)),none,none]=pure (.lst ((zbx m os).map D.int)):=by
  refine zky (x:=some (.tup (os.map zbm))) ?_ (by omega) rfl fun t=> ?_
  ·ac_nf0
   exact zby (by omega) (by omega)
  ·have eo:zan (iSq (zaf 1)) (zaC 0) zca zcb [none,some 0] [some (.int t),some (.tup (os.map zbm))]=pure (.lst ((os.filter (zhk t)).map zbm)):=zop rfl (by omega) rfl
   simp only [zcY]
   ac_nf0
   rw [eo]
   ac_nf0
   rw [zmd]
   ac_nf0
 simp only [zaN]
 ac_nf0
 rw [ec]
 ac_nf0
 refine zbD q2 (by omega) (by omega) fun a h3 a0 a1 x3=> ?_
 have en:=zmh (zbx m os)
 unfold tI at en
 ac_nf0
 rw [en]
 ac_nf0
 cases hf:(zbx m os).isEmpty with
 | true=>
  ac_nf0
  exact k m os h3 x3.1 s hf (by omega) m1
 | false=>
  ac_nf0
  refine zbD x3.1 (by decide) (by decide) fun t h4 u0 u1 x4=> ?_
  have f1:=zaP (show (List.take a.toNat (os.map zbm)).length+1<=1000 by simp;omega)
  have f2:=zaP (show (List.take a.toNat (os.map zbm)).length+1+(List.drop a.toNat (os.map zbm)).length<=1000 by simp;omega)
  ac_nf0
  simp only [zh3 _ a0,zih _ a0,f1,f2]
  ac_nf0
  have hs:Stk m (os.take a.toNat++[(zbx m os,1+t)]++os.drop a.toNat):=by
   refine zin m0 (by omega) (by simp;omega) fun o hmem=> ?_
   have hm:o∈os\/o=(zbx m os,1+t):=by
    simp only [qaK,List.mem_singleton] at hmem
    rcases hmem with (w | w) | w
    ·exact .inl (List.mem_of_mem_take w)
    ·exact .inr w
    ·exact .inl (List.mem_of_mem_drop w)
   rcases hm with w | rfl
   ·exact ho o w
   ·refine ⟨(zdf _).filter _,fun x hx=> ?_,fun z=> ?_,by show (0:Int)<1+t;omega⟩
    ·have:=zeQ x (List.mem_filter.mp hx).1
     omega
    ·have z:zbx m os=[]:=z
     rw [z] at hf
     cases hf
  have hk:=k _ _ h4 x4.1 hs (zlA s) (by simp;omega) m1
  simp only [zaN,List.map_append,qaM,List.map_nil,List.map_take,List.map_drop,zbm,tI] at hk
  simpa using hk
theorem zlE {S:Nat->Nat->Bool} {n b one:Nat} (hb:b<n) (ho:one<n):F_19 [ziI S n,.int (b:Int),.int (one:Int)]=pure (.bl (Rul S b one)):=by
 obtain ⟨e1,e2⟩:=zmy (S:=S) ho hb
 obtain ⟨e3,e4⟩:=zmy (S:=S) hb ho
 rw [d_19]
 simp only [G_19,ziI]
 ac_nf0
 rw [e1]
 ac_nf0
 rw [e2]
 ac_nf0
 unfold Rul
 cases S one b
 ·ac_nf0
  rfl
 ·ac_nf0
  simp only [zrg]
  ac_nf0
  by_cases hlt:(b:Int)<(one:Int)
  ·have h2:b<one:=by omega
   simp only [hlt,h2,decide_true]
   ac_nf0
   rfl
  ·have h2: ¬b<one:=by omega
   simp only [hlt,h2,decide_false]
   ac_nf0
   rw [e3]
   ac_nf0
   rw [e4]
   ac_nf0
   rfl
theorem znn {fi:FA} {src:List (Option Nat)} {sd:Sd} {S:Nat->Nat->Bool} {n one:Nat} (ho:one<n) (hn:n<=1000) (hi:fi sd=pure (zeh 0 n)) (eb:zai src sd=[none,some (ziI S n),some (.int (one:Int))]):zan fi (zaC 0) zcp zcn src sd=pure (.lst (((List.range n).filter fun b=>Rul S b one).map fun (b:Nat)=> .int (b:Int))):=by
 rw [<- zaz]
 refine zaw (g':=fun (k:Nat)=> .int (k:Int)) (by rw [hi,zbn,qaT];rfl) (by simpa using hn) fun b hb=> ?_
 rw [eb]
 simp only [zaZ,zcp,zcn]
 ac_nf0
 rw [zlE (List.mem_range.mp hb) ho]
 ac_nf0
 split<;>rfl
theorem zhq {S:Nat->Nat->Bool} {n:Nat} (hn:n<=500) {c:Nat}: ∀ (ones:List Nat) {h:Hh} {ps:List D} {x2 x3:Option D} {P:Out->Hh->Prop},h[c]? = some (.lst ps)->ps.length+ones.length<=1000->(∀ o∈ones,o<n)->
  (∀ x2' x3',P (.nx [some (ziI S n),some (.cel c),x2',x3']) (h.set c (.lst (ps++ones.filterMap (zjn S n)))))->
  wp (zbu (fun x sd=>do let sd1<-zaC 2 x sd;zcu sd1) (ones.map fun (o:Nat)=> .int (o:Int)) [some (ziI S n),some (.cel c),x2,x3]) h P
 | [],h,ps,x2,x3,P,e,hl,ho,k=>by
  rw [List.map_nil,zcm,zak]
  have:=k x2 x3
  rw [List.filterMap_nil,List.append_nil,zga e] at this
  exact this
 | o::r,h,ps,x2,x3,P,e,hl,ho,k=>by
  have hln:=(qac.mp e).1
  have hon:=ho o qau
  rw [qaE] at hl
  have ihN:=fun (x2' x3':Option D) (hf:zjn S n o=none)=>zhq hn r (h:=h) (ps:=ps) (x2:=x2') (x3:=x3') (P:=P) e (by omega) (fun y hy=>ho y (qan _ hy)) fun a b=>by
   have:=k a b
   rw [qat,hf] at this
   exact this
  have ihS:=fun (x2' x3':Option D) (p:D) (hf:zjn S n o=some p)=>zhq hn r (h:=h.set c (.lst (ps++[p]))) (ps:=ps++[p]) (x2:=x2') (x3:=x3') (P:=P) (qai hln) (by simp;omega) (fun y hy=>ho y (qan _ hy)) fun a b=>by
   have:=k a b
   rw [qat,hf] at this
   rw [List.set_set,List.append_assoc]
   exact this
  have ec:zan (zey (zad (zaF zdC (zad (zaf 0) zal)) zal)) (zaC 0) zcp zcn [none,some 0,some 2] [some (ziI S n),some (.cel c),some (.int (o:Int)),x3]=pure (.lst (((List.range n).filter fun b=>Rul S b o).map fun (b:Nat)=> .int (b:Int))):=by
   refine znn hon (by omega) ?_ rfl
   simp only [ziI]
   ac_nf0
   simp only [List.length_range]
   rw [zby (by omega) (by omega),qaB]
  have f:=zaP (show ps.length+1<=1000 by omega)
  rw [qaM,zcA]
  generalize zbu (fun x sd=>do let sd1<-zaC 2 x sd;zcu sd1) (r.map fun (o:Nat)=> .int (o:Int))=zbS at ihN ihS ⊢
  simp only [zcu]
  ac_nf0
  rw [ec]
  ac_nf0
  unfold zjn at ihN ihS
  cases hf:(List.range n).filter fun b=>Rul S b o with
  | nil=>
   rw [hf] at ihN
   simp only [L3.zmz,zrq,zll,List.map_nil]
   ac_nf0
   simp only [List.isEmpty_nil]
   ac_nf0
   exact ihN _ _ rfl
  | cons b bs=>
   rw [hf] at ihS
   simp only [L3.zmz,zrq,zll,qaM]
   ac_nf0
   simp only [List.isEmpty_cons]
   ac_nf0
   simp only [za5]
   ac_nf0
   simp only [za4 e,zak,zba,zar,f,zdc]
   exact ihS _ _ _ rfl
theorem zq2 {S:Nat->Nat->Bool} {n:Nat} (hn:n<=500):Ev (F_18 [ziI S n]) (.lst (zhP S n)):=by
 refine .of_wp fun h=> ?_
 rw [d_18]
 simp only [G_18]
 ac_nf0
 have el:zdC [ziI S n]=pure (.int (n:Int)):=by
  simp only [ziI]
  ac_nf0
  simp
 rw [el]
 ac_nf0
 rw [zby (by omega) (by omega),qaB,zbn,qaT,zak]
 refine zhq hn (List.range n) (c:=h.length) (h:=h++[.lst []]) (ps:=[]) (by simp) (by rw [List.length_range,qaJ];omega) (fun o ho=>List.mem_range.mp ho) fun x2 x3=> ?_
 ac_nf0
 rw [zd0]
 refine zio (ds:=(List.range n).filterMap (zjn S n)) (by simp) ?_
 rw [zd0]
 ac_nf0
 first | exact ⟨⟨_,rfl⟩,rfl⟩ | exact ⟨rfl,⟨_,rfl⟩⟩ | exact ⟨_,rfl⟩
theorem zif {xs ys:List Int} (hx:xs.length<=1000):F_17 [tI xs,tI ys]=pure (.bl (inB xs ys)):=by
 rw [d_17]
 simp only [G_17]
 have ec:zan (iSq (zaf 0)) (zaC 0) (fun _=>pure true) zcX [none,some 1] [some (tI xs),some (tI ys)]=pure (.lst ((xs.map fun x=>ys.any (· == x)).map D.bl)):=by
  have e:(xs.map fun x=>ys.any (· == x)).map D.bl=xs.filterMap fun x=>some (.bl (ys.any (· == x))):=by simp
  rw [e]
  refine zaw (g':=D.int) rfl hx fun x _=> ?_
  have eb:zai [none,some 1] [some (tI xs),some (tI ys)]=[none,some (tI ys)]:=rfl
  rw [eb]
  simp only [zaZ,zcX]
  ac_nf0
  rw [zef]
  ac_nf0
 ac_nf0
 simp only [tI] at ec
 rw [ec]
 ac_nf0
 rw [zju]
 ac_nf0
 unfold inB
 rw [List.all_map]
 rfl
noncomputable def soB (o o':List Int×Int):Bool:=decide (o'.2<=o.2) && inB o.1 o'.1
noncomputable def So (os:List (List Int×Int)) (i j:Nat):Bool:=soB (os.getD i ([],0)) (os.getD j ([],0))
noncomputable def Sth (os:List (List Int×Int)) (i j:Nat):Bool:=inB (wI os j) (wI os i)
theorem zm8 {t:Int}:(wI os t).length<=os.length:=by
 unfold wI
 rw [qaH]
 exact qaS (List.length_filter_le _ _) (by simp)
theorem zqd {t:Int}:(wI os t).Pairwise (· < ·):=by
 unfold wI
 rw [List.pairwise_map]
 exact (List.pairwise_lt_range.filter _).imp fun z=>by omega
theorem znu (s:Stk m os) {o:List Int×Int} (ho:o∈os):F_14 [zaN m os,zbm o]=pure (.lst (os.map fun o'=> .bl (soB o o'))):=by
 have ol:=s.len
 have hl:=s.olen o ho
 have ec:zan (iSq (cOp dIx (zaf 0) (cK (.int 1)))) (zaC 0) (fun _=>pure true) zbG [none,some 1] [some (zaN m os),some (zbm o)]=pure (.lst (os.map fun o'=> .bl (soB o o'))):=by
  rw [show (os.map fun o'=>D.bl (soB o o'))=os.filterMap fun o'=>some (.bl (soB o o')) by simp]
  refine zaw (g':=zbm) rfl (by omega) fun o' _=> ?_
  have eb:zai [none,some 1] [some (zaN m os),some (zbm o)]=[none,some (zbm o)]:=rfl
  have ea:=zif (xs:=o.1) (ys:=o'.1) (by omega)
  rw [eb]
  simp only [zaZ,zbG]
  simp only [tI] at ea
  ac_nf0
  simp only [zsR]
  ac_nf0
  unfold soB
  cases decide (o'.2<=o.2)
  ·ac_nf0
   rfl
  ·ac_nf0
   rw [ea]
   ac_nf0
   rfl
 rw [d_14]
 simp only [G_14,zc6]
 rw [ec]
 rfl
theorem zot (s:Stk m os):F_13 [zaN m os]=pure (ziI (So os) os.length):=by
 have ol:=s.len
 have ec:zan (iSq (cOp dIx (zaf 0) (cK (.int 1)))) (zaC 0) (fun _=>pure true) zbz [none,some 0] [some (zaN m os)]=pure (.lst (os.map fun o=> .lst (os.map fun o'=> .bl (soB o o')))):=by
  rw [show (os.map fun o=>D.lst (os.map fun o'=> .bl (soB o o')))=os.filterMap fun o=>some (.lst (os.map fun o'=> .bl (soB o o'))) by simp]
  refine zaw (g':=zbm) rfl (by omega) fun o ho=> ?_
  have eb:zai [none,some 0] [some (zaN m os)]=[none,some (zaN m os)]:=rfl
  have eg:=znu s ho
  rw [eb]
  simp only [zaZ,zbz]
  simp only [zbm,tI] at eg
  ac_nf0
  rw [eg]
  ac_nf0
 rw [d_13]
 simp only [G_13,zc6]
 rw [ec]
 have e:(os.map fun o=>D.lst (os.map fun o'=> .bl (soB o o')))=(List.range os.length).map fun i=> .lst ((List.range os.length).map fun j=> .bl (So os i j)):=by
  rw [ziF ([],0) (fun o=>D.lst (os.map fun o'=> .bl (soB o o'))) os]
  refine List.map_congr_left fun i _=> ?_
  rw [ziF ([],0) (fun o'=>D.bl (soB (os.getD i ([],0)) o')) os]
  rfl
 rw [e]
 rfl
theorem zkG (s:Stk m os) {t:Nat}:F_16 [zaN m os,.int (t:Int)]=pure (.lst ((List.range m.toNat).map fun u=> .bl (Sth os t u))):=by
 have m0:=s.m0
 have m1:=s.m1
 have ol:=s.len
 have ec:zan (zey (zad (cOp dIx (zaf 0) (cK (.int 0))) zal)) (zaC 0) (fun _=>pure true) zbt [none,some 0,some 2] [some (zaN m os),some (.int (t:Int)),some (tI (wI os t))]=pure (.lst ((List.range m.toNat).map fun u=> .bl (Sth os t u))):=by
  rw [show ((List.range m.toNat).map fun u=>D.bl (Sth os t u))=(List.range m.toNat).filterMap fun u=>some (.bl (Sth os t u)) by simp]
  refine zaw (g':=fun (k:Nat)=> .int (k:Int)) ?_ (by simp;omega) fun u _=> ?_
  ·ac_nf0
   rw [znG]
   ac_nf0
   rw [zby (by omega) (by omega),zbn,qaT]
   rfl
  ·have eb:zai [none,some 0,some 2] [some (zaN m os),some (.int (t:Int)),some (tI (wI os t))]=[none,some (zaN m os),some (tI (wI os t))]:=rfl
   have ea:=zif (xs:=wI os u) (ys:=wI os t) (by have:=zm8 (os:=os) (t:=u);omega)
   rw [eb]
   simp only [zaZ,zbt]
   simp only [tI] at ea
   ac_nf0
   rw [zkj s]
   ac_nf0
   rw [ea]
   ac_nf0
   rfl
 rw [d_16]
 simp only [G_16]
 simp only [tI] at ec
 ac_nf0
 rw [zkj s]
 ac_nf0
 rw [ec]
 ac_nf0
theorem zok (s:Stk m os):F_15 [zaN m os]=pure (ziI (Sth os) m.toNat):=by
 have m0:=s.m0
 have m1:=s.m1
 have ec:zan (zey (zad (cOp dIx (zaf 0) (cK (.int 0))) zal)) (zaC 0) (fun _=>pure true) zbA [none,some 0] [some (zaN m os)]=pure (ziI (Sth os) m.toNat):=by
  unfold ziI
  rw [show ((List.range m.toNat).map fun i=>D.lst ((List.range m.toNat).map fun j=> .bl (Sth os i j)))=(List.range m.toNat).filterMap fun i=>some (.lst ((List.range m.toNat).map fun j=> .bl (Sth os i j))) by simp]
  refine zaw (g':=fun (k:Nat)=> .int (k:Int)) ?_ (by simp;omega) fun u _=> ?_
  ·ac_nf0
   rw [znG]
   ac_nf0
   rw [zby (by omega) (by omega),zbn,qaT]
   rfl
  ·have eb:zai [none,some 0] [some (zaN m os)]=[none,some (zaN m os)]:=rfl
   rw [eb]
   simp only [zaZ,zbA]
   ac_nf0
   rw [zkG s]
   ac_nf0
 rw [d_15]
 simp only [G_15,zc6]
 rw [ec]
 rfl
theorem zrP (s:Stk m os) (hf:(zbx m os).isEmpty=true):Ev (F_9 [zaN m os]) (.lst (zhP (So os) os.length)):=by
 have ol:=s.len
 have m1:=s.m1
 rw [d_9]
 simp only [G_9]
 refine .of_wp fun h=> ?_
 ac_nf0
 refine (zjV s hf).wp fun h1 g=> ?_
 ac_nf0
 rw [zot s]
 ac_nf0
 refine (zq2 (by omega)).wp fun h2 g2=> ?_
 ac_nf0
 have g3:=g.trans g2
 first | exact ⟨trivial,g3⟩ | exact ⟨g3,trivial⟩ | exact ⟨rfl,g3⟩ | exact g3
theorem zsM (s:Stk m os) (hf:(zbx m os).isEmpty=true):Ev (F_10 [zaN m os]) (.lst (zhP (Sth os) m.toNat)):=by
 have ol:=s.len
 have m1:=s.m1
 rw [d_10]
 simp only [G_10]
 refine .of_wp fun h=> ?_
 ac_nf0
 refine (zjV s hf).wp fun h1 g=> ?_
 ac_nf0
 rw [zok s]
 ac_nf0
 refine (zq2 (by omega)).wp fun h2 g2=> ?_
 ac_nf0
 have g3:=g.trans g2
 first | exact ⟨trivial,g3⟩ | exact ⟨g3,trivial⟩ | exact ⟨rfl,g3⟩ | exact g3
theorem znQ (s:Stk m os) {b one:Nat} (hb:b<os.length) (ho:one<os.length):F_31 [zaN m os,.int (b:Int),.int (one:Int)]=pure (.bl (Rul (So os) b one)):=by
 have e1:=zdO (os:=os) (i:=(b:Int)) (by omega) (by omega)
 have e2:=zdO (os:=os) (i:=(one:Int)) (by omega) (by omega)
 rw [qaB] at e1 e2
 have mb:os.getD b ([],0)∈os:=by simp [List.getD,hb]
 have mo:os.getD one ([],0)∈os:=by simp [List.getD,ho]
 unfold Rul So
 generalize hB:os.getD b ([],0)=B at e1 mb
 generalize hO:os.getD one ([],0)=O at e2 mo
 have lO:=s.olen O mo
 have ec: ∀ {sd:Sd} {s3:Option D},zan (iSq (zaf 5)) (zaC 0) zcy zcE [none,some 3] [some (zaN m os),some (.int (b:Int)),some (.int (one:Int)),some (.tup (B.1.map D.int)),some (.int B.2),some (.tup (O.1.map D.int)),some (.int O.2)]=pure (.lst ((O.1.filter fun x=> !B.1.any (· == x)).map D.int)):=by
  intro _ _
  rw [<- zaz]
  refine zaw (g':=D.int) rfl (by omega) fun x _=> ?_
  have eb:zai [none,some 3] [some (zaN m os),some (.int (b:Int)),some (.int (one:Int)),some (.tup (B.1.map D.int)),some (.int B.2),some (.tup (O.1.map D.int)),some (.int O.2)]=[none,some (.tup (B.1.map D.int))]:=rfl
  rw [eb]
  simp only [zaZ,zcy,zcE]
  ac_nf0
  rw [zes]
  ac_nf0
  split<;>rfl
 rw [d_31]
 simp only [G_31]
 ac_nf0
 rw [zis]
 ac_nf0
 rw [e1]
 ac_nf0
 rw [zis]
 ac_nf0
 rw [e2]
 ac_nf0
 rw [zmN]
 ac_nf0
 have eqI:dEq (.tup (B.1.map D.int)) (.tup (O.1.map D.int))=pure (.bl (B.1==O.1)):=zna B.1 O.1
 by_cases h1:b=one
 ·subst h1
  have:B=O:=by rw [<- hB, <-hO]
  subst this
  simp only [beq_self_eq_true]
  ac_nf0
  congr 2
  simp
 ·have h1':((b:Int)==(one:Int))=false:=by
   rw [beq_eq_false_iff_ne]
   omega
  rw [h1']
  ac_nf0
  rw [ec (sd:=[]) (s3:=none)]
  ac_nf0
  rw [zdq,zfJ]
  ac_nf0
  cases h2:inB O.1 B.1
  ·ac_nf0
   simp [soB,h2]
  ·ac_nf0
   by_cases h3:O.2<B.2
   ·have h4: ¬B.2<=O.2:=by omega
    simp only [h3,decide_true]
    ac_nf0
    simp [soB,h4]
   ·have h4:B.2<=O.2:=by omega
    simp only [h3,decide_false]
    ac_nf0
    rw [eqI]
    ac_nf0
    have hq:=znf (s.up O mo) (s.up B mb) h2
    have e5:soB O B=true:=by simp [soB,h2,h4]
    have e6:soB B O=((B.1==O.1) && (B.2==O.2)):=by
     unfold soB
     rw [hq,Bool.and_comm,Bool.eq_iff_iff]
     simp
     intro _
     omega
    rw [e5,e6]
    cases hb1:(B.1==O.1)
    ·ac_nf0
     simp
    ·ac_nf0
     rw [zmN]
     ac_nf0
     cases hb2:(B.2==O.2)
     ·ac_nf0
      simp
     ·ac_nf0
      simp only [zrg]
      ac_nf0
      congr 2
      simp
theorem zj3 (s:Stk m os) {t:Int}:F_32 [zaN m os,.int t]=pure (.lst ((wI os t).map D.int)):=by
 have ol:=s.len
 have ec:zan (zqh (cOp dIx (zaf 0) (cK (.int 1)))) (zbQ 2 (zay (zaC 0) (zay (zaC 1) zbO))) zd5 zec [none,none,some 1] [some (zaN m os),some (.int t)]=pure (.lst ((wI os t).map D.int)):=zgH rfl (by omega) rfl
 rw [d_32]
 simp only [G_32,zc6]
 rw [ec]
 rfl
theorem zoC (s:Stk m os) {b one:Nat}:F_33 [zaN m os,.int (b:Int),.int (one:Int)]=pure (.bl (Rul (Sth os) b one)):=by
 have ol:=s.len
 have lB:=zm8 (os:=os) (t:=(b:Int))
 have ec:zan (iSq (zaf 3)) (zaC 0) zbr zbs [none,some 4] [some (zaN m os),some (.int (b:Int)),some (.int (one:Int)),some (.lst ((wI os b).map D.int)),some (.lst ((wI os one).map D.int))]=pure (.lst (((wI os b).filter fun x=> !(wI os one).any (· == x)).map D.int)):=by
  rw [<- zaz]
  refine zaw (g':=D.int) rfl (by omega) fun x _=> ?_
  have eb:zai [none,some 4] [some (zaN m os),some (.int (b:Int)),some (.int (one:Int)),some (.lst ((wI os b).map D.int)),some (.lst ((wI os one).map D.int))]=[none,some (.lst ((wI os one).map D.int))]:=rfl
  rw [eb]
  simp only [zaZ,zbr,zbs]
  ac_nf0
  rw [zdH]
  ac_nf0
  split<;>rfl
 rw [d_33]
 simp only [G_33]
 ac_nf0
 rw [zj3 s]
 ac_nf0
 rw [zj3 s]
 ac_nf0
 rw [zmN]
 ac_nf0
 unfold Rul Sth
 by_cases h1:b=one
 ·subst h1
  simp only [beq_self_eq_true]
  ac_nf0
  congr 2
  simp
 ·have h1':((b:Int)==(one:Int))=false:=by
   rw [beq_eq_false_iff_ne]
   omega
  rw [h1']
  ac_nf0
  rw [ec]
  ac_nf0
  rw [zdq,zfJ]
  ac_nf0
  cases h2:inB (wI os b) (wI os one)
  ·ac_nf0
   simp
  ·ac_nf0
   rw [zn3]
   ac_nf0
   have hq:=znf (zqd (os:=os) (t:=b)) (zqd (os:=os) (t:=one)) h2
   rw [hq]
   have hs:(wI os (one:Int)==wI os (b:Int))=(wI os (b:Int)==wI os (one:Int)):=by
    rw [Bool.eq_iff_iff,beq_iff_eq,beq_iff_eq]
    exact eq_comm
   rw [hs]
   cases (wI os (b:Int)==wI os (one:Int))
   ·ac_nf0
    simp
   ·ac_nf0
    simp only [zrg]
    ac_nf0
    congr 2
    simp
theorem znw (f:Bool) {S:Nat->Nat->Bool} {n one c:Nat} (ho:one<n) (hn:n<=500) (hR: ∀ b,b<n->(if f=true then F_33 [zaN m os,.int (b:Int),.int (one:Int)] else F_31 [zaN m os,.int (b:Int),.int (one:Int)])=pure (.bl (Rul S b one))) {x5:Option D}:
  zan (zey (zad (zaf 2) zal)) (zaC 0) zcx zcD [none,some 1,some 0,some 4] [some (zaN m os),some (.bl f),some (.int (n:Int)),some (.cel c),some (.int (one:Int)),x5]=pure (.lst (((List.range n).filter fun b=>Rul S b one).map fun (b:Nat)=> .int (b:Int))):=by
 rw [<- zaz]
 refine zaw (g':=fun (k:Nat)=> .int (k:Int)) ?_ (by simp;omega) fun b hb=> ?_
 ·ac_nf0
  rw [zby (by omega) (by omega),qaB,zbn,qaT]
  rfl
 ·have eb:zai [none,some 1,some 0,some 4] [some (zaN m os),some (.bl f),some (.int (n:Int)),some (.cel c),some (.int (one:Int)),x5]=[none,some (.bl f),some (zaN m os),some (.int (one:Int))]:=rfl
  have hr:=hR b (List.mem_range.mp hb)
  rw [eb]
  simp only [zaZ,zcx,zcD]
  cases f with
  | false=>
   have ei:zgM [.bl false]=pure (.int 0):=rfl
   simp only [qax,if_false] at hr
   ac_nf0
   rw [ei]
   ac_nf0
   rw [zmf]
   ac_nf0
   rw [hr]
   ac_nf0
   split<;>rfl
  | true=>
   have ei:zgM [.bl true]=pure (.int 1):=rfl
   simp only [if_true] at hr
   ac_nf0
   rw [ei]
   ac_nf0
   rw [zly]
   ac_nf0
   rw [hr]
   ac_nf0
   split<;>rfl
theorem zhG (f:Bool) {S:Nat->Nat->Bool} {n:Nat} (hn:n<=500) (hR: ∀ b one,b<n->one<n->(if f=true then F_33 [zaN m os,.int (b:Int),.int (one:Int)] else F_31 [zaN m os,.int (b:Int),.int (one:Int)])=pure (.bl (Rul S b one))) {c:Nat}:
  ∀ (ones:List Nat) {h:Hh} {ps:List D} {x4 x5:Option D} {P:Out->Hh->Prop},h[c]? = some (.lst ps)->ps.length+ones.length<=1000->(∀ o∈ones,o<n)->
  (∀ x4' x5',P (.nx [some (zaN m os),some (.bl f),some (.int (n:Int)),some (.cel c),x4',x5']) (h.set c (.lst (ps++ones.filterMap (zjn S n)))))->
  wp (zbu (fun x sd=>do let sd1<-zaC 4 x sd;zbZ sd1) (ones.map fun (o:Nat)=> .int (o:Int)) [some (zaN m os),some (.bl f),some (.int (n:Int)),some (.cel c),x4,x5]) h P
 | [],h,ps,x4,x5,P,e,hl,ho,k=>by
  rw [List.map_nil,zcm,zak]
  have:=k x4 x5
  rw [List.filterMap_nil,List.append_nil,zga e] at this
  exact this
 | o::r,h,ps,x4,x5,P,e,hl,ho,k=>by
  have hln:=(qac.mp e).1
  have hon:=ho o qau
  rw [qaE] at hl
  have ihN:=fun (x4' x5':Option D) (hf:zjn S n o=none)=>zhG f hn hR r (h:=h) (ps:=ps) (x4:=x4') (x5:=x5') (P:=P) e (by omega) (fun y hy=>ho y (qan _ hy)) fun a b=>by
   have:=k a b
   rw [qat,hf] at this
   exact this
  have ihS:=fun (x4' x5':Option D) (p:D) (hf:zjn S n o=some p)=>zhG f hn hR r (h:=h.set c (.lst (ps++[p]))) (ps:=ps++[p]) (x4:=x4') (x5:=x5') (P:=P) (qai hln) (by simp;omega) (fun y hy=>ho y (qan _ hy)) fun a b=>by
   have:=k a b
   rw [qat,hf] at this
   rw [List.set_set,List.append_assoc]
   exact this
  have ec:=znw (m:=m) (os:=os) f (S:=S) (c:=c) hon hn (fun b hb=>hR b o hb hon) (x5:=x5)
  have f1:=zaP (show ps.length+1<=1000 by omega)
  rw [qaM,zcA]
  generalize zbu (fun x sd=>do let sd1<-zaC 4 x sd;zbZ sd1) (r.map fun (o:Nat)=> .int (o:Int))=zbS at ihN ihS ⊢
  simp only [zbZ]
  ac_nf0
  rw [ec]
  ac_nf0
  rw [zlU]
  ac_nf0
  unfold zjn at ihN ihS
  cases hf:(List.range n).filter fun b=>Rul S b o with
  | nil=>
   rw [hf] at ihN
   simp only [List.isEmpty_nil]
   ac_nf0
   exact ihN _ _ rfl
  | cons b bs=>
   rw [hf] at ihS
   simp only [List.isEmpty_cons,qaM]
   ac_nf0
   simp only [za5]
   ac_nf0
   simp only [za4 e,zak,zba,zar,f1,zdc]
   exact ihS _ _ _ rfl
theorem zpu (f:Bool) {S:Nat->Nat->Bool} {n:Nat} (hn:n<=500) (hN:(if f=true then m else (os.length:Int))=(n:Int)) (hR: ∀ b one,b<n->one<n->(if f=true then F_33 [zaN m os,.int (b:Int),.int (one:Int)] else F_31 [zaN m os,.int (b:Int),.int (one:Int)])=pure (.bl (Rul S b one))):Ev (F_34 [zaN m os,.bl f]) (.lst (zhP S n)):=by
 refine .of_wp fun h=> ?_
 rw [d_34]
 simp only [G_34]
 ac_nf0
 rw [zis]
 ac_nf0
 rw [znG]
 ac_nf0
 have ei:(do let x<-zgM [.bl f];dIx (.lst [.int (os.length:Int),.int m]) x:M D)=pure (.int (n:Int)):=by
  rw [<- hN]
  cases f<;>rfl
 have ei2:zgM [.bl f]=pure (.int (if f=true then 1 else 0)):=rfl
 rw [ei2,pure_bind] at ei
 rw [ei2]
 ac_nf0
 rw [zod] at ei
 rw [ei]
 ac_nf0
 rw [zby (by omega) (by omega),qaB,zbn,qaT,zak]
 refine zhG f hn hR (List.range n) (c:=h.length) (h:=h++[.lst []]) (ps:=[]) (by simp) (by rw [List.length_range,qaJ];omega) (fun o ho=>List.mem_range.mp ho) fun x2 x3=> ?_
 ac_nf0
 rw [zd0]
 refine zio (ds:=(List.range n).filterMap (zjn S n)) (by simp) ?_
 rw [zd0]
 ac_nf0
 first | exact ⟨⟨_,rfl⟩,rfl⟩ | exact ⟨rfl,⟨_,rfl⟩⟩ | exact ⟨_,rfl⟩
theorem lrO (s:Stk m os):Ev (F_34 [zaN m os,.bl false]) (.lst (zhP (So os) os.length)):=
 zpu false (by have:=s.len;omega) rfl fun b one hb ho=>znQ s hb ho
theorem lrT (s:Stk m os):Ev (F_34 [zaN m os,.bl true]) (.lst (zhP (Sth os) m.toNat)):=
 zpu true (by have:=s.m1;omega) (by have:=s.m0;show m=_;omega) fun b one hb ho=>zoC s
noncomputable def zcd (S:Nat->Nat->Bool) (n one:Nat):List Nat:=(List.range n).filter fun b=>Rul S b one
noncomputable def kept (S:Nat->Nat->Bool) (n:Nat):List Nat:=(List.range n).filter fun one=>(zcd S n one).isEmpty
noncomputable def zbW (S:Nat->Nat->Bool) (n:Nat):List Nat:=(List.range n).filter fun one=> !(zcd S n one).isEmpty
noncomputable def zjj (S:Nat->Nat->Bool) (n one:Nat):D:= .tup [.int (one:Int),.int ((zcd S n one).headD 0:Int)]
theorem zkb (S:Nat->Nat->Bool) (n:Nat):zhP S n=(zbW S n).map (zjj S n):=by
 unfold zhP zbW
 rw [<- zaz]
 refine congrArg (fun f=>List.filterMap f (List.range n)) (funext fun one=> ?_)
 unfold zjn zjj zcd
 cases (List.range n).filter fun b=>Rul S b one<;>rfl
structure Pre (S:Nat->Nat->Bool):Prop where
 rf: ∀ i,S i i=true
 tr: ∀ i j k,S i j=true->S j k=true->S i k=true
theorem ze3 {S:Nat->Nat->Bool} {b j:Nat}:Rul S b j=true↔S j b=true/\(b<j\/S b j=false):=by
 unfold Rul
 rw [qaG,Bool.or_eq_true,qaD,Bool.not_eq_true']
theorem zqP {S:Nat->Nat->Bool} (p:Pre S) {b c d:Nat} (h1:Rul S b c=true) (h2:Rul S c d=true):Rul S b d=true:=by
 obtain ⟨a1,a2⟩:=ze3.mp h1
 obtain ⟨b1,b2⟩:=ze3.mp h2
 refine ze3.mpr ⟨p.tr _ _ _ b1 a1,?_⟩
 cases hbd:S b d with
 | false=>exact .inr rfl
 | true=>
  left
  have k1:S b c=true:=p.tr _ _ _ hbd b1
  have k2:S c d=true:=p.tr _ _ _ a1 hbd
  rw [k1] at a2
  rw [k2] at b2
  simp at a2 b2
  omega
theorem zp6 {S:Nat->Nat->Bool} (p:Pre S) {b:Nat}:Rul S b b=false:=by
 cases h:Rul S b b with
 | false=>rfl
 | true=>
  obtain ⟨_,h2⟩:=ze3.mp h
  rw [p.rf b] at h2
  simp at h2
theorem zgX {α:Type} {p q:α->Bool}: ∀ {xs:List α},(∀ x,p x=true->q x=true)->(∃ x∈xs,q x=true/\p x=false)->(xs.filter p).length<(xs.filter q).length
 | [],_,⟨x,hx,_⟩=>by cases hx
 | x::r,h,⟨y,hy,h1,h2⟩=>by
  have le: ∀ ys:List α,(ys.filter p).length<=(ys.filter q).length:=fun ys=>by
   induction ys with
   | nil=>exact qaV _
   | cons z t ih=>
    rw [List.filter_cons,List.filter_cons]
    cases hp:p z with
    | true=>rw [h z hp];simp only [if_true,qaE];omega
    | false=>
     cases hq:q z with
     | true=>simp only [qax,if_false,if_true,qaE];omega
     | false=>simpa using ih
  rw [List.filter_cons,List.filter_cons]
  rcases qaP.mp hy with rfl | hy
  ·rw [h1,h2]
   simp only [qax,if_false,if_true,qaE]
   have:=le r
   omega
  ·have ih:=zgX (xs:=r) h ⟨y,hy,h1,h2⟩
   cases hp:p x with
   | true=>rw [h x hp];simp only [if_true,qaE];omega
   | false=>
    cases hq:q x with
    | true=>simp only [qax,if_false,if_true,qaE];omega
    | false=>simpa using ih
theorem unr {S:Nat->Nat->Bool} (p:Pre S) {n:Nat}: ∀ (k j:Nat),j<n->(zcd S n j).length<=k-> ∃ b∈kept S n,S j b=true
 | 0,j,hj,hk=>⟨j,List.mem_filter.mpr ⟨List.mem_range.mpr hj,by rw [List.isEmpty_iff];exact List.length_eq_zero_iff.mp (by omega)⟩,p.rf j⟩
 | k+1,j,hj,hk=>by
  cases hr:zcd S n j with
  | nil=>exact ⟨j,List.mem_filter.mpr ⟨List.mem_range.mpr hj,by rw [hr];rfl⟩,p.rf j⟩
  | cons b bs=>
   have hb:b∈zcd S n j:=by rw [hr];exact qau
   obtain ⟨hb1,hb2⟩:=List.mem_filter.mp hb
   have hlt:(zcd S n b).length<(zcd S n j).length:=zgX (fun c hc=>zqP p hc hb2) ⟨b,hb1,hb2,zp6 p⟩
   obtain ⟨c,hc,hs⟩:=unr p k b (List.mem_range.mp hb1) (by omega)
   exact ⟨c,hc,p.tr _ _ _ (ze3.mp hb2).1 hs⟩
theorem zjP {S:Nat->Nat->Bool} (p:Pre S) {n j:Nat} (hj:j<n): ∃ b∈kept S n,S j b=true:=unr p _ j hj (qaV _)
theorem zmB {xs:List Int}:inB xs xs=true:=zc9.mpr fun _ h=>h
theorem zmC {xs ys zs:List Int} (h1:inB xs ys=true) (h2:inB ys zs=true):inB xs zs=true:=zc9.mpr fun x hx=>zc9.mp h2 x (zc9.mp h1 x hx)
theorem zrj (os:List (List Int×Int)):Pre (So os) where
 rf:=fun i=>by unfold So soB;rw [zmB];simp
 tr:=fun i j k h1 h2=>by
  unfold So soB at*
  rw [qaG,qaD] at*
  exact ⟨by omega,zmC h1.2 h2.2⟩
theorem znh (os:List (List Int×Int)):Pre (Sth os) where
 rf:=fun i=>zmB
 tr:=fun i j k h1 h2=>by unfold Sth at *; exact zmC h2 h1
theorem zcZ {S:Nat->Nat->Bool} {n j:Nat} (h:j∈kept S n):j<n:=List.mem_range.mp (List.mem_filter.mp h).1
theorem zjA {S:Nat->Nat->Bool} {n:Nat}:(kept S n).Pairwise (· < ·):=List.pairwise_lt_range.filter _
def Ful (m:Int) (os:List (List Int×Int)):Prop:= ∀ t:Int,0<=t->t<m-> ∃ o∈os,t∈o.1
theorem ziq {t:Int} {o:List Int×Int}:zhk t o=true↔t∈o.1:=by
 unfold zhk
 rw [List.any_eq_true]
 constructor
 ·rintro ⟨x,hx,e⟩
  rw [beq_iff_eq] at e
  exact e▸hx
 ·intro h
  exact ⟨t,h,by simp⟩
theorem ze6 (m0:0<=m):(zbx m os).isEmpty=true↔Ful m os:=by
 unfold zbx Ful
 rw [List.isEmpty_iff,List.filter_eq_nil_iff]
 constructor
 ·intro h t t0 t1
  have:=h t (qaU.mpr ⟨t.toNat,List.mem_range.mpr (by omega),by omega⟩)
  rw [List.isEmpty_iff] at this
  obtain ⟨o,ho⟩:=List.exists_mem_of_ne_nil _ this
  obtain ⟨h1,h2⟩:=List.mem_filter.mp ho
  exact ⟨o,h1,ziq.mp h2⟩
 ·intro h t ht
  obtain ⟨k,hk,rfl⟩:=qaU.mp ht
  have:=List.mem_range.mp hk
  obtain ⟨o,ho,hx⟩:=h (k:Int) (by omega) (by omega)
  rw [List.isEmpty_iff]
  exact List.ne_nil_of_mem (List.mem_filter.mpr ⟨ho,ziq.mpr hx⟩)
noncomputable def nar (T:List Nat) (xs:List Int):List Int:=((List.range T.length).filter fun p=>xs.any (· == (T.getD p 0:Int))).map fun (p:Nat)=>(p:Int)
noncomputable def zdQ (os:List (List Int×Int)) (T N:List Nat):List (List Int×Int):=N.map fun j=>(nar T (os.getD j ([],0)).1,(os.getD j ([],0)).2)
theorem zmS {T:List Nat} {xs:List Int}:(nar T xs).Pairwise (· < ·):=by
 unfold nar
 rw [List.pairwise_map]
 exact (List.pairwise_lt_range.filter _).imp fun h=>by omega
theorem zfc {T:List Nat} {xs:List Int} {p:Int}:p∈nar T xs↔ ∃ k:Nat,p=(k:Int)/\k<T.length/\(T.getD k 0:Int)∈xs:=by
 unfold nar
 rw [qaU]
 constructor
 ·rintro ⟨k,hk,rfl⟩
  obtain ⟨h1,h2⟩:=List.mem_filter.mp hk
  exact ⟨k,rfl,List.mem_range.mp h1,by
    obtain ⟨x,hx,e⟩:=List.any_eq_true.mp h2
    rw [beq_iff_eq] at e
    exact e▸hx⟩
 ·rintro ⟨k,rfl,h1,h2⟩
  exact ⟨k,List.mem_filter.mpr ⟨List.mem_range.mpr h1,List.any_eq_true.mpr ⟨_,h2,by simp⟩⟩,rfl⟩
theorem zj5 {n:Nat} {xs:List Int} (hu:xs.Pairwise (· < ·)) (hb: ∀ x∈xs,0<=x/\x<(n:Int)):nar (List.range n) xs=xs:=by
 refine zmc zmS hu fun t=> ?_
 rw [zfc]
 constructor
 ·rintro ⟨k,rfl,h1,h2⟩
  rw [List.length_range] at h1
  simpa [List.getD,h1] using h2
 ·intro ht
  have:=hb t ht
  refine ⟨t.toNat,by omega,by rw [List.length_range];omega,?_⟩
  have h1:t.toNat<n:=by omega
  have e:((List.range n).getD t.toNat 0:Int)=t:=by
   simp [List.getD,h1]
   omega
  rw [e]
  exact ht
noncomputable def O1 (os:List (List Int×Int)):List Nat:=kept (So os) os.length
noncomputable def R1 (os:List (List Int×Int)):List (List Int×Int):=(O1 os).map fun j=>os.getD j ([],0)
noncomputable def T1 (m:Int) (os:List (List Int×Int)):List Nat:=kept (Sth (R1 os)) m.toNat
noncomputable def N1 (m:Int) (os:List (List Int×Int)):List Nat:=(O1 os).filter fun j=> !(nar (T1 m os) (os.getD j ([],0)).1).isEmpty
theorem zee {j:Nat} (h:j<os.length):os.getD j ([],0)∈os:=by simp [List.getD,h]
theorem zkl (s:Stk m os):zdQ os (List.range m.toNat) (O1 os)=R1 os:=by
 have m0:=s.m0
 unfold zdQ R1
 refine List.map_congr_left fun j hj=> ?_
 have mo:=zee (os:=os) (zcZ hj)
 rw [zj5 (s.up _ mo) fun x hx=>by have:=s.bd _ mo x hx;omega]
theorem zmW (s:Stk m os):Stk m (R1 os):=by
 have hm: ∀ o∈R1 os,o∈os:=fun o ho=>by
  obtain ⟨j,hj,rfl⟩:=qaU.mp ho
  exact zee (zcZ hj)
 refine ⟨s.m0,s.m1,?_,fun o ho=>s.up o (hm o ho),fun o ho=>s.bd o (hm o ho),fun o ho=>s.ne o (hm o ho),fun o ho=>s.pos o (hm o ho)⟩
 unfold R1 O1 kept
 rw [qaH]
 exact qaS (List.length_filter_le _ _) (by rw [List.length_range];exact s.len)
theorem zmA (hf:Ful m os):Ful m (R1 os):=fun t t0 t1=>by
 obtain ⟨o,ho,hx⟩:=hf t t0 t1
 obtain ⟨j,hj,rfl⟩:=List.mem_iff_getElem.mp ho
 obtain ⟨b,hb,hs⟩:=zjP (zrj os) hj
 refine ⟨os.getD b ([],0),qaU.mpr ⟨b,hb,rfl⟩,?_⟩
 unfold So soB at hs
 rw [qaG] at hs
 refine zc9.mp hs.2 t ?_
 simpa [List.getD,hj] using hx
theorem zpF (s:Stk m os):0<(T1 m os).length:=by
 have m0:=s.m0
 obtain ⟨b,hb,_⟩:=zjP (znh (R1 os)) (n:=m.toNat) (j:=0) (by omega)
 exact List.length_pos_of_mem hb
theorem zlC:(T1 m os).length<=m.toNat:=by
 have:=List.length_filter_le (fun one=>(zcd (Sth (R1 os)) m.toNat one).isEmpty) (List.range m.toNat)
 rw [List.length_range] at this
 exact this
theorem zmm:(O1 os).length<=os.length:=by
 have:=List.length_filter_le (fun one=>(zcd (So os) os.length one).isEmpty) (List.range os.length)
 rw [List.length_range] at this
 exact this
theorem zmr:(N1 m os).length<=os.length:=qaS (List.length_filter_le _ _) zmm
theorem zhM {j:Nat} (h:j∈N1 m os):j<os.length:=zcZ (List.mem_filter.mp h).1
theorem zrQ:(N1 m os).Pairwise (· < ·):=zjA.filter _
noncomputable def osN (m:Int) (os:List (List Int×Int)):List (List Int×Int):=zdQ os (T1 m os) (N1 m os)
theorem zlL (s:Stk m os):Stk ((T1 m os).length:Int) (osN m os):=by
 have m1:=s.m1
 have tl:=zlC (m:=m) (os:=os)
 have tp:=zpF s
 have hm: ∀ o∈osN m os, ∃ j∈N1 m os,o=(nar (T1 m os) (os.getD j ([],0)).1,(os.getD j ([],0)).2):=fun o ho=>by
  obtain ⟨j,hj,rfl⟩:=qaU.mp ho
  exact ⟨j,hj,rfl⟩
 refine ⟨by omega,by omega,?_,fun o ho=> ?_,fun o ho x hx=> ?_,fun o ho=> ?_,fun o ho=> ?_⟩
 ·unfold osN zdQ
  rw [qaH]
  exact qaS zmr s.len
 ·obtain ⟨j,hj,rfl⟩:=hm o ho
  exact zmS
 ·obtain ⟨j,hj,rfl⟩:=hm o ho
  obtain ⟨k,rfl,h1,_⟩:=zfc.mp hx
  omega
 ·obtain ⟨j,hj,rfl⟩:=hm o ho
  have:=(List.mem_filter.mp hj).2
  intro z
  have z:nar (T1 m os) (os.getD j ([],0)).1=[]:=z
  rw [z] at this
  cases this
 ·obtain ⟨j,hj,rfl⟩:=hm o ho
  exact s.pos (os.getD j ([],0)) (zee (zhM hj))
theorem zlw (s:Stk m os) (hf:Ful m os):Ful ((T1 m os).length:Int) (osN m os):=fun t t0 t1=>by
 have m0:=s.m0
 have hk:t.toNat<(T1 m os).length:=by omega
 have hT:(T1 m os).getD t.toNat 0∈T1 m os:=by simp [List.getD,hk]
 have hlt:=zcZ hT
 obtain ⟨o,ho,hx⟩:=zmA hf ((T1 m os).getD t.toNat 0:Int) (by omega) (by omega)
 obtain ⟨j,hj,rfl⟩:=qaU.mp ho
 have hn:t∈nar (T1 m os) (os.getD j ([],0)).1:=zfc.mpr ⟨t.toNat,by omega,hk,hx⟩
 refine ⟨_,qaU.mpr ⟨j,List.mem_filter.mpr ⟨hj,?_⟩,rfl⟩,hn⟩
 cases hz:nar (T1 m os) (os.getD j ([],0)).1 with
 | nil=>rw [hz] at hn;cases hn
 | cons _ _=>rfl
theorem zdr {α:Type} {p:α->Bool} {xs:List α} (h:(xs.filter p).length=xs.length):xs.filter p=xs:=List.filter_eq_self.mpr (List.length_filter_eq_length_iff.mp h)
theorem znA (h:(T1 m os).length=m.toNat):T1 m os=List.range m.toNat:=zdr (by rw [List.length_range];exact h)
theorem zog (h:(N1 m os).length=os.length):N1 m os=List.range os.length:=by
 have h1:=List.length_filter_le (fun j=> !(nar (T1 m os) (os.getD j ([],0)).1).isEmpty) (O1 os)
 have h2:=zmm (os:=os)
 have h:((O1 os).filter fun j=> !(nar (T1 m os) (os.getD j ([],0)).1).isEmpty).length=os.length:=h
 have e1:O1 os=List.range os.length:=zdr (by rw [List.length_range];show (O1 os).length=_;omega)
 have e2:N1 m os=O1 os:=zdr (by omega)
 rw [e2,e1]
theorem zlz {S:Nat->Nat->Bool} {n one:Nat} (h:one<n):(cI (zbW S n)).any (· == (one:Int))= !(zcd S n one).isEmpty:=by
 rw [zmL,Bool.eq_iff_iff,zfT]
 unfold zbW
 rw [List.mem_filter]
 exact ⟨fun z=>z.2,fun z=>⟨List.mem_range.mpr h,z⟩⟩
theorem zfd {fi:FA} {src:List (Option Nat)} {sd:Sd} {tc:FT} {te:FE} {S:Nat->Nat->Bool} {n:Nat} (ht:tc=zc2 zda (zaf 0) (zaf 1)) (he:te=zaf 0) (hn:n<=500) (hi:fi sd=pure ((List.range n).map fun (j:Nat)=> .int (j:Int))) (eb:zai src sd=[none,some (.lst ((cI (zbW S n)).map D.int))]):
  zan fi (zaC 0) tc te src sd=pure (.lst ((cI (kept S n)).map D.int)):=by
 rw [zco]
 unfold kept
 rw [<- zaz]
 refine zaw (g':=fun (j:Nat)=> .int (j:Int)) hi (by simp;omega) fun j hj=> ?_
 rw [eb,ht,he]
 simp only [zaZ]
 ac_nf0
 rw [zdH,zlz (List.mem_range.mp hj)]
 ac_nf0
 simp only [Bool.not_not]
 split<;>rfl
theorem zkB {S:Nat->Nat->Bool} {n:Nat} (hn:n<=500):F_22 [.int (n:Int),.lst (zhP S n)]=pure (.lst ((cI (kept S n)).map D.int)):=by
 have gl:(zbW S n).length<=n:=by
  have:=List.length_filter_le (fun one=> !(zcd S n one).isEmpty) (List.range n)
  rw [List.length_range] at this
  exact this
 have e1:zan (iSq (zaf 1)) (zaC 0) (fun _=>pure true) zcW [none] [some (.int (n:Int)),some (.lst (zhP S n)),none]=pure (.lst ((cI (zbW S n)).map D.int)):=by
  rw [zco,show (zbW S n).map (fun (j:Nat)=>D.int (j:Int))=(zbW S n).filterMap fun (j:Nat)=>some (.int (j:Int)) by simp]
  refine zaw (g':=zjj S n) (by ac_nf0;rw [zkb]) (by omega) fun j _=> ?_
  have eb:zai [none] [some (.int (n:Int)),some (.lst (zhP S n)),none]=[none]:=rfl
  rw [eb]
  simp only [zaZ,zcW,zjj]
  ac_nf0
 have e2:zan (zey (zad (zaf 0) zal)) (zaC 0) zdT zd2 [none,some 2] [some (.int (n:Int)),some (.lst (zhP S n)),some (.lst ((cI (zbW S n)).map D.int))]=pure (.lst ((cI (kept S n)).map D.int)):=by
  refine zfd rfl rfl hn ?_ rfl
  ac_nf0
  rw [zby (by omega) (by omega),qaB,zbn,qaT]
  rfl
 rw [d_22]
 simp only [G_22]
 ac_nf0
 rw [e1]
 ac_nf0
 rw [e2]
 ac_nf0
theorem zrm {T:List Nat}:zhd ((cI T).map D.int)=(List.range T.length).map fun (p:Nat)=> .tup [.int (p:Int),.int (T.getD p 0:Int)]:=by
 unfold zhd
 rw [qaH,zfA]
 refine List.map_congr_left fun p hp=> ?_
 have:=List.mem_range.mp hp
 simp [cI,List.getD,this]
theorem ziz {fi:FA} {src:List (Option Nat)} {sd:Sd} {tc:FT} {te:FE} {T:List Nat} {xs:List Int} (he:te=zaf 0) (hT:T.length<=1000) (hi:fi sd=pure (zhd ((cI T).map D.int))) (eb: ∃ d,zai src sd=[none,none,some d]/\ ∀ p t:Int,tc [some (.int p),some (.int t),some d]=pure (xs.any (· == t))):
  zan fi (zbQ 2 (zay (zaC 0) (zay (zaC 1) zbO))) tc te src sd=pure (.lst ((nar T xs).map D.int)):=by
 obtain ⟨d,eb,et⟩:=eb
 unfold nar
 rw [qaT, <-zaz]
 refine zaw (g':=fun (p:Nat)=> .tup [.int (p:Int),.int (T.getD p 0:Int)]) (by rw [hi,zrm]) (by simpa using hT) fun p _=> ?_
 rw [eb,he]
 simp only [zaZ]
 ac_nf0
 rw [et]
 ac_nf0
 split<;>rfl
theorem zeN {o:List Int×Int} {T:List Nat} (hT:T.length<=1000):F_8 [zbm o,.lst ((cI T).map D.int)]=pure (tI (nar T o.1)):=by
 have e1:zan (zla (zaf 1)) (zbQ 2 (zay (zaC 0) (zay (zaC 1) zbO))) zdi zev [none,none,some 0] [some (zbm o),some (.lst ((cI T).map D.int))]=pure (.lst ((nar T o.1).map D.int)):=by
  refine ziz rfl hT rfl ⟨zbm o,rfl,fun p t=> ?_⟩
  simp only [zdi]
  ac_nf0
  rw [zef]
  ac_nf0
 rw [d_8]
 simp only [G_8]
 ac_nf0
 simp only [zbm,tI] at e1
 rw [e1]
 ac_nf0
theorem zkv (s:Stk m os) {T N:List Nat} (hT:T.length<=1000) (hN: ∀ j∈N,j<os.length) (hl:N.length<=1000):F_7 [zaN m os,.lst ((cI T).map D.int),.lst ((cI N).map D.int)]=pure (zaN (T.length:Int) (zdQ os T N)):=by
 have e1:zan (iSq (zaf 2)) (zaC 0) (fun _=>pure true) zdM [none,some 0] [some (zaN m os),some (.lst ((cI T).map D.int)),some (.lst ((cI N).map D.int)),none]=pure (.lst ((N.map fun j=>os.getD j ([],0)).map zbm)):=by
  rw [qaT,show N.map (zbm∘fun j=>os.getD j ([],0))=N.filterMap fun j=>some (zbm (os.getD j ([],0))) by simp [Function.comp_def]]
  refine zaw (g':=fun (j:Nat)=> .int (j:Int)) (by ac_nf0;rw [zco]) hl fun j hj=> ?_
  have eb:zai [none,some 0] [some (zaN m os),some (.lst ((cI T).map D.int)),some (.lst ((cI N).map D.int)),none]=[none,some (zaN m os)]:=rfl
  have eo:=zdO (os:=os) (i:=(j:Int)) (by omega) (by have:=hN j hj;omega)
  rw [qaB] at eo
  rw [eb]
  simp only [zaZ,zdM]
  ac_nf0
  rw [zis]
  ac_nf0
  rw [eo]
  ac_nf0
 have e2:zan (iSq (zaf 3)) (zaC 0) (fun _=>pure true) zdD [none,some 1] [some (zaN m os),some (.lst ((cI T).map D.int)),some (.lst ((cI N).map D.int)),some (.lst ((N.map fun j=>os.getD j ([],0)).map zbm))]=pure (.lst ((zdQ os T N).map zbm)):=by
  rw [show (zdQ os T N).map zbm=(N.map fun j=>os.getD j ([],0)).filterMap fun o=>some (zbm (nar T o.1,o.2)) by unfold zdQ;simp [Function.comp_def]]
  refine zaw (g':=zbm) rfl (by rw [qaH];exact hl) fun o _=> ?_
  have eb:zai [none,some 1] [some (zaN m os),some (.lst ((cI T).map D.int)),some (.lst ((cI N).map D.int)),some (.lst ((N.map fun j=>os.getD j ([],0)).map zbm))]=[none,some (.lst ((cI T).map D.int))]:=rfl
  have en:=zeN (o:=o) hT
  rw [eb]
  simp only [zaZ,zdD]
  simp only [zbm,tI] at en ⊢
  ac_nf0
  rw [en]
  ac_nf0
 rw [d_7]
 simp only [G_7]
 ac_nf0
 rw [e1]
 ac_nf0
 simp only [qaT] at e2
 simp only [qaT]
 rw [e2]
 ac_nf0
 rw [zfA]
 rfl
theorem zgx (s:Stk m os) {T:List Nat} (hT:T.length<=1000) {c:Nat} {s2:Option D}: ∀ (js:List Nat) {h:Hh} {rs:List (List Int×Int)} {x4 x5 x6:Option D} {P:Out->Hh->Prop},h[c]? = some (.lst (rs.map zbm))->rs.length+js.length<=1000->(∀ j∈js,j<os.length)->
  (∀ y4 y5 y6,P (.nx [some (zaN m os),some (.lst ((cI T).map D.int)),s2,some (.cel c),y4,y5,y6]) (h.set c (.lst ((rs++zdQ os T js).map zbm))))->
  wp (zbu (fun x sd=>do let sd1<-zaC 4 x sd;zcc sd1) (js.map fun (j:Nat)=> .int (j:Int)) [some (zaN m os),some (.lst ((cI T).map D.int)),s2,some (.cel c),x4,x5,x6]) h P
 | [],h,rs,x4,x5,x6,P,e,hl,hj,k=>by
  rw [List.map_nil,zcm,zak]
  have:=k x4 x5 x6
  rw [show zdQ os T []=[] from rfl,List.append_nil,zga e] at this
  exact this
 | j::r,h,rs,x4,x5,x6,P,e,hl,hj,k=>by
  have hln:=(qac.mp e).1
  rw [qaE] at hl
  have hjn:=hj j qau
  have eo:=zdO (os:=os) (i:=(j:Int)) (by omega) (by omega)
  rw [qaB] at eo
  have ih:=fun (x4 x5 x6:Option D)=>zgx s hT (c:=c) (s2:=s2) r (h:=h.set c (.lst ((rs++[(nar T (os.getD j ([],0)).1,(os.getD j ([],0)).2)]).map zbm))) (rs:=rs++[(nar T (os.getD j ([],0)).1,(os.getD j ([],0)).2)]) (x4:=x4) (x5:=x5) (x6:=x6) (P:=P) (qai hln) (by simp;omega) (fun y hy=>hj y (qan _ hy)) fun a b d=>by
   have:=k a b d
   rw [List.set_set,List.append_assoc]
   exact this
  have f1:=zaP (show rs.length+1<=1000 by omega)
  generalize os.getD j ([],0)=o at ih eo
  have e1:zan (zla (zaf 1)) (zbQ 2 (zay (zaC 0) (zay (zaC 1) zbO))) zcT zd9 [none,none,some 5] [some (zaN m os),some (.lst ((cI T).map D.int)),s2,some (.cel c),some (.int (j:Int)),some (.tup (o.1.map D.int)),some (.int o.2)]=pure (.lst ((nar T o.1).map D.int)):=by
   refine ziz rfl hT rfl ⟨.tup (o.1.map D.int),rfl,fun p t=> ?_⟩
   simp only [zcT]
   ac_nf0
   rw [zef]
   ac_nf0
  rw [qaM,zcA]
  generalize zbu (fun x sd=>do let sd1<-zaC 4 x sd;zcc sd1) (r.map fun (j:Nat)=> .int (j:Int))=zbS at ih ⊢
  simp only [zbm,tI,List.map_append,qaM,List.map_nil] at ih eo
  simp only [zcc]
  ac_nf0
  rw [zis]
  ac_nf0
  rw [eo]
  ac_nf0
  simp only [za5,zb2,zba,zbl,zbd,pure_bind,bind_assoc,zar,za4 e,zak]
  ac_nf0
  rw [e1]
  ac_nf0
  simp only [za4 e,zar,zak,qaH,f1,zdc,pure_bind,zb2,zba]
  ac_nf0
  exact ih _ _ _
theorem zjI (s:Stk m os) {T N:List Nat} (hT:T.length<=1000) (hN: ∀ j∈N,j<os.length) (hl:N.length<=1000):Ev (F_35 [zaN m os,.lst ((cI T).map D.int),.lst ((cI N).map D.int)]) (zaN (T.length:Int) (zdQ os T N)):=by
 refine .of_wp fun h=> ?_
 rw [d_35]
 simp only [G_35]
 ac_nf0
 rw [show (cI N).map D.int=N.map fun (j:Nat)=> .int (j:Int) from zco N]
 refine zgx s hT (c:=h.length) N (h:=h++[.lst []]) (rs:=[]) (by simp) (by simpa using hl) hN fun y4 y5 y6=> ?_
 ac_nf0
 rw [zd0,zk5]
 simp only [bind_assoc,zar]
 rw [za4 (ds:=(zdQ os T N).map zbm) (by simp)]
 ac_nf0
 rw [zfA]
 first | exact ⟨rfl,⟨_,rfl⟩⟩ | exact ⟨⟨_,rfl⟩,rfl⟩
structure Sy where
 m:Int
 os:List (List Int×Int)
 ts:List Int
 ns:List Int
noncomputable def nxt (x:Sy):Sy:=⟨((T1 x.m x.os).length:Int),osN x.m x.os,(T1 x.m x.os).map fun j=>x.ts.getD j 0,(N1 x.m x.os).map fun j=>x.ns.getD j 0⟩
noncomputable def zaH (x:Sy):D:= .tup [zaN x.m x.os,tI x.ts,tI x.ns]
structure In (x:Sy):Prop where
 s:Stk x.m x.os
 f:Ful x.m x.os
 tl:x.ts.length=x.m.toNat
 nl:x.ns.length=x.os.length
 td:x.ts.Nodup
 nd:x.ns.Nodup
noncomputable def zfj (x:Sy):Bool:=(T1 x.m x.os).length==x.m.toNat && (N1 x.m x.os).length==x.os.length
noncomputable def siz (x:Sy):Nat:=x.m.toNat+x.os.length
theorem zme {m:Int} {os:List (List Int×Int)} {j:Nat} (h:j∈T1 m os):j<m.toNat:=zcZ h
theorem In.next {x:Sy} (i:In x):In (nxt x) where
 s:=zlL i.s
 f:=zlw i.s i.f
 tl:=by unfold nxt;simp
 nl:=by unfold nxt osN zdQ;simp
 td:=zfw i.td zjA fun j hj=>by rw [i.tl];exact zme hj
 nd:=zfw i.nd zrQ fun j hj=>by rw [i.nl];exact zhM hj
theorem znC {x:Sy} (i:In x) (h:zfj x=true):nxt x=x:=by
 unfold zfj at h
 rw [qaG,beq_iff_eq,beq_iff_eq] at h
 have m0:=i.s.m0
 have e1:=znA h.1
 have e2:=zog h.2
 have e3:osN x.m x.os=x.os:=by
  unfold osN zdQ
  rw [e1,e2]
  refine Eq.trans (List.map_congr_left fun j hj=> ?_) (zd7 (d:=([],0)))
  have mo:=zee (os:=x.os) (List.mem_range.mp hj)
  rw [zj5 (i.s.up _ mo) fun t ht=>by have:=i.s.bd _ mo t ht;omega]
 have e4:(T1 x.m x.os).map (fun j=>x.ts.getD j 0)=x.ts:=by
  rw [e1, <-i.tl]
  exact zd7
 have e5:(N1 x.m x.os).map (fun j=>x.ns.getD j 0)=x.ns:=by
  rw [e2, <-i.nl]
  exact zd7
 unfold nxt
 rw [e3,e4,e5,h.1]
 have e6:((x.m.toNat:Nat):Int)=x.m:=by omega
 rw [e6]
theorem zm4 {x:Sy} (h:zfj x=false):siz (nxt x)<siz x:=by
 unfold zfj at h
 have h1:=zlC (m:=x.m) (os:=x.os)
 have h2:=zmr (m:=x.m) (os:=x.os)
 have e1:(nxt x).m.toNat=(T1 x.m x.os).length:=by unfold nxt;simp
 have e2:(nxt x).os.length=(N1 x.m x.os).length:=by unfold nxt osN zdQ;simp
 unfold siz
 rw [e1,e2]
 rw [Bool.and_eq_false_iff,beq_eq_false_iff_ne,beq_eq_false_iff_ne] at h
 omega
noncomputable def pdS (x:Sy):PyData:= .tuple [.tuple [.int x.m,.tuple (x.os.map pdO)],.tuple (x.ts.map PyData.int),.tuple (x.ns.map PyData.int)]
theorem zkt (x:Sy):pd (zaH x)=some (pdS x):=by
 simp only [zaH,zaN,tI,pd,pdL,zhR,zbi,Option.map,pdS]
theorem ziB (x:Sy):(pdS x).canLay0=true:=by simp [pdS,PyData.canLay0,PyData.canLayAll0,zaJ,zfU]
theorem ziG (x:Sy):(pdS x).depth<=10:=by
 have:=zkZ x.os
 simp only [pdS,PyData.depth,PyData.depthAll,zaU]
 omega
theorem zhJ (x y:Sy):zfk (pdS x) (pdS y)=true:=by
 have h1:=ziG x
 have h2:=ziG y
 unfold zfk
 rw [ziB,ziB]
 simp
 omega
theorem zf2 (x:Sy):PyData.eqv (pdS x) (pdS x)=true:=by
 simp [pdS,PyData.eqv,PyData.eqvAll,zcs,zh4]
theorem znr {x:Sy} (i:In x):dNe (zaH (nxt x)) (zaH x)=pure (.bl (!zfj x)):=by
 rw [zjY (zkt _) (zkt _) (zhJ _ _)]
 cases h:zfj x with
 | true=>
  rw [znC i h,zf2]
 | false=>
  have hd:((nxt x).ts==x.ts && (nxt x).ns==x.ns)=false:=by
   cases hz:((nxt x).ts==x.ts && (nxt x).ns==x.ns) with
   | false=>rfl
   | true=>
    rw [qaG,beq_iff_eq,beq_iff_eq] at hz
    have l1:=congrArg List.length hz.1
    have l2:=congrArg List.length hz.2
    have l3:(nxt x).ts.length=(T1 x.m x.os).length:=by unfold nxt;simp
    have l4:(nxt x).ns.length=(N1 x.m x.os).length:=by unfold nxt;simp
    rw [l3,i.tl] at l1
    rw [l4,i.nl] at l2
    unfold zfj at h
    rw [l1,l2] at h
    simp at h
  have e:PyData.eqv (pdS (nxt x)) (pdS x)=false:=by
   simp only [pdS,PyData.eqv,PyData.eqvAll,zcs,Bool.and_true]
   rw [hd,Bool.and_false]
  rw [e]
theorem zgu {x:Sy} (i:In x):Ev (F_21 [zaH x]) (zaH (nxt x)):=by
 obtain ⟨m,os,ts,ns⟩:=x
 have s:=i.s
 have tl:=i.tl
 have nl:=i.nl
 simp only at s tl nl
 have m0:=s.m0
 have m1:=s.m1
 have ol:=s.len
 have o1l:=zmm (os:=os)
 have t1l:=zlC (m:=m) (os:=os)
 have n1l:=zmr (m:=m) (os:=os)
 have hf:=(ze6 (m:=m) (os:=os) (by omega)).mpr i.f
 have hf1:=(ze6 (m:=m) (os:=R1 os) (by omega)).mpr (zmA i.f)
 have e1:=zkB (S:=So os) (n:=os.length) (by omega)
 have e2:=zkB (S:=Sth (R1 os)) (n:=m.toNat) (by omega)
 have e3:=zkv s (T:=List.range m.toNat) (N:=O1 os) (by simp;omega) (fun j hj=>zcZ hj) (by omega)
 rw [zkl s,List.length_range,show ((m.toNat:Nat):Int)=m by omega] at e3
 rw [show ((m.toNat:Nat):Int)=m by omega] at e2
 have e4:=zkv s (T:=T1 m os) (N:=N1 m os) (by omega) (fun j hj=>zhM hj) (by omega)
 have e5:=zd1 (n:=m.toNat) (by omega)
 rw [show ((m.toNat:Nat):Int)=m by omega] at e5
 have e6:zan (iSq (zaf 2)) (zaC 0) zb9 zb7 [none,some 1,some 4] [some (zaH ⟨m,os,ts,ns⟩),some (zaN m os),some (.lst ((cI (O1 os)).map D.int)),some (.lst ((cI (List.range m.toNat)).map D.int)),some (.lst ((cI (T1 m os)).map D.int)),none,none]=pure (.lst ((cI (N1 m os)).map D.int)):=by
  rw [zco (N1 m os)]
  unfold N1
  rw [<- zaz]
  refine zaw (g':=fun (j:Nat)=> .int (j:Int)) (by ac_nf0;rw [zco]) (by omega) fun j hj=> ?_
  have eb:zai [none,some 1,some 4] [some (zaH ⟨m,os,ts,ns⟩),some (zaN m os),some (.lst ((cI (O1 os)).map D.int)),some (.lst ((cI (List.range m.toNat)).map D.int)),some (.lst ((cI (T1 m os)).map D.int)),none,none]=[none,some (zaN m os),some (.lst ((cI (T1 m os)).map D.int))]:=rfl
  have hjl:=zcZ hj
  have eo:=zdO (os:=os) (i:=(j:Int)) (by omega) (by omega)
  rw [qaB] at eo
  have en:=zeN (o:=os.getD j ([],0)) (T:=T1 m os) (by omega)
  rw [eb]
  simp only [zaZ,zb9,zb7]
  generalize os.getD j ([],0)=o at eo en ⊢
  simp only [L3.zmz,zrq]
  simp only [zbm,tI] at eo en
  ac_nf0
  rw [zis]
  ac_nf0
  rw [eo]
  ac_nf0
  rw [en]
  simp only [zll]
  ac_nf0
  simp only [List.isEmpty_map]
  split<;>rfl
 have e7: ∀ {sd:Sd},zai [none,some 0] sd=[none,some (zaH ⟨m,os,ts,ns⟩)]->sd[4]? = some (some (.lst ((cI (T1 m os)).map D.int)))->zan (iSq (zaf 4)) (zaC 0) (fun _=>pure true) zb8 [none,some 0] sd=pure (.lst (((T1 m os).map fun j=>ts.getD j 0).map D.int)):=fun {sd} eb h4=>by
  rw [qaT,show (T1 m os).map (D.int∘fun j=>ts.getD j 0)=(T1 m os).filterMap fun j=>some (.int (ts.getD j 0)) by simp [Function.comp_def]]
  refine zaw (g':=fun (j:Nat)=> .int (j:Int)) ?_ (by omega) fun j hj=> ?_
  ·have:zaf 4 sd=pure (.lst ((cI (T1 m os)).map D.int)):=by
    unfold zaf
    rw [h4]
   ac_nf0
   rw [this]
   ac_nf0
   rw [zco]
  ·have hjl:=zme hj
   have ea:=zgb (xs:=ts) (j:=j) (by omega)
   have e0:dIx (zaH ⟨m,os,ts,ns⟩) (.int 1)=pure (.tup (ts.map D.int)):=rfl
   rw [eb]
   simp only [zaZ,zb8]
   ac_nf0
   rw [e0]
   ac_nf0
   rw [ea]
   ac_nf0
 have e8: ∀ {sd:Sd},zai [none,some 0] sd=[none,some (zaH ⟨m,os,ts,ns⟩)]->sd[2]? = some (some (.lst ((cI (N1 m os)).map D.int)))->zan (iSq (zaf 2)) (zaC 0) (fun _=>pure true) zb5 [none,some 0] sd=pure (.lst (((N1 m os).map fun j=>ns.getD j 0).map D.int)):=fun {sd} eb h4=>by
  rw [qaT,show (N1 m os).map (D.int∘fun j=>ns.getD j 0)=(N1 m os).filterMap fun j=>some (.int (ns.getD j 0)) by simp [Function.comp_def]]
  refine zaw (g':=fun (j:Nat)=> .int (j:Int)) ?_ (by omega) fun j hj=> ?_
  ·have:zaf 2 sd=pure (.lst ((cI (N1 m os)).map D.int)):=by
    unfold zaf
    rw [h4]
   ac_nf0
   rw [this]
   ac_nf0
   rw [zco]
  ·have hjl:=zhM hj
   have ea:=zgb (xs:=ns) (j:=j) (by omega)
   have e0:dIx (zaH ⟨m,os,ts,ns⟩) (.int 2)=pure (.tup (ns.map D.int)):=rfl
   rw [eb]
   simp only [zaZ,zb5]
   ac_nf0
   rw [e0]
   ac_nf0
   rw [ea]
   ac_nf0
 have e0:dIx (zaH ⟨m,os,ts,ns⟩) (.int 0)=pure (zaN m os):=rfl
 refine .of_wp fun h=> ?_
 rw [d_21]
 simp only [G_21]
 ac_nf0
 rw [e0]
 ac_nf0
 rw [zis]
 ac_nf0
 refine (zrP s hf).wp fun h1 g1=> ?_
 ac_nf0
 rw [e1]
 ac_nf0
 rw [znG]
 ac_nf0
 rw [e5]
 ac_nf0
 rw [show kept (So os) os.length=O1 os from rfl,e3]
 ac_nf0
 refine (zsM (zmW s) hf1).wp fun h2 g2=> ?_
 ac_nf0
 rw [e2]
 ac_nf0
 rw [show kept (Sth (R1 os)) m.toNat=T1 m os from rfl,e6]
 ac_nf0
 rw [e7 rfl rfl]
 ac_nf0
 rw [e8 rfl rfl]
 ac_nf0
 rw [e4]
 ac_nf0
 have g3:=g1.trans g2
 first | exact ⟨rfl,g3⟩ | exact ⟨g3,rfl⟩ | exact g3
noncomputable def zck:Nat->Sy->List Sy
 | 0,_=>[]
 | f+1,x=>if zfj x=true then [] else x::zck f (nxt x)
noncomputable def zbK:Nat->Sy->Sy
 | 0,x=>x
 | f+1,x=>if zfj x=true then x else zbK f (nxt x)
theorem zjq {x:Sy} (i:In x):0<siz x:=by
 have:=i.s.m0
 unfold siz
 omega
theorem zeS: ∀ (f:Nat) (x:Sy),(zck f x).length<=f
 | 0,x=>qaV _
 | f+1,x=>by
  rw [zck]
  split
  ·exact Nat.zero_le _
  ·rw [qaE]
   exact Nat.succ_le_succ (zeS f _)
theorem zhX: ∀ (f:Nat) {x:Sy},In x-> ∀ y∈zck f x++[zbK f x],In y
 | 0,x,i,y,hy=>by
  rw [zck,zbK] at hy
  have:y=x:=by simpa using hy
  exact this▸i
 | f+1,x,i,y,hy=>by
  rw [zck,zbK] at hy
  split at hy
  ·have:y=x:=by simpa using hy
   exact this▸i
  ·rcases qaP.mp hy with rfl | hy
   ·exact i
   ·exact zhX f i.next y hy
theorem ziS: ∀ (f:Nat) (x:Sy),(zck f x++[zbK f x])[0]? = some x
 | 0,x=>rfl
 | f+1,x=>by
  rw [zck,zbK]
  split<;>rfl
theorem zfG: ∀ (f:Nat) (x:Sy) (k:Nat) (y:Sy),k<(zck f x).length->(zck f x)[k]? = some y->(zck f x++[zbK f x])[k]? = some y/\(zck f x++[zbK f x])[k+1]? = some (nxt y)
 | 0,x,k,y,hk,_=>by cases hk
 | f+1,x,k,y,hk,e=>by
  rw [zck] at hk e
  rw [zck,zbK]
  split at hk
  ·cases hk
  ·rename_i hs
   rw [qa5 hs] at e ⊢
   rw [qa5 hs]
   cases k with
   | zero=>
    have e:x=y:=by simpa using e
    subst e
    refine ⟨rfl,?_⟩
    rw [List.cons_append,List.getElem?_cons_succ]
    exact ziS f _
   | succ k=>
    rw [List.getElem?_cons_succ] at e
    rw [List.cons_append,List.getElem?_cons_succ,List.getElem?_cons_succ]
    exact zfG f _ k y (by simpa using hk) e
theorem zjf {x:Sy} (i:In x) {c:Nat} {done:List Sy} {s0:Option D} {h:Hh} {P:Bool->Hh->Prop} (e:h[c]? = some (.lst ((done++[x]).map zaH))) (k:P (!zfj x) h):wp (zaV [s0,some (.cel c),some (zaH (nxt x))]) h P:=by
 have en:=znr i
 have ea:atI ((done++[x]).map zaH) (-1)=some (zaH x):=by
  rw [List.map_append]
  exact zfS
 simp only [zaV]
 generalize zaH (nxt x)=d1 at en ⊢
 ac_nf0
 simp only [zlY,bind_assoc,zar,za4 e,ea,ziQ,zak]
 rw [en]
 ac_nf0
 exact k
theorem ziR {c:Nat} {s0:Option D} (f:Nat): ∀ {x:Sy} {done:List Sy} {h:Hh} {P:Out->Hh->Prop} (N:Nat),In x->siz x<=f->f<N->done.length+f<=500->h[c]? = some (.lst ((done++[x]).map zaH))->
  (∀ y2 h',(∀ j,j<h.length->j≠c->h'[j]? = h[j]?)->h.length<=h'.length->h'[c]? = some (.lst ((done++(zck f x++[zbK f x])).map zaH))->P (.nx [s0,some (.cel c),y2]) h')->
  wp (zeg zaV za8 N [s0,some (.cel c),some (zaH (nxt x))]) h P:=by
 induction f with
 | zero=>
  intro x done h P N i hs
  have:=zjq i
  omega
 | succ f ih=>
  intro x done h P N i hs hN hd e k
  obtain ⟨N,rfl⟩: ∃ N',N=N'+1:=⟨N - 1,by omega⟩
  rw [zhz,zar]
  refine zjf i e ?_
  rw [zck,zbK] at k
  cases hsm:zfj x with
  | true=>
   rw [hsm] at k
   simp only [if_true] at k
   ac_nf0
   exact k _ h (fun _ _ _=>rfl) (qaV _) e
  | false=>
   rw [hsm] at k
   simp only [qax,if_false] at k
   have hlt:=zm4 hsm
   have hln:=(qac.mp e).1
   have f1:=zaP (show (done++[x]).length+1<=1000 by simp;omega)
   have eb:=zgu i.next
   rw [Bool.not_false,qa4 rfl]
   have ih':=fun (h'':Hh) (q0: ∀ j,j<h.length->j≠c->h''[j]? = h[j]?) (q1:h.length<=h''.length) (q:h''[c]? = some (.lst ((done++[x]++[nxt x]).map zaH)))=>ih (x:=nxt x) (done:=done++[x]) (h:=h'') (P:=P) N i.next (by omega) (by omega) (by simp;omega) q fun y2 h' w1 w2 w3=>k y2 h' (fun j jl jc=>by rw [w1 j (by omega) jc,q0 j jl jc]) (by omega) (by rw [w3,List.append_assoc,List.cons_append,List.nil_append,List.cons_append])
   generalize zeg zaV za8 N=zbS at ih' ⊢
   simp only [za8]
   generalize zaH (nxt (nxt x))=d2 at eb ih' ⊢
   rw [List.map_append (l₁:=done++[x])] at ih'
   simp only [qaM,List.map_nil] at ih'
   generalize zaH (nxt x)=d1 at eb ih' ⊢
   ac_nf0
   simp only [za5,zb2,zba,zbl,zbd,pure_bind,bind_assoc,zar,za4 e,zak]
   ac_nf0
   try simp only [za4 e,zar,zak,zdc,pure_bind,zb2,zba]
   try simp only [qav,List.length_singleton,qaE,qaJ] at f1
   try simp only [qaH,qav,List.length_singleton,qaE,qaJ]
   rw [f1]
   ac_nf0
   refine eb.wp fun h2 g2=> ?_
   obtain ⟨t,rfl⟩:=g2
   ac_nf0
   refine ih' _ (fun j jl jc=> ?_) (by rw [qav,qaI];omega) ?_
   ·rw [qad (by rw [qaI];exact jl),qao (Ne.symm jc)]
   ·rw [qad (by rw [qaI];exact hln),qai hln]
    try rfl
noncomputable def x0 (m:Int) (os:List (List Int×Int)):Sy:=⟨m,os,cI (List.range m.toNat),cI (List.range os.length)⟩
theorem zqU {n:Nat}:(cI (List.range n)).Nodup:=(zdf n).imp fun h=>by omega
theorem znv {m:Int} {os:List (List Int×Int)} (s:Stk m os) (hf:Ful m os):In (x0 m os) where
 s:=s
 f:=hf
 tl:=by show (cI _).length=_;rw [zfA,List.length_range];rfl
 nl:=by show (cI _).length=_;rw [zfA,List.length_range];rfl
 td:=zqU
 nd:=zqU
noncomputable def stays (m:Int) (os:List (List Int×Int)):List Sy:=zck 25 (x0 m os)++[zbK 25 (x0 m os)]
theorem ziE (s:Stk m os) (hf:Ful m os):Ev (F_20 [zaN m os]) (.lst ((stays m os).map zaH)):=by
 have i:=znv s hf
 have m0:=s.m0
 have m1:=s.m1
 have ol:=s.len
 have eb:=zgu i
 have r1:=zfO (j:=m) (by omega) (by omega)
 have r2:=zfO (j:=(os.length:Int)) (by omega) (by omega)
 rw [qaB] at r2
 have hsz:siz (x0 m os)<=25:=by
  show m.toNat+os.length<=25
  omega
 have hst:zaH (x0 m os)= .tup [zaN m os,tI (cI (List.range m.toNat)),tI (cI (List.range os.length))]:=rfl
 refine .of_wp fun h=> ?_
 rw [d_20]
 simp only [G_20]
 unfold cI at hst
 simp only [tI] at r1 r2 hst
 ac_nf0
 rw [znG]
 ac_nf0
 rw [r1]
 ac_nf0
 rw [zis]
 ac_nf0
 rw [r2]
 ac_nf0
 rw [<- hst]
 have e1:(h++[C.lst [zaH (x0 m os)]])[h.length]? = some (.lst [zaH (x0 m os)]):=by simp
 have ea:atI [zaH (x0 m os)] (-1)=some (zaH (x0 m os)):=rfl
 simp only [zlY,bind_assoc,zar,za4 e1,ea,ziQ,zak]
 refine eb.wp fun h1 g1=> ?_
 obtain ⟨t,rfl⟩:=g1
 ac_nf0
 refine ziR (c:=h.length) (done:=[]) 25 1000 i hsz (by decide) (by decide) (by simp) fun y2 h2 q0 q1 q2=> ?_
 ac_nf0
 rw [List.nil_append] at q2
 have hln:h.length<h2.length:=(qac.mp q2).1
 refine zio q2 ?_
 ac_nf0
 have g:Gro h (h2.set h.length .dead):=Kp.gro ⟨by rw [qaI];omega,fun j hj=>by
   rw [qao (by omega),q0 j (by simp;omega) (by omega),qad hj]⟩
 first | exact ⟨rfl,g⟩ | exact ⟨g,rfl⟩ | exact g
theorem zg4 (s:Stk m os) (hf:Ful m os):Ev (F_11 [zaN m os]) (zaH (zbK 25 (x0 m os))):=by
 have ea:atI ((stays m os).map zaH) (-1)=some (zaH (zbK 25 (x0 m os))):=by
  unfold stays
  rw [List.map_append]
  exact zfS
 refine .of_wp fun h=> ?_
 rw [d_11]
 simp only [G_11]
 ac_nf0
 refine (ziE s hf).wp fun h1 g1=> ?_
 ac_nf0
 rw [ea]
 ac_nf0
 first | exact ⟨trivial,g1⟩ | exact ⟨rfl,g1⟩ | exact ⟨g1,rfl⟩ | exact g1
noncomputable def zjJ (x:Sy):D:= .tup [tI (zd6 x.ns (nxt x).ns),tI (zd6 x.ts (nxt x).ts)]
theorem zfN {xs ys:List Int} (hl:xs.length<=1000):F_24 [tI xs,tI ys]=pure (tI (zd6 xs ys)):=by
 have e1:zan (iSq (zaf 0)) (zaC 0) zdK zdE [none,some 1] [some (tI xs),some (tI ys)]=pure (.lst ((zd6 xs ys).map D.int)):=by
  unfold zd6
  rw [<- zaz]
  refine zaw (g':=D.int) (xs:=xs) (by ac_nf0) hl fun t _=> ?_
  have eb:zai [none,some 1] [some (tI xs),some (tI ys)]=[none,some (tI ys)]:=rfl
  rw [eb]
  simp only [zaZ,zdK,zdE,tI]
  ac_nf0
  rw [zes]
  ac_nf0
  split<;>rfl
 rw [d_24]
 simp only [G_24]
 simp only [tI] at e1 ⊢
 ac_nf0
 rw [e1]
 ac_nf0
theorem zpt {x:Sy} (i:In x):F_23 [zaH x,zaH (nxt x)]=pure (zjJ x):=by
 have h1:=i.nl
 have h2:=i.tl
 have h3:=i.s.len
 have h4:=i.s.m1
 have e1:=zfN (xs:=x.ns) (ys:=(nxt x).ns) (by omega)
 have e2:=zfN (xs:=x.ts) (ys:=(nxt x).ts) (by omega)
 have a1: ∀ y:Sy,dIx (zaH y) (.int 1)=pure (tI y.ts):=fun _=>rfl
 have a2: ∀ y:Sy,dIx (zaH y) (.int 2)=pure (tI y.ns):=fun _=>rfl
 rw [d_23]
 simp only [G_23]
 unfold zjJ
 generalize hn:nxt x=y at e1 e2 ⊢
 simp only [tI] at a1 a2 e1 e2 ⊢
 ac_nf0
 rw [a2]
 ac_nf0
 rw [a2]
 ac_nf0
 rw [e1]
 ac_nf0
 rw [a1]
 ac_nf0
 rw [a1]
 ac_nf0
 rw [e2]
 ac_nf0
noncomputable def zhw (m:Int) (os:List (List Int×Int)):List D:=(zck 25 (x0 m os)).map zjJ
theorem zk0 (s:Stk m os) (hf:Ful m os) {h:Hh} {P:D->Hh->Prop} (k: ∀ h1,Gro h h1->P (.cel h1.length) (h1++[.lst (zhw m os)])):wp (F_12 [zaN m os]) h P:=by
 have i:=znv s hf
 have cl:=zeS 25 (x0 m os)
 have hin:=zhX 25 i
 have hnx:=zfG 25 (x0 m os)
 have ec:zan (zkV (zad (cK (.int 1)) (zad (zaF zdC (zad (zaf 1) zal)) zal))) (zaC 0) (fun _=>pure true) zeq [none,some 1] [some (zaN m os),some (.lst ((stays m os).map zaH))]=pure (.lst (zhw m os)):=by
  unfold zhw stays
  generalize zck 25 (x0 m os)=ch at*
  generalize zbK 25 (x0 m os)=la at*
  have ef:(List.range ch.length).filterMap (fun k=>some (zjJ (ch.getD k la)))=ch.map zjJ:=by
   rw [show (List.range ch.length).filterMap (fun k=>some (zjJ (ch.getD k la)))=((List.range ch.length).map fun k=>ch.getD k la).map zjJ by rw [qaT];simp [Function.comp_def],zd7]
  rw [<- ef]
  refine zaw (g':=fun (k:Nat)=> .int (1+(k:Int))) ?_ (by simp;omega) fun k hk=> ?_
  ·have er: ∀ n:Nat,n<=500->zki [.int 1,.int ((n+1:Nat):Int)]=pure ((List.range n).map fun (k:Nat)=> .int (1+(k:Int))):=fun n hn=>by
    show (if zbL 1=true/\zbL ((n+1:Nat):Int)=true then (pure (zeh 1 (((n+1:Nat):Int) - 1).toNat):M (List D)) else M.bad)=_
    rw [qa4 ⟨by decide,by unfold zbL;simp;omega⟩]
    rw [show (((n+1:Nat):Int) - 1).toNat=n by omega]
    rfl
   show (do let ds<-zad (cK (.int 1)) (zad (zaF zdC (zad (zaf 1) zal)) zal) _;zki ds)=_
   ac_nf0
   rw [er _ (by omega)]
  ·have hk:=List.mem_range.mp hk
   have eb:zai [none,some 1] [some (zaN m os),some (.lst ((ch++[la]).map zaH))]=[none,some (.lst ((ch++[la]).map zaH))]:=rfl
   have ek:ch[k]? = some ch[k]:=qaf hk
   obtain ⟨n1,n2⟩:=hnx k ch[k] hk ek
   have hi:=hin ch[k] (List.mem_append_left _ (List.getElem_mem hk))
   have a1:atI ((ch++[la]).map zaH) (k:Int)=some (zaH ch[k]):=zdl (by rw [List.getElem?_map,n1];rfl)
   have a2:atI ((ch++[la]).map zaH) (1+(k:Int))=some (zaH (nxt ch[k])):=by
    rw [show 1+(k:Int)=((k+1:Nat):Int) by omega]
    exact zdl (by rw [List.getElem?_map,n2];rfl)
   rw [eb,show ch.getD k la=ch[k] by simp [List.getD,hk]]
   simp only [zaZ,zeq]
   ac_nf0
   rw [show 1+(k:Int) - 1=(k:Int) by omega,a1]
   ac_nf0
   rw [a2]
   ac_nf0
   rw [zpt hi]
   ac_nf0
 have ec:=zlo ec
 rw [d_12]
 simp only [G_12]
 ac_nf0
 refine (ziE s hf).wp fun h1 g1=> ?_
 ac_nf0
 rw [ec,zgR]
 ac_nf0
 exact k _ g1
theorem zir {S:Nat->Nat->Bool} {n:Nat}:(zbW S n).length<=n:=by
 have:=List.length_filter_le (fun one=> !(zcd S n one).isEmpty) (List.range n)
 rw [List.length_range] at this
 exact this
theorem zjh {S:Nat->Nat->Bool} {n:Nat}:(cI (zbW S n)).isEmpty=((kept S n).length==n):=by
 have key:zbW S n=[]↔(kept S n).length=n:=by
  constructor
  ·intro h
   have e:kept S n=List.range n:=List.filter_eq_self.mpr fun j hj=>by
    cases hr:(zcd S n j).isEmpty with
    | true=>rfl
    | false=>
     have:j∈zbW S n:=List.mem_filter.mpr ⟨hj,by rw [hr];rfl⟩
     rw [h] at this
     cases this
   rw [e,List.length_range]
  ·intro h
   have e:kept S n=List.range n:=zdr (by rw [List.length_range];exact h)
   refine List.filter_eq_nil_iff.mpr fun j hj=> ?_
   rw [<- e] at hj
   rw [(List.mem_filter.mp hj).2]
   decide
 unfold cI
 rw [List.isEmpty_map,Bool.eq_iff_iff,List.isEmpty_iff,beq_iff_eq]
 exact key
theorem zk4 {S:Nat->Nat->Bool} {n:Nat}:zbW S n=(List.range n).filter fun j=> !(kept S n).any (· == j):=by
 unfold zbW
 refine List.filter_congr fun j hj=> ?_
 congr 1
 rw [Bool.eq_iff_iff,zfT]
 unfold kept
 rw [List.mem_filter]
 exact ⟨fun z=>⟨hj,z⟩,fun z=>z.2⟩
theorem zlb {fi:FA} {src:List (Option Nat)} {sd:Sd} {te:FE} {S:Nat->Nat->Bool} {n:Nat} (he:te=zaf 0) (hn:n<=500) (hi:fi sd=pure (zhP S n)) (eb:zai src sd=[none,none]):
  zan fi (zbQ 2 (zay (zaC 0) (zay (zaC 1) zbO))) (fun _=>pure true) te src sd=pure (.lst ((cI (zbW S n)).map D.int)):=by
 have gl:=zir (S:=S) (n:=n)
 rw [zco,show (zbW S n).map (fun (j:Nat)=>D.int (j:Int))=(zbW S n).filterMap fun (j:Nat)=>some (.int (j:Int)) by simp]
 refine zaw (g':=zjj S n) (by rw [hi,zkb]) (by omega) fun j _=> ?_
 rw [eb,he]
 simp only [zaZ,zjj]
 ac_nf0
theorem zg8 {fi:FA} {src:List (Option Nat)} {sd:Sd} {te:FE} {S:Nat->Nat->Bool} {n:Nat} (he:te=zaf 0) (hn:n<=500) (hi:Ev (fi sd) (zhP S n)) (eb:zai src sd=[none,none]):
  Ev (zan fi (zbQ 2 (zay (zaC 0) (zay (zaC 1) zbO))) (fun _=>pure true) te src sd) (.lst ((cI (zbW S n)).map D.int)):=by
 have e1:=zlb (fi:=fun _=>pure (zhP S n)) (src:=src) (sd:=sd) he hn rfl eb
 unfold zan at e1 ⊢
 rw [pure_bind] at e1
 exact Ev.bind hi (.of e1)
theorem zoJ {T:List Nat} {xs:List Int}:(xs.filter fun t=>(cI T).any (· == t)).isEmpty=(nar T xs).isEmpty:=by
 rw [Bool.eq_iff_iff,List.isEmpty_iff,List.isEmpty_iff,List.filter_eq_nil_iff]
 constructor
 ·intro h
  refine List.eq_nil_iff_forall_not_mem.mpr fun p hp=> ?_
  obtain ⟨k,rfl,h1,h2⟩:=zfc.mp hp
  refine h _ h2 ?_
  rw [List.any_eq_true]
  refine ⟨(T.getD k 0:Int),qaU.mpr ⟨T.getD k 0,?_,rfl⟩,by simp⟩
  simp [List.getD,h1]
 ·intro h t ht hb
  obtain ⟨z,hz,e⟩:=List.any_eq_true.mp hb
  rw [beq_iff_eq] at e
  subst e
  obtain ⟨j,hj,rfl⟩:=qaU.mp hz
  obtain ⟨k,hk,rfl⟩:=List.mem_iff_getElem.mp hj
  have:(k:Int)∈nar T xs:=zfc.mpr ⟨k,rfl,hk,by simpa [List.getD,hk] using ht⟩
  rw [h] at this
  cases this
theorem zeG {fi:FA} {src:List (Option Nat)} {sd:Sd} {te:FE} {J:List Nat} {xs:List Int} {d:D} (hJ: ∀ j∈J,j<xs.length) (hl:J.length<=1000) (hi:fi sd=pure ((cI J).map D.int)) (eb:zai src sd=[none,some d]) (he: ∀ j:Int,te [some (.int j),some d]=ofO (atI (xs.map D.int) j)):
  zan fi (zaC 0) (fun _=>pure true) te src sd=pure (.lst ((J.map fun j=>xs.getD j 0).map D.int)):=by
 rw [qaT,show J.map (D.int∘fun j=>xs.getD j 0)=J.filterMap fun j=>some (.int (xs.getD j 0)) by simp [Function.comp_def]]
 refine zaw (g':=fun (j:Nat)=> .int (j:Int)) (by rw [hi,zco]) hl fun j hj=> ?_
 rw [eb]
 simp only [zaZ]
 ac_nf0
 rw [he,zgb (hJ j hj)]
 ac_nf0
noncomputable def zeH (x:Sy):D:= .tup [.lst (x.ts.map D.int),.lst (x.ns.map D.int)]
theorem znm {x:Sy} (i:In x) {c:Nat} {rs:List D} {x3 x4 x5 x6 x7:Option D} {h:Hh} {P:Out->Hh->Prop} (hc:h[c]? = some (.lst rs)) (hrl:rs.length<=500)
  (k0:zfj x=true-> ∀ h',Gro h h'->P (.rt (.tup [zaH x,.lst rs])) (h'.set c .dead))
  (k1:zfj x=false-> ∀ y3 y4 y5 y6 y7 h',(∀ j,j<h.length->j≠c->h'[j]? = h[j]?)->h.length<=h'.length->h'[c]? = some (.lst (rs++[zjJ x]))->P (.nx [some (zaN (nxt x).m (nxt x).os),some (zeH (nxt x)),some (.cel c),y3,y4,y5,y6,y7]) h'):
  wp (zbv [some (zaN x.m x.os),some (zeH x),some (.cel c),x3,x4,x5,x6,x7]) h P:=by
 obtain ⟨m,os,ts,ns⟩:=x
 have s:=i.s
 have tl:=i.tl
 have nl:=i.nl
 have td:=i.td
 have nd:=i.nd
 simp only at s tl nl td nd
 have m0:=s.m0
 have m1:=s.m1
 have ol:=s.len
 have o1l:=zmm (os:=os)
 have t1l:=zlC (m:=m) (os:=os)
 have n1l:=zmr (m:=m) (os:=os)
 have em:((m.toNat:Nat):Int)=m:=by omega
 have e5:=zd1 (n:=m.toNat) (by omega)
 rw [em] at e5
 have e3:=zjI s (T:=List.range m.toNat) (N:=O1 os) (by simp;omega) (fun j hj=>zcZ hj) (by omega)
 rw [zkl s,List.length_range,em] at e3
 have e4:=zjI s (T:=T1 m os) (N:=N1 m os) (by omega) (fun j hj=>zhM hj) (by omega)
 have n0: ∀ x:Sy,dIx (zeH x) (.int 0)=pure (.lst (x.ts.map D.int)):=fun _=>rfl
 have n1: ∀ x:Sy,dIx (zeH x) (.int 1)=pure (.lst (x.ns.map D.int)):=fun _=>rfl
 have f1:=zaP (show rs.length+1<=1000 by omega)
 simp only [zbv]
 have c1:Ev (zan (iSq (zaF (zax 2 F_34) (zad (zaf 0) (zad (cK (.bl false)) zal)))) (zbQ 2 (zay (zaC 0) (zay (zaC 1) zbO))) (fun _=>pure true) zdy [none,none] [some (zaN m os),some (zeH ⟨m,os,ts,ns⟩),some (.cel c),x3,x4,x5,x6,x7]) (.lst ((cI (zbW (So os) os.length)).map D.int)):=by
  refine zg8 rfl (by omega) ?_ rfl
  ac_nf0
  exact Ev.bind (lrO s) (.of rfl)
 have c2: ∀ {y3:Option D},y3=some (.lst ((cI (zbW (So os) os.length)).map D.int))->zan (zey (zad (zaF zdC (zad (cOp dIx (zaf 0) (cK (.int 1))) zal)) zal)) (zaC 0) zdz zdx [none,some 3] [some (zaN m os),some (zeH ⟨m,os,ts,ns⟩),some (.cel c),y3,x4,x5,x6,x7]=pure (.lst ((cI (O1 os)).map D.int)):=fun {y3} hy=>by
  subst hy
  refine zfd rfl rfl (by omega) ?_ rfl
  ac_nf0
  rw [zis]
  ac_nf0
  rw [zby (by omega) (by omega),qaB,zbn,qaT]
  rfl
 have c3: ∀ {y3 y4 y5:Option D},y4=some (.lst ((cI (O1 os)).map D.int))->y5=some (.lst ((cI (List.range m.toNat)).map D.int))->Ev (zan (iSq (zaF (zax 2 F_34) (zad (zaF (zax 3 F_35) (zad (zaf 0) (zad (zaf 5) (zad (zaf 4) zal)))) (zad (cK (.bl true)) zal)))) (zbQ 2 (zay (zaC 0) (zay (zaC 1) zbO))) (fun _=>pure true) zdv [none,none] [some (zaN m os),some (zeH ⟨m,os,ts,ns⟩),some (.cel c),y3,y4,y5,x6,x7]) (.lst ((cI (zbW (Sth (R1 os)) m.toNat)).map D.int)):=fun {y3 y4 y5} h4 h5=>by
  subst h4 h5
  refine zg8 rfl (by omega) ?_ rfl
  ac_nf0
  exact Ev.bind e3 (Ev.bind (lrT (zmW s)) (.of rfl))
 have c4: ∀ {y3 y4 y5 y6:Option D},y5=some (.lst ((cI (List.range m.toNat)).map D.int))->y6=some (.lst ((cI (zbW (Sth (R1 os)) m.toNat)).map D.int))->zan (iSq (zaf 5)) (zaC 0) zdB zdw [none,some 6] [some (zaN m os),some (zeH ⟨m,os,ts,ns⟩),some (.cel c),y3,y4,y5,y6,x7]=pure (.lst ((cI (T1 m os)).map D.int)):=fun {y3 y4 y5 y6} h5 h6=>by
  subst h5 h6
  refine zfd rfl rfl (by omega) ?_ rfl
  ac_nf0
  rw [zco]
 have c5: ∀ {y3 y4 y5 y6 y7:Option D},y4=some (.lst ((cI (O1 os)).map D.int))->y7=some (.lst ((cI (T1 m os)).map D.int))->zan (iSq (zaf 4)) (zaC 0) zcC zcv [none,some 0,some 7] [some (zaN m os),some (zeH ⟨m,os,ts,ns⟩),some (.cel c),y3,y4,y5,y6,y7]=pure (.lst ((cI (N1 m os)).map D.int)):=fun {y3 y4 y5 y6 y7} h4 h7=>by
  subst h4 h7
  rw [zco (N1 m os)]
  unfold N1
  rw [<- zaz]
  refine zaw (g':=fun (j:Nat)=> .int (j:Int)) (by ac_nf0;rw [zco]) (by omega) fun j hj=> ?_
  have hjl:=zcZ hj
  have eo:=zdO (os:=os) (i:=(j:Int)) (by omega) (by omega)
  rw [qaB] at eo
  have mo:=s.olen _ (zee (os:=os) hjl)
  rw [show zai [none,some 0,some 7] [some (zaN m os),some (zeH ⟨m,os,ts,ns⟩),some (.cel c),y3,some (.lst ((cI (O1 os)).map D.int)),y5,y6,some (.lst ((cI (T1 m os)).map D.int))]=[none,some (zaN m os),some (.lst ((cI (T1 m os)).map D.int))] from rfl]
  generalize os.getD j ([],0)=o at eo mo ⊢
  have ei:zan (iSq (cOp dIx (cOp dIx (cOp dIx (zaf 1) (cK (.int 1))) (zaf 0)) (cK (.int 0)))) (zaC 0) zcB zcI [none,some 2] [some (.int (j:Int)),some (zaN m os),some (.lst ((cI (T1 m os)).map D.int))]=pure (.lst ((o.1.filter fun t=>(cI (T1 m os)).any (· == t)).map D.int)):=by
   rw [<- zaz]
   refine zaw (g':=D.int) (xs:=o.1) ?_ (by omega) fun t _=> ?_
   ·ac_nf0
    rw [zis]
    ac_nf0
    rw [eo]
    ac_nf0
   ·rw [show zai [none,some 2] [some (.int (j:Int)),some (zaN m os),some (.lst ((cI (T1 m os)).map D.int))]=[none,some (.lst ((cI (T1 m os)).map D.int))] from rfl]
    simp only [zaZ,zcB,zcI]
    ac_nf0
    rw [zko]
    ac_nf0
    split<;>rfl
  simp only [zaZ,zcC,zcv]
  ac_nf0
  rw [ei]
  ac_nf0
  rw [zdq,zoJ]
  ac_nf0
  split<;>rfl
 ac_nf0
 refine c1.wp fun h1 g1=> ?_
 ac_nf0
 rw [c2 rfl]
 ac_nf0
 rw [znG]
 ac_nf0
 rw [e5]
 ac_nf0
 refine (c3 rfl rfl).wp fun h2 g2=> ?_
 ac_nf0
 rw [c4 rfl rfl]
 ac_nf0
 rw [c5 rfl rfl]
 ac_nf0
 rw [zis]
 ac_nf0
 rw [zmN]
 ac_nf0
 have g:=g1.trans g2
 have hln:=(qac.mp hc).1
 have hc2:=g.get hc
 have sm:zfj ⟨m,os,ts,ns⟩=((T1 m os).length==m.toNat && (N1 m os).length==os.length):=rfl
 have ge:=zjh (S:=Sth (R1 os)) (n:=m.toNat)
 have ge:(cI (zbW (Sth (R1 os)) m.toNat)).isEmpty=((T1 m os).length==m.toNat):=ge
 rw [zfA]
 rw [show (((N1 m os).length:Int)==(os.length:Int))=((N1 m os).length==os.length) by rw [Bool.eq_iff_iff,beq_iff_eq,beq_iff_eq];omega]
 have hl2:h.length<=h2.length:=by
  obtain ⟨t,rfl⟩:=g
  simp
 have c6: ∀ {y3 y4 y5 y6 y7:Option D},y4=some (.lst ((cI (N1 m os)).map D.int))->zan (zey (zad (zaF zdC (zad (cOp dIx (zaf 0) (cK (.int 1))) zal)) zal)) (zaC 0) zcH zcw [none,some 4] [some (zaN m os),some (zeH ⟨m,os,ts,ns⟩),some (.cel c),y3,y4,y5,y6,y7]=pure (.lst ((cI ((List.range os.length).filter fun j=> !(N1 m os).any (· == j))).map D.int)):=fun {y3 y4 y5 y6 y7} h4=>by
  subst h4
  rw [zco ((List.range os.length).filter fun j=> !(N1 m os).any (· == j)), <-zaz]
  refine zaw (g':=fun (j:Nat)=> .int (j:Int)) ?_ (by simp;omega) fun j hj=> ?_
  ·ac_nf0
   rw [zis]
   ac_nf0
   rw [zby (by omega) (by omega),qaB,zbn,qaT]
   rfl
  ·rw [show zai [none,some 4] [some (zaN m os),some (zeH ⟨m,os,ts,ns⟩),some (.cel c),y3,some (.lst ((cI (N1 m os)).map D.int)),y5,y6,y7]=[none,some (.lst ((cI (N1 m os)).map D.int))] from rfl]
   simp only [zaZ,zcH,zcw]
   ac_nf0
   rw [zdH,zmL]
   ac_nf0
   split<;>rfl
 have q1: ∀ j:Int,zb1 [some (.int j),some (zeH ⟨m,os,ts,ns⟩)]=ofO (atI (ns.map D.int) j):=fun j=>by
  simp only [zb1]
  ac_nf0
  rw [n1]
  ac_nf0
 have q2: ∀ j:Int,zbY [some (.int j),some (zeH ⟨m,os,ts,ns⟩)]=ofO (atI (ts.map D.int) j):=fun j=>by
  simp only [zbY]
  ac_nf0
  rw [n0]
  ac_nf0
 have c7: ∀ {y3 y4 y5 y6 y7:Option D},y3=some (.lst ((cI ((List.range os.length).filter fun j=> !(N1 m os).any (· == j))).map D.int))->zan (iSq (zaf 3)) (zaC 0) (fun _=>pure true) zb1 [none,some 1] [some (zaN m os),some (zeH ⟨m,os,ts,ns⟩),some (.cel c),y3,y4,y5,y6,y7]=pure (.lst ((zd6 ns ((N1 m os).map fun j=>ns.getD j 0)).map D.int)):=fun {y3 y4 y5 y6 y7} h3=>by
  subst h3
  have pm:=zg9 (J:=N1 m os) nd fun j hj=>by rw [nl];exact zhM hj
  rw [nl] at pm
  rw [<- pm]
  have fl:=List.length_filter_le (fun j=> !(N1 m os).any (· == j)) (List.range os.length)
  rw [List.length_range] at fl
  exact zeG (d:=zeH ⟨m,os,ts,ns⟩) (fun j hj=>by have:=List.mem_range.mp (List.mem_filter.mp hj).1;omega) (by omega) (by ac_nf0) rfl q1
 have c8: ∀ {y3 y4 y5 y6 y7:Option D},y6=some (.lst ((cI (zbW (Sth (R1 os)) m.toNat)).map D.int))->zan (iSq (zaf 6)) (zaC 0) (fun _=>pure true) zbY [none,some 1] [some (zaN m os),some (zeH ⟨m,os,ts,ns⟩),some (.cel c),y3,y4,y5,y6,y7]=pure (.lst ((zd6 ts ((T1 m os).map fun j=>ts.getD j 0)).map D.int)):=fun {y3 y4 y5 y6 y7} h6=>by
  subst h6
  have pm:=zg9 (J:=T1 m os) td fun j hj=>by rw [tl];exact zme hj
  rw [tl] at pm
  rw [<- pm]
  have gk:=zk4 (S:=Sth (R1 os)) (n:=m.toNat)
  have gl:=zir (S:=Sth (R1 os)) (n:=m.toNat)
  rw [show (List.range m.toNat).filter (fun j=> !(T1 m os).any (· == j))=zbW (Sth (R1 os)) m.toNat from gk.symm]
  exact zeG (d:=zeH ⟨m,os,ts,ns⟩) (fun j hj=>by have:=List.mem_range.mp (List.mem_filter.mp hj).1;omega) (by omega) (by ac_nf0) rfl q2
 have c9: ∀ {s0 y3 y4 y5 y6 y7:Option D},y7=some (.lst ((cI (T1 m os)).map D.int))->zan (iSq (zaf 7)) (zaC 0) (fun _=>pure true) zdh [none,some 1] [s0,some (zeH ⟨m,os,ts,ns⟩),some (.cel c),y3,y4,y5,y6,y7]=pure (.lst (((T1 m os).map fun j=>ts.getD j 0).map D.int)):=fun {s0 y3 y4 y5 y6 y7} h7=>by
  subst h7
  exact zeG (d:=zeH ⟨m,os,ts,ns⟩) (fun j hj=>by rw [tl];exact zme hj) (by omega) (by ac_nf0) rfl q2
 have c10: ∀ {s0 y3 y4 y5 y6 y7:Option D},y4=some (.lst ((cI (N1 m os)).map D.int))->zan (iSq (zaf 4)) (zaC 0) (fun _=>pure true) zdm [none,some 1] [s0,some (zeH ⟨m,os,ts,ns⟩),some (.cel c),y3,y4,y5,y6,y7]=pure (.lst (((N1 m os).map fun j=>ns.getD j 0).map D.int)):=fun {s0 y3 y4 y5 y6 y7} h4=>by
  subst h4
  exact zeG (d:=zeH ⟨m,os,ts,ns⟩) (fun j hj=>by rw [nl];exact zhM hj) (by omega) (by ac_nf0) rfl q1
 have er:zjJ ⟨m,os,ts,ns⟩= .tup [.tup ((zd6 ns ((N1 m os).map fun j=>ns.getD j 0)).map D.int),.tup ((zd6 ts ((T1 m os).map fun j=>ts.getD j 0)).map D.int)]:=rfl
 cases hs:zfj ⟨m,os,ts,ns⟩ with
 | true=>
  rw [hs,eq_comm,qaG] at sm
  rw [sm.2]
  ac_nf0
  rw [zdF,ge,sm.1]
  ac_nf0
  rw [n0]
  ac_nf0
  rw [n1]
  ac_nf0
  refine zio hc2 ?_
  ac_nf0
  exact k0 hs h2 g
 | false=>
  have hsp:((N1 m os).length==os.length)=false\/((N1 m os).length==os.length)=true/\((T1 m os).length==m.toNat)=false:=by
   rw [hs] at sm
   cases h1:((N1 m os).length==os.length) with
   | false=>exact .inl rfl
   | true=>
    rw [h1,Bool.and_true] at sm
    exact .inr ⟨rfl,sm.symm⟩
  rcases hsp with hN | ⟨hN,hT⟩
  ·rw [hN]
   ac_nf0
   rw [c6 rfl]
   ac_nf0
   simp only [za5,zb2,zba,zbl,zbd,pure_bind,bind_assoc,zar,za4 hc2,zak]
   ac_nf0
   rw [c7 rfl]
   ac_nf0
   rw [c8 rfl]
   ac_nf0
   simp only [za4 hc2,zar,zak,qaH,f1,zdc,pure_bind,zb2,zba]
   ac_nf0
   refine e4.wp fun h3 g3=> ?_
   obtain ⟨t3,rfl⟩:=g3
   ac_nf0
   rw [c9 rfl]
   ac_nf0
   rw [c10 rfl]
   ac_nf0
   refine k1 hs _ _ _ _ _ _ (fun j jl jc=> ?_) (by rw [qav,qaI];omega) ?_
   ·rw [qad (by rw [qaI];omega),qao (Ne.symm jc)]
    obtain ⟨t,rfl⟩:=g
    exact qad jl
   ·rw [qad (by rw [qaI];omega),qai (by omega)]
    rw [er]
  ·rw [hN]
   ac_nf0
   rw [zdF,ge,hT]
   ac_nf0
   rw [c6 rfl]
   ac_nf0
   simp only [za5,zb2,zba,zbl,zbd,pure_bind,bind_assoc,zar,za4 hc2,zak]
   ac_nf0
   rw [c7 rfl]
   ac_nf0
   rw [c8 rfl]
   ac_nf0
   simp only [za4 hc2,zar,zak,qaH,f1,zdc,pure_bind,zb2,zba]
   ac_nf0
   refine e4.wp fun h3 g3=> ?_
   obtain ⟨t3,rfl⟩:=g3
   ac_nf0
   rw [c9 rfl]
   ac_nf0
   rw [c10 rfl]
   ac_nf0
   refine k1 hs _ _ _ _ _ _ (fun j jl jc=> ?_) (by rw [qav,qaI];omega) ?_
   ·rw [qad (by rw [qaI];omega),qao (Ne.symm jc)]
    obtain ⟨t,rfl⟩:=g
    exact qad jl
   ·rw [qad (by rw [qaI];omega),qai (by omega)]
    rw [er]
theorem zhZ {h:Hh} (x:Sy):pdH h (zaH x)=some (pdS x):=by
 simp only [zaH,zaN,tI,pdH,zfo,zgZ,zeb,Option.map,pdS]
theorem zl3 {h:Hh} {x:Sy} {P:D->Hh->Prop} (k:P (.bl false) h):wp (zmQ (zaH x) (zaH x)) h P:=by
 refine ⟨.bl false,h,?_,k⟩
 unfold zmQ
 rw [zhZ]
 simp only [zhJ,if_true,zf2,Bool.not_true]
theorem zms {h:Hh} {x:Sy} {P:D->Hh->Prop} (k:P (.bl true) h):wp (zqy (zaH x) (zaH x)) h P:=by
 refine ⟨.bl true,h,?_,k⟩
 unfold zqy
 rw [zhZ]
 simp only [zhJ,if_true,zf2]
theorem zjl {c:Nat} (f:Nat): ∀ {x:Sy} {rs:List D} {h:Hh} {x3 x4 x5 x6 x7:Option D} {P:Out->Hh->Prop} (N:Nat),In x->siz x<=f->f<N->rs.length+f<=400->h[c]? = some (.lst rs)->
  (∀ h',(∀ j,j<h.length->j≠c->h'[j]? = h[j]?)->h.length<=h'.length->P (.rt (.tup [zaH (zbK f x),.lst (rs++(zck f x).map zjJ)])) h')->
  wp (zeg zb0 zbv N [some (zaN x.m x.os),some (zeH x),some (.cel c),x3,x4,x5,x6,x7]) h P:=by
 induction f with
 | zero=>
  intro x rs h x3 x4 x5 x6 x7 P N i hs
  have:=zjq i
  omega
 | succ f ih=>
  intro x rs h x3 x4 x5 x6 x7 P N i hs hN hr e k
  obtain ⟨N,rfl⟩: ∃ N',N=N'+1:=⟨N - 1,by omega⟩
  have hln:=(qac.mp e).1
  rw [zck,zbK] at k
  rw [zhz,zar]
  have ew: ∀ sd:Sd,zb0 sd=pure true:=fun _=>rfl
  rw [ew,zak,qa4 rfl,zar]
  refine znm i e (by omega) (fun hsm h' g=> ?_) fun hsm y3 y4 y5 y6 y7 h' q0 q1 q2=> ?_
  ·rw [hsm] at k
   simp only [if_true,List.map_nil,List.append_nil] at k
   show wp (pure _) _ _
   rw [zak]
   refine k _ (fun j jl jc=> ?_) (by obtain ⟨t,rfl⟩:=g;rw [qaI,qav];omega)
   rw [qao (Ne.symm jc)]
   obtain ⟨t,rfl⟩:=g
   exact qad jl
  ·rw [hsm] at k
   simp only [qax,if_false] at k
   have hlt:=zm4 hsm
   show wp (zeg zb0 zbv N _) _ _
   refine ih (x:=nxt x) (rs:=rs++[zjJ x]) N i.next (by omega) (by omega) (by simp;omega) q2 fun h'' w1 w2=> ?_
   have:=k h'' (fun j jl jc=>by rw [w1 j (by omega) jc,q0 j jl jc]) (by omega)
   rw [List.append_assoc]
   exact this
theorem zlp (s:Stk m os) (hf:Ful m os):Ev (F_36 [zaN m os]) (.tup [zaH (zbK 25 (x0 m os)),.lst (zhw m os)]):=by
 have i:=znv s hf
 have m0:=s.m0
 have m1:=s.m1
 have ol:=s.len
 have r1:=zd1 (n:=m.toNat) (by omega)
 have r2:=zd1 (n:=os.length) (by omega)
 rw [show ((m.toNat:Nat):Int)=m by omega] at r1
 have hsz:siz (x0 m os)<=25:=by
  show m.toNat+os.length<=25
  omega
 have hn:D.tup [.lst ((cI (List.range m.toNat)).map D.int),.lst ((cI (List.range os.length)).map D.int)]=zeH (x0 m os):=rfl
 refine .of_wp fun h=> ?_
 rw [d_36]
 simp only [G_36]
 ac_nf0
 rw [znG]
 ac_nf0
 rw [r1]
 ac_nf0
 rw [zis]
 ac_nf0
 rw [r2]
 ac_nf0
 rw [hn]
 refine zjl (c:=h.length) (x:=x0 m os) (rs:=[]) 25 1000 i hsz (by decide) (by decide) (by simp) fun h' q0 q1=> ?_
 ac_nf0
 have g:Gro h h':=Kp.gro ⟨by simp at q1;omega,fun j hj=>by
   rw [q0 j (by simp;omega) (by omega),qad hj]⟩
 first | exact ⟨rfl,g⟩ | exact ⟨g,rfl⟩ | exact g
theorem zjH {os':List (List Int×Int)} (h: ∀ o∈os,o∈os') (hf:(zbx m os).isEmpty=true):(zbx m os').isEmpty=true:=by
 rw [List.isEmpty_iff] at hf ⊢
 unfold zbx at hf ⊢
 rw [List.filter_eq_nil_iff] at hf ⊢
 intro t ht z
 refine hf t ht ?_
 rw [List.isEmpty_iff] at z ⊢
 rw [List.filter_eq_nil_iff] at z ⊢
 exact fun o ho=>z o (h o ho)
theorem zoM (m0:1<=m) (hf:(zbx m os).isEmpty=true):os≠[]:=fun z=>by
 subst z
 rw [List.isEmpty_iff] at hf
 unfold zbx at hf
 rw [List.filter_eq_nil_iff] at hf
 exact hf 0 (qaU.mpr ⟨0,List.mem_range.mpr (by omega),rfl⟩) rfl
theorem zoq {o:List Int×Int} {a:Int} {p:Int} {xs:List Int} (g:Go m o) (hx:xs=o.1\/(xs=o.1.take a.toNat++o.1.drop (a+1).toNat/\0<=a/\xs≠[])) (hp:0<p):Go m (xs,p):=by
 obtain ⟨g1,g2,g3,g4⟩:=g
 rcases hx with rfl | ⟨rfl,a0,hn⟩
 ·exact ⟨g1,g2,g3,hp⟩
 ·have e:(a+1).toNat=a.toNat+1:=by omega
  rw [e, <-List.eraseIdx_eq_take_drop_succ] at hn ⊢
  exact ⟨g1.sublist (List.eraseIdx_sublist _ _),fun x hx=>g2 x ((List.eraseIdx_sublist _ _).subset hx),hn,hp⟩
theorem zfF {b c:Nat} (hbc:c≠b) {s1 s2:Option D} (m0:1<=m) (m1:m<=10): ∀ (n:Nat) (os:List (List Int×Int)) {h:Hh} {x4 x5 x6 x7:Option D} {P:Out->Hh->Prop},Bx b h->h[c]? = some (.lst (os.map zbm))->os≠[]->os.length<=10->(∀ o∈os,Go m o)->10 - os.length<n->
  (∀ (os':List (List Int×Int)) y4 y5 y6 y7 h',Bx b h'->h'[c]? = some (.lst (os'.map zbm))->os'.length<=10->(∀ o∈os',Go m o)->(∀ o∈os,o∈os')->P (.nx [some (.cel b),s1,s2,some (.cel c),y4,y5,y6,y7]) h')->
  wp (zeg za2 za3 n [some (.cel b),s1,s2,some (.cel c),x4,x5,x6,x7]) h P
 | 0,os,h,x4,x5,x6,x7,P,q,e,hne,hl,hg,hn,k=>by omega
 | n+1,os,h,x4,x5,x6,x7,P,q,e,hne,hl,hg,hn,k=>by
  have hpos:=List.length_pos_iff.mpr hne
  have ih:=fun (os':List (List Int×Int)) (h:Hh) (x4 x5 x6 x7:Option D)=>zfF hbc (s1:=s1) (s2:=s2) m0 m1 n os' (h:=h) (x4:=x4) (x5:=x5) (x6:=x6) (x7:=x7) (P:=P)
  rw [zhz]
  generalize zeg za2 za3 n=go at ih ⊢
  simp only [za2]
  ac_nf0
  simp only [zng]
  ac_nf0
  simp only [za4 e,zak,qaH]
  simp only [zrg]
  ac_nf0
  by_cases h1:(os.length:Int)<10
  ·simp only [h1,decide_true]
   ac_nf0
   refine zbD q (by decide) (by decide) fun t h2 t0 t1 x2=> ?_
   rw [zmN]
   ac_nf0
   have e2:=x2.2 c _ hbc e
   cases ht:(t==1)
   ·ac_nf0
    exact k os _ _ _ _ h2 x2.1 e2 hl hg fun o ho=>ho
   ·ac_nf0
    simp only [za3]
    ac_nf0
    simp only [zng]
    ac_nf0
    simp only [za4 e2,zak,qaH]
    refine zbD x2.1 (by omega) (by omega) fun u h3 u0 u1 x3=> ?_
    have e3:=x3.2 c _ hbc e2
    simp only [zlY]
    ac_nf0
    simp only [za4 e3]
    have hm:os.getD u.toNat ([],0)∈os:=by
     have:u.toNat<os.length:=by omega
     simp [List.getD,this]
    rw [zdO u0 u1]
    generalize os.getD u.toNat ([],0)=o at hm
    have g:=hg o hm
    have gl:=zj9 (by omega) g.1 g.2.1
    have gp:=List.length_pos_iff.mpr g.2.2.1
    ac_nf0
    refine zbD x3.1 (by omega) (by omega) fun a h4 a0 a1 x4'=> ?_
    have e4:=x4'.2 c _ hbc e3
    have f:=zaP (show (List.take a.toNat (o.1.map D.int)).length+(List.drop (a+1).toNat (o.1.map D.int)).length<=1000 by simp;omega)
    ac_nf0
    simp only [zh3 _ a0,zih _ (show 0<=a+1 by omega),f]
    ac_nf0
    have ed: ∀ xs:List Int,dEq (.tup (xs.map D.int)) (.tup [])=pure (.bl (xs==[])):=fun xs=>zna xs []
    have em:List.take a.toNat (o.1.map D.int)++List.drop (a+1).toNat (o.1.map D.int)=(o.1.take a.toNat++o.1.drop (a+1).toNat).map D.int:=by rw [List.map_append,List.map_take,List.map_drop]
    rw [em]
    generalize hxs:o.1.take a.toNat++o.1.drop (a+1).toNat=xs
    rw [ed]
    ac_nf0
    have fin: ∀ (zs:List Int) (h5:Hh) (y6:Option D),(zs=o.1\/(zs=o.1.take a.toNat++o.1.drop (a+1).toNat/\0<=a/\zs≠[]))->Ext b h4 h5->wp ((za5 (zaf 3) (zcV (zad (zaf 7) (zad (zaF zkH (zad (cK (.int 1)) (zad (cOp ze9 (cOp zoZ (zaf 5) (cK (.int 1))) (zaF (zax 2 F_28) (zad (zaf 0) (zad (cK (.int 3)) zal)))) zal))) zal)))) [some (.cel b),s1,s2,some (.cel c),some (.tup (o.1.map D.int)),some (.int o.2),y6,some (.tup (zs.map D.int))]) h5
      fun _ h6=>wp (go [some (.cel b),s1,s2,some (.cel c),some (.tup (o.1.map D.int)),some (.int o.2),y6,some (.tup (zs.map D.int))]) h6 P:=fun zs h5 y6 hz x5'=>by
     have e5:=x5'.2 c _ hbc e4
     simp only [za5]
     ac_nf0
     simp only [za4 e5,zak]
     refine zbD x5'.1 (by decide) (by decide) fun v h6 v0 v1 x6'=> ?_
     have e6:=x6'.2 c _ hbc e5
     have hlt:=(qac.mp e6).1
     have f2:=zaP (show os.length+1<=1000 by omega)
     ac_nf0
     simp only [zba,zar,za4 e6,qaH,f2,zak,zdc]
     generalize hp:(if o.2 - 1+v>1 then o.2 - 1+v else (1:Int))=p
     have p0:0<p:=by
      rw [<- hp]
      split<;>omega
     have:=ih (os++[(zs,p)]) (h6.set c (.lst ((os++[(zs,p)]).map zbm))) (some (.tup (o.1.map D.int))) (some (.int o.2)) y6 (some (.tup (zs.map D.int))) ?_ (qai hlt) (by simp) (by simp;omega) ?_ (by simp;omega) ?_
     ·simp only [List.map_append,qaM,List.map_nil,zbm,tI] at this
      exact this
     ·obtain ⟨y,ey⟩:=x6'.1
      exact ⟨y,by rw [qao hbc];exact ey⟩
     ·intro o' ho'
      rcases qaK.mp ho' with w | w
      ·exact hg o' w
      ·rw [List.mem_singleton] at w
       rw [w]
       exact zoq g hz p0
     ·intro os' y4 y5 y6' y7 h' q' e' l' g' hsub
      exact k os' y4 y5 y6' y7 h' q' e' l' g' fun o' ho'=>hsub o' (List.mem_append_left _ ho')
    cases hx:(xs==[])
    ·ac_nf0
     have hxn:xs≠[]:=by
      intro z
      rw [z] at hx
      cases hx
     refine zbD x4'.1 (by decide) (by decide) fun v h5 v0 v1 x5'=> ?_
     rw [zmN]
     ac_nf0
     cases (v==1)
     ·ac_nf0
      exact zeY (fin xs h5 _ (.inr ⟨hxs.symm,a0,hxn⟩) x5') fun _ _ z=>z
     ·ac_nf0
      exact zeY (fin o.1 h5 _ (.inl rfl) x5') fun _ _ z=>z
    ·ac_nf0
     exact zeY (fin o.1 h4 _ (.inl rfl) (Ext.refl x4'.1)) fun _ _ z=>z
  ·simp only [h1,decide_false]
   ac_nf0
   exact k os _ _ _ _ h q e hl hg fun o ho=>ho
theorem zl7 {h:Hh} {b:Nat} {P:D->Hh->Prop} (q:Bx b h) (k: ∀ (m:Int) (os:List (List Int×Int)) h',Bx b h'->Stk m os->(zbx m os).isEmpty=true->P (zaN m os) h'):wp (F_37 [.cel b]) h P:=by
 rw [d_37]
 simp only [G_37]
 ac_nf0
 refine zjQ q (by decide) (by decide) (by decide) (by decide) fun m os h2 q2 s hf hl hm=> ?_
 have en:zk2 [.tup (os.map zbm)]=zbf (os.map zbm):=rfl
 simp only [zaN]
 ac_nf0
 rw [en]
 ac_nf0
 have x3:=q2.push (c:= .lst (os.map zbm))
 have hbc:h2.length≠b:=fun z=>by
  obtain ⟨y,ey⟩:=q2
  have:=(qac.mp ey).1
  omega
 simp only [zgP]
 refine zfF hbc s.m0 s.m1 1000 os x3.1 (by simp) (zoM s.m0 hf) (by omega) (fun o ho=>⟨s.up o ho,s.bd o ho,s.ne o ho,s.pos o ho⟩) (by omega) fun os' y4 y5 y6 y7 h4 q4 e4 l4 g4 hsub=> ?_
 ac_nf0
 simp only [zk5,bind_assoc,zar,za4 e4,zak]
 ac_nf0
 exact k m os' h4 q4 (zin s.m0 s.m1 (by omega) g4) (zjH hsub hf)
noncomputable def prs (m:Int) (os:List (List Int×Int)):List (List Int×List Int):=(zck 25 (x0 m os)).map fun x=>(zd6 x.ns (nxt x).ns,zd6 x.ts (nxt x).ts)
theorem ziD:zhw m os=(prs m os).map prD:=by
 unfold zhw prs
 rw [qaT]
 rfl
theorem zn0:(prs m os).length<=25:=by
 unfold prs
 rw [qaH]
 exact zeS 25 _
theorem zkY (s:Stk m os) (hf:Ful m os) {s0 s1 s2 s4 s6 s7 x8:Option D} {h:Hh} {P:Out->Hh->Prop} (k: ∀ y8 h',P (.nx [s0,s1,s2,some (zaN m os),s4,some (.lst ((prs m os).map prD)),s6,s7,y8]) h'):wp (zhA [s0,s1,s2,some (zaN m os),s4,some (.lst ((prs m os).map prD)),s6,s7,x8]) h P:=by
 have pl:=zn0 (m:=m) (os:=os)
 have f1:=zaP (show (prs m os).length+1<=1000 by omega)
 have sw:=fun (P:D->Hh->Prop) (k: ∀ h1,Gro h h1->P (.cel h1.length) (h1++[.lst (zhw m os)]))=>zk0 s hf k
 rw [ziD] at sw
 simp only [zhA]
 ac_nf0
 refine sw _ fun h1 g1=> ?_
 have e:(h1++[C.lst ((prs m os).map prD)])[h1.length]? = some (.lst ((prs m os).map prD)):=by simp
 generalize h1++[C.lst ((prs m os).map prD)]=h2 at e ⊢
 generalize h1.length=n at e ⊢
 ac_nf0
 refine zqO e ?_
 ac_nf0
 refine zof e ?_
 ac_nf0
 simp only [za5,zb2,zba]
 ac_nf0
 simp only [za4 e,zar,zak,qaH,f1,zdc,pure_bind,zb2,zba]
 ac_nf0
 exact k _ _
theorem zhT (s:Stk m os) (hf:Ful m os) {s0 s1 s2 x4 x5 x6 x7 x8:Option D} {h:Hh} {P:Out->Hh->Prop} (k: ∀ y4 y5 y6 y7 y8 h',P (.nx [s0,s1,s2,some (zaN m os),y4,y5,y6,y7,y8]) h'):wp (ze8 [s0,s1,s2,some (zaN m os),x4,x5,x6,x7,x8]) h P:=by
 have es:=zlp s hf
 have el:=zg4 s hf
 rw [ziD] at es
 have et:zlk "tuple" (zaH (zbK 25 (x0 m os)))=pure (.bl true):=zmU rfl
 have ec: ∀ {sd:Sd},sd[6]? = some (some (zaH (zbK 25 (x0 m os))))->zan (iSq (zaf 6)) (zaC 0) (fun _=>pure true) zhU [none] sd=pure (.lst ([true,true,true].map D.bl)):=fun {sd} h6=>by
  have hd:zaf 6 sd=pure (zaH (zbK 25 (x0 m os))):=by
   unfold zaf
   rw [h6]
  rw [zjN (ds:=[zaN (zbK 25 (x0 m os)).m (zbK 25 (x0 m os)).os,tI (zbK 25 (x0 m os)).ts,tI (zbK 25 (x0 m os)).ns]) (k:=fun _=> .bl true) (by ac_nf0;rw [hd];rfl) (by simp) ?_]
  ·rfl
  ·intro d hd
   have eb:zai [none] sd=[none]:=rfl
   have ht:zlk "tuple" d=pure (.bl true):=by
    simp only [qaP,qaF,or_false] at hd
    rcases hd with rfl | rfl | rfl<;>exact zmU rfl
   rw [eb]
   simp only [zaZ,zhU]
   ac_nf0
   rw [ht]
   ac_nf0
 have eN:=fun (h:Hh) (P:D->Hh->Prop)=>zl3 (h:=h) (x:=zbK 25 (x0 m os)) (P:=P)
 simp only [ze8]
 generalize zaH (zbK 25 (x0 m os))=dl at es el et ec eN
 ac_nf0
 refine es.wp fun h1 g1=> ?_
 ac_nf0
 refine el.wp fun h2 g2=> ?_
 ac_nf0
 rw [et]
 ac_nf0
 refine eN _ _ ?_
 ac_nf0
 rw [ec rfl]
 ac_nf0
 rw [zju]
 ac_nf0
 rw [show [true,true,true].all id=true from rfl]
 ac_nf0
 rw [zby (by decide) (by decide),show zeh 0 (2:Int).toNat=[.int 0,.int 1] from rfl]
 ac_nf0
 rw [zcA]
 ac_nf0
 refine zkY s hf fun y8 h3=> ?_
 ac_nf0
 rw [zcA]
 ac_nf0
 refine zkY s hf fun y8' h4=> ?_
 ac_nf0
 rw [zcm]
 ac_nf0
 exact k _ _ _ _ _ _
theorem two_wp {s0 s1 s2:Option D}: ∀ (ds:List D) {h:Hh} {x3 x4 x5 x6 x7 x8:Option D} {P:Out->Hh->Prop},(∀ d∈ds, ∃ m os,d=zaN m os/\Stk m os/\Ful m os)->(∀ y3 y4 y5 y6 y7 y8 h',P (.nx [s0,s1,s2,y3,y4,y5,y6,y7,y8]) h')->
  wp (zbu (fun x sd=>ze8 (List.set sd 3 (some x))) ds [s0,s1,s2,x3,x4,x5,x6,x7,x8]) h P
 | [],h,x3,x4,x5,x6,x7,x8,P,_,k=>by
  rw [zcm,zak]
  exact k _ _ _ _ _ _ _
 | d::r,h,x3,x4,x5,x6,x7,x8,P,hd,k=>by
  obtain ⟨m,os,rfl,s,hf⟩:=hd d qau
  have ih:=fun (h:Hh) (x3 x4 x5 x6 x7 x8:Option D)=>two_wp (s0:=s0) (s1:=s1) (s2:=s2) r (h:=h) (x3:=x3) (x4:=x4) (x5:=x5) (x6:=x6) (x7:=x7) (x8:=x8) (P:=P) (fun y hy=>hd y (qan _ hy)) k
  rw [zcA]
  generalize zbu (fun x sd=>ze8 (List.set sd 3 (some x))) r=zbS at ih ⊢
  simp only [List.set,zar]
  exact zhT s hf fun y4 y5 y6 y7 y8 h'=>ih _ _ _ _ _ _ _
theorem zhV {ns:List Int} (hb: ∀ i∈ns,Builtin.Int.intBits i<=2^20): ∀ (ds:List D) {h:Hh} {x1 x2 x3 x4 x5 x6 x7 x8:Option D} {P:Out->Hh->Prop},(∀ d∈ds, ∃ i:Int,d= .int i/\0<=i/\i<6)->(∀ y1 y2 y3 y4 y5 y6 y7 y8 h',P (.nx [some (.scr (ns.map D.int)),y1,y2,y3,y4,y5,y6,y7,y8]) h')->
  wp (zbu (fun x sd=>do let sd1<-zaC 1 x sd;zf3 sd1) ds [some (.scr (ns.map D.int)),x1,x2,x3,x4,x5,x6,x7,x8]) h P
 | [],h,x1,x2,x3,x4,x5,x6,x7,x8,P,_,k=>by
  rw [zcm,zak]
  exact k _ _ _ _ _ _ _ _ _
 | d::r,h,x1,x2,x3,x4,x5,x6,x7,x8,P,hd,k=>by
  obtain ⟨i,rfl,i0,i1⟩:=hd _ qau
  have ih:=fun (h:Hh) (x1 x2 x3 x4 x5 x6 x7 x8:Option D)=>zhV hb r (h:=h) (x1:=x1) (x2:=x2) (x3:=x3) (x4:=x4) (x5:=x5) (x6:=x6) (x7:=x7) (x8:=x8) (P:=P) (fun y hy=>hd y (qan _ hy)) k
  rw [zcA]
  generalize zbu (fun x sd=>do let sd1<-zaC 1 x sd;zf3 sd1) r=zbS at ih ⊢
  simp only [zf3]
  ac_nf0
  refine zrh hb i0 i1 fun z=> ?_
  have qb:Bx h.length (h++[.lst [.int z]]):=⟨z,by simp⟩
  ac_nf0
  refine zl7 qb fun m1 os1 h2 q2 s1 f1=> ?_
  ac_nf0
  refine zjQ q2 (by decide) (by decide) (by decide) (by decide) fun m2 os2 h3 q3 s2 f2 _ _=> ?_
  ac_nf0
  refine two_wp _ (fun d hd=> ?_) fun y3 y4 y5 y6 y7 y8 h'=> ?_
  ·simp only [qaP,qaF,or_false] at hd
   rcases hd with rfl | rfl
   ·exact ⟨_,_,rfl,s1,(ze6 (by have:=s1.m0;omega)).mp f1⟩
   ·exact ⟨_,_,rfl,s2,(ze6 (by have:=s2.m0;omega)).mp f2⟩
  ·exact ih _ _ _ _ _ _ _ _ _
theorem zma: ∀ ns:List Int,ns.length<=63->(∀ i∈ns,Builtin.Int.intBits i<=2^20)-> ∃ h',F_38 [.scr (ns.map D.int)] []= .ok (.bl true) h':=by
 intro ns _ hb
 have key:wp (F_38 [.scr (ns.map D.int)]) [] fun d _=>d= .bl true:=by
  rw [d_38]
  simp only [G_38]
  ac_nf0
  simp only [znb]
  ac_nf0
  simp only [zr7]
  ac_nf0
  generalize hn:(if (if (4:Int)<(ns.length:Int) then (4:Int) else (ns.length:Int))>1 then (if (4:Int)<(ns.length:Int) then (4:Int) else (ns.length:Int)) else (1:Int))=n
  have n0:0<=n/\n<=6:=by
   rw [<- hn]
   split<;>split<;>omega
  rw [zby n0.1 (by omega)]
  ac_nf0
  refine zhV hb _ (fun d hd=> ?_) fun y1 y2 y3 y4 y5 y6 y7 y8 h'=> ?_
  ·obtain ⟨i,e,i0,i1⟩:=zk1 hd
   exact ⟨i,e,i0,by omega⟩
  have s:Stk 1 [([0],3)]:=zin (by decide) (by decide) (by decide) fun o ho=>by
   have:o=([0],3):=by simpa using ho
   rw [this]
   exact ⟨by simp,by simp,by simp,by decide⟩
  have hf:Ful 1 [([0],3)]:=(ze6 (by decide)).mp rfl
  have v:D.tup [.int 1,.tup [.tup [.tup [.int 0],.int 3]]]=zaN 1 [([0],3)]:=rfl
  have hsm:zfj (x0 1 [([0],3)])=true:=by decide +kernel
  have hl:zbK 25 (x0 1 [([0],3)])=x0 1 [([0],3)]:=by
   rw [zbK,hsm]
   rfl
  have w:D.tup [zaN 1 [([0],3)],.tup [.int 0],.tup [.int 0]]=zaH (x0 1 [([0],3)]):=rfl
  have el:=zg4 s hf
  rw [hl] at el
  ac_nf0
  rw [v]
  refine el.wp fun h2 g2=> ?_
  ac_nf0
  rw [w]
  refine zms ?_
  ac_nf0
 obtain ⟨d,h',e,rfl⟩:=key
 exact ⟨h',e⟩
end K62
namespace K62
open PySem PySem.Spec PyProof.Rows L2 L3
theorem zqn {l:W.OpenLaw} {w:World} {K:W.Frag} {h:Heap} {mg:Str->Option Value} {fa a_25 a_26 a_27 a_28 a_29 a_30 a_37 a_31 a_32 a_33 a_34 a_35 a_36 a_22 a_4 a_5 a_2 a_3 a_19 a_18 a_17 a_14 a_13 a_9 a_6 a_16 a_15 a_10 a_8 a_7 a_21 a_20 a_11 a_24 a_23 a_12 a_38:Addr} (X:K.In h) (G:h.Ns mainGlobals mg) (hfa:mg "law"=some (.ref fa))
  {od_25 an_25 od_26 an_26 od_27 an_27 od_28 an_28 od_29 an_29 od_30 an_30 od_37 an_37 od_31 an_31 od_32 an_32 od_33 an_33 od_34 an_34 od_35 an_35 od_36 an_36 od_22 an_22 od_4 an_4 od_5 an_5 od_2 an_2 od_3 an_3 od_19 an_19 od_18 an_18 od_17 an_17 od_14 an_14 od_13 an_13 od_9 an_9 od_6 an_6 od_16 an_16 od_15 an_15 od_10 an_10 od_8 an_8 od_7 an_7 od_21 an_21 od_20 an_20 od_11 an_11 od_24 an_24 od_23 an_23 od_12 an_12 od_38 an_38:Option Addr} {sl_25 sl_26 sl_27 sl_28 sl_29 sl_30 sl_37 sl_31 sl_32 sl_33 sl_34 sl_35 sl_36 sl_22 sl_4 sl_5 sl_2 sl_3 sl_19 sl_18 sl_17 sl_14 sl_13 sl_9 sl_6 sl_16 sl_15 sl_10 sl_8 sl_7 sl_21 sl_20 sl_11 sl_24 sl_23 sl_12 sl_38:Array (Option Value)} {oc_25 kV_25 dc_25 pm_25 cd_25 ct_25 oc_26 kV_26 dc_26 pm_26 cd_26 ct_26 oc_27 kV_27 dc_27 pm_27 cd_27 ct_27 oc_28 kV_28 dc_28 pm_28 cd_28 ct_28 oc_29 kV_29 dc_29 pm_29 cd_29 ct_29 oc_30 kV_30 dc_30 pm_30 cd_30 ct_30 oc_37 kV_37 dc_37 pm_37 cd_37 ct_37 oc_31 kV_31 dc_31 pm_31 cd_31 ct_31 oc_32 kV_32 dc_32 pm_32 cd_32 ct_32 oc_33 kV_33 dc_33 pm_33 cd_33 ct_33 oc_34 kV_34 dc_34 pm_34 cd_34 ct_34 oc_35 kV_35 dc_35 pm_35 cd_35 ct_35 oc_36 kV_36 dc_36 pm_36 cd_36 ct_36 oc_22 kV_22 dc_22 pm_22 cd_22 ct_22 oc_4 kV_4 dc_4 pm_4 cd_4 ct_4 oc_5 kV_5 dc_5 pm_5 cd_5 ct_5 oc_2 kV_2 dc_2 pm_2 cd_2 ct_2 oc_3 kV_3 dc_3 pm_3 cd_3 ct_3 oc_19 kV_19 dc_19 pm_19 cd_19 ct_19 oc_18 kV_18 dc_18 pm_18 cd_18 ct_18 oc_17 kV_17 dc_17 pm_17 cd_17 ct_17 oc_14 kV_14 dc_14 pm_14 cd_14 ct_14 oc_13 kV_13 dc_13 pm_13 cd_13 ct_13 oc_9 kV_9 dc_9 pm_9 cd_9 ct_9 oc_6 kV_6 dc_6 pm_6 cd_6 ct_6 oc_16 kV_16 dc_16 pm_16 cd_16 ct_16 oc_15 kV_15 dc_15 pm_15 cd_15 ct_15 oc_10 kV_10 dc_10 pm_10 cd_10 ct_10 oc_8 kV_8 dc_8 pm_8 cd_8 ct_8 oc_7 kV_7 dc_7 pm_7 cd_7 ct_7 oc_21 kV_21 dc_21 pm_21 cd_21 ct_21 oc_20 kV_20 dc_20 pm_20 cd_20 ct_20 oc_11 kV_11 dc_11 pm_11 cd_11 ct_11 oc_24 kV_24 dc_24 pm_24 cd_24 ct_24 oc_23 kV_23 dc_23 pm_23 cd_23 ct_23 oc_12 kV_12 dc_12 pm_12 cd_12 ct_12 oc_38 kV_38 dc_38 pm_38 cd_38 ct_38:Value}
  (e_25:W.nsIn K mainGlobals "_law_cell"=some (some (.ref a_25))) (l_25:K.lookup a_25=some ⟨oc_25,od_25,.func (W.fnOf "_law_cell" "_law_cell" (zat s_25) (zaq s_25) (zac s_25) .none kV_25 dc_25 pm_25 an_25 cd_25 ct_25),sl_25⟩) (c_25:W.codeIn K cd_25 "_law_cell"=true) (k_25:W.keepIn K (.ref a_25)=true)
  (e_26:W.nsIn K mainGlobals "_law_mix"=some (some (.ref a_26))) (l_26:K.lookup a_26=some ⟨oc_26,od_26,.func (W.fnOf "_law_mix" "_law_mix" (zat s_26) (zaq s_26) (zac s_26) .none kV_26 dc_26 pm_26 an_26 cd_26 ct_26),sl_26⟩) (c_26:W.codeIn K cd_26 "_law_mix"=true) (k_26:W.keepIn K (.ref a_26)=true)
  (e_27:W.nsIn K mainGlobals "_law_box"=some (some (.ref a_27))) (l_27:K.lookup a_27=some ⟨oc_27,od_27,.func (W.fnOf "_law_box" "_law_box" (zat s_27) (zaq s_27) (zac s_27) .none kV_27 dc_27 pm_27 an_27 cd_27 ct_27),sl_27⟩) (c_27:W.codeIn K cd_27 "_law_box"=true) (k_27:W.keepIn K (.ref a_27)=true)
  (e_28:W.nsIn K mainGlobals "_law_take"=some (some (.ref a_28))) (l_28:K.lookup a_28=some ⟨oc_28,od_28,.func (W.fnOf "_law_take" "_law_take" (zat s_28) (zaq s_28) (zac s_28) .none kV_28 dc_28 pm_28 an_28 cd_28 ct_28),sl_28⟩) (c_28:W.codeIn K cd_28 "_law_take"=true) (k_28:W.keepIn K (.ref a_28)=true)
  (e_29:W.nsIn K mainGlobals "_law_stock"=some (some (.ref a_29))) (l_29:K.lookup a_29=some ⟨oc_29,od_29,.func (W.fnOf "_law_stock" "_law_stock" (zat s_29) (zaq s_29) (zac s_29) .none kV_29 dc_29 pm_29 an_29 cd_29 ct_29),sl_29⟩) (c_29:W.codeIn K cd_29 "_law_stock"=true) (k_29:W.keepIn K (.ref a_29)=true)
  (e_30:W.nsIn K mainGlobals "_law_full"=some (some (.ref a_30))) (l_30:K.lookup a_30=some ⟨oc_30,od_30,.func (W.fnOf "_law_full" "_law_full" (zat s_30) (zaq s_30) (zac s_30) .none kV_30 dc_30 pm_30 an_30 cd_30 ct_30),sl_30⟩) (c_30:W.codeIn K cd_30 "_law_full"=true) (k_30:W.keepIn K (.ref a_30)=true)
  (e_37:W.nsIn K mainGlobals "_law_alike_stock"=some (some (.ref a_37))) (l_37:K.lookup a_37=some ⟨oc_37,od_37,.func (W.fnOf "_law_alike_stock" "_law_alike_stock" (zat s_37) (zaq s_37) (zac s_37) .none kV_37 dc_37 pm_37 an_37 cd_37 ct_37),sl_37⟩) (c_37:W.codeIn K cd_37 "_law_alike_stock"=true) (k_37:W.keepIn K (.ref a_37)=true)
  (e_31:W.nsIn K mainGlobals "_law_rules"=some (some (.ref a_31))) (l_31:K.lookup a_31=some ⟨oc_31,od_31,.func (W.fnOf "_law_rules" "_law_rules" (zat s_31) (zaq s_31) (zac s_31) .none kV_31 dc_31 pm_31 an_31 cd_31 ct_31),sl_31⟩) (c_31:W.codeIn K cd_31 "_law_rules"=true) (k_31:W.keepIn K (.ref a_31)=true)
  (e_32:W.nsIn K mainGlobals "_law_have"=some (some (.ref a_32))) (l_32:K.lookup a_32=some ⟨oc_32,od_32,.func (W.fnOf "_law_have" "_law_have" (zat s_32) (zaq s_32) (zac s_32) .none kV_32 dc_32 pm_32 an_32 cd_32 ct_32),sl_32⟩) (c_32:W.codeIn K cd_32 "_law_have"=true) (k_32:W.keepIn K (.ref a_32)=true)
  (e_33:W.nsIn K mainGlobals "_law_thing_rules"=some (some (.ref a_33))) (l_33:K.lookup a_33=some ⟨oc_33,od_33,.func (W.fnOf "_law_thing_rules" "_law_thing_rules" (zat s_33) (zaq s_33) (zac s_33) .none kV_33 dc_33 pm_33 an_33 cd_33 ct_33),sl_33⟩) (c_33:W.codeIn K cd_33 "_law_thing_rules"=true) (k_33:W.keepIn K (.ref a_33)=true)
  (e_34:W.nsIn K mainGlobals "_law_ruled"=some (some (.ref a_34))) (l_34:K.lookup a_34=some ⟨oc_34,od_34,.func (W.fnOf "_law_ruled" "_law_ruled" (zat s_34) (zaq s_34) (zac s_34) .none kV_34 dc_34 pm_34 an_34 cd_34 ct_34),sl_34⟩) (c_34:W.codeIn K cd_34 "_law_ruled"=true) (k_34:W.keepIn K (.ref a_34)=true)
  (e_35:W.nsIn K mainGlobals "_law_left"=some (some (.ref a_35))) (l_35:K.lookup a_35=some ⟨oc_35,od_35,.func (W.fnOf "_law_left" "_law_left" (zat s_35) (zaq s_35) (zac s_35) .none kV_35 dc_35 pm_35 an_35 cd_35 ct_35),sl_35⟩) (c_35:W.codeIn K cd_35 "_law_left"=true) (k_35:W.keepIn K (.ref a_35)=true)
  (e_36:W.nsIn K mainGlobals "_law_swept"=some (some (.ref a_36))) (l_36:K.lookup a_36=some ⟨oc_36,od_36,.func (W.fnOf "_law_swept" "_law_swept" (zat s_36) (zaq s_36) (zac s_36) .none kV_36 dc_36 pm_36 an_36 cd_36 ct_36),sl_36⟩) (c_36:W.codeIn K cd_36 "_law_swept"=true) (k_36:W.keepIn K (.ref a_36)=true)
  (e_22:W.nsIn K mainGlobals "not_ruled"=some (some (.ref a_22))) (l_22:K.lookup a_22=some ⟨oc_22,od_22,.func (W.fnOf "not_ruled" "not_ruled" (zat s_22) (zaq s_22) (zac s_22) .none kV_22 dc_22 pm_22 an_22 cd_22 ct_22),sl_22⟩) (c_22:W.codeIn K cd_22 "not_ruled"=true) (k_22:W.keepIn K (.ref a_22)=true)
  (e_4:W.nsIn K mainGlobals "things_together"=some (some (.ref a_4))) (l_4:K.lookup a_4=some ⟨oc_4,od_4,.func (W.fnOf "things_together" "things_together" (zat s_4) (zaq s_4) (zac s_4) .none kV_4 dc_4 pm_4 an_4 cd_4 ct_4),sl_4⟩) (c_4:W.codeIn K cd_4 "things_together"=true) (k_4:W.keepIn K (.ref a_4)=true)
  (e_5:W.nsIn K mainGlobals "have_all"=some (some (.ref a_5))) (l_5:K.lookup a_5=some ⟨oc_5,od_5,.func (W.fnOf "have_all" "have_all" (zat s_5) (zaq s_5) (zac s_5) .none kV_5 dc_5 pm_5 an_5 cd_5 ct_5),sl_5⟩) (c_5:W.codeIn K cd_5 "have_all"=true) (k_5:W.keepIn K (.ref a_5)=true)
  (e_2:W.nsIn K mainGlobals "is_full"=some (some (.ref a_2))) (l_2:K.lookup a_2=some ⟨oc_2,od_2,.func (W.fnOf "is_full" "is_full" (zat s_2) (zaq s_2) (zac s_2) .none kV_2 dc_2 pm_2 an_2 cd_2 ct_2),sl_2⟩) (c_2:W.codeIn K cd_2 "is_full"=true) (k_2:W.keepIn K (.ref a_2)=true)
  (e_3:W.nsIn K mainGlobals "need_full"=some (some (.ref a_3))) (l_3:K.lookup a_3=some ⟨oc_3,od_3,.func (W.fnOf "need_full" "need_full" (zat s_3) (zaq s_3) (zac s_3) .none kV_3 dc_3 pm_3 an_3 cd_3 ct_3),sl_3⟩) (c_3:W.codeIn K cd_3 "need_full"=true) (k_3:W.keepIn K (.ref a_3)=true)
  (e_19:W.nsIn K mainGlobals "rules"=some (some (.ref a_19))) (l_19:K.lookup a_19=some ⟨oc_19,od_19,.func (W.fnOf "rules" "rules" (zat s_19) (zaq s_19) (zac s_19) .none kV_19 dc_19 pm_19 an_19 cd_19 ct_19),sl_19⟩) (c_19:W.codeIn K cd_19 "rules"=true) (k_19:W.keepIn K (.ref a_19)=true)
  (e_18:W.nsIn K mainGlobals "ruled_by"=some (some (.ref a_18))) (l_18:K.lookup a_18=some ⟨oc_18,od_18,.func (W.fnOf "ruled_by" "ruled_by" (zat s_18) (zaq s_18) (zac s_18) .none kV_18 dc_18 pm_18 an_18 cd_18 ct_18),sl_18⟩) (c_18:W.codeIn K cd_18 "ruled_by"=true) (k_18:W.keepIn K (.ref a_18)=true)
  (e_17:W.nsIn K mainGlobals "are_among"=some (some (.ref a_17))) (l_17:K.lookup a_17=some ⟨oc_17,od_17,.func (W.fnOf "are_among" "are_among" (zat s_17) (zaq s_17) (zac s_17) .none kV_17 dc_17 pm_17 an_17 cd_17 ct_17),sl_17⟩) (c_17:W.codeIn K cd_17 "are_among"=true) (k_17:W.keepIn K (.ref a_17)=true)
  (e_14:W.nsIn K mainGlobals "as_good_offers"=some (some (.ref a_14))) (l_14:K.lookup a_14=some ⟨oc_14,od_14,.func (W.fnOf "as_good_offers" "as_good_offers" (zat s_14) (zaq s_14) (zac s_14) .none kV_14 dc_14 pm_14 an_14 cd_14 ct_14),sl_14⟩) (c_14:W.codeIn K cd_14 "as_good_offers"=true) (k_14:W.keepIn K (.ref a_14)=true)
  (e_13:W.nsIn K mainGlobals "table_of_offers"=some (some (.ref a_13))) (l_13:K.lookup a_13=some ⟨oc_13,od_13,.func (W.fnOf "table_of_offers" "table_of_offers" (zat s_13) (zaq s_13) (zac s_13) .none kV_13 dc_13 pm_13 an_13 cd_13 ct_13),sl_13⟩) (c_13:W.codeIn K cd_13 "table_of_offers"=true) (k_13:W.keepIn K (.ref a_13)=true)
  (e_9:W.nsIn K mainGlobals "ruled_offers"=some (some (.ref a_9))) (l_9:K.lookup a_9=some ⟨oc_9,od_9,.func (W.fnOf "ruled_offers" "ruled_offers" (zat s_9) (zaq s_9) (zac s_9) .none kV_9 dc_9 pm_9 an_9 cd_9 ct_9),sl_9⟩) (c_9:W.codeIn K cd_9 "ruled_offers"=true) (k_9:W.keepIn K (.ref a_9)=true)
  (e_6:W.nsIn K mainGlobals "offers_with"=some (some (.ref a_6))) (l_6:K.lookup a_6=some ⟨oc_6,od_6,.func (W.fnOf "offers_with" "offers_with" (zat s_6) (zaq s_6) (zac s_6) .none kV_6 dc_6 pm_6 an_6 cd_6 ct_6),sl_6⟩) (c_6:W.codeIn K cd_6 "offers_with"=true) (k_6:W.keepIn K (.ref a_6)=true)
  (e_16:W.nsIn K mainGlobals "as_scarce_things"=some (some (.ref a_16))) (l_16:K.lookup a_16=some ⟨oc_16,od_16,.func (W.fnOf "as_scarce_things" "as_scarce_things" (zat s_16) (zaq s_16) (zac s_16) .none kV_16 dc_16 pm_16 an_16 cd_16 ct_16),sl_16⟩) (c_16:W.codeIn K cd_16 "as_scarce_things"=true) (k_16:W.keepIn K (.ref a_16)=true)
  (e_15:W.nsIn K mainGlobals "table_of_things"=some (some (.ref a_15))) (l_15:K.lookup a_15=some ⟨oc_15,od_15,.func (W.fnOf "table_of_things" "table_of_things" (zat s_15) (zaq s_15) (zac s_15) .none kV_15 dc_15 pm_15 an_15 cd_15 ct_15),sl_15⟩) (c_15:W.codeIn K cd_15 "table_of_things"=true) (k_15:W.keepIn K (.ref a_15)=true)
  (e_10:W.nsIn K mainGlobals "ruled_things"=some (some (.ref a_10))) (l_10:K.lookup a_10=some ⟨oc_10,od_10,.func (W.fnOf "ruled_things" "ruled_things" (zat s_10) (zaq s_10) (zac s_10) .none kV_10 dc_10 pm_10 an_10 cd_10 ct_10),sl_10⟩) (c_10:W.codeIn K cd_10 "ruled_things"=true) (k_10:W.keepIn K (.ref a_10)=true)
  (e_8:W.nsIn K mainGlobals "narrowed"=some (some (.ref a_8))) (l_8:K.lookup a_8=some ⟨oc_8,od_8,.func (W.fnOf "narrowed" "narrowed" (zat s_8) (zaq s_8) (zac s_8) .none kV_8 dc_8 pm_8 an_8 cd_8 ct_8),sl_8⟩) (c_8:W.codeIn K cd_8 "narrowed"=true) (k_8:W.keepIn K (.ref a_8)=true)
  (e_7:W.nsIn K mainGlobals "rest_of"=some (some (.ref a_7))) (l_7:K.lookup a_7=some ⟨oc_7,od_7,.func (W.fnOf "rest_of" "rest_of" (zat s_7) (zaq s_7) (zac s_7) .none kV_7 dc_7 pm_7 an_7 cd_7 ct_7),sl_7⟩) (c_7:W.codeIn K cd_7 "rest_of"=true) (k_7:W.keepIn K (.ref a_7)=true)
  (e_21:W.nsIn K mainGlobals "behind_sweep"=some (some (.ref a_21))) (l_21:K.lookup a_21=some ⟨oc_21,od_21,.func (W.fnOf "behind_sweep" "behind_sweep" (zat s_21) (zaq s_21) (zac s_21) .none kV_21 dc_21 pm_21 an_21 cd_21 ct_21),sl_21⟩) (c_21:W.codeIn K cd_21 "behind_sweep"=true) (k_21:W.keepIn K (.ref a_21)=true)
  (e_20:W.nsIn K mainGlobals "stays_by_sweeps"=some (some (.ref a_20))) (l_20:K.lookup a_20=some ⟨oc_20,od_20,.func (W.fnOf "stays_by_sweeps" "stays_by_sweeps" (zat s_20) (zaq s_20) (zac s_20) .none kV_20 dc_20 pm_20 an_20 cd_20 ct_20),sl_20⟩) (c_20:W.codeIn K cd_20 "stays_by_sweeps"=true) (k_20:W.keepIn K (.ref a_20)=true)
  (e_11:W.nsIn K mainGlobals "lesser_stock"=some (some (.ref a_11))) (l_11:K.lookup a_11=some ⟨oc_11,od_11,.func (W.fnOf "lesser_stock" "lesser_stock" (zat s_11) (zaq s_11) (zac s_11) .none kV_11 dc_11 pm_11 an_11 cd_11 ct_11),sl_11⟩) (c_11:W.codeIn K cd_11 "lesser_stock"=true) (k_11:W.keepIn K (.ref a_11)=true)
  (e_24:W.nsIn K mainGlobals "missing"=some (some (.ref a_24))) (l_24:K.lookup a_24=some ⟨oc_24,od_24,.func (W.fnOf "missing" "missing" (zat s_24) (zaq s_24) (zac s_24) .none kV_24 dc_24 pm_24 an_24 cd_24 ct_24),sl_24⟩) (c_24:W.codeIn K cd_24 "missing"=true) (k_24:W.keepIn K (.ref a_24)=true)
  (e_23:W.nsIn K mainGlobals "left_out"=some (some (.ref a_23))) (l_23:K.lookup a_23=some ⟨oc_23,od_23,.func (W.fnOf "left_out" "left_out" (zat s_23) (zaq s_23) (zac s_23) .none kV_23 dc_23 pm_23 an_23 cd_23 ct_23),sl_23⟩) (c_23:W.codeIn K cd_23 "left_out"=true) (k_23:W.keepIn K (.ref a_23)=true)
  (e_12:W.nsIn K mainGlobals "sweeps"=some (some (.ref a_12))) (l_12:K.lookup a_12=some ⟨oc_12,od_12,.func (W.fnOf "sweeps" "sweeps" (zat s_12) (zaq s_12) (zac s_12) .none kV_12 dc_12 pm_12 an_12 cd_12 ct_12),sl_12⟩) (c_12:W.codeIn K cd_12 "sweeps"=true) (k_12:W.keepIn K (.ref a_12)=true)
  (e_38:W.nsIn K mainGlobals "law"=some (some (.ref a_38))) (l_38:K.lookup a_38=some ⟨oc_38,od_38,.func (W.fnOf "law" "law" (zat s_38) (zaq s_38) (zac s_38) .none kV_38 dc_38 pm_38 an_38 cd_38 ct_38),sl_38⟩) (c_38:W.codeIn K cd_38 "law"=true) (k_38:W.keepIn K (.ref a_38)=true)
  (z_all:W.nsIn K mainGlobals "all"=some none)
  (z_divmod:W.nsIn K mainGlobals "divmod"=some none)
  (z_enumerate:W.nsIn K mainGlobals "enumerate"=some none)
  (z_int:W.nsIn K mainGlobals "int"=some none)
  (z_isinstance:W.nsIn K mainGlobals "isinstance"=some none)
  (z_len:W.nsIn K mainGlobals "len"=some none)
  (z_list:W.nsIn K mainGlobals "list"=some none)
  (z_max:W.nsIn K mainGlobals "max"=some none)
  (z_min:W.nsIn K mainGlobals "min"=some none)
  (z_range:W.nsIn K mainGlobals "range"=some none)
  (z_set:W.nsIn K mainGlobals "set"=some none)
  (z_sorted:W.nsIn K mainGlobals "sorted"=some none)
  (z_tuple:W.nsIn K mainGlobals "tuple"=some none)
  : ∃ fd:FuncData,(∀ (s:Shared) (v:Value),BindsTo s fd ⟨[v],[]⟩ [("script",v)])/\ ∀ base:Heap,K.In base->base.Ns mainGlobals mg->zbM l.prog w K mg base CX0 9 fa fd ["script"] (zch K 1 F_38):=by
 have e:=hfa.symm.trans (W.mg_of X G e_38)
 cases e
 have F_25:=zaI (st:=s_25) l_25 c_25 k_25
 have b_25:=F_25.binds (ps:=["script","k"]) fun _ _ _ _ _ _ us hl=>match us,hl with | [_,_],_=>rfl
 have F_26:=zaI (st:=s_26) l_26 c_26 k_26
 have b_26:=F_26.binds (ps:=["cell","k"]) fun _ _ _ _ _ _ us hl=>match us,hl with | [_,_],_=>rfl
 have F_27:=zaI (st:=s_27) l_27 c_27 k_27
 have b_27:=F_27.binds (ps:=["script","k"]) fun _ _ _ _ _ _ us hl=>match us,hl with | [_,_],_=>rfl
 have F_28:=zaI (st:=s_28) l_28 c_28 k_28
 have b_28:=F_28.binds (ps:=["box","many"]) fun _ _ _ _ _ _ us hl=>match us,hl with | [_,_],_=>rfl
 have F_29:=zaI (st:=s_29) l_29 c_29 k_29
 have b_29:=F_29.binds (ps:=["box","most_things","most_offers"]) fun _ _ _ _ _ _ us hl=>match us,hl with | [_,_,_],_=>rfl
 have F_30:=zaI (st:=s_30) l_30 c_30 k_30
 have b_30:=F_30.binds (ps:=["box","most_things","most_offers"]) fun _ _ _ _ _ _ us hl=>match us,hl with | [_,_,_],_=>rfl
 have F_37:=zaI (st:=s_37) l_37 c_37 k_37
 have b_37:=F_37.binds (ps:=["box"]) fun _ _ _ _ _ _ us hl=>match us,hl with | [_],_=>rfl
 have F_31:=zaI (st:=s_31) l_31 c_31 k_31
 have b_31:=F_31.binds (ps:=["stock","by","offer"]) fun _ _ _ _ _ _ us hl=>match us,hl with | [_,_,_],_=>rfl
 have F_32:=zaI (st:=s_32) l_32 c_32 k_32
 have b_32:=F_32.binds (ps:=["stock","thing"]) fun _ _ _ _ _ _ us hl=>match us,hl with | [_,_],_=>rfl
 have F_33:=zaI (st:=s_33) l_33 c_33 k_33
 have b_33:=F_33.binds (ps:=["stock","by","thing"]) fun _ _ _ _ _ _ us hl=>match us,hl with | [_,_,_],_=>rfl
 have F_34:=zaI (st:=s_34) l_34 c_34 k_34
 have b_34:=F_34.binds (ps:=["stock","things"]) fun _ _ _ _ _ _ us hl=>match us,hl with | [_,_],_=>rfl
 have F_35:=zaI (st:=s_35) l_35 c_35 k_35
 have b_35:=F_35.binds (ps:=["stock","things","offers"]) fun _ _ _ _ _ _ us hl=>match us,hl with | [_,_,_],_=>rfl
 have F_36:=zaI (st:=s_36) l_36 c_36 k_36
 have b_36:=F_36.binds (ps:=["stock"]) fun _ _ _ _ _ _ us hl=>match us,hl with | [_],_=>rfl
 have F_22:=zaI (st:=s_22) l_22 c_22 k_22
 have b_22:=F_22.binds (ps:=["count","ruled"]) fun _ _ _ _ _ _ us hl=>match us,hl with | [_,_],_=>rfl
 have F_4:=zaI (st:=s_4) l_4 c_4 k_4
 have b_4:=F_4.binds (ps:=["offers"]) fun _ _ _ _ _ _ us hl=>match us,hl with | [_],_=>rfl
 have F_5:=zaI (st:=s_5) l_5 c_5 k_5
 have b_5:=F_5.binds (ps:=["stock","offers"]) fun _ _ _ _ _ _ us hl=>match us,hl with | [_,_],_=>rfl
 have F_2:=zaI (st:=s_2) l_2 c_2 k_2
 have b_2:=F_2.binds (ps:=["stock"]) fun _ _ _ _ _ _ us hl=>match us,hl with | [_],_=>rfl
 have F_3:=zaI (st:=s_3) l_3 c_3 k_3
 have b_3:=F_3.binds (ps:=["stock"]) fun _ _ _ _ _ _ us hl=>match us,hl with | [_],_=>rfl
 have F_19:=zaI (st:=s_19) l_19 c_19 k_19
 have b_19:=F_19.binds (ps:=["table","other","number"]) fun _ _ _ _ _ _ us hl=>match us,hl with | [_,_,_],_=>rfl
 have F_18:=zaI (st:=s_18) l_18 c_18 k_18
 have b_18:=F_18.binds (ps:=["table"]) fun _ _ _ _ _ _ us hl=>match us,hl with | [_],_=>rfl
 have F_17:=zaI (st:=s_17) l_17 c_17 k_17
 have b_17:=F_17.binds (ps:=["numbers","others"]) fun _ _ _ _ _ _ us hl=>match us,hl with | [_,_],_=>rfl
 have F_14:=zaI (st:=s_14) l_14 c_14 k_14
 have b_14:=F_14.binds (ps:=["stock","offer"]) fun _ _ _ _ _ _ us hl=>match us,hl with | [_,_],_=>rfl
 have F_13:=zaI (st:=s_13) l_13 c_13 k_13
 have b_13:=F_13.binds (ps:=["stock"]) fun _ _ _ _ _ _ us hl=>match us,hl with | [_],_=>rfl
 have F_9:=zaI (st:=s_9) l_9 c_9 k_9
 have b_9:=F_9.binds (ps:=["stock"]) fun _ _ _ _ _ _ us hl=>match us,hl with | [_],_=>rfl
 have F_6:=zaI (st:=s_6) l_6 c_6 k_6
 have b_6:=F_6.binds (ps:=["stock","thing"]) fun _ _ _ _ _ _ us hl=>match us,hl with | [_,_],_=>rfl
 have F_16:=zaI (st:=s_16) l_16 c_16 k_16
 have b_16:=F_16.binds (ps:=["stock","thing"]) fun _ _ _ _ _ _ us hl=>match us,hl with | [_,_],_=>rfl
 have F_15:=zaI (st:=s_15) l_15 c_15 k_15
 have b_15:=F_15.binds (ps:=["stock"]) fun _ _ _ _ _ _ us hl=>match us,hl with | [_],_=>rfl
 have F_10:=zaI (st:=s_10) l_10 c_10 k_10
 have b_10:=F_10.binds (ps:=["stock"]) fun _ _ _ _ _ _ us hl=>match us,hl with | [_],_=>rfl
 have F_8:=zaI (st:=s_8) l_8 c_8 k_8
 have b_8:=F_8.binds (ps:=["offer","things"]) fun _ _ _ _ _ _ us hl=>match us,hl with | [_,_],_=>rfl
 have F_7:=zaI (st:=s_7) l_7 c_7 k_7
 have b_7:=F_7.binds (ps:=["stock","things","numbers"]) fun _ _ _ _ _ _ us hl=>match us,hl with | [_,_,_],_=>rfl
 have F_21:=zaI (st:=s_21) l_21 c_21 k_21
 have b_21:=F_21.binds (ps:=["stay"]) fun _ _ _ _ _ _ us hl=>match us,hl with | [_],_=>rfl
 have F_20:=zaI (st:=s_20) l_20 c_20 k_20
 have b_20:=F_20.binds (ps:=["stock"]) fun _ _ _ _ _ _ us hl=>match us,hl with | [_],_=>rfl
 have F_11:=zaI (st:=s_11) l_11 c_11 k_11
 have b_11:=F_11.binds (ps:=["stock"]) fun _ _ _ _ _ _ us hl=>match us,hl with | [_],_=>rfl
 have F_24:=zaI (st:=s_24) l_24 c_24 k_24
 have b_24:=F_24.binds (ps:=["numbers","others"]) fun _ _ _ _ _ _ us hl=>match us,hl with | [_,_],_=>rfl
 have F_23:=zaI (st:=s_23) l_23 c_23 k_23
 have b_23:=F_23.binds (ps:=["stay","later"]) fun _ _ _ _ _ _ us hl=>match us,hl with | [_,_],_=>rfl
 have F_12:=zaI (st:=s_12) l_12 c_12 k_12
 have b_12:=F_12.binds (ps:=["stock"]) fun _ _ _ _ _ _ us hl=>match us,hl with | [_],_=>rfl
 have F_38:=zaI (st:=s_38) l_38 c_38 k_38
 have b_38:=F_38.binds (ps:=["script"]) fun _ _ _ _ _ _ us hl=>match us,hl with | [_],_=>rfl
 have T:Tx K mg ⟨a_25,_,a_26,_,a_27,_,a_28,_,a_29,_,a_30,_,a_37,_,a_31,_,a_32,_,a_33,_,a_34,_,a_35,_,a_36,_,a_22,_,a_4,_,a_5,_,a_2,_,a_3,_,a_19,_,a_18,_,a_17,_,a_14,_,a_13,_,a_9,_,a_6,_,a_16,_,a_15,_,a_10,_,a_8,_,a_7,_,a_21,_,a_20,_,a_11,_,a_24,_,a_23,_,a_12,_,fa,_⟩:=
  {n_all:=W.mg_none_of X G z_all,
    n_divmod:=W.mg_none_of X G z_divmod,
    n_enumerate:=W.mg_none_of X G z_enumerate,
    n_int:=W.mg_none_of X G z_int,
    n_isinstance:=W.mg_none_of X G z_isinstance,
    n_len:=W.mg_none_of X G z_len,
    n_list:=W.mg_none_of X G z_list,
    n_max:=W.mg_none_of X G z_max,
    n_min:=W.mg_none_of X G z_min,
    n_range:=W.mg_none_of X G z_range,
    n_set:=W.mg_none_of X G z_set,
    n_sorted:=W.mg_none_of X G z_sorted,
    n_tuple:=W.mg_none_of X G z_tuple,
    m_25:=W.mg_of X G e_25,
    F_25:=F_25,
    b_25:=b_25,
    m_26:=W.mg_of X G e_26,
    F_26:=F_26,
    b_26:=b_26,
    m_27:=W.mg_of X G e_27,
    F_27:=F_27,
    b_27:=b_27,
    m_28:=W.mg_of X G e_28,
    F_28:=F_28,
    b_28:=b_28,
    m_29:=W.mg_of X G e_29,
    F_29:=F_29,
    b_29:=b_29,
    m_30:=W.mg_of X G e_30,
    F_30:=F_30,
    b_30:=b_30,
    m_37:=W.mg_of X G e_37,
    F_37:=F_37,
    b_37:=b_37,
    m_31:=W.mg_of X G e_31,
    F_31:=F_31,
    b_31:=b_31,
    m_32:=W.mg_of X G e_32,
    F_32:=F_32,
    b_32:=b_32,
    m_33:=W.mg_of X G e_33,
    F_33:=F_33,
    b_33:=b_33,
    m_34:=W.mg_of X G e_34,
    F_34:=F_34,
    b_34:=b_34,
    m_35:=W.mg_of X G e_35,
    F_35:=F_35,
    b_35:=b_35,
    m_36:=W.mg_of X G e_36,
    F_36:=F_36,
    b_36:=b_36,
    m_22:=W.mg_of X G e_22,
    F_22:=F_22,
    b_22:=b_22,
    m_4:=W.mg_of X G e_4,
    F_4:=F_4,
    b_4:=b_4,
    m_5:=W.mg_of X G e_5,
    F_5:=F_5,
    b_5:=b_5,
    m_2:=W.mg_of X G e_2,
    F_2:=F_2,
    b_2:=b_2,
    m_3:=W.mg_of X G e_3,
    F_3:=F_3,
    b_3:=b_3,
    m_19:=W.mg_of X G e_19,
    F_19:=F_19,
    b_19:=b_19,
    m_18:=W.mg_of X G e_18,
    F_18:=F_18,
    b_18:=b_18,
    m_17:=W.mg_of X G e_17,
    F_17:=F_17,
    b_17:=b_17,
    m_14:=W.mg_of X G e_14,
    F_14:=F_14,
    b_14:=b_14,
    m_13:=W.mg_of X G e_13,
    F_13:=F_13,
    b_13:=b_13,
    m_9:=W.mg_of X G e_9,
    F_9:=F_9,
    b_9:=b_9,
    m_6:=W.mg_of X G e_6,
    F_6:=F_6,
    b_6:=b_6,
    m_16:=W.mg_of X G e_16,
    F_16:=F_16,
    b_16:=b_16,
    m_15:=W.mg_of X G e_15,
    F_15:=F_15,
    b_15:=b_15,
    m_10:=W.mg_of X G e_10,
    F_10:=F_10,
    b_10:=b_10,
    m_8:=W.mg_of X G e_8,
    F_8:=F_8,
    b_8:=b_8,
    m_7:=W.mg_of X G e_7,
    F_7:=F_7,
    b_7:=b_7,
    m_21:=W.mg_of X G e_21,
    F_21:=F_21,
    b_21:=b_21,
    m_20:=W.mg_of X G e_20,
    F_20:=F_20,
    b_20:=b_20,
    m_11:=W.mg_of X G e_11,
    F_11:=F_11,
    b_11:=b_11,
    m_24:=W.mg_of X G e_24,
    F_24:=F_24,
    b_24:=b_24,
    m_23:=W.mg_of X G e_23,
    F_23:=F_23,
    b_23:=b_23,
    m_12:=W.mg_of X G e_12,
    F_12:=F_12,
    b_12:=b_12,
    m_38:=W.mg_of X G e_38,
    F_38:=F_38,
    b_38:=b_38}
 exact ⟨W.fnOf "law" "law" (zat s_38) (zaq s_38) (zac s_38) .none kV_38 dc_38 pm_38 an_38 cd_38 ct_38,fun s v=> .of_eq rfl,fun base _ _=>ok_38 T⟩
theorem ztk {l:W.OpenLaw} {q:Program} {loose:List Str} {XP:(Str->Option Value)->Heap->Prop} {YP:World->Heap->Prop} {d:DefRec} {K:Params->W.Frag} (hn:l.most=some 63) (hdf:d.params.defaults=[])
  (hY: ∀ (w:World) (h:Heap),YP w h->(K w.params).In h)
  (F: ∀ (w:World) (mg:Str->Option Value) (fa:Addr) (h:Heap),(K w.params).In h->h.Ns mainGlobals mg->mg d.name=some (.ref fa)->
    ∃ fd:FuncData,(∀ (s:Shared) (u:Value),BindsTo s fd ⟨[u],[]⟩ [("script",u)])/\ ∀ base:Heap,(K w.params).In base->base.Ns mainGlobals mg->zbM l.prog w (K w.params) mg base CX0 9 fa fd ["script"] (zch (K w.params) 1 F_38))
  (hm: ∀ ns:List Int,ns.length<=63->(∀ i∈ns,Builtin.Int.intBits i<=2^20)-> ∃ h',F_38 [.scr (ns.map D.int)] []= .ok (.bl true) h'):
  W.WalkO q loose XP YP l.row.toRowW d [] (fun f vs=>PySem.call f vs):=
 L2.zlx (n:=63) (k:=9) (x:="script") (CX:=fun _=>CX0) (sp:=fun w=>zch (K w.params) 1 F_38) hn (by decide) hdf ⟨rfl,by decide,by decide⟩ hY F (fun w H a ns hl hw hS=>zsw hS (hm ns hl hw)) fun _ _ _ _ _ z=>z
end K62
open PySem PySem.W PyProof.Rows
set_option maxRecDepth 100000 in
set_option maxHeartbeats 0 in
theorem PySem.Challenge.cw_cheapcovers_k62_lesser_stocks_holds : PySem.Challenge.rw_cheapcovers_k62_lesser_stocks.Holds := by
 w_on; o_law; k_head; (case hw => w_witness2)
 k_fill
 refine K62.ztk (l := PySem.Challenge.rw_cheapcovers_k62_lesser_stocks) rfl rfl (fun w h Y => W.kIn_of Y) ?F K62.zma
 case F =>
  intro w mg fa h KX G hmg
  refine' K62.zqn KX G hmg ?e__law_cell ?l__law_cell ?c__law_cell ?k__law_cell ?e__law_mix ?l__law_mix ?c__law_mix ?k__law_mix ?e__law_box ?l__law_box ?c__law_box ?k__law_box ?e__law_take ?l__law_take ?c__law_take ?k__law_take ?e__law_stock ?l__law_stock ?c__law_stock ?k__law_stock ?e__law_full ?l__law_full ?c__law_full ?k__law_full ?e__law_alike_stock ?l__law_alike_stock ?c__law_alike_stock ?k__law_alike_stock ?e__law_rules ?l__law_rules ?c__law_rules ?k__law_rules ?e__law_have ?l__law_have ?c__law_have ?k__law_have ?e__law_thing_rules ?l__law_thing_rules ?c__law_thing_rules ?k__law_thing_rules ?e__law_ruled ?l__law_ruled ?c__law_ruled ?k__law_ruled ?e__law_left ?l__law_left ?c__law_left ?k__law_left ?e__law_swept ?l__law_swept ?c__law_swept ?k__law_swept ?e_not_ruled ?l_not_ruled ?c_not_ruled ?k_not_ruled ?e_things_together ?l_things_together ?c_things_together ?k_things_together ?e_have_all ?l_have_all ?c_have_all ?k_have_all ?e_is_full ?l_is_full ?c_is_full ?k_is_full ?e_need_full ?l_need_full ?c_need_full ?k_need_full ?e_rules ?l_rules ?c_rules ?k_rules ?e_ruled_by ?l_ruled_by ?c_ruled_by ?k_ruled_by ?e_are_among ?l_are_among ?c_are_among ?k_are_among ?e_as_good_offers ?l_as_good_offers ?c_as_good_offers ?k_as_good_offers ?e_table_of_offers ?l_table_of_offers ?c_table_of_offers ?k_table_of_offers ?e_ruled_offers ?l_ruled_offers ?c_ruled_offers ?k_ruled_offers ?e_offers_with ?l_offers_with ?c_offers_with ?k_offers_with ?e_as_scarce_things ?l_as_scarce_things ?c_as_scarce_things ?k_as_scarce_things ?e_table_of_things ?l_table_of_things ?c_table_of_things ?k_table_of_things ?e_ruled_things ?l_ruled_things ?c_ruled_things ?k_ruled_things ?e_narrowed ?l_narrowed ?c_narrowed ?k_narrowed ?e_rest_of ?l_rest_of ?c_rest_of ?k_rest_of ?e_behind_sweep ?l_behind_sweep ?c_behind_sweep ?k_behind_sweep ?e_stays_by_sweeps ?l_stays_by_sweeps ?c_stays_by_sweeps ?k_stays_by_sweeps ?e_lesser_stock ?l_lesser_stock ?c_lesser_stock ?k_lesser_stock ?e_missing ?l_missing ?c_missing ?k_missing ?e_left_out ?l_left_out ?c_left_out ?k_left_out ?e_sweeps ?l_sweeps ?c_sweeps ?k_sweeps ?e_law ?l_law ?c_law ?k_law ?z_all ?z_divmod ?z_enumerate ?z_int ?z_isinstance ?z_len ?z_list ?z_max ?z_min ?z_range ?z_set ?z_sorted ?z_tuple
  (case e__law_cell => k_is)
  (case l__law_cell => k_is)
  (case c__law_cell => k_is)
  (case k__law_cell => k_is)
  (case e__law_mix => k_is)
  (case l__law_mix => k_is)
  (case c__law_mix => k_is)
  (case k__law_mix => k_is)
  (case e__law_box => k_is)
  (case l__law_box => k_is)
  (case c__law_box => k_is)
  (case k__law_box => k_is)
  (case e__law_take => k_is)
  (case l__law_take => k_is)
  (case c__law_take => k_is)
  (case k__law_take => k_is)
  (case e__law_stock => k_is)
  (case l__law_stock => k_is)
  (case c__law_stock => k_is)
  (case k__law_stock => k_is)
  (case e__law_full => k_is)
  (case l__law_full => k_is)
  (case c__law_full => k_is)
  (case k__law_full => k_is)
  (case e__law_alike_stock => k_is)
  (case l__law_alike_stock => k_is)
  (case c__law_alike_stock => k_is)
  (case k__law_alike_stock => k_is)
  (case e__law_rules => k_is)
  (case l__law_rules => k_is)
  (case c__law_rules => k_is)
  (case k__law_rules => k_is)
  (case e__law_have => k_is)
  (case l__law_have => k_is)
  (case c__law_have => k_is)
  (case k__law_have => k_is)
  (case e__law_thing_rules => k_is)
  (case l__law_thing_rules => k_is)
  (case c__law_thing_rules => k_is)
  (case k__law_thing_rules => k_is)
  (case e__law_ruled => k_is)
  (case l__law_ruled => k_is)
  (case c__law_ruled => k_is)
  (case k__law_ruled => k_is)
  (case e__law_left => k_is)
  (case l__law_left => k_is)
  (case c__law_left => k_is)
  (case k__law_left => k_is)
  (case e__law_swept => k_is)
  (case l__law_swept => k_is)
  (case c__law_swept => k_is)
  (case k__law_swept => k_is)
  (case e_not_ruled => k_is)
  (case l_not_ruled => k_is)
  (case c_not_ruled => k_is)
  (case k_not_ruled => k_is)
  (case e_things_together => k_is)
  (case l_things_together => k_is)
  (case c_things_together => k_is)
  (case k_things_together => k_is)
  (case e_have_all => k_is)
  (case l_have_all => k_is)
  (case c_have_all => k_is)
  (case k_have_all => k_is)
  (case e_is_full => k_is)
  (case l_is_full => k_is)
  (case c_is_full => k_is)
  (case k_is_full => k_is)
  (case e_need_full => k_is)
  (case l_need_full => k_is)
  (case c_need_full => k_is)
  (case k_need_full => k_is)
  (case e_rules => k_is)
  (case l_rules => k_is)
  (case c_rules => k_is)
  (case k_rules => k_is)
  (case e_ruled_by => k_is)
  (case l_ruled_by => k_is)
  (case c_ruled_by => k_is)
  (case k_ruled_by => k_is)
  (case e_are_among => k_is)
  (case l_are_among => k_is)
  (case c_are_among => k_is)
  (case k_are_among => k_is)
  (case e_as_good_offers => k_is)
  (case l_as_good_offers => k_is)
  (case c_as_good_offers => k_is)
  (case k_as_good_offers => k_is)
  (case e_table_of_offers => k_is)
  (case l_table_of_offers => k_is)
  (case c_table_of_offers => k_is)
  (case k_table_of_offers => k_is)
  (case e_ruled_offers => k_is)
  (case l_ruled_offers => k_is)
  (case c_ruled_offers => k_is)
  (case k_ruled_offers => k_is)
  (case e_offers_with => k_is)
  (case l_offers_with => k_is)
  (case c_offers_with => k_is)
  (case k_offers_with => k_is)
  (case e_as_scarce_things => k_is)
  (case l_as_scarce_things => k_is)
  (case c_as_scarce_things => k_is)
  (case k_as_scarce_things => k_is)
  (case e_table_of_things => k_is)
  (case l_table_of_things => k_is)
  (case c_table_of_things => k_is)
  (case k_table_of_things => k_is)
  (case e_ruled_things => k_is)
  (case l_ruled_things => k_is)
  (case c_ruled_things => k_is)
  (case k_ruled_things => k_is)
  (case e_narrowed => k_is)
  (case l_narrowed => k_is)
  (case c_narrowed => k_is)
  (case k_narrowed => k_is)
  (case e_rest_of => k_is)
  (case l_rest_of => k_is)
  (case c_rest_of => k_is)
  (case k_rest_of => k_is)
  (case e_behind_sweep => k_is)
  (case l_behind_sweep => k_is)
  (case c_behind_sweep => k_is)
  (case k_behind_sweep => k_is)
  (case e_stays_by_sweeps => k_is)
  (case l_stays_by_sweeps => k_is)
  (case c_stays_by_sweeps => k_is)
  (case k_stays_by_sweeps => k_is)
  (case e_lesser_stock => k_is)
  (case l_lesser_stock => k_is)
  (case c_lesser_stock => k_is)
  (case k_lesser_stock => k_is)
  (case e_missing => k_is)
  (case l_missing => k_is)
  (case c_missing => k_is)
  (case k_missing => k_is)
  (case e_left_out => k_is)
  (case l_left_out => k_is)
  (case c_left_out => k_is)
  (case k_left_out => k_is)
  (case e_sweeps => k_is)
  (case l_sweeps => k_is)
  (case c_sweeps => k_is)
  (case k_sweeps => k_is)
  (case e_law => k_is)
  (case l_law => k_is)
  (case c_law => k_is)
  (case k_law => k_is)
  (case z_all => k_is)
  (case z_divmod => k_is)
  (case z_enumerate => k_is)
  (case z_int => k_is)
  (case z_isinstance => k_is)
  (case z_len => k_is)
  (case z_list => k_is)
  (case z_max => k_is)
  (case z_min => k_is)
  (case z_range => k_is)
  (case z_set => k_is)
  (case z_sorted => k_is)
  (case z_tuple => k_is)
