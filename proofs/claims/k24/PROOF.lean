import PyProof.Rows.All
import Wide.All
import OpenK.AllK
import Wide.FinOn
import PyProof.EqAt
import PyProof.EqKinds
import PyProof.TupleCall
import PyProof.StationsW
import PyProof.ExcArgs
import PyProof.Seq
import PyProof.TupleIter
import PyProof.RangeIter
import PyProof.WalkInts
import PyProof.SumWalkG
import PyProof.ListRange
import PyProof.Rows.Range3
import OpenK.KDescr
import PyProof.ExcAttrAll.ValueError
import PyProof.Draws
import PyProof.EnumFor
import PyProof.EnumMake
import PyProof.LayNew
import PyProof.Rows.EnumRows
import PyProof.MinMaxWalk
import Lean
import PySem.Challenge.RW_cheapcovers_k24_whole_bargains_are_not_f
set_option Elab.async false
set_option linter.all false
set_option maxRecDepth 100000
set_option maxHeartbeats 8000000
set_option compiler.extract_closed false
set_option bootstrap.genMatcherCode false
set_option genSizeOfSpec false
section
open PySem PySem.Spec PyProof PyProof.Rows
abbrev qaa := @List.getElem?_append_right
abbrev qab := @Array.getElem?_eq_some_iff
abbrev qac := @List.getElem?_eq_some_iff
abbrev qad := @List.getElem?_append_left
abbrev qaf := @List.getElem?_eq_getElem
abbrev qag := @Heap.get?_push_of_some
abbrev qah := @Heap.get?_update_other
abbrev qai := @List.getElem?_set_self
abbrev qak := @List.mem_append_right
abbrev qal := @Heap.get?_update_self
abbrev qan := @List.mem_cons_of_mem
abbrev qao := @List.getElem?_set_ne
abbrev qap := @Around.under_plainId
abbrev qaq := @List.pairwise_append
abbrev qar := @Heap.get?_push_size
abbrev qas := @Array.length_toList
abbrev qat := @List.filterMap_cons
abbrev qau := @List.mem_cons_self
abbrev qav := @List.length_append
abbrev qaw := @Nat.lt_of_lt_of_le
abbrev qax := @Bool.false_eq_true
abbrev qay := @List.pairwise_cons
abbrev qaA := @List.size_toArray
abbrev qaB := @Int.toNat_natCast
abbrev qaC := @wpAny_newObj_type
abbrev qaD := @decide_eq_true_eq
abbrev qaE := @List.length_cons
abbrev qaF := @List.not_mem_nil
abbrev qaG := @Bool.and_eq_true
abbrev qaH := @List.length_map
abbrev qaI := @List.length_set
abbrev qaJ := @List.length_nil
abbrev qaK := @List.mem_append
abbrev qaL := @Heap.size_push
abbrev qaM := @List.map_cons
abbrev qaN := @Nat.lt_irrefl
abbrev qaO := @wpAny_holding
abbrev qaP := @List.mem_cons
abbrev qaQ := @Heap.lt_size
abbrev qaR := @Nat.ne_of_lt
abbrev qaS := @Nat.le_trans
abbrev qaT := @List.map_map
abbrev qaU := @List.mem_map
abbrev qaV := @Nat.le_refl
abbrev qaW := @wpAny_bind
abbrev qaX := @wpAny_pure
abbrev qaZ := @wpAny_mono
abbrev qa0 := @False.elim
abbrev qa4 := @if_pos
abbrev qa5 := @if_neg
end
noncomputable def PySem.W.Fast.tw16163238879154148790:Nat:=0
noncomputable def PySem.W.Fast.tw15092976165576188096:Nat:=0
noncomputable def PySem.W.Fast.tw17229186664874730788:Nat:=0
noncomputable def PySem.W.Fast.tw1214260300900440219:Nat:=0
noncomputable def PySem.W.Fast.tw16599244815914563397:Nat:=0
noncomputable def PySem.W.Fast.tw5410207859422154659:Nat:=0
noncomputable def PySem.W.Fast.tw1586350106666783259:Nat:=0
noncomputable def PySem.W.Fast.tw2566263177610142993:Nat:=0
noncomputable def PySem.W.Fast.tw8094061906590012763:Nat:=0
noncomputable def PySem.W.Fast.tw1386653139141292579:Nat:=0
noncomputable def PySem.W.Fast.tw2603509653672028135:Nat:=0
noncomputable def PySem.W.Fast.tw3864773104566520287:Nat:=0
noncomputable def PySem.W.Fast.tw860311833992761816:Nat:=0
noncomputable def PySem.W.Fast.tw398385890548000639:Nat:=0
noncomputable def PySem.W.Fast.tw15633934977504091374:Nat:=0
noncomputable def PySem.W.Fast.tw14458674241144880779:Nat:=0
namespace L3
open PySem
def zie (h:Heap) (e:Addr) (cls head:Value):Prop:= ∃ ob vs,h.get? e=some ob/\ob.cls=cls/\ob.dict=none/\ob.data= .fields vs/\vs[2]? = some .none/\vs[1]? = some head
def zwc (h B:Heap) (e:Addr) (head fl:Value):Prop:= ∃ T ot ts,head= .ref T/\B.get? T=none/\T≠e/\h.get? T=some ot/\ot.data= .fields ts/\ts[3]? = some fl
structure Fly (B:Heap) (l:List Env) (e:Addr) (cls fl:Value) (h:Heap):Prop where
 stays:B.StaysIn h
 new:B.get? e=none
 frames:h.FunFrames B l
 exc: ∃ head,zie h e cls head/\zwc h B e head fl
theorem znv (o:Obj) (f):(o.mapFields f).dict=o.dict:=by
 obtain ⟨c,d,t,z⟩:=o
 cases t<;>rfl
section
variable {M:Model} {A:Around} {E:Value->Shared->Prop} {s:Shared} {B:Heap} {env:Env} {outer l:List Env} {L e:Addr} {cls head fl:Value}
theorem znU {hd0:Value} {hadNext:Bool} {Q:Unit->Shared->Prop} (hfr:A.frames=some (env::outer)) (hl:s.heap.FunFrames B (env::outer)) (hf:env.frame=some L) (hx:zie s.heap e cls head)
  (hkb:B.StaysIn s.heap) (hen:B.get? e=none) (q: ∀ h',Fly B (env::outer) e cls (rawInt L) h'->s.heap.UpToSlots h'->Q () {s with heap:=h'}):
  wpAny M A (do let a<-frameOf env;let pl<-entryPlaceOf L hadNext;let b<-EntryCells.newEntry hd0 a .none (rawInt L) .none pl;setField (.ref e) 1 b) Q E s:=by
 obtain ⟨ob,vs,h1,h2,h3,h4,h5,h6⟩:=hx
 have hsz:1<vs.size:=(qab.mp h6).1
 have nfr:e∉(env::outer).filterMap (·.frame):=fun z=>by
  obtain ⟨_,o,ho,hn⟩:=hl.mem z
  rw [h1] at ho
  cases ho
  exact hn vs h4
 refine qaW (wpAny_frameOf_fun hfr hl hf fun g sg=> ?_)
 refine qaW (wpAny_entryPlaceOf fun pl hpl=> ?_)
 unfold EntryCells.newEntry newFields
 refine qaW (qaC ?_ (hpl.sizeOk5 _ _ _ _ _))
 have e1:g.get? e=some ob:=(sg.2.1 e nfr).trans h1
 have kb:B.StaysIn g:=fun b o z=>(sg.2.1 b fun w=>by rw [(hl.mem w).1] at z;cases z).trans (hkb b o z)
 generalize hob:({cls:= .type "traceback",dict:=none,data:= .fields ([hd0,.ref L,.none,rawInt L,.none]++(if pl.isEmpty then List.replicate 6 Value.none else pl)).toArray}:Obj)=tb
 have e2:(g.push tb).get? e=some ob:=qag _ e1
 have ne:g.objs.size≠e:=Nat.ne_of_gt (qaQ e1)
 have d3:=Obj.data_mapFields h4 (·.setIfInBounds 1 (Value.ref g.objs.size))
 have e3:=qal (Obj.mapFields (·.setIfInBounds 1 (Value.ref g.objs.size))) e2 (Obj.isFreed_of_fields d3)
 have ft:tb.isFreed=false:=by rw [<- hob];rfl
 have t3:((g.push tb).update e (Obj.mapFields (·.setIfInBounds 1 (Value.ref g.objs.size)))).get? g.objs.size=some tb:=(qah _ _ (Ne.symm ne)).trans (qar g ft)
 have stay: ∀ b o,b≠e->g.get? b=some o->((g.push tb).update e (Obj.mapFields (·.setIfInBounds 1 (Value.ref g.objs.size)))).get? b=some o:=fun b o hb z=>by
  rw [qah _ _ (Ne.symm hb)]
  exact qag _ z
 have nrec: ∀ b o,s.heap.get? b=some o->(∀ ws,o.data≠ .fields ws)->b≠e:=fun b o z hn w=>by
  rw [w,h1] at z
  cases z
  exact hn vs h4
 have ht: ∃ ts,tb.data= .fields ts/\ts[3]? = some (rawInt L):=⟨_,by rw [<- hob],by rcases hpl with rfl | ⟨_,_,_,_,_,_,_,rfl⟩<;>simp⟩
 obtain ⟨ts,ht1,ht2⟩:=ht
 refine wpAny_setField e2 h4 hsz (q _ ⟨fun b o z=>stay b o (fun w=>by rw [w,hen] at z;cases z) (kb b o z),hen,hl.of_keeps fun b o z hn=> ?_,.ref g.objs.size,⟨_,_,e3,(Obj.cls_mapFields _ _).trans h2,(znv _ _).trans h3,d3,?_,?_⟩,g.objs.size,tb,ts,rfl,kb.fresh,ne,t3,ht1,ht2⟩ fun b o z hn=> ?_)
 ·obtain ⟨sl,hs⟩:=sg.2.2 b o z
  exact ⟨_,stay b _ (nrec b o z hn) hs,rfl⟩
 ·rw [Array.getElem?_setIfInBounds_ne (by decide)]
  exact h5
 ·simp [hsz]
 ·obtain ⟨sl,hs⟩:=sg.2.2 b o z
  exact ⟨sl,stay b _ (nrec b o z hn) hs⟩
theorem zj4 {Q:Unit->Shared->Prop} (hfr:A.frames=some (env::outer)) (hl:s.heap.FunFrames B (env::outer)) (hf:env.frame=some L) (hx:zie s.heap e cls .none)
  (hkb:B.StaysIn s.heap) (hen:B.get? e=none) (q: ∀ h',Fly B (env::outer) e cls (rawInt L) h'->s.heap.UpToSlots h'->Q () {s with heap:=h'}):wpAny M A (noteFrame (.ref e) env) Q E s:=by
 obtain ⟨ob,vs,h1,h2,h3,h4,h5,h6⟩:=id hx
 unfold noteFrame
 simp only [hf]
 refine qaW (wpAny_field h1 h4 h6 ?_)
 rw [qa5 (by decide)]
 exact znU hfr hl hf hx hkb hen q
theorem zf6 {Q:Unit->Shared->Prop} (y:Fly B l e cls fl s.heap) (q: ∀ h',Fly B l e cls .none h'->(∀ b o,s.heap.get? b=some o->(∀ ws,o.data≠ .fields ws)->h'.get? b=some o)->Q () {s with heap:=h'}):
  wpAny M A (setFlight (.ref e) none) Q E s:=by
 obtain ⟨hkb,hen,hl,hd,⟨ob,vs,h1,h2,h3,h4,h5,h6⟩,T,ot,ts,rfl,t1,t2,t3,t4,t5⟩:=y
 have hsz:=(qab.mp t5).1
 have oth: ∀ b,b≠T->(s.heap.update T (Obj.mapFields (·.setIfInBounds 3 ((none:Option Addr).elim Value.none fun f=>rawInt f)))).get? b=s.heap.get? b:=fun b hb=>qah _ _ (Ne.symm hb)
 have nrec: ∀ b o,s.heap.get? b=some o->(∀ ws,o.data≠ .fields ws)->b≠T:=fun b o z hn w=>by
  rw [w,t3] at z
  cases z
  exact hn ts t4
 unfold setFlight
 refine qaW (wpAny_field h1 h4 h6 ?_)
 rw [qa4 (show (Value.ref T != Value.none)=true by simp)]
 refine wpAny_setField t3 t4 hsz (q _ ⟨fun b o z=>(oth b fun w=>by rw [w,t1] at z;cases z).trans (hkb b o z),hen,hl.of_keeps fun b o z hn=>⟨o,(oth b (nrec b o z hn)).trans z,rfl⟩,
   .ref T,⟨ob,vs,(oth e (Ne.symm t2)).trans h1,h2,h3,h4,h5,h6⟩,T,_,_,rfl,t1,t2,qal _ t3 (Obj.isFreed_of_fields (Obj.data_mapFields t4 _)),Obj.data_mapFields t4 _,by simp [hsz]⟩ fun b o z hn=>(oth b (nrec b o z hn)).trans z)
theorem Fly.tail {h:Heap} (y:Fly B (env::outer) e cls fl h):Fly B outer e cls fl h:=⟨y.stays,y.new,y.frames.2.2,y.exc⟩
theorem zij {Q:Unit->Shared->Prop} (hfr:A.frames=some (env::outer)) (hl:s.heap.FunFrames B (env::outer)) (hf:env.frame=some L) (hx:zie s.heap e cls .none)
  (hkb:B.StaysIn s.heap) (hen:B.get? e=none) (q: ∀ h',Fly B outer e cls .none h'->s.heap.UpToSlots h'->Q () {s with heap:=h'}):wpAny M A (leaving env (.ref e)) Q E s:=by
 unfold leaving
 refine qaW (zj4 hfr hl hf hx hkb hen fun h1 y1 u1=> ?_)
 refine zf6 (s:={s with heap:=h1}) y1 fun h2 y2 k2=>q h2 y2.tail (u1.trans fun b o z hn=>⟨o.slots,k2 b o z hn⟩)
theorem znt {h h':Heap} {args:List Value} (x:Heap.MadeExcOf h h' e cls args):zie h' e cls .none:=by
 obtain ⟨t,h1,_,_⟩:=x.there
 exact ⟨_,_,h1,rfl,rfl,rfl,rfl,rfl⟩
end
theorem zgC:entryFor table "proto.unchain"=some Builtin.«proto.unchain» := entryFor_of_tree (by kernel_rfl)
section
variable {prog:Program} {w:World} {A:Around} {E:Value->Shared->Prop} {s:Shared}
theorem zdL {α:Type} {a h:Addr} {o:Obj} {us:Array Value} {cls head:Value} {Q:α->Shared->Prop} (hh:A.handled=some (.ref h)) (hx:zie s.heap h cls head) (ho:s.heap.get? a=some o) (hd:o.data= .fields us) (hz:2<us.size) (hne:h≠a)
  (q:E (.ref a) {s with heap:=s.heap.update a (Obj.mapFields (·.setIfInBounds 2 (.ref h)))}):wpAny (model prog w) A (raiseNew (.ref a):Sem α) Q E s:=by
 obtain ⟨ob,vs,h1,h2,h3,h4,h5,h6⟩:=hx
 unfold raiseNew
 refine qaW (wpAny_handled ?_)
 rw [hh]
 dsimp only
 rw [qa4 (show (Value.ref h != Value.ref a)=true by simp [hne])]
 refine qaW (qaO (wpAny_runValue (codeAny_builtin zgC ?_)))
 unfold Builtin.«proto.unchain»
 refine qaW (wpAny_field h1 h4 h5 ?_)
 rw [qa4 (show (Value.none==Value.none)=true from rfl)]
 refine qaW (qaX (qaX ?_))
 refine qaW ?_
 obtain ⟨c,d,dt,sl⟩:=o
 dsimp only at hd
 subst hd
 unfold updateField
 refine qaW (wpAny_load ho ?_)
 dsimp only
 rw [qa4 hz]
 exact wpAny_update ho (wpAny_throw q)
def zk8 (A:Around) (h:Heap):Prop:=A.handled=none\/ ∃ a cls head,A.handled=some (.ref a)/\zie h a cls head
theorem zjd {it l:Addr} {i:Nat} {items:Array Value} {Q:Option Value->Shared->Prop} (hh:zk8 A s.heap) (hit:s.heap.IsListIter it l i) (hl:s.heap.IsList l items) (hx:items[i]? = none)
  (k: ∀ h',Heap.ExtBut it s.heap h'->Q none {s with heap:=h'}):wpAny (model prog w) A (pyNext (.ref it)) Q E s:=by
 rcases hh with hh | ⟨ha,cls,head,hh,hX⟩
 ·exact wpAny_pyNext_list_end hh hit hl hx k
 obtain ⟨o,h1,h2,h3⟩:=id hit
 obtain ⟨ol,l1,_,nl,l2⟩:=hl
 unfold pyNext
 refine qaW (wpAny_attempt (wpAny_callSpecial?_slot (name:=Str.ofString "__next__") hit.typeIs slot_listiter_next (wpAny_call_entry slot_listiter_next hit.typeIs entry_listiter_next ?_ (args_listiter_next _))))
 show wpAny _ _ (field (.ref it) 0>>=_) _ _ s
 refine qaW (wpAny_field h1 h3 (x:= .ref l) rfl ?_)
 show wpAny _ _ (if (Value.ref l==Value.none)=true then _ else _) _ _ s
 rw [qa5 (show ¬(Value.ref l==Value.none)=true from nofun)]
 show wpAny _ _ (field (.ref it) 1>>=_) _ _ s
 refine qaW (wpAny_field h1 h3 (x:= .int i 0) rfl ?_)
 show wpAny _ _ (seqItems? (.ref l)>>=_) _ _ s
 refine qaW (wpAny_seqItems l1 l2 ?_)
 simp only [qaB,hx]
 refine qaW (wpAny_rule (qaW (wpAny_setField h1 h3 (by simp) ?_)))
 have nit:ha≠it:=fun z=>by
  subst z
  obtain ⟨ob,vs,x1,_,_,x4,x5,x6⟩:=hX
  rw [h1] at x1
  cases x1
  rw [h3] at x4
  cases x4
  simp at x5
 have hX1:zie (s.heap.update it (Obj.mapFields (·.setIfInBounds 0 Value.none))) ha cls head:=by
  obtain ⟨ob,vs,x1,x2⟩:=hX
  exact ⟨ob,vs,(qah _ _ (Ne.symm nit)).trans x1,x2⟩
 show wpAny _ _ (newExc (.type "StopIteration") []>>=_) _ _ _
 refine qaW ?_
 simp only [newExc,newTuple]
 refine qaW (qaC ?_ (by size_fits))
 refine qaW (m:=firstArgMember _ _) (wpAny_of_eq (a:=Value.none) (by first | rfl | (simp only [firstArgMember];rfl)) ?_)
 refine qaC ?_ (by size_fits)
 obtain ⟨ob,vs,x1,x2⟩:=hX1
 have y1:=qag {cls:= .type "tuple",dict:=none,data:= .seq [].toArray} x1
 refine zdL (h:=ha) (cls:=cls) (head:=head) hh ⟨ob,vs,qag _ y1,x2⟩ (qar _ rfl) rfl (by simp;omega) (qaR (qaQ y1)) ?_
 refine qaW (wpAny_isInstance (T:="StopIteration") (b:=true) ⟨_,qal _ (qar _ rfl) rfl,rfl⟩ isSubtype_stop ?_)
 refine qaX (k _ fun b o hb z=> ?_)
 have z1:(s.heap.update it (Obj.mapFields (·.setIfInBounds 0 Value.none))).get? b=some o:=(qah _ _ (Ne.symm hb)).trans z
 have z2:=qag {cls:= .type "tuple",dict:=none,data:= .seq [].toArray} z1
 rw [qah _ _ (Nat.ne_of_gt (qaQ z2))]
 exact qag _ z2
theorem zmn {it l:Addr} {i:Nat} {items:Array Value} {Q:Option Value->Shared->Prop} (hh:zk8 A s.heap) (hit:s.heap.IsTupleIter it l i) (hl:s.heap.IsTuple l items) (hx:items[i]? = none)
  (k: ∀ h',Heap.ExtBut it s.heap h'->Q none {s with heap:=h'}):wpAny (model prog w) A (pyNext (.ref it)) Q E s:=by
 rcases hh with hh | ⟨ha,cls,head,hh,hX⟩
 ·exact wpAny_pyNext_tuple_end hh hit hl hx k
 obtain ⟨o,h1,h2,h3⟩:=id hit
 obtain ⟨ol,l1,_,nl,l2⟩:=hl
 unfold pyNext
 refine qaW (wpAny_attempt (wpAny_callSpecial?_slot (name:=Str.ofString "__next__") hit.typeIs F.slot_tuple_iterator_next (wpAny_call_entry F.slot_tuple_iterator_next hit.typeIs F.entry_tuple_iterator_next ?_ (F.args_tuple_iterator_next_1 _))))
 show wpAny _ _ (field (.ref it) 0>>=_) _ _ s
 refine qaW (wpAny_field h1 h3 (x:= .ref l) rfl ?_)
 show wpAny _ _ (if (Value.ref l==Value.none)=true then _ else _) _ _ s
 rw [qa5 (show ¬(Value.ref l==Value.none)=true from nofun)]
 show wpAny _ _ (field (.ref it) 1>>=_) _ _ s
 refine qaW (wpAny_field h1 h3 (x:= .int i 0) rfl ?_)
 show wpAny _ _ (seqItems? (.ref l)>>=_) _ _ s
 refine qaW (wpAny_seqItems l1 l2 ?_)
 simp only [qaB,hx]
 refine qaW (wpAny_rule (qaW (wpAny_setField h1 h3 (by simp) ?_)))
 have nit:ha≠it:=fun z=>by
  subst z
  obtain ⟨ob,vs,x1,_,_,x4,x5,x6⟩:=hX
  rw [h1] at x1
  cases x1
  rw [h3] at x4
  cases x4
  simp at x5
 have hX1:zie (s.heap.update it (Obj.mapFields (·.setIfInBounds 0 Value.none))) ha cls head:=by
  obtain ⟨ob,vs,x1,x2⟩:=hX
  exact ⟨ob,vs,(qah _ _ (Ne.symm nit)).trans x1,x2⟩
 show wpAny _ _ (newExc (.type "StopIteration") []>>=_) _ _ _
 refine qaW ?_
 simp only [newExc,newTuple]
 refine qaW (qaC ?_ (by size_fits))
 refine qaW (m:=firstArgMember _ _) (wpAny_of_eq (a:=Value.none) (by first | rfl | (simp only [firstArgMember];rfl)) ?_)
 refine qaC ?_ (by size_fits)
 obtain ⟨ob,vs,x1,x2⟩:=hX1
 have y1:=qag {cls:= .type "tuple",dict:=none,data:= .seq [].toArray} x1
 refine zdL (h:=ha) (cls:=cls) (head:=head) hh ⟨ob,vs,qag _ y1,x2⟩ (qar _ rfl) rfl (by simp;omega) (qaR (qaQ y1)) ?_
 refine qaW (wpAny_isInstance (T:="StopIteration") (b:=true) ⟨_,qal _ (qar _ rfl) rfl,rfl⟩ isSubtype_stop ?_)
 refine qaX (k _ fun b o hb z=> ?_)
 have z1:(s.heap.update it (Obj.mapFields (·.setIfInBounds 0 Value.none))).get? b=some o:=(qah _ _ (Ne.symm hb)).trans z
 have z2:=qag {cls:= .type "tuple",dict:=none,data:= .seq [].toArray} z1
 rw [qah _ _ (Nat.ne_of_gt (qaQ z2))]
 exact qag _ z2
theorem zho {it:Addr} {x left step:Int} {Q:Option Value->Shared->Prop} (hh:zk8 A s.heap) (hit:IsRangeIter s.heap it x left step) (hleft:left<=0)
  (k: ∀ h',Heap.ExtBut it s.heap h'->Q none {s with heap:=h'}):wpAny (model prog w) A (pyNext (.ref it)) Q E s:=by
 rcases hh with hh | ⟨ha,cls,head,hh,hX⟩
 ·exact wpAny_pyNext_range_end hh hit hleft k
 have hT:s.TypeIs (.ref it) "range_iterator":=⟨_,hit,rfl⟩
 unfold pyNext
 refine qaW (wpAny_attempt (wpAny_callSpecial?_slot (name:=Str.ofString "__next__") hT F.slot_range_iterator_next (wpAny_call_entry F.slot_range_iterator_next hT F.entry_range_iterator_next ?_ (F.args_range_iterator_next_1 _))))
 show wpAny _ _ (field (.ref it) 0>>=_) _ _ s
 refine qaW (wpAny_field hit rfl (x:=rawInt x) rfl ?_)
 show wpAny _ _ (field (.ref it) 1>>=_) _ _ s
 refine qaW (wpAny_field hit rfl (x:=rawInt left) rfl ?_)
 show wpAny _ _ (field (.ref it) 2>>=_) _ _ s
 refine qaW (wpAny_field hit rfl (x:=rawInt step) rfl ?_)
 show wpAny _ _ (if left<=0 then _ else _) _ _ s
 rw [qa4 hleft]
 refine qaW (wpAny_rule (qaW ?_))
 show wpAny _ _ (newExc (.type "StopIteration") []>>=_) _ _ _
 refine qaW ?_
 simp only [newExc,newTuple]
 refine qaW (qaC ?_ (by size_fits))
 refine qaW (m:=firstArgMember _ _) (wpAny_of_eq (a:=Value.none) (by first | rfl | (simp only [firstArgMember];rfl)) ?_)
 refine qaC ?_ (by size_fits)
 obtain ⟨ob,vs,x1,x2⟩:=hX
 have y1:=qag {cls:= .type "tuple",dict:=none,data:= .seq [].toArray} x1
 refine zdL (h:=ha) (cls:=cls) (head:=head) hh ⟨ob,vs,qag _ y1,x2⟩ (qar _ rfl) rfl (by simp;omega) (qaR (qaQ y1)) ?_
 refine qaW (wpAny_isInstance (T:="StopIteration") (b:=true) ⟨_,qal _ (qar _ rfl) rfl,rfl⟩ isSubtype_stop ?_)
 refine qaX (k _ fun b o hb z=> ?_)
 have z2:=qag {cls:= .type "tuple",dict:=none,data:= .seq [].toArray} z
 rw [qah _ _ (Nat.ne_of_gt (qaQ z2))]
 exact qag _ z2
theorem zie.keep {h h':Heap} {a:Addr} {cls head:Value} (x:zie h a cls head) (k: ∀ o,h.get? a=some o->h'.get? a=some o):zie h' a cls head:=by
 obtain ⟨ob,vs,x1,x2⟩:=x
 exact ⟨ob,vs,k _ x1,x2⟩
theorem zke {ha:Addr} {cls head:Value} (hh:A.handled=some (.ref ha)) (I ax:Addr) (hne:ax≠I) (hn2:ha≠I) (items:Array Value):
  Walks prog w A I [I,ax,ha] [I] items.size (fun i v=>items[i]? = some v) (fun i h=>h.IsListIter I ax i/\h.IsList ax items/\zie h ha cls head) where
 sub:=fun b hb=>by simp at hb;simp [hb]
 frame:=fun _ _ _ st hk=>⟨st.1.at fun o e=>hk I (by simp) o e,st.2.1.at fun o e=>hk ax (by simp) o e,st.2.2.keep fun o e=>hk ha (by simp) o e⟩
 item:=fun i s Q E hi st hQ=>by
  refine wpAny_pyNext_list_item st.1 st.2.1 (x:=items[i]) (by simp [hi]) fun h' hit' hs'=> ?_
  exact hQ _ h' s.toks (by simp [hi]) ⟨hit',st.2.1.extBut hs'.extBut hne,st.2.2.keep fun o e=>hs'.extBut ha o hn2 e⟩ fun b o hb e=>hs'.extBut b o (fun h=>hb (by simp [h])) e
 done:=fun s Q E st hQ=>zjd (.inr ⟨ha,cls,head,hh,st.2.2⟩) st.1 st.2.1 (by simp) fun h' he'=>hQ h' s.toks fun b o hb e=>he' b o (fun h=>hb (by simp [h])) e
 self:=fun _ _ _ _ st hQ=>wpAny_pyIter_listiter st.1 hQ
end
end L3
namespace L2
open PySem PySem.Spec PyProof.Rows
noncomputable abbrev Key:=Sum Int Str
noncomputable def zj9:Key->Value->Bool
 | .inl k,v=>Value.isInt k v
 | .inr x,v=>Value.isStrOf x v
noncomputable def zwb (w:World):Key->Int
 | .inl k=>hashInt k
 | .inr x=>hashStr w x
theorem zbg: ∀ {k:Key} {v:Value},zj9 k v=true->(∃ i t,k=Sum.inl i/\v=Value.int i t)\/(∃ x t,k=Sum.inr x/\v=Value.str x t)
 | .inl i,v,h=>by
  obtain ⟨t,e⟩:=Value.isInt_shape (k:=i) (v:=v) h
  exact .inl ⟨i,t,rfl,e⟩
 | .inr x,v,h=>by
  obtain ⟨t,e⟩:=Value.isStrOf_shape (x:=x) (v:=v) h
  exact .inr ⟨x,t,rfl,e⟩
theorem zlY (i:Int) (t:Tok):zj9 (.inl i) (.int i t)=true:=by simp [zj9,Value.isInt]
theorem zmb (x:Str) (t:Tok):zj9 (.inr x) (.str x t)=true:=by simp [zj9,Value.isStrOf]
theorem zt4 (a b:Int):decide ((Sum.inl a:Key)=Sum.inl b)=(a==b):=by
 by_cases e:a=b
 ·subst e;simp
 ·have h: ¬(Sum.inl a:Key)=Sum.inl b:=fun q=>e (Sum.inl.inj q)
  rw [decide_eq_false h]
  exact (beq_eq_false_iff_ne.mpr e).symm
theorem zsO (a b:Str):decide ((Sum.inr a:Key)=Sum.inr b)=decide (a=b):=by
 by_cases e:a=b
 ·subst e;simp
 ·have h: ¬(Sum.inr a:Key)=Sum.inr b:=fun q=>e (Sum.inr.inj q)
  rw [decide_eq_false h,decide_eq_false e]
theorem zsL (a:Int) (b:Str):decide ((Sum.inl a:Key)=Sum.inr b)=false:=decide_eq_false (fun q=>nomatch q)
theorem zrY (a:Str) (b:Int):decide ((Sum.inr a:Key)=Sum.inl b)=false:=decide_eq_false (fun q=>nomatch q)
noncomputable def zfD (prog:Program) (w:World):PySem.KeyKind prog w Key where
 is:=zj9
 hash:=zwb w
 inj:=fun v a b ha hb=>by
  rcases zbg ha with ⟨i,t,rfl,rfl⟩ | ⟨x,t,rfl,rfl⟩
  ·rcases zbg hb with ⟨j,u,rfl,e⟩ | ⟨y,u,rfl,e⟩
   ·injection e with e1 _;rw [e1]
   ·exact nomatch e
  ·rcases zbg hb with ⟨j,u,rfl,e⟩ | ⟨y,u,rfl,e⟩
   ·exact nomatch e
   ·injection e with e1 _;rw [e1]
 byValue:=fun k v h=>by
  rcases zbg h with ⟨i,t,rfl,rfl⟩ | ⟨x,t,rfl,rfl⟩<;>rfl
 pyHash:=fun hv h=>by
  rcases zbg hv with ⟨i,t,rfl,rfl⟩ | ⟨x,t,rfl,rfl⟩
  ·exact wpAny_pyHash_int h
  ·exact wpAny_pyHash_str h
 eqBool:=fun hu hv h=>by
  rcases zbg hu with ⟨i,t,rfl,rfl⟩ | ⟨x,t,rfl,rfl⟩
  ·rcases zbg hv with ⟨j,u,rfl,rfl⟩ | ⟨y,u,rfl,rfl⟩
   ·rw [zt4] at h;exact wpAny_eqBool_int h
   ·rw [zsL] at h;exact SeqAt.EqAt.int_str i t y u _ _ _ _ h
  ·rcases zbg hv with ⟨j,u,rfl,rfl⟩ | ⟨y,u,rfl,rfl⟩
   ·rw [zrY] at h;exact SeqAt.EqAt.str_int x t j u _ _ _ _ h
   ·rw [zsO] at h;exact wpAny_eqBool_str h
 «strs» := fun k x t v h=>by
  rcases zbg h with ⟨i,u,rfl,e⟩ | ⟨y,u,rfl,e⟩
  ·exact nomatch e
  ·injection e with e1 _
   subst e1
   cases v<;>rfl
theorem ziH (prog:Program) (w:World) (i:Int) (t:Tok):(zfD prog w).is (.inl i) (.int i t)=true:=zlY i t
theorem ziw (prog:Program) (w:World) (x:Str) (t:Tok):(zfD prog w).is (.inr x) (.str x t)=true:=zmb x t
inductive V where
 | non | bl (b:Bool) | int (i:Int) | str (x:Str) | byt (b:Array UInt8) | flt (b:UInt64) | ref (a:Addr) | ty (n:String)
 deriving DecidableEq
noncomputable def zb4:V->Value->Prop
 | .non,u=>u=Value.none
 | .bl b,u=>u=Value.bool b
 | .int i,u=> ∃ t,u=Value.int i t
 | .str x,u=> ∃ t,u=Value.str x t
 | .byt b,u=> ∃ t,u=Value.bytes b t
 | .flt b,u=> ∃ t,u=Value.float b t
 | .ref a,u=>u=Value.ref a
 | .ty n,u=>u=Value.type n
noncomputable abbrev zba:List V->List Value->Prop:=Paired zb4
theorem zba.length {xs:List V} {us:List Value} (r:zba xs us):xs.length=us.length:=Paired.length r
theorem zba.get: ∀ {xs:List V} {us:List Value} {i:Nat} {x:V},zba xs us->xs[i]? = some x-> ∃ u,us[i]? = some u/\zb4 x u
 | _,_,_,_,.nil,e=>by simp at e
 | _,_,0,_,.cons r _,e=>by simp at e;subst e;exact ⟨_,rfl,r⟩
 | _,_,i+1,x,.cons _ t,e=>by
  obtain ⟨u,h1,h2⟩:=zba.get (i:=i) (x:=x) t (by simpa using e)
  exact ⟨u,by simpa using h1,h2⟩
theorem zba.set {x:V} {u:Value} (r:zb4 x u): ∀ {xs:List V} {us:List Value} (i:Nat),zba xs us->zba (xs.set i x) (us.set i u)
 | _,_,_,.nil=> .nil
 | _,_,0,.cons _ t=> .cons r t
 | _,_,i+1,.cons q t=> .cons q (zba.set r i t)
theorem zba.append: ∀ {xs ys:List V} {us ws:List Value},zba xs us->zba ys ws->zba (xs++ys) (us++ws)
 | _,_,_,_,.nil,s=>s
 | _,_,_,_,.cons r t,s=> .cons r (zba.append t s)
theorem zba.take: ∀ {xs:List V} {us:List Value} (n:Nat),zba xs us->zba (xs.take n) (us.take n)
 | _,_,0,_=> .nil
 | _,_,_+1,.nil=> .nil
 | _,_,n+1,.cons r t=> .cons r (zba.take n t)
theorem zba.drop: ∀ {xs:List V} {us:List Value} (n:Nat),zba xs us->zba (xs.drop n) (us.drop n)
 | _,_,0,r=>r
 | _,_,_+1,.nil=> .nil
 | _,_,n+1,.cons _ t=>zba.drop n t
noncomputable def zvB:Option V->Option Value->Prop
 | some v,some u=>zb4 v u
 | none,none=>True
 | _,_=>False
noncomputable def KV {κ:Type}:List (κ×V)->List (κ×Value)->Prop:=Paired fun (p:κ×V) (q:κ×Value)=>p.1=q.1/\zb4 p.2 q.2
noncomputable def kV:Key->V
 | .inl i=> .int i
 | .inr x=> .str x
inductive HO where
 | lst (xs:List V)
 | tup (xs:List V)
 | dK (kvs:List (Key×V)) | dT (kvs:List (List Key×V))
 | set (S:Int->Bool) (n:Nat)
 | ins (C dx:Addr) (fs:List (Str×V))
 | own (x:Addr)
 | xd (fs:List (Str×V))
 | met (f x:Addr)
 | rng (lo hi:Int)
 | frz (o:Obj) (u:HO)
 | tbl (ps:Array Value)
 | ext (φ:Heap->Prop)
noncomputable abbrev Hp:=Addr->Option HO
noncomputable def upd (H:Hp) (a:Addr) (o:HO):Hp:=fun b=>if b=a then some o else H b
theorem zbd {H:Hp} {a:Addr} {o:HO}:upd H a o a=some o:=by unfold upd;rw [qa4 rfl]
theorem zaH {H:Hp} {a b:Addr} {o:HO} (h:b≠a):upd H a o b=H b:=by unfold upd;rw [qa5 h]
theorem zaZ {H:Hp} {a b:Addr} {o:HO} (h:H a=some o) (h':H b=none):a≠b:=by
 intro e;subst e;rw [h] at h';cases h'
section
variable (P:Program) (w:World)
noncomputable def zbV (H:Hp) (h:Heap) (a:Addr):HO->Prop
 | .lst xs=>xs.length<=sizeLine/\ ∃ (its:List Value) (n:Nat),zba xs its/\h.get? a=some {cls:= .type "list",data:= .seq its.toArray n}
 | .tup xs=>xs.length<=sizeLine/\ ∃ its:List Value,zba xs its/\IsTup h a its.toArray
 | .dK kvs=>kvs.length<=sizeLine/\(a==sysModules)=false/\ ∃ vs,KV kvs vs/\h.DictOf (zfD P w) a vs
 | .dT kvs=>kvs.length<=sizeLine/\(a==sysModules)=false/\ ∃ xs:List (List Key×Addr×Value),
   Paired (fun (p:List Key×V) (q:List Key×Addr×Value)=>p.1=q.1/\H q.2.1=some (.tup (p.1.map kV))/\zb4 p.2 q.2.2) kvs xs/\
   ∃ o es ep,h.get? a=some o/\o.ExactDict/\o.data= .dict es ep/\es.toList=xs.map (entryOfKey (tupleKind (zfD P w)))/\(xs.map (·.1)).Nodup
 | .set S n=>h.SetOf (intKind P w) a S n
 | .ins C dx fs=>H dx=some (.own a)/\fs.length<=1000/\dx≠a/\h.get? a=some (W.instObj C dx)/\
   ∃ mA,h.Ns1 dx mA/\(∀ f,zvB (fs.lookup f) (mA f))/\PySem.Within mA (fs.map (·.1))
 | .own _=> ∃ o,h.get? a=some o
 | .xd fs=> ∃ mA,h.Ns1 a mA/\ ∀ f,zvB (fs.lookup f) (mA f)
 | .rng lo hi=> ∃ t u v,h.get? a=some {cls:= .type "range",data:= .fields #[.int lo t,.int hi u,.int 1 v]}
 | .frz o u=>h.get? a=some o/\zbV H h a u
 | .tbl ps=>h.get? a=some {cls:= .none,data:= .fields ps}
 | .met f x=>h.get? a=some (W.methodObj (.ref f) (.ref x))
 | .ext φ=>φ h/\(∃ o,h.get? a=some o)/\ ∀ h1 h2:Heap,φ h1->(∀ o,h1.get? a=some o->h2.get? a=some o)->φ h2
def HOk (H:Hp) (h:Heap):Prop:= ∀ a o,H a=some o->zbV P w H h a o
end
section
variable {P:Program} {w:World} {H H':Hp} {h h':Heap} {a:Addr} {o:HO}
theorem zbV.lt (x:zbV P w H h a o):a<h.objs.size:=by
 cases o with
 | lst xs=>obtain ⟨_,_,_,_,e⟩:=x;exact qaQ e
 | tup xs=>obtain ⟨_,_,_,p⟩:=x;exact p.lt
 | dK kvs=>obtain ⟨_,_,_,_,o,_,_,e,_⟩:=x;exact qaQ e
 | dT kvs=>obtain ⟨_,_,_,_,o,_,_,e,_⟩:=x;exact qaQ e
 | set S n=>obtain ⟨o,_,_,_,e,_⟩:=x;exact qaQ e
 | ins C dx fs=>obtain ⟨_,_,_,e,_⟩:=x;exact qaQ e
 | own y=>obtain ⟨_,e⟩:=x;exact qaQ e
 | xd fs=>obtain ⟨_,⟨_,_,_,e,_⟩,_⟩:=x;exact qaQ e
 | rng lo hi=>obtain ⟨_,_,_,e⟩:=x;exact qaQ e
 | frz ob u=>obtain ⟨e,_⟩:=x;exact qaQ e
 | tbl ps=>exact qaQ (show h.get? a=some _ from x)
 | met f y=>exact qaQ (show h.get? a=some _ from x)
 | ext φ=>obtain ⟨_,⟨_,e⟩,_⟩:=x;exact qaQ e
theorem Paired.mapP {α β:Type} {F G:α->β->Prop}: ∀ {l₁:List α} {l₂:List β},Paired F l₁ l₂->(∀ a b,F a b->G a b)->Paired G l₁ l₂
 | _,_,.nil,_=> .nil
 | _,_,.cons r t,f=> .cons (f _ _ r) (Paired.mapP t f)
theorem zbV.stay (x:zbV P w H h a o) (k: ∀ b u,(b=a\/H b=some (.own a))->h.get? b=some u->h'.get? b=some u)
  (ho: ∀ b,H b=some (.own a)->H' b=some (.own a)) (ht: ∀ b xs,H b=some (.tup xs)->H' b=some (.tup xs)):zbV P w H' h' a o:=by
 induction o with
 | lst xs=>obtain ⟨z,its,n,r,e⟩:=x;exact ⟨z,its,n,r,k _ _ (.inl rfl) e⟩
 | tup xs=>obtain ⟨z,its,r,ob,e,c⟩:=x;exact ⟨z,its,r,ob,k _ _ (.inl rfl) e,c⟩
 | dK kvs=>obtain ⟨z,y,vs,r,ob,es,ep,e,c⟩:=x;exact ⟨z,y,vs,r,ob,es,ep,k _ _ (.inl rfl) e,c⟩
 | dT kvs=>
  obtain ⟨z,y,xs,r,ob,es,ep,e,c⟩:=x
  exact ⟨z,y,xs,Paired.mapP r fun p q z=>⟨z.1,ht _ _ z.2.1,z.2.2⟩,ob,es,ep,k _ _ (.inl rfl) e,c⟩
 | set S n=>obtain ⟨ob,es,ep,t,e,c⟩:=x;exact ⟨ob,es,ep,t,k _ _ (.inl rfl) e,c⟩
 | ins C dx fs=>
  obtain ⟨d,z,ne,e,mA,⟨od,es,ep,e2,c⟩,r⟩:=x
  exact ⟨ho _ d,z,ne,k _ _ (.inl rfl) e,mA,⟨od,es,ep,k _ _ (.inr d) e2,c⟩,r⟩
 | own y=>obtain ⟨ob,e⟩:=x;exact ⟨ob,k _ _ (.inl rfl) e⟩
 | xd fs=>obtain ⟨mA,⟨od,es,ep,e,c⟩,r⟩:=x;exact ⟨mA,⟨od,es,ep,k _ _ (.inl rfl) e,c⟩,r⟩
 | rng lo hi=>obtain ⟨t,u,v,e⟩:=x;exact ⟨t,u,v,k _ _ (.inl rfl) e⟩
 | frz ob u ih=>obtain ⟨e,q⟩:=x;exact ⟨k _ _ (.inl rfl) e,ih q⟩
 | tbl ps=>
  have e:h.get? a=some {cls:= .none,data:= .fields ps}:=x
  show h'.get? a=some {cls:= .none,data:= .fields ps}
  exact k a _ (.inl rfl) e
 | met f y=>
  have e:h.get? a=some (W.methodObj (.ref f) (.ref y)):=x
  show h'.get? a=some (W.methodObj (.ref f) (.ref y))
  exact k a _ (.inl rfl) e
 | ext φ=>obtain ⟨p,⟨o,e⟩,st⟩:=x;exact ⟨st _ _ p fun o q=>k _ _ (.inl rfl) q,⟨o,k _ _ (.inl rfl) e⟩,st⟩
theorem HOk.lt (x:HOk P w H h) (e:H a=some o):a<h.objs.size:=(x a o e).lt
theorem HOk.fresh (x:HOk P w H h) (e:h.objs.size<=a):H a=none:=by
 cases q:H a with
 | none=>rfl
 | some u=>exact absurd (qaw (x.lt q) e) (qaN _)
theorem HOk.kept (x:HOk P w H h) (k: ∀ b u,h.get? b=some u->h'.get? b=some u):HOk P w H h':=fun a o e=>
 (x a o e).stay (fun b u _ q=>k b u q) (fun _ q=>q) fun _ _ q=>q
theorem HOk.laid (x:HOk P w H h) (k: ∀ b u,h.get? b=some u->h'.get? b=some u) (hp:h.objs.size<=a) (new:zbV P w (upd H a o) h' a o):HOk P w (upd H a o) h':=fun b u e=>by
 have hn:=x.fresh hp
 by_cases hb:b=a
 ·subst hb;rw [zbd] at e;cases e;exact new
 ·rw [zaH hb] at e
  exact (x b u e).stay (fun c v _ q=>k c v q) (fun c q=>by rw [zaH (zaZ q hn)];exact q) fun c xs q=>by rw [zaH (zaZ q hn)];exact q
end
def Rd (H:Hp) (a:Addr) (u:HO):Prop:=H a=some u\/ ∃ o,H a=some (.frz o u)
theorem Rd.of {H:Hp} {a:Addr} {u:HO} (h:H a=some u):Rd H a u:= .inl h
theorem Rd.ok {P:Program} {w:World} {H:Hp} {h:Heap} {a:Addr} {u:HO} (r:Rd H a u) (x:HOk P w H h):zbV P w H h a u:=by
 rcases r with r | ⟨o,r⟩
 ·exact x a u r
 ·obtain ⟨_,q⟩:=x a _ r
  exact q
noncomputable def Mut:Option HO->Prop
 | some (.lst _)=>True
 | some (.dK _)=>True
 | some (.dT _)=>True
 | some (.set _ _)=>True
 | some (.ins _ _ _)=>True
 | some (.ext _)=>True
 | _=>False
section
variable {P:Program} {w:World} {H:Hp} {h h':Heap} {x e:Addr} {o':HO}
theorem HOk.write (ok:HOk P w H h) (mu:Mut (H x)) (he:e=x\/H e=some (.own x)) (k: ∀ b u,b≠e->h.get? b=some u->h'.get? b=some u) (heo: ∃ u,h'.get? e=some u)
  (new:zbV P w (upd H x o') h' x o'):HOk P w (upd H x o') h':=fun b u q=>by
 have nown: ∀ c y,H c=some (.own y)->c≠x:=fun c y r z=>by subst z;rw [r] at mu;exact mu
 have ntup: ∀ c xs,H c=some (.tup xs)->c≠x:=fun c xs r z=>by subst z;rw [r] at mu;exact mu
 by_cases hb:b=x
 ·subst hb;rw [zbd] at q;cases q;exact new
 ·rw [zaH hb] at q
  by_cases hbe:b=e
  ·have q':H b=some (.own x):=by
    rcases he with z | z
    ·exact absurd (hbe.trans z) hb
    ·rw [hbe];exact z
   rw [q] at q';cases q'
   obtain ⟨v,hv⟩:=heo
   exact ⟨v,by rw [hbe];exact hv⟩
  ·refine (ok b u q).stay (fun c v hc r=>k c v ?_ r) (fun c r=>by rw [zaH (nown c b r)];exact r) fun c xs r=>by rw [zaH (ntup c xs r)];exact r
   rcases hc with rfl | hc
   ·exact hbe
   ·rintro rfl
    rcases he with z | z
    ·exact nown c b hc z
    ·rw [hc] at z;cases z;exact hb rfl
end
structure Un (fs ex:List Addr) (H H':Hp) (h h':Heap):Prop where
 keep: ∀ b o,h.get? b=some o->H b=none->b∉fs->b∉ex->h'.get? b=some o
 slot: ∀ b o,h.get? b=some o->H b=none->b∈fs->b∉ex-> ∃ sl,h'.get? b=some {o with slots:=sl}
 free: ∀ b o,h.get? b=some o->H b=none->b∉ex->H' b=none
 there: ∀ b o,h.get? b=some o->b∉ex-> ∃ o',h'.get? b=some o'
 tups: ∀ b xs,H b=some (.tup xs)->H' b=some (.tup xs)
 frzs: ∀ b o u,H b=some (.frz o u)->H' b=some (.frz o u)
 tbls: ∀ b ps,H b=some (.tbl ps)-> ∃ more,H' b=some (.tbl (ps++more))
section
variable {fs fs' ex ex':List Addr} {H H1 H2:Hp} {h h1 h2 h':Heap} {a x e:Addr} {o:HO}
theorem Un.any (u:Un fs ex H H1 h h1) {b:Addr} {ob:Obj} (q:h.get? b=some ob) (n:H b=none) (hx:b∉ex): ∃ sl,h1.get? b=some {ob with slots:=sl}:=by
 by_cases hb:b∈fs
 ·exact u.slot b ob q n hb hx
 ·exact ⟨ob.slots,u.keep b ob q n hb hx⟩
theorem Un.trans (a:Un fs ex H H1 h h1) (b:Un fs ex H1 H2 h1 h2):Un fs ex H H2 h h2 where
 keep:=fun c ob q n hc hx=>b.keep c ob (a.keep c ob q n hc hx) (a.free c ob q n hx) hc hx
 slot:=fun c ob q n hc hx=>by
  obtain ⟨sl,e1⟩:=a.slot c ob q n hc hx
  obtain ⟨sl',e2⟩:=b.slot c _ e1 (a.free c ob q n hx) hc hx
  exact ⟨sl',e2⟩
 free:=fun c ob q n hx=>by
  obtain ⟨o',e1⟩:=a.there c ob q hx
  exact b.free c o' e1 (a.free c ob q n hx) hx
 there:=fun c ob q hx=>by
  obtain ⟨o',e1⟩:=a.there c ob q hx
  exact b.there c o' e1 hx
 tups:=fun c xs q=>b.tups c xs (a.tups c xs q)
 frzs:=fun c ob xs q=>b.frzs c ob xs (a.frzs c ob xs q)
 tbls:=fun c ps q=>by
  obtain ⟨m1,e1⟩:=a.tbls c ps q
  obtain ⟨m2,e2⟩:=b.tbls c _ e1
  exact ⟨m1++m2,by rw [e2,Array.append_assoc]⟩
theorem Un.kept (k: ∀ b u,h.get? b=some u->h'.get? b=some u):Un fs ex H H h h':=
 ⟨fun b ob q _ _ _=>k b ob q,fun b ob q _ _ _=>⟨ob.slots,k b ob q⟩,fun _ _ _ n _=>n,fun b ob q _=>⟨ob,k b ob q⟩,fun _ _ q=>q,fun _ _ _ q=>q,fun _ ps q=>⟨#[],by rw [q];simp⟩⟩
theorem Un.refl:Un fs ex H H h h:=Un.kept fun _ _ q=>q
theorem Un.laid (k: ∀ b u,h.get? b=some u->h'.get? b=some u) (hp:h.objs.size<=a) (hn:H a=none):Un fs ex H (upd H a o) h h' where
 keep:=fun b u q _ _ _=>k b u q
 slot:=fun b u q _ _ _=>⟨u.slots,k b u q⟩
 free:=fun b u q n _=>by rw [zaH (qaR (qaw (qaQ q) hp))];exact n
 there:=fun b u q _=>⟨u,k b u q⟩
 tups:=fun b xs q=>by rw [zaH (zaZ q hn)];exact q
 frzs:=fun b u xs q=>by rw [zaH (zaZ q hn)];exact q
 tbls:=fun b ps q=>⟨#[],by rw [zaH (zaZ q hn),q];simp⟩
theorem Un.write (mu:Mut (H x)) (he:e=x\/H e=some (.own x)) (k: ∀ b u,b≠e->h.get? b=some u->h'.get? b=some u) (heo: ∃ u,h'.get? e=some u):Un fs ex H (upd H x o) h h':=by
 have hx: ∀ b,H b=none->b≠x:=fun b n z=>by subst z;rw [n] at mu;exact mu
 have hb: ∀ b,H b=none->b≠e:=fun b n z=>by
  subst z
  rcases he with r | r
  ·exact hx b n r
  ·rw [n] at r;cases r
 have hm: ∀ b u,H b=some u-> ¬Mut (some u)->b≠x:=fun b u q nm z=>by subst z;rw [q] at mu;exact nm mu
 refine ⟨fun b u q n _ _=>k b u (hb b n) q,fun b u q n _ _=>⟨u.slots,k b u (hb b n) q⟩,fun b u q n _=>by rw [zaH (hx b n)];exact n,fun b u q _=> ?_,
   fun b xs q=>by rw [zaH (hm b _ q fun z=>z)];exact q,fun b u xs q=>by rw [zaH (hm b _ q fun z=>z)];exact q,fun b ps q=>⟨#[],by rw [zaH (hm b _ q fun z=>z),q];simp⟩⟩
 by_cases hbe:b=e
 ·subst hbe;exact heo
 ·exact ⟨u,k b u hbe q⟩
theorem Un.mono (u:Un fs ex H H1 h h1) (hs: ∀ b∈fs,b∈fs') (hx: ∀ b∈ex,b∈ex'):Un fs' ex' H H1 h h1:=
 ⟨fun b ob q n hb he=>u.keep b ob q n (fun z=>hb (hs b z)) fun z=>he (hx b z),fun _ _ q n _ he=>u.any q n fun z=>he (hx _ z),fun b ob q n he=>u.free b ob q n fun z=>he (hx b z),fun b ob q he=>u.there b ob q fun z=>he (hx b z),u.tups,u.frzs,u.tbls⟩
end
noncomputable def trk (h:Heap) (H:Hp):List Addr:=(List.range h.objs.size).filter fun a=>(H a).isSome
noncomputable def zne (h:Heap) (H:Hp):Heap:=W.hideAll h (trk h H)
theorem zmD (h:Heap) (H:Hp):(zne h H).objs.size=h.objs.size:=W.hideAll_size _ _
theorem zn5 {h:Heap} {H:Hp} {b:Addr} {o:Obj} (e:h.get? b=some o) (n:H b=none):(zne h H).get? b=some o:=
 W.hideAll_get _ e fun hm=>by
  have q:(H b).isSome=true:=(List.mem_filter.mp hm).2
  rw [n] at q;simp at q
theorem zrn {h:Heap} {H:Hp} {b:Addr} {o:Obj} (e:(zne h H).get? b=some o):h.get? b=some o/\H b=none:=by
 have e':h.get? b=some o:=W.of_hideAll (trk h H) e
 refine ⟨e',?_⟩
 cases q:H b with
 | none=>rfl
 | some x=>
  have hm:b∈trk h H:=List.mem_filter.mpr ⟨List.mem_range.mpr (qaQ e'),by simp [q]⟩
  have z:(zne h H).get? b=none:=W.hideAll_none (trk h H) hm
  rw [z] at e;cases e
noncomputable def zqn (g h:Heap) (L:Addr):List (Addr×Obj):=(List.range h.objs.size).filterMap fun a=>if a=L\/(g.get? a).isSome=true then none else (h.get? a).map fun o=>(a,o)
noncomputable def zbk (g h:Heap) (L d:Addr):List (Addr×Obj):=(zqn g h L).filter fun p=>decide (p.1≠d)
structure Mod (K:W.Frag) (mg:Str->Option Value) (base:Heap):Prop where
 kin:K.In base
 glob:base.Ns mainGlobals mg
 blt: ∃ mb,base.Ns builtinsNs mb/\ ∀ x:Str,x≠"__name__"->mb x=bootBuiltins x
 nolimit:base.NoLimit
structure Cx where
 prog:Program
 w:World
 K:W.Frag
 mg:Str->Option Value
 base:Heap
 A:Around
 N:List Str
 s₀:Shared
 H₀:Hp
 env:Env
 outer:List Env
 stack:List Env
 ex:List Addr
 fn:Str->Bool
 calm:Bool
 pn:List (Addr×Obj)
 xe:Value->Shared->Prop
noncomputable def frs (l:List Env):List Addr:=l.filterMap (·.frame)
noncomputable abbrev Cx.fs (X:Cx):List Addr:=frs X.outer
def Vis (sc:Scope) (x:Str):Prop:=sc.names.lookup x=some .local\/sc.names.lookup x=some .cell\/sc.names.lookup x=some .free
def Loc (sc:Scope) (x:Str):Prop:=sc.names.lookup x=some .local\/sc.names.lookup x=some .cell
def zwL (env:Env) (h:Heap) (m:Str->Option Value) (x:Str) (u:Value):Prop:=
 (env.kindOf x=some .local/\m x=some u)\/((env.kindOf x=some .cell\/env.kindOf x=some .free)/\ ∃ c,env.cells.lookup x=some c/\h.IsCell c (some u))
def zhQ (A:Around) (H:Hp):Prop:=A.handled=none\/ ∃ a o cls head vs,A.handled=some (.ref a)/\H a=some (.frz o (.own 0))/\o.cls=cls/\o.dict=none/\o.data= .fields vs/\vs[2]? = some .none/\vs[1]? = some head
structure Cx.Ok (X:Cx):Prop where
 mod:Mod X.K X.mg X.base
 kind:X.env.scope.kind= .function
 glob:X.env.globals=mainGlobals
 blt:X.env.builtins=builtinsNs
 above:X.s₀.heap.objs.size<=X.env.locals
 inj: ∀ x y c,X.env.cells.lookup x=some c->X.env.cells.lookup y=some c->x=y
 has: ∀ x,(X.env.kindOf x=some .cell\/X.env.kindOf x=some .free)-> ∃ c,X.env.cells.lookup x=some c
 cab: ∀ x c,X.fn x=true->X.env.cells.lookup x=some c->X.s₀.heap.objs.size<=c
 hd:X.calm=true->X.A.handled=none
 hx:zhQ X.A X.H₀
 frames:X.A.frames=some X.stack
 stk:X.stack=X.outer\/(X.stack=X.env::X.outer/\X.env.frame=some X.env.locals)
 exf: ∀ b∈X.ex,b≠X.env.locals/\ ∀ x c,X.env.cells.lookup x=some c->c≠b
 bs: ∀ b o,X.base.get? b=some o->X.s₀.heap.get? b=some o/\X.H₀ b=none
 bsz:X.base.objs.size<=X.s₀.heap.objs.size
 noex: ∀ b o,X.base.get? b=some o->b∉X.ex
 exfs: ∀ b∈X.ex,b∉X.fs
 funs:X.s₀.heap.FunFrames X.base X.outer
 frf: ∀ b∈X.fs,X.H₀ b=none
structure Inv (X:Cx) (pins:List (Addr×Obj)) (σ:List (Option V)) (H:Hp) (s:Shared):Prop where
 ok:X.Ok
 os:s.os=X.s₀.os
 bare:AllBare s.gens
 base:Un X.fs X.ex X.H₀ H X.s₀.heap s.heap
 loc: ∃ m,s.heap.Ns X.env.locals m/\ ∀ (i:Nat) (x:Str) (v:V),X.N[i]? = some x->σ[i]? = some (some v)->Vis X.env.scope x-> ∃ u,zb4 v u/\zwL X.env s.heap m x u
 cell: ∀ x c,X.env.cells.lookup x=some c-> ∃ v,s.heap.IsCell c v
 free:H X.env.locals=none
 freeC: ∀ x c,X.env.cells.lookup x=some c->H c=none
 pin: ∀ p∈X.pn++pins,s.heap.get? p.1=some p.2/\H p.1=none/\p.1≠X.env.locals/\p.1∉X.fs/\ ∀ v,p.2.data≠ .cell v
 hok:HOk X.prog X.w H s.heap
 len:σ.length=X.N.length
section
variable {X:Cx} {pins:List (Addr×Obj)} {σ:List (Option V)} {H H':Hp} {s:Shared} {h':Heap}
theorem Cx.Ok.nofr (ok:X.Ok) {b:Addr} {o:Obj} (e:X.base.get? b=some o):b∉X.fs:=fun hb=>by
 have:=(ok.funs.mem hb).1
 rw [e] at this;cases this
theorem Inv.bs (I:Inv X pins σ H s): ∀ b o,X.base.get? b=some o->s.heap.get? b=some o/\H b=none:=fun b o e=>
 ⟨I.base.keep b o (I.ok.bs b o e).1 (I.ok.bs b o e).2 (I.ok.nofr e) (I.ok.noex b o e),I.base.free b o (I.ok.bs b o e).1 (I.ok.bs b o e).2 (I.ok.noex b o e)⟩
theorem Inv.bk (I:Inv X pins σ H s): ∀ b o,X.base.get? b=some o->s.heap.get? b=some o:=fun b o e=>(I.bs b o e).1
theorem Inv.mod (I:Inv X pins σ H s):Mod X.K X.mg X.base:=I.ok.mod
theorem Inv.kIn (I:Inv X pins σ H s):X.K.In s.heap:=I.ok.mod.kin.keeps I.bk
theorem Inv.nolimit (I:Inv X pins σ H s):s.heap.NoLimit:=I.ok.mod.nolimit.keeps I.bk
theorem Inv.fr (I:Inv X pins σ H s): ∃ m,Fr X.base X.env.locals s.heap m:=
 let ⟨m,hn,_⟩:=I.loc
 ⟨m,hn,I.bk,qaS I.ok.bsz I.ok.above⟩
theorem Inv.lt (I:Inv X pins σ H s):X.env.locals<s.heap.objs.size:=let ⟨_,hn,_⟩:=I.loc;hn.lt
theorem Inv.sz (I:Inv X pins σ H s):X.s₀.heap.objs.size<=s.heap.objs.size:=qaS I.ok.above (Nat.le_of_lt I.lt)
theorem Inv.nofs (I:Inv X pins σ H s) {a:Addr} (h:s.heap.objs.size<=a):a∉X.fs:=fun hb=>by
 obtain ⟨_,o,ho,_⟩:=I.ok.funs.mem hb
 exact absurd (qaw (qaQ ho) (qaS I.sz h)) (qaN _)
theorem Inv.cne (I:Inv X pins σ H s): ∀ x c,X.env.cells.lookup x=some c->c≠X.env.locals:=fun x c e z=>by
 obtain ⟨v,o,ho,hd⟩:=I.cell x c e
 obtain ⟨m,⟨o',es,ep,ho',hd',_⟩,_⟩:=I.loc
 rw [z,ho'] at ho;cases ho;rw [hd'] at hd;cases hd
theorem Inv.funs (I:Inv X pins σ H s):s.heap.FunFrames X.base X.outer:=by
 have all: ∀ (l:List Env),(∀ b∈frs l,b∈X.fs)->X.s₀.heap.FunFrames X.base l->s.heap.FunFrames X.base l:=by
  intro l
  induction l with
  | nil=>intro _ _;trivial
  | cons env r ih=>
   intro hs hl
   obtain ⟨hk,⟨L,o,hf,hn,ho,hd⟩,hr⟩:=hl
   have hL:L∈X.fs:=hs L (by unfold frs;rw [qat,hf];exact qau)
   obtain ⟨sl,e⟩:=I.base.slot L o ho (I.ok.frf L hL) hL fun z=>I.ok.exfs L z hL
   exact ⟨hk,⟨L,_,hf,hn,e,hd⟩,ih (fun b hb=>hs b (by unfold frs;rw [qat,hf];exact qan _ hb)) hr⟩
 exact all X.outer (fun _ hb=>hb) I.ok.funs
theorem Inv.stack (I:Inv X pins σ H s):s.heap.FunFrames X.base X.stack:=by
 rcases I.ok.stk with e | ⟨e,hf⟩
 ·rw [e];exact I.funs
 ·rw [e]
  obtain ⟨m,hn,_⟩:=I.loc
  refine .cons (by rw [I.ok.kind];decide) hf hn ?_ I.funs
  exact Heap.get?_none_of_le (qaS I.ok.bsz I.ok.above)
theorem Inv.stkSub (I:Inv X pins σ H s): ∀ b∈frs X.stack,b∈X.env.locals::X.fs:=fun b hb=>by
 rcases I.ok.stk with e | ⟨e,hf⟩
 ·rw [e] at hb;exact qan _ hb
 ·rw [e] at hb
  unfold frs at hb
  rw [qat,hf] at hb
  exact hb
theorem Inv.stkFree (I:Inv X pins σ H s): ∀ b∈frs X.stack,H b=none:=fun b hb=>by
 rcases qaP.mp (I.stkSub b hb) with e | hb
 ·rw [e];exact I.free
 ·obtain ⟨_,o,ho,_⟩:=I.ok.funs.mem hb
  exact I.base.free b o ho (I.ok.frf b hb) fun z=>I.ok.exfs b z hb
theorem Inv.step {g':Array GenState} {t':Nat} {d':Drawn} {ch:List Addr} (I:Inv X pins σ H s)
  (hch: ∀ b∈ch,(b∈X.ex\/X.s₀.heap.objs.size<=b)/\b≠X.env.locals/\(∀ x c,X.env.cells.lookup x=some c->c≠b)/\ ∀ p∈X.pn++pins,p.1≠b)
  (keep: ∀ b o,b≠X.env.locals->b∉X.fs->b∉ch->s.heap.get? b=some o->H b=none->h'.get? b=some o)
  (slot: ∀ b o,b≠X.env.locals->b∈X.fs->b∉ch->s.heap.get? b=some o->H b=none-> ∃ sl,h'.get? b=some {o with slots:=sl}) (free: ∀ b o,b∉ch->s.heap.get? b=some o->H b=none->H' b=none)
  (there: ∀ b o,b∉ch->s.heap.get? b=some o-> ∃ o',h'.get? b=some o')
  (tups: ∀ b xs,H b=some (.tup xs)->H' b=some (.tup xs)) (frzs: ∀ b o u,H b=some (.frz o u)->H' b=some (.frz o u)) (tbls: ∀ b ps,H b=some (.tbl ps)-> ∃ more,H' b=some (.tbl (ps++more)))
  (ns: ∀ m,s.heap.Ns X.env.locals m->h'.Ns X.env.locals m) (hok:HOk X.prog X.w H' h') (hg:AllBare g'):
  Inv X pins σ H' {s with heap:=h',gens:=g',drawn:=d',toks:=t'}:=by
 have neL: ∀ b o,X.s₀.heap.get? b=some o->b≠X.env.locals:=fun b o e=>qaR (qaw (qaQ e) I.ok.above)
 have neC: ∀ b o,X.s₀.heap.get? b=some o->b∉X.ex->b∉ch:=fun b o e hx hb=>by
  rcases (hch b hb).1 with z | z
  ·exact hx z
  ·exact absurd (qaw (qaQ e) z) (qaN _)
 have cellK: ∀ x c,X.env.cells.lookup x=some c-> ∀ v,s.heap.IsCell c v->h'.IsCell c v:=fun x c e v ⟨o,ho,hd⟩=>by
  have nch:c∉ch:=fun z=>(hch c z).2.2.1 x c e rfl
  by_cases hc:c∈X.fs
  ·obtain ⟨sl,q⟩:=slot c o (I.cne x c e) hc nch ho (I.freeC x c e)
   exact ⟨_,q,hd⟩
  ·exact ⟨o,keep c o (I.cne x c e) hc nch ho (I.freeC x c e),hd⟩
 refine ⟨I.ok,I.os,hg,⟨fun b o e n hb hx=> ?_,fun b o e n hb hx=> ?_,fun b o e n hx=> ?_,fun b o e hx=> ?_,fun b xs e=>tups b xs (I.base.tups b xs e),fun b o xs e=>frzs b o xs (I.base.frzs b o xs e),fun b ps e=> ?_⟩,?_,fun x c e=> ?_,?_,fun x c e=> ?_,fun p hp=> ?_,hok,I.len⟩
 ·exact keep b o (neL b o e) hb (neC b o e hx) (I.base.keep b o e n hb hx) (I.base.free b o e n hx)
 ·obtain ⟨sl,e1⟩:=I.base.slot b o e n hb hx
  obtain ⟨sl',e2⟩:=slot b _ (neL b o e) hb (neC b o e hx) e1 (I.base.free b o e n hx)
  exact ⟨sl',e2⟩
 ·obtain ⟨o',e1⟩:=I.base.there b o e hx
  exact free b o' (neC b o e hx) e1 (I.base.free b o e n hx)
 ·obtain ⟨o',e1⟩:=I.base.there b o e hx
  exact there b o' (neC b o e hx) e1
 ·obtain ⟨m1,e1⟩:=I.base.tbls b ps e
  obtain ⟨m2,e2⟩:=tbls b _ e1
  exact ⟨m1++m2,by rw [e2,Array.append_assoc]⟩
 ·obtain ⟨m,hn,hl⟩:=I.loc
  refine ⟨m,ns m hn,fun i x v e1 e2 e3=> ?_⟩
  obtain ⟨u,r,l⟩:=hl i x v e1 e2 e3
  refine ⟨u,r,?_⟩
  rcases l with l | ⟨k,c,e,z⟩
  ·exact .inl l
  ·exact .inr ⟨k,c,e,cellK x c e _ z⟩
 ·obtain ⟨v,z⟩:=I.cell x c e
  exact ⟨v,cellK x c e v z⟩
 ·obtain ⟨m,⟨o,_,_,ho,_⟩,_⟩:=I.loc
  exact free _ o (fun z=>(hch _ z).2.1 rfl) ho I.free
 ·obtain ⟨v,o,ho,hd⟩:=I.cell x c e
  exact free c o (fun z=>(hch c z).2.2.1 x c e rfl) ho (I.freeC x c e)
 ·obtain ⟨e,n,ne,nf,d⟩:=I.pin p hp
  have nch:p.1∉ch:=fun z=>(hch p.1 z).2.2.2 p hp rfl
  exact ⟨keep p.1 p.2 ne nf nch e n,free p.1 p.2 nch e n,ne,nf,d⟩
theorem Inv.un {t':Nat} (I:Inv X pins σ H s) (u:Un X.fs [] H H' s.heap h') (hok:HOk X.prog X.w H' h'):Inv X pins σ H' {s with heap:=h',toks:=t'}:=by
 obtain ⟨m,⟨o,es,ep,ho,r⟩,_⟩:=id I.loc
 obtain ⟨sl,hL⟩:=u.any ho I.free (by simp)
 exact I.step (g':=s.gens) (d':=s.drawn) (ch:=[]) (fun _ z=>nomatch z) (fun b o _ hb _ e n=>u.keep b o e n hb (by simp)) (fun b o _ hb _ e n=>u.slot b o e n hb (by simp)) (fun b o _ e n=>u.free b o e n (by simp)) (fun b o _ e=>u.there b o e (by simp)) u.tups u.frzs u.tbls (fun m' hm=>by
   obtain ⟨o',es',ep',ho',r'⟩:=hm
   rw [ho] at ho';cases ho'
   exact ⟨_,es',ep',hL,r'⟩) hok I.bare
theorem Inv.call {g':Array GenState} {t':Nat} {d':Drawn} {ch:List Addr} (I:Inv X pins σ H s) (u:Un (frs X.stack) ch H H' s.heap h') (hok:HOk X.prog X.w H' h') (hg:AllBare g')
  (hch: ∀ b∈ch,(b∈X.ex\/X.s₀.heap.objs.size<=b)/\b≠X.env.locals/\(∀ x c,X.env.cells.lookup x=some c->c≠b)/\ ∀ p∈X.pn++pins,p.1≠b):
  Inv X pins σ H' {s with heap:=h',gens:=g',drawn:=d',toks:=t'}:=by
 obtain ⟨m,⟨o,es,ep,ho,r⟩,_⟩:=id I.loc
 obtain ⟨sl,hL⟩:=u.any ho I.free fun z=>(hch _ z).2.1 rfl
 exact I.step (ch:=ch) hch (fun b o hL hb hc e n=>u.keep b o e n (fun z=>(qaP.mp (I.stkSub b z)).elim hL hb) hc) (fun b o _ _ hc e n=>u.any e n hc) (fun b o hc e n=>u.free b o e n hc) (fun b o hc e=>u.there b o e hc) u.tups u.frzs u.tbls (fun m' hm=>by
   obtain ⟨o',es',ep',ho',r'⟩:=hm
   rw [ho] at ho';cases ho'
   exact ⟨_,es',ep',hL,r'⟩) hok hg
theorem Inv.turned {t':Nat} {it:Addr} (I:Inv X pins σ H s) (k: ∀ b o,b≠it->s.heap.get? b=some o->h'.get? b=some o) (hn:H it=none) (hL:it≠X.env.locals)
  (h1:it∈X.ex\/X.s₀.heap.objs.size<=it) (h2: ∀ x c,X.env.cells.lookup x=some c->c≠it) (h3: ∀ p∈X.pn++pins,p.1≠it):Inv X pins σ H {s with heap:=h',toks:=t'}:=by
 have nit: ∀ b u,H b=some u->b≠it:=fun b u e z=>by rw [z,hn] at e;cases e
 refine I.step (g':=s.gens) (d':=s.drawn) (ch:=[it]) (fun b hb=> ?_) (fun b o _ _ hc e _=>k b o (fun z=>hc (by simp [z])) e) (fun b o _ _ hc e _=>⟨o.slots,k b o (fun z=>hc (by simp [z])) e⟩) (fun _ _ _ _ n=>n)
  (fun b o hc e=>⟨o,k b o (fun z=>hc (by simp [z])) e⟩) (fun _ _ e=>e) (fun _ _ _ e=>e) (fun b ps e=>⟨#[],by rw [e];simp⟩) (fun m hm=> ?_) (fun b u e=> ?_) I.bare
 ·have e:b=it:=by simpa using hb
  subst e
  exact ⟨h1,hL,h2,h3⟩
 ·obtain ⟨o,es,ep,ho,r⟩:=hm
  exact ⟨o,es,ep,k _ o (Ne.symm hL) ho,r⟩
 ·refine (I.hok b u e).stay (fun c v hc q=>k c v ?_ q) (fun _ q=>q) fun _ _ q=>q
  rcases hc with z | z
  ·rw [z];exact nit b u e
  ·exact nit c _ z
theorem Inv.tok (I:Inv X pins σ H s) (t:Nat):Inv X pins σ H {s with toks:=t}:=I.un (h':=s.heap) (t':=t) Un.refl I.hok
theorem Inv.kept {t':Nat} (I:Inv X pins σ H s) (k: ∀ b u,s.heap.get? b=some u->h'.get? b=some u):Inv X pins σ H {s with heap:=h',toks:=t'}:=I.un (Un.kept k) (I.hok.kept k)
theorem Inv.laid {a:Addr} {o:HO} {t':Nat} (I:Inv X pins σ H s) (k: ∀ b u,s.heap.get? b=some u->h'.get? b=some u) (hp:s.heap.objs.size<=a) (new:zbV X.prog X.w (upd H a o) h' a o):
  Inv X pins σ (upd H a o) {s with heap:=h',toks:=t'}:=I.un (Un.laid k hp (I.hok.fresh hp)) (I.hok.laid k hp new)
theorem Inv.write {x e:Addr} {o:HO} {t':Nat} (I:Inv X pins σ H s) (mu:Mut (H x)) (he:e=x\/H e=some (.own x)) (k: ∀ b u,b≠e->s.heap.get? b=some u->h'.get? b=some u) (heo: ∃ u,h'.get? e=some u)
  (new:zbV X.prog X.w (upd H x o) h' x o):Inv X pins σ (upd H x o) {s with heap:=h',toks:=t'}:=I.un (Un.write mu he k heo) (I.hok.write mu he k heo new)
theorem Inv.weak {σ':List (Option V)} (I:Inv X pins σ H s) (hl:σ'.length=σ.length) (w: ∀ (i:Nat) v,σ'[i]? = some (some v)->σ[i]? = some (some v)):Inv X pins σ' H s:=
 ⟨I.ok,I.os,I.bare,I.base,let ⟨m,hn,hl'⟩:=I.loc;⟨m,hn,fun i x v e1 e2 e3=>hl' i x v e1 (w i v e2) e3⟩,I.cell,I.free,I.freeC,I.pin,I.hok,hl.trans I.len⟩
theorem Inv.pins_of {pins':List (Addr×Obj)} (I:Inv X pins σ H s) (h: ∀ p∈pins',s.heap.get? p.1=some p.2/\H p.1=none/\p.1≠X.env.locals/\p.1∉X.fs/\ ∀ v,p.2.data≠ .cell v):Inv X pins' σ H s:=
 ⟨I.ok,I.os,I.bare,I.base,I.loc,I.cell,I.free,I.freeC,fun p hp=>(qaK.mp hp).elim (fun z=>I.pin p (List.mem_append_left _ z)) (h p),I.hok,I.len⟩
theorem zjP {N:List Str} (hN:N.Nodup) {i j:Nat} {x:Str} (a:N[i]? = some x) (b:N[j]? = some x):i=j:=by
 obtain ⟨h1,e1⟩:=qac.mp a
 obtain ⟨h2,e2⟩:=qac.mp b
 exact (List.getElem_inj hN).mp (e1.trans e2.symm)
theorem zmN {M:Model} {A:Around} {E:Value->Shared->Prop} {i:Nat} {x:Str} {v:V} {u:Value} {Q:Unit->Shared->Prop} (I:Inv X pins σ H s) (hN:X.N.Nodup) (hi:X.N[i]? = some x) (hx:Loc X.env.scope x) (r:zb4 v u)
  (h: ∀ s',Inv X pins (σ.set i (some v)) H s'->(∃ a,Heap.SameBut a s.heap s'.heap/\(a=X.env.locals\/X.env.cells.lookup x=some a))->Q () s') (hf:X.fn x=true\/X.env.scope.names.lookup x=some .local:=by first | exact .inl rfl | exact .inr rfl | assumption):wpAny M A (storeName X.env x u) Q E s:=by
 obtain ⟨m,hn,hl⟩:=id I.loc
 have hcls:(X.env.scope.kind== .class || (X.env.scope.kind== .module && X.env.locals != X.env.globals))=false:=by rw [I.ok.kind];rfl
 have hiσ:i<σ.length:=by rw [I.len];exact (qac.mp hi).1
 have cne:=I.cne
 have tracked: ∀ {a:Addr} {h':Heap},(∃ o,s.heap.get? a=some o/\H a=none)->Heap.SameBut a s.heap h'->HOk X.prog X.w H h':=fun {a h'} ha hs b ob e=>by
  obtain ⟨_,_,hfree⟩:=ha
  refine (I.hok b ob e).stay (fun c w' hc q=>(hs.2 c ?_).trans q) (fun _ q=>q) fun _ _ q=>q
  rintro rfl
  rcases hc with rfl | hc
  ·rw [hfree] at e;cases e
  ·rw [hfree] at hc;cases hc
 rcases hx with hk | hk
 ·refine wpAny_storeName_local hk hn (fun h' hn' hs=> ?_) hcls
  obtain ⟨oL,_,_,hoL,_⟩:=id hn
  refine h _ ⟨I.ok,I.os,I.bare,⟨fun b o e n hb hx=> ?_,fun b o e n hb hx=> ?_,I.base.free,fun b o e hx=> ?_,I.base.tups,I.base.frzs,I.base.tbls⟩,⟨_,hn',fun j y v' e1 e2 e3=> ?_⟩,fun y c e=> ?_,I.free,I.freeC,fun p hp=> ?_,tracked ⟨oL,hoL,I.free⟩ hs,by simpa using I.len⟩ ⟨_,hs,.inl rfl⟩
  ·exact (hs.2 b (qaR (qaw (qaQ e) I.ok.above))).trans (I.base.keep b o e n hb hx)
  ·obtain ⟨sl,e1⟩:=I.base.slot b o e n hb hx
   exact ⟨sl,(hs.2 b (qaR (qaw (qaQ e) I.ok.above))).trans e1⟩
  ·obtain ⟨o',e1⟩:=I.base.there b o e hx
   exact ⟨o',(hs.2 b (qaR (qaw (qaQ e) I.ok.above))).trans e1⟩
  ·by_cases hj:j=i
   ·subst hj
    rw [hi] at e1;cases e1
    rw [qai hiσ] at e2
    cases e2
    exact ⟨u,r,.inl ⟨hk,by simp⟩⟩
   ·rw [qao (Ne.symm hj)] at e2
    obtain ⟨u',r',q⟩:=hl j y v' e1 e2 e3
    refine ⟨u',r',?_⟩
    rcases q with ⟨k,e⟩ | ⟨k,c,e,z⟩
    ·refine .inl ⟨k,?_⟩
     have:y≠x:=fun e=>hj (zjP hN e1 (e▸hi))
     simp [this,e]
    ·exact .inr ⟨k,c,e,z.sameBut hs (cne y c e)⟩
  ·obtain ⟨w',z⟩:=I.cell y c e
   exact ⟨w',z.sameBut hs (cne y c e)⟩
  ·obtain ⟨e,n,ne,nf,d⟩:=I.pin p hp
   exact ⟨(hs.2 p.1 ne).trans e,n,ne,nf,d⟩
 ·have hfn:X.fn x=true:=by
   rcases hf with z | z
   ·exact z
   ·rw [z] at hk;cases hk
  obtain ⟨c,hc⟩:=I.ok.has x (.inl hk)
  obtain ⟨w',z⟩:=I.cell x c hc
  refine wpAny_storeName_cell I.ok.kind hk hc z (fun h' hc' hs=> ?_)
  obtain ⟨oc,hoc,hocd⟩:=id z
  refine h {s with heap:=h'} ⟨I.ok,I.os,I.bare,⟨fun b o e n hb hx=> ?_,fun b o e n hb hx=> ?_,I.base.free,fun b o e hx=> ?_,I.base.tups,I.base.frzs,I.base.tbls⟩,⟨m,hn.sameBut hs (Ne.symm (cne x c hc)),fun j y v' e1 e2 e3=> ?_⟩,fun y c' e=> ?_,I.free,I.freeC,fun p hp=> ?_,tracked ⟨oc,hoc,I.freeC x c hc⟩ hs,by simpa using I.len⟩ ⟨c,hs,.inr hc⟩
  ·exact (hs.2 b (qaR (qaw (qaQ e) (I.ok.cab x c hfn hc)))).trans (I.base.keep b o e n hb hx)
  ·obtain ⟨sl,e1⟩:=I.base.slot b o e n hb hx
   exact ⟨sl,(hs.2 b (qaR (qaw (qaQ e) (I.ok.cab x c hfn hc)))).trans e1⟩
  ·obtain ⟨o',e1⟩:=I.base.there b o e hx
   exact ⟨o',(hs.2 b (qaR (qaw (qaQ e) (I.ok.cab x c hfn hc)))).trans e1⟩
  ·by_cases hj:j=i
   ·subst hj
    rw [hi] at e1;cases e1
    rw [qai hiσ] at e2
    cases e2
    exact ⟨u,r,.inr ⟨.inl hk,c,hc,hc'⟩⟩
   ·rw [qao (Ne.symm hj)] at e2
    obtain ⟨u',r',q⟩:=hl j y v' e1 e2 e3
    refine ⟨u',r',?_⟩
    rcases q with q | ⟨k,c',e,z'⟩
    ·exact .inl q
    ·refine .inr ⟨k,c',e,z'.sameBut hs ?_⟩
     rintro rfl
     exact hj (zjP hN e1 (I.ok.inj _ _ _ e hc▸hi))
  ·by_cases hcc:c'=c
   ·subst hcc;exact ⟨_,hc'⟩
   ·obtain ⟨w2,z2⟩:=I.cell y c' e
    exact ⟨w2,z2.sameBut hs hcc⟩
  ·obtain ⟨e,n,ne,nf,d⟩:=I.pin p hp
   refine ⟨(hs.2 p.1 ?_).trans e,n,ne,nf,d⟩
   intro q
   rw [q,hoc] at e
   have q':oc=p.2:=Option.some.inj e
   exact d w' (by rw [<- q'];exact hocd)
theorem zeg {M:Model} {A:Around} {E:Value->Shared->Prop} {i:Nat} {x:Str} {v:V} {u:Value} {Q:Unit->Shared->Prop} (I:Inv X pins σ H s) (hN:X.N.Nodup) (hi:X.N[i]? = some x) (hx:Loc X.env.scope x) (r:zb4 v u)
  (h: ∀ s',Inv X pins (σ.set i (some v)) H s'->Q () s') (hf:X.fn x=true\/X.env.scope.names.lookup x=some .local:=by first | exact .inl rfl | exact .inr rfl | assumption):wpAny M A (storeName X.env x u) Q E s:=
 zmN I hN hi hx r (fun s' I' _=>h s' I') hf
theorem Inv.call' {s':Shared} {ch:List Addr} (I:Inv X pins σ H s) (ho:s'.os=s.os) (u:Un (frs X.stack) ch H H' s.heap s'.heap) (hok:HOk X.prog X.w H' s'.heap) (hg:AllBare s'.gens)
  (hch: ∀ b∈ch,(b∈X.ex\/X.s₀.heap.objs.size<=b)/\b≠X.env.locals/\(∀ x c,X.env.cells.lookup x=some c->c≠b)/\ ∀ p∈X.pn++pins,p.1≠b):Inv X pins σ H' s':=by
 obtain ⟨h',g',d',t',o'⟩:=s'
 have e:o'=s.os:=ho
 subst e
 exact I.call (g':=g') (t':=t') (d':=d') u hok hg hch
end
noncomputable abbrev XK:=Value->Option Addr->Hp->Prop
noncomputable abbrev St:=List (Option V)
noncomputable abbrev VK:=V->Hp->Prop
noncomputable abbrev TE:=St->Hp->VK->Prop
noncomputable abbrev TT:=St->Hp->(Bool->Hp->Prop)->Prop
noncomputable abbrev TA:=St->Hp->(List V->Hp->Prop)->Prop
structure zrA where
 nx:St->Hp->Prop
 rt:VK
 bk:St->Hp->Prop:=fun _ _=>False
 ct:St->Hp->Prop:=fun _ _=>False
noncomputable abbrev TS:=zrA->St->Hp->Prop
def EP (X:Cx) (pins:List (Addr×Obj)) (σ:St) (Q:VK) (u:Value) (s':Shared):Prop:= ∃ v H',Inv X pins σ H' s'/\zb4 v u/\Q v H'
def TP (X:Cx) (pins:List (Addr×Obj)) (σ:St) (Q:Bool->Hp->Prop) (b:Bool) (s':Shared):Prop:= ∃ H',Inv X pins σ H' s'/\Q b H'
def AP (X:Cx) (pins:List (Addr×Obj)) (σ:St) (Q:List V->Hp->Prop) (us:List Value) (s':Shared):Prop:= ∃ vs H',Inv X pins σ H' s'/\zba vs us/\Q vs H'
def SP (X:Cx) (pins:List (Addr×Obj)) (D:zrA) (f:Flow) (s':Shared):Prop:=
 match f with
 | .next=> ∃ σ' H',Inv X pins σ' H' s'/\D.nx σ' H'
 | .brk=> ∃ σ' H',Inv X pins σ' H' s'/\D.bk σ' H'
 | .cont=> ∃ σ' H',Inv X pins σ' H' s'/\D.ct σ' H'
 | .ret u=> ∃ v σ' H',Inv X pins σ' H' s'/\zb4 v u/\D.rt v H'
def PE (X:Cx) (e:Expr) (t:TE):Prop:=
 ∀ (pins:List (Addr×Obj)) (s:Shared) (σ:St) (H:Hp) (Q:VK),Inv X pins σ H s->t σ H Q->wpAny (model X.prog X.w) X.A (eval e X.env) (EP X pins σ Q) X.xe s
def PT (X:Cx) (e:Expr) (t:TT):Prop:=
 ∀ (pins:List (Addr×Obj)) (s:Shared) (σ:St) (H:Hp) (Q:Bool->Hp->Prop),Inv X pins σ H s->t σ H Q->wpAny (model X.prog X.w) X.A (isTrue e X.env (eval e X.env)) (TP X pins σ Q) X.xe s
def PW (X:Cx) (e:Expr) (t:TT):Prop:=
 ∀ (whole:Sem Value) (pins:List (Addr×Obj)) (s:Shared) (σ:St) (H:Hp) (Q:Bool->Hp->Prop),Inv X pins σ H s->t σ H Q->wpAny (model X.prog X.w) X.A (isTrue e X.env whole) (TP X pins σ Q) X.xe s
theorem PW.pt {X:Cx} {e:Expr} {t:TT} (h:PW X e t):PT X e t:=h _
def PA (X:Cx) (es:List Expr) (t:TA):Prop:=
 ∀ (pos:Pos) (pins:List (Addr×Obj)) (s:Shared) (σ:St) (H:Hp) (Q:List V->Hp->Prop),Inv X pins σ H s->t σ H Q->wpAny (model X.prog X.w) X.A (spliced (backTo pos (starEach es X.env))) (AP X pins σ Q) X.xe s
def PS (X:Cx) (st:Stmt) (t:TS):Prop:=
 ∀ (pins:List (Addr×Obj)) (s:Shared) (σ:St) (H:Hp) (D:zrA),Inv X pins σ H s->t D σ H->wpAny (model X.prog X.w) X.A (exec st X.env) (SP X pins D) X.xe s
def PSs (X:Cx) (st:List Stmt) (t:TS):Prop:=
 ∀ (pins:List (Addr×Obj)) (s:Shared) (σ:St) (H:Hp) (D:zrA),Inv X pins σ H s->t D σ H->wpAny (model X.prog X.w) X.A (execs st X.env) (SP X pins D) X.xe s
theorem thn {α:Type} {t:Sem α} {Q Q':α->Shared->Prop} {M:Model} {A:Around} {E:Value->Shared->Prop} {s:Shared} (h:wpAny M A t Q E s) (hQ: ∀ a s,Q a s->Q' a s):wpAny M A t Q' E s:=qaZ h hQ fun _ _ x=>x
section
variable {X:Cx}
noncomputable def zvZ (i:Nat):TE:=fun σ H Q=> ∃ v,σ[i]? = some (some v)/\Q v H
noncomputable def tC (v:V):TE:=fun _ H Q=>Q v H
theorem zo7 {i:Nat} {x:Str} {pos:Pos} (hN:X.N[i]? = some x) (hv:Vis X.env.scope x) (hd:(x==("__debug__":Str))=false:=by decide) (hcd:(x==("__classdict__":Str))=false:=by decide):PE X (.Name x pos) (zvZ i):=by
 intro pins s σ H Q I h
 obtain ⟨v,e,h⟩:=h
 obtain ⟨m,hn,hl⟩:=I.loc
 obtain ⟨u,r,l⟩:=hl i x v hN e hv
 have fin:EP X pins σ Q u s:=⟨v,H,I,r,h⟩
 rcases l with ⟨hk,hm⟩ | ⟨hk,c,hc,hcell⟩
 ·exact wpAny_Name (wpAny_loadName_local I.ok.kind hk hn hm fin) hd
 ·rcases hk with hk | hk
  ·exact wpAny_Name (wpAny_loadName_cell I.ok.kind hk hc hcell fin) hd
  ·exact wpAny_Name (wpAny_loadName_free I.ok.kind hk hc hcell fin hcd) hd
theorem ztX {i j pos}:PE X (.Constant (.int i) j pos) (tC (.int i)):=fun _ _ _ H _ I h=>wpAny_Constant_int ⟨.int i,H,I.tok _,⟨_,rfl⟩,h⟩
theorem zu9 {b j pos}:PE X (.Constant (.bool b) j pos) (tC (.bl b)):=fun _ _ _ H _ I h=>Constant_bool ⟨.bl b,H,I,rfl,h⟩
theorem ztv {j pos}:PE X (.Constant .none j pos) (tC .non):=fun _ _ _ H _ I h=>Constant_none ⟨.non,H,I,rfl,h⟩
def Gl (X:Cx) (x:Str):Prop:=X.env.kindOf x=some .globalImplicit
theorem zms {E:Value->Shared->Prop} {pins:List (Addr×Obj)} {s:Shared} {σ:St} {H:Hp} {x:Str} {u:Value} {pos:Pos} {Q:Value->Shared->Prop} (I:Inv X pins σ H s) (hg:Gl X x) (hm:X.mg x=some u) (h:Q u s)
  (hd:(x==("__debug__":Str))=false:=by decide):wpAny (model X.prog X.w) X.A (eval (.Name x pos) X.env) Q E s:=
 Calls.Name_function_global I.ok.kind hg (Calls.loadGlobal_global (by rw [I.ok.glob];exact I.mod.glob.keeps I.bk) hm h) hd
theorem ze8 {E:Value->Shared->Prop} {pins:List (Addr×Obj)} {s:Shared} {σ:St} {H:Hp} {x:Str} {u:Value} {pos:Pos} {Q:Value->Shared->Prop} (I:Inv X pins σ H s) (hg:Gl X x) (hm:X.mg x=none) (hv:bootBuiltins x=some u) (h:Q u s)
  (hn:x≠"__name__":=by decide) (hd:(x==("__debug__":Str))=false:=by decide):wpAny (model X.prog X.w) X.A (eval (.Name x pos) X.env) Q E s:=by
 obtain ⟨mb,h1,h2⟩:=I.mod.blt
 exact Calls.Name_function_global I.ok.kind hg (Calls.loadGlobal_builtin (by rw [I.ok.glob];exact I.mod.glob.keeps I.bk) hm (by rw [I.ok.blt];exact h1.keeps I.bk) ((h2 x hn).trans hv) h) hd
theorem zpA {x:Str} {v:V} {u:Value} {pos:Pos} (hg:Gl X x) (hm:X.mg x=some u) (r:zb4 v u) (hd:(x==("__debug__":Str))=false:=by decide):PE X (.Name x pos) (tC v):=
 fun _ _ _ H _ I h=>zms I hg hm ⟨v,H,I,r,h⟩ hd
theorem zrr {x:Str} {v:V} {u:Value} {pos:Pos} (hg:Gl X x) (hm:X.mg x=none) (hv:bootBuiltins x=some u) (r:zb4 v u) (hn:x≠"__name__":=by decide) (hd:(x==("__debug__":Str))=false:=by decide):PE X (.Name x pos) (tC v):=
 fun _ _ _ H _ I h=>ze8 I hg hm hv ⟨v,H,I,r,h⟩ hn hd
noncomputable def t2I (ta tb:TE) (k:Int->Int->Hp->Prop):St->Hp->Prop:=fun σ H=>ta σ H fun x H1=>tb σ H1 fun y H2=> ∃ i j,x= .int i/\y= .int j/\k i j H2
variable {a b:Expr} {ta tb:TE} {pos:Pos}
noncomputable def zdK (p:Int->Int->Bool) (ta tb:TE):TE:=fun σ H Q=>t2I ta tb (fun i j H2=>Q (.bl (p i j)) H2) σ H
noncomputable def tB (t:TE):TT:=fun σ H Q=>t σ H fun x H1=> ∃ c,x= .bl c/\Q c H1
theorem ztA {e:Expr} {t:TE} (h:PE X e t) (he: ∀ whole,isTrue e X.env whole=(do let v<-whole;standAt e.pos;holding [v] (truthy v)):=by intro _;rfl):PT X e (tB t):=by
 intro pins s σ H Q I hw
 refine isTrue_plain (thn (h pins s σ H _ I hw) fun v s1 ⟨x,H1,I1,r1,q1⟩=> ?_) (he _)
 obtain ⟨d,rfl,q⟩:=q1
 cases r1
 exact wpAny_truthy_bool ⟨H1,I1,q⟩
variable {tA tB':TT} {zbk:List Expr}
noncomputable def zrT (t u:TT):TT:=fun σ H Q=>t σ H fun c H1=>if c=true then u σ H1 Q else Q false H1
noncomputable def tOr (t u:TT):TT:=fun σ H Q=>t σ H fun c H1=>if c=true then Q true H1 else u σ H1 Q
noncomputable def zhD (t:TT):TT:=fun σ H Q=>t σ H fun c H1=>Q (!c) H1
theorem pw_and1 (ha:PT X a tA):PW X (.BoolOp .And [a] pos) tA:=by
 intro wh pins s σ H Q I h
 refine isTrue_and (thn (ha pins s σ H Q I h) fun c s1 e=> ?_)
 cases c with
 | true=>exact isTrue_and_nil e
 | false=>exact e
theorem pw_or1 (ha:PT X a tA):PW X (.BoolOp .Or [a] pos) tA:=by
 intro wh pins s σ H Q I h
 refine isTrue_or (thn (ha pins s σ H Q I h) fun c s1 e=> ?_)
 cases c with
 | false=>exact isTrue_or_nil e
 | true=>exact e
theorem pw_and (ha:PT X a tA) (hb:PW X (.BoolOp .And (b::zbk) pos) tB'):PW X (.BoolOp .And (a::b::zbk) pos) (zrT tA tB'):=by
 intro wh pins s σ H Q I h
 refine isTrue_and (thn (ha pins s σ H _ I h) fun c s1 ⟨H1,I1,q1⟩=> ?_)
 cases c with
 | true=>exact hb wh pins s1 σ H1 Q I1 q1
 | false=>exact ⟨H1,I1,q1⟩
theorem pw_or (ha:PT X a tA) (hb:PW X (.BoolOp .Or (b::zbk) pos) tB'):PW X (.BoolOp .Or (a::b::zbk) pos) (tOr tA tB'):=by
 intro wh pins s σ H Q I h
 refine isTrue_or (thn (ha pins s σ H _ I h) fun c s1 ⟨H1,I1,q1⟩=> ?_)
 cases c with
 | true=>exact ⟨H1,I1,q1⟩
 | false=>exact hb wh pins s1 σ H1 Q I1 q1
theorem zsF (ha:PT X a tA):PT X (.UnaryOp .Not a pos) (zhD tA):=by
 intro pins s σ H Q I h
 exact isTrue_not (ha pins s σ H (fun c H1=>Q (!c) H1) I h)
noncomputable def zvg (ta tb:TE):TE:=fun σ H Q=>ta σ H fun x H1=> ∃ c,x= .bl c/\if c=true then tb σ H1 Q else Q (.bl false) H1
noncomputable def zwv (ta tb:TE):TE:=fun σ H Q=>ta σ H fun x H1=> ∃ c,x= .bl c/\if c=true then Q (.bl true) H1 else tb σ H1 Q
noncomputable def zvm (ta:TE):TE:=fun σ H Q=>ta σ H fun x H1=> ∃ c,x= .bl c/\Q (.bl (!c)) H1
theorem zsw {op} {t:TE} (h:PE X a t):PE X (.BoolOp op [a] pos) t:=fun pins s σ H Q I hw=>BoolOp_one (h pins s σ H Q I hw)
theorem zsz (ha:PE X a ta) (hb:PE X (.BoolOp .And (b::zbk) pos) tb):PE X (.BoolOp .And (a::b::zbk) pos) (zvg ta tb):=by
 intro pins s σ H Q I h
 refine BoolOp_and (thn (ha pins s σ H _ I h) fun v s1 ⟨x,H1,I1,r1,q1⟩=> ?_)
 obtain ⟨c,rfl,q1⟩:=q1
 cases r1
 refine wpAny_truthy_bool ?_
 cases c with
 | true=>exact hb pins s1 σ H1 Q I1 q1
 | false=>exact ⟨.bl false,H1,I1,rfl,q1⟩
theorem zvj (ha:PE X a ta) (hb:PE X (.BoolOp .Or (b::zbk) pos) tb):PE X (.BoolOp .Or (a::b::zbk) pos) (zwv ta tb):=by
 intro pins s σ H Q I h
 refine BoolOp_or (thn (ha pins s σ H _ I h) fun v s1 ⟨x,H1,I1,r1,q1⟩=> ?_)
 obtain ⟨c,rfl,q1⟩:=q1
 cases r1
 refine wpAny_truthy_bool ?_
 cases c with
 | false=>exact hb pins s1 σ H1 Q I1 q1
 | true=>exact ⟨.bl true,H1,I1,rfl,q1⟩
theorem zs5 (ha:PE X a ta):PE X (.UnaryOp .Not a pos) (zvm ta):=by
 intro pins s σ H Q I h
 refine UnaryOp_ (thn (ha pins s σ H _ I h) fun v s1 ⟨x,H1,I1,r1,q1⟩=> ?_)
 obtain ⟨c,rfl,q1⟩:=q1
 cases r1
 exact not_of (wpAny_truthy_bool ⟨.bl (!c),H1,I1,rfl,q1⟩)
noncomputable def tIf (t:TT) (ta tb:TE):TE:=fun σ H Q=>t σ H fun c H1=>if c=true then ta σ H1 Q else tb σ H1 Q
theorem znD {c:Expr} (hc:PT X c tA) (ha:PE X a ta) (hb:PE X b tb):PE X (.IfExp c a b pos) (tIf tA ta tb):=by
 intro pins s σ H Q I h
 refine wpAny_IfExp (thn (hc pins s σ H _ I h) fun d s1 ⟨H1,I1,q1⟩=> ?_)
 cases d with
 | true=>exact ha pins s1 σ H1 Q I1 q1
 | false=>exact hb pins s1 σ H1 Q I1 q1
end
def SqL (K:W.Frag) (H:Hp) (a:Addr) (xs:List V):Prop:=
 Rd H a (.lst xs)\/
  ∃ (o:Obj) (its:Array Value) (n:Nat),K.lookup a=some o/\o.cls= .type "list"/\o.dict=none/\o.data= .seq its n/\its.size<=sizeLine/\zba xs its.toList
def SqT (K:W.Frag) (H:Hp) (a:Addr) (xs:List V):Prop:=
 Rd H a (.tup xs)\/
  ∃ (o:Obj) (its:Array Value) (n:Nat),K.lookup a=some o/\o.cls= .type "tuple"/\o.data= .seq its n/\its.size<=sizeLine/\zba xs its.toList
noncomputable def zwf:Value->Option V
 | .none=>some .non
 | .bool b=>some (.bl b)
 | .int i _=>some (.int i)
 | .str x _=>some (.str x)
 | .bytes b _=>some (.byt b)
 | .float b _=>some (.flt b)
 | .ref a=>some (.ref a)
 | .type n=>some (.ty n)
 | _=>none
theorem zb4.abs {x:V} {u:Value} (r:zb4 x u):zwf u=some x:=by
 cases x with
 | non=>cases r;rfl
 | bl _=>cases r;rfl
 | int _=>obtain ⟨t,rfl⟩:=r;rfl
 | str _=>obtain ⟨t,rfl⟩:=r;rfl
 | byt _=>obtain ⟨t,rfl⟩:=r;rfl
 | flt _=>obtain ⟨t,rfl⟩:=r;rfl
 | ref _=>cases r;rfl
 | ty _=>cases r;rfl
theorem zb4.inj {x y:V} {u:Value} (r:zb4 x u) (q:zb4 y u):x=y:=Option.some.inj (r.abs.symm.trans q.abs)
theorem zba.inj: ∀ {xs ys:List V} {us:List Value},zba xs us->zba ys us->xs=ys
 | _,_,_,.nil,.nil=>rfl
 | _,_,_,.cons r t,.cons r' t'=>by rw [r.inj r',zba.inj t t']
section
variable {X:Cx} {pins:List (Addr×Obj)} {σ:St} {H:Hp} {s:Shared} {a:Addr} {xs ys:List V}
theorem SqL.of {K:W.Frag} (h:H a=some (.lst xs)):SqL K H a xs:= .inl (.inl h)
theorem SqT.of {K:W.Frag} (h:H a=some (.tup xs)):SqT K H a xs:= .inl (.inl h)
theorem Inv.list (I:Inv X pins σ H s) (h:SqL X.K H a xs): ∃ its:List Value,zba xs its/\PlainL s.heap a its.toArray/\xs.length<=sizeLine:=by
 rcases h with h | ⟨o,its,n,hk,hc,hd,hs,hz,r⟩
 ·obtain ⟨z,its,n,r,e⟩:=h.ok I.hok
  exact ⟨its,r,⟨_,n,e,rfl,rfl,rfl⟩,z⟩
 ·refine ⟨its.toList,r,⟨o,n,I.kIn a o hk,hc,hd,by simpa using hs⟩,?_⟩
  have e:=r.length
  simp only [qas] at e
  omega
theorem Inv.tuple (I:Inv X pins σ H s) (h:SqT X.K H a xs): ∃ its:List Value,zba xs its/\IsTup s.heap a its.toArray/\xs.length<=sizeLine:=by
 rcases h with h | ⟨o,its,n,hk,hc,hs,hz,r⟩
 ·obtain ⟨z,its,r,p⟩:=h.ok I.hok
  exact ⟨its,r,p,z⟩
 ·refine ⟨its.toList,r,⟨o,I.kIn a o hk,hc,n,by simpa using hs⟩,?_⟩
  have e:=r.length
  simp only [qas] at e
  omega
theorem Inv.list_inj (I:Inv X pins σ H s) (h:SqL X.K H a xs) (h':SqL X.K H a ys):xs=ys:=by
 obtain ⟨its,r,⟨o,n,e,_,_,d⟩,_⟩:=I.list h
 obtain ⟨its',r',⟨o',n',e',_,_,d'⟩,_⟩:=I.list h'
 rw [e] at e';cases e'
 rw [d] at d'
 injection d' with d1 _
 have:its=its':=by simpa using congrArg Array.toList d1
 subst this
 exact r.inj r'
theorem Inv.tuple_inj (I:Inv X pins σ H s) (h:SqT X.K H a xs) (h':SqT X.K H a ys):xs=ys:=by
 obtain ⟨its,r,⟨o,e,_,n,d⟩,_⟩:=I.tuple h
 obtain ⟨its',r',⟨o',e',_,n',d'⟩,_⟩:=I.tuple h'
 rw [e] at e';cases e'
 rw [d] at d'
 injection d' with d1 _
 have:its=its':=by simpa using congrArg Array.toList d1
 subst this
 exact r.inj r'
end
noncomputable abbrev Cx.wish (X:Cx) (E:Value->Shared->Prop):Cx:={X with xe:=E}
noncomputable abbrev Cx.nox (X:Cx):Cx:=X.wish fun _ _=>False
theorem Cx.Ok.wish {X:Cx} (ok:X.Ok) (E:Value->Shared->Prop):(X.wish E).Ok:=
 ⟨ok.mod,ok.kind,ok.glob,ok.blt,ok.above,ok.inj,ok.has,ok.cab,ok.hd,ok.hx,ok.frames,ok.stk,ok.exf,ok.bs,ok.bsz,ok.noex,ok.exfs,ok.funs,ok.frf⟩
theorem Cx.Ok.unwish {X:Cx} {E:Value->Shared->Prop} (ok:(X.wish E).Ok):X.Ok:=
 ⟨ok.mod,ok.kind,ok.glob,ok.blt,ok.above,ok.inj,ok.has,ok.cab,ok.hd,ok.hx,ok.frames,ok.stk,ok.exf,ok.bs,ok.bsz,ok.noex,ok.exfs,ok.funs,ok.frf⟩
section
variable {X:Cx} {pins:List (Addr×Obj)} {σ:St} {H:Hp} {s:Shared} {E:Value->Shared->Prop}
theorem Inv.wish (I:Inv X pins σ H s) (E:Value->Shared->Prop):Inv (X.wish E) pins σ H s:=⟨I.ok.wish E,I.os,I.bare,I.base,I.loc,I.cell,I.free,I.freeC,I.pin,I.hok,I.len⟩
theorem Inv.unwish (I:Inv (X.wish E) pins σ H s):Inv X pins σ H s:=⟨I.ok.unwish,I.os,I.bare,I.base,I.loc,I.cell,I.free,I.freeC,I.pin,I.hok,I.len⟩
theorem SP.unwish {D:zrA} {f:Flow} {s':Shared} (h:SP (X.wish E) pins D f s'):SP X pins D f s':=by
 cases f with
 | next=>obtain ⟨σ',H',I,q⟩:=h;exact ⟨σ',H',I.unwish,q⟩
 | brk=>obtain ⟨σ',H',I,q⟩:=h;exact ⟨σ',H',I.unwish,q⟩
 | cont=>obtain ⟨σ',H',I,q⟩:=h;exact ⟨σ',H',I.unwish,q⟩
 | ret u=>obtain ⟨v,σ',H',I,r,q⟩:=h;exact ⟨v,σ',H',I.unwish,r,q⟩
theorem PE.nox {e:Expr} {t:TE} (h:PE X.nox e t):PE X e t:=fun pins s σ H Q I hw=>
 qaZ (h pins s σ H Q (I.wish _) hw) (fun _ _ ⟨v,H',I',r,q⟩=>⟨v,H',I'.unwish,r,q⟩) fun _ _ z=>qa0 z
theorem PT.nox {e:Expr} {t:TT} (h:PT X.nox e t):PT X e t:=fun pins s σ H Q I hw=>
 qaZ (h pins s σ H Q (I.wish _) hw) (fun _ _ ⟨H',I',q⟩=>⟨H',I'.unwish,q⟩) fun _ _ z=>qa0 z
theorem PSs.nox {st:List Stmt} {t:TS} (h:PSs X.nox st t):PSs X st t:=fun pins s σ H D I hw=>
 qaZ (h pins s σ H D (I.wish _) hw) (fun _ _ q=>q.unwish) fun _ _ z=>qa0 z
end
section
variable {X:Cx} {st:Stmt} {zbk:List Stmt} {t u:TS} {e:Expr} {te:TE} {pos:Pos}
noncomputable def zvR:TS:=fun D σ H=>D.nx σ H
noncomputable def zwo (t u:TS):TS:=fun D σ H=>t {D with nx:=u D} σ H
theorem zqv:PSs X [] zvR:=fun _ _ σ H _ I h=>wpAny_execs_nil ⟨σ,H,I,h⟩
theorem zou (h1:PS X st t) (h2:PSs X zbk u):PSs X (st::zbk) (zwo t u):=by
 intro pins s σ H D I h
 refine wpAny_execs_cons (thn (h1 pins s σ H {D with nx:=u D} I h) fun f s1 q=> ?_)
 cases f with
 | next=>
  obtain ⟨σ',H',I',q⟩:=q
  exact h2 pins s1 σ' H' D I' q
 | ret v=>exact q
 | brk=>exact q
 | cont=>exact q
theorem zpE (h1:PS X st t):PSs X [st] t:=by
 intro pins s σ H D I h
 refine wpAny_execs_cons (thn (h1 pins s σ H D I h) fun f s1 q=> ?_)
 cases f with
 | next=>exact wpAny_execs_nil q
 | ret v=>exact q
 | brk=>exact q
 | cont=>exact q
theorem Inv.quiet {pins:List (Addr×Obj)} {σ:St} {H:Hp} {s:Shared} (I:Inv X pins σ H s):interactive X.env=false:=by simp [interactive,I.ok.kind]
noncomputable def zuT (te:TE):TS:=fun D σ H=>te σ H fun _ H1=>D.nx σ H1
theorem zq3 (he:PE X e te) (hs:swapsWith e none pos.line X.env=pure false:=by rfl):PS X (.Expr e pos) (zuT te):=by
 intro pins s σ H D I h
 exact wpAny_Expr_any (thn (he pins s σ H _ I h) fun v s1 ⟨x,H1,I1,r1,q1⟩=>⟨σ,H1,I1,q1⟩) I.quiet hs
noncomputable def zwh (te:TE):TS:=fun D σ H=>te σ H D.rt
theorem ztI (he:PE X e te):PS X (.Return (some e) pos) (zwh te):=by
 intro pins s σ H D I h
 exact wpAny_Return_some (thn (he pins s σ H _ I h) fun v s1 ⟨x,H1,I1,r1,q1⟩=>⟨x,σ,H1,I1,r1,q1⟩)
noncomputable def zwF (c:TT) (t u:TS):TS:=fun D σ H=>c σ H fun b H1=>if b=true then t D σ H1 else u D σ H1
theorem zvd {c:Expr} {a b:List Stmt} {tc:TT} (hc:PT X c tc) (ha:PSs X a t) (hb:PSs X b u):PS X (.If c a b pos) (zwF tc t u):=by
 intro pins s σ H D I h
 refine wpAny_If (thn (hc pins s σ H _ I h) fun d s1 ⟨H1,I1,q1⟩=> ?_)
 cases d with
 | true=>exact ha pins s1 σ H1 D I1 q1
 | false=>exact hb pins s1 σ H1 D I1 q1
end
noncomputable abbrev TG:=V->St->Hp->(St->Hp->Prop)->Prop
noncomputable abbrev TGs:=List V->St->Hp->(St->Hp->Prop)->Prop
def PG (X:Cx) (target:Expr) (t:TG):Prop:=
 ∀ (pins:List (Addr×Obj)) (s:Shared) (σ:St) (H:Hp) (v:V) (u:Value) (Q:St->Hp->Prop),Inv X pins σ H s->zb4 v u->t v σ H Q->
  wpAny (model X.prog X.w) X.A (assign target X.env u) (fun _ s'=> ∃ σ' H',Inv X pins σ' H' s'/\Q σ' H') X.xe s
def PGs (X:Cx) (ts:List Expr) (t:TGs):Prop:=
 ∀ (pins:List (Addr×Obj)) (s:Shared) (σ:St) (H:Hp) (vs:List V) (us:List Value) (Q:St->Hp->Prop),Inv X pins σ H s->zba vs us->t vs σ H Q->
  wpAny (model X.prog X.w) X.A (assignInOrder ((assignEach ts X.env).map (·.2)) us) (fun _ s'=> ∃ σ' H',Inv X pins σ' H' s'/\Q σ' H') X.xe s
noncomputable abbrev zsT:=V->V->V->Hp->(Hp->Prop)->Prop
def zpD (X:Cx) (t:zsT):Prop:=
 ∀ (pins:List (Addr×Obj)) (s:Shared) (σ:St) (H:Hp) (o i v:V) (ov iv u:Value) (Q:Hp->Prop),Inv X pins σ H s->zb4 o ov->zb4 i iv->zb4 v u->t o i v H Q->
  wpAny (model X.prog X.w) X.A (setItem ov iv u) (fun _ s'=> ∃ H',Inv X pins σ H' s'/\Q H') X.xe s
section
variable {X:Cx} {pos:Pos}
noncomputable def zqV (i:Nat):TG:=fun v σ H Q=>Q (σ.set i (some v)) H
theorem zqH {i:Nat} {x:Str} (hN:X.N.Nodup) (hi:X.N[i]? = some x) (hx:Loc X.env.scope x) (hf:X.fn x=true\/X.env.scope.names.lookup x=some .local:=by first | exact .inl rfl | exact .inr rfl | assumption):PG X (.Name x pos) (zqV i):=by
 intro pins s σ H v u Q I r h
 exact wpAny_assign_Name (zeg I hN hi hx r (fun s' I'=>⟨_,H,I',h⟩) hf)
noncomputable def zww:TGs:=fun vs σ H Q=>vs=[]/\Q σ H
noncomputable def zvK (t:TG) (u:TGs):TGs:=fun vs σ H Q=> ∃ v r,vs=v::r/\t v σ H fun σ' H'=>u r σ' H' Q
theorem zqj:PGs X [] zww:=by
 intro pins s σ H vs us Q I r h
 obtain ⟨e,h⟩:=h
 subst e
 cases r
 exact assignInOrder_nil ⟨σ,H,I,h⟩
theorem zoi {e:Expr} {es:List Expr} {t:TG} {u:TGs} (h1:PG X e t) (h2:PGs X es u)
  (hs:(assignEach (e::es) X.env).map (·.2)=assign e X.env::(assignEach es X.env).map (·.2):=by rfl):PGs X (e::es) (zvK t u):=by
 intro pins s σ H vs us Q I r h
 obtain ⟨v,vr,e1,h⟩:=h
 subst e1
 cases r with
 | cons r rr=>
  rw [hs]
  refine assignInOrder_cons (thn (h1 pins s σ H _ _ _ I r h) fun _ s1 ⟨σ1,H1,I1,q1⟩=> ?_)
  exact h2 pins s1 σ1 H1 _ _ Q I1 rr q1
noncomputable def zwM (K:W.Frag) (n:Nat) (t:TGs):TG:=fun v σ H Q=> ∃ a xs,v= .ref a/\SqT K H a xs/\xs.length=n/\t xs σ H Q
theorem zs1 {es:List Expr} {k:Nat} {t:TGs} {n:Nat} (hc:X.calm=true) (h:PGs X es t)
  (hn:(assignEach es X.env).length=n:=by rfl) (hst:(assignEach es X.env).findIdx? (·.1)=none:=by rfl):PG X (.Tuple es k pos) (zwM X.K n t):=by
 intro pins s σ H v u Q I r hw
 obtain ⟨a,xs,e1,hq,hl,hw⟩:=hw
 subst e1
 cases r
 obtain ⟨its,rv,ht,hz⟩:=I.tuple hq
 refine assign_Tuple_tuple (I.ok.hd hc) ht (by simp [hn, <-hl,rv.length]) hst fun h' hx=> ?_
 have I1:Inv X pins σ H {s with heap:=h'}:=I.kept (t':=s.toks) fun b o e=>hx b o (qaR (qaQ e)) e
 exact h pins _ σ H xs _ Q I1 (by simpa using rv) hw
noncomputable def zv3 (to ti:TE) (t:zsT):TG:=fun v σ H Q=>to σ H fun o H1=>ti σ H1 fun i H2=>t o i v H2 fun H3=>Q σ H3
theorem zpf {o i:Expr} {to ti:TE} {t:zsT} (ho:PE X o to) (hi:PE X i ti) (hs:zpD X t)
  (ha: ∀ v,assign (.Subscript o i pos) X.env v=(do
    let ov<-holding [v] (eval o X.env)
    let iv<-holding [v,ov] (eval i X.env)
    standAt pos
    holding [v,ov,iv] (setItem ov iv v)
    release [v,ov,iv] []):=by intro _;rfl):PG X (.Subscript o i pos) (zv3 to ti t):=by
 intro pins s σ H v u Q I r h
 rw [ha]
 refine qaW (qaO (thn (ho pins s σ H _ I h) fun ov s1 ⟨x,H1,I1,r1,q1⟩=> ?_))
 refine qaW (qaO (thn (hi pins s1 σ H1 _ I1 q1) fun iv s2 ⟨y,H2,I2,r2,q2⟩=> ?_))
 refine qaW (wpAny_standAt (qaW (qaO (thn (hs pins s2 σ H2 x y v ov iv u _ I2 r1 r2 r q2) fun _ s3 ⟨H3,I3,q3⟩=> ?_))))
 exact wpAny_release ⟨σ,H3,I3,q3⟩
noncomputable def zvk (te:TE) (g:TG):TS:=fun D σ H=>te σ H fun x H1=>g x σ H1 D.nx
theorem zsN {tg e:Expr} {te:TE} {g:TG} (he:PE X e te) (hg:PG X tg g) (hs:swapsWithSole [tg] e pos.line X.env=pure false:=by rfl) (hw:swappedStores [tg] e X.env=pure none:=by rfl)
  (h1:(assignEach [tg] X.env).map (·.2)=[assign tg X.env]:=by rfl):PS X (.Assign [tg] e pos) (zvk te g):=by
 intro pins s σ H D I h
 refine wpAny_Assign_stores (thn (he pins s σ H _ I h) fun v s1 ⟨x,H1,I1,r1,q1⟩=> ?_) hs hw
 rw [h1]
 exact thn (hg pins s1 σ H1 x v _ I1 r1 q1) fun _ s2 q=>q
theorem zt3 {i:Nat} {x:Str} {e:Expr} {te:TE} {pos':Pos} (hN:X.N.Nodup) (hi:X.N[i]? = some x) (hx:Loc X.env.scope x) (he:PE X e te) (hs:swapsWith e (some (.Name x pos')) pos.line X.env=pure false:=by rfl) (hf:X.fn x=true\/X.env.scope.names.lookup x=some .local:=by first | exact .inl rfl | exact .inr rfl | assumption):
  PS X (.Assign [.Name x pos'] e pos) (zvk te (zqV i)):=by
 intro pins s σ H D I h
 refine wpAny_Assign_Name (thn (he pins s σ H _ I h) fun v s1 ⟨y,H1,I1,r1,q1⟩=> ?_) hs
 exact zeg I1 hN hi hx r1 (fun s2 I2=>⟨_,H1,I2,q1⟩) hf
noncomputable def zv0 (i j:Nat) (ta:TA):TS:=fun D σ H=>ta σ H fun vs H1=> ∃ v w,vs=[v,w]/\D.nx ((σ.set i (some v)).set j (some w)) H1
theorem zr1 {i j:Nat} {x y:Str} {a b:Expr} {ta:TA} {px py pt:Pos} {kt k2 pt2} (hc:X.calm=true) (hN:X.N.Nodup) (hi:X.N[i]? = some x) (hj:X.N[j]? = some y) (hij:i≠j)
  (hx:X.env.scope.names.lookup x=some .local) (hy:X.env.scope.names.lookup y=some .local) (ha:PA X [a,b] ta)
  (hw:swappedStores [.Tuple [.Name x px,.Name y py] kt pt] (.Tuple [a,b] k2 pt2) X.env=pure (some [x,y]))
  (hs:swapsWithSole [.Tuple [.Name x px,.Name y py] kt pt] (.Tuple [a,b] k2 pt2) pos.line X.env=pure false:=by rfl):
  PS X (.Assign [.Tuple [.Name x px,.Name y py] kt pt] (.Tuple [a,b] k2 pt2) pos) (zv0 i j ta):=by
 intro pins s σ H D I h
 rw [exec_Assign_arm]
 refine qaW (wpAny_standAt ?_)
 rw [hs]
 refine qaW (qaX ?_)
 rw [qa5 (by decide)]
 refine qaW (Tuple_ (thn (ha _ pins s σ H _ I h) fun us s1 ⟨vs,H1,I1,r1,q1⟩=> ?_))
 obtain ⟨v,w,e1,q1⟩:=q1
 subst e1
 obtain ⟨u1,u2,rfl,rv,rw'⟩: ∃ u1 u2,us=[u1,u2]/\zb4 v u1/\zb4 w u2:=by
  cases r1 with
  | cons p q=>
   cases q with
   | cons p' q'=>
    cases q'
    exact ⟨_,_,rfl,p,p'⟩
 refine qaC ?_ (by show 2<=sizeLine;decide)
 have I2:Inv X pins σ H1 {s1 with heap:=s1.heap.push {cls:= .type "tuple",data:= .seq [u1,u2].toArray}}:=I1.kept (t':=s1.toks) fun b o e=>qag _ e
 rw [hw]
 refine qaW (qaX ?_)
 show wpAny (model X.prog X.w) X.A (do rule "assign.swapped-stores";let items<-unpackItems (.ref s1.heap.objs.size) 2 none;assignInOrder [fun v=>bindName X.env y v,fun v=>bindName X.env x v] items.reverse;pure Flow.next) _ _ _
 refine qaW (wpAny_rule (qaW (unpackItems_tuple (items:= #[u1,u2]) (I.ok.hd hc) (IsTup.new s1.heap _) fun h' hx'=> ?_)))
 have I3:=I2.kept (h':=h') (t':=s1.toks) fun b o e=>hx' b o (qaR (qaQ e)) e
 show wpAny _ _ (assignInOrder [fun v=>bindName X.env y v,fun v=>bindName X.env x v] [u2,u1]>>=fun _=>pure Flow.next) _ _ _
 refine qaW (assignInOrder_cons (wpAny_bindName (zeg I3 hN hj (.inl hy) rw' (fun s2 I4=> ?_) (.inr hy))))
 refine assignInOrder_cons (wpAny_bindName (zeg I4 hN hi (.inl hx) rv (fun s3 I5=>assignInOrder_nil (qaX ?_)) (.inr hx)))
 rw [List.set_comm _ _ (Ne.symm hij)] at I5
 exact ⟨_,H1,I5,q1⟩
end
section
variable {X:Cx} {pos:Pos}
noncomputable def ztT (c:TT) (tb:TS):TS:=fun D σ H=> ∃ W:Nat->St->Hp->Prop,(∃ m,W m σ H)/\ ∀ m σ H,W m σ H->
 c σ H fun b H1=>if b=true then ∃ N:St->Hp->Prop,(∀ σ' H',N σ' H'-> ∃ m',m'<m/\W m' σ' H')/\tb {D with nx:=N,ct:=N,bk:=D.nx} σ H1 else D.nx σ H1
theorem znn {c:Expr} {body:List Stmt} {tc:TT} {tb:TS} (hp:PassesOwn (model X.prog X.w) X.A X.env X.xe) (hc:PT X c tc) (hb:PSs X body tb):PS X (.While c body [] pos) (ztT tc tb):=by
 intro pins s σ H D I h
 obtain ⟨W,⟨m0,w0⟩,turn⟩:=h
 refine wpAny_While (codeAny_whileLoop (fun n s'=> ∃ σ' H',Inv X pins σ' H' s'/\W n σ' H') ?_ m0 ⟨σ,H,I,w0⟩)
 rintro n s1 ⟨σ1,H1,I1,w1⟩
 refine wpAny_passesOwn hp (thn (hc pins s1 σ1 H1 _ I1 (turn n σ1 H1 w1)) fun b s2 ⟨H2,I2,q2⟩=> ?_)
 cases b with
 | true=>
  obtain ⟨N,hN,q2⟩:=q2
  rw [qa4 rfl]
  refine wpAny_passesOwn hp (thn (hb pins s2 σ1 H2 _ I2 q2) fun f s3 q3=> ?_)
  cases f with
  | next=>
   obtain ⟨σ3,H3,I3,n3⟩:=q3
   obtain ⟨m',hm,w3⟩:=hN σ3 H3 n3
   exact ⟨m',hm,σ3,H3,I3,w3⟩
  | cont=>
   obtain ⟨σ3,H3,I3,n3⟩:=q3
   obtain ⟨m',hm,w3⟩:=hN σ3 H3 n3
   exact ⟨m',hm,σ3,H3,I3,w3⟩
  | brk=>exact q3
  | ret v=>exact q3
 | false=>
  rw [qa5 Bool.false_ne_true]
  exact wpAny_execs_nil ⟨σ1,H2,I2,q2⟩
end
structure It where
 go:Nat->Hp->Prop
 yld:Nat->Hp->V->Hp->Prop
 stop:Nat->Hp->Prop
def zjM (X:Cx) (pins:List (Addr×Obj)) (H:Hp) (b:Addr):Prop:=
 H b=none/\b≠X.env.locals/\b∉X.fs/\(b∈X.ex\/X.s₀.heap.objs.size<=b)/\(∀ x c,X.env.cells.lookup x=some c->c≠b)/\ ∀ p∈X.pn++pins,p.1≠b
theorem Inv.fpOk {X:Cx} {pins:List (Addr×Obj)} {σ:St} {H H':Hp} {s:Shared} {b:Addr} (I:Inv X pins σ H s) (hb:s.heap.objs.size<=b) (hn:H' b=none):zjM X pins H' b:=by
 refine ⟨hn,Nat.ne_of_gt (qaw I.lt hb),I.nofs hb,.inr (qaS I.sz hb),fun x c e z=> ?_,fun p hp z=> ?_⟩
 ·obtain ⟨v,q⟩:=I.cell x c e
  exact absurd (qaw q.lt (by rw [z];exact hb)) (qaN _)
 ·exact absurd (qaw (qaQ (I.pin p hp).1) (by rw [z];exact hb)) (qaN _)
structure zp1 (P:Program) (w:World) (K:W.Frag) (tg:Expr) (J:It) (fp:List Addr) (it:Addr) (tn:Nat->Heap->Prop):Prop where
 mem:it∈fp
 obj: ∀ i h,tn i h-> ∀ b∈fp, ∃ o,h.get? b=some o/\ ∀ v,o.data≠ .cell v
 keep: ∀ i h h',tn i h->(∀ b∈fp, ∀ o,h.get? b=some o->h'.get? b=some o)->tn i h'
 item: ∀ (X:Cx),X.prog=P->X.w=w->X.K=K-> ∀ (i:Nat) (pins:List (Addr×Obj)) (s:Shared) (σ:St) (H:Hp) (E:Value->Shared->Prop),Inv X pins σ H s->(∀ b∈fp,zjM X pins H b)->tn i s.heap->J.go i H->
  wpAny (model P w) X.A (pyNext (.ref it)) (fun r s1=> ∃ u,r=some u/\
    wpAny (model P w) X.A (letOwnedTupleGo tg (.ref it) u) (fun _ s2=> ∃ x H',Inv X pins σ H' s2/\zb4 x u/\J.yld i H x H'/\tn (i+1) s2.heap/\ ∀ b∈fp,H' b=none) E s1) E s
 done: ∀ (X:Cx),X.prog=P->X.w=w->X.K=K-> ∀ (i:Nat) (pins:List (Addr×Obj)) (s:Shared) (σ:St) (H:Hp) (E:Value->Shared->Prop),Inv X pins σ H s->(∀ b∈fp,zjM X pins H b)->tn i s.heap->J.stop i H->
  wpAny (model P w) X.A (pyNext (.ref it)) (fun r s1=>r=none/\Inv X pins σ H s1) E s
 self: ∀ (A:Around) (i:Nat) (s:Shared) (Q:Value->Shared->Prop) (E:Value->Shared->Prop),tn i s.heap->Q (.ref it) s->wpAny (model P w) A (pyIter (.ref it)) Q E s
noncomputable abbrev TI:=St->Hp->(It->Hp->Prop)->Prop
def PIE (X:Cx) (pins:List (Addr×Obj)) (σ:St) (tg:Expr) (R:It->Hp->Prop) (itv:Value) (s2:Shared):Prop:=
 ∃ (it:Addr) (fp:List Addr) (tn:Nat->Heap->Prop) (J:It) (H':Hp),itv= .ref it/\Inv X pins σ H' s2/\zp1 X.prog X.w X.K tg J fp it tn/\tn 0 s2.heap/\(∀ b∈fp,zjM X pins H' b)/\R J H'
def PI (X:Cx) (tg iter:Expr) (wi:TI):Prop:=
 ∀ (pins:List (Addr×Obj)) (s:Shared) (σ:St) (H:Hp) (R:It->Hp->Prop),Inv X pins σ H s->wi σ H R->
  wpAny (model X.prog X.w) X.A (eval iter X.env) (fun v s1=>wpAny (model X.prog X.w) X.A (pyIter v) (PIE X pins σ tg R) X.xe s1) X.xe s
theorem zoq {M:Model} {A:Around} {E:Value->Shared->Prop} {s:Shared} {tg:Expr} {it:Addr} {u:Value} {o:Obj} {n:String} {vs:Array Value} {Q:Unit->Shared->Prop} (ho:s.heap.get? it=some o) (hc:o.cls= .type n) (hd:o.data= .fields vs)
  (hn:["enumerate","zip","dict_itemiterator","dict_reverseitemiterator","odict_iterator","itertools.zip_longest","itertools.pairwise"].contains n=false) (hQ:Q () s):wpAny M A (letOwnedTupleGo tg (.ref it) u) Q E s:=by
 unfold letOwnedTupleGo
 cases tg<;>first
  | exact qaX hQ
  | (cases u<;>first
      | exact qaX hQ
      | (refine qaW (wpAny_load ho ?_)
         rw [hc,hd]
         show wpAny M A (if (["enumerate","zip","dict_itemiterator","dict_reverseitemiterator","odict_iterator","itertools.zip_longest","itertools.pairwise"].contains n && vs[0]? == some (rawInt _))=true then _ else _) Q E s
         rw [qa5 (by intro h;rw [hn,Bool.false_and] at h;cases h)]
         exact qaX hQ))
noncomputable def Itl (K:W.Frag) (a:Addr):It:=
 ⟨fun i H=> ∃ xs x,SqL K H a xs/\xs[i]? = some x,fun i H x H'=>H'=H/\ ∀ xs,SqL K H a xs->xs[i]? = some x,fun i H=> ∃ xs,SqL K H a xs/\xs.length<=i⟩
noncomputable def Itt (K:W.Frag) (a:Addr):It:=
 ⟨fun i H=> ∃ xs x,SqT K H a xs/\xs[i]? = some x,fun i H x H'=>H'=H/\ ∀ xs,SqT K H a xs->xs[i]? = some x,fun i H=> ∃ xs,SqT K H a xs/\xs.length<=i⟩
noncomputable def Itr (lo:Int) (n:Nat):It:=⟨fun i _=>i<n,fun i H x H'=>H'=H/\x= .int (lo+i),fun i _=>n<=i⟩
theorem zhQ.keep {A:Around} {H H':Hp} (x:zhQ A H) (k: ∀ b o u,H b=some (.frz o u)->H' b=some (.frz o u)):zhQ A H':=by
 rcases x with x | ⟨a,o,cls,head,vs,x1,x2,x3⟩
 ·exact .inl x
 ·exact .inr ⟨a,o,cls,head,vs,x1,k _ _ _ x2,x3⟩
theorem zhQ.at_ {A:Around} {P:Program} {w:World} {H:Hp} {h:Heap} (x:zhQ A H) (ok:HOk P w H h):L3.zk8 A h:=by
 rcases x with x | ⟨a,o,cls,head,vs,x1,x2,x3⟩
 ·exact .inl x
 ·exact .inr ⟨a,cls,head,x1,o,vs,(ok a _ x2).1,x3⟩
theorem Inv.handA {X:Cx} {pins:List (Addr×Obj)} {σ:St} {H:Hp} {s:Shared} (I:Inv X pins σ H s):zhQ X.A H:=I.ok.hx.keep I.base.frzs
theorem Inv.hand {X:Cx} {pins:List (Addr×Obj)} {σ:St} {H:Hp} {s:Shared} (I:Inv X pins σ H s):L3.zk8 X.A s.heap:=I.handA.at_ I.hok
theorem zlS {P:Program} {w:World} {K:W.Frag} {tg:Expr} (a it:Addr):zp1 P w K tg (Itl K a) [it] it (fun i h=>h.IsListIter it a i) where
 mem:=by simp
 obj:=fun i h st b hb=>by
  have e:b=it:=by simpa using hb
  subst e
  obtain ⟨o,e,c,d⟩:=st
  exact ⟨o,e,fun v z=>by rw [d] at z;cases z⟩
 keep:=fun i h h' st k=>st.at fun o e=>k it (by simp) o e
 item:=by
  intro X hP hw hK i pins s σ H E I hf st hg
  subst hP hw hK
  obtain ⟨xs,x,hq,hx⟩:=hg
  obtain ⟨its,rv,p,hz⟩:=I.list hq
  obtain ⟨u,hu,ru⟩:=rv.get hx
  obtain ⟨f0,f1,f2,f3,f4,f5⟩:=hf it (by simp)
  refine wpAny_pyNext_list_item st p.isList (x:=u) (by simpa using hu) fun h' st' sb=> ?_
  have I1:Inv X pins σ H {s with heap:=h'}:=I.turned (t':=s.toks) (fun b o hb e=>(sb.2 b hb).trans e) f0 f1 f3 f4 f5
  obtain ⟨o,e,c,d⟩:=id st'
  exact ⟨u,rfl,zoq (s:={s with heap:=h'}) e c d (by decide) ⟨x,H,I1,ru,⟨rfl,fun ys hy=>by rw [I.list_inj hy hq];exact hx⟩,st',fun b hb=>(hf b hb).1⟩⟩
 done:=by
  intro X hP hw hK i pins s σ H E I hf st hg
  subst hP hw hK
  obtain ⟨xs,hq,hx⟩:=hg
  obtain ⟨its,rv,p,hz⟩:=I.list hq
  obtain ⟨f0,f1,f2,f3,f4,f5⟩:=hf it (by simp)
  have hl:=rv.length
  exact L3.zjd I.hand st p.isList (by simp;omega) fun h' eb=>⟨rfl,I.turned (t':=s.toks) (fun b o hb e=>eb b o hb e) f0 f1 f3 f4 f5⟩
 self:=fun _ _ _ _ _ st h=>wpAny_pyIter_listiter st h
theorem zkv {P:Program} {w:World} {K:W.Frag} {tg:Expr} (a it:Addr):zp1 P w K tg (Itt K a) [it] it (fun i h=>h.IsTupleIter it a i) where
 mem:=by simp
 obj:=fun i h st b hb=>by
  have e:b=it:=by simpa using hb
  subst e
  obtain ⟨o,e,c,d⟩:=st
  exact ⟨o,e,fun v z=>by rw [d] at z;cases z⟩
 keep:=fun i h h' st k=>st.at fun o e=>k it (by simp) o e
 item:=by
  intro X hP hw hK i pins s σ H E I hf st hg
  subst hP hw hK
  obtain ⟨xs,x,hq,hx⟩:=hg
  obtain ⟨its,rv,p,hz⟩:=I.tuple hq
  obtain ⟨u,hu,ru⟩:=rv.get hx
  obtain ⟨f0,f1,f2,f3,f4,f5⟩:=hf it (by simp)
  refine wpAny_pyNext_tuple_item st (show s.heap.IsTuple a its.toArray from p) (x:=u) (by simpa using hu) fun h' st' sb=> ?_
  have I1:Inv X pins σ H {s with heap:=h'}:=I.turned (t':=s.toks) (fun b o hb e=>(sb.2 b hb).trans e) f0 f1 f3 f4 f5
  obtain ⟨o,e,c,d⟩:=id st'
  exact ⟨u,rfl,zoq (s:={s with heap:=h'}) e c d (by decide) ⟨x,H,I1,ru,⟨rfl,fun ys hy=>by rw [I.tuple_inj hy hq];exact hx⟩,st',fun b hb=>(hf b hb).1⟩⟩
 done:=by
  intro X hP hw hK i pins s σ H E I hf st hg
  subst hP hw hK
  obtain ⟨xs,hq,hx⟩:=hg
  obtain ⟨its,rv,p,hz⟩:=I.tuple hq
  obtain ⟨f0,f1,f2,f3,f4,f5⟩:=hf it (by simp)
  have hl:=rv.length
  exact L3.zmn I.hand st (show s.heap.IsTuple a its.toArray from p) (by simp;omega) fun h' eb=>⟨rfl,I.turned (t':=s.toks) (fun b o hb e=>eb b o hb e) f0 f1 f3 f4 f5⟩
 self:=fun _ _ _ _ _ st h=>wpAny_pyIter_tupleiter st h
theorem zjX {P:Program} {w:World} {K:W.Frag} {tg:Expr} (it:Addr) (lo:Int) (n:Nat):zp1 P w K tg (Itr lo n) [it] it (fun i h=>IsRangeIter h it (lo+(i:Nat)*1) ((n:Int) - (i:Nat)) 1) where
 mem:=by simp
 obj:=fun i h st b hb=>by
  have e:b=it:=by simpa using hb
  subst e
  exact ⟨_,st,fun v z=>by
    have z':Data.fields _=Data.cell v:=z
    cases z'⟩
 keep:=fun i h h' st k=>k it (by simp) _ st
 item:=by
  intro X hP hw hK i pins s σ H E I hf st hg
  subst hP hw hK
  obtain ⟨f0,f1,f2,f3,f4,f5⟩:=hf it (by simp)
  refine wpAny_pyNext_range_item st (by have:i<n:=hg;omega) fun h' st' kk=> ?_
  have e1:lo+(i:Nat)*1+1=lo+((i+1:Nat):Int)*1:=by omega
  have e2:(n:Int) - (i:Nat) - 1=(n:Int) - ((i+1:Nat):Int):=by omega
  rw [e1,e2] at st'
  have I1:Inv X pins σ H {s with heap:=h',toks:=s.toks+1}:=I.turned (fun b o hb e=>(kk.2 b hb).trans e) f0 f1 f3 f4 f5
  refine ⟨_,rfl,zoq (s:={s with heap:=h',toks:=s.toks+1}) (n:="range_iterator") st' rfl rfl (by decide) ⟨.int (lo+i),H,I1,⟨s.toks,?_⟩,⟨rfl,rfl⟩,st',fun b hb=>(hf b hb).1⟩⟩
  rw [Int.mul_one]
 done:=by
  intro X hP hw hK i pins s σ H E I hf st hg
  subst hP hw hK
  obtain ⟨f0,f1,f2,f3,f4,f5⟩:=hf it (by simp)
  exact L3.zho I.hand st (by have:n<=i:=hg;omega) fun h' eb=>⟨rfl,I.turned (t':=s.toks) (fun b o hb e=>eb b o hb e) f0 f1 f3 f4 f5⟩
 self:=fun _ _ _ _ _ st h=>wpAny_pyIter_rangeiter st h
section
variable {X:Cx} {tg:Expr}
theorem zjc {pins:List (Addr×Obj)} {σ:St} {H:Hp} {s:Shared} {R:It->Hp->Prop} {E:Value->Shared->Prop} {lo hi:Int} {t u v:Tok} {tk:Nat} (I:Inv X pins σ H s) (h1: -(2^62)<=lo) (h2:lo<2^62) (h3: -(2^62)<=hi) (h4:hi<2^62)
  (q:R (Itr lo (hi - lo).toNat) H):wpAny (model X.prog X.w) X.A (pyIter (.ref s.heap.objs.size)) (PIE X pins σ tg R) E {s with heap:=s.heap.push {cls:= .type "range",data:= .fields #[.int lo t,.int hi u,.int 1 v]},toks:=tk}:=by
 refine wpAny_pyIter_range (IsRange.new ..) (small_one h1 h2 h3 h4) ?_
 have I1:Inv X pins σ H {s with heap:=s.heap.push {cls:= .type "range",data:= .fields #[.int lo t,.int hi u,.int 1 v]},toks:=tk}:=I.kept fun b o e=>qag _ e
 refine ⟨(s.heap.push {cls:= .type "range",data:= .fields #[.int lo t,.int hi u,.int 1 v]}).objs.size,[(s.heap.push {cls:= .type "range",data:= .fields #[.int lo t,.int hi u,.int 1 v]}).objs.size],_,_,H,rfl,
   I1.kept (t':=tk) fun b o e=>qag _ e,zjX _ lo (hi - lo).toNat,?_,fun b hb=> ?_,q⟩
 ·have e1:lo+((0:Nat):Int)*1=lo:=by simp
  have e2:(((hi - lo).toNat:Nat):Int) - ((0:Nat):Int)=Builtin.Range.rangeSize lo hi 1:=by rw [rangeSize_one];split<;>omega
  show IsRangeIter _ _ (lo+((0:Nat):Int)*1) ((((hi - lo).toNat:Nat):Int) - ((0:Nat):Int)) 1
  rw [e1,e2]
  exact qar _ rfl
 ·have e:b=(s.heap.push {cls:= .type "range",data:= .fields #[.int lo t,.int hi u,.int 1 v]}).objs.size:=by simpa using hb
  subst e
  exact I1.fpOk (qaV _) (I1.hok.fresh (qaV _))
noncomputable def zu0 (ta:TA):TI:=fun σ H R=>ta σ H fun vs H1=> ∃ j:Int,vs=[.int j]/\ -(2^62)<=j/\j<2^62/\R (Itr 0 j.toNat) H1
noncomputable def ztq (ta:TA):TI:=fun σ H R=>ta σ H fun vs H1=> ∃ i j:Int,vs=[.int i,.int j]/\(-(2^62)<=i/\i<2^62/\ -(2^62)<=j/\j<2^62)/\R (Itr i (j - i).toNat) H1
theorem zmO {a:Expr} {ta:TA} {p pos:Pos} (hg:Gl X "range") (hm:X.mg "range"=none) (ha:PA X [a] ta) (hs:starEach [a] X.env=[(false,eval a X.env)]:=by rfl):PI X tg (.Call (.Name "range" p) [a] [] pos) (zu0 ta):=by
 intro pins s σ H R I h
 refine Call_ (ze8 I hg hm boot_range (PyProof.Rows.callWith_type1 (thn (ha pos pins s σ H _ I h) fun us s1 ⟨vs,H1,I1,r1,q1⟩=> ?_) hs rfl))
 obtain ⟨j,e,q1,q2,q⟩:=q1
 subst e
 cases r1 with
 | cons r rr=>
  cases rr
  obtain ⟨t,rfl⟩:=r
  exact call_range_1 (zjc I1 (by omega) (by omega) q1 q2 (by simpa using q))
theorem zlR {a b:Expr} {ta:TA} {p pos:Pos} (hg:Gl X "range") (hm:X.mg "range"=none) (ha:PA X [a,b] ta) (hs:starEach [a,b] X.env=[(false,eval a X.env),(false,eval b X.env)]:=by rfl) (hs2:starEach [b] X.env=[(false,eval b X.env)]:=by rfl):
  PI X tg (.Call (.Name "range" p) [a,b] [] pos) (ztq ta):=by
 intro pins s σ H R I h
 refine Call_ (ze8 I hg hm boot_range (PyProof.Rows.callWith_type1 (thn (ha pos pins s σ H _ I h) fun us s1 ⟨vs,H1,I1,r1,q1⟩=> ?_) (by rw [hs,hs2]) (by rw [hs2];rfl)))
 obtain ⟨i,j,e,⟨q1,q2,q3,q4⟩,q⟩:=q1
 subst e
 cases r1 with
 | cons r rr=>
  cases rr with
  | cons r' rr=>
   cases rr
   obtain ⟨t,rfl⟩:=r
   obtain ⟨t',rfl⟩:=r'
   exact call_range_2 (zjc I1 q1 q2 q3 q4 q)
noncomputable def zwB (wi:TI) (g:TG) (tb:TS):TS:=fun D σ H=>wi σ H fun J H1=> ∃ W:Nat->Nat->St->Hp->Prop,(∃ m,W 0 m σ H1)/\ ∀ i m σ H,W i m σ H->
 (J.stop i H/\D.nx σ H)\/(J.go i H/\ ∃ N:St->Hp->Prop,(∀ σ' H',N σ' H'-> ∃ m',m'<m/\W (i+1) m' σ' H')/\ ∀ x H',J.yld i H x H'->g x σ H' fun σ2 H2=>tb {D with nx:=N,ct:=N,bk:=D.nx} σ2 H2)
noncomputable def zhB (fp:List Addr) (h:Heap):List (Addr×Obj):=fp.filterMap fun b=>(h.get? b).map fun o=>(b,o)
theorem zdD {fp:List Addr} {h:Heap} {b:Addr} {o:Obj} (hb:b∈fp) (e:h.get? b=some o):(b,o)∈zhB fp h:=List.mem_filterMap.mpr ⟨b,hb,by rw [e];rfl⟩
theorem zlO {fp:List Addr} {h:Heap} {p:Addr×Obj} (hp:p∈zhB fp h):p.1∈fp/\h.get? p.1=some p.2:=by
 obtain ⟨b,hb,e⟩:=List.mem_filterMap.mp hp
 cases q:h.get? b with
 | none=>rw [q] at e;cases e
 | some o=>
  rw [q] at e
  have e':(b,o)=p:=Option.some.inj e
  subst e'
  exact ⟨hb,q⟩
theorem Inv.pinned {pins:List (Addr×Obj)} {σ:St} {H:Hp} {s:Shared} {fp:List Addr} (I:Inv X pins σ H s) (hf: ∀ b∈fp,zjM X pins H b) (ho: ∀ b∈fp, ∃ o,s.heap.get? b=some o/\ ∀ v,o.data≠ .cell v):Inv X (pins++zhB fp s.heap) σ H s:=
 I.pins_of fun p hp=>(qaK.mp hp).elim (fun z=>I.pin p (qak _ z)) fun z=>by
  obtain ⟨hb,e⟩:=zlO z
  obtain ⟨f0,f1,f2,_⟩:=hf p.1 hb
  obtain ⟨o,e',d⟩:=ho p.1 hb
  rw [e] at e';cases e'
  exact ⟨e,f0,f1,f2,d⟩
theorem Inv.unpinned {pins pl:List (Addr×Obj)} {σ:St} {H:Hp} {s:Shared} (I:Inv X (pins++pl) σ H s):Inv X pins σ H s:=I.pins_of fun p hp=>I.pin p (qak _ (List.mem_append_left _ hp))
theorem zrF {iter:Expr} {body:List Stmt} {wi:TI} {g:TG} {tb:TS} {pos:Pos} (hp:PassesOwn (model X.prog X.w) X.A X.env X.xe) (hc:X.calm=true) (hi:PI X tg iter wi) (hg:PG X tg g) (hb:PSs X body tb)
  (hs: ∀ x,foldedSetIterable iter X.env x=pure x:=by intro _;rfl):PS X (.For tg iter body [] pos) (zwB wi g tb):=by
 intro pins s σ H D I h
 refine wpAny_For (thn (hi pins s σ H _ I h) fun v s1 h1=>thn h1 fun itv s2 h2=> ?_) hs
 obtain ⟨it,fp,tn,J,H2,e,I2,T,st2,f2,W,⟨m0,w0⟩,turn⟩:=h2
 subst e
 have stat: ∀ {H':Hp},(∀ b∈fp,H' b=none)-> ∀ b∈fp,zjM X pins H' b:=fun hn b hb=>⟨hn b hb,(f2 b hb).2⟩
 refine codeAny_forLoop_any (fun n s'=> ∃ i σ' H',Inv X pins σ' H' s'/\tn i s'.heap/\(∀ b∈fp,H' b=none)/\W i n σ' H') ?_ m0 ⟨0,σ,H2,I2,st2,fun b hb=>(f2 b hb).1,w0⟩
 rintro n s3 ⟨i,σ3,H3,I3,st3,fr3,w3⟩
 rcases turn i n σ3 H3 w3 with ⟨stop,qn⟩ | ⟨go,N,hN,step⟩
 ·refine wpAny_passesOwn hp (thn (T.done X rfl rfl rfl i pins s3 σ3 H3 X.xe I3 (stat fr3) st3 stop) fun r s4 ⟨hr,I4⟩=> ?_)
  subst hr
  exact wpAny_execs_nil ⟨σ3,H3,I4,qn⟩
 ·refine wpAny_passesOwn hp (thn (T.item X rfl rfl rfl i pins s3 σ3 H3 X.xe I3 (stat fr3) st3 go) fun r s4 ⟨u,hr,h4⟩=> ?_)
  subst hr
  refine wpAny_passesOwn hp (thn h4 fun _ s5 ⟨x,H5,I5,r5,y5,st5,fr5⟩=> ?_)
  have I5':=I5.pinned (stat fr5) (T.obj _ _ st5)
  refine wpAny_passesOwn hp (thn (hg _ s5 σ3 H5 x u _ I5' r5 (step x H5 y5)) fun _ s6 ⟨σ6,H6,I6,q6⟩=> ?_)
  refine wpAny_passesOwn hp (thn (hb _ s6 σ6 H6 _ I6 q6) fun f s7 q7=> ?_)
  have again: ∀ {σ7:St} {H7:Hp},Inv X (pins++zhB fp s5.heap) σ7 H7 s7->N σ7 H7-> ∃ m,m<n/\ ∃ i σ' H',Inv X pins σ' H' s7/\tn i s7.heap/\(∀ b∈fp,H' b=none)/\W i m σ' H':=fun {σ7 H7} I7 n7=>by
   obtain ⟨m',hm,w7⟩:=hN σ7 H7 n7
   refine ⟨m',hm,i+1,σ7,H7,I7.unpinned,T.keep _ _ _ st5 fun b hb o e=>(I7.pin (b,o) (qak _ (qak _ (zdD hb e)))).1,fun b hb=> ?_,w7⟩
   obtain ⟨o,e,d⟩:=T.obj _ _ st5 b hb
   exact (I7.pin (b,o) (qak _ (qak _ (zdD hb e)))).2.1
  cases f with
  | next=>obtain ⟨σ7,H7,I7,n7⟩:=q7;exact again I7 n7
  | cont=>obtain ⟨σ7,H7,I7,n7⟩:=q7;exact again I7 n7
  | brk=>obtain ⟨σ7,H7,I7,q7⟩:=q7;exact ⟨σ7,H7,I7.unpinned,q7⟩
  | ret v=>obtain ⟨x7,σ7,H7,I7,r7,q7⟩:=q7;exact ⟨x7,σ7,H7,I7.unpinned,r7,q7⟩
end
noncomputable abbrev R2:=V->V->Hp->VK->Prop
def OpR (X:Cx) (f:Value->Value->Sem Value) (r:R2):Prop:=
 ∀ (pins:List (Addr×Obj)) (s:Shared) (σ:St) (H:Hp) (x y:V) (v u:Value) (Q:VK),Inv X pins σ H s->zb4 x v->zb4 y u->r x y H Q->
  wpAny (model X.prog X.w) X.A (f v u) (EP X pins σ Q) X.xe s
def UnR (X:Cx) (f:Value->Sem Value) (r:V->Hp->VK->Prop):Prop:=
 ∀ (pins:List (Addr×Obj)) (s:Shared) (σ:St) (H:Hp) (x:V) (v:Value) (Q:VK),Inv X pins σ H s->zb4 x v->r x H Q->
  wpAny (model X.prog X.w) X.A (f v) (EP X pins σ Q) X.xe s
def zaV (X:Cx) (f:Value) (r:List V->Hp->VK->Prop):Prop:=
 ∀ (pins:List (Addr×Obj)) (s:Shared) (σ:St) (H:Hp) (xs:List V) (us:List Value) (Q:VK),Inv X pins σ H s->zba xs us->r xs H Q->
  wpAny (model X.prog X.w) X.A (call f us) (EP X pins σ Q) X.xe s
noncomputable def tOp (r:R2) (ta tb:TE):TE:=fun σ H Q=>ta σ H fun x H1=>tb σ H1 fun y H2=>r x y H2 Q
noncomputable def tUn (r:V->Hp->VK->Prop) (ta:TE):TE:=fun σ H Q=>ta σ H fun x H1=>r x H1 Q
noncomputable def rI (C:Int->Int->Prop) (g:Int->Int->V):R2:=fun x y H Q=> ∃ i j,x= .int i/\y= .int j/\C i j/\Q (g i j) H
noncomputable def rI0 (g:Int->Int->V):R2:=fun x y H Q=> ∃ i j,x= .int i/\y= .int j/\Q (g i j) H
noncomputable def rU (g:Int->V):V->Hp->VK->Prop:=fun x H Q=> ∃ i,x= .int i/\Q (g i) H
section
variable {X:Cx} {a b c:Expr} {ta tb tc:TE} {pos:Pos}
theorem zuY (ha:PE X a ta) (hb:PE X b tb) {pins:List (Addr×Obj)} {s:Shared} {σ:St} {H:Hp} {R:V->V->Hp->Prop} (I:Inv X pins σ H s)
  (h:ta σ H fun x H1=>tb σ H1 fun y H2=>R x y H2) {Q:Value->Shared->Prop} {f:Value->Value->Sem Value}
  (hf: ∀ v u s2 x y H2,Inv X pins σ H2 s2->zb4 x v->zb4 y u->R x y H2->wpAny (model X.prog X.w) X.A (f v u) Q X.xe s2):
  wpAny (model X.prog X.w) X.A (eval a X.env) (fun v s₁=>wpAny (model X.prog X.w) X.A (eval b X.env) (fun u s₂=>wpAny (model X.prog X.w) X.A (f v u) Q X.xe s₂) X.xe s₁) X.xe s:=by
 refine thn (ha pins s σ H _ I h) fun v s1 ⟨x,H1,I1,r1,q1⟩=> ?_
 refine thn (hb pins s1 σ H1 _ I1 q1) fun u s2 ⟨y,H2,I2,r2,q2⟩=> ?_
 exact hf v u s2 x y H2 I2 r1 r2 q2
theorem zuE {op:Operator} {r:R2} (ho:OpR X (binaryOp op) r) (ha:PE X a ta) (hb:PE X b tb):PE X (.BinOp a op b pos) (tOp r ta tb):=by
 intro pins s σ H Q I h
 exact wpAny_BinOp (zuY ha hb I h fun v u s2 x y H2 I2 rx ry q=>ho pins s2 σ H2 x y v u Q I2 rx ry q)
theorem zuK {op:UnaryOp} {r:V->Hp->VK->Prop} (ho:UnR X (unaryOp op) r) (ha:PE X a ta):PE X (.UnaryOp op a pos) (tUn r ta):=by
 intro pins s σ H Q I h
 exact UnaryOp_ (thn (ha pins s σ H _ I h) fun v s1 ⟨x,H1,I1,r1,q1⟩=>ho pins s1 σ H1 x v Q I1 r1 q1)
theorem opI {f:Value->Value->Sem Value} {C:Int->Int->Prop} {g:Int->Int->Int}
  (rule: ∀ (i j:Int) (t u:Tok) (s:Shared) (Q:Value->Shared->Prop) (E:Value->Shared->Prop),C i j->Q (.int (g i j) s.toks) {s with toks:=s.toks+1}->wpAny (model X.prog X.w) X.A (f (.int i t) (.int j u)) Q E s):
  OpR X f (rI C fun i j=> .int (g i j)):=by
 intro pins s σ H x y v u Q I rx ry h
 obtain ⟨i,j,rfl,rfl,hc,q⟩:=h
 obtain ⟨t,rfl⟩:=rx
 obtain ⟨t',rfl⟩:=ry
 exact rule i j t t' s _ _ hc ⟨.int (g i j),H,I.tok _,⟨_,rfl⟩,q⟩
theorem zuh {f:Value->Value->Sem Value} {g:Int->Int->Int}
  (rule: ∀ (i j:Int) (t u:Tok) (s:Shared) (Q:Value->Shared->Prop) (E:Value->Shared->Prop),Q (.int (g i j) s.toks) {s with toks:=s.toks+1}->wpAny (model X.prog X.w) X.A (f (.int i t) (.int j u)) Q E s):
  OpR X f (rI0 fun i j=> .int (g i j)):=by
 intro pins s σ H x y v u Q I rx ry h
 obtain ⟨i,j,rfl,rfl,q⟩:=h
 obtain ⟨t,rfl⟩:=rx
 obtain ⟨t',rfl⟩:=ry
 exact rule i j t t' s _ _ ⟨.int (g i j),H,I.tok _,⟨_,rfl⟩,q⟩
theorem zu2 {f:Value->Value->Sem Value} {g:Int->Int->Bool}
  (rule: ∀ (i j:Int) (t u:Tok) (s:Shared) (Q:Value->Shared->Prop) (E:Value->Shared->Prop),Q (.bool (g i j)) s->wpAny (model X.prog X.w) X.A (f (.int i t) (.int j u)) Q E s):
  OpR X f (rI0 fun i j=> .bl (g i j)):=by
 intro pins s σ H x y v u Q I rx ry h
 obtain ⟨i,j,rfl,rfl,q⟩:=h
 obtain ⟨t,rfl⟩:=rx
 obtain ⟨t',rfl⟩:=ry
 exact rule i j t t' s _ _ ⟨.bl (g i j),H,I,rfl,q⟩
def zt8 (i j:Int):Prop:=0<=j/\j<=1000000/\i.natAbs<2^64
def zup (i j:Int):Prop:=(-(2^64)<i/\i<2^64)\/(-(2^64)<j/\j<2^64)
theorem zup.ok {i j:Int} (h:zup i j):IntMulOk i j:=by
 rcases h with ⟨h1,h2⟩ | ⟨h1,h2⟩
 ·exact .of_left (intBits_le_64 h1 h2)
 ·exact .of_right (intBits_le_64 h1 h2)
theorem two_pow_nn (k:Nat):(0:Int)<=2^k:=by
 rw [two_pow_cast]
 exact Int.natCast_nonneg _
theorem ztf:OpR X (binaryOp .Add) (rI0 fun i j=> .int (i+j)):=zuh fun _ _ _ _ _ _ _ q=>add_int q
theorem zsP:OpR X (binaryOp .Sub) (rI0 fun i j=> .int (i - j)):=zuh fun _ _ _ _ _ _ _ q=>sub_int q
theorem zsS:OpR X (binaryOp .Mult) (rI zup fun i j=> .int (i*j)):=opI fun _ _ _ _ _ _ _ hc q=>mul_int q hc.ok
theorem zsB:OpR X (binaryOp .Mod) (rI (fun _ j=>0<j) fun i j=> .int (i % j)):=opI fun i j _ _ _ _ _ hc q=>by
 have h1:(0:Int)<j:=hc
 exact mod_int' (by omega) (by rw [Int.fmod_eq_emod_of_nonneg i (by omega)];exact q)
theorem zrN:OpR X (binaryOp .Pow) (rI zt8 fun i j=> .int (i^j.toNat)):=opI fun _ _ _ _ _ _ _ hc q=>pow_int_small hc.1 hc.2.1 hc.2.2 q
theorem zr4:OpR X (binaryOp .LShift) (rI zt8 fun i j=> .int (i*2^j.toNat)):=opI fun _ _ _ _ _ _ _ hc q=>lshift_int_small hc.1 hc.2.1 hc.2.2 q
theorem ztd:OpR X (binaryOp .RShift) (rI (fun _ j=>0<=j) fun i j=> .int (i / 2^j.toNat)):=opI fun i j _ _ _ _ _ hc q=>
 rshift_int hc (by rw [Int.fdiv_eq_ediv_of_nonneg i (two_pow_nn _)];exact q)
theorem ztk:OpR X (binaryOp .BitAnd) (rI0 fun i j=> .int (Builtin.bitAnd i j)):=zuh fun _ _ _ _ _ _ _ q=>and_int q
theorem zvN:OpR X (binaryOp .BitOr) (rI0 fun i j=> .int (Builtin.bitOr i j)):=zuh fun _ _ _ _ _ _ _ q=>or_int q
theorem unI {f:Value->Sem Value} {g:Int->Int}
  (rule: ∀ (i:Int) (t:Tok) (s:Shared) (Q:Value->Shared->Prop) (E:Value->Shared->Prop),Q (.int (g i) s.toks) {s with toks:=s.toks+1}->wpAny (model X.prog X.w) X.A (f (.int i t)) Q E s):
  UnR X f (rU fun i=> .int (g i)):=by
 intro pins s σ H x v Q I rx h
 obtain ⟨i,rfl,q⟩:=h
 obtain ⟨t,rfl⟩:=rx
 exact rule i t s _ _ ⟨.int (g i),H,I.tok _,⟨_,rfl⟩,q⟩
theorem zsl:UnR X (unaryOp .USub) (rU fun i=> .int (-i)):=unI fun _ _ _ _ _ q=>neg_int q
end
section
variable {X:Cx} {a b c:Expr} {ta tb tc:TE} {pos:Pos}
theorem zfm {pins:List (Addr×Obj)} {σ:St} {H:Hp} {s:Shared} {Q:VK} {k k':Bool} (I:Inv X pins σ H s) (q:Q (.bl k) H) (e:k=k'):EP X pins σ Q (.bool k') s:=by
 subst e
 exact ⟨.bl k,H,I,rfl,q⟩
theorem zvf:OpR X (compareOp .Lt) (rI0 fun i j=> .bl (decide (i<j))):=zu2 fun _ _ _ _ _ _ _ q=>lt_int q
theorem zvy:OpR X (compareOp .Gt) (rI0 fun i j=> .bl (decide (j<i))):=zu2 fun _ _ _ _ _ _ _ q=>gt_int q
theorem zu6:OpR X (compareOp .GtE) (rI0 fun i j=> .bl (decide (j<=i))):=zu2 fun _ _ _ _ _ _ _ q=>ge_int q
theorem zoS:OpR X (compareOp .Is) (fun x y H Q=>y= .non/\Q (.bl (decide (x= .non))) H):=by
 intro pins s σ H x y v u Q I rx ry h
 obtain ⟨rfl,q⟩:=h
 cases ry
 refine is_none_gen (zfm I q ?_)
 cases x<;>first
  | (cases rx;rfl)
  | (obtain ⟨t,rfl⟩:=rx;rfl)
theorem OpR.or {f:Value->Value->Sem Value} {r r':R2} (h:OpR X f r) (h':OpR X f r'):OpR X f (fun x y H Q=>r x y H Q\/r' x y H Q):=by
 intro pins s σ H x y v u Q I rx ry q
 rcases q with q | q
 ·exact h pins s σ H x y v u Q I rx ry q
 ·exact h' pins s σ H x y v u Q I rx ry q
theorem zqx {op:CmpOp} {r:R2} (ho:OpR X (compareOp op) r) (ha:PE X a ta) (hb:PE X b tb) (hm:behindInMarks op b=false):PE X (.Compare a [op] [b] pos) (tOp r ta tb):=by
 intro pins s σ H Q I h
 exact wpAny_Compare1 (zuY ha hb I h fun v u s2 x y H2 I2 rx ry q=>ho pins s2 σ H2 x y v u Q I2 rx ry q) hm
noncomputable def zuZ (t:TE):TT:=fun σ H Q=>t σ H fun x H'=> ∃ k,x= .bl k/\Q k H'
theorem zrb {op:CmpOp} {r:R2} (ho:OpR X (compareOp op) r) (ha:PE X a ta) (hb:PE X b tb) (hm:behindInMarks op b=false):PT X (.Compare a [op] [b] pos) (zuZ (tOp r ta tb)):=by
 intro pins s σ H Q I h
 refine wpAny_isTrue_Compare1 (thn (ha pins s σ H _ I h) fun v s1 ⟨x,H1,I1,r1,q1⟩=>thn (hb pins s1 σ H1 _ I1 q1) fun u s2 ⟨y,H2,I2,r2,q2⟩=>
   thn (ho pins s2 σ H2 x y v u _ I2 r1 r2 q2) fun c s3 ⟨z,H3,I3,r3,k,e,q3⟩=> ?_) hm
 subst e
 cases r3
 exact wpAny_truthy_bool ⟨H3,I3,q3⟩
theorem zjr:(sizeLine:Nat)<2^63:=by rw [sizeLine_eq];decide
theorem zj3:OpR X (binaryOp .Add) (fun x y H Q=> ∃ i j,x= .str i/\y= .str j/\i.length+j.length<=sizeLine/\Q (.str (i++j)) H):=by
 intro pins s σ H x y v u Q I rx ry h
 obtain ⟨i,j,rfl,rfl,hz,q⟩:=h
 obtain ⟨t,rfl⟩:=rx
 obtain ⟨t',rfl⟩:=ry
 exact add_str (fun t' tk=>⟨.str (i++j),H,I.tok _,⟨_,rfl⟩,q⟩) hz
theorem zeP {x:V} {us:List Value} (r:zba [x] us): ∃ u,us=[u]/\zb4 x u:=by
 cases r with
 | cons r1 r2=>cases r2;exact ⟨_,rfl,r1⟩
theorem zqm {x y:V} {us:List Value} (r:zba [x,y] us): ∃ u w',us=[u,w']/\zb4 x u/\zb4 y w':=by
 cases r with
 | cons r1 r2=>
  cases r2 with
  | cons r3 r4=>cases r4;exact ⟨_,_,rfl,r1,r3⟩
theorem zkM (hc:X.calm=true):zaV X (.builtin "max") (fun xs H Q=> ∃ i j,xs=[.int i,.int j]/\Q (.int (if j>i then j else i)) H):=by
 intro pins s σ H xs us Q I r h
 obtain ⟨i,j,rfl,q⟩:=h
 obtain ⟨u,w',rfl,⟨t,rfl⟩,⟨t',rfl⟩⟩:=zqm r
 refine max_two_ints (I.ok.hd hc) fun h' tk k=>⟨_,H,I.kept k,?_,q⟩
 by_cases hj:j>i
 ·rw [qa4 hj,qa4 hj];exact ⟨_,rfl⟩
 ·rw [qa5 hj,qa5 hj];exact ⟨_,rfl⟩
theorem zlx (hc:X.calm=true):zaV X (.builtin "min") (fun xs H Q=> ∃ i j,xs=[.int i,.int j]/\Q (.int (if j<i then j else i)) H):=by
 intro pins s σ H xs us Q I r h
 obtain ⟨i,j,rfl,q⟩:=h
 obtain ⟨u,w',rfl,⟨t,rfl⟩,⟨t',rfl⟩⟩:=zqm r
 refine min_two_ints (I.ok.hd hc) fun h' tk k=>⟨_,H,I.kept k,?_,q⟩
 by_cases hj:j<i
 ·rw [qa4 hj,qa4 hj];exact ⟨_,rfl⟩
 ·rw [qa5 hj,qa5 hj];exact ⟨_,rfl⟩
end
structure zvn (h:Heap) (x dx C:Addr) (mA:Str->Option Value):Prop where
 obj:h.get? x=some (W.instObj C dx)
 ns:h.Ns1 dx mA
 ne:dx≠x
theorem zk4 {h:Heap} {dx:Addr} {mA:Str->Option Value} (n:h.Ns1 dx mA): ∃ od,h.get? dx=some od/\ ∀ name,W.lookIn name od=some (mA name):=by
 obtain ⟨o,es,ep,ho,hd,hk,_,hm⟩:=n
 refine ⟨o,ho,fun name=> ?_⟩
 have e:=hm name
 unfold nsFind findBy at e
 rw [<- Array.find?_toList] at e
 unfold W.lookIn
 rw [hd]
 dsimp only
 split
 ·rename_i y q
  rw [q] at e
  exact congrArg some e
 ·rename_i q
  rw [q] at e
  have a:es.toList.any (·.refKey)=false:=by
   rw [List.any_eq_false]
   intro y hy
   obtain ⟨z,t,hkey⟩:=hk y (Array.mem_toList_iff.mp hy)
   simp [DictEntry.refKey,hkey]
  have a': ¬es.toList.any (·.refKey)=true:=by rw [a];exact Bool.false_ne_true
  rw [qa5 a']
  exact congrArg some e
theorem zvn.look {h:Heap} {x dx C:Addr} {mA:Str->Option Value} (I:zvn h x dx C mA): ∃ od,W.InstAt h x (W.instObj C dx) C (some od)/\ ∀ name,W.lookIn name od=some (mA name):=
 let ⟨od,ho,hl⟩:=zk4 I.ns
 ⟨od,⟨I.obj,rfl,rfl,ho⟩,hl⟩
section
variable {prog:Program} {w:World} {A:Around} {E:Value->Shared->Prop} {s:Shared} {K:W.Frag} {x dx C f:Addr} {mA:Str->Option Value} {name:Str} {v:Value}
end
section
variable {P:Program} {w:World} {H H':Hp} {h h':Heap} {a C dx:Addr} {fs fs':List (Str×V)}
theorem zrm (hok:HOk P w H h) (e:H a=some (.ins C dx fs)): ∃ mA,zvn h a dx C mA/\(∀ f,zvB (fs.lookup f) (mA f))/\PySem.Within mA (fs.map (·.1))/\fs.length<=1000/\H dx=some (.own a):=by
 obtain ⟨d,z,ne,ob,mA,n,r,q⟩:=(show zbV P w H h a (.ins C dx fs) from hok a _ e)
 exact ⟨mA,⟨ob,n,ne⟩,r,q,z,d⟩
end
structure Cls (K:W.Frag) (C:Addr):Prop where
 pg:W.plainGet K C Str.empty=true
 hd:W.hasDictIn K C=true
 po:W.plainOver K C=true
 sa:W.findIn K (.ref C) "__setattr__"=some (some (.builtin "object.__setattr__"))
theorem Cls.get {K:W.Frag} {C:Addr} (c:Cls K C) (f:Str):W.plainGet K C f=true:=c.pg
structure Con (K:W.Frag) (C:Addr) (f:Str) (v:V) (u:Value):Prop where
 at_:W.findIn K (.ref C) f=some (some u)
 rel:zb4 v u
 get:W.specialIn K u "__get__"=some none
 cp:W.copiedNames.contains f=false
structure zwP (K:W.Frag) (C:Addr) (m:Str) (f:Addr):Prop where
 at_:W.findIn K (.ref C) m=some (some (.ref f))
 fn:W.isFn K (.ref f)=true
 kp:W.keepIn K (.ref f)=true
section
variable {X:Cx} {pins:List (Addr×Obj)} {σ:St} {H:Hp} {s:Shared} {a C dx:Addr} {fs:List (Str×V)} {f:Str} {v:V} {A:Around} {E:Value->Shared->Prop}
theorem Inv.made (I:Inv X pins σ H s):Inv X pins σ (upd (upd H s.heap.objs.size (.own (s.heap.objs.size+1))) (s.heap.objs.size+1) (.ins C s.heap.objs.size []))
  {s with heap:=(s.heap.push W.emptyDict).push (W.instObj C s.heap.objs.size)}:=by
 have e1:(s.heap.push W.emptyDict).get? s.heap.objs.size=some W.emptyDict:=qar s.heap rfl
 have e2:((s.heap.push W.emptyDict).push (W.instObj C s.heap.objs.size)).get? (s.heap.objs.size+1)=some (W.instObj C s.heap.objs.size):=by
  have:=qar (s.heap.push W.emptyDict) (o:=W.instObj C s.heap.objs.size) rfl
  rwa [qaL] at this
 have e3:(s.heap.push W.emptyDict).Ns s.heap.objs.size (fun _=>none):=⟨W.emptyDict, #[],_,e1,rfl,(fun e he=>absurd he (by simp)),fun _=>rfl⟩
 have I1:=I.laid (a:=s.heap.objs.size) (o:= .own (s.heap.objs.size+1)) (h':=s.heap.push W.emptyDict) (t':=s.toks) (fun b u q=>qag _ q) (qaV _) ⟨_,e1⟩
 refine I1.laid (a:=s.heap.objs.size+1) (o:= .ins C s.heap.objs.size []) (t':=s.toks) (fun b u q=>qag _ q) (Nat.le_of_eq (qaL _ _)) ?_
 have ne:s.heap.objs.size≠s.heap.objs.size+1:=qaR (Nat.lt_succ_self _)
 refine ⟨by rw [zaH ne,zbd],Nat.zero_le _,ne,e2,fun _=>none,(Heap.Ns1.of_empty e3).at fun o q=>qag _ q,fun _=>True.intro,fun y hy=>absurd rfl hy⟩
end
section
variable {X:Cx} {o e value:Expr} {f:Str} {pos pos' tpos:Pos} {ta tv:TE}
end
section
variable {X:Cx} {pins:List (Addr×Obj)} {σ:St} {H:Hp} {s:Shared} {A:Around} {E:Value->Shared->Prop} {Q:Value->Shared->Prop} {c:Value} {b:Bool}
inductive zjk (K:W.Frag) (H:Hp):V->Value->Prop where
 | non:zjk K H .non (.type "NoneType")
 | bl (x:Bool):zjk K H (.bl x) (.type "bool")
 | int (i:Int):zjk K H (.int i) (.type "int")
 | str (x:Str):zjk K H (.str x) (.type "str")
 | flt (x:UInt64):zjk K H (.flt x) (.type "float")
 | lst {a:Addr} {xs:List V} (e:H a=some (.lst xs)):zjk K H (.ref a) (.type "list")
 | frz {a:Addr} {o:Obj} {xs:List V} (e:H a=some (.frz o (.lst xs))):zjk K H (.ref a) (.type "list")
 | tup {a:Addr} {xs:List V} (e:H a=some (.tup xs)):zjk K H (.ref a) (.type "tuple")
 | dK {a:Addr} {kvs:List (Key×V)} (e:H a=some (.dK kvs)):zjk K H (.ref a) (.type "dict")
 | dT {a:Addr} {kvs:List (List Key×V)} (e:H a=some (.dT kvs)):zjk K H (.ref a) (.type "dict")
 | ins {a C dx:Addr} {fs:List (Str×V)} (e:H a=some (.ins C dx fs)) (cl:Cls K C) (ha:W.findIn K (.ref C) "__class__"=some (some (.builtin "object.__class__")))
   (hn:W.specialIn K (.builtin "object.__class__") "__get__"=some (some (.builtin "getset_descriptor.__get__"))) (htk:W.takesIn K (.builtin "object.__class__")=some true)
   (hm:W.mroIn K C (.type "object")=some true):zjk K H (.ref a) (.ref C)
theorem zlF {x:V} {u t:Value} (I:Inv X pins σ H s) (rx:zb4 x u) (ty:zjk X.K H x t) (e:W.kitOne X.K t c=some b) (h: ∀ tk,Q (.bool b) {s with toks:=tk}):
  wpAny (model X.prog X.w) A (call (.builtin "isinstance") [u,c]) Q E s:=by
 cases ty with
 | non=>cases (show u=Value.none from rx);exact W.kia_one W.kitx_none I.kIn True.intro e (fun z=>nomatch z) h
 | bl y=>cases (show u=Value.bool y from rx);exact W.kia_one W.kitx_bool I.kIn True.intro e (fun z=>nomatch z) h
 | int i=>obtain ⟨t,q⟩:=(show ∃ t,u=Value.int i t from rx);cases q;exact W.kia_one W.kitx_int I.kIn True.intro e (fun z=>nomatch z) h
 | str y=>obtain ⟨t,q⟩:=(show ∃ t,u=Value.str y t from rx);cases q;exact W.kia_one W.kitx_str I.kIn True.intro e (fun z=>nomatch z) h
 | flt y=>obtain ⟨t,q⟩:=(show ∃ t,u=Value.float y t from rx);cases q;exact W.kia_one W.kitx_float I.kIn True.intro e (fun z=>nomatch z) h
 | @lst a xs ea=>
  cases (show u=Value.ref a from rx)
  obtain ⟨_,_,n,_,h1⟩:=(show zbV X.prog X.w H s.heap a (.lst xs) from I.hok a _ ea)
  exact W.kia_one W.kitx_list I.kIn ⟨_,h1,rfl⟩ e (fun z=>nomatch z) h
 | @frz a ob xs ea=>
  cases (show u=Value.ref a from rx)
  obtain ⟨_,_,_,n,_,h1⟩:=(show zbV X.prog X.w H s.heap a (.frz ob (.lst xs)) from I.hok a _ ea)
  exact W.kia_one W.kitx_list I.kIn ⟨_,h1,rfl⟩ e (fun z=>nomatch z) h
 | @tup a xs ea=>
  cases (show u=Value.ref a from rx)
  obtain ⟨_,_,_,p⟩:=(show zbV X.prog X.w H s.heap a (.tup xs) from I.hok a _ ea)
  obtain ⟨o,h1,h2,_⟩:=p
  exact W.kia_one W.kitx_tuple I.kIn ⟨o,h1,h2⟩ e (fun z=>nomatch z) h
 | @dK a kvs ea=>
  cases (show u=Value.ref a from rx)
  obtain ⟨_,_,vs,_,p⟩:=(show zbV X.prog X.w H s.heap a (.dK kvs) from I.hok a _ ea)
  obtain ⟨o,es,ep,h1,h2,_⟩:=p
  exact W.kia_one W.kitx_dict I.kIn ⟨o,h1,h2.1⟩ e (fun z=>nomatch z) h
 | @dT a kvs ea=>
  cases (show u=Value.ref a from rx)
  obtain ⟨_,_,xs,_,o,es,ep,h1,h2,_⟩:=(show zbV X.prog X.w H s.heap a (.dT kvs) from I.hok a _ ea)
  exact W.kia_one W.kitx_dict I.kIn ⟨o,h1,h2.1⟩ e (fun z=>nomatch z) h
 | @ins a C dx fs ea cl ha hn htk hm=>
  cases (show u=Value.ref a from rx)
  obtain ⟨mA,O,_⟩:=zrm I.hok ea
  obtain ⟨od,J,_⟩:=O.look
  exact W.kia_one (W.kitx_own (cl.get _) cl.hd ha hn htk hm) I.kIn J e (fun z=>nomatch z) h
end
structure zeq (k:Nat) (A:Around):Prop where
 hd:A.handled=none
 dp:A.depth+3*k+5<recursionLimit
 un:A.units+16*k+200<cLine
theorem zeq.mono {j k:Nat} {A:Around} (r:zeq k A) (h:j<=k):zeq j A:=⟨r.hd,by have:=r.dp;omega,by have:=r.un;omega⟩
theorem zeq.deeper {k:Nat} {A:Around} (r:zeq (k+1) A) (env:Env):zeq k (A.deeper env):=
 ⟨r.hd,by have:=r.dp;show A.depth+1+3*k+5<_;omega,by have:=r.un;show A.units+3+16*k+200<_;omega⟩
theorem zeq.in1 {k:Nat} {A:Around} (r:zeq (k+1) A):zeq k A.in1:=
 ⟨r.hd,by have:=r.dp;show A.depth+3*k+5<_;omega,by have:=r.un;show A.units+1+16*k+200<_;omega⟩
theorem zeq.depth {k:Nat} {A:Around} (r:zeq k A):A.depth<recursionLimit:=by have:=r.dp;omega
theorem zeq.units {k:Nat} {A:Around} (r:zeq k A):A.units+64<cLine:=by have:=r.un;omega
noncomputable def zwy:TA:=fun _ H Q=>Q [] H
noncomputable def zu3 (ta:TE) (tr:TA):TA:=fun σ H Q=>ta σ H fun x H1=>tr σ H1 fun xs H2=>Q (x::xs) H2
section
variable {X:Cx} {e:Expr} {es:List Expr} {te:TE} {t:TA} {pos:Pos}
theorem zdh:PA X [] zwy:=fun _ _ _ _ H Q I h=>Calls.spliced_nil ⟨[],H,I,.nil,h⟩
theorem zbZ (ha:PE X e te) (hr:PA X es t) (hs:starEach (e::es) X.env=(false,eval e X.env)::starEach es X.env:=by rfl):PA X (e::es) (zu3 te t):=by
 intro pos pins s σ H Q I h
 rw [hs]
 show wpAny _ _ (spliced ((false,eval e X.env)::backTo pos (starEach es X.env))) _ _ s
 refine Calls.spliced_cons (thn (ha pins s σ H _ I h) fun u s1 ⟨x,H1,I1,r1,q1⟩=> ?_)
 exact thn (hr pos pins s1 σ H1 _ I1 q1) fun us s2 ⟨xs,H2,I2,r2,q2⟩=>⟨x::xs,H2,I2,.cons r1 r2,q2⟩
noncomputable def zwg (t:TA):TE:=fun σ H Q=>t σ H fun xs H1=>xs.length<=sizeLine/\ ∀ p,H1 p=none->Q (.ref p) (upd H1 p (.tup xs))
noncomputable def zv7 (t:TA):TE:=fun σ H Q=>t σ H fun xs H1=>xs.length<=sizeLine/\ ∀ p,H1 p=none->Q (.ref p) (upd H1 p (.lst xs))
theorem zrE {x1} (h:PA X es t):PE X (.Tuple es x1 pos) (zwg t):=by
 intro pins s σ H Q I hq
 refine wpAny_Tuple_spliced (thn (h pos pins s σ H _ I hq) fun us s1 ⟨xs,H1,I1,r,z,q⟩=>⟨by rw [<- r.length];exact z,?_⟩)
 have hf:H1 s1.heap.objs.size=none:=I1.hok.fresh (qaV _)
 refine ⟨.ref s1.heap.objs.size,upd H1 s1.heap.objs.size (.tup xs),I1.laid (t':=s1.toks) (fun b u e=>qag _ e) (qaV _) ?_,rfl,q _ hf⟩
 exact ⟨z,us,r,⟨_,qar _ rfl,rfl,_,rfl⟩⟩
theorem zpi (h:PA X es t):PE X (.List es pos) (zv7 t):=by
 intro pins s σ H Q I hq
 refine wpAny_List_spliced (thn (h pos pins s σ H _ I hq) fun us s1 ⟨xs,H1,I1,r,z,q⟩=>⟨by rw [<- r.length];exact z,?_⟩)
 have hf:H1 s1.heap.objs.size=none:=I1.hok.fresh (qaV _)
 refine ⟨.ref s1.heap.objs.size,upd H1 s1.heap.objs.size (.lst xs),I1.laid (t':=s1.toks) (fun b u e=>qag _ e) (qaV _) ?_,rfl,q _ hf⟩
 exact ⟨z,us,0,r,qar _ rfl⟩
end
noncomputable abbrev Sp:=List V->Hp->VK->XK->Prop
noncomputable abbrev CXT:=List Env->Hp->Shared->XK->Value->Shared->Prop
structure zo3 (P:Program) (w:World) (K:W.Frag) (mg:Str->Option Value) (base:Heap) (A:Around) (outer:List Env) (s:Shared) (H:Hp):Prop where
 frames:A.frames=some outer
 mod:Mod K mg base
 bs: ∀ b o,base.get? b=some o->s.heap.get? b=some o/\H b=none
 bsz:base.objs.size<=s.heap.objs.size
 funs:s.heap.FunFrames base outer
 frf: ∀ b∈frs outer,H b=none
 hok:HOk P w H s.heap
 bare:AllBare s.gens
 hand:zhQ A H
def CE (outer:List Env) (P:Program) (w:World) (H:Hp) (s:Shared) (Q:VK) (u:Value) (s':Shared):Prop:=
 ∃ v H',s'.os=s.os/\AllBare s'.gens/\Un (frs outer) [] H H' s.heap s'.heap/\HOk P w H' s'.heap/\zb4 v u/\Q v H'
def CR (CX:CXT) (outer:List Env) (P:Program) (w:World) (H:Hp) (s:Shared) (Q:VK) (E:XK) (r:Result) (s':Shared):Prop:=
 match r with
 | .ok (.ret u)=>CE outer P w H s Q u s'
 | .ok _=>False
 | .error e=>CX outer H s E e s'
structure zbr (P:Program) (w:World) (K:W.Frag) (mg:Str->Option Value) (base:Heap) (CX:CXT) (k:Nat) (f:Addr) (fd:FuncData) (ps:List Str) (sp:Sp):Prop where
 len: ∀ vs H Q E,sp vs H Q E->vs.length=ps.length
 run: ∀ (A:Around) (outer:List Env) (s:Shared) (H:Hp) (args:Args) (us:List Value) (vs:List V) (Q:VK) (E:XK),zeq k A->zo3 P w K mg base A outer s H->BindsTo s fd args (ps.zip us)->zba vs us->sp vs H Q E->
  codeAny (model P w) A (.call (.ref f) args) (CR CX outer P w H s Q E) s
theorem zbr.mono {P:Program} {w:World} {K:W.Frag} {mg:Str->Option Value} {base:Heap} {CX:CXT} {j k:Nat} {f:Addr} {fd:FuncData} {ps:List Str} {sp:Sp} (F:zbr P w K mg base CX j f fd ps sp) (h:j<=k):
  zbr P w K mg base CX k f fd ps sp:=⟨F.len,fun A outer s H args us vs Q E hr=>F.run A outer s H args us vs Q E (hr.mono h)⟩
theorem zbr.imp {P:Program} {w:World} {K:W.Frag} {mg:Str->Option Value} {base:Heap} {CX:CXT} {k:Nat} {f:Addr} {fd:FuncData} {ps:List Str} {sp sp':Sp} (F:zbr P w K mg base CX k f fd ps sp)
  (h: ∀ vs H Q E,sp' vs H Q E->sp vs H Q E):zbr P w K mg base CX k f fd ps sp':=
 ⟨fun vs H Q E q=>F.len vs H Q E (h _ _ _ _ q),fun A outer s H args us vs Q E hr he hb hv hs=>F.run A outer s H args us vs Q E hr he hb hv (h _ _ _ _ hs)⟩
theorem zo3.in1 {P:Program} {w:World} {K:W.Frag} {mg:Str->Option Value} {base:Heap} {A:Around} {outer:List Env} {s:Shared} {H:Hp} (e:zo3 P w K mg base A outer s H):
  zo3 P w K mg base A.in1 outer s H:=⟨e.frames,e.mod,e.bs,e.bsz,e.funs,e.frf,e.hok,e.bare,e.hand⟩
section
variable {X:Cx} {pins:List (Addr×Obj)} {σ:St} {H:Hp} {s s':Shared}
theorem Inv.env0 (I:Inv X pins σ H s):zo3 X.prog X.w X.K X.mg X.base X.A X.stack s H:=
 ⟨I.ok.frames,I.ok.mod,I.bs,qaS I.ok.bsz I.sz,I.stack,I.stkFree,I.hok,I.bare,I.handA⟩
theorem Inv.after {Q:VK} {u:Value} (I:Inv X pins σ H s) (h:CE X.stack X.prog X.w H s Q u s'):EP X pins σ Q u s':=by
 obtain ⟨v,H',os,bare,un,hok,r,q⟩:=h
 obtain ⟨hh,g,d,t,os'⟩:=s'
 obtain rfl:os'=s.os:=os
 exact ⟨v,H',I.call (h':=hh) (g':=g) (d':=d) (t':=t) (ch:=[]) un hok bare (fun b z=>absurd z (by simp)),r,q⟩
end
noncomputable def zuO (sp:Sp) (dvs:List V) (E:XK) (t:TA):TE:=fun σ H Q=>t σ H fun vs H1=>sp (vs++dvs) H1 Q E
def zaE (K:W.Frag) (fd:FuncData) (ps:List Str) (ds:List Value):Prop:=
 ∀ (s:Shared) (us:List Value),K.In s.heap->(us++ds).length=ps.length->BindsTo s fd ⟨us,[]⟩ (ps.zip (us++ds))
theorem zaE.all {K:W.Frag} {fd:FuncData} {ps:List Str} (h: ∀ us:List Value,us.length=ps.length->bindArgs fd ⟨us,[]⟩=pure (ps.zip us)):zaE K fd ps []:=fun s us _ hl=>by
 rw [List.append_nil] at hl ⊢
 exact .of_eq (h us hl)
def zl9 (CX:CXT) (X:Cx) (E:XK):Prop:= ∀ (pins:List (Addr×Obj)) (σ:St) (H:Hp) (s:Shared) (e:Value) (s':Shared),Inv X pins σ H s->CX X.stack H s E e s'->X.xe e s'
section
variable {X:Cx} {CX:CXT} {k:Nat} {f C:Addr} {fd:FuncData} {ps:List Str} {sp:Sp} {dvs:List V} {ds:List Value} {E:XK} {x m:Str} {p pos apos:Pos} {e o:Expr} {es:List Expr} {ta:TE} {t:TA}
theorem ztS {pins:List (Addr×Obj)} {σ:St} {H:Hp} {s:Shared} {Q:VK} {us:List Value} {vs:List V} (F:zbr X.prog X.w X.K X.mg X.base CX k f fd ps sp) (hr:zeq k X.A) (hb:zaE X.K fd ps ds) (hd:zba dvs ds) (hx:zl9 CX X E)
  (I:Inv X pins σ H s) (r:zba vs us) (h:sp (vs++dvs) H Q E):wpAny (model X.prog X.w) X.A (call (.ref f) us) (EP X pins σ Q) X.xe s:=by
 have r2:zba (vs++dvs) (us++ds):=r.append hd
 have hl:(us++ds).length=ps.length:=by rw [<- r2.length];exact F.len _ _ _ _ h
 refine wpAny_call (codeAny_mono (F.run X.A X.stack s H ⟨us,[]⟩ (us++ds) (vs++dvs) Q E hr I.env0 (hb s us I.kIn hl) r2 h) fun r s' hq=> ?_)
 cases r with
 | error e=>exact hx pins σ H s e s' I hq
 | ok fl=>
  cases fl with
  | ret u=>exact I.after hq
  | next=>exact qa0 hq
  | brk=>exact qa0 hq
  | cont=>exact qa0 hq
theorem zqJ (F:zbr X.prog X.w X.K X.mg X.base CX k f fd ps sp) (hr:zeq k X.A) (hg:Gl X x) (hm:X.mg x=some (.ref f)) (hk:W.keepIn X.K (.ref f)=true) (hb:zaE X.K fd ps ds) (hd:zba dvs ds) (hx:zl9 CX X E)
  (ha:PA X (e::es) t) (hdb:(x==("__debug__":Str))=false:=by decide) (he:starEach (e::es) X.env=(false,eval e X.env)::starEach es X.env:=by rfl) (hpl:(backTo pos (starEach es X.env)).any (·.1)=false:=by rfl):
  PE X (.Call (.Name x p) (e::es) [] pos) (zuO sp dvs E t):=by
 intro pins s σ H Q I h
 refine wpAny_Call_Name_kw (zms I hg hm ?_ hdb)
 refine W.callWith_K (h₀:=X.base) I.ok.mod.kin hk (thn (ha pos pins s σ H _ I h) fun us s1 ⟨vs,H1,I1,r,q⟩=>⟨I1.kIn,?_⟩) he hpl
 exact ztS F hr hb hd hx I1 r q
structure Mk (K:W.Frag) (C f:Addr):Prop where
 makes:W.makesIn K C=true
 init:W.findIn K (.ref C) "__init__"=some (some (.ref f))
 fn:W.isFn K (.ref f)=true
 kp:W.keepIn K (.ref C)=true
end
section
variable {X:Cx} {CX:CXT} {k:Nat} {f C:Addr} {fd:FuncData} {ps ks:List Str} {sp:Sp} {E:XK} {x m:Str} {p pos apos kpos:Pos} {e o:Expr} {es:List Expr} {kws:List Keyword} {te ta:TE} {t tk:TA} {nm:Option Str}
structure zvT (K:W.Frag) (fd:FuncData) (ps ks:List Str) (g:List Value->List Value->List Value) (gV:List V->List V->List V):Prop where
 to: ∀ (s:Shared) (us ws:List Value),K.In s.heap->(g us ws).length=ps.length->BindsTo s fd ⟨us,ks.zip ws⟩ (ps.zip (g us ws))
 rel: ∀ {vs:List V} {us:List Value} {zs:List V} {ws:List Value},zba vs us->zba zs ws->zba (gV vs zs) (g us ws)
variable {g:List Value->List Value->List Value} {gV:List V->List V->List V}
end
structure zap (N P:List Str) (sc:Scope):Prop where
 kind:sc.kind= .function
 co:sc.isCoroutine=false
 gen:sc.isGenerator=false
 nd:N.Nodup
 pre:N.take P.length=P
 par: ∀ x∈P,sc.names.lookup x=some .local\/sc.names.lookup x=some .cell
 nofree: ∀ y∈sc.names,y.2≠ .free
theorem zhy {kindOf:Str->Option NameKind} {x:Str}: ∀ {binds:List (Str×Value)} {m:Str->Option Value},(∀ v,(x,v)∉binds)->bindL kindOf binds m x=m x
 | [],_,_=>rfl
 | (n,v)::r,m,h=>by
  unfold bindL
  rw [zhy fun w hw=>h w (qan _ hw)]
  split
  ·have:x≠n:=by rintro rfl;exact h v qau
   simp [this]
  ·rfl
theorem zhb {kindOf:Str->Option NameKind} {x:Str}: ∀ {binds:List (Str×Value)} {m:Str->Option Value},(∀ v,(x,v)∉binds)->bindC kindOf binds m x=m x
 | [],_,_=>rfl
 | (n,v)::r,m,h=>by
  unfold bindC
  rw [zhb fun w hw=>h w (qan _ hw)]
  split
  ·rfl
  ·have:x≠n:=by rintro rfl;exact h v qau
   simp [this]
theorem zhY {kindOf:Str->Option NameKind} {x:Str} {v:Value}: ∀ {P:List Str} {vs:List Value} {i:Nat} {m:Str->Option Value},P.Nodup->P[i]? = some x->vs[i]? = some v->kindOf x=some .local->
  bindL kindOf (P.zip vs) m x=some v
 | [],_,_,_,_,h,_,_=>by simp at h
 | _::_,[],_,_,_,_,h,_=>by simp at h
 | p::P,w::vs,0,m,nd,h1,h2,hk=>by
  simp at h1 h2;subst h1;subst h2
  show bindL kindOf ((p,w)::P.zip vs) m p=_
  unfold bindL
  rw [zhy fun v hv=>(List.nodup_cons.mp nd).1 (List.of_mem_zip hv).1,qa4 hk]
  simp
 | p::P,w::vs,i+1,m,nd,h1,h2,hk=>by
  show bindL kindOf ((p,w)::P.zip vs) m x=_
  unfold bindL
  exact zhY (i:=i) (List.nodup_cons.mp nd).2 (by simpa using h1) (by simpa using h2) hk
theorem zhJ {kindOf:Str->Option NameKind} {x:Str} {v:Value}: ∀ {P:List Str} {vs:List Value} {i:Nat} {m:Str->Option Value},P.Nodup->P[i]? = some x->vs[i]? = some v->kindOf x≠some .local->
  bindC kindOf (P.zip vs) m x=some v
 | [],_,_,_,_,h,_,_=>by simp at h
 | _::_,[],_,_,_,_,h,_=>by simp at h
 | p::P,w::vs,0,m,nd,h1,h2,hk=>by
  simp at h1 h2;subst h1;subst h2
  show bindC kindOf ((p,w)::P.zip vs) m p=_
  unfold bindC
  rw [zhb fun v hv=>(List.nodup_cons.mp nd).1 (List.of_mem_zip hv).1,qa5 hk]
  simp
 | p::P,w::vs,i+1,m,nd,h1,h2,hk=>by
  show bindC kindOf ((p,w)::P.zip vs) m x=_
  unfold bindC
  exact zhJ (i:=i) (List.nodup_cons.mp nd).2 (by simpa using h1) (by simpa using h2) hk
noncomputable def zfQ (N:List Str) (vs:List V):St:=vs.map some++List.replicate (N.length - vs.length) none
noncomputable def zp6 (CX:CXT) (P:Program) (w:World) (K:W.Frag) (mg:Str->Option Value) (base:Heap) (N:List Str) (qual:Str) (scope:Scope) (f:Addr) (cd:Value) (A:Around) (outer:List Env) (s:Shared) (H:Hp) (E:XK):Cx where
 prog:=P
 w:=w
 K:=K
 mg:=mg
 base:=base
 A:=A.deeper (envOfC qual scope s.heap.objs.size f cd)
 N:=N
 s₀:=s
 H₀:=H
 env:=envOfC qual scope s.heap.objs.size f cd
 outer:=outer
 stack:=envOfC qual scope s.heap.objs.size f cd::outer
 ex:=[]
 calm:=true
 fn:=fun _=>true
 pn:=[]
 xe:=fun e s'=>wpAny (model P w) (A.deeper (envOfC qual scope s.heap.objs.size f cd)) (leaving (envOfC qual scope s.heap.objs.size f cd) e) (fun _ s''=>CX outer H s E e s'') (fun e' s''=>CX outer H s E e' s'') s'
theorem zjH {sc:Scope} {n:Nat} {x:Str} (h:sc.names.lookup x=some .cell): ∃ c,(cellsFrom n sc.names []).lookup x=some c:=by
 have q:=W.cellsFrom_some sc.names n [] (.inl h)
 exact Option.isSome_iff_exists.mp q
theorem zk1 {CX:CXT} {P:Program} {w:World} {K:W.Frag} {mg:Str->Option Value} {base:Heap} {N ps:List Str} {qual:Str} {scope:Scope} {f:Addr} {cd:Value} {A:Around} {outer:List Env} {s s1:Shared} {H:Hp} {E:XK} {us:List Value} {vs:List V}
  (S:zap N ps scope) {cm:Bool} (hd:cm=true->A.handled=none) (e0:zo3 P w K mg base A outer s H) (hl:vs.length=ps.length) (r:zba vs us)
  (x:InCallC s s.heap.objs.size (bindL (envOfC qual scope s.heap.objs.size f cd).kindOf (ps.zip us) fun _=>none) (cellsFrom (s.heap.objs.size+1) scope.names []) (bindC (envOfC qual scope s.heap.objs.size f cd).kindOf (ps.zip us) fun _=>none) s1):
  Inv {zp6 CX P w K mg base N qual scope f cd A outer s H E with calm:=cm} [] (zfQ N vs) H s1:=by
 have hpl:ps.length<=N.length:=by have:=congrArg List.length S.pre;rw [List.length_take] at this;omega
 obtain ⟨h1,tk,rfl,hk⟩:=x.done
 have noA: ∀ b:Addr,b∉(zp6 CX P w K mg base N qual scope f cd A outer s H E).ex:=fun b z=>absurd (show b∈([]:List Addr) from z) (by simp)
 refine ⟨⟨e0.mod,S.kind,rfl,rfl,qaV _,fun y z c h1 h2=> ?_,fun y hy=> ?_,fun y c _ h=> ?_,hd,e0.hand,Around.frames_deeper e0.frames,.inr ⟨rfl,rfl⟩,fun b z=>absurd z (noA b),e0.bs,e0.bsz,fun b _ _=>noA b,fun b z=>absurd z (noA b),e0.funs,e0.frf⟩,
   rfl,e0.bare,Un.kept hk,⟨_,x.toInCall.ns,fun i y v h1 h2 h3=> ?_⟩,fun y c h=>⟨_,x.cell y c h⟩,e0.hok.fresh (qaV _),fun y c h=> ?_,fun p hp=>absurd (show p∈([]:List (Addr×Obj)) from hp) (by simp),e0.hok.kept hk,?_⟩
 ·exact name_of_addr x.apart (PySem.mem_of_lookup h1) (PySem.mem_of_lookup h2)
 ·have hy:scope.names.lookup y=some .cell\/scope.names.lookup y=some .free:=hy
  rcases hy with hy | hy
  ·exact zjH hy
  ·exact absurd rfl (S.nofree _ (PySem.mem_of_lookup hy))
 ·exact Nat.le_of_lt (x.above y c (PySem.mem_of_lookup h))
 ·have hi:i<vs.length:=by
   unfold zfQ at h2
   by_cases hi:i<vs.length
   ·exact hi
   ·rw [qaa (by simpa using hi)] at h2
    rw [List.getElem?_replicate] at h2
    split at h2<;>cases h2
  have ha:vs[i]? = some v:=by
   unfold zfQ at h2
   rw [qad (by simpa using hi),List.getElem?_map] at h2
   cases e:vs[i]? with
   | none=>rw [e] at h2;cases h2
   | some a=>rw [e] at h2;cases h2;rfl
  obtain ⟨u,hu,rv⟩:=r.get ha
  have hp:ps[i]? = some y:=by
   rw [<- S.pre,List.getElem?_take_of_lt (by omega)];exact h1
  have ndP:ps.Nodup:=by rw [<- S.pre];exact S.nd.sublist (List.take_sublist _ _)
  refine ⟨u,rv,?_⟩
  rcases S.par y (List.mem_of_getElem? hp) with k | k
  ·exact .inl ⟨k,zhY ndP hp hu k⟩
  ·obtain ⟨c,e⟩:=zjH (n:=s.heap.objs.size+1) k
   refine .inr ⟨.inl k,c,e,?_⟩
   have q:=x.cell y c e
   rw [zhJ ndP hp hu (by show scope.names.lookup y≠_;rw [k];decide)] at q
   exact q
 ·exact e0.hok.fresh (Nat.le_of_lt (x.above y c (PySem.mem_of_lookup h)))
 ·unfold zfQ
  show _=N.length
  rw [qav,qaH,List.length_replicate]
  omega
theorem zuG {CX:CXT} {P:Program} {w:World} {K:W.Frag} {mg:Str->Option Value} {base:Heap} {k:Nat} {f:Addr} {name qual:Str} {params:Arguments} {body:List Stmt} {scope:Scope} {dV kV doc pm cdv ct oc:Value} {an od:Option Addr}
  {osl:Array (Option Value)} {N ps:List Str} {sp:Sp} (lk:K.lookup f=some ⟨oc,od,.func (W.fnOf name qual params body scope dV kV doc pm an cdv ct),osl⟩) (hcd:W.codeIn K cdv qual=true) (S:zap N ps scope)
  (len: ∀ vs H Q E,sp vs H Q E->vs.length=ps.length)
  (hbody: ∀ (A:Around) (outer:List Env) (s:Shared) (H:Hp) (vs:List V) (Q:VK) (E:XK),zeq k (A.deeper (envOfC qual scope s.heap.objs.size f cdv))->sp vs H Q E->
    ∃ t,PSs (zp6 CX P w K mg base N qual scope f cdv A outer s H E) body t/\t {nx:=fun _ H'=>Q .non H',rt:=Q} (zfQ N vs) H):
  zbr P w K mg base CX (k+1) f (W.fnOf name qual params body scope dV kV doc pm an cdv ct) ps sp:=by
 refine ⟨len,fun A outer s H args us vs Q E hr e0 hb r hsp=> ?_⟩
 have hl:=len _ _ _ _ hsp
 have KX:K.In s.heap:=e0.mod.kin.keeps fun b o e=>(e0.bs b o e).1
 have lim:s.heap.NoLimit:=e0.mod.nolimit.keeps fun b o e=>(e0.bs b o e).1
 have hkind: ∀ y∈ps.zip us,scope.names.lookup y.1=some .local\/(scope.names.lookup y.1=some .cell/\((cellsFrom (s.heap.objs.size+1) scope.names []).lookup y.1).isSome=true):=fun ⟨n,v⟩ hy=>by
  rcases S.par n (List.of_mem_zip hy).1 with q | q
  ·exact .inl q
  ·exact .inr ⟨q,W.cellsFrom_some _ _ _ (.inl q)⟩
 refine codeAny_call_function hr.depth (KX _ _ lk) rfl S.co S.gen rfl (W.codeRec_of KX hcd) (hb _ _ _ _ ?_)
 refine wpAny_newFunctionEnv_cells S.kind hkind fun env he s1 x=> ?_
 subst he
 refine ⟨lim.keeps x.toInCall.keep,codeAny_func ?_⟩
 obtain ⟨t,ht,hq⟩:=hbody A outer s H vs Q E (hr.deeper _) hsp
 have I:Inv (zp6 CX P w K mg base N qual scope f cdv A outer s H E) [] (zfQ N vs) H s1:=zk1 (cm:=true) S (fun _=>hr.hd) e0 hl r x
 refine qaZ (ht [] s1 (zfQ N vs) H _ I hq) (fun fl s' hs=> ?_) fun e s' hs=>hs
 have fin: ∀ {σ':St} {H':Hp} {v:V} {u:Value},Inv (zp6 CX P w K mg base N qual scope f cdv A outer s H E) [] σ' H' s'->zb4 v u->Q v H'->CE outer P w H s Q u s':=
  fun {σ' H' v u} J rv q=>⟨v,H',J.os,J.bare,J.base,J.hok,rv,q⟩
 cases fl with
 | ret u=>
  obtain ⟨v,σ',H',J,rv,q⟩:=hs
  exact fin J rv q
 | next=>
  obtain ⟨σ',H',J,q⟩:=hs
  exact fin (v:=V.non) (u:=Value.none) J rfl q
 | brk=>
  obtain ⟨_,_,_,q⟩:=hs
  exact qa0 q
 | cont=>
  obtain ⟨_,_,_,q⟩:=hs
  exact qa0 q
section
variable {X:Cx} {x:Str} {p pos:Pos} {e:Expr} {es:List Expr} {t:TA} {id T:String} {r:List V->Hp->VK->Prop}
noncomputable def tCB (r:List V->Hp->VK->Prop) (t:TA):TE:=fun σ H Q=>t σ H fun vs H1=>r vs H1 Q
theorem zgO (hc:zaV X (.builtin id) r) (hg:Gl X x) (hm:X.mg x=none) (hv:bootBuiltins x=some (.builtin id)) (ha:PA X (e::es) t) (hn:x≠"__name__":=by decide) (hdb:(x==("__debug__":Str))=false:=by decide)
  (he:starEach (e::es) X.env=(false,eval e X.env)::starEach es X.env:=by rfl) (hpl:(backTo pos (starEach es X.env)).any (·.1)=false:=by rfl):PE X (.Call (.Name x p) (e::es) [] pos) (tCB r t):=by
 intro pins s σ H Q I h
 refine wpAny_Call_Name_kw (ze8 I hg hm hv ?_ hn hdb)
 exact PyProof.Rows.callWith_builtin1 (thn (ha pos pins s σ H _ I h) fun us s1 ⟨vs,H1,I1,r1,q1⟩=>hc pins s1 σ H1 vs us Q I1 r1 q1) he hpl
theorem zcR (hc:zaV X (.type T) r) (hg:Gl X x) (hm:X.mg x=none) (hv:bootBuiltins x=some (.type T)) (ha:PA X (e::es) t) (hn:x≠"__name__":=by decide) (hdb:(x==("__debug__":Str))=false:=by decide)
  (he:starEach (e::es) X.env=(false,eval e X.env)::starEach es X.env:=by rfl) (hpl:(backTo pos (starEach es X.env)).any (·.1)=false:=by rfl):PE X (.Call (.Name x p) (e::es) [] pos) (tCB r t):=by
 intro pins s σ H Q I h
 refine wpAny_Call_Name_kw (ze8 I hg hm hv ?_ hn hdb)
 exact PyProof.Rows.callWith_type1 (thn (ha pos pins s σ H _ I h) fun us s1 ⟨vs,H1,I1,r1,q1⟩=>hc pins s1 σ H1 vs us Q I1 r1 q1) he hpl
end
end L2
namespace HT
open PySem PyProof.Rows
noncomputable def zc5:List Int->List Int->Bool
 | [],[]=>false
 | [],_::_=>true
 | _::_,[]=>false
 | x::xs,y::ys=>if x=y then zc5 xs ys else decide (x<y)
theorem zeB (x y:Int) (xs ys:List Int):zc5 (x::xs) (y::ys)=if x=y then zc5 xs ys else decide (x<y):=rfl
theorem zgj:zc5 [] []=false:=rfl
theorem zfL (y:Int) (ys:List Int):zc5 [] (y::ys)=true:=rfl
theorem zfM (x:Int) (xs:List Int):zc5 (x::xs) []=false:=rfl
theorem znK (A:Around) (s:Shared) (a:Int) (t:Tok) (c:Int) (u:Tok): ∃ e,SeqAt.EqAt A s (.int a t) (.int c u) e/\(e=true↔a=c):=
 ⟨(a==c),SeqAt.EqAt.int_int a t c u,by simp⟩
theorem zjQ (A:Around) (s:Shared) (a:Int) (t:Tok) (c:Int) (u:Tok) (prog:Program) (w:World) (E:Value->Shared->Prop) (Q:Value->Shared->Prop) (h:Q (.bool (decide (a<c))) s):
  wpAny (model prog w) A (richCompare .Lt (.int a t) (.int c u)) Q E s:=
 (PyProof.Rows.lt_int h:wpAny (model prog w) A (compareOp .Lt (.int a t) (.int c u)) Q E s)
section
open PySem.SeqAt
open PySem.AutoSeq1 (wpAny_loadPart')
open PySem.MeetsSeq PySem.MeetsSeq2 PySem.MeetsSeq3
theorem zgm (l b:Addr) (items items2:Array Value) (n n2:Nat) (dd dd2:Option Addr) (sl sl2:Array (Option Value)) (ns ms:List Int) (hi:IntsAre items.toList ns) (hj:IntsAre items2.toList ms):
  Meets (Builtin.«tuple.__lt__» ⟨[.ref l,.ref b],[]⟩)
   (fun _ R s=>s.heap.get? l=some {cls:= .type "tuple",dict:=dd,data:= .seq items n,slots:=sl}/\s.heap.get? b=some {cls:= .type "tuple",dict:=dd2,data:= .seq items2 n2,slots:=sl2}/\
     R (.ok (.ret (.bool (zc5 ns ms)))) s):=
 .of_wp fun prog w A R s h=>by
  obtain ⟨hp,g,d,tk,os⟩:=s;obtain ⟨hl,hb,h⟩:=h
  have f2:=AutoSeq1.sub_tuple_tuple
  have z1:items.size=ns.length:=by rw [<- hi.length];simp
  have z2:items2.size=ms.length:=by rw [<- hj.length];simp
  wp_walk using wpAny_loadPart' hl,wpAny_loadPart' hb,wpAny_forIn_list _ (fun zbk b s'=>b.1=none/\s'=⟨hp,g,d,tk,os⟩/\ ∃ (vs ws:List Value) (ns' ms':List Int),zbk=vs.zip ws/\
    IntsAre vs ns'/\IntsAre ws ms'/\ns'.length+items2.size=ms'.length+items.size/\R (.ok (.ret (.bool (zc5 ns' ms')))) ⟨hp,g,d,tk,os⟩) _
  case turn=>
   rintro ⟨y,x⟩ zbk b s' ⟨hb',rfl,vs,ws,ns',ms',hz,hvi,hwi,hlen,hR⟩
   cases hvi with
   | nil=>rw [List.zip_nil_left] at hz;cases hz
   | cons a t hvi'=>
    cases hwi with
    | nil=>rw [List.zip_nil_right] at hz;cases hz
    | cons c u hwi'=>
     rw [List.zip_cons_cons] at hz
     injection hz with hyx hrest
     injection hyx with hy hx
     subst hy hx
     rw [zeB] at hR
     simp only [qaE] at hlen
     obtain ⟨e,he,hiff⟩:=znK A.in1 ⟨hp,g,d,tk,os⟩ a t c u
     refine qaW (he prog w _ _ ?_)
     cases e with
     | true=>
      rw [qa4 (hiff.mp rfl)] at hR
      wp_walk
      exact ⟨rfl,rfl,_,_,_,_,hrest,hvi',hwi',by omega,hR⟩
     | false=>
      rw [qa5 (fun q=>absurd (hiff.mpr q) Bool.false_ne_true)] at hR
      have hri:=zjQ A.in1 ⟨hp,g,d,tk,os⟩ a t c u prog w
      wp_walk using hri
      exact ⟨_,rfl,by simpa using hR⟩
  case fin=>
   rintro ⟨b1,b2⟩ s' ⟨hb',rfl,vs,ws,ns',ms',hz,hvi,hwi,hlen,hR⟩
   simp only at hb'
   subst hb'
   have hv:zc5 ns' ms'=decide (items.size<items2.size):=by
    cases hvi with
    | nil=>
     cases hwi with
     | nil=>
      simp only [qaJ] at hlen
      rw [zgj]
      exact (decide_eq_false (by omega)).symm
     | cons c u hw=>
      simp only [qaJ,qaE] at hlen
      rw [zfL]
      exact (decide_eq_true (by omega)).symm
    | cons a t hv=>
     cases hwi with
     | nil=>
      simp only [qaJ,qaE] at hlen
      rw [zfM]
      exact (decide_eq_false (by omega)).symm
     | cons c u hw=>
      rw [List.zip_cons_cons] at hz
      cases hz
   rw [hv] at hR
   wp_walk
   exact ⟨_,rfl,by simpa [Builtin.Tuple.tupleCompareSizes] using hR⟩
  case h=>
   exact ⟨rfl,rfl,items.toList,items2.toList,ns,ms,rfl,hi,hj,by omega,h⟩
end
section
variable {prog:Program} {w:World} {A:Around} {E:Value->Shared->Prop} {s:Shared}
theorem zkc {l b:Addr} {items items2:Array Value} {ns ms:List Int} {Q:Value->Shared->Prop} (hl:IsTup s.heap l items) (hb:IsTup s.heap b items2) (hi:IntsAre items.toList ns) (hj:IntsAre items2.toList ms)
  (hu:A.units<cLine) (h:Q (.bool (zc5 ns ms)) s):wpAny (model prog w) A (compareOp .Lt (.ref l) (.ref b)) Q E s:=by
 obtain ⟨⟨cls,dd,data,sl⟩,ho,hc,n,hd⟩:=id hl
 obtain ⟨⟨cls2,dd2,data2,sl2⟩,ho2,hc2,n2,hd2⟩:=id hb
 simp only at hc hd hc2 hd2
 subst hc hd hc2 hd2
 exact richCompare_meets_room (op:= .Lt) ⟨_,ho,rfl⟩ ⟨_,ho2,rfl⟩ PySem.F.slot_tuple_lt PySem.F.entry_tuple_lt (PySem.F.args_tuple_lt_2 _ _) (zgm l b items items2 n n2 dd dd2 sl sl2 ns ms hi hj)
  ⟨ho,ho2,show Value.bool (zc5 ns ms)≠Value.notImplemented/\Q (.bool (zc5 ns ms)) s from ⟨(fun x=>nomatch x),h⟩⟩ hu
theorem zpv {t b:Addr} {vs ws:List Value} {Q:Value->Shared->Prop} (ht:IsTup s.heap t vs.toArray) (hb:IsTup s.heap b ws.toArray) (hv:vs≠[])
  (h1:ws=[]->Q (.ref t) s) (h2:ws≠[]->Q (.ref s.heap.objs.size) {s with heap:=s.heap.push {cls:= .type "tuple",data:= .seq (vs++ws).toArray}})
  (hsz:vs.length+ws.length<=sizeLine):wpAny (model prog w) A (binaryOp .Add (.ref t) (.ref b)) Q E s:=by
 obtain ⟨⟨cls,dd,data,sl⟩,ho,hc,n,hd⟩:=id ht
 obtain ⟨⟨cls2,dd2,data2,sl2⟩,ho2,hc2,n2,hd2⟩:=id hb
 simp only at hc hd hc2 hd2
 subst hc hd hc2 hd2
 have e:vs.toArray++ws.toArray=(vs++ws).toArray:=by simp
 by_cases hw:ws=[]
 ·exact concat_meets ⟨_,ho,rfl⟩ ⟨_,ho2,rfl⟩ noFill_tuple_add seq_tuple_add PySem.F.slot_tuple_add PySem.F.entry_tuple_add (PySem.F.args_tuple_add_2 _ _)
   (tuple_addW1 t b vs.toArray ws.toArray n n2 dd dd2 sl sl2 (by simpa using hv) (by simp [hw])) ⟨ho,ho2,h1 hw⟩
 ·refine concat_meets ⟨_,ho,rfl⟩ ⟨_,ho2,rfl⟩ noFill_tuple_add seq_tuple_add PySem.F.slot_tuple_add PySem.F.entry_tuple_add (PySem.F.args_tuple_add_2 _ _)
   (tuple_addW2 t b vs.toArray ws.toArray n n2 dd dd2 sl sl2 (by simpa using hv) (by simpa using hw) (by rw [qaA,qaA];exact hsz)) ⟨ho,ho2,?_⟩
  rw [e]
  exact h2 hw
noncomputable def sIx (n d:Nat):Option Int->Nat
 | none=>d
 | some v=>if v<0 then (v+(n:Int)).toNat else min v.toNat n
theorem zlJ (n d k:Nat):sIx n d (some (k:Int))=min k n:=by
 show (if (k:Int)<0 then ((k:Int)+(n:Int)).toNat else min (k:Int).toNat n)=min k n
 rw [qa5 (by omega),qaB]
theorem zsU (n d:Nat) (hd:d<=n) (o:Option Int):sIx n d o<=n:=by
 cases o with
 | none=>exact hd
 | some v=>
  show (if v<0 then (v+(n:Int)).toNat else min v.toNat n)<=n
  by_cases hv:v<0
  ·rw [qa4 hv];omega
  ·rw [qa5 hv];exact Nat.min_le_right _ _
theorem zkV (v:Int) (n d:Nat):(if v<0 then max (v+(n:Int)) 0 else min v (n:Int))=((sIx n d (some v):Nat):Int):=by
 show (if v<0 then max (v+(n:Int)) 0 else min v (n:Int))=(((if v<0 then (v+(n:Int)).toNat else min v.toNat n):Nat):Int)
 by_cases hv:v<0
 ·simp only [qa4 hv];omega
 ·simp only [qa5 hv];omega
theorem zkq (lo hi:Option Int) (n:Nat):Builtin.Slice.sliceAdjust lo hi 1 (n:Int)=(((sIx n 0 lo:Nat):Int),((sIx n n hi:Nat):Int)):=by
 have h1: ¬((1:Int)<0):=by omega
 unfold Builtin.Slice.sliceAdjust
 simp only [h1,if_false]
 refine Prod.ext ?_ ?_
 ·cases lo with
  | none=>rfl
  | some v=>exact zkV v n 0
 ·cases hi with
  | none=>rfl
  | some v=>exact zkV v n n
theorem zj5 (i j:Nat):Builtin.Slice.slicePlaces (i:Int) (j:Int) 1=j - i:=by
 unfold Builtin.Slice.slicePlaces
 have h1:(1:Int)>0:=by omega
 simp only [h1,if_true,Int.ediv_one]
 split<;>omega
theorem zfV {v:Value} {o:Option Int} {Q:Option Int->Shared->Prop} (p:IsPart v o) (h:Q o s):wpAny (model prog w) A (Builtin.Slice.slicePartIndex v) Q E s:=by
 cases p with
 | none=>exact slicePart_none h
 | int i t=>exact slicePart_int h
theorem zdf {sl:Addr} {vl vu:Value} {lo hi:Option Int} {n:Nat} {Q:Int×Int×Nat->Shared->Prop} (hs:s.heap.IsSliceOf sl vl vu .none) (pl:IsPart vl lo) (pu:IsPart vu hi)
  (h:Q (((sIx n 0 lo:Nat):Int),1,sIx n n hi - sIx n 0 lo) s):wpAny (model prog w) A (Builtin.Slice.sliceApplied (.ref sl) (pure (n:Int))) Q E s:=by
 obtain ⟨os,hos,hcs,hds⟩:=id hs
 unfold Builtin.Slice.sliceApplied Builtin.Slice.sliceFields
 refine qaW (qaW (wpAny_field hos hds (x:=vl) rfl (qaW (wpAny_field hos hds (x:=vu) rfl (qaW (wpAny_field hos hds (x:= .none) rfl (qaX ?_)))))))
 refine qaW (slicePart_none ?_)
 show wpAny _ _ (if ((1:Int)==0)=true then _ else _) _ _ s
 rw [qa5 (by decide)]
 refine qaW (zfV pl (qaW (zfV pu (qaW (qaX ?_)))))
 show wpAny _ _ (match Builtin.Slice.sliceAdjust lo hi 1 (n:Int) with | (lo,hi)=>pure (lo,(1:Int),Builtin.Slice.slicePlaces lo hi 1)) _ _ s
 rw [zkq lo hi n]
 show wpAny _ _ (pure (((sIx n 0 lo:Nat):Int),(1:Int),Builtin.Slice.slicePlaces ((sIx n 0 lo:Nat):Int) ((sIx n n hi:Nat):Int) 1)) _ _ s
 rw [zj5]
 exact qaX h
theorem zor (xs:Array Value) (i k:Nat):((List.range k).filterMap fun (m:Nat)=>xs[((i:Int)+(m:Int)*1).toNat]?).toArray=((xs.toList.drop i).take k).toArray:=by
 have e:(fun (m:Nat)=>xs[((i:Int)+(m:Int)*1).toNat]?)=fun m=>xs[i+m]? := by
  funext m
  have:((i:Int)+(m:Int)*1).toNat=i+m:=by omega
  rw [this]
 rw [e]
 have:=pick_run xs i k
 rw [List.filterMap_map] at this
 have e2:((fun x=>xs[x]?)∘fun x=>i+x)=fun m=>xs[i+m]? := rfl
 rw [e2] at this
 rw [this]
theorem zep {t sl:Addr} {items:Array Value} {vl vu:Value} {lo hi:Option Int} {Q:Value->Shared->Prop} (ht:IsTup s.heap t items) (hs:s.heap.IsSliceOf sl vl vu .none) (pl:IsPart vl lo) (pu:IsPart vu hi)
  (hw: ¬(sIx items.size 0 lo=0/\sIx items.size items.size hi=items.size))
  (h:Q (.ref s.heap.objs.size) {s with heap:=s.heap.push {cls:= .type "tuple",data:= .seq ((items.toList.drop (sIx items.size 0 lo)).take (sIx items.size items.size hi - sIx items.size 0 lo)).toArray}})
  (hsz:items.size<=sizeLine):wpAny (model prog w) A (getItem (.ref t) (.ref sl)) Q E s:=by
 have htake:sizeOk (.seq ((items.toList.drop (sIx items.size 0 lo)).take (sIx items.size items.size hi - sIx items.size 0 lo)).toArray):=by
  show ((items.toList.drop (sIx items.size 0 lo)).take (sIx items.size items.size hi - sIx items.size 0 lo)).toArray.size<=sizeLine
  rw [qaA,List.length_take,List.length_drop,qas]
  omega
 have hj:sIx items.size items.size hi<=items.size:=zsU _ _ (qaV _) hi
 obtain ⟨os,hos,hcs,hds⟩:=id hs
 have hTs:s.TypeIs (.ref sl) "slice":=⟨os,hos,hcs⟩
 unfold getItem
 try with_reducible refine qaO ?_
 first | refine qaW (qaX ?_) | skip
 refine qaW (wpAny_sequenceKey ht.typeIs (by decide) ?_)
 refine qaW (wpAny_callSpecial?_slot (name:=Str.ofString "__getitem__") ht.typeIs PyProof.Rows.slot_tuple_getitem
   (wpAny_call_entry PyProof.Rows.slot_tuple_getitem ht.typeIs entry_tuple_getitem ?_ (args_tuple_getitem _ _)))
 show wpAny _ _ (Builtin.Tuple.tupleItemsOf (.ref t)>>=_) _ _ s
 refine qaW (tupleItemsOf_ ht ?_)
 refine qaW (wpAny_typeOf hTs ?_)
 rw [qa4 (by decide)]
 refine qaW (zdf hs pl pu ?_)
 have hno: ¬((((sIx items.size 0 lo:Nat):Int)==0 && (1:Int)==1 && (sIx items.size items.size hi - sIx items.size 0 lo)==items.size)=true):=by
  intro q
  rw [qaG,qaG] at q
  have q1:((sIx items.size 0 lo:Nat):Int)=0:=eq_of_beq q.1.1
  have q2:sIx items.size items.size hi - sIx items.size 0 lo=items.size:=eq_of_beq q.2
  exact hw ⟨by omega,by omega⟩
 show wpAny _ _ (if (((sIx items.size 0 lo:Nat):Int)==0 && (1:Int)==1 && (sIx items.size items.size hi - sIx items.size 0 lo)==items.size)=true then _ else _) _ _ s
 rw [qa5 hno,zor]
 first
  | exact qaW (m:=Builtin.Tuple.tupleExact _) (qaC (qaX ⟨_,rfl,qaX h⟩) htake)
  | exact qaW (m:=Builtin.Tuple.tupleExact _) (qaC (qaW (qaX (qaX ⟨_,rfl,qaX h⟩))) htake)
  | exact qaW (qaW (m:=Builtin.Tuple.tupleExact _) (qaC (qaX (qaX ⟨_,rfl,qaX h⟩)) htake))
  | exact qaW (qaW (m:=Builtin.Tuple.tupleExact _) (qaC (qaX ⟨_,rfl,qaX h⟩) htake))
end
end HT
namespace L2
open PySem PySem.Spec PyProof.Rows
noncomputable abbrev TO:=St->Hp->(Option Int->Hp->Prop)->Prop
def PO (X:Cx) (e:Option Expr) (t:TO):Prop:=
 ∀ (pins:List (Addr×Obj)) (s:Shared) (σ:St) (H:Hp) (Q:Option Int->Hp->Prop),Inv X pins σ H s->t σ H Q->
  wpAny (model X.prog X.w) X.A (evalPart e X.env) (fun u s'=> ∃ o H',Inv X pins σ H' s'/\IsPart u o/\Q o H') X.xe s
noncomputable def zrh:TO:=fun _ H Q=>Q none H
noncomputable def zu5 (t:TE):TO:=fun σ H Q=>t σ H fun x H1=> ∃ i,x= .int i/\Q (some i) H1
theorem zch {ns:List Int}: ∀ {us:List Value},zba (ns.map V.int) us->IntsAre us ns:=by
 induction ns with
 | nil=>intro us r;rw [List.map_nil] at r;cases r;exact .nil
 | cons n ns ih=>
  intro us r
  rw [qaM] at r
  cases r with
  | cons r1 r2=>
   obtain ⟨t,e⟩:=r1
   subst e
   exact .cons n t (ih r2)
section
variable {X:Cx} {e:Expr} {te:TE} {lo hi:Option Expr} {tl th:TO} {pos p2:Pos}
theorem zrj:PO X none zrh:=by
 intro pins s σ H Q I h
 rw [evalPart_none]
 exact qaX ⟨none,H,I,.none,h⟩
theorem zpM (h:PE X e te):PO X (some e) (zu5 te):=by
 intro pins s σ H Q I hw
 rw [evalPart_some]
 refine thn (h pins s σ H _ I hw) fun u s1 ⟨x,H1,I1,r1,q1⟩=> ?_
 obtain ⟨i,rfl,q⟩:=q1
 obtain ⟨t,rfl⟩:=r1
 exact ⟨some i,H1,I1,.int i t,q⟩
def SlR (X:Cx) (r:V->Option Int->Option Int->Hp->VK->Prop):Prop:=
 ∀ (pins:List (Addr×Obj)) (s:Shared) (σ:St) (H:Hp) (x:V) (v vl vu:Value) (lo hi:Option Int) (sl:Addr) (Q:VK),Inv X pins σ H s->zb4 x v->s.heap.IsSliceOf sl vl vu .none->IsPart vl lo->IsPart vu hi->r x lo hi H Q->
  ∃ T id,typeLookup (.type T) "__getitem__"=pure (some (.builtin id))/\s.TypeIs v T/\wpAny (model X.prog X.w) X.A (getItem v (.ref sl)) (EP X pins σ Q) X.xe s
theorem SlR.or {r r':V->Option Int->Option Int->Hp->VK->Prop} (h:SlR X r) (h':SlR X r'):SlR X (fun x lo hi H Q=>r x lo hi H Q\/r' x lo hi H Q):=by
 intro pins s σ H x v vl vu lo hi sl Q I rx hs pl pu q
 rcases q with q | q
 ·exact h pins s σ H x v vl vu lo hi sl Q I rx hs pl pu q
 ·exact h' pins s σ H x v vl vu lo hi sl Q I rx hs pl pu q
noncomputable def tSl (r:V->Option Int->Option Int->Hp->VK->Prop) (te:TE) (tl th:TO):TE:=fun σ H Q=>te σ H fun x H1=>tl σ H1 fun l H2=>th σ H2 fun u H3=>r x l u H3 Q
theorem zn2 {r:V->Option Int->Option Int->Hp->VK->Prop} (hr:SlR X r) (he:PE X e te) (hl:PO X lo tl) (hu:PO X hi th):PE X (.Subscript e (.Slice lo hi none p2) pos) (tSl r te tl th):=by
 intro pins s σ H Q I h
 refine Subscript_ (thn (he pins s σ H _ I h) fun v s1 ⟨x,H1,I1,r1,q1⟩=> ?_)
 refine wpAny_Slice (thn (hl pins s1 σ H1 _ I1 q1) fun vl s2 ⟨l,H2,I2,pl,q2⟩=>thn (hu pins s2 σ H2 _ I2 q2) fun vu s3 ⟨u,H3,I3,pu,q3⟩=> ?_)
 rw [evalPart_none]
 refine qaX ?_
 have I4:Inv X pins σ H3 {s3 with heap:=s3.heap.push {cls:= .type "slice",data:= .fields #[vl,vu,.none]}}:=I3.kept (t':=s3.toks) fun b ob q=>qag _ q
 obtain ⟨T,id,hT,ht,hg⟩:=hr pins {s3 with heap:=s3.heap.push {cls:= .type "slice",data:= .fields #[vl,vu,.none]}} σ H3 x v vl vu l u s3.heap.objs.size Q I4 r1 (Heap.IsSliceOf.new ..) pl pu q3
 show wpAny (model X.prog X.w) X.A (subscriptTail e (.Slice lo hi none p2) v (.ref s3.heap.objs.size)) (EP X pins σ Q) X.xe {s3 with heap:=s3.heap.push {cls:= .type "slice",data:= .fields #[vl,vu,.none]}}
 exact tail_any (ops:=[.ref s3.heap.objs.size,v]) ht hT hg (by with_unfolding_all rfl)
noncomputable def zoH (xs:List V) (lo hi:Option Int):List V:=(xs.drop (HT.sIx xs.length 0 lo)).take (HT.sIx xs.length xs.length hi - HT.sIx xs.length 0 lo)
theorem zfs (xs:List V) (lo hi:Option Int):(zoH xs lo hi).length<=xs.length:=by
 unfold zoH
 rw [List.length_take,List.length_drop]
 omega
noncomputable def zwn (K:W.Frag):V->Option Int->Option Int->Hp->VK->Prop:=fun x lo hi H Q=> ∃ a xs,x= .ref a/\SqT K H a xs/\
 ¬ (HT.sIx xs.length 0 lo=0/\HT.sIx xs.length xs.length hi=xs.length)/\ ∀ p,H p=none->Q (.ref p) (upd H p (.tup (zoH xs lo hi)))
theorem zrM:SlR X (zwn X.K):=by
 intro pins s σ H x v vl vu lo hi sl Q I rx hs pl pu h
 obtain ⟨a,xs,rfl,hx,hw,q⟩:=h
 cases rx
 obtain ⟨its,r,ht,hz⟩:=I.tuple hx
 have hlen:its.toArray.size=xs.length:=by rw [qaA];exact r.length.symm
 refine ⟨"tuple",_,PyProof.Rows.slot_tuple_getitem.lookup,ht.typeIs,?_⟩
 refine HT.zep ht hs pl pu (by rw [hlen];exact hw) ?_ (by rw [hlen];exact hz)
 rw [hlen]
 refine ⟨.ref s.heap.objs.size,_,I.laid (t':=s.toks) (o:= .tup (zoH xs lo hi)) (fun b ob q=>qag _ q) (qaV _) ?_,rfl,q _ (I.hok.fresh (qaV _))⟩
 exact ⟨qaS (zfs xs lo hi) hz,_,(r.drop (HT.sIx xs.length 0 lo)).take (HT.sIx xs.length xs.length hi - HT.sIx xs.length 0 lo),IsTup.new _ _⟩
noncomputable def zuF (K:W.Frag):R2:=fun x y H Q=> ∃ a b xs ys,x= .ref a/\y= .ref b/\SqT K H a xs/\SqT K H b ys/\xs≠[]/\xs.length+ys.length<=sizeLine/\
 (ys=[]->Q (.ref a) H)/\(ys≠[]-> ∀ p,H p=none->Q (.ref p) (upd H p (.tup (xs++ys))))
theorem zba.nil_iff {xs:List V} {us:List Value} (r:zba xs us):us=[]↔xs=[]:=by
 cases r with
 | nil=>simp
 | cons _ _=>simp
theorem zq1:OpR X (binaryOp .Add) (zuF X.K):=by
 intro pins s σ H x y v u Q I rx ry h
 obtain ⟨a,b,xs,ys,rfl,rfl,ha,hb,hx,hz,q1,q2⟩:=h
 cases rx
 cases ry
 obtain ⟨its,r1,p1,_⟩:=I.tuple ha
 obtain ⟨its2,r2,p2,_⟩:=I.tuple hb
 refine HT.zpv p1 p2 (fun z=>hx (r1.nil_iff.mp z)) (fun z=>⟨.ref a,H,I,rfl,q1 (r2.nil_iff.mp z)⟩) (fun z=> ?_) (by rw [<- r1.length, <-r2.length];exact hz)
 refine ⟨.ref s.heap.objs.size,_,I.laid (t':=s.toks) (o:= .tup (xs++ys)) (fun b ob q=>qag _ q) (qaV _) ?_,rfl,q2 (fun w=>z (r2.nil_iff.mpr w)) _ (I.hok.fresh (qaV _))⟩
 exact ⟨by rw [qav];exact hz,_,r1.append r2,IsTup.new _ _⟩
end
noncomputable def ixN (n:Nat) (i:Int):Option Nat:=if 0<=i then (if i<n then some i.toNat else none) else if -(n:Int)<=i then some (i+n).toNat else none
noncomputable def atI {α:Type} (xs:List α) (i:Int):Option α:=(ixN xs.length i).bind fun j=>xs[j]?
theorem zlP {n:Nat} {i:Int} {j:Nat} (h:ixN n i=some j):seqIndex? i n=some j/\j<n/\ -(n:Int)<=i/\i<n:=by
 unfold ixN at h
 by_cases h0:0<=i
 ·rw [qa4 h0] at h
  by_cases h1:i<n
  ·rw [qa4 h1] at h
   have e:i.toNat=j:=Option.some.inj h
   exact ⟨by rw [seqIndex_of h0 h1,e],by omega,by omega,h1⟩
  ·rw [qa5 h1] at h;cases h
 ·rw [qa5 h0] at h
  by_cases h1: -(n:Int)<=i
  ·rw [qa4 h1] at h
   have e:(i+n).toNat=j:=Option.some.inj h
   exact ⟨by rw [seqIndex_neg (by omega) h1,e],by omega,h1,by omega⟩
  ·rw [qa5 h1] at h;cases h
theorem zmf {α:Type} {xs:List α} {i:Int} {v:α} (h:atI xs i=some v): ∃ j,seqIndex? i xs.length=some j/\xs[j]? = some v/\j<xs.length/\ -(xs.length:Int)<=i/\i<xs.length:=by
 unfold atI at h
 cases e:ixN xs.length i with
 | none=>rw [e] at h;cases h
 | some j=>
  rw [e] at h
  obtain ⟨h1,h2,h3,h4⟩:=zlP e
  exact ⟨j,h1,h,h2,h3,h4⟩
theorem zfz {α:Type} {xs:List α} {j:Nat} {v:α} (h:xs[j]? = some v):atI xs (j:Int)=some v:=by
 have hj:j<xs.length:=(qac.mp h).1
 have e:ixN xs.length (j:Int)=some j:=by
  unfold ixN
  rw [qa4 (by omega),qa4 (by omega)];simp
 unfold atI;rw [e];exact h
def zgD (b:Expr):Prop:= ∀ o i,subscripted b false o i=operate [o,i] (getItem o i)
def IxR (X:Cx) (r:R2):Prop:=
 ∀ (value slice:Expr) (pins:List (Addr×Obj)) (s:Shared) (σ:St) (H:Hp) (x y:V) (v u:Value) (Q:VK),Inv X pins σ H s->zb4 x v->zb4 y u->r x y H Q->
  subscripted slice false v u=operate [v,u] (getItem v u)->wpAny (model X.prog X.w) X.A (subscriptTail value slice v u) (EP X pins σ Q) X.xe s
def MtR (X:Cx) (id:String) (r:V->List V->Hp->VK->Prop):Prop:=
 ∀ (pins:List (Addr×Obj)) (s:Shared) (σ:St) (H:Hp) (x:V) (xs:List V) (v:Value) (us:List Value) (Q:VK),Inv X pins σ H s->zb4 x v->zba xs us->r x xs H Q->
  wpAny (model X.prog X.w) X.A (call (.builtin id) (v::us)) (EP X pins σ Q) X.xe s
section
variable {X:Cx} {a b:Expr} {ta tb:TE} {pos:Pos}
theorem IxR.or {r r':R2} (h:IxR X r) (h':IxR X r'):IxR X (fun x y H Q=>r x y H Q\/r' x y H Q):=by
 intro value slice pins s σ H x y v u Q I rx ry q hs
 rcases q with q | q
 ·exact h value slice pins s σ H x y v u Q I rx ry q hs
 ·exact h' value slice pins s σ H x y v u Q I rx ry q hs
theorem MtR.or {id:String} {r r':V->List V->Hp->VK->Prop} (h:MtR X id r) (h':MtR X id r'):MtR X id (fun x xs H Q=>r x xs H Q\/r' x xs H Q):=by
 intro pins s σ H x xs v us Q I rx rs q
 rcases q with q | q
 ·exact h pins s σ H x xs v us Q I rx rs q
 ·exact h' pins s σ H x xs v us Q I rx rs q
theorem zuA {r:R2} (hr:IxR X r) (ha:PE X a ta) (hb:PE X b tb) (hs:zgD b):PE X (.Subscript a b pos) (tOp r ta tb):=by
 intro pins s σ H Q I h
 exact Subscript_ (zuY ha hb I h fun v u s2 x y H2 I2 rx ry q=>hr a b pins s2 σ H2 x y v u Q I2 rx ry q (hs _ _))
noncomputable def zwl (K:W.Frag):R2:=fun x y H Q=> ∃ p xs i v,x= .ref p/\y= .int i/\SqL K H p xs/\atI xs i=some v/\Q v H
noncomputable def zwq (K:W.Frag):R2:=fun x y H Q=> ∃ p xs i v,x= .ref p/\y= .int i/\SqT K H p xs/\atI xs i=some v/\Q v H
theorem zpQ:IxR X (zwl X.K):=by
 intro value slice pins s σ H x y v u Q I rx ry h hs
 obtain ⟨p,xs,i,z,rfl,rfl,hq,he,q⟩:=h
 cases rx
 obtain ⟨t,rfl⟩:=ry
 obtain ⟨its,r,pl,hz⟩:=I.list hq
 obtain ⟨j,h1,h2,h3,h4,h5⟩:=zmf he
 obtain ⟨w,ew,rw'⟩:=r.get h2
 have hl:=r.length
 have hn:=zjr
 have fin:EP X pins σ Q w s:=⟨z,H,I,rw',q⟩
 by_cases h0:0<=i
 ·have hj:i.toNat=j:=by
   rw [seqIndex_of h0 h5] at h1
   exact Option.some.inj h1
  exact item_listR pl.isList h0 (by omega) (by rw [hj];simpa using ew) fin hs
 ·have hj:(i+(its.toArray.size:Int)).toNat=j:=by
   rw [seqIndex_neg (by omega) h4] at h1
   rw [qaA, <-hl]
   exact Option.some.inj h1
  exact subscriptTail_builtinR (x:=w) pl.isList.typeIs slot_list_getitem.lookup
   (wpAny_getItem_list_neg (Q:=fun r s'=>r=w/\EP X pins σ Q r s') pl.isList (by omega) (by rw [qaA]<;>omega) (by omega) (by rw [hj];simpa using ew) ⟨rfl,fin⟩) hs
theorem zs7:IxR X (zwq X.K):=by
 intro value slice pins s σ H x y v u Q I rx ry h hs
 obtain ⟨p,xs,i,z,rfl,rfl,hq,he,q⟩:=h
 cases rx
 obtain ⟨t,rfl⟩:=ry
 obtain ⟨its,r,pl,hz⟩:=I.tuple hq
 obtain ⟨j,h1,h2,h3,h4,h5⟩:=zmf he
 obtain ⟨w,ew,rw'⟩:=r.get h2
 have hl:=r.length
 have hn:=zjr
 have fin:EP X pins σ Q w s:=⟨z,H,I,rw',q⟩
 exact subscriptTail_builtinR (x:=w) pl.typeIs slot_tuple_getitem.lookup
  (getItem_tuple (j:=j) (Q:=fun r s'=>r=w/\EP X pins σ Q r s') pl (by omega) (by omega) (by rw [qaA, <-hl];exact h1) (by simpa using ew) ⟨rfl,fin⟩) hs
theorem zkf (its:List Value) (n j:Nat) (u:Value):Obj.mapSeq (·.setIfInBounds j u) {cls:= .type "list",data:= .seq its.toArray n}={cls:= .type "list",data:= .seq (its.set j u).toArray n}:=by
 simp [Obj.mapSeq]
theorem Inv.lst {pins:List (Addr×Obj)} {σ:St} {H:Hp} {s:Shared} {p:Addr} {xs:List V} (I:Inv X pins σ H s) (h:H p=some (.lst xs)):
  ∃ (its:List Value) (n:Nat),zba xs its/\s.heap.get? p=some {cls:= .type "list",data:= .seq its.toArray n}/\xs.length<=sizeLine:=by
 obtain ⟨z,its,n,r,e⟩:=I.hok p _ h
 exact ⟨its,n,r,e,z⟩
theorem Inv.lstUpd {pins:List (Addr×Obj)} {σ:St} {H:Hp} {s:Shared} {p:Addr} {xs ys:List V} {its its':List Value} {n n':Nat} {f:Obj->Obj} (I:Inv X pins σ H s) (h:H p=some (.lst xs))
  (ho:s.heap.get? p=some {cls:= .type "list",data:= .seq its.toArray n}) (hf:f {cls:= .type "list",data:= .seq its.toArray n}={cls:= .type "list",data:= .seq its'.toArray n'}) (r:zba ys its') (hz:ys.length<=sizeLine) (t:Nat):
  Inv X pins σ (upd H p (.lst ys)) {s with heap:=s.heap.update p f,toks:=t}:=by
 have e:(s.heap.update p f).get? p=some {cls:= .type "list",data:= .seq its'.toArray n'}:=by
  rw [qal f ho (by rw [hf]<;>rfl),hf]
 refine I.write (x:=p) (e:=p) (by rw [h];trivial) (.inl rfl) (fun b u hb q=>(qah _ _ (Ne.symm hb)).trans q) ⟨_,e⟩ ?_
 exact ⟨hz,its',n',r,e⟩
noncomputable def zuz:V->V->V->Hp->(Hp->Prop)->Prop:=fun o i v H Q=> ∃ p xs k j,o= .ref p/\i= .int k/\H p=some (.lst xs)/\ixN xs.length k=some j/\Q (upd H p (.lst (xs.set j v)))
theorem znR:zpD X zuz:=by
 intro pins s σ H o i v ov iv u Q I ro ri rv h
 obtain ⟨p,xs,k,j,rfl,rfl,hp,hj,q⟩:=h
 cases ro
 obtain ⟨t,rfl⟩:=ri
 obtain ⟨its,n,r,ho,hz⟩:=I.lst hp
 obtain ⟨h1,h2,h3,h4⟩:=zlP hj
 have hl:=r.length
 have hn:=zjr
 have I':Inv X pins σ (upd H p (.lst (xs.set j v))) {s with heap:=s.heap.update p (Obj.mapSeq (·.setIfInBounds j u))}:=
  I.lstUpd hp ho (zkf its n j u) (r.set rv j) (by rw [qaI];exact hz) s.toks
 by_cases h0:0<=k
 ·have hk:k.toNat=j:=by
   rw [seqIndex_of h0 h4] at h1
   exact Option.some.inj h1
  exact W.ki_setAt ho h0 (by omega) (by rw [qaA, <-hl];exact h4) (by rw [hk];exact ⟨_,I',q⟩)
 ·have hk:(k+(its.toArray.size:Int)).toNat=j:=by
   rw [seqIndex_neg (by omega) h3] at h1
   rw [qaA, <-hl]
   exact Option.some.inj h1
  exact W.ki_setBack ho (by omega) (by rw [qaA, <-hl];exact h3) (by omega) (by rw [hk];exact ⟨_,I',q⟩)
theorem zhz (lo hi:Option Int) (n:Nat):(sliceBounds lo hi none n).1=((HT.sIx n 0 lo:Nat):Int)/\(sliceBounds lo hi none n).2.1=((HT.sIx n n hi:Nat):Int)/\(sliceBounds lo hi none n).2.2=1:=by
 refine ⟨?_,?_,rfl⟩
 ·cases lo with
  | none=>simp [sliceBounds,HT.sIx]
  | some i=>
   simp only [sliceBounds,HT.sIx,Option.getD_none,show (1:Int)>0 by decide,if_true]
   by_cases h:i<0
   ·simp only [h,if_true]<;>omega
   ·simp only [h,if_false]<;>omega
 ·cases hi with
  | none=>simp [sliceBounds,HT.sIx]
  | some i=>
   simp only [sliceBounds,HT.sIx,Option.getD_none,show (1:Int)>0 by decide,if_true]
   by_cases h:i<0
   ·simp only [h,if_true]<;>omega
   ·simp only [h,if_false]<;>omega
theorem zgd (its:List Value) (lo hi:Option Int):slicePick its.toArray lo hi none=((its.drop (HT.sIx its.length 0 lo)).take (HT.sIx its.length its.length hi - HT.sIx its.length 0 lo)).toArray:=by
 obtain ⟨h1,h2,h3⟩:=zhz lo hi its.toArray.size
 unfold slicePick
 rw [h1,h2,h3]
 simp only [sliceRange_one,pick_run,qaA]<;>rfl
noncomputable def zwu (K:W.Frag):V->Option Int->Option Int->Hp->VK->Prop:=fun x lo hi H Q=> ∃ a xs,x= .ref a/\SqL K H a xs/\ ∀ p,H p=none->Q (.ref p) (upd H p (.lst (zoH xs lo hi)))
theorem zqc:SlR X (zwu X.K):=by
 intro pins s σ H x v vl vu lo hi sl Q I rx hs pl pu h
 obtain ⟨a,xs,rfl,hx,q⟩:=h
 cases rx
 obtain ⟨its,r,ht,hz⟩:=I.list hx
 have hlen:=r.length
 refine ⟨"list",_,slot_list_getitem.lookup,ht.isList.typeIs,?_⟩
 refine wpAny_getItem_list_slice ht.isList hs pl pu .none (by simp) ?_ (by rw [qaA]<;>omega)
 rw [zgd, <-hlen]
 refine ⟨.ref s.heap.objs.size,_,I.laid (t':=s.toks) (o:= .lst (zoH xs lo hi)) (fun b ob q=>qag _ q) (qaV _) ?_,rfl,q _ (I.hok.fresh (qaV _))⟩
 exact ⟨qaS (zfs xs lo hi) hz,_,0,(r.drop (HT.sIx xs.length 0 lo)).take (HT.sIx xs.length xs.length hi - HT.sIx xs.length 0 lo),qar _ rfl⟩
theorem zg3:zaV X (.builtin "len") (fun xs H Q=> ∃ p ys,xs=[.ref p]/\(SqL X.K H p ys\/SqT X.K H p ys)/\Q (.int ys.length) H):=by
 intro pins s σ H xs us Q I r h
 obtain ⟨p,ys,rfl,hq,q⟩:=h
 obtain ⟨u,rfl,rx⟩:=zeP r
 cases rx
 have hn:=zjr
 rcases hq with hq | hq
 ·obtain ⟨its,r',pl,hz⟩:=I.list hq
  have hlen:=r'.length
  exact Calls.call_len_list pl.isList (by simp only [qaA]<;>omega) ⟨.int ys.length,H,I.tok _,⟨s.toks+1,by rw [qaA,hlen]⟩,q⟩
 ·obtain ⟨its,r',pl,hz⟩:=I.tuple hq
  have hlen:=r'.length
  exact len_tuple pl (by simp only [qaA]<;>omega) ⟨.int ys.length,H,I.tok _,⟨s.toks+1,by rw [qaA,hlen]⟩,q⟩
theorem zaV.or {f:Value} {r r':List V->Hp->VK->Prop} (h:zaV X f r) (h':zaV X f r'):zaV X f (fun xs H Q=>r xs H Q\/r' xs H Q):=by
 intro pins s σ H xs us Q I rs q
 rcases q with q | q
 ·exact h pins s σ H xs us Q I rs q
 ·exact h' pins s σ H xs us Q I rs q
theorem zgc:zaV X (.type "tuple") (fun xs H Q=> ∃ p ys,xs=[.ref p]/\((SqL X.K H p ys/\ ∀ l,H l=none->Q (.ref l) (upd H l (.tup ys)))\/(SqT X.K H p ys/\Q (.ref p) H))):=by
 intro pins s σ H xs us Q I r h
 obtain ⟨p,ys,rfl,h⟩:=h
 obtain ⟨u,rfl,rx⟩:=zeP r
 cases rx
 rcases h with ⟨hq,q⟩ | ⟨hq,q⟩
 ·obtain ⟨its,r',pl,hz⟩:=I.list hq
  have hlen:=r'.length
  refine call_tuple_list pl.isList (fun h' kp=> ?_) (by simp only [qaA]<;>omega)
  have I1:Inv X pins σ H {s with heap:=h'}:=I.kept (t':=s.toks) kp
  have I2:Inv X pins σ (upd H h'.objs.size (.tup ys)) {s with heap:=h'.push {cls:= .type "tuple",data:= .seq its.toArray}}:=
   I1.laid (t':=s.toks) (fun b o e=>qag _ e) (qaV _) (show zbV X.prog X.w _ _ _ (.tup ys) from ⟨hz,its,r',IsTup.new _ _⟩)
  exact ⟨.ref h'.objs.size,_,I2,rfl,q _ (I1.hok.fresh (qaV _))⟩
 ·obtain ⟨its,r',pl,hz⟩:=I.tuple hq
  exact call_tuple_same pl ⟨.ref p,H,I,rfl,q⟩
def tyV (K:W.Frag) (T:String) (x:V) (H:Hp):Prop:=match x with
 | .str _=>T="str"
 | .int _=>T="int"
 | .ref p=>(T="list"/\ ∃ xs,SqL K H p xs)\/(T="tuple"/\ ∃ o,K.lookup p=some o/\o.cls= .type "tuple"/\o.dict=none)\/
   (T="dict"/\((∃ kvs,H p=some (.dK kvs))\/ ∃ kvs,H p=some (.dT kvs)))\/(T="set"/\ ∃ S n,H p=some (.set S n))
 | _=>False
theorem ztM {pins:List (Addr×Obj)} {σ:St} {H:Hp} {s:Shared} {T:String} {x:V} {v:Value} (I:Inv X pins σ H s) (r:zb4 x v) (ty:tyV X.K T x H):
  s.TypeIs v T/\ ∀ a,v= .ref a-> ∃ ob,s.heap.get? a=some ob/\ob.dict=none:=by
 cases x with
 | str z=>
  obtain ⟨t,rfl⟩:=r
  cases (show T="str" from ty)
  exact ⟨typeIs_str s z t,fun _ e=>nomatch e⟩
 | int i=>
  obtain ⟨t,rfl⟩:=r
  cases (show T="int" from ty)
  exact ⟨typeIs_int s i t,fun _ e=>nomatch e⟩
 | ref p=>
  cases r
  rcases ty with ⟨rfl,xs,hq⟩ | ⟨rfl,o,hk,hc,hd⟩ | ⟨rfl,hk⟩ | ⟨rfl,S,n,hk⟩
  ·obtain ⟨its,_,pl,_⟩:=I.list hq
   refine ⟨pl.isList.typeIs,fun a e=> ?_⟩
   cases e
   obtain ⟨o,n,e,c,hd,_⟩:=pl
   exact ⟨o,e,hd⟩
  ·refine ⟨⟨o,I.kIn p o hk,hc⟩,fun a e=> ?_⟩
   cases e
   exact ⟨o,I.kIn _ o hk,hd⟩
  ·have z: ∃ o,s.heap.get? p=some o/\o.ExactDict:=by
    rcases hk with ⟨kvs,hk⟩ | ⟨kvs,hk⟩
    ·obtain ⟨_,_,_,_,o,_,_,e,ex,_⟩:=I.hok p _ hk
     exact ⟨o,e,ex⟩
    ·obtain ⟨_,_,_,_,o,_,_,e,ex,_⟩:=I.hok p _ hk
     exact ⟨o,e,ex⟩
   obtain ⟨o,e,ex⟩:=z
   refine ⟨⟨o,e,ex.1⟩,fun a e2=> ?_⟩
   cases e2
   exact ⟨o,e,ex.2.1⟩
  ·obtain ⟨o,_,_,_,e,ex,_⟩:=I.hok p _ hk
   refine ⟨⟨o,e,ex.1⟩,fun a e2=> ?_⟩
   cases e2
   exact ⟨o,e,ex.2.1⟩
 | _=>exact qa0 ty
noncomputable def tBM (K:W.Frag) (T:String) (r:V->List V->Hp->VK->Prop) (to:TE) (t:TA):TE:=fun σ H Q=>to σ H fun x H1=>tyV K T x H1/\t σ H1 fun xs H2=>r x xs H2 Q
variable {o e:Expr} {es:List Expr} {to:TE} {t:TA} {name:Str} {apos cpos:Pos} {T id:String} {r:V->List V->Hp->VK->Prop}
theorem zpH (pa:PlainAttrs T) (slot:Slot T name id) (hty:typeOf (.builtin id)=pure (.type "method_descriptor")) (hm:MtR X id r) (ho:PE X o to) (ha:PA X (e::es) t)
  (hbase:attributeBase o name X.env (eval o X.env)=eval o X.env:=by rfl)
  (hfew:((backTo cpos (starEach (e::es) X.env)).all (fun x=> !x.1) && (backToKw cpos (keywordEach [] X.env)).all (fun x=>x.1.isSome)
    && decide ((e::es).length+([]:List Keyword).length+(if ([]:List Keyword).isEmpty then 0 else 1)<30))=true:=by rfl)
  (hline:(apos.endLine==cpos.line)=true:=by rfl) (hs:starEach (e::es) X.env=(false,eval e X.env)::starEach es X.env:=by rfl) (hplain:(backTo cpos (starEach es X.env)).any (·.1)=false:=by rfl):
  PE X (.Call (.Attribute o name apos) (e::es) [] cpos) (tBM X.K T r to t):=by
 intro pins s σ H Q I h
 refine wpAny_Call_method_late hbase hfew hline rfl (thn (ho pins s σ H _ I h) fun v s1 ⟨x,H1,I1,r1,ty,q1⟩=> ?_)
 obtain ⟨h1,h2⟩:=ztM I1 r1 ty
 refine ⟨T,id,pa,slot,hty,h1,h2,?_⟩
 have hA:=ha cpos pins s1 σ H1 _ I1 q1
 rw [hs] at hA ⊢
 refine Calls.callWith_builtin (by show (false || (backTo cpos (starEach es X.env)).any (·.1))=false;rw [hplain]<;>rfl) (Calls.evalArgs_plain ?_)
 exact thn hA fun us s2 ⟨vs,H2,I2,r2,q2⟩=>hm pins s2 σ H2 x vs v us Q I2 r1 r2 q2
end
def MtM (X:Cx) (id:String) (r:V->List V->Hp->VK->Prop):Prop:=
 ∀ (pins:List (Addr×Obj)) (s:Shared) (σ:St) (H:Hp) (x:V) (xs:List V) (v:Value) (us:List Value) (Q:VK),Inv X pins σ H s->zb4 x v->zba xs us->r x xs H Q->
  wpAny (model X.prog X.w) X.A (call (.builtin id) (v::us)) (EP X pins σ Q) X.xe s
theorem zba.one: ∀ {x:V} {us:List Value},zba [x] us-> ∃ u,us=[u]/\zb4 x u
 | _,_,.cons r .nil=>⟨_,rfl,r⟩
theorem zba.zero: ∀ {us:List Value},zba [] us->us=[]
 | _,.nil=>rfl
theorem zba.eraseIdx: ∀ {xs:List V} {us:List Value} (i:Nat),zba xs us->zba (xs.eraseIdx i) (us.eraseIdx i)
 | _,_,_,.nil=> .nil
 | _,_,0,.cons _ t=>t
 | _,_,i+1,.cons r t=> .cons r (zba.eraseIdx i t)
theorem zba.reverse {xs:List V} {us:List Value} (h:zba xs us):zba xs.reverse us.reverse:=by
 induction h with
 | nil=>exact .nil
 | cons r t ih=>rw [List.reverse_cons,List.reverse_cons];exact zba.append ih (.cons r .nil)
theorem zba.rep {xs:List V} {us:List Value} (h:zba xs us): ∀ k:Nat,zba (List.replicate k xs).flatten (List.replicate k us).flatten
 | 0=> .nil
 | k+1=>by
  rw [List.replicate_succ,List.replicate_succ,List.flatten_cons,List.flatten_cons]
  exact zba.append h (zba.rep h k)
theorem zhs {α:Type}: ∀ (l:List α) (i:Nat),(l.eraseIdx i).length<=l.length
 | [],_=>qaV _
 | _::_,0=>Nat.le_succ _
 | _::r,i+1=>Nat.succ_le_succ (zhs r i)
theorem zfg (its:List Value): ∀ (k:Nat) (acc:List Value),
  List.foldl (fun x1 x2=>x1++x2) acc.toArray (List.replicate k its.toArray)=(acc++(List.replicate k its).flatten).toArray
 | 0,acc=>by simp
 | k+1,acc=>by
  have e:acc.toArray++its.toArray=(acc++its).toArray:=by simp
  have e2:(acc++its)++(List.replicate k its).flatten=acc++(List.replicate (k+1) its).flatten:=by
   rw [List.replicate_succ,List.flatten_cons,List.append_assoc]
  rw [<- e2, <-zfg its k (acc++its), <-e,List.replicate_succ,List.foldl_cons]
section
variable {X:Cx} {pins:List (Addr×Obj)} {σ:St} {H:Hp} {s:Shared} {l b:Addr} {xs ys zs:List V}
theorem Inv.lset {its its':List Value} {n:Nat} {f:Array Value->Array Value} {t':Nat} (I:Inv X pins σ H s) (hH:H l=some (.lst xs))
  (e:s.heap.get? l=some {cls:= .type "list",data:= .seq its.toArray n}) (hf:f its.toArray=its'.toArray) (hv:zba ys its') (hz:ys.length<=sizeLine):
  Inv X pins σ (upd H l (.lst ys)) {s with heap:=s.heap.update l (Obj.mapSeq f),toks:=t'}:=by
 have q:=PySem.IsL.update e f
 rw [hf] at q
 refine I.write (x:=l) (e:=l) (by rw [hH];exact trivial) (.inl rfl) (fun b' u hb hu=>(qah s.heap (Obj.mapSeq f) (Ne.symm hb)).trans hu) ⟨_,q⟩ ?_
 exact ⟨hz,its',_,hv,q⟩
theorem Inv.lnew {its:List Value} {t':Nat} (I:Inv X pins σ H s) (hv:zba ys its) (hz:ys.length<=sizeLine):
  Inv X pins σ (upd H s.heap.objs.size (.lst ys)) {s with heap:=s.heap.push {cls:= .type "list",data:= .seq its.toArray},toks:=t'}:=
 I.laid (fun _ _ q=>qag _ q) (qaV _) ⟨hz,its,0,hv,qar _ rfl⟩
theorem Inv.fresh (I:Inv X pins σ H s):H s.heap.objs.size=none:=I.hok.fresh (qaV _)
theorem Inv.lstM (I:Inv X pins σ H s) (hH:H l=some (.lst xs)):xs.length<=sizeLine/\ ∃ (its:List Value) (n:Nat),zba xs its/\xs.length=its.length/\s.heap.get? l=some {cls:= .type "list",data:= .seq its.toArray n}:=by
 obtain ⟨z,its,n,r,e⟩:=I.hok l _ hH
 exact ⟨z,its,n,r,r.length,e⟩
theorem zje {n:Nat} (h:n<=sizeLine):Builtin.List.listTooLong n=false:=by
 unfold Builtin.List.listTooLong
 exact decide_eq_false (by omega)
end
section
variable {X:Cx}
noncomputable def zp7:V->List V->Hp->VK->Prop:=fun x vs H Q=> ∃ l xs y,x= .ref l/\vs=[y]/\H l=some (.lst xs)/\xs.length<sizeLine/\Q .non (upd H l (.lst (xs++[y])))
theorem zhS:MtM X "list.append" zp7:=by
 intro pins s σ H x vs v us Q I rx rv h
 obtain ⟨l,xs,y,rfl,rfl,hH,hz,q⟩:=h
 cases rx
 obtain ⟨u,rfl,ru⟩:=rv.one
 obtain ⟨z,its,n,r,hl,e⟩:=I.lstM hH
 refine call_meets F.slot_list_append ⟨_,e,rfl⟩ F.entry_list_append (F.args_list_append_2 _ _) (PySem.list_append l its.toArray n u (by rw [qaA];omega)) ⟨e,?_⟩
 refine ⟨.non,_,I.lset (its':=its++[u]) hH e (by simp) (r.append (.cons ru .nil)) ?_,rfl,q⟩
 rw [qav,List.length_singleton]
 omega
noncomputable def zsQ:V->List V->Hp->VK->Prop:=fun x vs H Q=> ∃ l xs i k y,x= .ref l/\vs=[.int i]/\H l=some (.lst xs)/\ -(2^63)<=i/\i<2^63/\seqIndex? i xs.length=some k/\xs[k]? = some y/\Q y (upd H l (.lst (xs.eraseIdx k)))
theorem zm9:MtM X "list.pop" zsQ:=by
 intro pins s σ H x vs v us Q I rx rv h
 obtain ⟨l,xs,i,k,y,rfl,rfl,hH,h1,h2,hk,hy,q⟩:=h
 cases rx
 obtain ⟨u,rfl,ru⟩:=rv.one
 obtain ⟨t,rfl⟩:=ru
 obtain ⟨z,its,n,r,hl,e⟩:=I.lstM hH
 obtain ⟨w,hw,rw'⟩:=r.get hy
 refine call_meets F.slot_list_pop ⟨_,e,rfl⟩ F.entry_list_pop (F.args_list_pop_2 _ _)
  (MeetsSeq.list_pop_at l its.toArray n i t k w (fitsIndex_both h1 h2) (by rw [qaA, <-hl];exact hk) (by rw [<- Array.getElem?_toList];exact hw) (by rw [qaA];omega)) ⟨e,?_⟩
 refine ⟨y,_,I.lset (its':=its.eraseIdx k) hH e ?_ (r.eraseIdx k) ?_,rw',q⟩
 ·show its.toArray.eraseIdxIfInBounds k=(its.eraseIdx k).toArray
  rw [List.eraseIdxIfInBounds_toArray]
 ·have:=zhs xs k
  omega
noncomputable def zwN:R2:=fun x y H Q=> ∃ l b xs zs,x= .ref l/\y= .ref b/\H l=some (.lst xs)/\H b=some (.lst zs)/\xs.length+zs.length<=sizeLine/\ ∀ p,H p=none->Q (.ref p) (upd H p (.lst (xs++zs)))
theorem ztL:OpR X (binaryOp .Add) zwN:=by
 intro pins s σ H x y v u Q I rx ry h
 obtain ⟨l,b,xs,zs,rfl,rfl,hH,hB,hz,q⟩:=h
 cases rx
 cases ry
 obtain ⟨z,its,n,r,hl,e⟩:=I.lstM hH
 obtain ⟨z2,its2,n2,r2,hl2,e2⟩:=I.lstM hB
 refine PySem.P.add_list e e2 ?_ (by rw [qaA,qaA];omega)
 have ea:its.toArray++its2.toArray=(its++its2).toArray:=by simp
 rw [ea]
 exact ⟨.ref _,_,I.lnew (t':=s.toks) (r.append r2) (by rw [qav];omega),rfl,q _ I.fresh⟩
noncomputable def zwt:R2:=fun x y H Q=> ∃ l k xs,x= .ref l/\y= .int k/\H l=some (.lst xs)/\ -(2^63)<=k/\k<2^63/\xs.length*k.toNat<=sizeLine/\
 ∀ p,H p=none->Q (.ref p) (upd H p (.lst (List.replicate k.toNat xs).flatten))
theorem zmi {α:Type} (xs:List α) (k:Nat):(List.replicate k xs).flatten.length=k*xs.length:=by
 induction k with
 | zero=>simp
 | succ k ih=>rw [List.replicate_succ,List.flatten_cons,qav,ih,Nat.succ_mul,Nat.add_comm]
theorem zrS:OpR X (binaryOp .Mult) zwt:=by
 intro pins s σ H x y v u Q I rx ry h
 obtain ⟨l,k,xs,rfl,rfl,hH,h1,h2,hz,q⟩:=h
 cases rx
 obtain ⟨t,rfl⟩:=ry
 obtain ⟨z,its,n,r,hl,e⟩:=I.lstM hH
 have hlen:its.toArray.size*k.toNat<=sizeLine:=by rw [qaA, <-hl];exact hz
 have hcap: ¬its.toArray.size*k.toNat>(2^63 - 1) / 8:=by
  have:(sizeLine:Nat)<=(2^63 - 1) / 8:=by decide
  omega
 have hfit: ¬(!Builtin.List.listFitsIndex k)=true:=by
  rw [fitsIndex_both h1 h2]
  exact Bool.false_ne_true
 have hlong: ¬Builtin.List.listTooLong (its.toArray.size*k.toNat)=true:=by
  rw [zje hlen]
  exact Bool.false_ne_true
 have hnew:List.foldl (fun x1 x2=>x1++x2) #[] (List.replicate (if its.toArray.isEmpty=true then 0 else k.toNat) its.toArray)=(List.replicate k.toNat its).flatten.toArray:=by
  have f0: ∀ m:Nat,List.foldl (fun x1 x2=>x1++x2) #[] (List.replicate m its.toArray)=(List.replicate m its).flatten.toArray:=fun m=>by
   have:=zfg its m []
   rw [List.nil_append] at this
   exact this
  rw [f0]
  cases its with
  | nil=>simp
  | cons a r'=>rw [qa5 (by simp)]
 refine wpAny_binaryOp_repeat_ref (T:="list") (U:="int") (by decide) ⟨_,e,rfl⟩ (fun s'=>typeIs_int s' k t) noFill_list_mul F.fills_int_mul F.slot_int_rmul repeat_list F.slot_int_index.lookup
  (call_meets F.slot_int_rmul (typeIs_int s k t) F.entry_int_rmul (F.args_int_rmul_2 _ _) (int___rmul___int_list k t l its.toArray n)
    ⟨e,rfl,⟨_,e,rfl⟩,call_meets F.slot_list_mul ⟨_,e,rfl⟩ F.entry_list_mul (F.args_list_mul_2 _ _) (AutoListH.list___mul___list_int_3 l its.toArray n k t hfit hcap hlong) ⟨e,?_⟩⟩)
 rw [hnew]
 exact ⟨.ref _,_,I.lnew (t':=s.toks) (r.rep k.toNat) (by rw [zmi,Nat.mul_comm];exact hz),rfl,q _ I.fresh⟩
end
section
variable {prog:Program} {w:World} {A:Around} {E:Value->Shared->Prop} {s:Shared}
end
section
variable {X:Cx}
end
end L2
namespace Att
open PySem PySem.W PySem.Calls PyProof.Rows
theorem ze7 {P:Params} {h:Heap}: ∀ (ns:List Int) (vs:List Value),WellAll P h vs (ns.map WData.int)->IntsAre vs ns:=by
 intro ns
 induction ns with
 | nil=>
  intro vs w
  rw [List.map_nil] at w
  cases w
  exact .nil
 | cons n ns ih=>
  intro vs w
  rw [qaM] at w
  cases w with
  | cons a b=>
   cases a
   exact .cons _ _ (ih _ b)
theorem zlB {l:OpenLaw} {n:Nat} (hn:l.most=some n) {P:Params} {h:Heap} {args:List WData} {vals:List Value}
  (hpre:l.row.toRowW.claim.pre args=true) (hwl:WellAll P h vals args):
  ∃ a vs ns,vals=[Value.ref a]/\args=[WData.list (ns.map WData.int)]/\h.get? a=some {cls:= .type "list",data:= .seq vs.toArray}/\IntsAre vs ns/\ns.length<=n:=by
 have hsh:WShape.hasAll [] args [.list .int]=true:=(pre_splitW hpre).1
 have hc:l.pre.holds [] {args:=args}=true:=(pre_splitW hpre).2
 obtain ⟨d,r,rfl,h1,h2⟩:=hasAllW_cons hsh
 obtain rfl:=hasAllW_nil h2
 obtain ⟨xs,rfl,h3⟩:=hasW_list h1
 obtain ⟨ns,rfl⟩:=items_int h3
 have hlen:ns.length<=n:=by
  unfold OpenLaw.pre at hc
  have h4:(WTm.not (.lt (.lit (.int (n:Int))) (.len (.arg 0)))).holds [] {args:=[.list (ns.map .int)]}=true:=by
   have h4:=(holds_andW hc).1
   rw [hn] at h4
   exact h4
  have h5:=condW_of h4 (w_not (w_lt w_lit (w_len_list (w_arg rfl))))
  rw [qaH] at h5
  refine Nat.le_of_not_lt fun q=> ?_
  have q':(n:Int)<((ns.length:Nat):Int):=by omega
  first
   | (rw [decide_eq_true q'] at h5;exact absurd h5 (by decide))
   | (simp at h5;omega)
 cases hwl with
 | cons w1 w2=>
  cases w2
  cases w1 with
  | list ho hall=>exact ⟨_,_,ns,rfl,rfl,ho,ze7 ns _ hall,hlen⟩
theorem zkR (l:OpenLaw) (args:List WData):l.row.toRowW.claim.post args (.bool true) args=true:=
 postW_of (r:=l.row.toRowW) (X:=(true==true))
  (show WShape.has [] (.bool true) .bool=true by first | rfl | decide | simp [WShape.has,WShape.arms,WShape.armsAll])
  (show (WTm.eq .res (.lit (.bool true))).value [] {args:=args,res:=some (.bool true),after:=args}=some (.bool (true==true)) from w_eq_bool (w_res rfl) w_lit) rfl
theorem zit {l:OpenLaw} {n:Nat} {q:Program} {loose:List Str} {XP:(Str->Option Value)->Heap->Prop} {YP:World->Heap->Prop} {d:DefRec}
  (hn:l.most=some n) (hdf:d.params.defaults=[])
  (call: ∀ (w:World) (s₀ s₁:Shared) (mg mb:Str->Option Value) (fa:Addr) (o:Obj) (pm cd doc:Value) (a:Addr) (vs:List Value) (ns:List Int),
    Ground q loose [] XP w s₀ mg mb s₁.heap->YP w s₁.heap->
    s₁.heap.get? fa=some o->o.data= .func (docDef d.name d.params d.body d.scope pm cd doc)->s₁.heap.CodeRec cd d.name->mg d.name=some (.ref fa)->
    s₁.heap.get? a=some {cls:= .type "list",data:= .seq vs.toArray}->IntsAre vs ns->ns.length<=n->s₁.gens= #[]->
    codeAny (model l.prog w) callerA (.call (.ref fa) ⟨[.ref a],[]⟩) (fun r s'=>r= .ok (.ret (.bool true))/\OldK s₁.heap s'.heap/\s'.os=s₁.os/\AllBare s'.gens) s₁):
  WalkO q loose XP YP l.row.toRowW d [] (fun f vs=>PySem.call f vs):=by
 intro w s₀ s₁ mg mb G Y fa o pm cd doc dV kV ho hd hcd hD hmg hg args vals as hpre hlay hrd hwl hlo
 obtain rfl:dV= .none:=Dflts.none hD hdf
 obtain rfl:kV= .none:=Dflts.noKw hD
 obtain ⟨a,vs,ns,rfl,rfl,hobj,hints,hlen⟩:=zlB hn hpre hwl
 refine enter_call (codeAny_mono (call w s₀ s₁ mg mb fa o pm cd doc a vs ns G Y ho (fd_plain hd) hcd hmg hobj hints hlen hg) fun r s' hq=> ?_)
 obtain ⟨rfl,h2,h3,h4⟩:=hq
 exact ⟨.inl ⟨.bool true,.bool true,[],rfl,fun _=>rfl,.bool true,zkR l _,fun _=>⟨List.Pairwise.nil,fun _ hm=>(nomatch hm)⟩⟩,h2,h3,h4⟩
section
variable {prog:Program} {w:World} {A:Around} {E:Value->Shared->Prop} {s:Shared} {K:Frag}
end
end Att
namespace L2
open PySem PySem.Spec PyProof.Rows
theorem ze9: ∀ {vs:List Value} {ns:List Int},IntsAre vs ns->zba (ns.map V.int) vs
 | _,_,.nil=> .nil
 | _,_,.cons n t h=> .cons ⟨t,rfl⟩ (ze9 h)
def zuP (H:Hp):Prop:= ∀ b,H b=none\/ ∃ o xs,H b=some (.frz o (.lst xs))
theorem zop {P:Program} {w:World} {K:W.Frag} {mg mb:Str->Option Value} {CX:CXT} {k:Nat} {fa a:Addr} {fd:FuncData} {x:Str} {sp:Sp} {s₁:Shared} {vs:List Value} {ns:List Int}
  (KX:K.In s₁.heap) (hns:s₁.heap.Ns mainGlobals mg) (hb:s₁.heap.Ns builtinsNs mb) (hbb: ∀ x:Str,x≠"__name__"->mb x=bootBuiltins x) (hlim:s₁.heap.NoLimit) (hg:s₁.gens= #[])
  (ha:s₁.heap.get? a=some {cls:= .type "list",data:= .seq vs.toArray}) (hi:IntsAre vs ns) (hl:ns.length<=sizeLine) (hr:zeq k callerA)
  (F: ∀ base:Heap,K.In base->base.Ns mainGlobals mg->zbr P w K mg base CX k fa fd [x] sp) (hbind: ∀ (s:Shared) (u:Value),BindsTo s fd ⟨[u],[]⟩ [(x,u)])
  (hsp: ∀ H:Hp,zuP H->SqL K H a (ns.map V.int)->sp [.ref a] H (fun v _=>v= .bl true) fun _ _ _=>False)
  (hCX: ∀ H e s',CX [] H s₁ (fun _ _ _=>False) e s'->False):
  codeAny (model P w) callerA (.call (.ref fa) ⟨[.ref a],[]⟩) (fun r s'=>r= .ok (.ret (.bool true))/\OldK s₁.heap s'.heap/\s'.os=s₁.os/\AllBare s'.gens) s₁:=by
 have rv:=ze9 hi
 have lenV:=hi.length
 have core: ∀ H:Hp,zuP H->SqL K H a (ns.map V.int)->HOk P w H s₁.heap->(∀ b,H b≠none->b=a)->(H a≠none->K.lookup a=none)->
   codeAny (model P w) callerA (.call (.ref fa) ⟨[.ref a],[]⟩) (fun r s'=>r= .ok (.ret (.bool true))/\OldK s₁.heap s'.heap/\s'.os=s₁.os/\AllBare s'.gens) s₁:=by
  intro H hO hS hok hA hK
  have base_of: ∀ {b:Addr} {o:Obj},s₁.heap.get? b=some o->H b=none->(zne s₁.heap H).get? b=some o:=fun e n=>zn5 e n
  have noA: ∀ {b:Addr} {o:Obj} {es:Array DictEntry} {ep:Nat},s₁.heap.get? b=some o->o.data= .dict es ep->H b=none:=fun {b o es ep} e d=>by
   cases q:H b with
   | none=>rfl
   | some u=>
    have e':b=a:=hA b (by rw [q];simp)
    subst e'
    rw [ha] at e;cases e
    have d':Data.seq vs.toArray _=Data.dict es ep:=d
    cases d'
  have nsK: ∀ {b:Addr} {m:Str->Option Value},s₁.heap.Ns b m->(zne s₁.heap H).Ns b m:=fun {b m} ⟨o,es,ep,e,d,r⟩=>⟨o,es,ep,base_of e (noA e d),d,r⟩
  have hKb:K.In (zne s₁.heap H):=fun b o e=>base_of (KX b o e) (by
    cases q:H b with
    | none=>rfl
    | some u=>
      have e':b=a:=hA b (by rw [q];simp)
      subst e'
      rw [hK (by rw [q];simp)] at e;cases e)
  have hM:Mod K mg (zne s₁.heap H):=⟨hKb,nsK hns,⟨mb,nsK hb,hbb⟩,let ⟨mc,h1,h2⟩:=hlim;⟨mc,nsK h1,h2⟩⟩
  have e0:zo3 P w K mg (zne s₁.heap H) callerA [] s₁ H:=⟨rfl,hM,fun b o e=>zrn e,Nat.le_of_eq (zmD _ _),trivial,fun b hb=>absurd (show b∈([]:List Addr) from hb) (by simp),hok,.of_eq hg,.inl rfl⟩
  refine codeAny_mono ((F _ hKb (nsK hns)).run callerA [] s₁ H ⟨[.ref a],[]⟩ [.ref a] [.ref a] _ _ hr e0 (hbind s₁ (.ref a)) (.cons rfl .nil) (hsp H hO hS)) fun r s' h=> ?_
  cases r with
  | error e=>exact (hCX H e s' h).elim
  | ok fl=>
   cases fl with
   | next=>exact qa0 h
   | brk=>exact qa0 h
   | cont=>exact qa0 h
   | ret u=>
    obtain ⟨v,H',os,bare,un,hok',r',q⟩:=h
    have q':v= .bl true:=q
    subst q'
    obtain rfl:u=Value.bool true:=r'
    refine ⟨rfl,OldK.of_keep fun b o e=> ?_,os,bare⟩
    cases q:H b with
    | none=>exact un.keep b o e q (by intro z;exact absurd (show b∈([]:List Addr) from z) (by simp)) (by simp)
    | some u=>
     rcases hO b with z | ⟨ob,xs,z⟩
     ·rw [q] at z;cases z
     ·have z2:=un.frzs b ob _ z
      obtain ⟨e1,_⟩:=hok b _ z
      obtain ⟨e2,_⟩:=hok' b _ z2
      rw [e] at e1;cases e1
      exact e2
 cases hk:K.lookup a with
 | some o=>
  have e:=KX a o hk
  rw [ha] at e
  cases e
  refine core (fun _=>none) (fun _=> .inl rfl) (.inr ⟨_,vs.toArray,_,hk,rfl,rfl,rfl,by rw [qaA,lenV];exact hl,by simpa using rv⟩) (fun b u z=>by have z':(none:Option HO)=some u:=z;cases z') (fun b z=>absurd rfl z) fun z=>absurd rfl z
 | none=>
  refine core (fun b=>if b=a then some (.frz {cls:= .type "list",data:= .seq vs.toArray} (.lst (ns.map V.int))) else none) (fun b=> ?_) (.inl (.inr ⟨{cls:= .type "list",data:= .seq vs.toArray},qa4 rfl⟩)) (fun b u z=> ?_) (fun b z=> ?_) fun _=>hk
  ·by_cases hb:b=a
   ·exact .inr ⟨_,_,qa4 hb⟩
   ·exact .inl (qa5 hb)
  ·by_cases hb:b=a
   ·have z':=(qa4 hb).symm.trans z
    cases z'
    subst hb
    exact ⟨ha,by rw [qaH];exact hl,vs,_,rv,ha⟩
   ·have z':=(qa5 hb).symm.trans z
    cases z'
  ·by_cases hb:b=a
   ·exact hb
   ·exact absurd (qa5 hb) z
theorem zpW {l:W.OpenLaw} {n k:Nat} {q:Program} {loose:List Str} {XP:(Str->Option Value)->Heap->Prop} {YP:World->Heap->Prop} {d:DefRec} {K:Params->W.Frag} {CX:World->CXT} {sp:World->Sp} {x:Str}
  (hn:l.most=some n) (hn2:n<=sizeLine) (hdf:d.params.defaults=[]) (hr:zeq k callerA)
  (hY: ∀ (w:World) (h:Heap),YP w h->(K w.params).In h)
  (F: ∀ (w:World) (mg:Str->Option Value) (fa:Addr) (h:Heap),(K w.params).In h->h.Ns mainGlobals mg->mg d.name=some (.ref fa)->
    ∃ fd:FuncData,(∀ (s:Shared) (u:Value),BindsTo s fd ⟨[u],[]⟩ [(x,u)])/\
      ∀ base:Heap,(K w.params).In base->base.Ns mainGlobals mg->zbr l.prog w (K w.params) mg base (CX w) k fa fd [x] (sp w))
  (hsp: ∀ (w:World) (H:Hp) (a:Addr) (ns:List Int),ns.length<=n->zuP H->SqL (K w.params) H a (ns.map V.int)->sp w [.ref a] H (fun v _=>v= .bl true) fun _ _ _=>False)
  (hCX: ∀ (w:World) (H:Hp) (s:Shared) (e:Value) (s':Shared),CX w [] H s (fun _ _ _=>False) e s'->False):
  W.WalkO q loose XP YP l.row.toRowW d [] (fun f vs=>PySem.call f vs):=by
 refine Att.zit hn hdf fun w s₀ s₁ mg mb fa o pm cd doc a vs ns G Y ho hd hcd hmg hobj hints hlen hg=> ?_
 have KX:=hY w _ Y
 obtain ⟨fd,hb,hF⟩:=F w mg fa _ KX G.T.g hmg
 exact zop KX G.T.g G.T.b G.T.builtins G.T.nolimit hg hobj hints (qaS hlen hn2) hr hF hb (fun H hO hS=>hsp w H a ns hlen hO hS) fun H e s'=>hCX w H s₁ e s'
noncomputable def zer (s:Stmt):Arguments:=match s with
 | .FunctionDef _ a _ _ _ _ _ _ _ _=>a
 | _=>{posonlyargs:=[],args:=[],vararg:=none,kwonlyargs:=[],kw_defaults:=[],kwarg:=none,defaults:=[]}
noncomputable def zdy (s:Stmt):List Stmt:=match s with
 | .FunctionDef _ _ b _ _ _ _ _ _ _=>b
 | _=>[]
noncomputable def zae (s:Stmt):Scope:=match s with
 | .FunctionDef _ _ _ _ _ _ sc _ _ _=>sc
 | _=>{kind:= .function,names:=[],isGenerator:=false,isCoroutine:=false}
noncomputable abbrev CX0:CXT:=fun _ _ _ _ _ _=>False
noncomputable abbrev E0:XK:=fun _ _ _=>False
theorem zuL {X:Cx}:zl9 CX0 X E0:=fun _ _ _ _ _ _ _ h=>h.elim
structure Fun (K:W.Frag) (x qual:Str) (st:Stmt) (f:Addr) (fd:FuncData):Prop where
 ex: ∃ (oc:Value) (od:Option Addr) (kV doc pm:Value) (an:Option Addr) (cdv ct:Value) (osl:Array (Option Value)),
  fd=W.fnOf x qual (zer st) (zdy st) (zae st) .none kV doc pm an cdv ct/\K.lookup f=some ⟨oc,od,.func fd,osl⟩/\W.codeIn K cdv qual=true
 kp:W.keepIn K (.ref f)=true
section
variable {P:Program} {w:World} {K:W.Frag} {mg:Str->Option Value} {base:Heap}
theorem Fun.ok {x qual:Str} {st:Stmt} {f:Addr} {fd:FuncData} {N ps:List Str} {k:Nat} {sp:Sp} (F:Fun K x qual st f fd) (S:zap N ps (zae st)) (len: ∀ vs H Q E,sp vs H Q E->vs.length=ps.length)
  (hbody: ∀ (cdv:Value) (A:Around) (outer:List Env) (s:Shared) (H:Hp) (vs:List V) (Q:VK) (E:XK),zeq k (A.deeper (envOfC qual (zae st) s.heap.objs.size f cdv))->sp vs H Q E->
    ∃ t,PSs (zp6 CX0 P w K mg base N qual (zae st) f cdv A outer s H E).nox (zdy st) t/\t {nx:=fun _ H'=>Q .non H',rt:=Q} (zfQ N vs) H):zbr P w K mg base CX0 (k+1) f fd ps sp:=by
 obtain ⟨oc,od,kV,doc,pm,an,cdv,ct,osl,rfl,lk,hcd⟩:=F.ex
 refine zuG lk hcd S len fun A outer s H vs Q E hr hsp=> ?_
 obtain ⟨t,h,q⟩:=hbody cdv A outer s H vs Q E hr hsp
 exact ⟨t,h.nox,q⟩
theorem Fun.binds {x qual:Str} {st:Stmt} {f:Addr} {fd:FuncData} {ps:List Str} (F:Fun K x qual st f fd)
  (h: ∀ (kV doc pm:Value) (an:Option Addr) (cdv ct:Value) (us:List Value),us.length=ps.length->bindArgs (W.fnOf x qual (zer st) (zdy st) (zae st) .none kV doc pm an cdv ct) ⟨us,[]⟩=pure (ps.zip us)):zaE K fd ps []:=by
 obtain ⟨oc,od,kV,doc,pm,an,cdv,ct,osl,rfl,lk,hcd⟩:=F.ex
 exact .all (h kV doc pm an cdv ct)
theorem zax {x qual:Str} {st:Stmt} {f:Addr} {oc:Value} {od an:Option Addr} {osl:Array (Option Value)} {kV doc pm cdv ct:Value} (l:K.lookup f=some ⟨oc,od,.func (W.fnOf x qual (zer st) (zdy st) (zae st) .none kV doc pm an cdv ct),osl⟩)
  (c:W.codeIn K cdv qual=true) (k:W.keepIn K (.ref f)=true):Fun K x qual st f (W.fnOf x qual (zer st) (zdy st) (zae st) .none kV doc pm an cdv ct):=⟨⟨oc,od,kV,doc,pm,an,cdv,ct,osl,rfl,l,c⟩,k⟩
end
section
variable {X:Cx}
theorem pv (i:Nat) {x:Str} {pos:Pos} (hN:X.N[i]? = some x:=by rfl) (hv:Vis X.env.scope x:=by first | exact Or.inl rfl | exact Or.inr (Or.inl rfl) | exact Or.inr (Or.inr rfl)) (hd:(x==("__debug__":Str))=false:=by decide)
  (hcd:(x==("__classdict__":Str))=false:=by decide):PE X (.Name x pos) (zvZ i):=zo7 hN hv hd hcd
end
theorem zqf {A B:Prop} (h:B):if false=true then A else B:=by
 rw [qa5 Bool.false_ne_true]
 exact h
theorem zqP {A B:Prop} (h:A):if true=true then A else B:=by
 rw [qa4 rfl]
 exact h
def zmV (H H':Hp):Prop:= ∀ b o,H b=some o->H' b=some o
theorem zmV.refl (H:Hp):zmV H H:=fun _ _ h=>h
theorem zmV.trans {H H1 H2:Hp} (a:zmV H H1) (b:zmV H1 H2):zmV H H2:=fun c o h=>b c o (a c o h)
theorem zmV.free {H H':Hp} (e:zmV H H') {l:Addr} (h:H' l=Option.none):H l=Option.none:=by
 cases q:H l with
 | none=>rfl
 | some o=>
  rw [e l o q] at h
  cases h
theorem zmV.seq {K:W.Frag} {H H':Hp} {a:Addr} {xs:List V} (e:zmV H H') (h:SqL K H a xs):SqL K H' a xs:=by
 rcases h with (h | ⟨o,h⟩) | h
 ·exact .inl (.inl (e _ _ h))
 ·exact .inl (.inr ⟨o,e _ _ h⟩)
 ·exact .inr h
noncomputable def zbI (cells:List (Str×Addr)):List (Str×NameKind)->List (Str×Addr)->List (Str×Addr)
 | [],acc=>acc
 | (n,k)::r,acc=>if k== .free then zbI cells r ((n,(cells.lookup n).getD 0)::acc) else zbI cells r acc
theorem zek {scope:Scope} {env:Env} (h: ∀ x∈scope.names,x.2= .free-> ∃ c,env.cells.lookup x.1=some c):closureFor scope env=pure (zbI env.cells scope.names []):=by
 simp only [closureFor]
 generalize hn:scope.names=names at h
 clear hn
 generalize hacc:([]:List (Str×Addr))=acc
 clear hacc
 have key: ∀ (names:List (Str×NameKind)) (acc:List (Str×Addr)),(∀ x∈names,x.2= .free-> ∃ c,env.cells.lookup x.1=some c)->
   (forIn (m:=Sem) names acc fun (x:Str×NameKind) (r:List (Str×Addr))=>(match x with
     | (name,kind)=>if (kind==NameKind.free)=true then do
         let a<-cellOf env name
         pure (ForInStep.yield ((name,a)::r))
       else pure (ForInStep.yield r)))=pure (zbI env.cells names acc):=by
  intro names
  induction names with
  | nil=>intro acc _;rfl
  | cons x r ih=>
   intro acc h
   obtain ⟨n,k⟩:=x
   rw [List.forIn_cons]
   unfold zbI
   by_cases hk:(k==NameKind.free)=true
   ·simp only [hk,if_true]
    obtain ⟨c,hc⟩:=h (n,k) qau (by simpa using hk)
    have e:cellOf env n=pure c:=by unfold cellOf;rw [show env.cells.lookup n=some c from hc]
    rw [e,show (env.cells.lookup n).getD 0=c by rw [show env.cells.lookup n=some c from hc];rfl]
    exact ih _ fun y hy=>h y (qan _ hy)
   ·simp only [hk,if_false]
    exact ih _ fun y hy=>h y (qan _ hy)
 have k:=key names acc h
 refine Eq.trans (congrArg (fun (z:Sem (List (Str×Addr)))=>z>>=fun r=>pure r) k) ?_
 rfl
theorem zeA {cells:List (Str×Addr)}: ∀ {names:List (Str×NameKind)} {acc:List (Str×Addr)} {n:Str} {c:Addr},(n,c)∈zbI cells names acc->
  (n,c)∈acc\/((n,NameKind.free)∈names/\c=(cells.lookup n).getD 0)
 | [],_,_,_,h=> .inl h
 | (y,k)::r,acc,n,c,h=>by
  unfold zbI at h
  by_cases hk:(k==NameKind.free)=true
  ·rw [qa4 hk] at h
   have ek:k= .free:=by simpa using hk
   subst ek
   rcases zeA h with h | ⟨h1,h2⟩
   ·rcases qaP.mp h with e | h
    ·cases e
     exact .inr ⟨qau,rfl⟩
    ·exact .inl h
   ·exact .inr ⟨qan _ h1,h2⟩
  ·rw [qa5 hk] at h
   rcases zeA h with h | ⟨h1,h2⟩
   ·exact .inl h
   ·exact .inr ⟨qan _ h1,h2⟩
theorem zd0 {cells:List (Str×Addr)} {x:Str} {c:Addr} (hc:cells.lookup x=some c): ∀ (names:List (Str×NameKind)) (acc:List (Str×Addr)),((x,NameKind.free)∈names\/acc.lookup x=some c)->(zbI cells names acc).lookup x=some c
 | [],acc,h=>h.elim (fun z=>nomatch z) id
 | (y,k)::r,acc,h=>by
  unfold zbI
  by_cases hk:(k==NameKind.free)=true
  ·rw [qa4 hk]
   refine zd0 hc r _ ?_
   by_cases hy:x=y
   ·subst hy
    exact .inr (by rw [List.lookup_cons,beq_self_eq_true,hc];rfl)
   ·rcases h with h | h
    ·rcases qaP.mp h with e | h
     ·cases e;exact absurd rfl hy
     ·exact .inl h
    ·refine .inr ?_
     rw [List.lookup_cons,show (x==y)=false by simpa using hy]
     exact h
  ·rw [qa5 hk]
   refine zd0 hc r _ ?_
   rcases h with h | h
   ·rcases qaP.mp h with e | h
    ·cases e;exact absurd rfl hk
    ·exact .inl h
   ·exact .inr h
theorem zc1: ∀ {names:List (Str×NameKind)} {n:Nat} {acc:List (Str×Addr)} {x:Str} {c:Addr},(x,c)∈cellsFrom n names acc->(x,c)∈acc\/(n<=c/\(x,NameKind.cell)∈names)
 | [],_,_,_,_,h=> .inl h
 | (y,k)::r,n,acc,x,c,h=>by
  unfold cellsFrom at h
  by_cases hk:(k==NameKind.cell)=true
  ·rw [qa4 hk] at h
   have ek:k= .cell:=by simpa using hk
   subst ek
   rcases zc1 h with h | ⟨h,h'⟩
   ·rcases qaP.mp h with e | h
    ·cases e;exact .inr ⟨qaV _,qau⟩
    ·exact .inl h
   ·exact .inr ⟨Nat.le_of_succ_le h,qan _ h'⟩
  ·rw [qa5 hk] at h
   rcases zc1 h with h | ⟨h,h'⟩
   ·exact .inl h
   ·exact .inr ⟨h,qan _ h'⟩
theorem zcm {x:Str} {c:Addr}: ∀ (names:List (Str×NameKind)) (n:Nat) (acc:List (Str×Addr)),(x,NameKind.cell)∉names->acc.lookup x=some c->(cellsFrom n names acc).lookup x=some c
 | [],_,_,_,h=>h
 | (y,k)::r,n,acc,hn,h=>by
  unfold cellsFrom
  by_cases hk:(k==NameKind.cell)=true
  ·rw [qa4 hk]
   have ek:k= .cell:=by simpa using hk
   subst ek
   refine zcm r _ _ (fun z=>hn (qan _ z)) ?_
   have hy:x≠y:=fun e=>hn (by rw [e];exact qau)
   rw [List.lookup_cons,show (x==y)=false by simpa using hy]
   exact h
  ·rw [qa5 hk]
   exact zcm r _ _ (fun z=>hn (qan _ z)) h
theorem zcn: ∀ (names:List (Str×NameKind)) (n:Nat) (acc:List (Str×Addr)),(∀ x c,(x,c)∈acc->c<n)->(acc.Pairwise fun x y=>x.2≠y.2)->(cellsFrom n names acc).Pairwise fun x y=>x.2≠y.2
 | [],_,_,_,h=>h
 | (y,k)::r,n,acc,hlt,h=>by
  unfold cellsFrom
  by_cases hk:(k==NameKind.cell)=true
  ·rw [qa4 hk]
   refine zcn r (n+1) _ (fun x c hm=> ?_) (qay.mpr ⟨fun z hz e=> ?_,h⟩)
   ·rcases qaP.mp hm with e | hm
    ·cases e;exact Nat.lt_succ_self _
    ·exact Nat.lt_succ_of_lt (hlt x c hm)
   ·have:=hlt z.1 z.2 hz
    have e':n=z.2:=e
    exact qaN _ (e'▸this)
  ·rw [qa5 hk]
   exact zcn r n acc hlt h
noncomputable def zrk (env:Env) (scope:Scope) (C:Addr):Env:=
 {scope:=relabel scope env,locals:=C,globals:=env.globals,cells:=cellsFrom (C+1) scope.names (zbI env.cells scope.names []),qual:=env.qual,func:=none,code:=env.code,frame:=env.frame,builtins:=env.builtins}
section
variable {M:Model} {A:Around} {E:Value->Shared->Prop} {s:Shared}
theorem zfK {scope:Scope} {env:Env} {cl:List (Str×Addr)} {Q:Env->Shared->Prop}
  (hQ: ∀ h',(∀ b o,s.heap.get? b=some o->h'.get? b=some o)->h'.Ns s.heap.objs.size (fun _=>none)->(∀ x c,(x,NameKind.cell)∈scope.names->(x,c)∈cellsFrom (s.heap.objs.size+1) scope.names cl->(x,c)∉cl->h'.IsCell c none)->
    Q {scope,locals:=s.heap.objs.size,globals:=env.globals,cells:=cellsFrom (s.heap.objs.size+1) scope.names cl,qual:=env.qual,func:=none,code:=env.code,frame:=env.frame,builtins:=env.builtins} {s with heap:=h'}):
  wpAny M A (newFunctionEnv scope env.globals cl [] env.qual none .none (some env)) Q E s:=by
 simp only [newFunctionEnv,Option.isSome_some,if_true]
 refine qaW (wpAny_alloc ?_)
 refine qaW (wpAny_layCells _ (fun name kind cells=>by cases hkc:kind==NameKind.cell<;>simp [hkc]) _ _ _ _ ?_)
 simp only [List.forIn_nil]
 refine qaW (qaX (qaX ?_))
 rw [show ({s with heap:=s.heap.push {cls:= .type "dict",data:= .dict #[]}}:Shared).heap.objs.size=s.heap.objs.size+1 from qaL ..]
 have key: ∀ (names:List (Str×NameKind)) (h:Heap) (acc:List (Str×Addr)) (x:Str) (c:Addr),(x,c)∈cellsFrom h.objs.size names acc->(x,c)∉acc->(pushCells h names).IsCell c none:=by
  intro names
  induction names with
  | nil=>intro h acc x c hm hn;exact absurd hm hn
  | cons y r ih=>
   intro h acc x c hm hn
   obtain ⟨n,k⟩:=y
   unfold cellsFrom at hm
   unfold pushCells
   by_cases hk:(k==NameKind.cell)=true
   ·rw [qa4 hk] at hm ⊢
    by_cases hin:(x,c)∈((n,h.objs.size)::acc)
    ·rcases qaP.mp hin with e | e
     ·cases e
      exact ⟨_,pushCells_keeps _ _ _ _ (qar _ rfl),rfl⟩
     ·exact absurd e hn
    ·refine ih (h.push {cls:= .type "cell",data:= .cell none}) ((n,h.objs.size)::acc) x c ?_ hin
     rw [qaL]
     exact hm
   ·rw [qa5 hk] at hm ⊢
    exact ih h acc x c hm hn
 refine hQ _ (fun b o e=>pushCells_keeps _ _ b o (qag _ e)) ((Heap.Ns.new s.heap (.type "dict")).keeps (pushCells_keeps _ _)) fun x c _ hm hn=> ?_
 refine key scope.names _ cl x c ?_ hn
 rw [qaL]
 exact hm
end
section
variable {prog:Program} {w:World} {A:Around} {E:Value->Shared->Prop} {R:Result->Shared->Prop} {s:Shared}
theorem zh1 {elt target iter:Expr} {ifs:List Expr} {scope:Scope} {pos:Pos} {it acc:Value} {env:Env} (I:Nat->Shared->Prop)
  (turn: ∀ n s,I n s->wpAny (model prog w) A (pyNext it) (fun r s₁=>match r with
    | none=>R (.ok .next) s₁
    | some v=>wpAny (model prog w) A (letOwnedTupleGo target it v) (fun _ s₁'=>wpAny (model prog w) A (assign target env v) (fun _ s₂=>
        wpAny (model prog w) A (forIn ifs true fun c r=>if r=true then do let ok<-isTrue c env (eval c env);pure (ForInStep.yield ok) else pure (ForInStep.yield r)) (fun ok s₃=>
          if ok=true then wpAny (model prog w) A (eval elt env) (fun x s₄=>
            wpAny (model prog w) A (call (.builtin "list.append") [acc,x]) (fun _ s₅=> ∃ m,m<n/\I m s₅) (fun _ _=>False) s₄) (fun _ _=>False) s₃
          else ∃ m,m<n/\I m s₃) (fun _ _=>False) s₂) (fun _ _=>False) s₁') (fun _ _=>False) s₁) (fun _ _=>False) s)
  (n:Nat) (h:I n s):
  codeAny (model prog w) A (.compLoop (.ListComp elt [⟨target,iter,ifs,0⟩] scope pos) 0 it acc env) R s:=by
 refine codeAny_loop rfl I (fun n s hI=> ?_) n h
 show wpAny _ A ((compTurn (.ListComp elt [⟨target,iter,ifs,0⟩] scope pos) 0 it acc env).onRaise (fun x=>do noteFrame x env;theTreesLotGoes x)) _ _ s
 refine wpAny_noted ?_
 rw [compTurn_list]
 refine qaW (wpAny_standAt (qaW (qaZ (turn n s hI) (fun r s₁ h₁=> ?_) fun _ _ h'=>h'.elim)))
 cases r with
 | none=>exact qaX h₁
 | some v=>
  refine qaW (qaZ h₁ (fun _ s₁' h₁'=> ?_) fun _ _ h'=>h'.elim)
  refine qaW (qaZ h₁' (fun _ s₂ h₂=>qaW (qaZ h₂ (fun ok s₃ h₃=> ?_) fun _ _ h'=>h'.elim)) fun _ _ h'=>h'.elim)
  cases ok with
  | false=>exact qaX ⟨rfl,h₃⟩
  | true=>
   exact qaW (qaW (qaZ h₃ (fun x s₄ h₄=>qaW (qaZ h₄ (fun _ s₅ h₅=>qaX (qaX ⟨rfl,h₅⟩)) fun _ _ h'=>h'.elim)) fun _ _ h'=>h'.elim))
end
noncomputable abbrev cxB (X:Cx) (scope:Scope) (N:List Str) (s:Shared) (H:Hp) (fp:List Addr):Cx:=
 {prog:=X.prog,w:=X.w,K:=X.K,mg:=X.mg,base:=X.base,A:=X.A,N:=N,s₀:=s,H₀:=H,env:=zrk X.env scope s.heap.objs.size,outer:=X.stack,stack:=X.stack,ex:=fp,
   fn:=fun x=>scope.names.lookup x==some .cell,calm:=X.calm,pn:=[],xe:=fun _ _=>False}
noncomputable def zoX (Xn:List (Str×NameKind)) (XN:List Str) (names:List (Str×NameKind)) (N:List Str) (src:List (Option Nat)):Bool:=
 decide N.Nodup && decide (names.map (·.1)).Nodup && (src.length==N.length) &&
 names.all (fun x=>x.2 != .local || names.lookup x.1==some .local) &&
 names.all (fun x=>x.2 != .cell || names.lookup x.1==some .cell) &&
 names.all (fun x=>x.2 != .free || Xn.lookup x.1==some .cell || Xn.lookup x.1==some .free) &&
 (N.zip src).all (fun p=>match p.2 with
   | none=>true
   | some i=>XN[i]? == some p.1 && names.lookup p.1==some .free)
structure BOk (X:Cx) (scope:Scope) (N:List Str) (src:List (Option Nat)):Prop where
 kind:scope.kind= .function
 nd:N.Nodup
 keys:(scope.names.map (·.1)).Nodup
 len:src.length=N.length
 locs: ∀ x∈scope.names,x.2= .local->scope.names.lookup x.1=some .local
 cels: ∀ x∈scope.names,x.2= .cell->scope.names.lookup x.1=some .cell
 free: ∀ x∈scope.names,x.2= .free->X.env.kindOf x.1=some .cell\/X.env.kindOf x.1=some .free
 src: ∀ (k i:Nat) (x:Str),src[k]? = some (some i)->N[k]? = some x->X.N[i]? = some x/\scope.names.lookup x=some .free
theorem BOk.of {X:Cx} {scope:Scope} {N:List Str} {src:List (Option Nat)} {Xn:List (Str×NameKind)} {XN:List Str} (hk:scope.kind= .function) (hX:X.env.scope.names=Xn) (hN:X.N=XN)
  (h:zoX Xn XN scope.names N src=true):BOk X scope N src:=by
 unfold zoX at h
 simp only [qaG,qaD,List.all_eq_true,beq_iff_eq] at h
 obtain ⟨⟨⟨⟨⟨⟨h1,h2⟩,h3⟩,h4⟩,h4'⟩,h5⟩,h6⟩:=h
 refine ⟨hk,h1,h2,h3,fun x hx e=> ?_,fun x hx e=> ?_,fun x hx e=> ?_,fun k i x e1 e2=> ?_⟩
 ·have:=h4 x hx
  rw [e] at this
  simpa using this
 ·have:=h4' x hx
  rw [e] at this
  simpa using this
 ·have:=h5 x hx
  rw [e] at this
  unfold Env.kindOf
  rw [hX]
  simpa using this
 ·have hm:(x,some i)∈N.zip src:=by
   refine List.mem_iff_getElem?.mpr ⟨k,?_⟩
   rw [List.getElem?_zip_eq_some]
   exact ⟨e2,e1⟩
  have:=h6 _ hm
  dsimp only at this
  simp only [qaG,beq_iff_eq] at this
  rw [hN]
  exact this
noncomputable def bStart (src:List (Option Nat)) (σ:St):St:=src.map fun o=>o.bind fun i=>(σ[i]?).join
theorem zfP {scope:Scope} {env:Env} {x:Str}:(relabel scope env).names.lookup x=(scope.names.lookup x).map fun k=>if (k== .free && env.scope.kind== .function && env.kindOf x==some .cell) then .cell else k:=by
 show List.lookup x (scope.names.map _)=_
 induction scope.names with
 | nil=>rfl
 | cons y r ih=>
  obtain ⟨n,k⟩:=y
  rw [qaM]
  dsimp only
  by_cases hx:x=n
  ·subst hx
   by_cases hc:(k==NameKind.free && env.scope.kind== .function && env.kindOf x==some .cell)=true
   ·rw [qa4 hc,List.lookup_cons,List.lookup_cons,beq_self_eq_true]
    dsimp only [Option.map]
    rw [qa4 hc]
   ·rw [qa5 hc,List.lookup_cons,List.lookup_cons,beq_self_eq_true]
    dsimp only [Option.map]
    rw [qa5 hc]
  ·have hb:(x==n)=false:=by simpa using hx
   by_cases hc:(k==NameKind.free && env.scope.kind== .function && env.kindOf n==some .cell)=true
   ·rw [qa4 hc,List.lookup_cons,List.lookup_cons,hb]
    exact ih
   ·rw [qa5 hc,List.lookup_cons,List.lookup_cons,hb]
    exact ih
section
variable {X:Cx} {pins:List (Addr×Obj)} {σ:St} {H:Hp} {s:Shared} {scope:Scope} {N:List Str} {src:List (Option Nat)} {fp:List Addr}
theorem zpJ (I:Inv X pins σ H s) (B:BOk X scope N src) {x:Str} {c:Addr} (h:(x,c)∈zbI X.env.cells scope.names []):X.env.cells.lookup x=some c/\(x,NameKind.free)∈scope.names:=by
 rcases zeA h with z | ⟨z,e⟩
 ·exact nomatch z
 ·obtain ⟨c',hc⟩:=I.ok.has x (B.free _ z rfl)
  rw [hc] at e
  exact ⟨by rw [hc,e];rfl,z⟩
theorem zhL {l:List (Str×NameKind)} (h:(l.map (·.1)).Nodup) {x:Str} {j k:NameKind} (a:(x,j)∈l) (b:(x,k)∈l):j=k:=by
 induction l with
 | nil=>exact nomatch a
 | cons y r ih=>
  obtain ⟨h1,h2⟩:=List.nodup_cons.mp (show (y.1::r.map (·.1)).Nodup from h)
  rcases qaP.mp a with e | a<;>rcases qaP.mp b with e' | b
  ·rw [<- e] at e';cases e';rfl
  ·exact absurd (qaU.mpr ⟨_,b,by rw [<- e]⟩) h1
  ·exact absurd (qaU.mpr ⟨_,a,by rw [<- e']⟩) h1
  ·exact ih h2 a b
theorem zeu (I:Inv X pins σ H s): ∀ (names:List (Str×NameKind)) (acc:List (Str×Addr)),(∀ x∈names,x.2= .free-> ∃ c,X.env.cells.lookup x.1=some c)->(names.map (·.1)).Nodup->(∀ x c,(x,c)∈acc->X.env.cells.lookup x=some c/\x∉names.map (·.1))->
  (acc.Pairwise fun x y=>x.2≠y.2)->(zbI X.env.cells names acc).Pairwise fun x y=>x.2≠y.2
 | [],_,_,_,_,h=>h
 | (n,k)::r,acc,hf,nd,ha,h=>by
  unfold zbI
  obtain ⟨h1,h2⟩:=List.nodup_cons.mp (show (n::r.map (·.1)).Nodup from nd)
  by_cases hk:(k==NameKind.free)=true
  ·rw [qa4 hk]
   obtain ⟨c,hc⟩:=hf (n,k) qau (by simpa using hk)
   have hc:X.env.cells.lookup n=some c:=hc
   rw [show (X.env.cells.lookup n).getD 0=c by rw [hc];rfl]
   refine zeu I r _ (fun x hx=>hf x (qan _ hx)) h2 (fun x c' hm=> ?_) (qay.mpr ⟨fun y hy e=> ?_,h⟩)
   ·rcases qaP.mp hm with e | hm
    ·cases e;exact ⟨hc,h1⟩
    ·exact ⟨(ha x c' hm).1,fun z=>(ha x c' hm).2 (qan _ z)⟩
   ·obtain ⟨q1,q2⟩:=ha y.1 y.2 hy
    have e':c=y.2:=e
    rw [<- e'] at q1
    have:=I.ok.inj _ _ _ hc q1
    exact q2 (by rw [<- this];exact qau)
  ·rw [qa5 hk]
   exact zeu I r acc (fun x hx=>hf x (qan _ hx)) h2 (fun x c' hm=>⟨(ha x c' hm).1,fun z=>(ha x c' hm).2 (qan _ z)⟩) h
theorem zlE (I:Inv X pins σ H s) (B:BOk X scope N src) (hf: ∀ b∈fp,zjM X pins H b) (hfo: ∀ b∈fp, ∃ o,s.heap.get? b=some o) {h':Heap} (hk: ∀ b o,s.heap.get? b=some o->h'.get? b=some o) (hns:h'.Ns s.heap.objs.size (fun _=>none))
  (hce: ∀ x c,(x,NameKind.cell)∈scope.names->(x,c)∈cellsFrom (s.heap.objs.size+1) scope.names (zbI X.env.cells scope.names [])->(x,c)∉zbI X.env.cells scope.names []->h'.IsCell c none):
  Inv (cxB X scope N s H fp) [] (bStart src σ) H {s with heap:=h'}:=by
 have cin: ∀ {x:Str} {c:Addr},(x,c)∈zbI X.env.cells scope.names []->X.env.cells.lookup x=some c/\(x,NameKind.free)∈scope.names:=fun h=>zpJ I B h
 have old: ∀ {x:Str} {c:Addr},X.env.cells.lookup x=some c->c<s.heap.objs.size:=fun {x c} h=>(let ⟨_,q⟩:=I.cell x c h;q.lt)
 have all: ∀ {x:Str} {c:Addr},(x,c)∈cellsFrom (s.heap.objs.size+1) scope.names (zbI X.env.cells scope.names [])->(X.env.cells.lookup x=some c/\(x,NameKind.free)∈scope.names)\/(s.heap.objs.size<c/\(x,NameKind.cell)∈scope.names):=fun {x c} h=>by
  rcases zc1 h with z | ⟨z,z'⟩
  ·exact .inl (cin z)
  ·exact .inr ⟨z,z'⟩
 have lk: ∀ {x:Str} {c:Addr},(zrk X.env scope s.heap.objs.size).cells.lookup x=some c->(x,c)∈cellsFrom (s.heap.objs.size+1) scope.names (zbI X.env.cells scope.names []):=fun h=>PySem.mem_of_lookup h
 have hasF: ∀ x∈scope.names,x.2= .free-> ∃ c,X.env.cells.lookup x.1=some c:=fun x hx e=>I.ok.has x.1 (B.free x hx e)
 have ap:(cellsFrom (s.heap.objs.size+1) scope.names (zbI X.env.cells scope.names [])).Pairwise fun x y=>x.2≠y.2:=
  zcn _ _ _ (fun x c hm=>Nat.lt_succ_of_lt (old (cin hm).1)) (zeu I scope.names [] hasF B.keys (fun _ _ z=>nomatch z) .nil)
 have outer: ∀ {x:Str} {c:Addr},(x,NameKind.free)∈scope.names->X.env.cells.lookup x=some c->(zrk X.env scope s.heap.objs.size).cells.lookup x=some c:=fun {x c} h1 h2=>
  zcm _ _ _ (fun z=>nomatch zhL B.keys h1 z) (zd0 h2 scope.names [] (.inl h1))
 have kinds: ∀ x,(zrk X.env scope s.heap.objs.size).kindOf x=(scope.names.lookup x).map fun k=>if (k== .free && X.env.scope.kind== .function && X.env.kindOf x==some .cell) then .cell else k:=fun x=>zfP
 have ckind: ∀ x,((zrk X.env scope s.heap.objs.size).kindOf x=some .cell\/(zrk X.env scope s.heap.objs.size).kindOf x=some .free)->scope.names.lookup x=some .cell\/scope.names.lookup x=some .free:=fun x h=>by
  rw [kinds x] at h
  cases e:scope.names.lookup x with
  | none=>rw [e] at h;simp at h
  | some k=>
   rw [e] at h
   cases k<;>simp at h ⊢
 refine ⟨⟨I.ok.mod,B.kind,I.ok.glob,I.ok.blt,qaV _,fun x y c h1 h2=>name_of_addr ap (lk h1) (lk h2),fun x hx=> ?_,fun x c hfn hx=> ?_,I.ok.hd,I.handA,I.ok.frames,.inl rfl,fun b hb=> ?_,I.bs,qaS I.ok.bsz I.sz,fun b o e hb=> ?_,fun b hb hb'=> ?_,I.stack,I.stkFree⟩,
   rfl,I.bare,Un.kept hk,⟨_,hns,fun i x v h1 h2 h3=> ?_⟩,fun x c h=> ?_,I.hok.fresh (qaV _),fun x c h=> ?_,fun p hp=>absurd (show p∈([]:List (Addr×Obj)) from hp) (by simp),I.hok.kept hk,?_⟩
 ·-- has
  rcases ckind x hx with h | h
  ·exact Option.isSome_iff_exists.mp (W.cellsFrom_some scope.names _ _ (.inl h))
  ·have hm:=PySem.mem_of_lookup h
   obtain ⟨c,hc⟩:=hasF _ hm rfl
   exact ⟨c,outer hm hc⟩
 ·-- cab
  have hfn:scope.names.lookup x=some .cell:=by simpa using hfn
  rcases all (lk hx) with ⟨_,z⟩ | ⟨z,_⟩
  ·exact absurd (zhL B.keys z (PySem.mem_of_lookup hfn)) (by decide)
  ·exact Nat.le_of_lt z
 ·-- exf
  obtain ⟨o,ho⟩:=hfo b hb
  refine ⟨qaR (qaQ ho),fun x c hx z=> ?_⟩
  rcases all (lk hx) with ⟨q,_⟩ | ⟨q,_⟩
  ·exact (hf b hb).2.2.2.2.1 x c q z
  ·have:=qaQ ho
   rw [<- z] at this
   exact qaN _ (Nat.lt_trans q this)
 ·-- noex
  rcases (hf b hb).2.2.2.1 with z | z
  ·exact I.ok.noex b o e z
  ·exact qaN _ (qaw (qaw (qaQ e) I.ok.bsz) z)
 ·-- exfs
  rcases qaP.mp (I.stkSub b hb') with z | z
  ·exact (hf b hb).2.1 z
  ·exact (hf b hb).2.2.1 z
 ·-- loc
  unfold bStart at h2
  rw [List.getElem?_map] at h2
  cases e:src[i]? with
  | none=>rw [e] at h2;cases h2
  | some o=>
   rw [e] at h2
   cases o with
   | none=>cases h2
   | some j=>
    have h2:(σ[j]?).join=some v:=by simpa using h2
    have e3:σ[j]? = some (some v):=by
     cases q:σ[j]? with
     | none=>rw [q] at h2;cases h2
     | some z=>rw [q] at h2;simp at h2;rw [h2]
    obtain ⟨b1,b2⟩:=B.src i j x e h1
    have hm:=PySem.mem_of_lookup b2
    obtain ⟨m,hn,hl⟩:=I.loc
    have hfr:=B.free _ hm rfl
    obtain ⟨u,r,l⟩:=hl j x v b1 e3 (.inr hfr)
    rcases l with ⟨k,_⟩ | ⟨k,c,hc,q⟩
    ·rcases hfr with z | z<;>(have z':=k.symm.trans z;cases z')
    ·refine ⟨u,r,.inr ⟨?_,c,outer hm hc,q.keeps hk⟩⟩
     rw [kinds x,b2]
     dsimp only [Option.map]
     split
     ·exact .inl rfl
     ·exact .inr rfl
 ·-- cell
  rcases all (lk h) with ⟨q,_⟩ | ⟨q,q'⟩
  ·obtain ⟨v,z⟩:=I.cell x c q
   exact ⟨v,z.keeps hk⟩
  ·exact ⟨none,hce x c q' (lk h) fun z=>absurd (Nat.lt_trans q (old (cin z).1)) (qaN _)⟩
 ·-- freeC
  rcases all (lk h) with ⟨q,_⟩ | ⟨q,q'⟩
  ·exact I.freeC x c q
  ·exact I.hok.fresh (Nat.le_of_lt q)
 ·unfold bStart
  rw [qaH]
  exact B.len
end
def PCs (X:Cx) (ifs:List Expr) (t:TT):Prop:=
 ∀ (pins:List (Addr×Obj)) (s:Shared) (σ:St) (H:Hp) (Q:Bool->Hp->Prop),Inv X pins σ H s->t σ H Q->
  wpAny (model X.prog X.w) X.A (forIn ifs true fun c r=>if r=true then do let ok<-isTrue c X.env (eval c X.env);pure (ForInStep.yield ok) else pure (ForInStep.yield r)) (TP X pins σ Q) X.xe s
noncomputable def zwi:TT:=fun _ H Q=>Q true H
theorem zpU {X:Cx}:PCs X [] zwi:=fun pins s σ H Q I h=>wpAny_tests_nil ⟨H,I,h⟩
theorem zqU {X:Cx} {c:Expr} {t:TT} (h:PT X c t):PCs X [c] t:=fun pins s σ H Q I hw=>wpAny_tests_one (h pins s σ H Q I hw)
def zvt (J:It) (g:TG) (tc:TT) (te:TE) (σ0:St) (H1:Hp) (D:Addr) (Q:Hp->Prop):Prop:=
 ∃ W:Nat->Nat->St->Hp->Prop,(∃ m,W 0 m σ0 (upd H1 D (.lst [])))/\ ∀ i m σ' H',W i m σ' H'->
  (J.stop i H'/\Q H')\/(J.go i H'/\ ∃ Nn:St->Hp->Prop,(∀ σ2 H2,Nn σ2 H2-> ∃ m',m'<m/\W (i+1) m' σ2 H2)/\ ∀ x H2,J.yld i H' x H2->g x σ' H2 fun σ2 H3=>tc σ2 H3 fun b H4=>
    if b=true then te σ2 H4 fun y H5=> ∃ xs,H5 D=some (.lst xs)/\xs.length<sizeLine/\Nn σ2 (upd H5 D (.lst (xs++[y]))) else Nn σ2 H4)
section
variable {X:Cx} {scope:Scope} {N:List Str} {src:List (Option Nat)} {tg iter elt:Expr} {ifs:List Expr} {pos:Pos}
theorem zjF {pins:List (Addr×Obj)} {σ:St} {H:Hp} {s₂:Shared} {it:Addr} {fp:List Addr} {tn:Nat->Heap->Prop} {J:It} {g:TG} {tc:TT} {te:TE} {Q:Addr->Hp->Prop} {E:Value->Shared->Prop} {RR:Value->Addr->Result->Shared->Prop}
  (B:BOk X scope N src)
  (hg: ∀ s H fp,PG (cxB X scope N s H fp) tg g) (ht: ∀ s H fp,PCs (cxB X scope N s H fp) ifs tc) (he: ∀ s H fp,PE (cxB X scope N s H fp) elt te)
  (I2:Inv X pins σ H s₂) (T:zp1 X.prog X.w X.K tg J fp it tn) (st2:tn 0 s₂.heap) (f2: ∀ b∈fp,zjM X pins H b) (hw: ∀ D,H D=none->zvt J g tc te (bStart src σ) H D (Q D))
  (hRR: ∀ D C H' s' m,Inv X pins σ H' s'->s'.heap.Ns C m->s₂.heap.objs.size<=C->C<s'.heap.objs.size->H' C=none->Q D H'->RR (.ref D) C (.ok .next) s'):
  wpAny (model X.prog X.w) X.A (newList []) (fun acc s₃=>wpAny (model X.prog X.w) X.A (newFunctionEnv scope X.env.globals (zbI X.env.cells scope.names []) [] X.env.qual none .none (some X.env)) (fun cenv s₄=>
    codeAny (model X.prog X.w) X.A (.compStart (.ListComp elt [⟨tg,iter,ifs,0⟩] scope pos) 0 (.ref it) acc {cenv with scope:=relabel scope X.env}) (RR acc cenv.locals) s₄) E s₃) E s₂:=by
 refine qaC (zfK fun h₁ hk₁ hns₁ hce₁=> ?_)
 dsimp only at hk₁ hns₁ hce₁ ⊢
 have hfresh:H s₂.heap.objs.size=none:=I2.hok.fresh (qaV _)
 have I3:Inv X pins σ (upd H s₂.heap.objs.size (.lst [])) {s₂ with heap:=s₂.heap.push {cls:= .type "list",dict:=none,data:= .seq ([]:List Value).toArray}}:=by
  have:=I2.lnew (its:=[]) (ys:=[]) (t':=s₂.toks) .nil (Nat.zero_le _)
  exact this
 obtain ⟨W,⟨m0,w0⟩,turn⟩:=hw _ hfresh
 generalize hD:s₂.heap.objs.size=D at*
 generalize hs3:({s₂ with heap:=s₂.heap.push {cls:= .type "list",dict:=none,data:= .seq ([]:List Value).toArray}}:Shared)=s₃ at*
 have hh3:s₂.heap.push {cls:= .type "list",dict:=none,data:= .seq ([]:List Value).toArray}=s₃.heap:=by rw [<- hs3]
 rw [hh3] at hk₁ hns₁ hce₁ ⊢
 have push3: ∀ b o,s₂.heap.get? b=some o->s₃.heap.get? b=some o:=fun b o e=>by rw [<- hs3];exact qag _ e
 have sz3:s₃.heap.objs.size=D+1:=by rw [<- hs3, <-hD];exact qaL ..
 have fpo: ∀ b∈fp, ∃ o,s₂.heap.get? b=some o/\ ∀ v,o.data≠ .cell v:=T.obj _ _ st2
 have fpD: ∀ b∈fp,b≠D:=fun b hb z=>by
  obtain ⟨o,e,_⟩:=fpo b hb
  have:=qaQ e
  rw [z, <-hD] at this
  exact qaN _ this
 have f3: ∀ b∈fp,zjM X pins (upd H D (.lst [])) b:=fun b hb=>⟨by rw [zaH (fpD b hb)];exact (f2 b hb).1,(f2 b hb).2⟩
 have I4:Inv (cxB X scope N s₃ (upd H D (.lst [])) fp) [] (bStart src σ) (upd H D (.lst [])) {s₃ with heap:=h₁}:=
  zlE I3 B f3 (fun b hb=>let ⟨o,e,_⟩:=fpo b hb;⟨o,push3 b o e⟩) hk₁ hns₁ hce₁
 have fB: ∀ {H':Hp},(∀ b∈fp,H' b=none)-> ∀ b∈fp,zjM (cxB X scope N s₃ (upd H D (.lst [])) fp) [] H' b:=fun {H'} hn b hb=>
  ⟨hn b hb,(I4.ok.exf b hb).1,I4.ok.exfs b hb,.inl hb,fun x c e=>(I4.ok.exf b hb).2 x c e,fun p hp=>absurd (show p∈([]:List (Addr×Obj)) from hp) (by simp)⟩
 have stat4: ∀ s',s'=({s₃ with heap:=h₁}:Shared)->codeAny (model X.prog X.w) X.A (.compLoop (.ListComp elt [⟨tg,iter,ifs,0⟩] scope pos) 0 (.ref it) (.ref D) (zrk X.env scope s₃.heap.objs.size)) (RR (.ref D) s₃.heap.objs.size) s':=by
  intro s' es
  refine zh1 (fun n s'=> ∃ i σ' H',Inv (cxB X scope N s₃ (upd H D (.lst [])) fp) [] σ' H' s'/\tn i s'.heap/\(∀ b∈fp,H' b=none)/\W i n σ' H') ?_ m0 ⟨0,_,_,by rw [es];exact I4,by rw [es];exact T.keep _ _ _ st2 fun b hb o e=>hk₁ b o (push3 b o e),fun b hb=>(f3 b hb).1,w0⟩
  rintro n s5 ⟨i,σ5,H5,I5,st5,fr5,w5⟩
  rcases turn i n σ5 H5 w5 with ⟨stop,qn⟩ | ⟨go,Nn,hN,step⟩
  ·refine thn (T.done (cxB X scope N s₃ (upd H D (.lst [])) fp) rfl rfl rfl i [] s5 σ5 H5 _ I5 (fB fr5) st5 stop) fun r s6 ⟨hr,I6⟩=> ?_
   subst hr
   obtain ⟨m,hnC,_⟩:=I6.loc
   have un:=I6.base
   have u2:Un (frs X.stack) fp H H5 s₂.heap s6.heap:=by
    refine Un.trans ?_ un
    have:=Un.laid (fs:=frs X.stack) (ex:=fp) (H:=H) (h:=s₂.heap) (h':=s₃.heap) (a:=D) (o:= .lst []) push3 (Nat.le_of_eq hD) hfresh
    exact this
   refine hRR D _ H5 s6 m (I2.call' (ch:=fp) (by rw [I6.os, <-hs3]) u2 I6.hok I6.bare fun b hb=> ?_) hnC (by rw [sz3];exact Nat.le_succ _) hnC.lt I6.free qn
   obtain ⟨q0,q1,q2,q3,q4,q5⟩:=f2 b hb
   exact ⟨q3,q1,q4,q5⟩
  ·refine thn (T.item (cxB X scope N s₃ (upd H D (.lst [])) fp) rfl rfl rfl i [] s5 σ5 H5 _ I5 (fB fr5) st5 go) fun r s6 ⟨u,hr,h6⟩=> ?_
   subst hr
   refine thn h6 fun _ s7 ⟨x,H7,I7,r7,y7,st7,fr7⟩=> ?_
   have I7':=I7.pinned (fB fr7) (T.obj _ _ st7)
   refine thn (hg _ _ _ _ s7 σ5 H7 x u _ I7' r7 (step x H7 y7)) fun _ s8 ⟨σ8,H8,I8,q8⟩=> ?_
   refine thn (ht _ _ _ _ s8 σ8 H8 _ I8 q8) fun ok s9 ⟨H9,I9,q9⟩=> ?_
   have again: ∀ {σ7:St} {Hz:Hp} {sz:Shared},Inv (cxB X scope N s₃ (upd H D (.lst [])) fp) ([]++zhB fp s7.heap) σ7 Hz sz->Nn σ7 Hz-> ∃ m,m<n/\ ∃ i σ' H',Inv (cxB X scope N s₃ (upd H D (.lst [])) fp) [] σ' H' sz/\tn i sz.heap/\(∀ b∈fp,H' b=none)/\W i m σ' H':=fun {σz Hz sz} Iz nz=>by
    obtain ⟨m',hm,wz⟩:=hN _ _ nz
    refine ⟨m',hm,i+1,_,_,Iz.unpinned,T.keep _ _ _ st7 fun b hb o e=>(Iz.pin (b,o) (qak _ (qak _ (zdD hb e)))).1,fun b hb=> ?_,wz⟩
    obtain ⟨o,e,d⟩:=T.obj _ _ st7 b hb
    exact (Iz.pin (b,o) (qak _ (qak _ (zdD hb e)))).2.1
   cases ok with
   | false=>
    rw [qa5 (by decide)] at q9
    rw [qa5 (by decide)]
    exact again I9 q9
   | true=>
    rw [qa4 rfl] at q9
    rw [qa4 rfl]
    refine thn (he _ _ _ _ s9 σ8 H9 _ I9 q9) fun y s10 ⟨yv,H10,I10,ry,xs,e10,z10,q10⟩=> ?_
    refine thn (zhS (X:=cxB X scope N s₃ (upd H D (.lst [])) fp) _ s10 σ8 H10 (.ref D) [yv] (.ref D) [y] (fun _ Hf=>Nn σ8 Hf) I10 rfl (.cons ry .nil) ⟨D,xs,yv,rfl,rfl,e10,z10,q10⟩) fun _ s11 ⟨_,H11,I11,_,q11⟩=> ?_
    exact again I11 q11
 exact codeAny_compStart_list (stat4 _ (by rw [<- hs3])) (T.self _ 0 _ _ _ (T.keep _ _ _ st2 fun b hb o e=>hk₁ b o (push3 b o e)) (stat4 _ (by rw [<- hs3])))
noncomputable def zq4 (wi:TI) (g:TG) (tc:TT) (te:TE) (src:List (Option Nat)):TE:=fun σ H Q=>wi σ H fun J H1=> ∀ D,H1 D=none->zvt J g tc te (bStart src σ) H1 D fun H'=>Q (.ref D) H'
theorem Inv.letGo {pins:List (Addr×Obj)} {σ:St} {H:Hp} {s:Shared} {C:Addr} {m:Str->Option Value} {h':Heap} (I:Inv X pins σ H s) (hn:s.heap.Ns C m) (hn':H C=none) (hC:X.s₀.heap.objs.size<=C) (hL:C≠X.env.locals) (hp: ∀ p∈X.pn++pins,p.1≠C) (hs:Heap.SameBut C s.heap h'):Inv X pins σ H {s with heap:=h'}:=by
 refine I.turned (t':=s.toks) (it:=C) (fun b o hb e=>(hs.2 b hb).trans e) hn' hL (.inr hC) (fun x c e z=> ?_) hp
 obtain ⟨v,o,ho,hd⟩:=I.cell x c e
 obtain ⟨o',es,ep,ho',hd',_⟩:=hn
 rw [z,ho'] at ho
 cases ho
 rw [hd'] at hd
 cases hd
theorem zpK {wi:TI} {g:TG} {tc:TT} {te:TE} (B:BOk X scope N src) (hi:PI X tg iter wi)
  (hg: ∀ s H fp,PG (cxB X scope N s H fp) tg g) (ht: ∀ s H fp,PCs (cxB X scope N s H fp) ifs tc) (he: ∀ s H fp,PE (cxB X scope N s H fp) elt te)
  (hs: ∀ x,foldedSetIterable iter X.env x=pure x:=by intro _;rfl):PE X (.ListComp elt [⟨tg,iter,ifs,0⟩] scope pos) (zq4 wi g tc te src):=by
 intro pins s σ H Q I h
 rw [eval_ListComp]
 refine wpAny_comprehension_free (use:=none) rfl hs (zek fun x hx e=>I.ok.has x.1 (B.free x hx e)) B.kind B.locs ?_
 refine thn (hi pins s σ H _ I h) fun v s1 h1=>thn h1 fun itv s2 h2=> ?_
 obtain ⟨it,fp,tn,J,H2,e,I2,T,st2,f2,hw⟩:=h2
 subst e
 refine zjF (RR:=fun acc C=>compPost (model X.prog X.w) X.A X.xe none (EP X pins σ Q) acc C) (Q:=fun D H'=>Q (.ref D) H') B hg ht he I2 T st2 f2 hw ?_
 intro D C H' s' m I' hn hC hCs hf q
 refine ⟨m,hn,fun h' hs'=>⟨.ref D,H',I'.letGo hn hf (qaS I2.sz hC) (fun z=> ?_) (fun p hp z=> ?_) hs',rfl,q⟩⟩
 ·exact qaN _ (qaw (z▸I2.lt) hC)
 ·have:=qaQ (I2.pin p hp).1
  rw [z] at this
  exact qaN _ (qaw this hC)
theorem zkp {wi:TI} {g:TG} {tc:TT} {te:TE} {i:Nat} {y:Str} {py spos:Pos} (B:BOk X scope N src) (hi:PI X tg iter wi)
  (hg: ∀ s H fp,PG (cxB X scope N s H fp) tg g) (ht: ∀ s H fp,PCs (cxB X scope N s H fp) ifs tc) (he: ∀ s H fp,PE (cxB X scope N s H fp) elt te)
  (hN:X.N.Nodup) (hy:X.N[i]? = some y) (hx:Loc X.env.scope y) (hsw:swapsWith (.ListComp elt [⟨tg,iter,ifs,0⟩] scope pos) (some (.Name y py)) spos.line X.env=pure true)
  (hf:X.fn y=true\/X.env.scope.names.lookup y=some .local:=by first | exact .inl rfl | exact .inr rfl | assumption)
  (hs: ∀ x,foldedSetIterable iter X.env x=pure x:=by intro _;rfl):PS X (.Assign [.Name y py] (.ListComp elt [⟨tg,iter,ifs,0⟩] scope pos) spos) (zvk (zq4 wi g tc te src) (zqV i)):=by
 intro pins s σ H D0 I h
 rw [exec_Assign_Name_used _ _ _ _ hsw]
 refine qaW (wpAny_standAt (qaW ?_))
 show wpAny _ X.A (do let _<-comprehension (.ListComp elt [⟨tg,iter,ifs,0⟩] scope pos) scope X.env _ (newList []) false (eval iter X.env) (some (assign (.Name y py) X.env))) _ _ s
 refine qaW (qaZ (wpAny_comprehension_free (use:=some (assign (.Name y py) X.env)) (Q:=fun _ s'=>SP X pins D0 .next s') rfl hs (zek fun x hx e=>I.ok.has x.1 (B.free x hx e)) B.kind B.locs ?_)
   (fun _ s' hq=>qaX (qaX hq)) fun _ _ e=>e)
 refine thn (hi pins s σ H _ I h) fun v s1 h1=>thn h1 fun itv s2 h2=> ?_
 obtain ⟨it,fp,tn,J,H2,e,I2,T,st2,f2,hw⟩:=h2
 subst e
 refine zjF (RR:=fun acc C=>compPost (model X.prog X.w) X.A X.xe (some (assign (.Name y py) X.env)) (fun _ s'=>SP X pins D0 .next s') acc C) (Q:=fun D H'=>D0.nx (σ.set i (some (.ref D))) H') B hg ht he I2 T st2 f2 hw ?_
 intro D C H' s' m I' hn hC hCs hf' q
 show wpAny _ X.A (assign (.Name y py) X.env (.ref D)) _ _ _
 have hCL:C≠X.env.locals:=fun z=>qaN _ (qaw (z▸I2.lt) hC)
 have hCp: ∀ p∈X.pn++pins,p.1≠C:=fun p hp z=>by
  have:=qaQ (I2.pin p hp).1
  rw [z] at this
  exact qaN _ (qaw this hC)
 have hCc: ∀ x c,X.env.cells.lookup x=some c->c≠C:=fun x c e z=>by
  obtain ⟨v,hv⟩:=I2.cell x c e
  exact qaN _ (qaw (z▸hv.lt) hC)
 obtain ⟨oC,es,ep,hoC,hdC,hrest⟩:=hn
 have hCfs:C∉X.fs:=I2.nofs hC
 have Ip:Inv X (pins++[(C,oC)]) σ H' s':=I'.pins_of fun p hp=>by
  rcases qaK.mp hp with z | z
  ·exact I'.pin p (qak _ z)
  ·obtain rfl:p=(C,oC):=by simpa using z
   exact ⟨hoC,hf',hCL,hCfs,fun v z=>by have z':=hdC.symm.trans z;cases z'⟩
 refine wpAny_assign_Name (zeg Ip hN hy hx (v:= .ref D) rfl (fun s3 I3=> ?_) hf)
 have hC3:=(I3.pin (C,oC) (by simp)).1
 refine ⟨m,⟨oC,es,ep,hC3,hdC,hrest⟩,fun h' hs'=> ?_⟩
 exact ⟨_,H',(I3.unpinned).letGo ⟨oC,es,ep,hC3,hdC,hrest⟩ hf' (qaS I2.sz hC) hCL hCp hs',q⟩
end
end L2
namespace L3
open PySem PySem.Spec PyProof.Rows L2
inductive D where
 | non | bl (b:Bool) | int (i:Int) | str (x:Str) | tup (xs:List D) | lst (xs:List D) | cel (n:Nat) | set (xs:List Int) | dct | fn (a:Addr) | scr (xs:List D) | exn (c:String)
inductive C where
 | lst (xs:List D) | dic (kvs:List (Int×D)) | dead
noncomputable abbrev Hh:=List C
structure Io where
 c:List (Option Addr)
 x:List Addr
def Io.Has (ι:Io) (a:Addr):Prop:=some a∈ι.c\/a∈ι.x
inductive R (α:Type) where
 | ok (a:α) (h:Hh) | exc (c:String) (h:Hh) | bad
noncomputable def M (α:Type):=Hh->R α
@[inline] noncomputable def M.bind {α β:Type} (m:M α) (f:α->M β):M β:=fun h=>match m h with
 | .ok a h'=>f a h'
 | .exc c h'=> .exc c h'
 | .bad=> .bad
@[inline] noncomputable def M.pure {α:Type} (a:α):M α:=fun h=> .ok a h
noncomputable instance:Monad M where
 pure:=M.pure
 bind:=M.bind
noncomputable def M.bad {α:Type}:M α:=fun _=> .bad
def KL (K:W.Frag) (a:Addr) (xs:List V):Prop:=SqL K (fun _=>none) a xs
mutual
noncomputable def Rel (K:W.Frag) (ι:Io) (H:Hp):D->V->Prop
 | .non,v=>v= .non
 | .bl b,v=>v= .bl b
 | .int i,v=>v= .int i
 | .str x,v=>v= .str x
 | .tup ds,v=> ∃ a vs,v= .ref a/\(H a=some (.tup vs)/\ ¬ι.Has a)/\zav K ι H ds vs
 | .lst ds,v=> ∃ a vs,v= .ref a/\(H a=some (.lst vs)/\ ¬ι.Has a)/\zav K ι H ds vs
 | .scr ds,v=> ∃ a vs,v= .ref a/\((Rd H a (.lst vs)/\ ¬ι.Has a)\/KL K a vs)/\zav K ι H ds vs
 | .cel n,v=> ∃ a,v= .ref a/\(ι.c[n]? = some (some a)\/ι.c[n]? = some none)
 | .set xs,v=> ∃ a,v= .ref a/\H a=some (.set (fun k=>xs.any (· == k)) xs.length)/\ ¬ι.Has a
 | .dct,v=> ∃ a,v= .ref a/\H a=some (.dK [])/\ ¬ι.Has a
 | .fn a,v=>v= .ref a
 | .exn c,v=> ∃ a o C head vs,v= .ref a/\(H a=some (.frz o (.own 0))/\ ¬ι.Has a)/\W.nsIn K mainGlobals (c:Str)=some (some (.ref C))/\o.cls= .ref C/\o.dict=none/\o.data= .fields vs/\vs[2]? = some .none/\vs[1]? = some head
noncomputable def zav (K:W.Frag) (ι:Io) (H:Hp):List D->List V->Prop
 | [],vs=>vs=[]
 | d::ds,vs=> ∃ v r,vs=v::r/\Rel K ι H d v/\zav K ι H ds r
end
structure zcd (ι:Io) (H:Hp) (ι':Io) (H':Hp):Prop where
 old: ∀ (n:Nat) (o:Option Addr),ι.c[n]? = some o->ι'.c[n]? = some o\/ι'.c[n]? = some none
 new: ∀ a,some a∈ι'.c->some a∈ι.c\/H a=none
 hid:ι'.x=ι.x
 hidk: ∀ a∈ι.x,H' a=H a
 keep: ∀ b o,H b=some o-> ¬ι.Has b->H' b=some o
theorem zcd.refl (ι:Io) (H:Hp):zcd ι H ι H:=⟨fun _ _ h=> .inl h,fun _ h=> .inl h,rfl,fun _ _=>rfl,fun _ _ h _=>h⟩
theorem zcd.nin {ι ι':Io} {H H':Hp} (s:zcd ι H ι' H') {a:Addr} {o:HO} (h:H a=some o) (n: ¬ι.Has a): ¬ι'.Has a:=fun z=>by
 rcases z with z | z
 ·rcases s.new a z with z | z
  ·exact n (.inl z)
  ·rw [h] at z;cases z
 ·rw [s.hid] at z;exact n (.inr z)
theorem zcd.trans {ι ι1 ι2:Io} {H H1 H2:Hp} (s:zcd ι H ι1 H1) (t:zcd ι1 H1 ι2 H2):zcd ι H ι2 H2 where
 old:=fun n o h=>by
  rcases s.old n o h with h | h
  ·exact t.old n o h
  ·rcases t.old n _ h with h | h<;>exact .inr h
 new:=fun a h=>by
  rcases t.new a h with h | h
  ·exact s.new a h
  ·by_cases z:some a∈ι.c
   ·exact .inl z
   ·refine .inr ?_
    cases q:H a with
    | none=>rfl
    | some o=>
     by_cases z':a∈ι.x
     ·rw [s.hidk a z',q] at h;cases h
     ·rw [s.keep a o q (fun w=>w.elim z z')] at h;cases h
 hid:=t.hid.trans s.hid
 hidk:=fun a h=>(t.hidk a (by rw [s.hid];exact h)).trans (s.hidk a h)
 keep:=fun b o h n=>t.keep b o (s.keep b o h n) (s.nin h n)
theorem zcd.rd {ι ι':Io} {H H':Hp} (s:zcd ι H ι' H') {a:Addr} {u:HO} (h:Rd H a u) (n: ¬ι.Has a):Rd H' a u/\ ¬ι'.Has a:=by
 rcases h with h | ⟨o,h⟩
 ·exact ⟨.inl (s.keep _ _ h n),s.nin h n⟩
 ·exact ⟨.inr ⟨o,s.keep _ _ h n⟩,s.nin h n⟩
structure Pass (ι:Io) (H:Hp) (ι':Io) (H':Hp):Prop where
 old: ∀ (n:Nat) (o:Option Addr),ι.c[n]? = some o->ι'.c[n]? = some o\/ι'.c[n]? = some none
 keep: ∀ b o,H b=some o-> ¬ι.Has b->H' b=some o/\ ¬ι'.Has b
theorem zcd.pass {ι ι':Io} {H H':Hp} (s:zcd ι H ι' H'):Pass ι H ι' H':=⟨s.old,fun b o h n=>⟨s.keep b o h n,s.nin h n⟩⟩
theorem Pass.rd {ι ι':Io} {H H':Hp} (s:Pass ι H ι' H') {a:Addr} {u:HO} (h:Rd H a u) (n: ¬ι.Has a):Rd H' a u/\ ¬ι'.Has a:=by
 rcases h with h | ⟨o,h⟩
 ·exact ⟨.inl (s.keep _ _ h n).1,(s.keep _ _ h n).2⟩
 ·exact ⟨.inr ⟨o,(s.keep _ _ h n).1⟩,(s.keep _ _ h n).2⟩
section
variable {K:W.Frag} {ι ι':Io} {H H':Hp}
mutual
theorem Rel.pass (s:Pass ι H ι' H'): ∀ {d:D} {v:V},Rel K ι H d v->Rel K ι' H' d v
 | .non,_,h=>by simpa [Rel] using h
 | .bl _,_,h=>by simpa [Rel] using h
 | .int _,_,h=>by simpa [Rel] using h
 | .str _,_,h=>by simpa [Rel] using h
 | .tup ds,v,h=>by
  simp only [Rel] at h ⊢
  obtain ⟨a,vs,e,h1,h2⟩:=h
  exact ⟨a,vs,e,s.keep _ _ h1.1 h1.2,zav.pass s h2⟩
 | .lst ds,v,h=>by
  simp only [Rel] at h ⊢
  obtain ⟨a,vs,e,h1,h2⟩:=h
  exact ⟨a,vs,e,s.keep _ _ h1.1 h1.2,zav.pass s h2⟩
 | .scr ds,v,h=>by
  simp only [Rel] at h ⊢
  obtain ⟨a,vs,e,h1,h2⟩:=h
  exact ⟨a,vs,e,h1.imp (fun z=>s.rd z.1 z.2) id,zav.pass s h2⟩
 | .cel n,v,h=>by
  simp only [Rel] at h ⊢
  obtain ⟨a,e,h⟩:=h
  refine ⟨a,e,?_⟩
  rcases h with h | h
  ·exact s.old n _ h
  ·rcases s.old n _ h with h | h<;>exact .inr h
 | .set xs,v,h=>by
  simp only [Rel] at h ⊢
  obtain ⟨a,e,h,n⟩:=h
  exact ⟨a,e,(s.keep _ _ h n).1,(s.keep _ _ h n).2⟩
 | .dct,v,h=>by
  simp only [Rel] at h ⊢
  obtain ⟨a,e,h,n⟩:=h
  exact ⟨a,e,(s.keep _ _ h n).1,(s.keep _ _ h n).2⟩
 | .fn _,_,h=>by simpa [Rel] using h
 | .exn _,_,h=>by
  simp only [Rel] at h ⊢
  obtain ⟨a,o,C,head,vs,e,h1,h2⟩:=h
  exact ⟨a,o,C,head,vs,e,s.keep _ _ h1.1 h1.2,h2⟩
theorem zav.pass (s:Pass ι H ι' H'): ∀ {ds:List D} {vs:List V},zav K ι H ds vs->zav K ι' H' ds vs
 | [],_,h=>by simpa [zav] using h
 | d::ds,_,h=>by
  simp only [zav] at h ⊢
  obtain ⟨v,r,e,h1,h2⟩:=h
  exact ⟨v,r,e,Rel.pass s h1,zav.pass s h2⟩
end
theorem Rel.step (s:zcd ι H ι' H') {d:D} {v:V} (h:Rel K ι H d v):Rel K ι' H' d v:=h.pass s.pass
theorem zav.step (s:zcd ι H ι' H') {ds:List D} {vs:List V} (h:zav K ι H ds vs):zav K ι' H' ds vs:=h.pass s.pass
theorem zav.nil:zav K ι H [] []:=by simp [zav]
theorem zav.cons {d:D} {ds:List D} {v:V} {vs:List V} (h:Rel K ι H d v) (t:zav K ι H ds vs):zav K ι H (d::ds) (v::vs):=by simp only [zav];exact ⟨v,vs,rfl,h,t⟩
theorem zav.length: ∀ {ds:List D} {vs:List V},zav K ι H ds vs->ds.length=vs.length
 | [],_,h=>by simp only [zav] at h;subst h;rfl
 | d::ds,_,h=>by
  simp only [zav] at h
  obtain ⟨v,r,rfl,_,h⟩:=h
  simp [zav.length h]
theorem zav.get: ∀ {ds:List D} {vs:List V} {i:Nat} {d:D},zav K ι H ds vs->ds[i]? = some d-> ∃ v,vs[i]? = some v/\Rel K ι H d v
 | [],_,_,_,_,e=>by simp at e
 | d::ds,_,i,x,h,e=>by
  simp only [zav] at h
  obtain ⟨v,r,rfl,h1,h2⟩:=h
  cases i with
  | zero=>simp at e;subst e;exact ⟨v,rfl,h1⟩
  | succ i=>simp at e;simpa using zav.get h2 e
theorem zav.getV: ∀ {ds:List D} {vs:List V} {i:Nat} {v:V},zav K ι H ds vs->vs[i]? = some v-> ∃ d,ds[i]? = some d/\Rel K ι H d v
 | [],_,_,_,h,e=>by simp only [zav] at h;subst h;simp at e
 | d::ds,_,i,x,h,e=>by
  simp only [zav] at h
  obtain ⟨v,r,rfl,h1,h2⟩:=h
  cases i with
  | zero=>simp at e;subst e;exact ⟨d,rfl,h1⟩
  | succ i=>simp at e;simpa using zav.getV h2 e
theorem zav.append: ∀ {ds es:List D} {vs ws:List V},zav K ι H ds vs->zav K ι H es ws->zav K ι H (ds++es) (vs++ws)
 | [],_,_,_,h,t=>by simp only [zav] at h;subst h;exact t
 | d::ds,es,_,ws,h,t=>by
  simp only [zav] at h
  obtain ⟨v,r,rfl,h1,h2⟩:=h
  exact zav.cons h1 (zav.append h2 t)
theorem zav.take: ∀ {ds:List D} {vs:List V} (n:Nat),zav K ι H ds vs->zav K ι H (ds.take n) (vs.take n)
 | _,_,0,_=>by simpa using zav.nil
 | [],_,n+1,h=>by simp only [zav] at h;subst h;exact zav.nil
 | d::ds,_,n+1,h=>by
  simp only [zav] at h
  obtain ⟨v,r,rfl,h1,h2⟩:=h
  exact zav.cons h1 (zav.take n h2)
theorem zav.drop: ∀ {ds:List D} {vs:List V} (n:Nat),zav K ι H ds vs->zav K ι H (ds.drop n) (vs.drop n)
 | _,_,0,h=>h
 | [],_,n+1,h=>by simp only [zav] at h;subst h;exact zav.nil
 | d::ds,_,n+1,h=>by
  simp only [zav] at h
  obtain ⟨v,r,rfl,h1,h2⟩:=h
  exact zav.drop n h2
theorem zav.reverse {ds:List D} {vs:List V} (h:zav K ι H ds vs):zav K ι H ds.reverse vs.reverse:=by
 induction ds generalizing vs with
 | nil=>simp only [zav] at h;subst h;exact zav.nil
 | cons d ds ih=>
  simp only [zav] at h
  obtain ⟨v,r,rfl,h1,h2⟩:=h
  rw [List.reverse_cons,List.reverse_cons]
  exact zav.append (ih h2) (zav.cons h1 zav.nil)
theorem zav.set {d:D} {v:V} (hd:Rel K ι H d v): ∀ {ds:List D} {vs:List V} (i:Nat),zav K ι H ds vs->zav K ι H (ds.set i d) (vs.set i v)
 | [],_,_,h=>by simp only [zav] at h;subst h;exact zav.nil
 | x::ds,_,i,h=>by
  simp only [zav] at h
  obtain ⟨w,r,rfl,h1,h2⟩:=h
  cases i with
  | zero=>exact zav.cons hd h2
  | succ i=>exact zav.cons h1 (zav.set hd i h2)
theorem zcT: ∀ {is:List Int} {vs:List V},zav K ι H (is.map D.int) vs↔vs=is.map V.int
 | [],vs=>by simp [zav]
 | i::is,vs=>by
  simp only [qaM,zav]
  constructor
  ·rintro ⟨v,r,rfl,h1,h2⟩
   simp only [Rel] at h1
   rw [h1,zcT.mp h2]
  ·rintro rfl
   exact ⟨_,_,rfl,by simp [Rel],zcT.mpr rfl⟩
noncomputable def CO (K:W.Frag) (ι:Io) (H:Hp):C->HO->Prop
 | .lst ds,o=> ∃ vs,o= .lst vs/\zav K ι H ds vs
 | .dic kvs,o=> ∃ vs,o= .dK vs/\Paired (fun (p:Int×D) (q:Key×V)=>q.1= .inl p.1/\Rel K ι H p.2 q.2) kvs vs
 | .dead,_=>False
theorem CO.pass {c:C} {o:HO} (s:Pass ι H ι' H') (h:CO K ι H c o):CO K ι' H' c o:=by
 cases c with
 | lst ds=>obtain ⟨vs,e,r⟩:=h;exact ⟨vs,e,r.pass s⟩
 | dic kvs=>
  obtain ⟨vs,e,r⟩:=h
  refine ⟨vs,e,?_⟩
  clear e
  induction r with
  | nil=>exact .nil
  | cons a t ih=>exact .cons ⟨a.1,a.2.pass s⟩ ih
 | dead=>exact h
structure zbm (K:W.Frag) (ι:Io) (H:Hp) (h:Hh):Prop where
 len:h.length=ι.c.length
 inj: ∀ (m n:Nat) (a:Addr),ι.c[m]? = some (some a)->ι.c[n]? = some (some a)->m=n
 at_: ∀ (n:Nat) (a:Addr) (c:C),ι.c[n]? = some (some a)->h[n]? = some c-> ∃ o,H a=some o/\CO K ι H c o
 dead: ∀ (n:Nat),ι.c[n]? = some none->h[n]? = some .dead
 hidt: ∀ a∈ι.x,(∃ o,H a=some o)/\some a∉ι.c
noncomputable abbrev Sd:=List (Option D)
def zcK (K:W.Frag) (ι:Io) (H:Hp) (sd:Sd) (σ:L2.St):Prop:=sd.length=σ.length/\ ∀ (i:Nat) (d:D),sd[i]? = some (some d)-> ∃ v,σ[i]? = some (some v)/\Rel K ι H d v
theorem zcK.pass {sd:Sd} {σ:L2.St} (s:Pass ι H ι' H') (h:zcK K ι H sd σ):zcK K ι' H' sd σ:=⟨h.1,fun i d e=>let ⟨v,h1,h2⟩:=h.2 i d e;⟨v,h1,h2.pass s⟩⟩
theorem zcK.step {sd:Sd} {σ:L2.St} (s:zcd ι H ι' H') (h:zcK K ι H sd σ):zcK K ι' H' sd σ:=⟨h.1,fun i d e=>let ⟨v,h1,h2⟩:=h.2 i d e;⟨v,h1,h2.step s⟩⟩
theorem zcK.set {sd:Sd} {σ:L2.St} {d:D} {v:V} (h:zcK K ι H sd σ) (r:Rel K ι H d v) (i:Nat):zcK K ι H (sd.set i (some d)) (σ.set i (some v)):=by
 refine ⟨by rw [qaI,qaI];exact h.1,fun j d' e=> ?_⟩
 by_cases hij:i=j
 ·subst hij
  by_cases hl:i<sd.length
  ·rw [qai hl] at e
   cases e
   exact ⟨v,by rw [qai (by rw [<- h.1];exact hl)],r⟩
  ·rw [List.getElem?_eq_none (by rw [qaI];omega)] at e
   cases e
 ·rw [qao hij] at e ⊢
  exact h.2 j d' e
theorem zcK.skip {sd:Sd} {σ:L2.St} {o:Option V} (h:zcK K ι H sd σ) (i:Nat) (hn:sd[i]? = some none):zcK K ι H sd (σ.set i o):=by
 refine ⟨by rw [qaI];exact h.1,fun j d' e=> ?_⟩
 by_cases hij:i=j
 ·subst hij;rw [hn] at e;cases e
 ·rw [qao hij];exact h.2 j d' e
end
noncomputable abbrev St:=L2.St
noncomputable abbrev XE:=String->Hp->Prop
def Fin {α:Type} (K:W.Frag) (E:XE) (ι:Io) (H:Hp) (r:R α) (P:α->Io->Hp->Prop):Prop:=match r with
 | .ok a h'=> ∀ ι' H',zcd ι H ι' H'->zbm K ι' H' h'->P a ι' H'
 | .exc c h'=> ∀ ι' H',zcd ι H ι' H'->zbm K ι' H' h'->E c H'
 | .bad=>False
section
variable {α β:Type} {K:W.Frag} {E:XE} {ι ι':Io} {H H':Hp}
theorem Fin.step {r:R α} {P:α->Io->Hp->Prop} (s:zcd ι H ι' H') (h:Fin K E ι H r P):Fin K E ι' H' r P:=by
 cases r with
 | ok a h'=>exact fun ι2 H2 t hr=>h ι2 H2 (s.trans t) hr
 | exc c h'=>exact fun ι2 H2 t hr=>h ι2 H2 (s.trans t) hr
 | bad=>exact h
theorem Fin.mono {r:R α} {P P':α->Io->Hp->Prop} (h:Fin K E ι H r P) (m: ∀ a ι' H',P a ι' H'->P' a ι' H'):Fin K E ι H r P':=by
 cases r with
 | ok a h'=>exact fun ι2 H2 t hr=>m _ _ _ (h ι2 H2 t hr)
 | exc c h'=>exact h
 | bad=>exact h
theorem Fin.bind {m:M α} {f:α->M β} {h:Hh} {P:β->Io->Hp->Prop} {P':α->Io->Hp->Prop} (q:Fin K E ι H ((m>>=f) h) P)
  (k: ∀ a h' ι' H',m h= .ok a h'->zcd ι H ι' H'->zbm K ι' H' h'->Fin K E ι' H' (f a h') P->P' a ι' H'):Fin K E ι H (m h) P':=by
 have q':Fin K E ι H (M.bind m f h) P:=q
 unfold M.bind at q'
 cases e:m h with
 | ok a h'=>
  rw [e] at q'
  intro ι' H' s hr
  exact k a h' ι' H' e s hr (Fin.step s q')
 | exc c h'=>rw [e] at q';exact q'
 | bad=>rw [e] at q';exact q'
theorem Fin.out {a:α} {h:Hh} {P:α->Io->Hp->Prop} (hr:zbm K ι H h) (q:Fin K E ι H ((pure a:M α) h) P):P a ι H:=q ι H (zcd.refl _ _) hr
end
noncomputable def zj8 (K:W.Frag) (E:XE) (f:Sd->M D):TE:=fun σ H Q=> ∃ ι h sd,zcK K ι H sd σ/\zbm K ι H h/\Fin K E ι H (f sd h) fun d ι' H'=> ∀ v,Rel K ι' H' d v->Q v H'
noncomputable def zgR (K:W.Frag) (E:XE) (f:Sd->M Bool):TT:=fun σ H Q=> ∃ ι h sd,zcK K ι H sd σ/\zbm K ι H h/\Fin K E ι H (f sd h) fun b ι' H'=>Q b H'
noncomputable def zuS (K:W.Frag) (E:XE) (f:Sd->M (List D)):TA:=fun σ H Q=> ∃ ι h sd,zcK K ι H sd σ/\zbm K ι H h/\Fin K E ι H (f sd h) fun ds ι' H'=> ∀ vs,zav K ι' H' ds vs->Q vs H'
noncomputable abbrev SE (X:Cx) (E:XE) (e:Expr) (f:Sd->M D):Prop:=PE X e (zj8 X.K E f)
noncomputable abbrev ST (X:Cx) (E:XE) (e:Expr) (f:Sd->M Bool):Prop:=PT X e (zgR X.K E f)
noncomputable abbrev SA (X:Cx) (E:XE) (es:List Expr) (f:Sd->M (List D)):Prop:=PA X es (zuS X.K E f)
noncomputable def zde (K:W.Frag) (E:XE) (F:D->D->M D):R2:=fun x y H Q=> ∃ ι h d1 d2,Rel K ι H d1 x/\Rel K ι H d2 y/\zbm K ι H h/\Fin K E ι H (F d1 d2 h) fun d ι' H'=> ∀ v,Rel K ι' H' d v->Q v H'
noncomputable def ziL (K:W.Frag) (E:XE) (F:List D->M D):List V->Hp->VK->Prop:=fun xs H Q=> ∃ ι h ds,zav K ι H ds xs/\zbm K ι H h/\Fin K E ι H (F ds h) fun d ι' H'=> ∀ v,Rel K ι' H' d v->Q v H'
theorem PE.imp {X:Cx} {e:Expr} {t t':TE} (h:PE X e t) (m: ∀ σ H Q,t' σ H Q->t σ H Q):PE X e t':=fun pins s σ H Q I q=>h pins s σ H Q I (m _ _ _ q)
theorem PT.imp {X:Cx} {e:Expr} {t t':TT} (h:PT X e t) (m: ∀ σ H Q,t' σ H Q->t σ H Q):PT X e t':=fun pins s σ H Q I q=>h pins s σ H Q I (m _ _ _ q)
theorem PA.imp {X:Cx} {e:List Expr} {t t':TA} (h:PA X e t) (m: ∀ σ H Q,t' σ H Q->t σ H Q):PA X e t':=fun pos pins s σ H Q I q=>h pos pins s σ H Q I (m _ _ _ q)
theorem OpR.imp {X:Cx} {f:Value->Value->Sem Value} {r r':R2} (h:OpR X f r) (m: ∀ x y H Q,r' x y H Q->r x y H Q):OpR X f r':=fun pins s σ H x y v u Q I rx ry q=>h pins s σ H x y v u Q I rx ry (m _ _ _ _ q)
theorem zaV.imp {X:Cx} {f:Value} {r r':List V->Hp->VK->Prop} (h:zaV X f r) (m: ∀ xs H Q,r' xs H Q->r xs H Q):zaV X f r':=by
 intro pins s σ H xs us Q I rx q
 exact h pins s σ H xs us Q I rx (m _ _ _ q)
theorem IxR.imp {X:Cx} {r r':R2} (h:IxR X r) (m: ∀ x y H Q,r' x y H Q->r x y H Q):IxR X r':=by
 intro value slice pins s σ H x y v u Q I rx ry q hs
 exact h value slice pins s σ H x y v u Q I rx ry (m _ _ _ _ q) hs
theorem MtM.imp {X:Cx} {id:String} {r r':V->List V->Hp->VK->Prop} (h:MtM X id r) (m: ∀ x xs H Q,r' x xs H Q->r x xs H Q):MtM X id r':=fun pins s σ H x xs v us Q I rx rs q=>h pins s σ H x xs v us Q I rx rs (m _ _ _ _ q)
theorem SlR.imp {X:Cx} {r r':V->Option Int->Option Int->Hp->VK->Prop} (h:SlR X r) (m: ∀ x l u H Q,r' x l u H Q->r x l u H Q):SlR X r':=fun pins s σ H x v vl vu lo hi sl Q I rx hs pl pu q=>h pins s σ H x v vl vu lo hi sl Q I rx hs pl pu (m _ _ _ _ _ q)
theorem zpD.imp {X:Cx} {r r':zsT} (h:zpD X r) (m: ∀ o i v H Q,r' o i v H Q->r o i v H Q):zpD X r':=fun pins s σ H o i v ov iv u Q I ro ri rv q=>h pins s σ H o i v ov iv u Q I ro ri rv (m _ _ _ _ _ q)
theorem PI.imp {X:Cx} {tg iter:Expr} {t t':TI} (h:PI X tg iter t) (m: ∀ σ H Q,t' σ H Q->t σ H Q):PI X tg iter t':=fun pins s σ H Q I q=>h pins s σ H Q I (m _ _ _ q)
theorem PG.imp {X:Cx} {tg:Expr} {t t':TG} (h:PG X tg t) (m: ∀ v σ H Q,t' v σ H Q->t v σ H Q):PG X tg t':=fun pins s σ H v u Q I r q=>h pins s σ H v u Q I r (m _ _ _ _ q)
theorem PS.imp {X:Cx} {st:Stmt} {t t':TS} (h:PS X st t) (m: ∀ D σ H,t' D σ H->t D σ H):PS X st t':=fun pins s σ H D I q=>h pins s σ H D I (m _ _ _ q)
theorem PSs.imp {X:Cx} {st:List Stmt} {t t':TS} (h:PSs X st t) (m: ∀ D σ H,t' D σ H->t D σ H):PSs X st t':=fun pins s σ H D I q=>h pins s σ H D I (m _ _ _ q)
section
variable {X:Cx} {E:XE} {a b e:Expr} {es:List Expr} {pos:Pos} {fa fb:Sd->M D}
theorem te2 {K:W.Frag} {F:D->D->M D} {r:R2} (hr: ∀ x y H Q,zde K E F x y H Q->r x y H Q) (σ:St) (H:Hp) (Q:VK) (q:zj8 K E (fun sd=>do let x<-fa sd;let y<-fb sd;F x y) σ H Q):tOp r (zj8 K E fa) (zj8 K E fb) σ H Q:=by
 obtain ⟨ι,h,sd,L,hh,q⟩:=q
 refine ⟨ι,h,sd,L,hh,Fin.bind q fun d1 h1 ι1 H1 e1 s1 hr1 q1 v r1=> ?_⟩
 refine ⟨ι1,h1,sd,L.step s1,hr1,Fin.bind q1 fun d2 h2 ι2 H2 e2 s2 hr2 q2 w r2=> ?_⟩
 exact hr _ _ _ _ ⟨ι2,h2,d1,d2,r1.step s2,r2,hr2,q2⟩
theorem zuW {op:Operator} {F:D->D->M D} (ho:OpR X (binaryOp op) (zde X.K E F)) (ha:SE X E a fa) (hb:SE X E b fb):SE X E (.BinOp a op b pos) (fun sd=>do let x<-fa sd;let y<-fb sd;F x y):=
 PE.imp (zuE ho ha hb) (te2 fun _ _ _ _ q=>q)
theorem zss {op:CmpOp} {F:D->D->M D} (ho:OpR X (compareOp op) (zde X.K E F)) (ha:SE X E a fa) (hb:SE X E b fb) (hm:behindInMarks op b=false):SE X E (.Compare a [op] [b] pos) (fun sd=>do let x<-fa sd;let y<-fb sd;F x y):=
 PE.imp (zqx ho ha hb hm) (te2 fun _ _ _ _ q=>q)
theorem zsi {F:D->D->M D} (ho:IxR X (zde X.K E F)) (ha:SE X E a fa) (hb:SE X E b fb) (hs:zgD b):SE X E (.Subscript a b pos) (fun sd=>do let x<-fa sd;let y<-fb sd;F x y):=
 PE.imp (zuA ho ha hb hs) (te2 fun _ _ _ _ q=>q)
noncomputable def zdx:D->M Bool
 | .bl b=>pure b
 | _=>M.bad
theorem zfc {K:W.Frag} {f:Sd->M D} (σ:St) (H:Hp) (Q:Bool->Hp->Prop) (q:zgR K E (fun sd=>do let x<-f sd;zdx x) σ H Q):(zj8 K E f) σ H fun x H1=> ∃ c,x= .bl c/\Q c H1:=by
 obtain ⟨ι,h,sd,L,hh,q⟩:=q
 refine ⟨ι,h,sd,L,hh,Fin.bind q fun d1 h1 ι1 H1 e1 s1 hr1 q2 v r1=> ?_⟩
 cases d1 with
 | bl b=>simp only [Rel] at r1;exact ⟨b,r1,Fin.out hr1 q2⟩
 | _=>exact qa0 q2
theorem zt0 {op:CmpOp} {F:D->D->M D} (ho:OpR X (compareOp op) (zde X.K E F)) (ha:SE X E a fa) (hb:SE X E b fb) (hm:behindInMarks op b=false):
  ST X E (.Compare a [op] [b] pos) (fun sd=>do let z<-(do let x<-fa sd;let y<-fb sd;F x y);zdx z):=by
 refine PT.imp (zrb ho ha hb hm) fun σ H Q q=> ?_
 have q1:=zfc (f:=fun sd=>do let x<-fa sd;let y<-fb sd;F x y) σ H Q q
 exact te2 (fun _ _ _ _ q=>q) σ H _ q1
theorem ztm {f:Sd->M D} (h:SE X E e f) (he: ∀ whole,isTrue e X.env whole=(do let v<-whole;standAt e.pos;holding [v] (truthy v)):=by intro _;rfl):ST X E e (fun sd=>do let x<-f sd;zdx x):=
 PT.imp (ztA h he) fun σ H Q q=>zfc σ H Q q
theorem zrG {t:Sd->M Bool} (ha:ST X E a t):ST X E (.UnaryOp .Not a pos) (fun sd=>do let c<-t sd;pure (!c)):=by
 refine PT.imp (zsF ha) fun σ H Q ⟨ι,h,sd,L,hh,q⟩=>⟨ι,h,sd,L,hh,Fin.bind q fun c h1 ι1 H1 e1 s1 hr1 q1=> ?_⟩
 exact Fin.out hr1 q1
theorem zqg {t:Sd->M Bool} (ha:ST X E a t):PW X (.BoolOp .And [a] pos) (zgR X.K E t):=pw_and1 ha
theorem ztb {t:Sd->M Bool} (ha:ST X E a t):PW X (.BoolOp .Or [a] pos) (zgR X.K E t):=pw_or1 ha
theorem PW.imp {t t':TT} (h:PW X e t) (m: ∀ σ H Q,t' σ H Q->t σ H Q):PW X e t':=fun whole pins s σ H Q I q=>h whole pins s σ H Q I (m _ _ _ q)
theorem zr2 {zbk:List Expr} {t u:Sd->M Bool} (ha:ST X E a t) (hb:PW X (.BoolOp .And (b::zbk) pos) (zgR X.K E u)):PW X (.BoolOp .And (a::b::zbk) pos) (zgR X.K E fun sd=>do let c<-t sd;if c=true then u sd else pure false):=by
 refine PW.imp (pw_and ha hb) fun σ H Q ⟨ι,h,sd,L,hh,q⟩=>⟨ι,h,sd,L,hh,Fin.bind q fun c h1 ι1 H1 e1 s1 hr1 q1=> ?_⟩
 cases c with
 | true=>exact zqP ⟨ι1,h1,sd,L.step s1,hr1,q1⟩
 | false=>exact zqf (Fin.out hr1 q1)
theorem zvA {zbk:List Expr} {t u:Sd->M Bool} (ha:ST X E a t) (hb:PW X (.BoolOp .Or (b::zbk) pos) (zgR X.K E u)):PW X (.BoolOp .Or (a::b::zbk) pos) (zgR X.K E fun sd=>do let c<-t sd;if c=true then pure true else u sd):=by
 refine PW.imp (pw_or ha hb) fun σ H Q ⟨ι,h,sd,L,hh,q⟩=>⟨ι,h,sd,L,hh,Fin.bind q fun c h1 ι1 H1 e1 s1 hr1 q1=> ?_⟩
 cases c with
 | false=>exact zqf ⟨ι1,h1,sd,L.step s1,hr1,q1⟩
 | true=>exact zqP (Fin.out hr1 q1)
theorem zq9 {op:BoolOp} {vs:List Expr} {t:Sd->M Bool} (h:PW X (.BoolOp op vs pos) (zgR X.K E t)):ST X E (.BoolOp op vs pos) t:=h.pt
theorem ztc {op:BoolOp} (h:SE X E a fa):SE X E (.BoolOp op [a] pos) fa:=zsw h
theorem zsV {zbk:List Expr} (ha:SE X E a fa) (hb:SE X E (.BoolOp .And (b::zbk) pos) fb):SE X E (.BoolOp .And (a::b::zbk) pos) (fun sd=>do let c<-(do let x<-fa sd;zdx x);if c=true then fb sd else pure (.bl false)):=by
 refine PE.imp (zsz ha hb) fun σ H Q ⟨ι,h,sd,L,hh,q⟩=> ?_
 have q1:=zfc (K:=X.K) (E:=E) (f:=fa) σ H (fun c H1=>if c=true then zj8 X.K E fb σ H1 Q else Q (.bl false) H1) ⟨ι,h,sd,L,hh,Fin.bind q fun c h1 ι1 H1 e1 s1 hr1 q1=> ?_⟩
 ·exact q1
 ·cases c with
  | true=>exact zqP ⟨ι1,h1,sd,L.step s1,hr1,q1⟩
  | false=>exact zqf (Fin.out hr1 q1 _ (by simp [Rel]))
theorem zuy {zbk:List Expr} (ha:SE X E a fa) (hb:SE X E (.BoolOp .Or (b::zbk) pos) fb):SE X E (.BoolOp .Or (a::b::zbk) pos) (fun sd=>do let c<-(do let x<-fa sd;zdx x);if c=true then pure (.bl true) else fb sd):=by
 refine PE.imp (zvj ha hb) fun σ H Q ⟨ι,h,sd,L,hh,q⟩=> ?_
 have q1:=zfc (K:=X.K) (E:=E) (f:=fa) σ H (fun c H1=>if c=true then Q (.bl true) H1 else zj8 X.K E fb σ H1 Q) ⟨ι,h,sd,L,hh,Fin.bind q fun c h1 ι1 H1 e1 s1 hr1 q1=> ?_⟩
 ·exact q1
 ·cases c with
  | false=>exact zqf ⟨ι1,h1,sd,L.step s1,hr1,q1⟩
  | true=>exact zqP (Fin.out hr1 q1 _ (by simp [Rel]))
theorem ztx (ha:SE X E a fa):SE X E (.UnaryOp .Not a pos) (fun sd=>do let c<-(do let x<-fa sd;zdx x);pure (.bl (!c))):=by
 refine PE.imp (zs5 ha) fun σ H Q ⟨ι,h,sd,L,hh,q⟩=> ?_
 have q1:=zfc (K:=X.K) (E:=E) (f:=fa) σ H (fun c H1=>Q (.bl (!c)) H1) ⟨ι,h,sd,L,hh,Fin.bind q fun c h1 ι1 H1 e1 s1 hr1 q1=> ?_⟩
 ·exact q1
 ·exact Fin.out hr1 q1 _ (by simp [Rel])
theorem zm6 {c:Expr} {t:Sd->M Bool} (hc:ST X E c t) (ha:SE X E a fa) (hb:SE X E b fb):SE X E (.IfExp c a b pos) (fun sd=>do let c<-t sd;if c=true then fa sd else fb sd):=by
 refine PE.imp (znD hc ha hb) fun σ H Q ⟨ι,h,sd,L,hh,q⟩=>⟨ι,h,sd,L,hh,Fin.bind q fun c h1 ι1 H1 e1 s1 hr1 q1=> ?_⟩
 cases c with
 | true=>exact zqP ⟨ι1,h1,sd,L.step s1,hr1,q1⟩
 | false=>exact zqf ⟨ι1,h1,sd,L.step s1,hr1,q1⟩
noncomputable def zag (i:Nat):Sd->M D:=fun sd=>match sd[i]? with
 | some (some d)=>pure d
 | _=>M.bad
theorem ztz (i:Nat) {x:Str} (hN:X.N[i]? = some x) (hv:Vis X.env.scope x) (hd:(x==("__debug__":Str))=false:=by decide) (hcd:(x==("__classdict__":Str))=false:=by decide):SE X E (.Name x pos) (zag i):=by
 refine PE.imp (zo7 hN hv hd hcd) fun σ H Q ⟨ι,h,sd,L,hh,q⟩=> ?_
 unfold zag at q
 cases e:sd[i]? with
 | none=>rw [e] at q;exact qa0 q
 | some o=>
  rw [e] at q
  cases o with
  | none=>exact qa0 q
  | some d=>
   obtain ⟨v,e1,r⟩:=L.2 i d e
   exact ⟨v,e1,Fin.out hh q v r⟩
theorem zeW {K:W.Frag} {d:D} {v:V} (r: ∀ ι H,Rel K ι H d v) (σ:St) (H:Hp) (Q:VK) (q:zj8 K E (fun _=>pure d) σ H Q):tC v σ H Q:=by
 obtain ⟨ι,h,sd,L,hh,q⟩:=q
 exact Fin.out hh q v (r _ _)
theorem zr6 {i:Int} {j:Nat}:SE X E (.Constant (.int i) j pos) (fun _=>pure (.int i)):=PE.imp ztX (zeW fun _ _=>by simp [Rel])
theorem zvQ {i:Bool} {j:Nat}:SE X E (.Constant (.bool i) j pos) (fun _=>pure (.bl i)):=PE.imp zu9 (zeW fun _ _=>by simp [Rel])
theorem zsm {j:Nat}:SE X E (.Constant .none j pos) (fun _=>pure .non):=PE.imp ztv (zeW fun _ _=>by simp [Rel])
theorem zm3 {x:Str} {i:Int} {t:Tok} (hg:Gl X x) (hm:X.mg x=some (.int i t)) (hd:(x==("__debug__":Str))=false:=by decide):SE X E (.Name x pos) (fun _=>pure (.int i)):=PE.imp (zpA (v:= .int i) hg hm ⟨t,rfl⟩ hd) (zeW fun _ _=>by simp [Rel])
theorem zsC:SA X E [] (fun _=>pure []):=PA.imp zdh fun σ H Q ⟨ι,h,sd,L,hh,q⟩=>Fin.out hh q [] zav.nil
theorem zqt {fs:Sd->M (List D)} (ha:SE X E e fa) (hr:SA X E es fs) (hs:starEach (e::es) X.env=(false,eval e X.env)::starEach es X.env:=by rfl):SA X E (e::es) (fun sd=>do let x<-fa sd;let r<-fs sd;pure (x::r)):=by
 refine PA.imp (zbZ ha hr hs) fun σ H Q ⟨ι,h,sd,L,hh,q⟩=>⟨ι,h,sd,L,hh,Fin.bind q fun d h1 ι1 H1 e1 s1 hr1 q1 v rv=> ?_⟩
 refine ⟨ι1,h1,sd,L.step s1,hr1,Fin.bind q1 fun ds h2 ι2 H2 e2 s2 hr2 q2 vs rvs=> ?_⟩
 exact Fin.out hr2 q2 _ (zav.cons (rv.step s2) rvs)
end
theorem zbm.nin {K:W.Frag} {ι:Io} {H:Hp} {h:Hh} (hr:zbm K ι H h) {p:Addr} (hp:H p=none): ¬ι.Has p:=fun z=>by
 rcases z with z | z
 ·obtain ⟨n,hn⟩:=List.mem_iff_getElem?.mp z
  have hl:n<h.length:=by rw [hr.len];exact (qac.mp hn).1
  obtain ⟨o,e,_⟩:=hr.at_ n p h[n] hn (by simp [hl])
  rw [hp] at e
  cases e
 ·obtain ⟨⟨o,e⟩,_⟩:=hr.hidt p z
  rw [hp] at e
  cases e
theorem zbm.laidS {K:W.Frag} {ι:Io} {H:Hp} {h:Hh} (hr:zbm K ι H h) {p:Addr} {o:HO} (hp:H p=none):zcd ι H ι (upd H p o):=
 ⟨fun _ _ h=> .inl h,fun _ h=> .inl h,rfl,fun a ha=>zaH fun z=>hr.nin hp (.inr (z▸ha)),fun b o' h _=>by rw [zaH (zaZ h hp)];exact h⟩
theorem zbm.laid {K:W.Frag} {ι:Io} {H:Hp} {h:Hh} {p:Addr} {o:HO} (hr:zbm K ι H h) (hp:H p=none):zbm K ι (upd H p o) h:=
 ⟨hr.len,hr.inj,fun n a c hn hc=>by
   obtain ⟨o',e2,e3⟩:=hr.at_ n a c hn hc
   exact ⟨o',by rw [zaH (zaZ e2 hp)];exact e2,e3.pass (hr.laidS hp).pass⟩,hr.dead,fun a ha=>⟨by rw [zaH (show a≠p from fun z=>hr.nin hp (.inr (z▸ha)))];exact (hr.hidt a ha).1,(hr.hidt a ha).2⟩⟩
noncomputable def fits (n:Nat):M Unit:=if n<=sizeLine then pure () else M.bad
theorem Fin.fits {α:Type} {K:W.Frag} {E:XE} {ι:Io} {H:Hp} {n:Nat} {f:M α} {h:Hh} {P:α->Io->Hp->Prop} (q:Fin K E ι H ((do L3.fits n;f) h) P):n<=sizeLine/\Fin K E ι H (f h) P:=by
 have q':Fin K E ι H (M.bind (L3.fits n) (fun _=>f) h) P:=q
 unfold M.bind L3.fits at q'
 by_cases hn:n<=sizeLine
 ·rw [qa4 hn] at q'
  exact ⟨hn,q'⟩
 ·rw [qa5 hn] at q'
  exact qa0 q'
section
variable {X:Cx} {E:XE} {es:List Expr} {pos:Pos} {fs:Sd->M (List D)}
theorem ztH {K:W.Frag} {ι:Io} {H:Hp} {h:Hh} {ds:List D} {vs:List V} {Q:VK} (hr:zbm K ι H h) (rl:zav K ι H ds vs) (q:Fin K E ι H ((pure (.tup ds):M D) h) fun d ι' H'=> ∀ v,Rel K ι' H' d v->Q v H') {p:Addr} (hp:H p=none):Q (.ref p) (upd H p (.tup vs)):=
 q ι _ (hr.laidS hp) (hr.laid hp) _ (by
   simp only [Rel]
   exact ⟨p,vs,rfl,⟨zbd,hr.nin hp⟩,rl.step (hr.laidS hp)⟩)
theorem zqd {K:W.Frag} {ι:Io} {H:Hp} {h:Hh} {ds:List D} {vs:List V} {Q:VK} (hr:zbm K ι H h) (rl:zav K ι H ds vs) (q:Fin K E ι H ((pure (.lst ds):M D) h) fun d ι' H'=> ∀ v,Rel K ι' H' d v->Q v H') {p:Addr} (hp:H p=none):Q (.ref p) (upd H p (.lst vs)):=
 q ι _ (hr.laidS hp) (hr.laid hp) _ (by
   simp only [Rel]
   exact ⟨p,vs,rfl,⟨zbd,hr.nin hp⟩,rl.step (hr.laidS hp)⟩)
noncomputable def zdZ (ds:List D):M D:=fun h=> .ok (.cel h.length) (h++[.lst ds])
theorem ztn {K:W.Frag} {ι:Io} {H:Hp} {h:Hh} {c0:C} {o0:HO} {Q:VK} (hr:zbm K ι H h) (co:CO K ι H c0 o0) (q:Fin K E ι H (.ok (.cel h.length) (h++[c0])) fun d ι' H'=> ∀ v,Rel K ι' H' d v->Q v H') {p:Addr} (hp:H p=none):Q (.ref p) (upd H p o0):=by
 have hlen:=hr.len
 have nh:=hr.nin hp
 have st:zcd ι H ⟨ι.c++[some p],ι.x⟩ (upd H p o0):=by
  refine ⟨fun n o h=> .inl ?_,fun a h=> ?_,rfl,fun a ha=>zaH fun z=>nh (.inr (z▸ha)),fun b o' h _=>by rw [zaH (zaZ h hp)];exact h⟩
  ·show (ι.c++[some p])[n]? = _
   rw [qad (qac.mp h).1];exact h
  ·rcases qaK.mp h with h | h
   ·exact .inl h
   ·simp at h;subst h;exact .inr hp
 have at_: ∀ (n:Nat) (a:Addr),(ι.c++[some p])[n]? = some (some a)->(ι.c[n]? = some (some a))\/(n=ι.c.length/\a=p):=fun n a h=>by
  by_cases hl:n<ι.c.length
  ·rw [qad hl] at h;exact .inl h
  ·rw [qaa (by omega)] at h
   have:n - ι.c.length=0:=by
    cases z:n - ι.c.length with
    | zero=>rfl
    | succ k=>rw [z] at h;simp at h
   rw [this] at h
   simp at h
   exact .inr ⟨by omega,h.symm⟩
 refine q _ _ st ⟨?_,fun m n a h1 h2=> ?_,fun n a c h1 h2=> ?_,fun n h1=> ?_,fun a ha=>⟨?_,fun z=> ?_⟩⟩ _ ?_
 ·show (h++[c0]).length=(ι.c++[some p]).length
  rw [qav,qav,hlen];rfl
 ·rcases at_ m a h1 with z1 | ⟨z1,z1'⟩<;>rcases at_ n a h2 with z2 | ⟨z2,z2'⟩
  ·exact hr.inj m n a z1 z2
  ·subst z2';exact absurd (.inl (List.mem_of_getElem? z1)) nh
  ·subst z1';exact absurd (.inl (List.mem_of_getElem? z2)) nh
  ·rw [z1,z2]
 ·rcases at_ n a h1 with z1 | ⟨z1,z1'⟩
  ·rw [qad (by rw [hlen];exact (qac.mp z1).1)] at h2
   obtain ⟨o',e2,e3⟩:=hr.at_ n a c z1 h2
   exact ⟨o',by rw [zaH (zaZ e2 hp)];exact e2,e3.pass st.pass⟩
  ·subst z1 z1'
   rw [<- hlen,qaa (qaV _)] at h2
   simp at h2
   subst h2
   exact ⟨o0,zbd,co.pass st.pass⟩
 ·have h1:(ι.c++[some p])[n]? = some none:=h1
  by_cases hl:n<ι.c.length
  ·rw [qad hl] at h1
   rw [qad (by rw [hlen];exact hl)]
   exact hr.dead n h1
  ·rw [qaa (by omega)] at h1
   cases z:n - ι.c.length with
   | zero=>rw [z] at h1;simp at h1
   | succ k=>rw [z] at h1;simp at h1
 ·rw [zaH (show a≠p from fun z=>nh (.inr (z▸ha)))]
  exact (hr.hidt a ha).1
 ·rcases qaK.mp z with z | z
  ·exact (hr.hidt a ha).2 z
  ·simp at z;subst z;exact nh (.inr ha)
 ·simp only [Rel]
  refine ⟨p,rfl,.inl ?_⟩
  show (ι.c++[some p])[h.length]? = _
  rw [hlen,qaa (qaV _)]
  simp
theorem zvU {K:W.Frag} {ι:Io} {H:Hp} {h:Hh} {ds:List D} {vs:List V} {Q:VK} (hr:zbm K ι H h) (rl:zav K ι H ds vs) (q:Fin K E ι H (zdZ ds h) fun d ι' H'=> ∀ v,Rel K ι' H' d v->Q v H') {p:Addr} (hp:H p=none):Q (.ref p) (upd H p (.lst vs)):=
 ztn hr (c0:= .lst ds) ⟨vs,rfl,rl⟩ q hp
theorem zrJ {x1} (h:SA X E es fs):SE X E (.Tuple es x1 pos) (fun sd=>do let ds<-fs sd;fits ds.length;pure (.tup ds)):=by
 refine PE.imp (zrE h) fun σ H Q ⟨ι,h,sd,L,hh,q⟩=>⟨ι,h,sd,L,hh,Fin.bind q fun ds h1 ι1 H1 e1 s1 hr1 q1 vs rvs=> ?_⟩
 obtain ⟨z,q2⟩:=Fin.fits q1
 exact ⟨by rw [<- rvs.length];exact z,fun p hp=>ztH hr1 rvs q2 hp⟩
theorem zsX (h:SA X E es fs):SE X E (.List es pos) (fun sd=>do let ds<-fs sd;fits ds.length;pure (.lst ds)):=by
 refine PE.imp (zpi h) fun σ H Q ⟨ι,h,sd,L,hh,q⟩=>⟨ι,h,sd,L,hh,Fin.bind q fun ds h1 ι1 H1 e1 s1 hr1 q1 vs rvs=> ?_⟩
 obtain ⟨z,q2⟩:=Fin.fits q1
 exact ⟨by rw [<- rvs.length];exact z,fun p hp=>zqd hr1 rvs q2 hp⟩
theorem zpC (h:SA X E es fs):SE X E (.List es pos) (fun sd=>do let ds<-fs sd;fits ds.length;zdZ ds):=by
 refine PE.imp (zpi h) fun σ H Q ⟨ι,h,sd,L,hh,q⟩=>⟨ι,h,sd,L,hh,Fin.bind q fun ds h1 ι1 H1 e1 s1 hr1 q1 vs rvs=> ?_⟩
 obtain ⟨z,q2⟩:=Fin.fits q1
 exact ⟨by rw [<- rvs.length];exact z,fun p hp=>zvU hr1 rvs q2 hp⟩
end
inductive Out where
 | nx (sd:Sd) | rt (d:D) | bk (sd:Sd) | ct (sd:Sd)
noncomputable def zhr (K:W.Frag) (D0:zrA):Out->Io->Hp->Prop
 | .nx sd',ι',H'=> ∀ σ',zcK K ι' H' sd' σ'->D0.nx σ' H'
 | .rt d,ι',H'=> ∀ v,Rel K ι' H' d v->D0.rt v H'
 | .bk sd',ι',H'=> ∀ σ',zcK K ι' H' sd' σ'->D0.bk σ' H'
 | .ct sd',ι',H'=> ∀ σ',zcK K ι' H' sd' σ'->D0.ct σ' H'
noncomputable def zv5 (K:W.Frag) (E:XE) (G:Sd->M Out):TS:=fun D0 σ H=> ∃ ι h sd,zcK K ι H sd σ/\zbm K ι H h/\Fin K E ι H (G sd h) (zhr K D0)
noncomputable abbrev SS (X:Cx) (E:XE) (st:Stmt) (G:Sd->M Out):Prop:=PS X st (zv5 X.K E G)
noncomputable abbrev SSs (X:Cx) (E:XE) (st:List Stmt) (G:Sd->M Out):Prop:=PSs X st (zv5 X.K E G)
noncomputable def zd5 (o:Out) (g:Sd->M Out):M Out:=match o with
 | .nx sd=>g sd
 | o=>pure o
section
variable {X:Cx} {E:XE} {pos:Pos}
theorem zsG:SSs X E [] (fun sd=>pure (.nx sd)):=PSs.imp zqv fun D0 σ H ⟨ι,h,sd,L,hh,q⟩=>Fin.out hh q σ L
theorem zp5 {st:Stmt} {zbk:List Stmt} {g g':Sd->M Out} (h1:SS X E st g) (h2:SSs X E zbk g'):SSs X E (st::zbk) (fun sd=>do let o<-g sd;zd5 o g'):=by
 refine PSs.imp (zou h1 h2) fun D0 σ H ⟨ι,h,sd,L,hh,q⟩=>⟨ι,h,sd,L,hh,Fin.bind q fun o h1 ι1 H1 e1 s1 hr1 q1=> ?_⟩
 cases o with
 | nx sd'=>exact fun σ' L'=>⟨ι1,h1,sd',L',hr1,q1⟩
 | rt d=>exact Fin.out (E:=E) (P:=zhr X.K D0) hr1 q1
 | bk sd'=>exact Fin.out (E:=E) (P:=zhr X.K D0) hr1 q1
 | ct sd'=>exact Fin.out (E:=E) (P:=zhr X.K D0) hr1 q1
theorem zsH {st:Stmt} {g:Sd->M Out} (h1:SS X E st g):SSs X E [st] g:=zpE h1
theorem zsk {e:Expr} {f:Sd->M D} (he:SE X E e f) (hs:swapsWith e none pos.line X.env=pure false:=by rfl):SS X E (.Expr e pos) (fun sd=>do let _<-f sd;pure (.nx sd)):=by
 refine PS.imp (zq3 he hs) fun D0 σ H ⟨ι,h,sd,L,hh,q⟩=>⟨ι,h,sd,L,hh,Fin.bind q fun d h1 ι1 H1 e1 s1 hr1 q1 v rv=> ?_⟩
 exact Fin.out hr1 q1 σ (L.step s1)
theorem zvw {e:Expr} {f:Sd->M D} (he:SE X E e f):SS X E (.Return (some e) pos) (fun sd=>do let d<-f sd;pure (.rt d)):=by
 refine PS.imp (ztI he) fun D0 σ H ⟨ι,h,sd,L,hh,q⟩=>⟨ι,h,sd,L,hh,Fin.bind q fun d h1 ι1 H1 e1 s1 hr1 q1 v rv=> ?_⟩
 exact Fin.out hr1 q1 v rv
theorem zwJ {c:Expr} {a b:List Stmt} {t:Sd->M Bool} {g g':Sd->M Out} (hc:ST X E c t) (ha:SSs X E a g) (hb:SSs X E b g'):SS X E (.If c a b pos) (fun sd=>do let c<-t sd;if c=true then g sd else g' sd):=by
 refine PS.imp (zvd hc ha hb) fun D0 σ H ⟨ι,h,sd,L,hh,q⟩=>⟨ι,h,sd,L,hh,Fin.bind q fun c h1 ι1 H1 e1 s1 hr1 q1=> ?_⟩
 cases c with
 | true=>exact zqP ⟨ι1,h1,sd,L.step s1,hr1,q1⟩
 | false=>exact zqf ⟨ι1,h1,sd,L.step s1,hr1,q1⟩
noncomputable def zvC (K:W.Frag) (E:XE) (g:D->Sd->M Sd):TG:=fun v σ H Q=> ∃ ι h sd d,zcK K ι H sd σ/\zbm K ι H h/\Rel K ι H d v/\Fin K E ι H (g d sd h) fun sd' ι' H'=> ∀ σ',zcK K ι' H' sd' σ'->Q σ' H'
noncomputable def zvI (K:W.Frag) (E:XE) (g:List D->Sd->M Sd):TGs:=fun vs σ H Q=> ∃ ι h sd ds,zcK K ι H sd σ/\zbm K ι H h/\zav K ι H ds vs/\Fin K E ι H (g ds sd h) fun sd' ι' H'=> ∀ σ',zcK K ι' H' sd' σ'->Q σ' H'
noncomputable abbrev SG (X:Cx) (E:XE) (tg:Expr) (g:D->Sd->M Sd):Prop:=PG X tg (zvC X.K E g)
noncomputable abbrev SGs (X:Cx) (E:XE) (tgs:List Expr) (g:List D->Sd->M Sd):Prop:=PGs X tgs (zvI X.K E g)
noncomputable def zaI (i:Nat):D->Sd->M Sd:=fun d sd=>pure (sd.set i (some d))
theorem zp0 (i:Nat) {x:Str} (hN:X.N.Nodup) (hi:X.N[i]? = some x) (hx:Loc X.env.scope x) (hf:X.fn x=true\/X.env.scope.names.lookup x=some .local):SG X E (.Name x pos) (zaI i):=by
 refine PG.imp (zqH hN hi hx hf) fun v σ H Q ⟨ι,h,sd,d,L,hh,r,q⟩=> ?_
 exact Fin.out hh q _ (L.set r i)
theorem PGs.imp {tgs:List Expr} {t t':TGs} (h:PGs X tgs t) (m: ∀ v σ H Q,t' v σ H Q->t v σ H Q):PGs X tgs t':=fun pins s σ H v u Q I r q=>h pins s σ H v u Q I r (m _ _ _ _ q)
noncomputable def zcI:List D->Sd->M Sd:=fun ds sd=>match ds with | []=>pure sd | _=>M.bad
noncomputable def zaz (g:D->Sd->M Sd) (gs:List D->Sd->M Sd):List D->Sd->M Sd:=fun ds sd=>match ds with
 | []=>M.bad
 | d::r=>do let sd1<-g d sd;gs r sd1
theorem zqp:SGs X E [] zcI:=by
 refine PGs.imp zqj fun v σ H Q ⟨ι,h,sd,ds,L,hh,r,q⟩=> ?_
 cases ds with
 | nil=>simp only [zav] at r;exact ⟨r,Fin.out hh q _ L⟩
 | cons d r=>exact qa0 q
theorem zno {e:Expr} {es:List Expr} {g:D->Sd->M Sd} {gs:List D->Sd->M Sd} (h1:SG X E e g) (h2:SGs X E es gs)
  (hs:(assignEach (e::es) X.env).map (·.2)=assign e X.env::(assignEach es X.env).map (·.2):=by rfl):SGs X E (e::es) (zaz g gs):=by
 refine PGs.imp (zoi h1 h2 hs) fun v σ H Q ⟨ι,h,sd,ds,L,hh,r,q⟩=> ?_
 cases ds with
 | nil=>exact qa0 q
 | cons d ds=>
  simp only [zav] at r
  obtain ⟨v1,vr,rfl,r1,r2⟩:=r
  refine ⟨v1,vr,rfl,ι,h,sd,d,L,hh,r1,Fin.bind q fun sd1 h1 ι1 H1 e1 s1 hr1 q1 σ1 L1=> ?_⟩
  exact ⟨ι1,h1,sd1,ds,L1,hr1,r2.step s1,q1⟩
noncomputable def zcq (n:Nat) (gs:List D->Sd->M Sd):D->Sd->M Sd:=fun d sd=>match d with
 | .tup ds=>if ds.length=n then gs ds sd else M.bad
 | _=>M.bad
theorem zcO {K:W.Frag} {ι:Io} {H:Hp} {ds:List D} {v:V} (h:Rel K ι H (.tup ds) v): ∃ a vs,v= .ref a/\SqT K H a vs/\zav K ι H ds vs:=by
 simp only [Rel] at h
 obtain ⟨a,vs,e,h1,h2⟩:=h
 exact ⟨a,vs,e,.inl (.inl h1.1),h2⟩
theorem zlv {K:W.Frag} {ι:Io} {H:Hp} {ds:List D} {v:V} (h:Rel K ι H (.scr ds) v): ∃ a vs,v= .ref a/\SqL K H a vs/\zav K ι H ds vs:=by
 simp only [Rel] at h
 obtain ⟨a,vs,e,h1,h2⟩:=h
 refine ⟨a,vs,e,?_,h2⟩
 rcases h1 with h1 | h1
 ·exact .inl h1.1
 ·rcases h1 with h1 | h1
  ·rcases h1 with h1 | ⟨o,h1⟩<;>cases h1
  ·exact .inr h1
theorem zeC {K:W.Frag} {ι:Io} {H:Hp} {ds:List D} {v:V} (h:Rel K ι H (.lst ds) v): ∃ a vs,v= .ref a/\SqL K H a vs/\zav K ι H ds vs:=by
 simp only [Rel] at h
 obtain ⟨a,vs,e,h1,h2⟩:=h
 exact ⟨a,vs,e,.inl (.inl h1.1),h2⟩
theorem ztg {es:List Expr} {k:Nat} {gs:List D->Sd->M Sd} {n:Nat} (hc:X.calm=true) (h:SGs X E es gs)
  (hn:(assignEach es X.env).length=n:=by rfl) (hst:(assignEach es X.env).findIdx? (·.1)=none:=by rfl):SG X E (.Tuple es k pos) (zcq n gs):=by
 refine PG.imp (zs1 hc h hn hst) fun v σ H Q ⟨ι,h,sd,d,L,hh,r,q⟩=> ?_
 cases d with
 | tup ds=>
  obtain ⟨a,vs,e,h1,h2⟩:=zcO r
  have q:Fin X.K E ι H ((if ds.length=n then gs ds sd else M.bad) h) _:=q
  by_cases hl:ds.length=n
  ·rw [qa4 hl] at q
   exact ⟨a,vs,e,h1,by rw [<- h2.length];exact hl,ι,h,sd,ds,L,hh,h2,q⟩
  ·rw [qa5 hl] at q
   exact qa0 q
 | _=>exact qa0 q
theorem zvr {tg e:Expr} {f:Sd->M D} {g:D->Sd->M Sd} (he:SE X E e f) (hg:SG X E tg g) (hs:swapsWithSole [tg] e pos.line X.env=pure false:=by rfl) (hw:swappedStores [tg] e X.env=pure none:=by rfl)
  (h1:(assignEach [tg] X.env).map (·.2)=[assign tg X.env]:=by rfl):SS X E (.Assign [tg] e pos) (fun sd=>do let d<-f sd;let sd'<-g d sd;pure (.nx sd')):=by
 refine PS.imp (zsN he hg hs hw h1) fun D0 σ H ⟨ι,h,sd,L,hh,q⟩=>⟨ι,h,sd,L,hh,Fin.bind q fun d h1 ι1 H1 e1 s1 hr1 q1 v rv=> ?_⟩
 exact ⟨ι1,h1,sd,d,L.step s1,hr1,rv,Fin.bind q1 fun sd' h2 ι2 H2 e2 s2 hr2 q2=>Fin.out hr2 q2⟩
theorem zuw (i:Nat) {x:Str} {e:Expr} {f:Sd->M D} {pos':Pos} (hN:X.N.Nodup) (hi:X.N[i]? = some x) (hx:Loc X.env.scope x) (hf:X.fn x=true\/X.env.scope.names.lookup x=some .local) (he:SE X E e f) (hs:swapsWith e (some (.Name x pos')) pos.line X.env=pure false:=by rfl):
  SS X E (.Assign [.Name x pos'] e pos) (fun sd=>do let d<-f sd;pure (.nx (sd.set i (some d)))):=by
 refine PS.imp (zt3 hN hi hx he hs hf) fun D0 σ H ⟨ι,h,sd,L,hh,q⟩=>⟨ι,h,sd,L,hh,Fin.bind q fun d h1 ι1 H1 e1 s1 hr1 q1 v rv=> ?_⟩
 exact Fin.out hr1 q1 _ ((L.step s1).set rv i)
theorem zvL {i j:Nat} {x y:Str} {a b:Expr} {fs:Sd->M (List D)} {px py pt:Pos} {kt k2 pt2} (hp:PS X (.Assign [.Tuple [.Name x px,.Name y py] kt pt] (.Tuple [a,b] k2 pt2) pos) (zv0 i j (zuS X.K E fs))):
  SS X E (.Assign [.Tuple [.Name x px,.Name y py] kt pt] (.Tuple [a,b] k2 pt2) pos) (fun sd=>do let ds<-fs sd;match ds with | [d,d']=>pure (.nx ((sd.set i (some d)).set j (some d'))) | _=>M.bad):=by
 refine PS.imp hp fun D0 σ H ⟨ι,h,sd,L,hh,q⟩=>⟨ι,h,sd,L,hh,Fin.bind q fun ds h1 ι1 H1 e1 s1 hr1 q1 vs rv=> ?_⟩
 match ds,rv,q1 with
 | [d,d'],rv,q1=>
  simp only [zav] at rv
  obtain ⟨v,r,rfl,r1,v',r',rfl,r2,rfl⟩:=rv
  exact ⟨v,v',rfl,Fin.out hr1 q1 _ (((L.step s1).set r1 i).set r2 j)⟩
 | [],_,q1=>exact qa0 q1
 | [_],_,q1=>exact qa0 q1
 | _::_::_::_,_,q1=>exact qa0 q1
def zuk (H H2:Hp):Prop:=H2=H\/ ∃ q vs,H q=none/\H2=upd H q (.tup vs)
theorem zuk.step {K:W.Frag} {ι:Io} {H H2:Hp} {h:Hh} (g:zuk H H2) (hr:zbm K ι H h):zcd ι H ι H2/\zbm K ι H2 h:=by
 rcases g with e | ⟨q,vs,hq,e⟩
 ·subst e;exact ⟨zcd.refl _ _,hr⟩
 ·subst e;exact ⟨hr.laidS hq,hr.laid hq⟩
structure zp4 (K:W.Frag) (ι:Io) (H:Hp) (J:It) (ds:List D):Prop where
 go: ∀ ι' H' (i:Nat),Pass ι H ι' H'->i<ds.length->J.go i H'
 yld: ∀ ι' H' h (i:Nat) x H2,Pass ι H ι' H'->zbm K ι' H' h->i<ds.length->J.yld i H' x H2->zuk H' H2/\ ∃ d,ds[i]? = some d/\Rel K ι' H2 d x
 stop: ∀ ι' H',Pass ι H ι' H'->J.stop ds.length H'
noncomputable def zvS (K:W.Frag) (E:XE) (f:Sd->M (List D)):TI:=fun σ H Q=> ∃ ι h sd,zcK K ι H sd σ/\zbm K ι H h/\Fin K E ι H (f sd h) fun ds ι' H'=> ∀ J,zp4 K ι' H' J ds->Q J H'
noncomputable abbrev SI (X:Cx) (E:XE) (tg iter:Expr) (f:Sd->M (List D)):Prop:=PI X tg iter (zvS X.K E f)
noncomputable def zdr:D->M (List D)
 | .tup ds=>pure ds
 | .lst ds=>pure ds
 | _=>M.bad
theorem zob {K:W.Frag} {ι:Io} {H:Hp} {a:Addr} {vs:List V} {ds:List D} (h: ∀ ι' H',Pass ι H ι' H'->SqT K H' a vs) (rl:zav K ι H ds vs):zp4 K ι H (Itt K a) ds where
 go:=fun ι' H' i s hi=>⟨vs,vs[i]'(by rw [<- rl.length];exact hi),h ι' H' s,by simp⟩
 yld:=fun ι' H' _ i x H2 s _ hi ⟨e,y⟩=>by
  subst e
  have hx:=y vs (h ι' _ s)
  obtain ⟨d,e1,e2⟩:=rl.getV hx
  exact ⟨.inl rfl,d,e1,e2.pass s⟩
 stop:=fun ι' H' s=>⟨vs,h ι' H' s,by rw [rl.length];exact qaV _⟩
theorem znY {K:W.Frag} {ι:Io} {H:Hp} {a:Addr} {vs:List V} {ds:List D} (h: ∀ ι' H',Pass ι H ι' H'->SqL K H' a vs) (rl:zav K ι H ds vs):zp4 K ι H (Itl K a) ds where
 go:=fun ι' H' i s hi=>⟨vs,vs[i]'(by rw [<- rl.length];exact hi),h ι' H' s,by simp⟩
 yld:=fun ι' H' _ i x H2 s _ hi ⟨e,y⟩=>by
  subst e
  have hx:=y vs (h ι' _ s)
  obtain ⟨d,e1,e2⟩:=rl.getV hx
  exact ⟨.inl rfl,d,e1,e2.pass s⟩
 stop:=fun ι' H' s=>⟨vs,h ι' H' s,by rw [rl.length];exact qaV _⟩
theorem Pass.refl (ι:Io) (H:Hp):Pass ι H ι H:=(zcd.refl ι H).pass
theorem zmC {K:W.Frag} {ι:Io} {H:Hp} {ds:List D} {v:V} (h:Rel K ι H (.tup ds) v): ∃ a vs,v= .ref a/\(∀ ι' H',Pass ι H ι' H'->SqT K H' a vs)/\zav K ι H ds vs:=by
 simp only [Rel] at h
 obtain ⟨a,vs,e,h1,h2⟩:=h
 exact ⟨a,vs,e,fun ι' H' s=> .inl (.inl (s.keep _ _ h1.1 h1.2).1),h2⟩
theorem zqF {K:W.Frag} {ι:Io} {H:Hp} {ds:List D} {v:V} (h:Rel K ι H (.lst ds) v): ∃ a vs,v= .ref a/\(∀ ι' H',Pass ι H ι' H'->SqL K H' a vs)/\zav K ι H ds vs:=by
 simp only [Rel] at h
 obtain ⟨a,vs,e,h1,h2⟩:=h
 exact ⟨a,vs,e,fun ι' H' s=> .inl (.inl (s.keep _ _ h1.1 h1.2).1),h2⟩
end
end L3
namespace L2
open PySem PySem.Spec PyProof.Rows
noncomputable def zwI (K:W.Frag) (tl:TE):TI:=fun σ H R=>tl σ H fun x H1=> ∃ a,x= .ref a/\(((∃ xs,SqL K H1 a xs)/\R (Itl K a) H1)\/((∃ xs,SqT K H1 a xs)/\R (Itt K a) H1))
theorem ztl {X:Cx} {tg:Expr} {l:Expr} {tl:TE} (hl:PE X l tl):PI X tg l (zwI X.K tl):=by
 intro pins s σ H R I h
 refine thn (hl pins s σ H _ I h) fun v s1 ⟨x,H1,I1,r1,q1⟩=> ?_
 obtain ⟨a,e,⟨⟨xs,hq⟩,q⟩ | ⟨⟨xs,hq⟩,q⟩⟩:=q1
 ·subst e
  cases r1
  obtain ⟨its,rv,p,hz⟩:=I1.list hq
  refine wpAny_pyIter_list p.isList ?_
  refine ⟨s1.heap.objs.size,[s1.heap.objs.size],_,_,H1,rfl,I1.kept (t':=s1.toks) fun b o e=>qag _ e,zlS a _,⟨_,qar _ rfl,rfl,rfl⟩,fun b hb=> ?_,q⟩
  have e:b=s1.heap.objs.size:=by simpa using hb
  subst e
  exact I1.fpOk (qaV _) (I1.hok.fresh (qaV _))
 ·subst e
  cases r1
  obtain ⟨its,rv,p,hz⟩:=I1.tuple hq
  refine wpAny_pyIter_tuple (show s1.heap.IsTuple a its.toArray from p) ?_
  refine ⟨s1.heap.objs.size,[s1.heap.objs.size],_,_,H1,rfl,I1.kept (t':=s1.toks) fun b o e=>qag _ e,zkv a _,⟨_,qar _ rfl,rfl,rfl⟩,fun b hb=> ?_,q⟩
  have e:b=s1.heap.objs.size:=by simpa using hb
  subst e
  exact I1.fpOk (qaV _) (I1.hok.fresh (qaV _))
end L2
namespace L3
open PySem PySem.Spec PyProof.Rows L2
section
variable {X:Cx} {E:XE} {pos:Pos}
theorem zsv {tg e:Expr} {f:Sd->M D} (he:SE X E e f):SI X E tg e (fun sd=>do let d<-f sd;zdr d):=by
 refine PI.imp (ztl he) fun σ H Q ⟨ι,h,sd,L,hh,q⟩=>⟨ι,h,sd,L,hh,Fin.bind q fun d h1 ι1 H1 e1 s1 hr1 q1 v rv=> ?_⟩
 cases d with
 | lst ds=>
  obtain ⟨a,vs,e,h1',h2⟩:=zqF rv
  exact ⟨a,e,.inl ⟨⟨vs,h1' _ _ (Pass.refl _ _)⟩,Fin.out hr1 q1 _ (znY h1' h2)⟩⟩
 | tup ds=>
  obtain ⟨a,vs,e,h1',h2⟩:=zmC rv
  exact ⟨a,e,.inr ⟨⟨vs,h1' _ _ (Pass.refl _ _)⟩,Fin.out hr1 q1 _ (zob h1' h2)⟩⟩
 | _=>exact qa0 q1
noncomputable def zdi (lo:Int) (n:Nat):List D:=(List.range n).map fun (k:Nat)=>D.int (lo+(k:Int))
theorem ziQ {K:W.Frag} {ι:Io} {H:Hp} {lo:Int} {n:Nat}:zp4 K ι H (Itr lo n) (zdi lo n) where
 go:=fun ι' H' i s hi=>by show i<n;simpa [zdi] using hi
 yld:=fun ι' H' _ i x H2 s _ hi ⟨e,y⟩=>by
  subst e y
  have hi:i<n:=by simpa [zdi] using hi
  refine ⟨.inl rfl,.int (lo+i),?_,by simp [Rel]⟩
  simp [zdi,hi]
 stop:=fun ι' H' s=>by
  show n<=(zdi lo n).length
  simp [zdi]
noncomputable def zbN (j:Int):Bool:=decide (-(2^62)<=j) && decide (j<2^62)
noncomputable def zmu:List D->M (List D)
 | [.int j]=>if zbN j=true then pure (zdi 0 j.toNat) else M.bad
 | _=>M.bad
noncomputable def zlH:List D->M (List D)
 | [.int i,.int j]=>if zbN i=true/\zbN j=true then pure (zdi i (j - i).toNat) else M.bad
 | _=>M.bad
theorem zbT {j:Int} (h:zbN j=true): -(2^62)<=j/\j<2^62:=by
 unfold zbN at h
 simpa using h
theorem zpZ {tg a:Expr} {p:Pos} {fs:Sd->M (List D)} (hg:Gl X "range") (hm:X.mg "range"=none) (ha:SA X E [a] fs) (hs:starEach [a] X.env=[(false,eval a X.env)]:=by rfl):
  SI X E tg (.Call (.Name "range" p) [a] [] pos) (fun sd=>do let ds<-fs sd;zmu ds):=by
 refine PI.imp (zmO hg hm ha hs) fun σ H Q ⟨ι,h,sd,L,hh,q⟩=>⟨ι,h,sd,L,hh,Fin.bind q fun ds h1 ι1 H1 e1 s1 hr1 q1 vs rv=> ?_⟩
 match ds,rv,q1 with
 | [.int j],rv,q1=>
  simp only [zav,Rel] at rv
  obtain ⟨v,r,rfl,rfl,rfl⟩:=rv
  have q1:Fin X.K E ι1 H1 ((if zbN j=true then (pure (zdi 0 j.toNat):M (List D)) else M.bad) h1) _:=q1
  by_cases hj:zbN j=true
  ·rw [qa4 hj] at q1
   exact ⟨j,rfl,(zbT hj).1,(zbT hj).2,Fin.out hr1 q1 _ ziQ⟩
  ·rw [qa5 hj] at q1
   exact qa0 q1
 | [],_,q1=>exact qa0 q1
 | .non::_,_,q1=>exact qa0 q1
 | .bl _::_,_,q1=>exact qa0 q1
 | .str _::_,_,q1=>exact qa0 q1
 | .tup _::_,_,q1=>exact qa0 q1
 | .lst _::_,_,q1=>exact qa0 q1
 | .cel _::_,_,q1=>exact qa0 q1
 | .set _::_,_,q1=>exact qa0 q1
 | .dct::_,_,q1=>exact qa0 q1
 | .fn _::_,_,q1=>exact qa0 q1
 | .scr _::_,_,q1=>exact qa0 q1
 | .exn _::_,_,q1=>exact qa0 q1
 | .int _::_::_,_,q1=>exact qa0 q1
theorem zpu {tg a b:Expr} {p:Pos} {fs:Sd->M (List D)} (hp:PI X tg (.Call (.Name "range" p) [a,b] [] pos) (ztq (zuS X.K E fs))):
  SI X E tg (.Call (.Name "range" p) [a,b] [] pos) (fun sd=>do let ds<-fs sd;zlH ds):=by
 refine PI.imp hp fun σ H Q ⟨ι,h,sd,L,hh,q⟩=>⟨ι,h,sd,L,hh,Fin.bind q fun ds h1 ι1 H1 e1 s1 hr1 q1 vs rv=> ?_⟩
 unfold zlH at q1
 split at q1
 ·rename_i i j
  simp only [zav,Rel] at rv
  obtain ⟨v,r,rfl,rfl,v',r',rfl,rfl,rfl⟩:=rv
  by_cases hj:zbN i=true/\zbN j=true
  ·rw [qa4 hj] at q1
   exact ⟨i,j,rfl,⟨(zbT hj.1).1,(zbT hj.1).2,(zbT hj.2).1,(zbT hj.2).2⟩,Fin.out hr1 q1 _ ziQ⟩
  ·rw [qa5 hj] at q1
   exact qa0 q1
 ·exact qa0 q1
noncomputable def zaQ (body:D->Sd->M Out):List D->Sd->M Out
 | [],sd=>pure (.nx sd)
 | x::r,sd=>do
  let o<-body x sd
  match o with
  | .nx sd'=>zaQ body r sd'
  | .ct sd'=>zaQ body r sd'
  | .bk sd'=>pure (.nx sd')
  | .rt d=>pure (.rt d)
theorem zuu {tg iter:Expr} {body:List Stmt} {fi:Sd->M (List D)} {g:D->Sd->M Sd} {gb:Sd->M Out} (hc:X.calm=true) (hp:PassesOwn (model X.prog X.w) X.A X.env X.xe) (hi:SI X E tg iter fi) (hg:SG X E tg g) (hb:SSs X E body gb)
  (hs: ∀ x,foldedSetIterable iter X.env x=pure x:=by intro _;rfl):SS X E (.For tg iter body [] pos) (fun sd=>do let ds<-fi sd;zaQ (fun x sd=>do let sd1<-g x sd;gb sd1) ds sd):=by
 refine PS.imp (zrF hp hc hi hg hb hs) fun D0 σ H ⟨ι,h,sd,L,hh,q⟩=>⟨ι,h,sd,L,hh,Fin.bind q fun ds h1 ι1 H1 e1 s1 hr1 q1 J ok=> ?_⟩
 refine ⟨fun i m σ' H'=>m=ds.length - i/\i<=ds.length/\ ∃ ι' h' sd',zcd ι1 H1 ι' H'/\zcK X.K ι' H' sd' σ'/\zbm X.K ι' H' h'/\Fin X.K E ι' H' (zaQ (fun x sd=>do let sd1<-g x sd;gb sd1) (ds.drop i) sd' h') (zhr X.K D0),
   ⟨_,rfl,Nat.zero_le _,ι1,h1,sd,zcd.refl _ _,L.step s1,hr1,by simpa using q1⟩,?_⟩
 rintro i m σ2 H2 ⟨rfl,hi2,ι2,h2,sd2,s2,L2,hr2,q2⟩
 by_cases hlt:i<ds.length
 ·right
  refine ⟨ok.go ι2 H2 i s2.pass hlt,fun σ' H'=>i+1<=ds.length/\ ∃ ι' h' sd',zcd ι1 H1 ι' H'/\zcK X.K ι' H' sd' σ'/\zbm X.K ι' H' h'/\Fin X.K E ι' H' (zaQ (fun x sd=>do let sd1<-g x sd;gb sd1) (ds.drop (i+1)) sd' h') (zhr X.K D0),
    fun σ' H' p=>⟨ds.length - (i+1),by omega,rfl,p.1,p.2⟩,fun x H3 y=> ?_⟩
  obtain ⟨gr,d,ed,rd⟩:=ok.yld ι2 H2 h2 i x H3 s2.pass hr2 hlt y
  obtain ⟨s3,hr3⟩:=gr.step hr2
  have edr:ds.drop i=d::ds.drop (i+1):=by
   rw [List.drop_eq_getElem_cons hlt]
   rw [qaf hlt] at ed
   rw [Option.some.inj ed]
  rw [edr] at q2
  have q3:Fin X.K E ι2 H3 (zaQ (fun x sd=>do let sd1<-g x sd;gb sd1) (d::ds.drop (i+1)) sd2 h2) (zhr X.K D0):=Fin.step s3 q2
  refine ⟨ι2,h2,sd2,d,L2.step s3,hr3,rd,?_⟩
  have q5:Fin X.K E ι2 H3 ((g d sd2>>=fun sd1=>(gb sd1>>=fun o=>(match o with
    | .nx sd'=>zaQ (fun x sd=>do let sd1<-g x sd;gb sd1) (ds.drop (i+1)) sd'
    | .ct sd'=>zaQ (fun x sd=>do let sd1<-g x sd;gb sd1) (ds.drop (i+1)) sd'
    | .bk sd'=>pure (.nx sd')
    | .rt d=>pure (.rt d):M Out))) h2) (zhr X.K D0):=by
   have e:(zaQ (fun x sd=>do let sd1<-g x sd;gb sd1) (d::ds.drop (i+1)) sd2 h2)=((g d sd2>>=fun sd1=>(gb sd1>>=fun o=>(match o with
     | .nx sd'=>zaQ (fun x sd=>do let sd1<-g x sd;gb sd1) (ds.drop (i+1)) sd'
     | .ct sd'=>zaQ (fun x sd=>do let sd1<-g x sd;gb sd1) (ds.drop (i+1)) sd'
     | .bk sd'=>pure (.nx sd')
     | .rt d=>pure (.rt d):M Out))) h2):=by
    show M.bind (M.bind (g d sd2) gb) _ h2=M.bind (g d sd2) _ h2
    unfold M.bind
    cases g d sd2 h2<;>rfl
   rw [<- e]
   exact q3
  refine Fin.bind q5 fun sd6 h6 ι6 H6 e6 s6 hr6 q6 σ6 L6=> ?_
  refine ⟨ι6,h6,sd6,L6,hr6,Fin.bind q6 fun o h7 ι7 H7 e7 s7 hr7 q7=> ?_⟩
  have st7:zcd ι1 H1 ι7 H7:=((s2.trans s3).trans s6).trans s7
  cases o with
  | nx sd'=>exact fun σ' L'=>⟨hlt,ι7,h7,sd',st7,L',hr7,q7⟩
  | ct sd'=>exact fun σ' L'=>⟨hlt,ι7,h7,sd',st7,L',hr7,q7⟩
  | bk sd'=>exact fun σ' L'=>Fin.out (E:=E) (P:=zhr X.K D0) hr7 q7 σ' L'
  | rt d=>exact fun v rv=>Fin.out (E:=E) (P:=zhr X.K D0) hr7 q7 v rv
 ·left
  have e:i=ds.length:=by omega
  subst e
  refine ⟨ok.stop ι2 H2 s2.pass,?_⟩
  rw [List.drop_length] at q2
  exact Fin.out (E:=E) (P:=zhr X.K D0) hr2 q2 σ2 L2
noncomputable def zbS (f:D->M (Option D)):List D->M (List D)
 | []=>pure []
 | x::r=>do
  let o<-f x
  let ys<-zbS f r
  pure (match o with | some y=>y::ys | none=>ys)
noncomputable def zbn (g:D->Sd->M Sd) (tc:Sd->M Bool) (te:Sd->M D) (sd:Sd) (x:D):M (Option D):=do
 let sd1<-g x sd
 let c<-tc sd1
 if c=true then do
  let y<-te sd1
  pure (some y)
 else pure none
end
noncomputable def Io.hide (ι:Io) (p:Addr):Io:=⟨ι.c,p::ι.x⟩
noncomputable def Io.show (ι:Io):Io:=⟨ι.c,ι.x.tail⟩
theorem znF {ι:Io} {a:Addr} (h:ι.show.Has a):ι.Has a:=h.imp id List.mem_of_mem_tail
section
variable {K:W.Frag} {ι ι':Io} {H H':Hp} {p:Addr} {o:HO} {h:Hh}
theorem zhE (hp:H p=none):Pass ι H (ι.hide p) (upd H p o):=⟨fun _ _ z=> .inl z,fun b o' hb n=>⟨by rw [zaH (zaZ hb hp)];exact hb,fun z=>by
  rcases z with z | z
  · exact n (.inl z)
  · rcases qaP.mp z with z | z
    · rw [z,hp] at hb;cases hb
    · exact n (.inr z)⟩⟩
theorem zh0:Pass ι H ι.show H:=⟨fun _ _ z=> .inl z,fun b o' hb n=>⟨hb,fun z=>n (znF z)⟩⟩
theorem zgJ (hp:p∈ι.x):Pass ι H ι (upd H p o):=⟨fun _ _ z=> .inl z,fun b o' hb n=>⟨by rw [zaH (show b≠p from fun z=>n (.inr (z▸hp)))];exact hb,n⟩⟩
theorem zbm.hide (hr:zbm K ι H h) (hp:H p=none):zbm K (ι.hide p) (upd H p o) h:=
 ⟨hr.len,hr.inj,fun n a c h1 h2=>by
   obtain ⟨o',e2,e3⟩:=hr.at_ n a c h1 h2
   exact ⟨o',by rw [zaH (zaZ e2 hp)];exact e2,e3.pass (zhE hp)⟩,hr.dead,fun a ha=>by
   rcases qaP.mp ha with z | z
   · subst z;exact ⟨⟨o,zbd⟩,fun z=>hr.nin hp (.inl z)⟩
   · refine ⟨?_,(hr.hidt a z).2⟩
     rw [zaH (show a≠p from fun w=>hr.nin hp (.inr (w▸z)))]
     exact (hr.hidt a z).1⟩
theorem zbm.hid (hr:zbm K ι H h) (hp:p∈ι.x):zbm K ι (upd H p o) h:=
 ⟨hr.len,hr.inj,fun n a c h1 h2=>by
   obtain ⟨o',e2,e3⟩:=hr.at_ n a c h1 h2
   have ne:a≠p:=fun z=>(hr.hidt p hp).2 (z▸List.mem_of_getElem? h1)
   exact ⟨o',by rw [zaH ne];exact e2,e3.pass (zgJ hp)⟩,hr.dead,fun a ha=>by
   refine ⟨?_,(hr.hidt a ha).2⟩
   by_cases z:a=p
   · subst z;exact ⟨o,zbd⟩
   · rw [zaH z];exact (hr.hidt a ha).1⟩
theorem zbm.show (hr:zbm K ι H h):zbm K ι.show H h:=
 ⟨hr.len,hr.inj,fun n a c h1 h2=>by
   obtain ⟨o',e2,e3⟩:=hr.at_ n a c h1 h2
   exact ⟨o',e2,e3.pass zh0⟩,hr.dead,fun a ha=>hr.hidt a (List.mem_of_mem_tail ha)⟩
theorem zlw {ι1 ι2:Io} {H1 H2:Hp} (hp:H p=none) (hpx:p∉ι.x) (hx:ι1.x=p::ι.x) (s:zcd ι H ι1.show H1) (t:zcd ι1 H1 ι2 H2):zcd ι H ι2.show (upd H2 p o) where
 old:=fun n q h=>by
  rcases s.old n q h with h | h
  ·exact t.old n q h
  ·rcases t.old n _ h with h | h<;>exact .inr h
 new:=fun a h=>by
  rcases t.new a h with h | h
  ·exact s.new a h
  ·by_cases z:some a∈ι.c
   ·exact .inl z
   ·refine .inr ?_
    cases q:H a with
    | none=>rfl
    | some o=>
     by_cases z':a∈ι.x
     ·rw [s.hidk a z',q] at h;cases h
     ·rw [s.keep a o q (fun w=>w.elim z z')] at h;cases h
 hid:=by
  show ι2.x.tail=ι.x
  rw [t.hid,hx]
  rfl
 hidk:=fun a ha=>by
  have z:a≠p:=fun z=>hpx (z▸ha)
  rw [zaH z,t.hidk a (by rw [hx];exact qan _ ha)]
  exact s.hidk a ha
 keep:=fun b q hb n=>by
  have ne:b≠p:=zaZ hb hp
  rw [zaH ne]
  refine t.keep b q (s.keep b q hb n) fun z=> ?_
  rcases z with z | z
  ·rcases s.new b z with z | z
   ·exact n (.inl z)
   ·rw [hb] at z;cases z
  ·rw [hx] at z
   rcases qaP.mp z with z | z
   ·exact ne z
   ·exact n (.inr z)
theorem zcd.shown {ι2:Io} {H2:Hp} {r:List Addr} (hx:ι.x=p::r) (t:zcd ι H ι2 H2):zcd ι.show H ι2.show H2 where
 old:=t.old
 new:=t.new
 hid:=by show ι2.x.tail=ι.x.tail;rw [t.hid]
 hidk:=fun a ha=>t.hidk a (List.mem_of_mem_tail ha)
 keep:=fun b q hb n=>by
  by_cases z:b=p
  ·subst z
   rw [t.hidk b (by rw [hx];exact qau)]
   exact hb
  ·refine t.keep b q hb fun w=> ?_
   rcases w with w | w
   ·exact n (.inl w)
   ·rw [hx] at w
    rcases qaP.mp w with w | w
    ·exact z w
    ·exact n (.inr (by show b∈ι.x.tail;rw [hx];exact w))
theorem Fin.bindB {α β:Type} {E:XE} {m:M α} {f:α->M β} {P:β->Io->Hp->Prop} {P':α->Io->Hp->Prop} {ιb:Io} {Hb:Hp} (q:Fin K E ιb Hb ((m>>=f) h) P)
  (conv: ∀ ι' H' h',zcd ι H ι' H'->zbm K ι' H' h'-> ∃ ι'',zcd ιb Hb ι'' H'/\zbm K ι'' H' h')
  (k: ∀ a h' ι' H',m h= .ok a h'->zcd ι H ι' H'->zbm K ι' H' h'->Fin K E ιb Hb (f a h') P->P' a ι' H'):Fin K E ι H (m h) P':=by
 have q':Fin K E ιb Hb (M.bind m f h) P:=q
 unfold M.bind at q'
 cases e:m h with
 | ok a h'=>
  rw [e] at q'
  intro ι' H' s hr
  exact k a h' ι' H' e s hr q'
 | exc c h'=>
  rw [e] at q'
  intro ι' H' s hr
  obtain ⟨ι'',s2,hr2⟩:=conv ι' H' h' s hr
  exact q' _ _ s2 hr2
 | bad=>rw [e] at q';exact q'
end
noncomputable instance:LawfulMonad M:=LawfulMonad.mk' M
 (id_map:=fun x=>by
   funext h
   show M.bind x (fun a=>M.pure (id a)) h=x h
   unfold M.bind M.pure
   cases x h<;>rfl)
 (pure_bind:=fun x f=>rfl)
 (bind_assoc:=fun x f g=>by
   funext h
   show M.bind (M.bind x f) g h=M.bind x (fun a=>M.bind (f a) g) h
   unfold M.bind
   cases x h<;>rfl)
noncomputable def zaw (src:List (Option Nat)) (sd:Sd):Sd:=src.map fun o=>o.bind fun i=>(sd[i]?).join
theorem zcK.bStart {K:W.Frag} {ι:Io} {H:Hp} {sd:Sd} {σ:L2.St} {src:List (Option Nat)} (h:zcK K ι H sd σ):zcK K ι H (zaw src sd) (bStart src σ):=by
 refine ⟨by unfold zaw L2.bStart;rw [qaH,qaH],fun i d e=> ?_⟩
 unfold zaw at e
 unfold L2.bStart
 rw [List.getElem?_map] at e ⊢
 cases z:src[i]? with
 | none=>rw [z] at e;cases e
 | some o=>
  rw [z] at e
  cases o with
  | none=>cases e
  | some j=>
   have e:(sd[j]?).join=some d:=by simpa using e
   cases w:sd[j]? with
   | none=>rw [w] at e;cases e
   | some q=>
    rw [w] at e
    have e:q=some d:=by simpa using e
    subst e
    obtain ⟨v,h1,h2⟩:=h.2 j d w
    exact ⟨v,by simp [h1],h2⟩
def zaW (g:D->Sd->M Sd) (src:List (Option Nat)):Prop:= ∀ x sd h sd1 h1,sd.length=src.length->(∀ (i:Nat),src[i]? = some none->sd[i]? = some none)->g x sd h= .ok sd1 h1->sd1.length=sd.length/\ ∀ (i:Nat) d,src[i]? ≠ some none->sd[i]? = some (some d)->sd1[i]? = some (some d)
def zdc (g:List D->Sd->M Sd) (src:List (Option Nat)):Prop:= ∀ x sd h sd1 h1,g x sd h= .ok sd1 h1->sd1.length=sd.length/\ ∀ (i:Nat) d,src[i]? ≠ some none->sd[i]? = some (some d)->sd1[i]? = some (some d)
theorem zll {i:Nat} {src:List (Option Nat)} (h:src[i]? = some none): ∀ x sd h sd1 h1,zaI i x sd h= .ok sd1 h1->sd1.length=sd.length/\ ∀ (j:Nat) d,src[j]? ≠ some none->sd[j]? = some (some d)->sd1[j]? = some (some d):=fun x sd h0 sd1 h1 e=>by
 have e:R.ok (sd.set i (some x)) h0= .ok sd1 h1:=e
 cases e
 refine ⟨qaI,fun j d hj e=> ?_⟩
 rw [qao (show i≠j from fun z=>hj (z▸h))]
 exact e
theorem zaW.name {i:Nat} {src:List (Option Nat)} (h:src[i]? = some none):zaW (zaI i) src:=fun x sd h0 sd1 h1 _ _ e=>zll h x sd h0 sd1 h1 e
theorem zdc.nil {src:List (Option Nat)}:zdc zcI src:=fun x sd h sd1 h1 e=>by
 cases x with
 | nil=>
  have e:R.ok sd h= .ok sd1 h1:=e
  cases e
  exact ⟨rfl,fun _ _ _ z=>z⟩
 | cons _ _=>cases (show R.bad=R.ok sd1 h1 from e)
theorem zdc.cons {i:Nat} {gs:List D->Sd->M Sd} {src:List (Option Nat)} (h:src[i]? = some none) (t:zdc gs src):zdc (zaz (zaI i) gs) src:=fun x sd h0 sd1 h1 e=>by
 cases x with
 | nil=>cases (show R.bad=R.ok sd1 h1 from e)
 | cons d r=>
  have e:gs r (sd.set i (some d)) h0= .ok sd1 h1:=e
  obtain ⟨e1,e2⟩:=t r _ h0 sd1 h1 e
  refine ⟨by rw [e1,qaI],fun j d' hj z=>e2 j d' hj ?_⟩
  rw [qao (show i≠j from fun z=>hj (z▸h))]
  exact z
theorem zaW.tup {n:Nat} {gs:List D->Sd->M Sd} {src:List (Option Nat)} (t:zdc gs src):zaW (zcq n gs) src:=fun x sd h0 sd1 h1 _ _ e=>by
 cases x with
 | tup ds=>
  have e:(if ds.length=n then gs ds sd else M.bad) h0= .ok sd1 h1:=e
  by_cases hl:ds.length=n
  ·rw [qa4 hl] at e;exact t _ _ _ _ _ e
  ·rw [qa5 hl] at e;cases (show R.bad=R.ok sd1 h1 from e)
 | _=>cases (show R.bad=R.ok sd1 h1 from e)
section
variable {X:Cx} {E:XE} {scope:Scope} {N:List Str} {src:List (Option Nat)} {tg iter elt:Expr} {ifs:List Expr} {pos:Pos}
noncomputable abbrev SCs (X:Cx) (E:XE) (ifs:List Expr) (t:Sd->M Bool):Prop:=PCs X ifs (zgR X.K E t)
theorem zs9:SCs X E [] (fun _=>pure true):=fun pins s σ H Q I ⟨ι,h,sd,L,hh,q⟩=>zpU pins s σ H Q I (Fin.out hh q)
theorem zrH {c:Expr} {t:Sd->M Bool} (h:ST X E c t):SCs X E [c] t:=zqU h
theorem blk {K:W.Frag} {g:D->Sd->M Sd} {tc:Sd->M Bool} {te:Sd->M D} {J:It} {ds:List D} {ι:Io} {H:Hp} {h:Hh} {sd:Sd} {σ:L2.St} {Q:VK} {p:Addr} (hk:zaW g src) (L:zcK K ι H sd σ) (hr:zbm K ι H h) (ok:zp4 K ι H J ds) (hz:ds.length<=sizeLine)
  (q:Fin K E ι H ((do let ys<-zbS (zbn g tc te (zaw src sd)) ds;pure (D.lst ys)) h) fun d ι' H'=> ∀ v,Rel K ι' H' d v->Q v H') (hp:H p=none):
  zvt J (zvC K E g) (zgR K E tc) (zj8 K E te) (bStart src σ) H p fun H'=>Q (.ref p) H':=by
 generalize hP:(fun (d:D) (ι':Io) (H':Hp)=> ∀ v,Rel K ι' H' d v->Q v H')=P at q
 generalize hf:zbn g tc te (zaw src sd)=f at q
 have hpx:p∉ι.x:=fun z=>hr.nin hp (.inr z)
 have h0len:(zaw src sd).length=src.length:=by unfold zaw;rw [qaH]
 have h0non: ∀ (i:Nat),src[i]? = some none->(zaw src sd)[i]? = some none:=fun i e=>by unfold zaw;rw [List.getElem?_map,e];rfl
 refine ⟨fun i m σ' H'=>m=ds.length - i/\i<=ds.length/\ ∃ ι' h' done vs,ι'.x=p::ι.x/\zcd ι H ι'.show H'/\zcK K ι' H' (zaw src sd) σ'/\zbm K ι' H' h'/\H' p=some (.lst vs)/\zav K ι' H' done vs/\done.length<=i/\
     Fin K E ι H ((do let ys<-zbS f (ds.drop i);pure (D.lst (done++ys))) h') P,
   ⟨_,rfl,Nat.zero_le _,ι.hide p,h,[],[],rfl,?_,L.bStart.pass (zhE hp),hr.hide hp,zbd,zav.nil,qaV _,?_⟩,?_⟩
 ·have:=hr.laidS (o:= .lst []) hp
  exact ⟨this.old,this.new,this.hid,this.hidk,this.keep⟩
 ·simpa using q
 rintro i m σ2 H2 ⟨rfl,hi2,ι2,h2,done,vs,hx2,s2,L2,hr2,e2,rl2,dl2,q2⟩
 have ps2:Pass ι H ι2 H2:=⟨s2.old,fun b o hb n=>⟨s2.keep b o hb n,fun z=>by
   rcases z with z | z
   · exact s2.nin hb n (.inl z)
   · rw [hx2] at z
     rcases qaP.mp z with z | z
     · rw [z,hp] at hb;cases hb
     · exact n (.inr z)⟩⟩
 have hp2:p∈ι2.x:=by rw [hx2];exact qau
 have base: ∀ {ι':Io} {H':Hp},zcd ι2 H2 ι' H'->zcd ι H ι'.show H':=fun t=>s2.trans (t.shown hx2)
 by_cases hlt:i<ds.length
 ·right
  refine ⟨ok.go ι2 H2 i ps2 hlt,fun σ' H'=>i+1<=ds.length/\ ∃ ι' h' done vs,ι'.x=p::ι.x/\zcd ι H ι'.show H'/\zcK K ι' H' (zaw src sd) σ'/\zbm K ι' H' h'/\H' p=some (.lst vs)/\zav K ι' H' done vs/\done.length<=i+1/\
    Fin K E ι H ((do let ys<-zbS f (ds.drop (i+1));pure (D.lst (done++ys))) h') P,fun σ' H' z=>⟨ds.length - (i+1),by omega,rfl,z.1,z.2⟩,fun x H3 y=> ?_⟩
  obtain ⟨gr,d,ed,rd⟩:=ok.yld ι2 H2 h2 i x H3 ps2 hr2 hlt y
  obtain ⟨s3,hr3⟩:=gr.step hr2
  have edr:ds.drop i=d::ds.drop (i+1):=by
   rw [List.drop_eq_getElem_cons hlt]
   rw [qaf hlt] at ed
   rw [Option.some.inj ed]
  rw [edr] at q2
  have q3:=q2
  have st3:zcd ι2 H2 ι2 H3:=s3
  have e3:H3 p=some (.lst vs):=by rw [s3.hidk p hp2];exact e2
  have eq1:(do let ys<-zbS f (d::ds.drop (i+1));pure (D.lst (done++ys)):M D)=(g d (zaw src sd)>>=fun sd1=>tc sd1>>=fun c=>if c=true then (te sd1>>=fun y=>zbS f (ds.drop (i+1))>>=fun ys=>pure (D.lst (done++[y]++ys))) else (zbS f (ds.drop (i+1))>>=fun ys=>pure (D.lst (done++ys)))):=by
   rw [zbS]
   rw [<- hf]
   simp only [zbn,bind_assoc]
   refine congrArg _ (funext fun sd1=> ?_)
   refine congrArg _ (funext fun c=> ?_)
   cases c with
   | true=>simp only [if_true,bind_assoc,pure_bind,List.append_assoc,List.cons_append,List.nil_append]
   | false=>simp only [qax,if_false,pure_bind]
  rw [eq1] at q3
  refine ⟨ι2,h2,zaw src sd,d,L2.step s3,hr3,rd,?_⟩
  refine Fin.bindB q3 (fun ι' H' h' s hr'=>⟨ι'.show,base (s3.trans s),hr'.show⟩) fun sd4 h4 ι4 H4 e4 s4 hr4 q4 σ4 L4=> ?_
  have hx4:ι4.x=p::ι.x:=by rw [s4.hid];exact hx2
  obtain ⟨k1,k2⟩:=hk d _ h2 sd4 h4 h0len h0non e4
  refine ⟨ι4,h4,sd4,L4,hr4,Fin.bindB q4 (fun ι' H' h' s hr'=>⟨ι'.show,base ((s3.trans s4).trans s),hr'.show⟩) fun c h5 ι5 H5 e5 s5 hr5 q5=> ?_⟩
  have hx5:ι5.x=p::ι.x:=by rw [s5.hid];exact hx4
  have sub: ∀ {ι':Io} {H':Hp},zcK K ι' H' sd4 σ4->zcK K ι' H' (zaw src sd) σ4:=fun {ι' H'} z=>⟨by rw [<- k1];exact z.1,fun j d' e=>z.2 j d' (k2 j d' (fun w=>by rw [h0non j w] at e;cases e) e)⟩
  have st5:zcd ι2 H2 ι5 H5:=(s3.trans s4).trans s5
  cases c with
  | false=>
   exact zqf ⟨hlt,ι5,h5,done,vs,hx5,base st5,sub (L4.step s5),hr5,by rw [st5.hidk p hp2];exact e2,rl2.step st5,Nat.le_succ_of_le dl2,q5⟩
  | true=>
   refine zqP ⟨ι5,h5,sd4,L4.step s5,hr5,Fin.bindB q5 (fun ι' H' h' s hr'=>⟨ι'.show,base (st5.trans s),hr'.show⟩) fun yd h6 ι6 H6 e6 s6 hr6 q6 y ry=> ?_⟩
   have st6:zcd ι2 H2 ι6 H6:=st5.trans s6
   have hx6:ι6.x=p::ι.x:=by rw [s6.hid];exact hx5
   have hp6:p∈ι6.x:=by rw [hx6];exact qau
   have e6':H6 p=some (.lst vs):=by rw [st6.hidk p hp2];exact e2
   refine ⟨vs,e6',by rw [<- rl2.length];omega,hlt,ι6,h6,done++[yd],vs++[y],hx6,zlw hp hpx hx2 s2 st6,?_,hr6.hid hp6,zbd,?_,?_,?_⟩
   ·exact ((sub (L4.step s5)).step s6).pass (zgJ hp6)
   ·exact ((rl2.step st6).append (zav.cons ry zav.nil)).pass (zgJ hp6)
   ·rw [qav,List.length_singleton];omega
   ·exact q6
 ·left
  have e:i=ds.length:=by omega
  subst e
  refine ⟨ok.stop ι2 H2 ps2,?_⟩
  rw [List.drop_length] at q2
  have q3:P (.lst done) ι2.show H2:=by
   have:Fin K E ι H ((pure (D.lst (done++[])):M D) h2) P:=q2
   rw [List.append_nil] at this
   exact this _ _ s2 hr2.show
  rw [<- hP] at q3
  refine q3 (.ref p) ?_
  simp only [Rel]
  refine ⟨p,vs,rfl,⟨e2,fun z=> ?_⟩,rl2.pass zh0⟩
  rcases z with z | z
  ·exact (hr2.hidt p (by rw [hx2];exact qau)).2 z
  ·exact hpx (by have z:p∈ι2.x.tail:=z;rw [hx2] at z;exact z)
noncomputable def zaJ (fi:Sd->M (List D)) (g:D->Sd->M Sd) (tc:Sd->M Bool) (te:Sd->M D) (src:List (Option Nat)):Sd->M D:=fun sd=>do
 let ds<-fi sd
 fits ds.length
 let ys<-zbS (zbn g tc te (zaw src sd)) ds
 pure (D.lst ys)
theorem zl2 {K:W.Frag} {fi:Sd->M (List D)} {g:D->Sd->M Sd} {tc:Sd->M Bool} {te:Sd->M D} (hk:zaW g src) (σ:L2.St) (H:Hp) (Q:VK) (q:zj8 K E (zaJ fi g tc te src) σ H Q):
  zq4 (zvS K E fi) (zvC K E g) (zgR K E tc) (zj8 K E te) src σ H Q:=by
 obtain ⟨ι,h,sd,L,hh,q⟩:=q
 refine ⟨ι,h,sd,L,hh,Fin.bind q fun ds h1 ι1 H1 e1 s1 hr1 q1 J ok p hp=> ?_⟩
 obtain ⟨z,q2⟩:=Fin.fits q1
 exact blk hk (L.step s1) hr1 ok z q2 hp
theorem zqw {fi:Sd->M (List D)} {g:D->Sd->M Sd} {tc:Sd->M Bool} {te:Sd->M D} (B:BOk X scope N src) (hk:zaW g src) (hi:SI X E tg iter fi)
  (hg: ∀ s H fp,SG (cxB X scope N s H fp) E tg g) (ht: ∀ s H fp,SCs (cxB X scope N s H fp) E ifs tc) (he: ∀ s H fp,SE (cxB X scope N s H fp) E elt te)
  (hs: ∀ x,foldedSetIterable iter X.env x=pure x:=by intro _;rfl):SE X E (.ListComp elt [⟨tg,iter,ifs,0⟩] scope pos) (zaJ fi g tc te src):=
 PE.imp (zpK B hi hg ht he hs) (zl2 hk)
theorem zle {fi:Sd->M (List D)} {g:D->Sd->M Sd} {tc:Sd->M Bool} {te:Sd->M D} (i:Nat) {y:Str} {py spos:Pos} (B:BOk X scope N src) (hk:zaW g src) (hi:SI X E tg iter fi)
  (hg: ∀ s H fp,SG (cxB X scope N s H fp) E tg g) (ht: ∀ s H fp,SCs (cxB X scope N s H fp) E ifs tc) (he: ∀ s H fp,SE (cxB X scope N s H fp) E elt te)
  (hN:X.N.Nodup) (hy:X.N[i]? = some y) (hx:Loc X.env.scope y) (hf:X.fn y=true\/X.env.scope.names.lookup y=some .local) (hsw:swapsWith (.ListComp elt [⟨tg,iter,ifs,0⟩] scope pos) (some (.Name y py)) spos.line X.env=pure true)
  (hs: ∀ x,foldedSetIterable iter X.env x=pure x:=by intro _;rfl):SS X E (.Assign [.Name y py] (.ListComp elt [⟨tg,iter,ifs,0⟩] scope pos) spos) (fun sd=>do let d<-zaJ fi g tc te src sd;pure (.nx (sd.set i (some d)))):=by
 refine PS.imp (zkp B hi hg ht he hN hy hx hsw hf hs) fun D0 σ H ⟨ι,h,sd,L,hh,q⟩=>zl2 hk σ H _ ⟨ι,h,sd,L,hh,Fin.bind q fun d h1 ι1 H1 e1 s1 hr1 q1 v rv=> ?_⟩
 exact Fin.out (E:=E) (P:=zhr X.K D0) hr1 q1 _ ((L.step s1).set rv i)
end
section
variable {K:W.Frag} {ι:Io} {H:Hp} {h:Hh} {n:Nat} {a:Addr}
theorem zfb {o:HO} (hn:ι.c[n]? = some (some a)):Pass ι H ι (upd H a o):=⟨fun _ _ z=> .inl z,fun b o' hb nb=>⟨by rw [zaH (show b≠a from fun z=>nb (.inl (z▸List.mem_of_getElem? hn)))];exact hb,nb⟩⟩
theorem zbm.cellS {o:HO} (hr:zbm K ι H h) (hn:ι.c[n]? = some (some a)):zcd ι H ι (upd H a o):=
 ⟨fun _ _ z=> .inl z,fun _ z=> .inl z,rfl,fun b hb=>zaH fun z=>(hr.hidt b hb).2 (z▸List.mem_of_getElem? hn),fun b o' hb nb=>((zfb hn).keep b o' hb nb).1⟩
theorem zbm.cellO {c':C} {o':HO} (hr:zbm K ι H h) (hn:ι.c[n]? = some (some a)) (co:CO K ι H c' o'):zbm K ι (upd H a o') (h.set n c'):=by
 refine ⟨by rw [qaI];exact hr.len,hr.inj,fun m b c hm hc=> ?_,fun m hm=> ?_,fun b hb=>⟨?_,(hr.hidt b hb).2⟩⟩
 ·by_cases e:n=m
  ·subst e
   rw [hn] at hm
   cases hm
   rw [qai (by rw [hr.len];exact (qac.mp hn).1)] at hc
   cases hc
   exact ⟨o',zbd,co.pass (zfb hn)⟩
  ·rw [qao e] at hc
   obtain ⟨o2,e2,e3⟩:=hr.at_ m b c hm hc
   have ne:b≠a:=fun z=>by subst z;exact e (hr.inj n m b hn hm)
   exact ⟨o2,by rw [zaH ne];exact e2,e3.pass (zfb hn)⟩
 ·have e:n≠m:=fun z=>by subst z;rw [hn] at hm;cases hm
  rw [qao e]
  exact hr.dead m hm
 ·rw [zaH (show b≠a from fun z=>(hr.hidt b hb).2 (z▸List.mem_of_getElem? hn))]
  exact (hr.hidt b hb).1
theorem zbm.cell {ds':List D} {vs':List V} (hr:zbm K ι H h) (hn:ι.c[n]? = some (some a)) (rl:zav K ι H ds' vs'):zbm K ι (upd H a (.lst vs')) (h.set n (.lst ds')):=hr.cellO hn ⟨vs',rfl,rl⟩
theorem zbm.read {ds:List D} {v:V} (hr:zbm K ι H h) (r:Rel K ι H (.cel n) v) (e:h[n]? = some (.lst ds)): ∃ a vs,v= .ref a/\ι.c[n]? = some (some a)/\H a=some (.lst vs)/\zav K ι H ds vs:=by
 simp only [Rel] at r
 obtain ⟨a,e1,r | r⟩:=r
 ·obtain ⟨o,e3,vs,rfl,e4⟩:=hr.at_ n a _ r e
  exact ⟨a,vs,e1,r,e3,e4⟩
 ·rw [hr.dead n r] at e
  cases e
end
noncomputable def zao (n:Nat):M (List D):=fun h=>match h[n]? with
 | some (.lst ds)=> .ok ds h
 | _=> .bad
noncomputable def zbE (n:Nat) (ds:List D):M Unit:=fun h=> .ok () (h.set n (.lst ds))
theorem zcU {n:Nat} {h h':Hh} {ds:List D} (e:zao n h= .ok ds h'):h'=h/\h[n]? = some (.lst ds):=by
 unfold zao at e
 cases z:h[n]? with
 | none=>rw [z] at e;cases e
 | some c=>
  rw [z] at e
  cases c with
  | lst xs=>cases e;exact ⟨rfl,rfl⟩
  | dic _=>cases e
  | dead=>cases e
noncomputable def ofO {α:Type}:Option α->M α
 | some a=>pure a
 | none=>M.bad
noncomputable def dIx:D->D->M D:=fun x y=>match x,y with
 | .tup ds,.int i=>ofO (atI ds i)
 | .lst ds,.int i=>ofO (atI ds i)
 | .scr ds,.int i=>ofO (atI ds i)
 | .cel n,.int i=>do let ds<-zao n;ofO (atI ds i)
 | _,_=>M.bad
theorem zgq {K:W.Frag} {ι:Io} {H:Hp} {ds:List D} {vs:List V} {i:Int} {d:D} (rl:zav K ι H ds vs) (e:atI ds i=some d): ∃ v,atI vs i=some v/\Rel K ι H d v:=by
 unfold atI at e ⊢
 rw [<- rl.length]
 cases z:ixN ds.length i with
 | none=>rw [z] at e;cases e
 | some j=>
  rw [z] at e
  have e:ds[j]? = some d:=e
  exact rl.get e
section
variable {X:Cx} {E:XE}
theorem Fin.ofO {α:Type} {K:W.Frag} {ι:Io} {H:Hp} {h:Hh} {o:Option α} {P:α->Io->Hp->Prop} (hr:zbm K ι H h) (q:Fin K E ι H (L3.ofO o h) P): ∃ a,o=some a/\P a ι H:=by
 cases o with
 | none=>exact qa0 q
 | some a=>exact ⟨a,rfl,Fin.out hr q⟩
theorem zwH:IxR X (zde X.K E dIx):=by
 refine IxR.imp (zpQ.or zs7) fun x y H Q ⟨ι,h,d1,d2,r1,r2,hr,q⟩=> ?_
 cases d2 with
 | int i=>
  simp only [Rel] at r2
  cases d1 with
  | tup ds=>
   obtain ⟨a,vs,e,h1,h2⟩:=zcO r1
   obtain ⟨d,e1,q⟩:=Fin.ofO hr q
   obtain ⟨v,e2,rv⟩:=zgq h2 e1
   exact .inr ⟨a,vs,i,v,e,r2,h1,e2,q v rv⟩
  | lst ds=>
   obtain ⟨a,vs,e,h1,h2⟩:=zeC r1
   obtain ⟨d,e1,q⟩:=Fin.ofO hr q
   obtain ⟨v,e2,rv⟩:=zgq h2 e1
   exact .inl ⟨a,vs,i,v,e,r2,h1,e2,q v rv⟩
  | scr ds=>
   obtain ⟨a,vs,e,h1,h2⟩:=zlv r1
   obtain ⟨d,e1,q⟩:=Fin.ofO hr q
   obtain ⟨v,e2,rv⟩:=zgq h2 e1
   exact .inl ⟨a,vs,i,v,e,r2,h1,e2,q v rv⟩
  | cel n=>
   have q:Fin X.K E ι H ((zao n>>=fun ds=>L3.ofO (atI ds i)) h) _:=q
   have q':Fin X.K E ι H (M.bind (zao n) (fun ds=>L3.ofO (atI ds i)) h) _:=q
   unfold M.bind at q'
   cases z:zao n h with
   | bad=>rw [z] at q';exact qa0 q'
   | exc c h'=>unfold zao at z;split at z<;>cases z
   | ok ds h'=>
    rw [z] at q'
    obtain ⟨rfl,z2⟩:=zcU z
    obtain ⟨a,vs,e,hn,hH,rl⟩:=hr.read r1 z2
    obtain ⟨d,e1,q⟩:=Fin.ofO hr q'
    obtain ⟨v,e2,rv⟩:=zgq rl e1
    exact .inl ⟨a,vs,i,v,e,r2,SqL.of hH,e2,q v rv⟩
  | _=>exact qa0 q
 | _=>cases d1<;>exact qa0 q
noncomputable def zmP (o i d:D):M Unit:=match o,i with
 | .cel n,.int k=>do
  let ds<-zao n
  let j<-ofO (ixN ds.length k)
  zbE n (ds.set j d)
 | _,_=>M.bad
theorem zrU {o i:Expr} {pos:Pos} {fo fi:Sd->M D} (hp: ∀ {t:zsT},zpD X t->PG X (.Subscript o i pos) (zv3 (zj8 X.K E fo) (zj8 X.K E fi) t)):
  SG X E (.Subscript o i pos) (fun d sd=>do let x<-fo sd;let y<-fi sd;zmP x y d;pure sd):=by
 refine PG.imp (hp znR) fun v σ H Q ⟨ι,h,sd,d,L,hr,rd,q⟩=>⟨ι,h,sd,L,hr,Fin.bind q fun x h1 ι1 H1 e1 s1 hr1 q1 xv rx=> ?_⟩
 refine ⟨ι1,h1,sd,L.step s1,hr1,Fin.bind q1 fun y h2 ι2 H2 e2 s2 hr2 q2 yv ry=> ?_⟩
 cases x with
 | cel n=>
  cases y with
  | int k=>
   have rx2:=rx.step s2
   have q3:Fin X.K E ι2 H2 ((zao n>>=fun ds=>(ofO (ixN ds.length k)>>=fun j=>zbE n (ds.set j d)>>=fun _=>pure sd)) h2) (fun sd' ι' H'=> ∀ σ',zcK X.K ι' H' sd' σ'->Q σ' H'):=by
    have e:(do zmP (.cel n) (.int k) d;pure sd:M Sd)=(zao n>>=fun ds=>(ofO (ixN ds.length k)>>=fun j=>zbE n (ds.set j d)>>=fun _=>pure sd)):=by
     show ((zao n>>=fun ds=>(ofO (ixN ds.length k)>>=fun j=>zbE n (ds.set j d)))>>=fun _=>pure sd)=_
     simp only [bind_assoc]
    rw [<- e]
    exact q2
   have q':Fin X.K E ι2 H2 (M.bind (zao n) (fun ds=>(ofO (ixN ds.length k)>>=fun j=>zbE n (ds.set j d)>>=fun _=>pure sd)) h2) _:=q3
   unfold M.bind at q'
   cases z:zao n h2 with
   | bad=>rw [z] at q';exact qa0 q'
   | exc c h'=>unfold zao at z;split at z<;>cases z
   | ok ds h'=>
    rw [z] at q'
    obtain ⟨rfl,z2⟩:=zcU z
    obtain ⟨a,vs,e,hn,hH,rl⟩:=hr2.read rx2 z2
    simp only [Rel] at ry
    have q4:Fin X.K E ι2 H2 (M.bind (ofO (ixN ds.length k)) (fun j=>zbE n (ds.set j d)>>=fun _=>pure sd) h') _:=q'
    unfold M.bind at q4
    cases z3:ixN ds.length k with
    | none=>rw [z3] at q4;exact qa0 q4
    | some j=>
     rw [z3] at q4
     have q5:Fin X.K E ι2 H2 (R.ok sd (h'.set n (.lst (ds.set j d)))) (fun sd' ι' H'=> ∀ σ',zcK X.K ι' H' sd' σ'->Q σ' H'):=q4
     refine ⟨a,vs,k,j,e,ry,hH,by rw [<- rl.length];exact z3,?_⟩
     have rd2:=(rd.step s1).step s2
     exact q5 ι2 _ (hr2.cellS hn) (hr2.cell hn (rl.set rd2 j)) σ (((L.step s1).step s2).step (hr2.cellS hn))
  | _=>exact qa0 q2
 | _=>cases y<;>exact qa0 q2
end
noncomputable abbrev E0x:XE:=fun _ _=>False
noncomputable def zbR (K:W.Frag) (n:Nat) (F:List D->M D):Sp:=fun vs H Q _=>vs.length=n/\ ∃ ι h ds,zav K ι H ds vs/\zbm K ι H h/\Fin K E0x ι H (F ds h) fun d ι' H'=> ∀ v,Rel K ι' H' d v->Q v H'
noncomputable def zjK (n:Nat) (ds:List D):Sd:=ds.map some++List.replicate (n - ds.length) none
noncomputable def zb7:Out->M D
 | .nx _=>pure .non
 | .rt d=>pure d
 | _=>M.bad
noncomputable def zca (n:Nat) (G:Sd->M Out) (ds:List D):M D:=do let o<-G (zjK n ds);zb7 o
theorem zkm {K:W.Frag} {ι:Io} {H:Hp} {ds:List D} {vs:List V} {N:List Str} (h:zav K ι H ds vs):zcK K ι H (zjK N.length ds) (L2.zfQ N vs):=by
 have hl:=h.length
 unfold zjK L2.zfQ
 refine ⟨by simp [hl],fun i d e=> ?_⟩
 by_cases hi:i<ds.length
 ·rw [qad (by simpa using hi),List.getElem?_map] at e
  cases z:ds[i]? with
  | none=>rw [z] at e;cases e
  | some d'=>
   rw [z] at e
   cases e
   obtain ⟨v,h1,h2⟩:=h.get z
   exact ⟨v,by rw [qad (by rw [qaH, <-hl];exact hi),List.getElem?_map,h1];rfl,h2⟩
 ·rw [qaa (by simpa using hi),List.getElem?_replicate] at e
  split at e<;>cases e
section
variable {P:Program} {w:World} {K:W.Frag} {mg:Str->Option Value} {base:Heap}
theorem zaO {x qual:Str} {st:Stmt} {f:Addr} {fd:FuncData} {N ps:List Str} {k:Nat} {G:Sd->M Out} (F:Fun K x qual st f fd) (S:zap N ps (zae st))
  (hb: ∀ (cdv:Value) (A:Around) (outer:List Env) (s:Shared) (H:Hp) (E:XK),zeq k (A.deeper (envOfC qual (zae st) s.heap.objs.size f cdv))->SSs (zp6 CX0 P w K mg base N qual (zae st) f cdv A outer s H E).nox E0x (zdy st) G):
  zbr P w K mg base CX0 (k+1) f fd ps (zbR K ps.length (zca N.length G)):=by
 refine F.ok S (fun vs H Q E h=>h.1) fun cdv A outer s H vs Q E hr ⟨hl,ι,h,ds,rl,hh,q⟩=>⟨_,hb cdv A outer s H E hr,ι,h,zjK N.length ds,zkm rl,hh,?_⟩
 refine Fin.bind q fun o h1 ι1 H1 e1 s1 hr1 q1=> ?_
 cases o with
 | nx sd=>exact fun σ' _=>Fin.out hr1 q1 _ (by simp [Rel])
 | rt d=>exact fun v rv=>Fin.out hr1 q1 v rv
 | bk sd=>exact qa0 q1
 | ct sd=>exact qa0 q1
end
section
variable {X:Cx} {e:Expr} {es:List Expr} {pos p:Pos}
noncomputable def zar (n:Nat) (F:List D->M D) (ds:List D):M D:=if ds.length=n then F ds else M.bad
theorem zrl {k:Nat} {f:Addr} {fd:FuncData} {ps:List Str} {n:Nat} {F:List D->M D} {fs:Sd->M (List D)} {x:Str} (G:zbr X.prog X.w X.K X.mg X.base CX0 k f fd ps (zbR X.K n F)) (hr:zeq k X.A) (hg:Gl X x) (hm:X.mg x=some (.ref f)) (hk:W.keepIn X.K (.ref f)=true) (hb:zaE X.K fd ps [])
  (ha:SA X E0x (e::es) fs) (hdb:(x==("__debug__":Str))=false:=by decide) (he:starEach (e::es) X.env=(false,eval e X.env)::starEach es X.env:=by rfl) (hpl:(backTo pos (starEach es X.env)).any (·.1)=false:=by rfl):
  SE X E0x (.Call (.Name x p) (e::es) [] pos) (fun sd=>do let ds<-fs sd;zar n F ds):=by
 refine PE.imp (zqJ G hr hg hm hk hb (dvs:=[]) .nil (E:=fun _ _ _=>False) zuL ha hdb he hpl) fun σ H Q ⟨ι,h,sd,L,hh,q⟩=>⟨ι,h,sd,L,hh,Fin.bind q fun ds h1 ι1 H1 e1 s1 hr1 q1 vs rv=> ?_⟩
 show zbR X.K n F (vs++[]) H1 Q _
 rw [List.append_nil]
 unfold zar at q1
 by_cases hl:ds.length=n
 ·rw [qa4 hl] at q1
  exact ⟨by rw [<- rv.length];exact hl,ι1,h1,ds,rv,hr1,q1⟩
 ·rw [qa5 hl] at q1
  exact qa0 q1
end
section
variable {X:Cx} {E:XE}
theorem Fin.guard {α:Type} {K:W.Frag} {ι:Io} {H:Hp} {h:Hh} {c:Prop} [Decidable c] {f:M α} {P:α->Io->Hp->Prop} (q:Fin K E ι H ((if c then f else M.bad) h) P):c/\Fin K E ι H (f h) P:=by
 by_cases hc:c
 ·rw [qa4 hc] at q;exact ⟨hc,q⟩
 ·rw [qa5 hc] at q;exact qa0 q
theorem zos:OpR X (binaryOp .Add) (fun x y H Q=> ∃ a b ys,x= .ref a/\y= .ref b/\SqT X.K H a []/\SqT X.K H b ys/\Q (.ref b) H):=by
 intro pins s σ H x y v u Q I rx ry h
 obtain ⟨a,b,ys,rfl,rfl,ha,hb,q⟩:=h
 cases rx
 cases ry
 obtain ⟨its,r1,p1,_⟩:=I.tuple ha
 obtain ⟨its2,r2,p2,_⟩:=I.tuple hb
 cases r1
 obtain ⟨⟨cls,dd,data,sl⟩,ho,hc,n,hd⟩:=id p1
 obtain ⟨⟨cls2,dd2,data2,sl2⟩,ho2,hc2,n2,hd2⟩:=id p2
 simp only at hc hd hc2 hd2
 subst hc hd hc2 hd2
 exact concat_meets ⟨_,ho,rfl⟩ ⟨_,ho2,rfl⟩ noFill_tuple_add seq_tuple_add PySem.F.slot_tuple_add PySem.F.entry_tuple_add (PySem.F.args_tuple_add_2 _ _)
   (tuple_addW0 a b _ _ n n2 dd dd2 sl sl2 (by simp)) ⟨ho,ho2,⟨.ref b,H,I,rfl,q⟩⟩
noncomputable def zdQ (x y:D):M D:=match x,y with
 | .int i,.int j=>pure (.int (i+j))
 | .tup xs,.tup ys=>do fits (xs.length+ys.length);pure (.tup (xs++ys))
 | .lst xs,.lst ys=>do fits (xs.length+ys.length);pure (.lst (xs++ys))
 | .str x,.str y=>do fits (x.length+y.length);pure (.str (x++y))
 | _,_=>M.bad
theorem zaK:OpR X (binaryOp .Add) (zde X.K E zdQ):=by
 refine OpR.imp (ztf.or (zos.or (zq1.or (ztL.or zj3)))) fun x y H Q ⟨ι,h,d1,d2,r1,r2,hr,q⟩=> ?_
 unfold zdQ at q
 split at q
 ·simp only [Rel] at r1 r2
  exact .inl ⟨_,_,r1,r2,Fin.out hr q _ (by simp [Rel])⟩
 ·rename_i xs ys
  right
  obtain ⟨a,vs,e,h1,h2⟩:=zcO r1
  obtain ⟨b,ws,e',h1',h2'⟩:=zcO r2
  obtain ⟨z,q⟩:=Fin.fits q
  cases xs with
  | nil=>
   simp only [zav] at h2
   subst h2
   exact .inl ⟨a,b,ws,e,e',h1,h1',Fin.out hr q _ (by rw [<- e'];exact r2)⟩
  | cons x0 xr=>
   refine .inr (.inl ⟨a,b,vs,ws,e,e',h1,h1',fun z=> ?_,by rw [<- h2.length, <-h2'.length];exact z,fun z=> ?_,fun z p hp=>ztH hr (h2.append h2') q hp⟩)
   ·subst z
    have:=h2.length
    cases this
   ·subst z
    have:=h2'.length
    cases ys with
    | nil=>rw [List.append_nil] at q;exact Fin.out hr q _ (by rw [<- e];exact r1)
    | cons _ _=>cases this
 ·rename_i xs ys
  right;right;right;left
  simp only [Rel] at r1 r2
  obtain ⟨a,vs,e,h1,h2⟩:=r1
  obtain ⟨b,ws,e',h1',h2'⟩:=r2
  obtain ⟨z,q⟩:=Fin.fits q
  exact ⟨a,b,vs,ws,e,e',h1.1,h1'.1,by rw [<- h2.length, <-h2'.length];exact z,fun p hp=>zqd hr (h2.append h2') q hp⟩
 ·simp only [Rel] at r1 r2
  obtain ⟨z,q⟩:=Fin.fits q
  exact .inr (.inr (.inr (.inr ⟨_,_,r1,r2,z,Fin.out hr q _ (by simp [Rel])⟩)))
 ·exact qa0 q
noncomputable def dII (C:Int->Int->Bool) (g:Int->Int->D) (x y:D):M D:=match x,y with
 | .int i,.int j=>if C i j=true then pure (g i j) else M.bad
 | _,_=>M.bad
theorem ziF {f:Value->Value->Sem Value} {C:Int->Int->Bool} {C':Int->Int->Prop} {g:Int->Int->V} {g':Int->Int->D} (ho:OpR X f (rI C' g)) (hc: ∀ i j,C i j=true->C' i j) (hg: ∀ i j ι H,Rel X.K ι H (g' i j) (g i j)):OpR X f (zde X.K E (dII C g')):=by
 refine OpR.imp ho fun x y H Q ⟨ι,h,d1,d2,r1,r2,hr,q⟩=> ?_
 unfold dII at q
 split at q
 ·simp only [Rel] at r1 r2
  obtain ⟨c,q⟩:=Fin.guard q
  exact ⟨_,_,r1,r2,hc _ _ c,Fin.out hr q _ (hg _ _ _ _)⟩
 ·exact qa0 q
theorem zf1 {f:Value->Value->Sem Value} {g:Int->Int->V} {g':Int->Int->D} (ho:OpR X f (rI0 g)) (hg: ∀ i j ι H,Rel X.K ι H (g' i j) (g i j)):OpR X f (zde X.K E (dII (fun _ _=>true) g')):=by
 refine OpR.imp ho fun x y H Q ⟨ι,h,d1,d2,r1,r2,hr,q⟩=> ?_
 unfold dII at q
 split at q
 ·simp only [Rel] at r1 r2
  obtain ⟨c,q⟩:=Fin.guard q
  exact ⟨_,_,r1,r2,Fin.out hr q _ (hg _ _ _ _)⟩
 ·exact qa0 q
noncomputable def zta:=dII (fun _ _=>true) fun i j=> .int (i - j)
theorem zio:OpR X (binaryOp .Sub) (zde X.K E zta):=zf1 zsP fun _ _ _ _=>by simp [Rel]
noncomputable def za8 (i:Int):Bool:=decide (-(2^64)<i) && decide (i<2^64)
theorem zdb {i:Int} (h:za8 i=true): -(2^64)<i/\i<2^64:=by unfold za8 at h;simpa using h
theorem znN:OpR X (binaryOp .FloorDiv) (rI (fun _ j=>0<j/\j<2^64) fun i j=> .int (i / j)):=opI fun i j _ _ _ _ _ hc q=>by
 refine floordiv_int (by omega) (by rw [Int.fdiv_eq_ediv_of_nonneg _ (by omega)];exact q) (.inl (PyProof.noPylong_of_log2 ?_))
 have h1:j.natAbs<2^64:=by omega
 have h0:j.natAbs≠0:=by omega
 exact Nat.lt_trans ((Nat.log2_lt h0).mpr h1) (by decide)
noncomputable def znZ:=dII (fun _ j=>decide (0<j) && decide (j<2^64)) fun i j=> .int (i / j)
theorem zjm:OpR X (binaryOp .FloorDiv) (zde X.K E znZ):=ziF znN (fun i j h=>by simpa using h) fun _ _ _ _=>by simp [Rel]
noncomputable def znb:=dII (fun _ j=>decide (0<j)) fun i j=> .int (i % j)
theorem zd2:OpR X (binaryOp .Mod) (zde X.K E znb):=ziF zsB (fun i j h=>by simpa using h) fun _ _ _ _=>by simp [Rel]
noncomputable def zrv (i j:Int):Bool:=decide (0<=j) && decide (j<=1000000) && decide (i.natAbs<2^64)
noncomputable def zua:=dII zrv fun i j=> .int (i^j.toNat)
theorem zjg {i j:Int} (h:zrv i j=true):zt8 i j:=by unfold zrv at h;simpa [zt8,and_assoc] using h
theorem zra:OpR X (binaryOp .Pow) (zde X.K E zua):=ziF zrN (fun _ _=>zjg) fun _ _ _ _=>by simp [Rel]
noncomputable def zvl:=dII zrv fun i j=> .int (i*2^j.toNat)
theorem zp9:OpR X (binaryOp .LShift) (zde X.K E zvl):=ziF zr4 (fun _ _=>zjg) fun _ _ _ _=>by simp [Rel]
noncomputable def zve:=dII (fun _ j=>decide (0<=j)) fun i j=> .int (i / 2^j.toNat)
theorem zqT:OpR X (binaryOp .RShift) (zde X.K E zve):=ziF ztd (fun i j h=>by simpa using h) fun _ _ _ _=>by simp [Rel]
noncomputable def zvz:=dII (fun _ _=>true) fun i j=> .int (Builtin.bitAnd i j)
theorem zre:OpR X (binaryOp .BitAnd) (zde X.K E zvz):=zf1 ztk fun _ _ _ _=>by simp [Rel]
noncomputable def dOr:=dII (fun _ _=>true) fun i j=> .int (Builtin.bitOr i j)
theorem zsx:OpR X (binaryOp .BitOr) (zde X.K E dOr):=zf1 zvN fun _ _ _ _=>by simp [Rel]
noncomputable def dLt:=dII (fun _ _=>true) fun i j=> .bl (decide (i<j))
theorem zel:OpR X (compareOp .Lt) (zde X.K E dLt):=zf1 zvf fun _ _ _ _=>by simp [Rel]
noncomputable def dLe:=dII (fun _ _=>true) fun i j=> .bl (decide (i<=j))
noncomputable def dGt:=dII (fun _ _=>true) fun i j=> .bl (decide (j<i))
theorem zfT:OpR X (compareOp .Gt) (zde X.K E dGt):=zf1 zvy fun _ _ _ _=>by simp [Rel]
noncomputable def dGe:=dII (fun _ _=>true) fun i j=> .bl (decide (j<=i))
theorem zmK:OpR X (compareOp .GtE) (zde X.K E dGe):=zf1 zu6 fun _ _ _ _=>by simp [Rel]
noncomputable def zth:D->M D
 | .int i=>pure (.int (-i))
 | _=>M.bad
theorem zsI {a:Expr} {pos:Pos} {fa:Sd->M D} (ha:SE X E a fa):SE X E (.UnaryOp .USub a pos) (fun sd=>do let x<-fa sd;zth x):=by
 refine PE.imp (zuK zsl ha) fun σ H Q ⟨ι,h,sd,L,hh,q⟩=>⟨ι,h,sd,L,hh,Fin.bind q fun d h1 ι1 H1 e1 s1 hr1 q1 v rv=> ?_⟩
 cases d with
 | int i=>simp only [Rel] at rv;exact ⟨i,rv,Fin.out hr1 q1 _ (by simp [Rel])⟩
 | _=>exact qa0 q1
mutual
noncomputable def pd:D->Option PyData
 | .non=>some .none
 | .bl b=>some (.bool b)
 | .int i=>some (.int i)
 | .str x=>some (.str x)
 | .tup xs=>(pdL xs).map .tuple
 | .lst xs=>(pdL xs).map .list
 | .scr xs=>(pdL xs).map .list
 | _=>none
noncomputable def pdL:List D->Option (List PyData)
 | []=>some []
 | x::xs=>match pd x,pdL xs with
  | some a,some r=>some (a::r)
  | _,_=>none
end
mutual
theorem zfu {pins:List (Addr×Obj)} {σ:L2.St} {H:Hp} {s:Shared} {ι:Io} (I:Inv X pins σ H s): ∀ {d:D} {v:V} {u:Value} {p:PyData},Rel X.K ι H d v->zb4 v u->pd d=some p-> ∃ as,Reads s.heap u p as
 | .non,v,u,p,r,ru,e=>by simp only [Rel] at r;subst r;cases ru;cases e;exact ⟨_,.none⟩
 | .bl b,v,u,p,r,ru,e=>by simp only [Rel] at r;subst r;cases ru;cases e;exact ⟨_,.bool _⟩
 | .int i,v,u,p,r,ru,e=>by simp only [Rel] at r;subst r;obtain ⟨t,rfl⟩:=ru;cases e;exact ⟨_,.int _ _⟩
 | .str i,v,u,p,r,ru,e=>by simp only [Rel] at r;subst r;obtain ⟨t,rfl⟩:=ru;cases e;exact ⟨_,.str _ _⟩
 | .tup ds,v,u,p,r,ru,e=>by
  obtain ⟨a,vs,rfl,h1,h2⟩:=zcO r
  cases ru
  obtain ⟨its,rv,pl,_⟩:=I.tuple h1
  obtain ⟨o,ho,hc,n,hd⟩:=pl
  unfold pd at e
  cases z:pdL ds with
  | none=>rw [z] at e;cases e
  | some ps=>
   rw [z] at e;cases e
   obtain ⟨as,q⟩:=zhv I h2 rv z
   exact ⟨_,.tuple ho hc hd (by simpa using q)⟩
 | .lst ds,v,u,p,r,ru,e=>by
  obtain ⟨a,vs,rfl,h1,h2⟩:=zeC r
  cases ru
  obtain ⟨its,rv,pl,_⟩:=I.list h1
  obtain ⟨o,ho,hc,n,hd⟩:=pl.isList
  unfold pd at e
  cases z:pdL ds with
  | none=>rw [z] at e;cases e
  | some ps=>
   rw [z] at e;cases e
   obtain ⟨as,q⟩:=zhv I h2 rv z
   exact ⟨_,.list ho hc hd (by simpa using q)⟩
 | .scr ds,v,u,p,r,ru,e=>by
  obtain ⟨a,vs,rfl,h1,h2⟩:=zlv r
  cases ru
  obtain ⟨its,rv,pl,_⟩:=I.list h1
  obtain ⟨o,ho,hc,n,hd⟩:=pl.isList
  unfold pd at e
  cases z:pdL ds with
  | none=>rw [z] at e;cases e
  | some ps=>
   rw [z] at e;cases e
   obtain ⟨as,q⟩:=zhv I h2 rv z
   exact ⟨_,.list ho hc hd (by simpa using q)⟩
 | .cel n,_,_,_,_,_,e=>by cases e
 | .set xs,_,_,_,_,_,e=>by cases e
 | .dct,_,_,_,_,_,e=>by cases e
 | .fn _,_,_,_,_,_,e=>by cases e
 | .exn _,_,_,_,_,_,e=>by cases e
theorem zhv {pins:List (Addr×Obj)} {σ:L2.St} {H:Hp} {s:Shared} {ι:Io} (I:Inv X pins σ H s): ∀ {ds:List D} {vs:List V} {us:List Value} {ps:List PyData},zav X.K ι H ds vs->zba vs us->pdL ds=some ps-> ∃ as,ReadsAll s.heap us ps as
 | [],vs,us,ps,r,ru,e=>by simp only [zav] at r;subst r;cases ru;cases e;exact ⟨_,.nil⟩
 | d::ds,vs,us,ps,r,ru,e=>by
  simp only [zav] at r
  obtain ⟨v,vr,rfl,r1,r2⟩:=r
  cases ru with
  | cons ru1 ru2=>
   unfold pdL at e
   cases z:pd d with
   | none=>rw [z] at e;cases e
   | some a=>
    cases z2:pdL ds with
    | none=>rw [z,z2] at e;cases e
    | some b=>
     rw [z,z2] at e
     cases e
     obtain ⟨as,q1⟩:=zfu I r1 ru1 z
     obtain ⟨bs,q2⟩:=zhv I r2 ru2 z2
     exact ⟨_,.cons q1 q2⟩
end
noncomputable def zjx (a b:PyData):Bool:=a.canLay0 && b.canLay0 && decide (min a.depth b.depth<=60)
noncomputable def zm0 (neg:Bool) (x y:D):M D:=match pd x,pd y with
 | some a,some b=>if zjx a b=true then pure (.bl (if neg then !PyData.eqv a b else PyData.eqv a b)) else M.bad
 | _,_=>M.bad
noncomputable def dEq:=zm0 false
noncomputable def dNe:=zm0 true
theorem zgu {a b:PyData} (h:zjx a b=true):a.canLay0=true/\b.canLay0=true/\min a.depth b.depth<=60:=by unfold zjx at h;simpa [and_assoc] using h
theorem ziU {K:W.Frag} {ι:Io} {H:Hp} {h:Hh} {neg:Bool} {x y:D} {P:D->Io->Hp->Prop} (q:Fin K E ι H (zm0 neg x y h) P): ∃ a b,pd x=some a/\pd y=some b/\zjx a b=true/\Fin K E ι H ((pure (.bl (if neg then !PyData.eqv a b else PyData.eqv a b)):M D) h) P:=by
 unfold zm0 at q
 cases e1:pd x with
 | none=>rw [e1] at q;exact qa0 q
 | some a=>
  cases e2:pd y with
  | none=>rw [e1,e2] at q;exact qa0 q
  | some b=>
   rw [e1,e2] at q
   obtain ⟨c,q⟩:=Fin.guard q
   exact ⟨a,b,rfl,rfl,c,q⟩
theorem zei (hu:X.A.units+60<cLine):OpR X (compareOp .Eq) (zde X.K E dEq):=by
 intro pins s σ H x y v u Q I rx ry ⟨ι,h,d1,d2,r1,r2,hr,q⟩
 obtain ⟨a,b,e1,e2,c,q2⟩:=ziU q
 obtain ⟨c1,c2,c3⟩:=zgu c
 obtain ⟨as,ra⟩:=zfu I r1 rx e1
 obtain ⟨bs,rb⟩:=zfu I r2 ry e2
 exact SeqAt.compareEq_reads ra rb c1 c2 (by omega) ⟨.bl _,H,I,rfl,Fin.out hr q2 (.bl _) (by simp [Rel])⟩
theorem zhc (hu:X.A.units+60<cLine):OpR X (compareOp .NotEq) (zde X.K E dNe):=by
 intro pins s σ H x y v u Q I rx ry ⟨ι,h,d1,d2,r1,r2,hr,q⟩
 obtain ⟨a,b,e1,e2,c,q2⟩:=ziU q
 obtain ⟨c1,c2,c3⟩:=zgu c
 obtain ⟨as,ra⟩:=zfu I r1 rx e1
 obtain ⟨bs,rb⟩:=zfu I r2 ry e2
 exact SeqAt.compareNe_reads ra rb c1 c2 (by omega) ⟨.bl _,H,I,rfl,Fin.out hr q2 (.bl _) (by simp [Rel])⟩
noncomputable def zgw (a:PyData) (xs:List PyData):Bool:=a.canLay0 && PyData.canLayAll0 xs && decide (min (PyData.depthAll xs) a.depth<=50)
theorem zeY {a:PyData} {xs:List PyData} (h:zgw a xs=true):a.canLay0=true/\PyData.canLayAll0 xs=true/\min (PyData.depthAll xs) a.depth<=50:=by unfold zgw at h;simpa [and_assoc] using h
noncomputable def zmX (neg:Bool) (x c:D):M D:=match pd x,c with
 | some a,.tup ds=>match pdL ds with
  | some xs=>if zgw a xs=true then pure (.bl (if neg then !xs.any (fun y=>PyData.eqv y a) else xs.any fun y=>PyData.eqv y a)) else M.bad
  | none=>M.bad
 | some a,.lst ds=>match pdL ds with
  | some xs=>if zgw a xs=true then pure (.bl (if neg then !xs.any (fun y=>PyData.eqv y a) else xs.any fun y=>PyData.eqv y a)) else M.bad
  | none=>M.bad
 | _,_=>M.bad
noncomputable def dIn:=zmX false
noncomputable def zmv:=zmX true
theorem zjJ {K:W.Frag} {ι:Io} {H:Hp} {h:Hh} {neg:Bool} {x c:D} {P:D->Io->Hp->Prop} (q:Fin K E ι H (zmX neg x c h) P): ∃ a ds xs,pd x=some a/\pdL ds=some xs/\(c= .tup ds\/c= .lst ds)/\zgw a xs=true/\
  Fin K E ι H ((pure (.bl (if neg then !xs.any (fun y=>PyData.eqv y a) else xs.any fun y=>PyData.eqv y a)):M D) h) P:=by
 unfold zmX at q
 cases e1:pd x with
 | none=>rw [e1] at q;exact qa0 q
 | some a=>
  rw [e1] at q
  cases c with
  | tup ds=>
   dsimp only at q
   cases e2:pdL ds with
   | none=>rw [e2] at q;exact qa0 q
   | some xs=>
    rw [e2] at q
    obtain ⟨c,q⟩:=Fin.guard q
    exact ⟨a,ds,xs,rfl,e2,.inl rfl,c,q⟩
  | lst ds=>
   dsimp only at q
   cases e2:pdL ds with
   | none=>rw [e2] at q;exact qa0 q
   | some xs=>
    rw [e2] at q
    obtain ⟨c,q⟩:=Fin.guard q
    exact ⟨a,ds,xs,rfl,e2,.inr rfl,c,q⟩
  | _=>exact qa0 q
theorem zpc (hu:X.A.units+60<cLine):OpR X (compareOp .In) (zde X.K E dIn):=by
 intro pins s σ H x y v u Q I rx ry ⟨ι,h,d1,d2,r1,r2,hr,q⟩
 obtain ⟨a,ds,xs,e1,e2,ec,c,q2⟩:=zjJ q
 obtain ⟨c1,c2,c3⟩:=zeY c
 obtain ⟨as,ra⟩:=zfu I r1 rx e1
 rcases ec with rfl | rfl
 ·obtain ⟨bs,rb⟩:=zfu I r2 ry (p:= .tuple xs) (by unfold pd;rw [e2];rfl)
  exact SeqAt.in_tuple_reads rb ra c2 c1 (by omega) ⟨.bl _,H,I,rfl,Fin.out hr q2 (.bl _) (by simp [Rel])⟩
 ·obtain ⟨bs,rb⟩:=zfu I r2 ry (p:= .list xs) (by unfold pd;rw [e2];rfl)
  exact SeqAt.in_list_reads rb ra c2 c1 (by omega) ⟨.bl _,H,I,rfl,Fin.out hr q2 (.bl _) (by simp [Rel])⟩
theorem zl0 (hu:X.A.units+60<cLine):OpR X (compareOp .NotIn) (zde X.K E zmv):=by
 intro pins s σ H x y v u Q I rx ry ⟨ι,h,d1,d2,r1,r2,hr,q⟩
 obtain ⟨a,ds,xs,e1,e2,ec,c,q2⟩:=zjJ q
 obtain ⟨c1,c2,c3⟩:=zeY c
 obtain ⟨as,ra⟩:=zfu I r1 rx e1
 rcases ec with rfl | rfl
 ·obtain ⟨bs,rb⟩:=zfu I r2 ry (p:= .tuple xs) (by unfold pd;rw [e2];rfl)
  exact SeqAt.notIn_tuple_reads rb ra c2 c1 (by omega) ⟨.bl _,H,I,rfl,Fin.out hr q2 (.bl _) (by simp [Rel])⟩
 ·obtain ⟨bs,rb⟩:=zfu I r2 ry (p:= .list xs) (by unfold pd;rw [e2];rfl)
  exact SeqAt.notIn_list_reads rb ra c2 c1 (by omega) ⟨.bl _,H,I,rfl,Fin.out hr q2 (.bl _) (by simp [Rel])⟩
end
end L3
namespace HT
open PySem PySem.Spec PyProof.Rows L2
section
variable {prog:Program} {w:World} {A:Around} {E:Value->Shared->Prop} {s:Shared}
theorem zdY {t sl:Addr} {items:Array Value} {vl vu:Value} {lo hi:Option Int} {Q:Value->Shared->Prop} (ht:IsTup s.heap t items) (hs:s.heap.IsSliceOf sl vl vu .none) (pl:IsPart vl lo) (pu:IsPart vu hi)
  (hw:sIx items.size 0 lo=0/\sIx items.size items.size hi=items.size) (h:Q (.ref t) s):wpAny (model prog w) A (getItem (.ref t) (.ref sl)) Q E s:=by
 obtain ⟨os,hos,hcs,hds⟩:=id hs
 have hTs:s.TypeIs (.ref sl) "slice":=⟨os,hos,hcs⟩
 unfold getItem
 try with_reducible refine qaO ?_
 first | refine qaW (qaX ?_) | skip
 refine qaW (wpAny_sequenceKey ht.typeIs (by decide) ?_)
 refine qaW (wpAny_callSpecial?_slot (name:=Str.ofString "__getitem__") ht.typeIs PyProof.Rows.slot_tuple_getitem
   (wpAny_call_entry PyProof.Rows.slot_tuple_getitem ht.typeIs entry_tuple_getitem ?_ (args_tuple_getitem _ _)))
 show wpAny _ _ (Builtin.Tuple.tupleItemsOf (.ref t)>>=_) _ _ s
 refine qaW (tupleItemsOf_ ht ?_)
 refine qaW (wpAny_typeOf hTs ?_)
 rw [qa4 (by decide)]
 refine qaW (zdf hs pl pu ?_)
 show wpAny _ _ (if (((sIx items.size 0 lo:Nat):Int)==0 && (1:Int)==1 && (sIx items.size items.size hi - sIx items.size 0 lo)==items.size)=true then _ else _) _ _ s
 rw [hw.1,hw.2,qa4 (by simp)]
 refine qaW (m:=Builtin.Tuple.tupleIsExact _) (qaW (wpAny_typeOf ht.typeIs (qaX ?_)))
 rw [qa4 (by decide)]
 refine qaW (wpAny_rule ?_)
 exact qaX ⟨_,rfl,qaX h⟩
end
end HT
namespace L2
open PySem PySem.Spec PyProof.Rows
section
variable {X:Cx} {e:Expr} {te:TE} {pos p2:Pos}
theorem zqQ:SlR X (fun x lo hi H Q=> ∃ a xs,x= .ref a/\SqT X.K H a xs/\(HT.sIx xs.length 0 lo=0/\HT.sIx xs.length xs.length hi=xs.length)/\Q (.ref a) H):=by
 intro pins s σ H x v vl vu lo hi sl Q I rx hs pl pu h
 obtain ⟨a,xs,rfl,hx,hw,q⟩:=h
 cases rx
 obtain ⟨its,r,ht,hz⟩:=I.tuple hx
 have hlen:its.toArray.size=xs.length:=by rw [qaA];exact r.length.symm
 refine ⟨"tuple",_,PyProof.Rows.slot_tuple_getitem.lookup,ht.typeIs,?_⟩
 exact HT.zdY ht hs pl pu (by rw [hlen];exact hw) ⟨.ref a,H,I,rfl,q⟩
theorem zeQ:fillsNumberSlot (.type "tuple") "mul"=pure false:=
 PySem.fillsNumberSlot_seq (id:="tuple.__mul__") (r:=some (.builtin "tuple.__rmul__")) F.slot_tuple_mul.lookup (by decide +kernel) F.slot_tuple_rmul.lookup (by decide +kernel)
theorem zhU:seqRepeat? (.type "tuple")=pure (some (.builtin "tuple.__mul__")):=by
 unfold seqRepeat?
 rw [PySem.seqSlot_of (T:="tuple") (name:="__mul__") (id:="tuple.__mul__") F.slot_tuple_mul.lookup (by decide +kernel),PySem.seqSlot_of (T:="tuple") (name:="__rmul__") (id:="tuple.__rmul__") F.slot_tuple_rmul.lookup (by decide +kernel)]
 rfl
theorem zfJ (k:Int) (t:Tok) (l:Addr) (items:Array Value) (n:Nat) (dd:Option Addr) (sl:Array (Option Value)):
  Meets (Builtin.«int.__rmul__» ⟨[.int k t,.ref l],[]⟩) (fun _ R s=>s.heap.get? l=some {cls:= .type "tuple",dict:=dd,data:= .seq items n,slots:=sl}/\R (.ok (.ret Value.notImplemented)) s):=
 .of_wp fun prog w A R s h=>by obtain ⟨hp,g,d,tk,os⟩:=s;obtain ⟨hl,h⟩:=h;wp_walk;exact ⟨_,rfl,h⟩
theorem zlu (k:Int) (t:Tok) (l:Addr) (items:Array Value) (n:Nat) (dd:Option Addr) (sl:Array (Option Value)) (hne:items.isEmpty=false) (hk:2<=k) (hk2:k<1000) (hz:items.size*k.toNat<=sizeLine):
  Meets (Builtin.«tuple.__mul__» ⟨[.ref l,.int k t],[]⟩) (fun _ R s=>s.heap.get? l=some {cls:= .type "tuple",dict:=dd,data:= .seq items n,slots:=sl}/\
    R (.ok (.ret (.ref s.heap.objs.size))) {s with heap:=s.heap.push {cls:= .type "tuple",data:= .seq ((List.replicate k.toNat items).foldl (· ++ ·) #[])}}):=
 .of_wp fun prog w A R s h=>by
  obtain ⟨hp,g,d,tk,os⟩:=s;obtain ⟨hl,h⟩:=h
  unfold Builtin.«tuple.__mul__» 
  wp_walk
  have hk63: ¬(decide (k< -2^63) || decide (k>=2^63))=true:=by
   rw [Bool.or_eq_true,qaD,qaD]
   omega
  rw [qa5 hk63]
  dsimp only
  have ht:IsTup hp l items:=⟨_,hl,rfl,_,rfl⟩
  refine qaW (tupleItemsOf_ ht ?_)
  have h1: ¬(items.isEmpty || k==1)=true:=by
   rw [hne,Bool.false_or,beq_iff_eq]
   omega
  rw [qa5 h1]
  have h2: ¬(decide (k<=0) || items.isEmpty)=true:=by
   rw [hne,Bool.or_false,qaD]
   omega
  rw [qa5 h2]
  have hk0:((k.toNat:Nat):Int)=k:=Int.toNat_of_nonneg (by omega)
  have hm:((items.size:Nat):Int)*k=((items.size*k.toNat:Nat):Int):=by rw [Int.natCast_mul,hk0]
  have hsl:(sizeLine:Nat)=16777216:=by decide
  have h3: ¬((items.size:Int)*k>(2^63 - 1) / 8):=by
   rw [hm]
   omega
  rw [qa5 h3]
  have h4: ¬Builtin.Tuple.tupleTooMany ((items.size:Int)*k)=true:=by
   unfold Builtin.Tuple.tupleTooMany
   rw [hm,qaD]
   omega
  rw [qa5 h4]
  have hsz:sizeOk (.seq (List.foldl (fun x1 x2=>x1++x2) #[] (List.replicate k.toNat items))):=by
   show (List.foldl (fun x1 x2=>x1++x2) #[] (List.replicate k.toNat items)).size<=sizeLine
   have e: ∀ (m:Nat) (acc:Array Value),(List.foldl (fun x1 x2=>x1++x2) acc (List.replicate m items)).size=acc.size+m*items.size:=by
    intro m
    induction m with
    | zero=>intro acc;simp
    | succ m ih=>intro acc;rw [List.replicate_succ,List.foldl_cons,ih,Array.size_append,Nat.succ_mul];omega
   rw [e,Nat.mul_comm]
   simpa using hz
  exact qaW (m:=Builtin.Tuple.tupleExact _) (qaC (qaX ⟨_,rfl,h⟩) hsz)
theorem zpp:OpR X (binaryOp .Mult) (fun x y H Q=> ∃ a k xs,x= .ref a/\y= .int k/\SqT X.K H a xs/\xs≠[]/\2<=k/\k<1000/\xs.length*k.toNat<=sizeLine/\ ∀ p,H p=none->Q (.ref p) (upd H p (.tup (List.replicate k.toNat xs).flatten))):=by
 intro pins s σ H x y v u Q I rx ry h
 obtain ⟨a,k,xs,rfl,rfl,hx,hne,h1,h2,hz,q⟩:=h
 cases rx
 obtain ⟨t,rfl⟩:=ry
 obtain ⟨its,r,ht,_⟩:=I.tuple hx
 have hl:=r.length
 obtain ⟨⟨cls,dd,data,sl⟩,ho,hc,n,hd⟩:=id ht
 simp only at hc hd
 subst hc hd
 have hemp:its.toArray.isEmpty=false:=by
  cases its with
  | nil=>cases r;exact absurd rfl hne
  | cons _ _=>simp
 refine wpAny_binaryOp_repeat_ref (T:="tuple") (U:="int") (by decide) ⟨_,ho,rfl⟩ (fun s'=>typeIs_int s' k t) zeQ F.fills_int_mul F.slot_int_rmul zhU F.slot_int_index.lookup
  (call_meets F.slot_int_rmul (typeIs_int s k t) F.entry_int_rmul (F.args_int_rmul_2 _ _) (zfJ k t a its.toArray n dd sl)
    ⟨ho,rfl,⟨_,ho,rfl⟩,call_meets F.slot_tuple_mul ⟨_,ho,rfl⟩ F.entry_tuple_mul (F.args_tuple_mul_2 _ _) (zlu k t a its.toArray n dd sl hemp h1 h2 (by rw [qaA, <-hl];exact hz)) ⟨ho,?_⟩⟩)
 have hnew:List.foldl (fun x1 x2=>x1++x2) #[] (List.replicate k.toNat its.toArray)=(List.replicate k.toNat its).flatten.toArray:=by
  have:=zfg its k.toNat []
  rw [List.nil_append] at this
  exact this
 rw [hnew]
 refine ⟨.ref _,_,I.laid (t':=s.toks) (o:= .tup (List.replicate k.toNat xs).flatten) (fun b ob q=>qag _ q) (qaV _) ?_,rfl,q _ (I.hok.fresh (qaV _))⟩
 exact ⟨by rw [zmi,Nat.mul_comm];exact hz,_,r.rep k.toNat,IsTup.new _ _⟩
end
end L2
namespace LT
open PySem PySem.Spec PyProof.Rows
noncomputable abbrev Up (xs:Array Nat):Prop:=xs.toList.Pairwise (· < ·)
theorem Up.lt {xs:Array Nat} (h:Up xs) {i j:Nat} {a b:Nat} (hi:xs[i]? = some a) (hj:xs[j]? = some b) (hij:i<j):a<b:=by
 have hi':xs.toList[i]? = some a:=by simpa using hi
 have hj':xs.toList[j]? = some b:=by simpa using hj
 obtain ⟨h1,e1⟩:=qac.mp hi'
 obtain ⟨h2,e2⟩:=qac.mp hj'
 have:=List.pairwise_iff_getElem.mp h i j h1 h2 hij
 rw [e1,e2] at this
 exact this
theorem zgH {xs:Array Nat} (h:Up xs) (j:Nat): ∀ (fuel lo hi:Nat),hi - lo<=fuel->lo<=hi->hi<=xs.size->(∀ i a,i<lo->xs[i]? = some a->a<j)->(∀ i a,hi<=i->xs[i]? = some a->j<=a)->
  let r:=SetTable.below.go xs j fuel lo hi
  r<=xs.size/\(∀ i a,i<r->xs[i]? = some a->a<j)/\(∀ i a,r<=i->xs[i]? = some a->j<=a)
 | 0,lo,hi,hf,hl,hs,h1,h2=>by
  have e:lo=hi:=by omega
  subst e
  exact ⟨hs,h1,h2⟩
 | fuel+1,lo,hi,hf,hl,hs,h1,h2=>by
  unfold SetTable.below.go
  by_cases hlt:lo<hi
  ·rw [qa4 hlt]
   have hm:(lo+hi) / 2<xs.size:=by omega
   have em:xs[(lo+hi) / 2]? = some xs[(lo+hi) / 2]:=by simp [hm]
   have eg:xs.getD ((lo+hi) / 2) j=xs[(lo+hi) / 2]:=by simp [Array.getD,hm]
   dsimp only
   by_cases hc:xs.getD ((lo+hi) / 2) j<j
   ·rw [qa4 hc]
    refine zgH h j fuel _ hi (by omega) (by omega) hs (fun i a hi' e=> ?_) h2
    rw [eg] at hc
    by_cases z:i=(lo+hi) / 2
    ·subst z;rw [em] at e;cases e;exact hc
    ·exact Nat.lt_trans (h.lt e em (by omega)) hc
   ·rw [qa5 hc]
    refine zgH h j fuel lo _ (by omega) (by omega) (by omega) h1 fun i a hi' e=> ?_
    rw [eg] at hc
    by_cases z:i=(lo+hi) / 2
    ·subst z;rw [em] at e;cases e;omega
    ·have:=h.lt em e (by omega)
     omega
  ·rw [qa5 hlt]
   have e:lo=hi:=by omega
   subst e
   exact ⟨hs,h1,h2⟩
theorem zgk {xs:Array Nat} (h:Up xs) (j:Nat):SetTable.below xs j<=xs.size/\(∀ i a,i<SetTable.below xs j->xs[i]? = some a->a<j)/\(∀ i a,SetTable.below xs j<=i->xs[i]? = some a->j<=a):=
 zgH h j xs.size 0 xs.size (by omega) (Nat.zero_le _) (qaV _) (fun _ _ z=>absurd z (Nat.not_lt_zero _)) fun i a z e=>by
  have:=(qab.mp e).1
  omega
theorem zga {xs:Array Nat} (h:Up xs) {k a:Nat} (e:xs[k]? = some a):SetTable.below xs (a+1)=k+1:=by
 obtain ⟨h1,h2,h3⟩:=zgk h (a+1)
 by_cases c:SetTable.below xs (a+1)<=k
 ·have:=h3 k a c e
  omega
 ·by_cases c2:k+1<SetTable.below xs (a+1)
  ·have hl:k+1<xs.size:=by omega
   have e2:xs[k+1]? = some xs[k+1]:=by simp [hl]
   have a1:=h2 (k+1) _ c2 e2
   have a2:=h.lt e e2 (by omega)
   omega
  ·omega
theorem zf8 {xs:Array Nat} (h:Up xs):SetTable.below xs 0=0:=by
 obtain ⟨h1,h2,h3⟩:=zgk h 0
 by_cases c:SetTable.below xs 0=0
 ·exact c
 ·have hl:0<xs.size:=by omega
  exact absurd (h2 0 _ (by omega) (show xs[0]? = some xs[0] by simp [hl])) (Nat.not_lt_zero _)
theorem zkJ {xs:Array Nat} (h:Up xs) {j:Nat} (hn:xs[SetTable.below xs j]? ≠ some j):Up (SetTable.insertAt xs (SetTable.below xs j) j):=by
 obtain ⟨h1,h2,h3⟩:=zgk h j
 show (SetTable.insertAt xs (SetTable.below xs j) j).toList.Pairwise (· < ·)
 rw [SetTable.toList_insertAt]
 rw [qaq]
 have hsplit:xs.toList.take (SetTable.below xs j)++xs.toList.drop (SetTable.below xs j)=xs.toList:=List.take_append_drop ..
 have hp:(xs.toList.take (SetTable.below xs j)++xs.toList.drop (SetTable.below xs j)).Pairwise (· < ·):=by rw [hsplit];exact h
 obtain ⟨p1,p2,p3⟩:=qaq.mp hp
 have tk: ∀ a∈xs.toList.take (SetTable.below xs j),a<j:=fun a ha=>by
  obtain ⟨i,hi⟩:=List.mem_iff_getElem?.mp ha
  rw [List.getElem?_take] at hi
  split at hi
  ·rename_i hlt
   exact h2 i a hlt (by simpa using hi)
  ·cases hi
 have dr: ∀ a∈xs.toList.drop (SetTable.below xs j),j<a:=fun a ha=>by
  obtain ⟨i,hi⟩:=List.mem_iff_getElem?.mp ha
  rw [List.getElem?_drop] at hi
  have hi':xs[SetTable.below xs j+i]? = some a:=by simpa using hi
  have a1:=h3 _ a (by omega) hi'
  rcases Nat.lt_or_eq_of_le a1 with z | z
  ·exact z
  ·subst z
   exfalso
   cases i with
   | zero=>exact hn hi'
   | succ i=>
    have hl:=(qab.mp hi').1
    have e0:xs[SetTable.below xs j]? = some xs[SetTable.below xs j]:=by
     have:SetTable.below xs j<xs.size:=by omega
     simp [this]
    have b1:=h3 _ _ (qaV _) e0
    have b2:=h.lt e0 hi' (by omega)
    omega
 refine ⟨p1,qay.mpr ⟨dr,p2⟩,fun a ha b hb=> ?_⟩
 rcases qaP.mp hb with z | z
 ·rw [z];exact tk a ha
 ·exact p3 a ha b z
structure ziJ (t:SetTable) (led:Bool):Prop where
 up:Up t.place
 nod:t.dummies= #[]
 led:t.led=led
theorem zi5 {j:Nat}:SetTable.has #[] j=false:=by
 unfold SetTable.has
 simp
theorem zl8 {t:SetTable} {led:Bool} (g:ziJ t led) {j:Nat} (h:t.slot j= .empty):t.place[SetTable.below t.place j]? ≠ some j:=fun e=>by
 unfold SetTable.slot at h
 dsimp only at h
 rw [e] at h
 simp at h
theorem zi3 {t:SetTable} {led:Bool} (g:ziJ t led) (f:Nat->Int) (h:Int): ∀ (fuel:Nat) (p:SetTable.Probe) (j:Nat) (d:Option Nat),p.dummy=none->SetTable.probe.go t f h fuel p=some (.empty j d)->t.slot j= .empty/\d=none
 | 0,_,_,_,_,e=>by cases e
 | fuel+1,p,j,d,hp,e=>by
  unfold SetTable.probe.go at e
  have adv: ∀ q:SetTable.Probe,q.dummy=none->(t.advance q).dummy=none:=fun q hq=>by
   unfold SetTable.advance
   split<;>exact hq
  split at e
  ·rename_i hs
   cases e
   exact ⟨hs,hp⟩
  ·rename_i hs
   exfalso
   unfold SetTable.slot at hs
   dsimp only at hs
   rw [g.nod,zi5] at hs
   split at hs<;>simp at hs
  ·split at e
   ·cases e
   ·exact zi3 g f h fuel _ j d (adv p hp) e
theorem zgG {t:SetTable} {led:Bool} (g:ziJ t led) {h:Int} {j:Nat} {b:Bool} (e:t.freeSlot h=some (j,b)):t.place[SetTable.below t.place j]? ≠ some j:=by
 unfold SetTable.freeSlot at e
 split at e
 ·rename_i j' d' hpr
  obtain ⟨h1,h2⟩:=zi3 g _ _ _ _ _ _ rfl hpr
  subst h2
  cases e
  exact zl8 g h1
 ·cases e
theorem znX (n:Nat):Up (Array.range n):=by
 show (Array.range n).toList.Pairwise (· < ·)
 rw [Array.toList_range]
 exact List.pairwise_lt_range
theorem zcy {t:SetTable} {led:Bool} (g:ziJ t led) (n:Nat):ziJ (t.standIn n) led:=⟨znX n,rfl,g.led⟩
theorem zik {t:SetTable} {led:Bool} (g:ziJ t led) (es:Array (Int×Value)) (h:Int) (x:Value):ziJ (layNew t es h x).2.1 led:=by
 unfold layNew
 split
 ·rename_i slot wasDummy e
  have g2:ziJ (t.put slot).1 led:=by
   refine ⟨zkJ g.up (zgG g e),?_,g.led⟩
   show (if SetTable.has t.dummies slot then _ else t.dummies)= #[]
   rw [g.nod,zi5]
   rfl
  show ziJ ((t.put slot).1.orStandIn _) led
  unfold SetTable.orStandIn
  split
  ·exact g2
  ·exact zcy g2 _
 ·exact zcy g _
theorem zk6 {mask finger moves:Nat} {led plain:Bool} {hs:Array Int} {t:SetTable} {o:Array Nat} (e:SetTable.laid mask finger moves led plain hs=some (t,o)):ziJ t led:=by
 unfold SetTable.laid at e
 cases z:SetTable.layClean mask hs with
 | none=>rw [z] at e;cases e
 | some owner=>
  rw [z] at e
  have e:some (({mask,place:=(((List.range (mask+1)).filterMap fun j=>(owner.getD j none).map (j, ·)).map (·.1)).toArray,dummies:= #[],finger,led,moves,plain}:SetTable),_)=some (t,o):=e
  cases e
  refine ⟨?_,rfl,rfl⟩
  show (((List.range (mask+1)).filterMap fun j=>(owner.getD j none).map (j, ·)).map (·.1)).toArray.toList.Pairwise (· < ·)
  rw [List.toList_toArray,List.map_filterMap]
  have sub:List.Sublist ((List.range (mask+1)).filterMap fun j=>((owner.getD j none).map (j, ·)).map (·.1)) (List.range (mask+1)):=by
   generalize List.range (mask+1)=l
   induction l with
   | nil=>exact .slnil
   | cons a r ih=>
    rw [qat]
    cases q:owner.getD a none with
    | none=>exact ih.cons a
    | some v=>exact ih.cons₂ a
  exact List.pairwise_lt_range.sublist sub
theorem zgS {t:SetTable} {led:Bool} (g:ziJ t led) (es:Array (Int×Value)) (wanted:Nat):ziJ (relayAll t es wanted).2.1 led:=by
 unfold relayAll
 split
 ·rename_i t' order e
  have g2:ziJ t' t.led:=zk6 e
  rw [g.led] at g2
  dsimp only
  split
  ·exact g2
  ·exact zcy g _
 ·exact zcy g _
noncomputable def zda (w:World):Bool:= !w.params.followText "set-order"
def zgZ (prog:Program) (w:World) (h:Heap) (a:Addr) (S:Int->Bool) (n:Nat):Prop:=
 ∃ ob es ep tb,(h.get? a=some ob/\ob.ExactSet/\ob.data= .set es ep tb)/\ElemsOf (intKind prog w) es.toList/\(∀ k,S k=true↔ ∃ e∈es.toList,(intKind prog w).is k e.2=true)/\
  (es.size<scanBound/\tb.fits es.size=true/\es.size=n)/\ziJ tb (zda w)
theorem zgZ.move {prog:Program} {w:World} {h h':Heap} {a:Addr} {S S':Int->Bool} {n n':Nat} (g:zgZ prog w h a S n) (k: ∀ ob,h.get? a=some ob->h'.get? a=some ob) (e: ∀ k,S k=S' k) (en:n=n'):zgZ prog w h' a S' n':=by
 obtain ⟨ob,es,ep,tb,⟨h1,h2,h3⟩,h4,h5,⟨h6,h7,h8⟩,h9⟩:=g
 exact ⟨ob,es,ep,tb,⟨k ob h1,h2,h3⟩,h4,fun z=>by rw [<- e z];exact h5 z,⟨h6,h7,h8.trans en⟩,h9⟩
section
variable {prog:Program} {w:World} {A:Around} {E:Value->Shared->Prop} {s:Shared}
theorem stored {a:Addr} {ob:Obj} {es es':Array (Int×Value)} {ep:Nat} {tb tb':SetTable} {S:Int->Bool} {R:Unit->Shared->Prop} (ho:s.heap.get? a=some ob) (hx:ob.ExactSet) (hd:ob.data= .set es ep tb)
  (hE:ElemsOf (intKind prog w) es'.toList) (hS: ∀ k,S k=true↔ ∃ e∈es'.toList,(intKind prog w).is k e.2=true) (hb:es'.size<scanBound) (hf:tb'.fits es'.size=true) (hg:ziJ tb' (zda w))
  (q: ∀ h',Heap.SameBut a s.heap h'->h'.get? a=some {ob with data:= .set es' (ep+1) tb'}->zgZ prog w h' a S es'.size->R () {s with heap:=h'}):wpAny (model prog w) A (storeSet a es' tb') R E s:=by
 have put:=putSet_of es' tb' hd
 have at1:(s.heap.update a (Obj.putSet es' tb')).get? a=some {ob with data:= .set es' (ep+1) tb'}:=by
  have z:=qal (Obj.putSet es' tb') ho (by rw [put];rfl)
  rwa [put] at z
 exact wpAny_storeSet_of ho hd (q _ (Heap.SameBut.update ..) at1 ⟨_,es',ep+1,tb',⟨at1,hx,rfl⟩,hE,hS,⟨hb,hf,rfl⟩,hg⟩) (fits_of_scanBound hb)
theorem zwk {a:Addr} {S:Int->Bool} {n:Nat} {k:Int} {t:Tok} {Q:Bool->Shared->Prop} (g:zgZ prog w s.heap a S n) (room:n+1<scanBound)
  (q: ∀ h' b,Heap.SameBut a s.heap h'->zgZ prog w h' a (fun z=>S z || decide (z=k)) (if S k then n else n+1)->Q b {s with heap:=h'}):
  wpAny (model prog w) A (setAddHashed a (.int k t) ((intKind prog w).hash k)) Q E s:=by
 have kis:(intKind prog w).is k (.int k t)=true:=intKind_is _ _ _ _
 obtain ⟨ob,es,ep,tb,⟨h1,h2,h3⟩,h4,h5,⟨h6,h7,h8⟩,h9⟩:=g
 have scn:(Value.int k t).scannable=true:=rfl
 unfold setAddHashed setAddHashedIn
 refine qaO (qaW (wpAny_setState_of h1 h3 h7 ?_))
 dsimp only
 rw [qa4 (byScan_of scn h6 h4)]
 refine qaW ?_
 unfold setAddByScan
 refine qaW (wpAny_rule (qaW (wpAny_setScan_of kis h1 h3 h7 h4 ?_)))
 cases fi:List.findIdx? (fun e=>(intKind prog w).is k e.2) es.toList with
 | some j=>
  obtain ⟨lj,pj,_⟩:=List.findIdx?_eq_some_iff_getElem.mp fi
  have inS:S k=true:=(h5 k).mpr ⟨_,List.getElem_mem lj,pj⟩
  refine qaX (qaX ?_)
  have z:=q s.heap false (Heap.SameBut.refl ..) ⟨ob,es,ep,tb,⟨h1,h2,h3⟩,h4,fun y=> ?_,⟨h6,h7,by rw [inS];exact h8⟩,h9⟩
  ·exact z
  ·rw [<- h5 y,Bool.or_eq_true,qaD]
   exact ⟨fun c=>c.elim id fun c=>by rw [c];exact inS,.inl⟩
 | none=>
  have noS:S k=false:=by
   rw [<- Bool.not_eq_true,h5 k]
   rintro ⟨e,he,pe⟩
   have:=List.findIdx?_eq_none_iff.mp fi e he
   rw [pe] at this
   cases this
  have L1:=layNew_perm tb es ((intKind prog w).hash k) (.int k t)
  have L2:=layNew_fits tb es ((intKind prog w).hash k) (.int k t)
  have L3:=zik h9 es ((intKind prog w).hash k) (.int k t)
  generalize hl:layNew tb es ((intKind prog w).hash k) (.int k t)=ln at L1 L2 L3 ⊢
  obtain ⟨es1,tb1,wd,gv⟩:=ln
  dsimp only at L1 L2 L3 ⊢
  rw [Array.toList_push] at L1
  have E1:ElemsOf (intKind prog w) es1.toList:=(h4.push kis scn).perm L1
  have M1: ∀ y,(S y || decide (y=k))=true↔ ∃ e∈es1.toList,(intKind prog w).is y e.2=true:=mem_push_iff kis h5 L1
  have Z1:es1.size=n+1:=by
   have z:=L1.length_eq
   rw [qav,qas,qas] at z
   rw [z,h8];rfl
  have B1:es1.size<scanBound:=by rw [Z1];exact room
  have quiet: ∀ (b:Bool) (s1:Shared) (R:Unit->Shared->Prop),R () s1->wpAny (model prog w) A (match b with | true=>rule "set.scan.the-table-gave-way" | false=>pure ()) R E s1:=fun b s1 R z=>by
   cases b
   ·exact qaX z
   ·exact wpAny_rule z
  have fin: ∀ (s1:Shared) (h':Heap),s1={s with heap:=h'}->Heap.SameBut a s.heap h'->zgZ prog w h' a (fun y=>S y || decide (y=k)) es1.size->Q true s1:=fun s1 h' e1 sb gg=>by
   subst e1
   have z:=q h' true sb
   rw [noS] at z
   exact z (by rw [Z1] at gg;exact gg)
  refine qaW (quiet _ _ _ ?_)
  have tail: ∀ (gw:Bool->Sem Unit),(∀ (b:Bool) (s1:Shared) (R:Unit->Shared->Prop),R () s1->wpAny (model prog w) A (gw b) R E s1)->wpAny (model prog w) A (do
      storeSet a es1 tb1
      if (!wd && tb1.tooFull)=true then do
        gw (relayAll tb1 es1 (SetTable.grown es1.size)).2.2
        storeSet a (relayAll tb1 es1 (SetTable.grown es1.size)).1 (relayAll tb1 es1 (SetTable.grown es1.size)).2.1
        pure (some true)
      else pure (some true)) (fun r s'=>wpAny (model prog w) A (match r with | some b=>pure b | none=>setAddHashedIn a (.int k t) ((intKind prog w).hash k) 99999) Q E s') E s:=by
   intro gw hgw
   refine qaW (stored h1 h2 h3 E1 M1 B1 L2 L3 fun h' sb at1 gg=> ?_)
   by_cases full:(!wd && tb1.tooFull)=true
   ·rw [qa4 full]
    have P2:=relayAll_perm tb1 es1 (SetTable.grown es1.size)
    have F2:=relayAll_fits tb1 es1 (SetTable.grown es1.size)
    have G2:=zgS L3 es1 (SetTable.grown es1.size)
    generalize relayAll tb1 es1 (SetTable.grown es1.size)=rl at P2 F2 G2 ⊢
    obtain ⟨es2,tb2,gv2⟩:=rl
    dsimp only at P2 F2 G2 ⊢
    have Z2:es2.size=es1.size:=by
     have z:=P2.length_eq
     rwa [qas,qas] at z
    refine qaW (hgw _ _ _ (qaW (stored (s:={s with heap:=h'}) (S:=fun y=>S y || decide (y=k)) at1 h2 rfl (E1.perm P2) (fun y=>(M1 y).trans ?_) (by rw [Z2];exact B1) F2 G2 fun h'' sb2 _ gg2=> ?_)))
    ·exact ⟨fun ⟨e,he,pe⟩=>⟨e,P2.mem_iff.mpr he,pe⟩,fun ⟨e,he,pe⟩=>⟨e,P2.mem_iff.mp he,pe⟩⟩
    ·exact qaX (qaX (fin _ h'' rfl (sb.trans sb2) (by rw [Z2] at gg2;exact gg2)))
   ·rw [qa5 full]
    exact qaX (qaX (fin _ h' rfl sb gg))
  split
  ·rw [hashByValue_scannable 8 scn]
   refine qaW (qaX ?_)
   exact tail _ fun b s1 R z=>by cases b<;>first | exact qaX z | exact wpAny_rule z
  ·refine qaW (qaX ?_)
   exact tail _ fun b s1 R z=>by cases b<;>first | exact qaX z | exact wpAny_rule z
end
section
variable {prog:Program} {w:World} {A:Around} {R:Result->Shared->Prop} {it:Addr} {fp wr:List Addr} {G:Array GenState->Array GenState->Prop} {n:Nat} {P:Nat->Value->Prop} {St:Nat->Shared->Prop}
theorem zv4 (W:WalksS prog w A.in1 it fp wr G n P St) (a:Addr) (ha:a∉fp) (val:Nat->Int) (hval: ∀ i v,P i v-> ∃ t,v= .int (val i) t) (room:n+1<scanBound):
  ∀ (left i:Nat) (s:Shared),n - i=left->i<=n->St i s->zgZ prog w s.heap a (fun z=>(firstMet val i).any (· == z)) (firstMet val i).length->
   (∀ s',Moved (a::wr) G s s'->zgZ prog w s'.heap a (fun z=>(firstMet val n).any (· == z)) (firstMet val n).length->R (.ok (.ret .none)) s')->
   codeAny (model prog w) A (.builtin "set.update.loop" ⟨[.ref a,.ref it],[]⟩) R s:=by
 have awr:a∉wr:=fun z=>ha (W.sub _ z)
 have more: ∀ b∈wr,b∈a::wr:=fun b z=> .tail _ z
 intro left
 induction left with
 | zero=>
  intro i s hleft hin st g q
  obtain rfl:i=n:=by omega
  refine codeAny_builtin F.entry_set_update_loop ?_
  rw [qap F.plain_set_update_loop _]
  show wpAny _ _ (pyNext (.ref it)>>=_) _ _ _
  refine qaW (W.done s _ _ st fun s' mv=> ?_)
  exact qaX (q s' (mv.mono more) (g.move (fun ob e=>mv.heap a ob awr e) (fun _=>rfl) rfl))
 | succ left ih=>
  intro i s hleft hin st g q
  have hi:i<n:=by omega
  refine codeAny_builtin F.entry_set_update_loop ?_
  rw [qap F.plain_set_update_loop _]
  show wpAny _ _ (pyNext (.ref it)>>=_) _ _ _
  refine qaW (W.item i s _ _ hi st fun v s1 pv st1 mv=> ?_)
  obtain ⟨t,rfl⟩:=hval i v pv
  have g1:zgZ prog w s1.heap a (fun z=>(firstMet val i).any (· == z)) (firstMet val i).length:=g.move (fun ob e=>mv.heap a ob awr e) (fun _=>rfl) rfl
  show wpAny _ _ (holding [Value.int (val i) t] (setAdd a (.int (val i) t))>>=_) _ _ _
  refine qaW (qaO ?_)
  unfold setAdd
  refine qaO (qaW ((intKind prog w).pyHash (k:=val i) (intKind_is _ _ _ _) ?_))
  have few:=firstMet_length_le val i
  refine zwk (s:={s1 with toks:=s1.toks+1}) g1 (by omega) fun h2 b sb g2=> ?_
  have g3:zgZ prog w h2 a (fun z=>(firstMet val (i+1)).any (· == z)) (firstMet val (i+1)).length:=
   g2.move (fun _ e=>e) (fun z=>by rw [firstMet_succ,step_any]) (by rw [firstMet_succ,step_length])
  have off: ∀ b,b≠a->h2.get? b=s1.heap.get? b:=fun b hb=>sb.2 b hb
  refine qaX ⟨plainId_quiet F.plain_set_update_loop _,ih (i+1) _ (by omega) hi (W.frame _ s1 _ _ st1 (Nat.le_succ _) fun b hb ob e=> ?_) g3 fun s3 mv3 g4=> ?_⟩
  ·rw [off b fun z=>ha (z▸hb)]
   exact e
  ·refine q s3 (.trans W.gtrans ((mv.mono more).then_heap (Nat.le_succ _) fun b ob hb e=> ?_) mv3) g4
   rw [off b fun z=>hb (z▸ .head _)]
   exact e
end
section
variable {prog:Program} {w:World} {A:Around} {E:Value->Shared->Prop} {s:Shared}
theorem zoP (h:Heap):zgZ prog w (h.push {cls:= .type "set",dict:=none,data:= .set #[] 0 (.fresh 0 0 (zda w))}) h.objs.size (fun _=>false) 0:=
 ⟨_, #[],0,_,⟨qar _ rfl,⟨rfl,rfl,rfl⟩,rfl⟩,fun e he=>by simp at he,fun k=>by simp,⟨by decide,rfl,rfl⟩,⟨List.Pairwise.nil,rfl,rfl⟩⟩
theorem zws (x:Value) {Q:Value->Shared->Prop} (q:Q (.ref s.heap.objs.size) {s with heap:=s.heap.push {cls:= .type "set",dict:=none,data:= .set #[] 0 (.fresh 0 0 (zda w))}}):
  codeAny (model prog w) A (.call (.builtin "set.__new__") ⟨[.type "set",x],[]⟩) (wants Q E) s:=by
 refine codeAny_of_tree ?_
 show wpAny _ _ (do checkBuiltinCall "set.__new__" ⟨[.type "set",x],[]⟩;again (.builtin "set.__new__" ⟨[.type "set",x],[]⟩)) _ _ _
 refine qaW (wpAny_of_eq (F.newCall_set_1 x) (qaX ⟨plainId_quiet F.plain_set_new _,codeAny_builtin F.entry_set_new ?_⟩))
 rw [qap F.plain_set_new _]
 unfold Builtin.«set.__new__» Builtin.Frozenset.newClass
 have self:=sub_set_self
 obtain ⟨hp,gs,dr,tk,os⟩:=s
 dsimp only
 wp_walk
 refine wpAny_askSetting (qaX ?_)
 dsimp only
 simp only [newObj]
 exact qaW (wpAny_alloc (qaX (qaX q)))
theorem zv8 {l:Addr} {T:String} {items:Array Value} {ns:List Int} {Q:Value->Shared->Prop} (hh:A.handled=none) (hT:(T="list"/\s.heap.IsList l items)\/(T="tuple"/\s.heap.IsTuple l items)) (hi:IntsAre items.toList ns) (room:items.size+1<scanBound)
  (q: ∀ (h':Heap) (tk:Nat),zgZ prog w h' s.heap.objs.size (fun z=>(firstMet (fun i=>ns.getD i 0) items.size).any (· == z)) (firstMet (fun i=>ns.getD i 0) items.size).length->(∀ b ob,s.heap.get? b=some ob->h'.get? b=some ob)->
    Q (.ref s.heap.objs.size) {s with heap:=h',toks:=tk}):wpAny (model prog w) A (call (.type "set") [.ref l]) Q E s:=by
 obtain ⟨c,tl,hmro⟩:=F.called_set.mro
 have hmade:=F.called_set.made
 have hsub:=F.called_set.sub
 refine wpAny_call (codeAny_of_tree ?_)
 show wpAny _ _ (callAny (.type "set") _) _ _ _
 refine qaX ⟨Code.quiet_builtin _ (by decide +kernel),codeAny_builtin F.entry_type_call ?_⟩
 rw [Around.under_plain (weight_type_call_type "set" [.ref l] []) rfl]
 have hnt:=F.called_set.notType
 have hcc:=F.called_set.canCreate
 have htc:=F.typeCall_set_1 (.ref l)
 repeat' (first | assumption | wp_step)
 refine codeAny_mono (zws (.ref l) (E:=E) (Q:=fun v s1=>v= .ref s.heap.objs.size/\s1={s with heap:=s.heap.push {cls:= .type "set",dict:=none,data:= .set #[] 0 (.fresh 0 0 (zda w))}}) ⟨rfl,rfl⟩) fun r s1 hr=> ?_
 cases r with
 | error e=>exact hr
 | ok fl=>
  cases fl with
  | ret v=>
   obtain ⟨rfl,rfl⟩:=hr
   have laid:(s.heap.push {cls:= .type "set",dict:=none,data:= .set #[] 0 (.fresh 0 0 (zda w))}).get? s.heap.objs.size=some {cls:= .type "set",dict:=none,data:= .set #[] 0 (.fresh 0 0 (zda w))}:=qar _ rfl
   have isSet:Shared.TypeIs {s with heap:=s.heap.push {cls:= .type "set",dict:=none,data:= .set #[] 0 (.fresh 0 0 (zda w))}} (.ref s.heap.objs.size) "set":=⟨_,laid,rfl⟩
   have hli:=F.called_set.init.lookup
   have hbi:=F.called_set.init.bind (.ref s.heap.objs.size)
   repeat' (first | assumption | wp_step)
   refine codeAny_mono (codeAny_call_builtin (R:=wants (fun z s2=>z= .none/\ ∃ h' tk,s2={s with heap:=h',toks:=tk}/\
       zgZ prog w h' s.heap.objs.size (fun z=>(firstMet (fun i=>ns.getD i 0) items.size).any (· == z)) (firstMet (fun i=>ns.getD i 0) items.size).length/\(∀ b ob,s.heap.get? b=some ob->h'.get? b=some ob)) E) F.called_set.init.plain F.entry_set_init (check_set_init_1 isSet ?_)) fun r2 s2 hr2=> ?_
   ·have keepL: ∀ ob,s.heap.get? l=some ob->(s.heap.push {cls:= .type "set",dict:=none,data:= .set #[] 0 (.fresh 0 0 (zda w))}).get? l=some ob:=fun ob e=>qag _ e
    have hval: ∀ (i:Nat) (v:Value),items[i]? = some v-> ∃ t,v= .int ((fun i=>ns.getD i 0) i) t:=fun i v hv=>IntsAre.int_at hi i v (by rw [Array.getElem?_toList];exact hv)
    have hh3:A.in1.in1.in1.handled=none:=by simp [hh]
    have done1: ∀ (l0:Addr) (h0:Heap) (s':Shared),l0=s.heap.objs.size->Moved [l0,(s.heap.push {cls:= .type "set",dict:=none,data:= .set #[] 0 (.fresh 0 0 (zda w))}).objs.size] (fun a b=>b=a) {s with heap:=h0} s'->(∀ b ob,s.heap.get? b=some ob->h0.get? b=some ob)->
      (∀ b ob,s.heap.get? b=some ob->s'.heap.get? b=some ob)/\s'={s with heap:=s'.heap,toks:=s'.toks}:=fun l0 h0 s' e0 mv k0=>by
     refine ⟨fun b ob e=>mv.heap b ob (fun z=> ?_) (k0 b ob e),?_⟩
     ·have lt:=qaQ e
      rw [qaL,e0] at z
      simp only [qaP,qaF,or_false] at z
      rcases z with z | z
      ·exact qaN _ (z▸lt)
      ·exact qaN _ (Nat.lt_of_succ_lt (z▸lt))
     ·obtain ⟨h',g',d',tk',os'⟩:=s'
      have eg:g'=s.gens:=mv.gens
      have ed:d'=s.drawn:=mv.drawn
      have eo:os'=s.os:=mv.os
      subst eg ed eo
      rfl
    unfold Builtin.«set.__init__» noKeywords Builtin.Frozenset.updateFrom
    generalize hPI:pyIter=PI
    rcases hT with ⟨rfl,hl⟩ | ⟨rfl,hl⟩
    ·obtain ⟨⟨ocl,odi,oda,osl⟩,hol,hcl,nl,hdl⟩:=hl
     simp only at hcl hdl
     subst hcl hdl
     have hol':=keepL _ hol
     have f1:=F.sub_list_set
     have f2:=F.sub_list_frozenset
     have f3:(Value.type "list"==Value.type "dict")=false:=by decide
     wp_walk
     subst hPI
     have hl1:(s.heap.push {cls:= .type "set",dict:=none,data:= .set #[] 0 (.fresh 0 0 (zda w))}).IsList l items:=⟨_,hol',rfl,nl,rfl⟩
     refine wpAny_pyIter_list hl1 ?_
     refine qaW (wpAny_runValue ?_)
     have ltl:l<s.heap.objs.size:=qaQ hol
     have szp:(s.heap.push {cls:= .type "set",dict:=none,data:= .set #[] 0 (.fresh 0 0 (zda w))}).objs.size=s.heap.objs.size+1:=qaL ..
     have ne1:l≠(s.heap.push {cls:= .type "set",dict:=none,data:= .set #[] 0 (.fresh 0 0 (zda w))}).objs.size:=by rw [szp];exact qaR (Nat.lt_succ_of_lt ltl)
     have ne2:s.heap.objs.size∉[(s.heap.push {cls:= .type "set",dict:=none,data:= .set #[] 0 (.fresh 0 0 (zda w))}).objs.size,l]:=by
      rw [szp]
      simp only [qaP,qaF,or_false]
      rintro (z | z)
      ·exact Nat.succ_ne_self _ z.symm
      ·exact qaN _ (z▸ltl)
     refine zv4 ((Walks.list hh3 _ l ne1 items).toS) s.heap.objs.size ne2 (fun i=>ns.getD i 0) hval room _ 0 _ rfl (Nat.zero_le _) ⟨⟨_,qar _ rfl,rfl,rfl⟩,hl1.push _⟩ ?g0 fun s' mv gg=> ?_
     case g0=>exact (zoP s.heap).move (fun ob e=>qag _ e) (fun _=>rfl) rfl
     obtain ⟨k1,k2⟩:=done1 _ _ s' rfl mv fun b ob e=>qag _ (qag _ e)
     exact qaX (qaX ⟨rfl,s'.heap,s'.toks,k2,gg,k1⟩)
    ·obtain ⟨⟨ocl,odi,oda,osl⟩,hol,hcl,nl,hdl⟩:=hl
     simp only at hcl hdl
     subst hcl hdl
     have hol':=keepL _ hol
     have f1:=F.sub_tuple_set
     have f2:=F.sub_tuple_frozenset
     have f3:(Value.type "tuple"==Value.type "dict")=false:=by decide
     wp_walk
     subst hPI
     have hl1:(s.heap.push {cls:= .type "set",dict:=none,data:= .set #[] 0 (.fresh 0 0 (zda w))}).IsTuple l items:=⟨_,hol',rfl,nl,rfl⟩
     refine wpAny_pyIter_tuple hl1 ?_
     refine qaW (wpAny_runValue ?_)
     have ltl:l<s.heap.objs.size:=qaQ hol
     have szp:(s.heap.push {cls:= .type "set",dict:=none,data:= .set #[] 0 (.fresh 0 0 (zda w))}).objs.size=s.heap.objs.size+1:=qaL ..
     have ne1:l≠(s.heap.push {cls:= .type "set",dict:=none,data:= .set #[] 0 (.fresh 0 0 (zda w))}).objs.size:=by rw [szp];exact qaR (Nat.lt_succ_of_lt ltl)
     have ne2:s.heap.objs.size∉[(s.heap.push {cls:= .type "set",dict:=none,data:= .set #[] 0 (.fresh 0 0 (zda w))}).objs.size,l]:=by
      rw [szp]
      simp only [qaP,qaF,or_false]
      rintro (z | z)
      ·exact Nat.succ_ne_self _ z.symm
      ·exact qaN _ (z▸ltl)
     refine zv4 ((Walks.tuple hh3 _ l ne1 items).toS) s.heap.objs.size ne2 (fun i=>ns.getD i 0) hval room _ 0 _ rfl (Nat.zero_le _) ⟨⟨_,qar _ rfl,rfl,rfl⟩,⟨_,qag _ hol',rfl,nl,rfl⟩⟩ ?g0 fun s' mv gg=> ?_
     case g0=>exact (zoP s.heap).move (fun ob e=>qag _ e) (fun _=>rfl) rfl
     obtain ⟨k1,k2⟩:=done1 _ _ s' rfl mv fun b ob e=>qag _ (qag _ e)
     exact qaX (qaX ⟨rfl,s'.heap,s'.toks,k2,gg,k1⟩)
   ·cases r2 with
    | error e=>exact hr2
    | ok fl2=>
     cases fl2 with
     | ret z=>
      obtain ⟨rfl,h',tk,rfl,gg,k1⟩:=hr2
      repeat' (first | assumption | wp_step)
      exact q _ _ gg k1
     | _=>exact hr2.elim
  | _=>exact hr.elim
end
theorem zaR:Slot "set_iterator" "__next__" "set_iterator.__next__":= .of (owner:="set_iterator") (n:="__next__") (by rw [typeLookup_type,builtinLookup_eq_fast];kernel_rfl) (by decide +kernel) (by decide +kernel) (by decide +kernel) (by first | exact .inl (by decide +kernel) | exact .inr (by decide +kernel)) (by rw [isSubtype_type];kernel_rfl)
theorem zec:Slot "set_iterator" "__iter__" "set_iterator.__iter__":= .of (owner:="set_iterator") (n:="__iter__") (by rw [typeLookup_type,builtinLookup_eq_fast];kernel_rfl) (by decide +kernel) (by decide +kernel) (by decide +kernel) (by first | exact .inl (by decide +kernel) | exact .inr (by decide +kernel)) (by rw [isSubtype_type];kernel_rfl)
theorem zcF:entryFor table "set_iterator.__next__"=some Builtin.«set_iterator.__next__» := entryFor_of_tree (by kernel_rfl)
theorem zfN:entryFor table "set_iterator.__iter__"=some Builtin.«dict_keyiterator.__iter__» := entryFor_alias (id':="dict_keyiterator.__iter__") (by kernel_rfl) rfl (by decide +kernel) (by kernel_rfl)
theorem zc6 (a:Value):argsOk "set_iterator.__next__" ⟨[a],[]⟩:=by unfold argsOk;kernel_rfl
theorem zgE (a:Value):argsOk "set_iterator.__iter__" ⟨[a],[]⟩:=by unfold argsOk;kernel_rfl
theorem zfS:entryFor table "set.__iter__"=some Builtin.«frozenset.__iter__» := entryFor_alias (id':="frozenset.__iter__") (by kernel_rfl) rfl (by decide +kernel) (by kernel_rfl)
def SIt (h:Heap) (it a:Addr) (first:Value) (i n ep:Nat):Prop:=h.get? it=some {cls:= .type "set_iterator",dict:=none,data:= .fields #[first,.int i 0,.ref a,.int n 0,.int ep 0],slots:= #[]}
structure zjp (h:Heap) (a:Addr) (es:Array (Int×Value)) (ep:Nat) (tb:SetTable):Prop where
 at_: ∃ ob,h.get? a=some ob/\ob.ExactSet/\ob.data= .set es ep tb
 fits:tb.fits es.size=true
section
variable {prog:Program} {w:World} {A:Around} {E:Value->Shared->Prop} {s:Shared}
theorem zmJ {it a:Addr} {first:Value} {i n ep:Nat} {es:Array (Int×Value)} {tb:SetTable} {Q:Option Value->Shared->Prop} (hI:SIt s.heap it a first i n ep) (hS:zjp s.heap a es ep tb) (hn:es.size=n) (slot:Nat) (hf:first= .int slot 0)
  (q:wpAny (model prog w) A.in1 (do
    match<-setNext a slot i ep with
    | some (x,next)=>
      setField (.ref it) 0 (rawInt next)
      setField (.ref it) 1 (rawInt ((i:Int)+1))
      ret x
    | none=>setField (.ref it) 2 .none;raiseNew (<- newExc (.type "StopIteration") [])) (fun f s'=> ∃ v,f= .done (.ret v)/\Q (some v) s') (fun e s'=>wpAny (model prog w) A (do if<-isInstance e (.type "StopIteration") then pure none else throw e) Q E s') s):
  wpAny (model prog w) A (pyNext (.ref it)) Q E s:=by
 obtain ⟨ob,ho,hx,hd⟩:=hS.at_
 subst hf
 have tI:s.TypeIs (.ref it) "set_iterator":=⟨_,hI,rfl⟩
 unfold pyNext
 refine qaW (wpAny_attempt (wpAny_callSpecial?_slot (name:=Str.ofString "__next__") tI zaR (wpAny_call_entry zaR tI zcF ?_ (zc6 _))))
 unfold Builtin.«set_iterator.__next__»
 refine qaW (m:=slotArgs "__next__" 0 _) (qaX ?_)
 refine qaW (m:=fieldsOf (.ref it)) ?_
 unfold fieldsOf
 refine qaW (wpAny_load hI (qaX ?_))
 refine qaW (wpAny_setEntries_of ho hd hS.fits ?_)
 have same: ¬(((es.size:Nat):Int) != (n:Int))=true:=by rw [hn];simp
 rw [qa5 same]
 exact qaZ q (fun f s' ⟨v,e,z⟩=>⟨v,e,qaX z⟩) fun e s' z=>z
theorem zlG {it:Addr} {r:Shared->Prop} {Q:Option Value->Shared->Prop} (hh:A.handled=none) (q: ∀ h',(∀ b ob,s.heap.get? b=some ob->h'.get? b=some ob)->Q none {s with heap:=h'}):
  wpAny (model prog w) A.in1 (do raiseNew (<- newExc (.type "StopIteration") []):Sem PySem.Fin) (fun f s'=> ∃ v,f= .done (.ret v)/\Q (some v) s') (fun e s'=>wpAny (model prog w) A (do if<-isInstance e (.type "StopIteration") then pure none else throw e) Q E s') s:=by
 refine qaW ?_
 simp only [newExc,newTuple]
 refine qaW (qaC ?_ (by size_fits))
 refine qaW (m:=firstArgMember _ _) (wpAny_of_eq (a:=Value.none) (by first | rfl | (simp only [firstArgMember];rfl)) ?_)
 refine qaC ?_ (by size_fits)
 simp only [raiseNew]
 refine qaW (wpAny_handled ?_)
 rw [show A.in1.handled=none from hh]
 refine qaW (qaX (wpAny_throw ?_))
 refine qaW (wpAny_isInstance (T:="StopIteration") (b:=true) ⟨_,qar _ rfl,rfl⟩ isSubtype_stop ?_)
 exact qaX (q _ fun b ob e=>qag _ (qag _ e))
theorem SIt.set {h h':Heap} {it a:Addr} {first:Value} {i n ep:Nat} (x:SIt h it a first i n ep):it<h.objs.size:=qaQ x
theorem zfU {es:Array (Int×Value)} {tb:SetTable} (hf:tb.fits es.size=true):tb.place.size=es.size:=by
 unfold SetTable.fits at hf
 simp only [qaG,beq_iff_eq] at hf
 exact hf.1
theorem zeh {a:Addr} {ep i slot:Nat} {es:Array (Int×Value)} {tb:SetTable} {R:Option (Value×Nat)->Shared->Prop} (hS:zjp s.heap a es ep tb) (led:tb.led=true) (bt:w.params.followText "set-order"=false) (pl:(!tb.plain && decide (es.size>1))=false)
  (q:R (match es[SetTable.below tb.place slot]?, tb.place[SetTable.below tb.place slot]? with | some (_,x),some j=>some (x,j+1) | _,_=>none) s):wpAny (model prog w) A (setNext a slot i ep) R E s:=by
 obtain ⟨ob,ho,hx,hd⟩:=hS.at_
 unfold setNext
 refine qaW (wpAny_setState_of ho hd hS.fits ?_)
 dsimp only
 unfold setsByText
 refine qaW (qaW (wpAny_askSetting (qaX ?_)))
 dsimp only
 rw [show (model prog w).w.params.followText "set-order"=false from bt]
 simp only [qax,if_false]
 show wpAny _ _ (if (!tb.plain && decide (es.size>1))=true then _ else _) _ _ _
 rw [qa5 (by rw [pl];exact Bool.false_ne_true)]
 refine qaW ?_
 show wpAny _ _ (if (!tb.led && !es.isEmpty)=true then _ else _) _ _ _
 rw [qa5 (by rw [led];exact Bool.false_ne_true)]
 exact qaX (qaX q)
theorem zeF {a:Addr} {ep i slot:Nat} {es:Array (Int×Value)} {tb:SetTable} {R:Option (Value×Nat)->Shared->Prop} (hS:zjp s.heap a es ep tb) (bt:w.params.followText "set-order"=true)
  (q:R (((pickOrder (w.params.setOrder a ep) es)[i]?).map fun e=>(e.2,slot)) s):wpAny (model prog w) A (setNext a slot i ep) R E s:=by
 obtain ⟨ob,ho,hx,hd⟩:=hS.at_
 unfold setNext
 refine qaW (wpAny_setState_of ho hd hS.fits ?_)
 dsimp only
 unfold setsByText
 refine qaW (qaW (wpAny_askSetting (qaX ?_)))
 dsimp only
 rw [show (model prog w).w.params.followText "set-order"=true from bt]
 simp only [if_true]
 rw [qa5 (by simp)]
 refine qaW ?_
 unfold setWalk
 refine qaW (wpAny_setState_of ho hd hS.fits ?_)
 dsimp only
 unfold setsByText
 refine qaW (qaW (wpAny_askSetting (qaX ?_)))
 dsimp only
 rw [show (model prog w).w.params.followText "set-order"=true from bt]
 simp only [if_true]
 refine qaW (wpAny_askSetting (qaX (qaX q)))
theorem zmF {it a:Addr} {n ep i slot nx:Nat} {x:Value} {es:Array (Int×Value)} {tb:SetTable} {Q:Option Value->Shared->Prop} (hI:SIt s.heap it a (.int slot 0) i n ep) (hS:zjp s.heap a es ep tb) (hn:es.size=n)
  (st: ∀ (R:Option (Value×Nat)->Shared->Prop) (E':Value->Shared->Prop),R (some (x,nx)) s->wpAny (model prog w) A.in1 (setNext a slot i ep) R E' s)
  (q: ∀ h',SIt h' it a (.int nx 0) (i+1) n ep->Heap.SameBut it s.heap h'->Q (some x) {s with heap:=h'}):wpAny (model prog w) A (pyNext (.ref it)) Q E s:=by
 refine zmJ hI hS hn slot rfl (qaW (st _ _ ?_))
 dsimp only
 refine qaW (wpAny_setField_rec hI (by simp) fun h1 a1 sb1=> ?_)
 refine qaW (wpAny_setField_rec (s:={s with heap:=h1}) a1 (by simp) fun h2 a2 sb2=> ?_)
 refine qaX ⟨x,rfl,q h2 ?_ (sb1.trans sb2)⟩
 unfold SIt
 rw [a2]
 simp [rawInt]
theorem zpg {it a:Addr} {n ep i slot:Nat} {es:Array (Int×Value)} {tb:SetTable} {Q:Option Value->Shared->Prop} (hh:A.handled=none) (hI:SIt s.heap it a (.int slot 0) i n ep) (hS:zjp s.heap a es ep tb) (hn:es.size=n)
  (st: ∀ (R:Option (Value×Nat)->Shared->Prop) (E':Value->Shared->Prop),R none s->wpAny (model prog w) A.in1 (setNext a slot i ep) R E' s)
  (q: ∀ h',(∀ b ob,b≠it->s.heap.get? b=some ob->h'.get? b=some ob)->Q none {s with heap:=h'}):wpAny (model prog w) A (pyNext (.ref it)) Q E s:=by
 refine zmJ hI hS hn slot rfl (qaW (st _ _ ?_))
 dsimp only
 refine qaW (wpAny_setField_rec hI (by simp) fun h1 a1 sb1=> ?_)
 exact zlG (r:=fun _=>True) (it:=it) (s:={s with heap:=h1}) hh fun h' k=>q h' fun b ob hb e=>k b ob ((sb1.2 b hb).trans e)
end
theorem zdG {α:Type}: ∀ {l:List α} {i:Nat} {x:α},l[i]? = some x->List.Perm l (x::l.eraseIdx i)
 | [],_,_,e=>by simp at e
 | a::r,0,x,e=>by simp at e;subst e;exact .rfl
 | a::r,i+1,x,e=>by
  have e:r[i]? = some x:=by simpa using e
  exact ((zdG e).cons a).trans (.swap x a _)
theorem zeM {α:Type} {l:List α} {i:Nat} {x:α} (e:l[i]? = some x):(l.eraseIdx i).length+1=l.length:=by
 have:=(zdG e).length_eq
 rw [qaE] at this
 exact this.symm
theorem zhu {α:Type} (nx:Nat->Nat): ∀ (fuel k:Nat) (left:List α) (out:Array α),left.length=fuel->List.Perm (pickOrder.go nx fuel k left out).toList (out.toList++left)
 | 0,k,left,out,h=>by
  have:left=[]:=List.length_eq_zero_iff.mp h
  subst this
  simp [pickOrder.go]
 | fuel+1,k,left,out,h=>by
  unfold pickOrder.go
  have hl:nx k % left.length<left.length:=Nat.mod_lt _ (by omega)
  have e:left[nx k % left.length]? = some left[nx k % left.length]:=by simp [hl]
  rw [e]
  dsimp only
  have hz:=zeM e
  refine (zhu nx fuel (k+1) _ _ (by omega)).trans ?_
  rw [Array.toList_push,List.append_assoc]
  exact List.Perm.append_left _ (zdG e).symm
theorem zcH {α:Type} (nx:Nat->Nat) (xs:Array α):List.Perm (pickOrder nx xs).toList xs.toList:=by
 have:=zhu nx xs.size 0 xs.toList #[] (by simp)
 simpa [pickOrder] using this
section
variable {prog:Program} {w:World} {A:Around} {E:Value->Shared->Prop} {s:Shared}
theorem zjZ {src:Source} {n:Nat} {Q:Nat->Shared->Prop} (hn:n≠0) (q: ∀ k d,k<n->Q k {s with drawn:=d}):wpAny (model prog w) A (choose src n) Q E s:=fun Γ p hΓ=>⟨hn,q _ _ (Nat.mod_lt _ (Nat.pos_of_ne_zero hn))⟩
theorem zeL {α:Type}: ∀ (fuel:Nat) (xs:List α) (s:Shared) (Q:List α->Shared->Prop),xs.length<=fuel->(∀ ys d,List.Perm ys xs->Q ys {s with drawn:=d})->wpAny (model prog w) A (drawOrder fuel xs) Q E s
 | 0,xs,s,Q,h,q=>by
  have:xs=[]:=List.length_eq_zero_iff.mp (by omega)
  subst this
  unfold drawOrder
  exact qaX (q [] s.drawn .rfl)
 | fuel+1,[],s,Q,h,q=>by
  unfold drawOrder
  exact qaX (q [] s.drawn .rfl)
 | fuel+1,x::r,s,Q,h,q=>by
  unfold drawOrder
  refine qaW (zjZ (by simp) fun k d hk=> ?_)
  have e:(x::r)[k]? = some (x::r)[k]:=by simp [hk]
  rw [e]
  dsimp only
  have hz:=zeM e
  refine qaW (zeL fuel ((x::r).eraseIdx k) {s with drawn:=d} _ (by omega) fun ys d' p=>qaX ?_)
  exact q _ d' ((p.cons _).trans (zdG e).symm)
theorem zj6 {it a tp:Addr} {n ep i p:Nat} {x:Value} {es:Array (Int×Value)} {tb:SetTable} {ps:Array Value} {Q:Option Value->Shared->Prop} (hI:SIt s.heap it a (.ref tp) i n ep) (hS:zjp s.heap a es ep tb) (hn:es.size=n)
  (hT:s.heap.get? tp=some {cls:= .type "tuple",data:= .seq ps}) (hp:ps[i]? = some (.int (p:Nat) 0)) (he:(es[p]?).map (·.2)=some x)
  (q: ∀ h',SIt h' it a (.ref tp) (i+1) n ep->Heap.SameBut it s.heap h'->Q (some x) {s with heap:=h'}):wpAny (model prog w) A (pyNext (.ref it)) Q E s:=by
 obtain ⟨ob,ho,hx,hd⟩:=hS.at_
 have tI:s.TypeIs (.ref it) "set_iterator":=⟨_,hI,rfl⟩
 unfold pyNext
 refine qaW (wpAny_attempt (wpAny_callSpecial?_slot (name:=Str.ofString "__next__") tI zaR (wpAny_call_entry zaR tI zcF ?_ (zc6 _))))
 unfold Builtin.«set_iterator.__next__»
 refine qaW (m:=slotArgs "__next__" 0 _) (qaX ?_)
 refine qaW (m:=fieldsOf (.ref it)) ?_
 unfold fieldsOf
 refine qaW (wpAny_load hI (qaX ?_))
 refine qaW (wpAny_setEntries_of ho hd hS.fits ?_)
 have same: ¬(((es.size:Nat):Int) != (n:Int))=true:=by rw [hn];simp
 rw [qa5 same]
 refine qaW (m:=seqItems? (.ref tp)) ?_
 unfold seqItems?
 refine qaW (wpAny_load hT (qaX ?_))
 dsimp only
 rw [show ((i:Nat):Int).toNat=i from qaB i,hp]
 dsimp only
 refine qaW (m:=setNextDrawn a _ _) ?_
 unfold setNextDrawn
 refine qaW (wpAny_setState_of ho hd hS.fits ?_)
 dsimp only
 rw [show ((ep:Nat):Int).toNat=ep from qaB ep,show ((p:Nat):Int).toNat=p from qaB p,qa5 (by simp)]
 cases ee:es[p]? with
 | none=>rw [ee] at he;cases he
 | some e=>
  rw [ee] at he
  cases he
  dsimp only
  refine qaX ?_
  refine qaW (wpAny_setField_rec hI (by simp) fun h2 a2 sb2=> ?_)
  refine qaX ⟨_,rfl,qaX (q h2 ?_ sb2)⟩
  unfold SIt
  rw [a2]
  simp [rawInt]
theorem zk5 {it a tp:Addr} {n ep i:Nat} {es:Array (Int×Value)} {tb:SetTable} {ps:Array Value} {Q:Option Value->Shared->Prop} (hh:A.handled=none) (hI:SIt s.heap it a (.ref tp) i n ep) (hS:zjp s.heap a es ep tb) (hn:es.size=n)
  (hT:s.heap.get? tp=some {cls:= .type "tuple",data:= .seq ps}) (hp:ps[i]? = none)
  (q: ∀ h',(∀ b ob,b≠it->s.heap.get? b=some ob->h'.get? b=some ob)->Q none {s with heap:=h'}):wpAny (model prog w) A (pyNext (.ref it)) Q E s:=by
 obtain ⟨ob,ho,hx,hd⟩:=hS.at_
 have tI:s.TypeIs (.ref it) "set_iterator":=⟨_,hI,rfl⟩
 unfold pyNext
 refine qaW (wpAny_attempt (wpAny_callSpecial?_slot (name:=Str.ofString "__next__") tI zaR (wpAny_call_entry zaR tI zcF ?_ (zc6 _))))
 unfold Builtin.«set_iterator.__next__»
 refine qaW (m:=slotArgs "__next__" 0 _) (qaX ?_)
 refine qaW (m:=fieldsOf (.ref it)) ?_
 unfold fieldsOf
 refine qaW (wpAny_load hI (qaX ?_))
 refine qaW (wpAny_setEntries_of ho hd hS.fits ?_)
 have same: ¬(((es.size:Nat):Int) != (n:Int))=true:=by rw [hn];simp
 rw [qa5 same]
 refine qaW (m:=seqItems? (.ref tp)) ?_
 unfold seqItems?
 refine qaW (wpAny_load hT (qaX ?_))
 dsimp only
 rw [show ((i:Nat):Int).toNat=i from qaB i,hp]
 dsimp only
 refine qaW (wpAny_setField_rec hI (by simp) fun h1 a1 sb1=> ?_)
 refine qaW (wpAny_setField_rec (s:={s with heap:=h1}) a1 (by simp) fun h2 a2 sb2=> ?_)
 refine qaZ (zlG (Q:=Q) (E:=E) (r:=fun _=>True) (it:=it) (s:={s with heap:=h2}) hh fun h' k=>q h' fun b ob hb e=>k b ob ((sb2.2 b hb).trans ((sb1.2 b hb).trans e))) (fun f s' ⟨v,e,z⟩=>⟨v,e,qaX z⟩) fun e s' z=>z
theorem zfA {it a:Addr} {first:Value} {i n ep:Nat} {Q:Value->Shared->Prop} (hI:SIt s.heap it a first i n ep) (q:Q (.ref it) s):wpAny (model prog w) A (pyIter (.ref it)) Q E s:=by
 have tI:s.TypeIs (.ref it) "set_iterator":=⟨_,hI,rfl⟩
 refine wpAny_pyIter_slot tI zec (wpAny_call_entry zec tI zfN ?_ (zgE _))
 show wpAny _ _ (ret (.ref it)) _ _ _
 exact qaX ⟨_,rfl,"set_iterator",_,tI,zaR.lookup,q⟩
theorem zjp.keep {h h':Heap} {a:Addr} {es:Array (Int×Value)} {ep:Nat} {tb:SetTable} (x:zjp h a es ep tb) (k: ∀ ob,h.get? a=some ob->h'.get? a=some ob):zjp h' a es ep tb:=
 ⟨let ⟨ob,h1,h2⟩:=x.at_;⟨ob,k ob h1,h2⟩,x.fits⟩
noncomputable def zhm (tb:SetTable):Nat->Nat
 | 0=>0
 | i+1=>tb.place.getD i 0+1
theorem zj1 (hh:A.handled=none) {it a:Addr} {ep:Nat} {es:Array (Int×Value)} {tb:SetTable} (hne:a≠it) (up:Up tb.place) (led:tb.led=true) (bt:w.params.followText "set-order"=false) (pl:(!tb.plain && decide (es.size>1))=false) (hf:tb.fits es.size=true):
  Walks prog w A it [it,a] [it] es.size (fun i v=> ∃ e,es.toList[i]? = some e/\v=e.2) (fun i h=>SIt h it a (.int (zhm tb i:Nat) 0) i es.size ep/\zjp h a es ep tb) where
 sub:=fun b hb=>by simp at hb;simp [hb]
 frame:=fun i h h' st k=>⟨k it (by simp) _ st.1,st.2.keep fun ob e=>k a (by simp) ob e⟩
 item:=fun i s Q E hi st q=>by
  have pz:=zfU hf
  have hi2:i<tb.place.size:=by omega
  have bl:SetTable.below tb.place (zhm tb i)=i:=by
   cases i with
   | zero=>exact zf8 up
   | succ i=>
    have hi3:i<tb.place.size:=by omega
    have e:tb.place[i]? = some (tb.place.getD i 0):=by simp [hi3,Array.getD]
    exact zga up e
  have ep':tb.place.getD i 0=tb.place[i]:=by simp [hi2,Array.getD]
  refine zmF (nx:=zhm tb (i+1)) (x:=es[i].2) st.1 st.2 rfl (fun R E' r=>zeh st.2 led bt pl ?_) fun h' a1 sb=> ?_
  ·rw [bl]
   have e1:es[i]? = some es[i]:=by simp [hi]
   have e2:tb.place[i]? = some tb.place[i]:=by simp [hi2]
   rw [e1,e2]
   show R (some (es[i].2,tb.place[i]+1)) s
   have e3:zhm tb (i+1)=tb.place[i]+1:=by show tb.place.getD i 0+1=_;rw [ep']
   rw [<- e3]
   exact r
  ·exact q _ h' s.toks ⟨es[i],by simp [hi],rfl⟩ ⟨a1,st.2.keep fun ob e=>(sb.2 a hne).trans e⟩ fun b ob hb e=>(sb.2 b fun z=>hb (by simp [z])).trans e
 done:=fun s Q E st q=>by
  have pz:=zfU hf
  have bl:SetTable.below tb.place (zhm tb es.size)=es.size:=by
   cases hz:es.size with
   | zero=>exact zf8 up
   | succ i=>
    have hi3:i<tb.place.size:=by omega
    have e:tb.place[i]? = some (tb.place.getD i 0):=by simp [hi3,Array.getD]
    exact zga up e
  refine zpg hh st.1 st.2 rfl (fun R E' r=>zeh st.2 led bt pl ?_) fun h' k=>q h' s.toks fun b ob hb e=>k b ob (fun z=>hb (by simp [z])) e
  rw [bl]
  have e1:es[es.size]? = none:=by simp
  rw [e1]
  exact r
 self:=fun i s Q E st q=>zfA st.1 q
theorem zkX (hh:A.handled=none) {it a:Addr} {ep:Nat} {es:Array (Int×Value)} {tb:SetTable} (hne:a≠it) (bt:w.params.followText "set-order"=true) (hf:tb.fits es.size=true):
  Walks prog w A it [it,a] [it] es.size (fun i v=> ∃ e,(pickOrder (w.params.setOrder a ep) es).toList[i]? = some e/\v=e.2) (fun i h=>SIt h it a (.int (0:Nat) 0) i es.size ep/\zjp h a es ep tb) where
 sub:=fun b hb=>by simp at hb;simp [hb]
 frame:=fun i h h' st k=>⟨k it (by simp) _ st.1,st.2.keep fun ob e=>k a (by simp) ob e⟩
 item:=fun i s Q E hi st q=>by
  have pz:(pickOrder (w.params.setOrder a ep) es).size=es.size:=by
   have:=(zcH (w.params.setOrder a ep) es).length_eq
   simpa using this
  have hi2:i<(pickOrder (w.params.setOrder a ep) es).size:=by omega
  refine zmF (nx:=0) (x:=(pickOrder (w.params.setOrder a ep) es)[i].2) st.1 st.2 rfl (fun R E' r=>zeF st.2 bt ?_) fun h' a1 sb=> ?_
  ·have e1:(pickOrder (w.params.setOrder a ep) es)[i]? = some (pickOrder (w.params.setOrder a ep) es)[i]:=by simp [hi2]
   rw [e1]
   exact r
  ·exact q _ h' s.toks ⟨(pickOrder (w.params.setOrder a ep) es)[i],by simp [hi2],rfl⟩ ⟨a1,st.2.keep fun ob e=>(sb.2 a hne).trans e⟩ fun b ob hb e=>(sb.2 b fun z=>hb (by simp [z])).trans e
 done:=fun s Q E st q=>by
  have pz:(pickOrder (w.params.setOrder a ep) es).size=es.size:=by
   have:=(zcH (w.params.setOrder a ep) es).length_eq
   simpa using this
  refine zpg hh st.1 st.2 rfl (fun R E' r=>zeF st.2 bt ?_) fun h' k=>q h' s.toks fun b ob hb e=>k b ob (fun z=>hb (by simp [z])) e
  have e1:(pickOrder (w.params.setOrder a ep) es)[es.size]? = none:=by simp [pz]
  rw [e1]
  exact r
 self:=fun i s Q E st q=>zfA st.1 q
theorem zks (hh:A.handled=none) {it a tp:Addr} {ep:Nat} {es:Array (Int×Value)} {tb:SetTable} {ys:List Nat} (hne:a≠it) (hne2:tp≠it) (hp:List.Perm ys (List.range es.size)):
  Walks prog w A it [it,a,tp] [it] es.size (fun i v=> ∃ e,(ys.filterMap (es[·]?))[i]? = some e/\v=e.2) (fun i h=>SIt h it a (.ref tp) i es.size ep/\zjp h a es ep tb/\h.get? tp=some {cls:= .type "tuple",data:= .seq (ys.map fun (i:Nat)=>rawInt i).toArray}) where
 sub:=fun b hb=>by simp at hb;simp [hb]
 frame:=fun i h h' st k=>⟨k it (by simp) _ st.1,st.2.1.keep fun ob e=>k a (by simp) ob e,k tp (by simp) _ st.2.2⟩
 item:=fun i s Q E hi st q=>by
  have hl:ys.length=es.size:=by simpa using hp.length_eq
  have hi2:i<ys.length:=by omega
  have lt: ∀ y∈ys,y<es.size:=fun y hy=>by simpa using hp.mem_iff.mp hy
  have lti:=lt _ (List.getElem_mem hi2)
  have fm: ∀ (zs:List Nat),(∀ y∈zs,y<es.size)-> ∀ (j:Nat) (y:Nat),zs[j]? = some y->(zs.filterMap (es[·]?))[j]? = es[y]? := by
   intro zs
   induction zs with
   | nil=>intro _ j y e;simp at e
   | cons z r ih=>
    intro hz j y e
    have lz:=hz z (.head _)
    rw [List.filterMap_cons_some (b:=es[z]) (by simp [lz])]
    cases j with
    | zero=>simp at e;subst e;simp [lz]
    | succ j=>simpa using ih (fun y hy=>hz y (.tail _ hy)) j y (by simpa using e)
  refine zj6 (p:=ys[i]) (x:=es[ys[i]].2) st.1 st.2.1 rfl st.2.2 (by simp [hi2,rawInt]) (by simp [lti]) fun h' a1 sb=> ?_
  refine q _ h' s.toks ⟨es[ys[i]],?_,rfl⟩ ⟨a1,st.2.1.keep fun ob e=>(sb.2 a hne).trans e,(sb.2 tp hne2).trans st.2.2⟩ fun b ob hb e=>(sb.2 b fun z=>hb (by simp [z])).trans e
  rw [fm ys lt i ys[i] (by simp [hi2])]
  simp [lti]
 done:=fun s Q E st q=>by
  have hl:ys.length=es.size:=by simpa using hp.length_eq
  exact zk5 hh st.1 st.2.1 rfl st.2.2 (by simp [hl]) fun h' k=>q h' s.toks fun b ob hb e=>k b ob (fun z=>hb (by simp [z])) e
 self:=fun i s Q E st q=>zfA st.1 q
end
section
variable {prog:Program} {w:World} {A:Around} {E:Value->Shared->Prop} {s:Shared}
structure zq0 (prog:Program) (w:World) (a it:Addr) (es:Array (Int×Value)) (ord:List (Int×Value)) (fp:List Addr) (St:Nat->Heap->Prop):Prop where
 walks: ∀ A:Around,A.handled=none->Walks prog w A it fp [it] es.size (fun i v=> ∃ e,ord[i]? = some e/\v=e.2) St
 perm:List.Perm ord es.toList
 mem:it∈fp
theorem zvb {a:Addr} {S:Int->Bool} {n:Nat} {Q:Value->Shared->Prop} (g:zgZ prog w s.heap a S n)
  (q: ∀ it es ep tb ord fp St h' d,(∃ ob,s.heap.get? a=some ob/\ob.ExactSet/\ob.data= .set es ep tb)->zq0 prog w a it es ord fp St->St 0 h'->s.heap.objs.size<=it->(∀ b ob,s.heap.get? b=some ob->h'.get? b=some ob)->(∀ b∈fp,b=a\/s.heap.objs.size<=b)->es.size<scanBound->
    Q (.ref it) {s with heap:=h',drawn:=d}):wpAny (model prog w) A (pyIter (.ref a)) Q E s:=by
 obtain ⟨ob,es,ep,tb,⟨h1,h2,h3⟩,h4,h5,⟨h6,h7,h8⟩,h9⟩:=g
 have tS:s.TypeIs (.ref a) "set":=⟨ob,h1,h2.1⟩
 have lta:a<s.heap.objs.size:=qaQ h1
 refine wpAny_pyIter_slot tS F.slot_set_iter (wpAny_call_entry F.slot_set_iter tS zfS ?_ (F.args_set_iter_1 _))
 unfold Builtin.«frozenset.__iter__»
 refine qaW (m:=Builtin.Frozenset.slot0 "__iter__" _) (qaX ?_)
 refine qaW (m:=Builtin.Frozenset.sizeOf a) ?_
 unfold Builtin.Frozenset.sizeOf
 refine qaW (wpAny_setEntries_of h1 h3 h7 (qaX ?_))
 refine qaW (m:=setDrawn a) ?_
 unfold setDrawn
 refine qaW (wpAny_setState_of h1 h3 h7 ?_)
 dsimp only
 unfold setsByText
 refine qaW (qaW (wpAny_askSetting (qaX (qaX ?_))))
 dsimp only
 have sobj: ∀ {h':Heap},(∀ b ob,s.heap.get? b=some ob->h'.get? b=some ob)->zjp h' a es ep tb:=fun k=>⟨⟨ob,k _ _ h1,h2,h3⟩,h7⟩
 by_cases dr:(!(model prog w).w.params.followText "set-order" && (!tb.plain && decide (es.size>1)))=true
 ·show wpAny _ _ (if (!(model prog w).w.params.followText "set-order" && (!tb.plain && decide (es.size>1)))=true then _ else _) _ _ _
  rw [qa4 dr]
  refine qaW (zeL es.size (List.range es.size) s _ (by simp) fun ys d hp=> ?_)
  have hl:ys.length=es.size:=by simpa using hp.length_eq
  have small:es.size<=sizeLine:=fits_of_scanBound h6
  refine qaW ?_
  unfold newTuple
  refine qaC ?_ (by show (ys.map fun (i:Nat)=>rawInt i).toArray.size<=sizeLine;simp [hl];exact small)
  unfold setEpoch
  refine qaW (qaW (wpAny_setState_of (s:={s with heap:=_,drawn:=d}) (qag _ h1) h3 h7 (qaX ?_)))
  dsimp only
  refine qaW (qaC (qaX ⟨_,rfl,"set_iterator",_,⟨_,qar _ rfl,rfl⟩,zaR.lookup,?_⟩))
  have z1:(s.heap.push {cls:= .type "tuple",dict:=none,data:= .seq (ys.map fun (i:Nat)=>rawInt i).toArray}).objs.size=s.heap.objs.size+1:=qaL ..
  have kp: ∀ (o2:Obj) b ob,s.heap.get? b=some ob->((s.heap.push {cls:= .type "tuple",dict:=none,data:= .seq (ys.map fun (i:Nat)=>rawInt i).toArray}).push o2).get? b=some ob:=fun o2 b ob e=>qag _ (qag _ e)
  refine q _ es ep tb (ys.filterMap (es[·]?)) [(s.heap.push {cls:= .type "tuple",dict:=none,data:= .seq (ys.map fun (i:Nat)=>rawInt i).toArray}).objs.size,a,s.heap.objs.size] _ _ d ⟨ob,h1,h2,h3⟩ ⟨fun A' hA=>zks (tb:=tb) (ep:=ep) hA ?_ ?_ hp,?_,.head _⟩ ⟨?_,sobj (kp _),?_⟩ ?_ (kp _) (fun b hb=> ?_) h6
  ·rw [z1];exact qaR (Nat.lt_succ_of_lt lta)
  ·rw [z1];exact qaR (Nat.lt_succ_self _)
  ·refine (hp.filterMap _).trans ?_
   rw [filterMap_getElem?_range]
  ·exact qar _ rfl
  ·exact qag _ (qar _ rfl)
  ·rw [z1];exact Nat.le_succ _
  ·simp only [qaP,qaF,or_false] at hb
   rcases hb with z | z | z
   ·right;rw [z,z1];exact Nat.le_succ _
   ·exact .inl z
   ·right;rw [z];exact qaV _
 ·show wpAny _ _ (if (!(model prog w).w.params.followText "set-order" && (!tb.plain && decide (es.size>1)))=true then _ else _) _ _ _
  rw [qa5 dr]
  refine qaW (qaX ?_)
  unfold setEpoch
  refine qaW (qaW (wpAny_setState_of h1 h3 h7 (qaX ?_)))
  dsimp only
  refine qaW (qaC (qaX ⟨_,rfl,"set_iterator",_,⟨_,qar _ rfl,rfl⟩,zaR.lookup,?_⟩))
  have kp: ∀ (o2:Obj) b ob,s.heap.get? b=some ob->(s.heap.push o2).get? b=some ob:=fun o2 b ob e=>qag _ e
  have fpl: ∀ b∈[s.heap.objs.size,a],b=a\/s.heap.objs.size<=b:=fun b hb=>by
   simp only [qaP,qaF,or_false] at hb
   rcases hb with z | z
   ·right;rw [z];exact qaV _
   ·exact .inl z
  cases bt:w.params.followText "set-order" with
  | true=>
   exact q _ es ep tb _ [s.heap.objs.size,a] _ _ s.drawn ⟨ob,h1,h2,h3⟩ ⟨fun A' hA=>zkX (tb:=tb) (ep:=ep) hA (qaR lta) bt h7,zcH _ _,.head _⟩ ⟨qar _ rfl,sobj (kp _)⟩ (qaV _) (kp _) fpl h6
  | false=>
   have pl:(!tb.plain && decide (es.size>1))=false:=by
    rw [show (model prog w).w.params.followText "set-order"=false from bt] at dr
    simpa using dr
   have led:tb.led=true:=by
    rw [h9.led]
    unfold zda
    rw [bt]
    rfl
   exact q _ es ep tb _ [s.heap.objs.size,a] _ _ s.drawn ⟨ob,h1,h2,h3⟩ ⟨fun A' hA=>zj1 (tb:=tb) (ep:=ep) hA (qaR lta) h9.up led bt pl h7,.rfl,.head _⟩ ⟨qar _ rfl,sobj (kp _)⟩ (qaV _) (kp _) fpl h6
theorem zn6 {a:Addr} {S:Int->Bool} {n:Nat} {Q:List Value->Shared->Prop} (hh:A.handled=none) (g:zgZ prog w s.heap a S n)
  (q: ∀ vs s' es ep tb,(∃ ob,s.heap.get? a=some ob/\ob.ExactSet/\ob.data= .set es ep tb)->List.Perm vs (es.toList.map (·.2))->(∀ b ob,s.heap.get? b=some ob->s'.heap.get? b=some ob)->s'.gens=s.gens->s'.os=s.os->Q vs s'):wpAny (model prog w) A (collect (.ref a)) Q E s:=by
 have tS: ∀ {h':Heap} {s':Shared},s'.heap=h'->(∀ b ob,s.heap.get? b=some ob->h'.get? b=some ob)->s'.TypeIs (.ref a) "set":=fun {h' s'} e k=>by
  obtain ⟨ob,es,ep,tb,⟨h1,h2,h3⟩,_⟩:=g
  exact ⟨ob,by rw [e];exact k _ _ h1,h2.1⟩
 have lta:a<s.heap.objs.size:=by
  obtain ⟨ob,es,ep,tb,⟨h1,h2,h3⟩,_⟩:=g
  exact qaQ h1
 unfold collect
 refine qaW (wpAny_runValue (codeAny_builtin F.entry_proto_collect ?_))
 rw [qap F.plain_proto_collect _]
 show wpAny _ _ (newList []>>=fun l=>again (.builtin "list.__iadd__" ⟨[l,.ref a],[]⟩)) _ _ _
 refine qaW (qaC (qaX ⟨plainId_quiet F.plain_list_iadd _,codeAny_builtin F.entry_list_iadd ?_⟩))
 rw [qap F.plain_list_iadd _]
 show wpAny _ _ (Builtin.List.listExtendWith (.ref s.heap.objs.size) (.ref a) (.ref s.heap.objs.size)) _ _ _
 unfold Builtin.List.listExtendWith
 have k1: ∀ b ob,s.heap.get? b=some ob->(s.heap.push {cls:= .type "list",data:= .seq ([]:List Value).toArray}).get? b=some ob:=fun b ob e=>qag _ e
 refine qaW (wpAny_typeOf (tS rfl k1) ?_)
 have nsame:Builtin.List.listSameRef (.ref s.heap.objs.size) (.ref a)=false:=by
  simp only [Builtin.List.listSameRef,beq_eq_false_iff_ne]
  exact fun z=>qaN _ (z▸lta)
 have nl:(Value.type "set"==Value.type "list")=false:=by decide
 have nt:(Value.type "set"==Value.type "tuple")=false:=by decide
 simp only [nsame,nl,nt,Bool.or_false,qax,if_false]
 refine qaW (zvb (g.move (fun ob e=>k1 _ _ e) (fun _=>rfl) rfl) fun it es ep tb ord fp St h2 d hob W st0 lit k2 fpl few=> ?_)
 refine qaW (qaO ?_)
 unfold Builtin.List.listLengthHint
 have k12: ∀ b ob,s.heap.get? b=some ob->h2.get? b=some ob:=fun b ob e=>k2 b ob (k1 b ob e)
 refine qaW (wpAny_specialOf (tS rfl k12) F.slot_set_len.lookup ?_)
 have sp:splitId "set.__len__"=some ("set","__len__"):=by decide +kernel
 dsimp only
 rw [sp]
 dsimp only
 refine qaW (wpAny_isInstance (tS rfl k12) sub_set_self ?_)
 rw [qa5 (by decide)]
 rw [qa4 (by decide +kernel)]
 refine qaW (wpAny_typeOf (tS rfl k12) (qaX ?_))
 rw [qa4 (by decide +kernel)]
 refine qaW (wpAny_rule ?_)
 have l2:h2.get? s.heap.objs.size=some {cls:= .type "list",data:= .seq ([]:List Value).toArray}:=k2 _ _ (qar _ rfl)
 refine qaW ?_
 unfold Builtin.List.listTouch
 show wpAny _ _ (updateSeq s.heap.objs.size (·.push .none)>>=fun _=>updateSeq s.heap.objs.size (·.pop)) _ _ _
 refine qaW (wpAny_updateSeq l2 rfl ?_)
 have l3:=qal (Obj.mapSeq (·.push Value.none)) l2 rfl
 refine wpAny_updateSeq l3 rfl ?_
 have l4:=qal (Obj.mapSeq (·.pop)) l3 rfl
 have oth: ∀ b ob,b≠s.heap.objs.size->h2.get? b=some ob->((h2.update s.heap.objs.size (Obj.mapSeq (·.push Value.none))).update s.heap.objs.size (Obj.mapSeq (·.pop))).get? b=some ob:=fun b ob hb e=>
  (qah _ _ (Ne.symm hb)).trans ((qah _ _ (Ne.symm hb)).trans e)
 have nfp:s.heap.objs.size∉fp:=fun z=>by
  rcases fpl _ z with z | z
  ·exact qaN _ (z▸lta)
  ·rw [show ({s with heap:=s.heap.push {cls:= .type "list",data:= .seq ([]:List Value).toArray}}:Shared).heap.objs.size=s.heap.objs.size+1 from qaL ..] at z
   exact qaN _ z
 have fin: ∀ (s':Shared) (vs:Array Value) (c:Nat),(∀ b ob,s.heap.get? b=some ob->s'.heap.get? b=some ob)->s'.gens=s.gens->s'.os=s.os->s'.heap.get? s.heap.objs.size=some {cls:= .type "list",dict:=none,data:= .seq vs c,slots:= #[]}->ItemsOf (fun i v=> ∃ e,ord[i]? = some e/\v=e.2) vs es.size->
   wpAny (model prog w) A (load s.heap.objs.size>>=fun o=>match o.data with | .seq xs _=>pure xs.toList | _=>unsupported "internal:collect") Q E s':=fun s' vs c k g1 g2 e it1=>by
  refine qaW (wpAny_load e (qaX (q vs.toList s' es ep tb ?_ ?_ k g1 g2)))
  ·obtain ⟨ob,o1,o2⟩:=hob
   obtain ⟨ob',es',ep',tb',⟨p1,p2,p3⟩,_⟩:=g
   have:=k1 _ _ p1
   rw [o1] at this
   cases this
   exact ⟨ob,p1,o2⟩
  ·have hl:ord.length=es.size:=by simpa using W.perm.length_eq
   have e2:vs.toList=ord.map (·.2):=by
    apply List.ext_getElem?
    intro i
    by_cases hi:i<es.size
    ·have hv0:i<vs.size:=by rw [it1.1];exact hi
     have hv:vs[i]? = some vs[i]:=by simp [hv0]
     obtain ⟨e,e1,e2⟩:=it1.2 i _ hv
     rw [List.getElem?_map,e1,Array.getElem?_toList,hv,e2]
     rfl
    ·rw [List.getElem?_eq_none (by simp [it1.1];omega),List.getElem?_eq_none (by simp [hl];omega)]
   rw [e2]
   exact W.perm.map _
 have Wk:=(W.walks A.in1 hh).toS
 refine qaX ⟨plainId_quiet F.plain_extend_loop _,codeAny_extend_loopS Wk ?_ _ nfp _ es.size 0 _ _ _ rfl (Nat.zero_le _) ?_ l4 (ItemsOf.nil _) fun s' vs c mv e it1=> ?_⟩
 ·exact fits_of_scanBound few
 ·exact (W.walks A.in1 hh).frame 0 h2 _ st0 fun b hb ob e=>oth b ob (fun z=>nfp (z▸hb)) e
 ·refine fin s' vs c (fun b ob e'=>mv.heap b ob ?_ (oth b ob ?_ (k12 b ob e'))) mv.gens mv.os e it1
  ·intro z
   rcases qaP.mp z with z | z
   ·exact qaN _ (z▸qaQ e')
   ·simp only [qaP,qaF,or_false] at z
    have:=qaQ e'
    rw [z] at this
    exact qaN _ (qaw this (qaS (by rw [qaL];exact Nat.le_succ _) lit))
  ·exact fun z=>qaN _ (z▸qaQ e')
end
noncomputable def zpa (x:Int):List Int->List Int
 | []=>[x]
 | y::r=>if x<=y then x::y::r else y::zpa x r
noncomputable def zbF:List Int->List Int
 | []=>[]
 | x::r=>zpa x (zbF r)
theorem ze6 (x:Int): ∀ l:List Int,List.Perm (zpa x l) (x::l)
 | []=> .rfl
 | y::r=>by
  unfold zpa
  split
  ·exact .rfl
  ·exact ((ze6 x r).cons y).trans (.swap x y r)
theorem zn4 {x z:Int} {l:List Int}:z∈zpa x l↔z=x\/z∈l:=by rw [(ze6 x l).mem_iff,qaP]
theorem zlo (x:Int): ∀ l:List Int,l.Pairwise (· <= ·)->(zpa x l).Pairwise (· <= ·)
 | [],_=>by unfold zpa;simp
 | y::r,h=>by
  obtain ⟨h1,h2⟩:=qay.mp h
  unfold zpa
  split
  ·rename_i hxy
   refine qay.mpr ⟨fun z hz=> ?_,h⟩
   rcases qaP.mp hz with e | hz
   ·rw [e];exact hxy
   ·exact Int.le_trans hxy (h1 z hz)
  ·rename_i hxy
   refine qay.mpr ⟨fun z hz=> ?_,zlo x r h2⟩
   rcases zn4.mp hz with e | hz
   ·rw [e];omega
   ·exact h1 z hz
theorem zau: ∀ l:List Int,List.Perm (zbF l) l
 | []=> .rfl
 | x::r=>(ze6 x _).trans ((zau r).cons x)
theorem zdF: ∀ l:List Int,(zbF l).Pairwise (· <= ·)
 | []=> .nil
 | x::r=>zlo x _ (zdF r)
theorem zeT {a b:List Int} (hp:a.Perm b) (h:a.Pairwise (· <= ·)):a=zbF b:=W.ksm_same (hp.trans (zau b).symm) h (zdF b)
noncomputable def zdj (ns:List Int):List Int:=zbF (ns.foldl step_dedup [])
theorem zmx (ns:List Int): ∀ (acc:List Int) (k:Int),(ns.foldl step_dedup acc).any (· == k)=(acc.any (· == k) || ns.any (· == k)):=by
 induction ns with
 | nil=>intro acc k;simp
 | cons x r ih=>
  intro acc k
  rw [List.foldl_cons,ih,step_any]
  simp only [List.any_cons]
  have:(x==k)=decide (k=x):=by
   by_cases h:k=x
   ·subst h;simp
   ·have h': ¬x=k:=fun e=>h e.symm
    simp [h,h']
  rw [this,Bool.or_assoc]
theorem zlk {ns:List Int} {k:Int}:k∈ns.foldl step_dedup []↔k∈ns:=by
 have:=zmx ns [] k
 simp only [List.any_nil,Bool.false_or] at this
 have e: ∀ l:List Int,k∈l↔(l.any fun x=>x==k)=true:=fun l=>by
  rw [List.any_eq_true]
  constructor
  ·exact fun h=>⟨k,h,by simp⟩
  ·rintro ⟨x,h,c⟩
   have c:x=k:=by simpa using c
   rw [<- c]
   exact h
 rw [e,e,this]
theorem zfF (ns:List Int): ∀ acc:List Int,acc.Nodup->(ns.foldl step_dedup acc).Nodup:=by
 induction ns with
 | nil=>intro acc h;exact h
 | cons x r ih=>
  intro acc h
  refine ih _ ?_
  unfold step_dedup
  split
  ·exact h
  ·rename_i hx
   rw [List.nodup_append]
   refine ⟨h,by simp,fun a ha b hb=> ?_⟩
   simp only [List.mem_singleton] at hb
   subst hb
   intro e
   subst e
   exact hx (List.any_eq_true.mpr ⟨a,ha,by simp⟩)
theorem zbi {ns:List Int} {k:Int}:k∈zdj ns↔k∈ns:=by unfold zdj;rw [(zau _).mem_iff,zlk]
theorem zcA (ns:List Int):(zdj ns).Pairwise (· < ·):=by
 have h1:=zdF (ns.foldl step_dedup [])
 have h2:(zdj ns).Nodup:=(zau _).nodup_iff.mpr (zfF ns [] List.nodup_nil)
 exact (List.Pairwise.and h1 h2).imp fun ⟨a,b⟩=>by omega
theorem zfr (ns:List Int):firstMet (fun i=>ns.getD i 0) ns.length=ns.foldl step_dedup []:=by
 unfold firstMet
 congr 1
 apply List.ext_getElem?
 intro i
 by_cases hi:i<ns.length
 ·simp [hi,List.getD]
 ·rw [List.getElem?_eq_none (by simp;omega),List.getElem?_eq_none (by omega)]
theorem ze2: ∀ {fm ms:List Int},fm.Nodup->(∀ k,k∈fm->k∈ms)->ms.length<=fm.length->List.Perm ms fm
 | [],ms,_,_,h=>by
  have:ms=[]:=List.length_eq_zero_iff.mp (by simpa using h)
  subst this
  exact .rfl
 | x::r,ms,nd,hm,h=>by
  obtain ⟨n1,n2⟩:=List.nodup_cons.mp nd
  have hx:=hm x (.head _)
  have p:=List.perm_cons_erase hx
  have hl:=p.length_eq
  rw [qaE] at hl h
  refine p.trans ((ze2 n2 (fun k hk=> ?_) (by omega)).cons x)
  have hne:k≠x:=fun e=>n1 (e▸hk)
  rcases qaP.mp (p.mem_iff.mp (hm k (.tail _ hk))) with e | e
  ·exact absurd e hne
  ·exact e
section
variable {prog:Program} {w:World} {A:Around} {E:Value->Shared->Prop} {s:Shared}
theorem zha {l l':List Value} {ns:List Int} (p:List.Perm l l') (h:IntsAre l' ns): ∃ ms,IntsAre l ms/\List.Perm ms ns:=by
 induction p generalizing ns with
 | nil=>exact ⟨ns,h,.rfl⟩
 | cons x _ ih=>
  cases h with
  | cons n t h=>
   obtain ⟨ms,h1,h2⟩:=ih h
   exact ⟨n::ms,.cons n t h1,h2.cons n⟩
 | swap x y l=>
  cases h with
  | cons n t h=>
   cases h with
   | cons n' t' h=>exact ⟨n'::n::_,.cons n' t' (.cons n t h),.swap _ _ _⟩
 | trans _ _ ih1 ih2=>
  obtain ⟨ms,h1,h2⟩:=ih2 h
  obtain ⟨ms',h3,h4⟩:=ih1 h1
  exact ⟨ms',h3,h4.trans h2⟩
theorem zfW: ∀ {es:List (Int×Value)},ElemsOf (intKind prog w) es-> ∃ ms,IntsAre (es.map (·.2)) ms/\ ∀ k,k∈ms↔ ∃ e∈es,(intKind prog w).is k e.2=true
 | [],_=>⟨[],.nil,fun k=>by simp⟩
 | e::r,h=>by
  obtain ⟨ms,h1,h2⟩:=zfW (ElemsOf.tail h)
  obtain ⟨⟨k,hk,_⟩,_⟩:=ElemsOf.head h
  obtain ⟨t,ht⟩:=Value.isInt_shape (k:=k) (v:=e.2) hk
  refine ⟨k::ms,by rw [qaM,ht];exact .cons k t h1,fun z=> ?_⟩
  rw [qaP,h2 z]
  constructor
  ·rintro (c | ⟨e',c1,c2⟩)
   ·exact ⟨e,.head _,by rw [c];exact hk⟩
   ·exact ⟨e',.tail _ c1,c2⟩
  ·rintro ⟨e',c1,c2⟩
   rcases qaP.mp c1 with c | c
   ·subst c;exact .inl ((intKind prog w).inj _ _ _ c2 hk)
   ·exact .inr ⟨e',c,c2⟩
theorem zfj {x:Value} {Q:Value->Shared->Prop} (hc: ∀ E':Value->Shared->Prop,wpAny (model prog w) A.in1 (collect x) (fun vs s1=> ∃ ns,IntsAre vs ns/\vs.length<64/\ ∀ out e h',IntsAre out (zbF ns)->(∀ b ob,s1.heap.get? b=some ob->h'.get? b=some ob)->
      h'.get? s1.heap.objs.size=some (seqObj "list" out.toArray e)->Q (.ref s1.heap.objs.size) {s1 with heap:=h'}) E' s):wpAny (model prog w) A (call (.builtin "sorted") [x]) Q E s:=by
 refine Calls.call_function_entry kind_sorted plain_sorted entry_sorted (args_sorted1 _) ?_
 unfold Builtin.«sorted»
 refine qaW (m:=checkCount "sorted" 1 1 _) (qaX ?_)
 refine qaW (m:=collect x) (qaZ (hc _) (fun vs s1 ⟨ns,hI,h64,q⟩=> ?_) fun _ _ z=>z)
 have small:vs.length<=sizeLine:=qaS (Nat.le_of_lt h64) (by decide)
 refine qaW (wpAny_newList ?_ small)
 have at0:(s1.heap.push {cls:= .type "list",data:= .seq vs.toArray}).get? s1.heap.objs.size=some (seqObj "list" vs.toArray 0):=qar _ rfl
 refine qaW (qaO (wpAny_call_entry slot_list_sort ⟨_,at0,rfl⟩ entry_list_sort (list_sort_tree (s:={s1 with heap:=s1.heap.push {cls:= .type "list",data:= .seq vs.toArray}}) at0 hI h64 fun out ns' a1 a2 a3=>⟨_,rfl,?_⟩) (args_list_sort _)))
 obtain ⟨e,he⟩:=sortedHeap_at (out:=out) at0
 refine qaX ⟨_,rfl,q out.toList e _ ?_ (fun b ob eb=> ?_) (by simpa using he)⟩
 ·rw [<- zeT a2 a3];exact a1
 ·have lt:=qaQ eb
  rw [sortedHeap_old (qaR lt) (by rw [qaL];exact Nat.lt_succ_of_lt lt)]
  exact qag _ eb
theorem zim {l:Addr} {vs:List Value} {Q:List Value->Shared->Prop} (hl:s.heap.IsTuple l vs.toArray) (small:vs.length<=sizeLine)
  (q: ∀ h',(∀ b ob,s.heap.get? b=some ob->h'.get? b=some ob)->Q vs {s with heap:=h'}):wpAny (model prog w) A (collect (.ref l)) Q E s:=by
 obtain ⟨ob,ho,hc,n,hd⟩:=id hl
 unfold collect
 refine qaW (wpAny_runValue (codeAny_builtin F.entry_proto_collect ?_))
 rw [qap F.plain_proto_collect _]
 show wpAny _ _ (newList []>>=fun d=>again (.builtin "list.__iadd__" ⟨[d,.ref l],[]⟩)) _ _ _
 refine qaW (qaC (qaX ⟨plainId_quiet F.plain_list_iadd _,codeAny_builtin F.entry_list_iadd ?_⟩))
 rw [qap F.plain_list_iadd _]
 show wpAny _ _ (Builtin.List.listExtendWith (.ref s.heap.objs.size) (.ref l) (.ref s.heap.objs.size)) _ _ _
 unfold Builtin.List.listExtendWith
 have ho':(s.heap.push {cls:= .type "list",data:= .seq ([]:List Value).toArray}).get? l=some ob:=qag _ ho
 have d0:(s.heap.push {cls:= .type "list",data:= .seq ([]:List Value).toArray}).get? s.heap.objs.size=some (seqObj "list" #[] 0):=qar _ rfl
 refine qaW (wpAny_typeOf (T:="tuple") ⟨ob,ho',hc⟩ ?_)
 rw [qa4 (by simp)]
 refine qaW (listItems_at ho' hd ?_)
 refine qaW (listItems_at d0 rfl ?_)
 rw [qa5 (by simp)]
 refine qaW (listUpdate_at (xs:= #[]) (n:=0) d0 rfl ?_ (Nat.zero_le _) (by show (#[]++vs.toArray).size<=sizeLine+1;simp;omega))
 refine qaX ?_
 show wpAny _ _ (load s.heap.objs.size>>=fun o=>match o.data with | .seq xs _=>pure xs.toList | _=>unsupported "internal:collect") _ _ _
 refine qaW (wpAny_load (get?_update_seq d0 _) ?_)
 have z:=q ((s.heap.push {cls:= .type "list",data:= .seq ([]:List Value).toArray}).update s.heap.objs.size (Obj.mapSeq fun x=>x++vs.toArray)) fun b ob e=>(qah _ _ (fun z=>qaN _ (z▸qaQ e))).trans (qag _ e)
 show wpAny _ _ (pure ((#[]:Array Value)++vs.toArray).toList) _ _ _
 rw [show ((#[]:Array Value)++vs.toArray).toList=vs by simp]
 exact qaX z
end
end LT
namespace L2
open PySem PySem.Spec PyProof.Rows LT
section
variable {X:Cx}
noncomputable def zkK (P:Program) (w:World) (p:Addr) (ns:List Int):HO:= .ext fun h=>zgZ P w h p (fun z=>(ns.foldl step_dedup []).any (· == z)) (ns.foldl step_dedup []).length
theorem zld (ns:List Int):(ns.foldl step_dedup []).length<=ns.length:=by
 rw [<- zfr]
 exact firstMet_length_le _ _
theorem zmB (hc:X.calm=true):zaV X (.type "set") (fun xs H Q=> ∃ (a:Addr) (ns:List Int),xs=[.ref a]/\(SqL X.K H a (ns.map V.int)\/SqT X.K H a (ns.map V.int))/\ns.length<4000/\ ∀ p,H p=none->Q (.ref p) (upd H p (zkK X.prog X.w p ns))):=by
 intro pins s σ H xs us Q I r h
 obtain ⟨a,ns,rfl,hq,hl,q⟩:=h
 obtain ⟨u,rfl,rx⟩:=zeP r
 cases rx
 have fin: ∀ (items:Array Value),items.size=ns.length-> ∀ (h':Heap) (tk:Nat),zgZ X.prog X.w h' s.heap.objs.size (fun z=>(firstMet (fun i=>ns.getD i 0) items.size).any (· == z)) (firstMet (fun i=>ns.getD i 0) items.size).length->(∀ b ob,s.heap.get? b=some ob->h'.get? b=some ob)->
   EP X pins σ Q (.ref s.heap.objs.size) {s with heap:=h',toks:=tk}:=fun items hz h' tk g k=>by
  rw [hz,zfr] at g
  refine ⟨.ref s.heap.objs.size,_,I.laid (t':=tk) (o:=zkK X.prog X.w s.heap.objs.size ns) k (qaV _) ⟨g,?_,fun h1 h2 z e=>z.move e (fun _=>rfl) rfl⟩,rfl,q _ (I.hok.fresh (qaV _))⟩
  obtain ⟨ob,es,ep,tb,⟨h1,_⟩,_⟩:=g
  exact ⟨ob,h1⟩
 have room:ns.length+1<scanBound:=by
  have:scanBound=4096:=rfl
  omega
 rcases hq with hq | hq
 ·obtain ⟨its,r',pl,_⟩:=I.list hq
  have hz:its.toArray.size=ns.length:=by rw [qaA, <-r'.length,qaH]
  exact zv8 (I.ok.hd hc) (.inl ⟨rfl,pl.isList⟩) (by simpa using zch r') (by rw [hz];exact room) fun h' tk g k=>fin _ hz h' tk g k
 ·obtain ⟨its,r',pl,_⟩:=I.tuple hq
  have hz:its.toArray.size=ns.length:=by rw [qaA, <-r'.length,qaH]
  exact zv8 (I.ok.hd hc) (.inr ⟨rfl,pl⟩) (by simpa using zch r') (by rw [hz];exact room) fun h' tk g k=>fin _ hz h' tk g k
theorem Inv.grown {pins:List (Addr×Obj)} {σ:St} {H:Hp} {s s':Shared} (I:Inv X pins σ H s) (ho:s'.os=s.os) (hg:s'.gens=s.gens) (k: ∀ b ob,s.heap.get? b=some ob->s'.heap.get? b=some ob):Inv X pins σ H s':=
 I.call' (ch:=[]) ho (Un.kept k) (I.hok.kept k) (by rw [hg];exact I.bare) fun b z=>nomatch z
theorem zn9 {out:List Value} {ms:List Int} (h:IntsAre out ms):zba (ms.map V.int) out:=ze9 h
theorem zeK (hc:X.calm=true):zaV X (.builtin "sorted") (fun xs H Q=> ∃ (p:Addr) (ns:List Int),xs=[.ref p]/\((((ns.foldl step_dedup []).length<64/\H p=some (zkK X.prog X.w p ns))/\ ∀ l,H l=none->Q (.ref l) (upd H l (.lst ((zdj ns).map V.int))))\/
    ((ns.length<64/\(SqL X.K H p (ns.map V.int)\/SqT X.K H p (ns.map V.int)))/\ ∀ l,H l=none->Q (.ref l) (upd H l (.lst ((zbF ns).map V.int)))))):=by
 intro pins s σ H xs us Q I r h
 obtain ⟨p,ns,rfl,h⟩:=h
 obtain ⟨u,rfl,rx⟩:=zeP r
 cases rx
 have fin: ∀ (s1:Shared) (ms:List Int),ms.length<=64->(∀ b ob,s.heap.get? b=some ob->s1.heap.get? b=some ob)->s1.gens=s.gens->s1.os=s.os->(∀ l,H l=none->Q (.ref l) (upd H l (.lst ((zbF ms).map V.int))))-> ∀ out e h',IntsAre out (zbF ms)->(∀ b ob,s1.heap.get? b=some ob->h'.get? b=some ob)->
   h'.get? s1.heap.objs.size=some (seqObj "list" out.toArray e)->EP X pins σ Q (.ref s1.heap.objs.size) {s1 with heap:=h'}:=fun s1 ms hm k g1 o1 q out e h' hi k2 e2=>by
  have I1:=I.grown o1 g1 k
  refine ⟨.ref s1.heap.objs.size,_,I1.laid (t':=s1.toks) (o:= .lst ((zbF ms).map V.int)) k2 (qaV _) ⟨?_,out,e,zn9 hi,e2⟩,rfl,q _ (I1.hok.fresh (qaV _))⟩
  rw [qaH,(zau ms).length_eq]
  exact qaS hm (by decide)
 rcases h with ⟨⟨hl,hs⟩,q⟩ | ⟨⟨hl,hq⟩,q⟩
 ·obtain ⟨g,_⟩:=(show zbV X.prog X.w H s.heap p (zkK X.prog X.w p ns) from I.hok p _ hs)
  refine zfj fun E'=>zn6 (show X.A.in1.handled=none from I.ok.hd hc) g fun vs s1 es ep tb hob pv k g1 o1=> ?_
  obtain ⟨ob',es',ep',tb',⟨a1,a2,a3⟩,h4,h5,⟨h6,h7,h8⟩,h9⟩:=g
  obtain ⟨ob,b1,b2,b3⟩:=hob
  rw [a1] at b1
  cases b1
  rw [a3] at b3
  cases b3
  obtain ⟨ms,m1,m2⟩:=zfW h4
  obtain ⟨ms',m3,m4⟩:=zha pv m1
  have len:ms.length=(ns.foldl step_dedup []).length:=by
   rw [<- m1.length,qaH,qas]
   exact h8
  have pm:List.Perm ms (ns.foldl step_dedup []):=ze2 (zfF ns [] List.nodup_nil) (fun z hz=>by
    rw [m2 z, <-h5 z]
    exact List.any_eq_true.mpr ⟨z,hz,by simp⟩) (Nat.le_of_eq len)
  have es1:zbF ms'=zdj ns:=by
   unfold zdj
   exact zeT ((zau ms').trans (m4.trans pm)) (zdF ms')
  have lm:ms'.length<64:=by
   rw [m4.length_eq,len]
   exact hl
  refine ⟨ms',m3,by rw [m3.length];omega,fun out e h' hi k2 e2=> ?_⟩
  exact fin s1 ms' (by omega) k g1 o1 (by rw [es1];exact q) out e h' hi k2 e2
 ·rcases hq with hq | hq
  ·obtain ⟨its,r',pl,hz⟩:=I.list hq
   have hi:=zch r'
   have lz:its.length=ns.length:=by rw [<- r'.length,qaH]
   refine zfj fun E'=>collect_list pl.isList ?_ (by rw [lz, <-qaH (f:=V.int)];exact hz)
   refine ⟨ns,hi,by omega,fun out e h' hi2 k2 e2=> ?_⟩
   refine fin {s with heap:=(s.heap.push (seqObj "list" #[] 0)).update s.heap.objs.size (Obj.mapSeq fun x=>x++its.toArray)} ns (by omega) (fun b ob eb=> ?_) rfl rfl q out e h' hi2 k2 e2
   exact (qah _ _ (fun z=>qaN _ (z▸qaQ eb))).trans (qag _ eb)
  ·obtain ⟨its,r',pl,hz⟩:=I.tuple hq
   have hi:=zch r'
   have lz:its.length=ns.length:=by rw [<- r'.length,qaH]
   refine zfj fun E'=>zim pl (by rw [lz, <-qaH (f:=V.int)];exact hz) fun h1 k1=> ?_
   refine ⟨ns,hi,by omega,fun out e h' hi2 k2 e2=> ?_⟩
   exact fin {s with heap:=h1} ns (by omega) k1 rfl rfl q out e h' hi2 k2 e2
theorem zmR (hc:X.calm=true):zaV X (.builtin "all") (fun xs H Q=> ∃ (a:Addr) (bs:List Bool),xs=[.ref a]/\SqL X.K H a (bs.map V.bl)/\Q (.bl (bs.all id)) H):=by
 intro pins s σ H xs us Q I r h
 obtain ⟨a,bs,rfl,hq,q⟩:=h
 obtain ⟨u,rfl,rx⟩:=zeP r
 cases rx
 obtain ⟨its,r',pl,hz⟩:=I.list hq
 have hlt:a<s.heap.objs.size:=by obtain ⟨_,e,_⟩:=pl.isList;exact qaQ e
 refine call_all_walk (wpAny_pyIter_list pl.isList ?_)
 refine ⟨s.heap.objs.size,[s.heap.objs.size,a],[s.heap.objs.size],its.toArray.size,_,_,fun i=>(bs[i]?).getD true,rfl,Walks.list (A:=X.A.in1) (I.ok.hd hc) _ a (qaR hlt) its.toArray,⟨⟨_,qar _ rfl,rfl,rfl⟩,pl.isList.push _⟩,fun i v s' Q' E' hP hQ=> ?_,fun h' tk hk=> ?_⟩
 ·have hv:its[i]? = some v:=by simpa using hP
  obtain ⟨hi,_⟩:=qac.mp hv
  have hlen:bs.length=its.length:=by rw [<- r'.length,qaH]
  have hb:(bs.map V.bl)[i]? = some (V.bl bs[i]):=by simp [hlen,hi]
  obtain ⟨u',hu,ru⟩:=r'.get hb
  rw [hv] at hu
  cases hu
  cases ru
  have e:(bs[i]?).getD true=bs[i]:=by simp [hlen,hi]
  have hQ:Q' ((bs[i]?).getD true) s':=hQ
  rw [e] at hQ
  exact wpAny_truthy_bool hQ
 ·have e:((List.range its.toArray.size).all fun i=>(bs[i]?).getD true)=bs.all id:=by
   have hlen:bs.length=its.length:=by rw [<- r'.length,qaH]
   rw [qaA, <-hlen]
   rw [Bool.eq_iff_iff,List.all_eq_true,List.all_eq_true]
   constructor
   ·intro h x hx
    obtain ⟨i,hi⟩:=List.mem_iff_getElem?.mp hx
    have hl:=(qac.mp hi).1
    have:=h i (by simpa using hl)
    rw [hi] at this
    exact this
   ·intro h i hi
    have hl:i<bs.length:=by simpa using hi
    have e1:bs[i]? = some bs[i]:=by simp [hl]
    rw [e1]
    exact h _ (List.getElem_mem hl)
  rw [e]
  refine ⟨.bl _,H,I.grown (s':={s with heap:=h',toks:=tk}) rfl rfl fun b ob eb=>hk b ob (fun z=> ?_) (qag _ eb),rfl,q⟩
  simp only [qaP,qaF,or_false] at z
  exact qaN _ (z▸qaQ eb)
theorem zlQ (hc:X.calm=true):zaV X (.builtin "sum") (fun xs H Q=> ∃ (a:Addr) (ns:List Int),xs=[.ref a]/\SqL X.K H a (ns.map V.int)/\Q (.int ns.sum) H):=by
 intro pins s σ H xs us Q I r h
 obtain ⟨a,ns,rfl,hq,q⟩:=h
 obtain ⟨u,rfl,rx⟩:=zeP r
 cases rx
 obtain ⟨its,r',pl,hz⟩:=I.list hq
 have hi:=zch r'
 obtain ⟨ys,hy⟩:=hi.allInts.items
 have hl:s.heap.IsList a (intItems ys):=hy▸pl.isList
 refine sum_intListG (I.ok.hd hc) hl fun h' tk t' hk=> ?_
 have e1:ns=ys.toList.map (·.1):=by
  rw [<- nums_intItems, <-hy]
  exact (show numsOf its.toArray.toList=ns from hi.numsOf).symm
 have e2:preSum (numAt ys) ys.size=ns.sum:=by rw [preSum_eq,List.take_of_length_le (by simp),e1]
 rw [e2]
 exact ⟨.int ns.sum,H,I.grown (s':={s with heap:=h',toks:=tk}) rfl rfl hk,⟨t',rfl⟩,q⟩
end
end L2
namespace L3
open PySem PySem.Spec PyProof.Rows L2 LT
section
variable {X:Cx} {E:XE} {e:Expr} {es:List Expr} {pos p:Pos} {fs:Sd->M (List D)} {x:Str}
theorem zoe {id:String} {F:List D->M D} (hc:zaV X (.builtin id) (ziL X.K E F)) (hg:Gl X x) (hm:X.mg x=none) (hv:bootBuiltins x=some (.builtin id)) (ha:SA X E (e::es) fs) (hn:x≠"__name__":=by decide) (hdb:(x==("__debug__":Str))=false:=by decide)
  (he:starEach (e::es) X.env=(false,eval e X.env)::starEach es X.env:=by rfl) (hpl:(backTo pos (starEach es X.env)).any (·.1)=false:=by rfl):SE X E (.Call (.Name x p) (e::es) [] pos) (fun sd=>do let ds<-fs sd;F ds):=
 PE.imp (zgO hc hg hm hv ha hn hdb he hpl) fun σ H Q ⟨ι,h,sd,L,hh,q⟩=>⟨ι,h,sd,L,hh,Fin.bind q fun ds h1 ι1 H1 e1 s1 hr1 q1 vs rv=>⟨ι1,h1,ds,rv,hr1,q1⟩⟩
theorem zkW {T:String} {F:List D->M D} (hc:zaV X (.type T) (ziL X.K E F)) (hg:Gl X x) (hm:X.mg x=none) (hv:bootBuiltins x=some (.type T)) (ha:SA X E (e::es) fs) (hn:x≠"__name__":=by decide) (hdb:(x==("__debug__":Str))=false:=by decide)
  (he:starEach (e::es) X.env=(false,eval e X.env)::starEach es X.env:=by rfl) (hpl:(backTo pos (starEach es X.env)).any (·.1)=false:=by rfl):SE X E (.Call (.Name x p) (e::es) [] pos) (fun sd=>do let ds<-fs sd;F ds):=
 PE.imp (zcR hc hg hm hv ha hn hdb he hpl) fun σ H Q ⟨ι,h,sd,L,hh,q⟩=>⟨ι,h,sd,L,hh,Fin.bind q fun ds h1 ι1 H1 e1 s1 hr1 q1 vs rv=>⟨ι1,h1,ds,rv,hr1,q1⟩⟩
noncomputable def zm1:D->M (List D)
 | .tup ds=>pure ds
 | .lst ds=>pure ds
 | .scr ds=>pure ds
 | .cel n=>zao n
 | _=>M.bad
theorem zdE {K:W.Frag} {ι:Io} {H:Hp} {h:Hh} {d:D} {v:V} {α:Type} {f:List D->M α} {P:α->Io->Hp->Prop} (hr:zbm K ι H h) (r:Rel K ι H d v) (q:Fin K E ι H ((do let ds<-zm1 d;f ds) h) P):
  ∃ a vs ds,v= .ref a/\((SqL K H a vs/\ ∀ ts,d≠ .tup ts)\/(SqT K H a vs/\d= .tup ds))/\zav K ι H ds vs/\Fin K E ι H (f ds h) P:=by
 cases d with
 | tup ds=>
  obtain ⟨a,vs,e,h1,h2⟩:=zcO r
  exact ⟨a,vs,ds,e,.inr ⟨h1,rfl⟩,h2,q⟩
 | lst ds=>
  obtain ⟨a,vs,e,h1,h2⟩:=zeC r
  exact ⟨a,vs,ds,e,.inl ⟨h1,fun _ z=>by cases z⟩,h2,q⟩
 | scr ds=>
  obtain ⟨a,vs,e,h1,h2⟩:=zlv r
  exact ⟨a,vs,ds,e,.inl ⟨h1,fun _ z=>by cases z⟩,h2,q⟩
 | cel n=>
  have q':Fin K E ι H (M.bind (zao n) f h) P:=q
  unfold M.bind at q'
  cases z:zao n h with
  | bad=>rw [z] at q';exact qa0 q'
  | exc c h'=>unfold zao at z;split at z<;>cases z
  | ok ds h'=>
   rw [z] at q'
   obtain ⟨rfl,z2⟩:=zcU z
   obtain ⟨a,vs,e,hn,hH,rl⟩:=hr.read r z2
   exact ⟨a,vs,ds,e,.inl ⟨SqL.of hH,fun _ z=>by cases z⟩,rl,q'⟩
 | _=>exact qa0 q
theorem zpL {K:W.Frag} {H:Hp} {a:Addr} {vs:List V} {d:D} {ds:List D} (h:(SqL K H a vs/\ ∀ ts,d≠ .tup ts)\/(SqT K H a vs/\d= .tup ds)):SqL K H a vs\/SqT K H a vs:=h.imp And.left And.left
theorem zvO {K:W.Frag} {ι:Io} {H:Hp} {d:D} {xs:List V} (h:zav K ι H [d] xs): ∃ v,xs=[v]/\Rel K ι H d v:=by
 simp only [zav] at h
 obtain ⟨v,r,rfl,h1,rfl⟩:=h
 exact ⟨v,rfl,h1⟩
noncomputable def zn0 {α:Type} (f:D->M α):List D->M α
 | [d]=>f d
 | _=>M.bad
theorem zc8 {α:Type} {K:W.Frag} {ι:Io} {H:Hp} {h:Hh} {f:D->M α} {ds:List D} {xs:List V} {P:α->Io->Hp->Prop} (rl:zav K ι H ds xs) (q:Fin K E ι H (zn0 f ds h) P): ∃ d v,xs=[v]/\Rel K ι H d v/\Fin K E ι H (f d h) P:=by
 match ds,rl,q with
 | [d],rl,q=>
  obtain ⟨v,e,r⟩:=zvO rl
  exact ⟨d,v,e,r,q⟩
 | [],_,q=>exact qa0 q
 | _::_::_,_,q=>exact qa0 q
noncomputable def ze1:List D->M D:=zn0 fun d=>do let ds<-zm1 d;pure (.int ds.length)
theorem zaN:zaV X (.builtin "len") (ziL X.K E ze1):=by
 refine zaV.imp zg3 fun xs H Q ⟨ι,h,ds,rl,hr,q⟩=> ?_
 obtain ⟨d,v,e,r,q⟩:=zc8 rl q
 obtain ⟨a,vs,ds',e',hs,rl',q⟩:=zdE hr r q
 exact ⟨a,vs,by rw [e,e'],zpL hs,Fin.out hr q _ (by rw [rl'.length];simp [Rel])⟩
noncomputable def zcu:List D->M D:=zn0 fun d=>do let ds<-zm1 d;pure (.tup ds)
theorem zaT:zaV X (.type "tuple") (ziL X.K E zcu):=by
 refine zaV.imp zgc fun xs H Q ⟨ι,h,ds,rl,hr,q⟩=> ?_
 obtain ⟨d,v,e,r,q⟩:=zc8 rl q
 obtain ⟨a,vs,ds',e',hs,rl',q⟩:=zdE hr r q
 refine ⟨a,vs,by rw [e,e'],?_⟩
 rcases hs with ⟨hs,_⟩ | ⟨hs,hd⟩
 ·exact .inl ⟨hs,fun l hl=>ztH hr rl' q hl⟩
 ·exact .inr ⟨hs,Fin.out hr q _ (by rw [<- e', <-hd];exact r)⟩
noncomputable def zvp:List D->M D:=zn0 fun d=>do let ds<-zm1 d;pure (.lst ds)
noncomputable def two2 (g:Int->Int->Int):List D->M D
 | [.int i,.int j]=>pure (.int (g i j))
 | _=>M.bad
theorem two2_inv {K:W.Frag} {ι:Io} {H:Hp} {h:Hh} {g:Int->Int->Int} {ds:List D} {xs:List V} {P:D->Io->Hp->Prop} (hr:zbm K ι H h) (rl:zav K ι H ds xs) (q:Fin K E ι H (two2 g ds h) P): ∃ i j,xs=[.int i,.int j]/\P (.int (g i j)) ι H:=by
 unfold two2 at q
 split at q
 ·simp only [zav,Rel] at rl
  obtain ⟨v,r,rfl,rfl,v',r',rfl,rfl,rfl⟩:=rl
  exact ⟨_,_,rfl,Fin.out hr q⟩
 ·exact qa0 q
noncomputable def zqG:=two2 fun i j=>if j>i then j else i
noncomputable def zqh:=two2 fun i j=>if j<i then j else i
theorem zkn (hc:X.calm=true):zaV X (.builtin "max") (ziL X.K E zqG):=by
 refine zaV.imp (zkM hc) fun xs H Q ⟨ι,h,ds,rl,hr,q⟩=> ?_
 obtain ⟨i,j,e,q⟩:=two2_inv hr rl q
 exact ⟨i,j,e,q _ (by simp [Rel])⟩
theorem zjW (hc:X.calm=true):zaV X (.builtin "min") (ziL X.K E zqh):=by
 refine zaV.imp (zlx hc) fun xs H Q ⟨ι,h,ds,rl,hr,q⟩=> ?_
 obtain ⟨i,j,e,q⟩:=two2_inv hr rl q
 exact ⟨i,j,e,q _ (by simp [Rel])⟩
noncomputable def zoA:List D->Option (List Bool)
 | []=>some []
 | .bl b::r=>(zoA r).map (b:: ·)
 | _=>none
noncomputable def zcS:List D->Option (List Int)
 | []=>some []
 | .int i::r=>(zcS r).map (i:: ·)
 | _=>none
theorem zjl {K:W.Frag} {ι:Io} {H:Hp}: ∀ {ds:List D} {vs:List V} {bs:List Bool},zav K ι H ds vs->zoA ds=some bs->vs=bs.map V.bl
 | [],_,_,h,e=>by simp only [zav] at h;subst h;cases e;rfl
 | d::ds,_,bs,h,e=>by
  simp only [zav] at h
  obtain ⟨v,r,rfl,h1,h2⟩:=h
  cases d with
  | bl b=>
   unfold zoA at e
   cases z:zoA ds with
   | none=>rw [z] at e;cases e
   | some cs=>
    rw [z] at e
    cases e
    simp only [Rel] at h1
    rw [h1,zjl h2 z]
    rfl
  | _=>cases e
theorem zcV {K:W.Frag} {ι:Io} {H:Hp}: ∀ {ds:List D} {vs:List V} {bs:List Int},zav K ι H ds vs->zcS ds=some bs->vs=bs.map V.int
 | [],_,_,h,e=>by simp only [zav] at h;subst h;cases e;rfl
 | d::ds,_,bs,h,e=>by
  simp only [zav] at h
  obtain ⟨v,r,rfl,h1,h2⟩:=h
  cases d with
  | int b=>
   unfold zcS at e
   cases z:zcS ds with
   | none=>rw [z] at e;cases e
   | some cs=>
    rw [z] at e
    cases e
    simp only [Rel] at h1
    rw [h1,zcV h2 z]
    rfl
  | _=>cases e
theorem Fin.ofOb {α β:Type} {K:W.Frag} {ι:Io} {H:Hp} {h:Hh} {o:Option α} {f:α->M β} {P:β->Io->Hp->Prop} (q:Fin K E ι H ((do let a<-L3.ofO o;f a) h) P): ∃ a,o=some a/\Fin K E ι H (f a h) P:=by
 cases o with
 | none=>exact qa0 q
 | some a=>exact ⟨a,rfl,q⟩
noncomputable def zuf:List D->M D:=zn0 fun d=>match d with
 | .lst ds=>do let bs<-ofO (zoA ds);pure (.bl (bs.all id))
 | _=>M.bad
theorem zhk (hc:X.calm=true):zaV X (.builtin "all") (ziL X.K E zuf):=by
 refine zaV.imp (zmR hc) fun xs H Q ⟨ι,h,ds,rl,hr,q⟩=> ?_
 obtain ⟨d,v,e,r,q⟩:=zc8 rl q
 cases d with
 | lst ds=>
  obtain ⟨a,vs,e',h1,h2⟩:=zeC r
  obtain ⟨bs,eb,q⟩:=Fin.ofOb q
  have:=zjl h2 eb
  subst this
  exact ⟨a,bs,by rw [e,e'],h1,Fin.out hr q _ (by simp [Rel])⟩
 | _=>exact qa0 q
noncomputable def zuD:List D->M D:=zn0 fun d=>match d with
 | .lst ds=>do let bs<-ofO (zcS ds);pure (.int bs.sum)
 | _=>M.bad
theorem zmr (hc:X.calm=true):zaV X (.builtin "sum") (ziL X.K E zuD):=by
 refine zaV.imp (zlQ hc) fun xs H Q ⟨ι,h,ds,rl,hr,q⟩=> ?_
 obtain ⟨d,v,e,r,q⟩:=zc8 rl q
 cases d with
 | lst ds=>
  obtain ⟨a,vs,e',h1,h2⟩:=zeC r
  obtain ⟨bs,eb,q⟩:=Fin.ofOb q
  have:=zcV h2 eb
  subst this
  exact ⟨a,bs,by rw [e,e'],h1,Fin.out hr q _ (by simp [Rel])⟩
 | _=>exact qa0 q
noncomputable def zc3:List D->M D:=zn0 fun d=>do
 let ds<-zm1 d
 let ns<-ofO (zcS ds)
 if ns.length<64 then pure (.lst ((zbF ns).map D.int)) else M.bad
theorem zb3 (hc:X.calm=true):zaV X (.builtin "sorted") (ziL X.K E zc3):=by
 refine zaV.imp (zeK hc) fun xs H Q ⟨ι,h,ds,rl,hr,q⟩=> ?_
 obtain ⟨d,v,e,r,q⟩:=zc8 rl q
 obtain ⟨a,vs,ds',e',hs,rl',q⟩:=zdE hr r q
 obtain ⟨ns,en,q⟩:=Fin.ofOb q
 have:=zcV rl' en
 subst this
 obtain ⟨hl,q⟩:=Fin.guard q
 exact ⟨a,ns,by rw [e,e'],.inr ⟨⟨hl,zpL hs⟩,fun l hl=>zqd hr (zcT.mpr rfl) q hl⟩⟩
noncomputable def zce (d:D):M D:=do
 let ds<-zm1 d
 let ns<-ofO (zcS ds)
 if (ns.foldl step_dedup []).length<64/\ns.length<4000 then pure (.lst ((zdj ns).map D.int)) else M.bad
theorem zkx {p1 p2 pos2:Pos} {f:Sd->M D} (hc:X.calm=true) (hg1:Gl X "sorted") (hm1:X.mg "sorted"=none) (hg2:Gl X "set") (hm2:X.mg "set"=none) (he:SE X E e f)
  (h1:starEach [.Call (.Name "set" p2) [e] [] pos2] X.env=[(false,eval (.Call (.Name "set" p2) [e] [] pos2) X.env)]:=by rfl) (h2:starEach [e] X.env=[(false,eval e X.env)]:=by rfl):
  SE X E (.Call (.Name "sorted" p1) [.Call (.Name "set" p2) [e] [] pos2] [] pos) (fun sd=>do let d<-f sd;zce d):=by
 refine PE.imp (zgO (zeK hc) hg1 hm1 boot_sorted (zbZ (zcR (zmB hc) hg2 hm2 PyProof.Rows.boot_set (zbZ he zdh h2) (he:=h2)) zdh h1) (he:=h1)) fun σ H Q ⟨ι,h,sd,L,hh,q⟩=>⟨ι,h,sd,L,hh,Fin.bind q fun d h1 ι1 H1 e1 s1 hr1 q1 v rv=> ?_⟩
 obtain ⟨a,vs,ds',e',hs,rl',q2⟩:=zdE hr1 rv q1
 obtain ⟨ns,en,q3⟩:=Fin.ofOb q2
 have:=zcV rl' en
 subst this
 obtain ⟨hl,q4⟩:=Fin.guard q3
 refine ⟨a,ns,by rw [e'],zpL hs,hl.2,fun p hp=> ?_⟩
 have hr2:zbm X.K ι1 (upd H1 p (zkK X.prog X.w p ns)) h1:=hr1.laid hp
 exact ⟨p,ns,rfl,.inl ⟨⟨hl.1,zbd⟩,fun l hl'=>zqd hr2 (zcT.mpr rfl) (Fin.step (hr1.laidS hp) q4) hl'⟩⟩
end
noncomputable def tyD:D->M String
 | .non=>pure "NoneType"
 | .bl _=>pure "bool"
 | .int _=>pure "int"
 | .str _=>pure "str"
 | .tup _=>pure "tuple"
 | .lst _=>pure "list"
 | .dct=>pure "dict"
 | .cel n=>do let _<-zao n;pure "list"
 | _=>M.bad
noncomputable def zmt:List String:=["NoneType","bool","int","str","tuple","list","dict"]
noncomputable def isB (T t:String):Bool:=t==T || (t=="bool" && T=="int")
noncomputable def zkg (T:String) (d:D):M D:=do let t<-tyD d;pure (.bl (isB T t))
def zj7 (T:String):Prop:= ∀ (K:W.Frag), ∀ t∈zmt,W.kitOne K (.type t) (.type T)=some (isB T t)
noncomputable def zvX (t T:String):Option Bool:=if ((Value.type t)==(Value.type T))=true then some true else if W.kitMeta T=true then (fastBuiltinMro t).map (·.contains (Value.type T)) else none
theorem zgA {T:String} (h:(zmt.all fun t=>zvX t T==some (isB T t))=true):zj7 T:=fun K t ht=>by
 have:=List.all_eq_true.mp h t ht
 have e:W.kitOne K (.type t) (.type T)=zvX t T:=rfl
 rw [e]
 exact beq_iff_eq.mp this
theorem zqy:zj7 "int":=zgA (by decide +kernel)
theorem znB:zj7 "bool":=zgA (by decide +kernel)
theorem zfG:zj7 "tuple":=zgA (by decide +kernel)
section
variable {X:Cx} {E:XE} {α:Type}
theorem zri {K:W.Frag} {ι:Io} {H:Hp} {h:Hh} {d:D} {v:V} {f:String->M α} {P:α->Io->Hp->Prop} (hr:zbm K ι H h) (r:Rel K ι H d v) (q:Fin K E ι H ((do let t<-tyD d;f t) h) P):
  ∃ t,t∈zmt/\zjk K H v (.type t)/\Fin K E ι H (f t h) P:=by
 cases d with
 | non=>simp only [Rel] at r;subst r;exact ⟨_,by decide,.non,q⟩
 | bl b=>simp only [Rel] at r;subst r;exact ⟨_,by decide,.bl b,q⟩
 | int b=>simp only [Rel] at r;subst r;exact ⟨_,by decide,.int b,q⟩
 | str b=>simp only [Rel] at r;subst r;exact ⟨_,by decide,.str b,q⟩
 | tup ds=>
  simp only [Rel] at r
  obtain ⟨a,vs,e,h1,h2⟩:=r
  subst e
  exact ⟨_,by decide,.tup h1.1,q⟩
 | lst ds=>
  simp only [Rel] at r
  obtain ⟨a,vs,e,h1,h2⟩:=r
  subst e
  exact ⟨_,by decide,.lst h1.1,q⟩
 | dct=>
  simp only [Rel] at r
  obtain ⟨a,e,h1,h2⟩:=r
  subst e
  exact ⟨_,by decide,.dK h1,q⟩
 | cel n=>
  have q':Fin K E ι H (M.bind (zao n) (fun _=>f "list") h) P:=by
   have e:(do let t<-tyD (.cel n);f t:M α)=(zao n>>=fun _=>f "list"):=by
    show ((zao n>>=fun _=>pure "list")>>=f)=_
    simp only [bind_assoc,pure_bind]
   rw [e] at q
   exact q
  unfold M.bind at q'
  cases z:zao n h with
  | bad=>rw [z] at q';exact qa0 q'
  | exc c h'=>unfold zao at z;split at z<;>cases z
  | ok ds h'=>
   rw [z] at q'
   obtain ⟨rfl,z2⟩:=zcU z
   obtain ⟨a,vs,e,hn,hH,rl⟩:=hr.read r z2
   subst e
   exact ⟨_,by decide,.lst hH,q'⟩
 | _=>exact qa0 q
theorem zn1:zaV X (.builtin "isinstance") (fun xs H Q=> ∃ x t T b,xs=[x,.ty T]/\zjk X.K H x t/\W.kitOne X.K t (.type T)=some b/\Q (.bl b) H):=by
 intro pins s σ H xs us Q I r h
 obtain ⟨x,t,T,b,rfl,ty,e,q⟩:=h
 cases r with
 | cons r1 r2=>
  cases r2 with
  | cons r3 r4=>
   cases r4
   cases r3
   exact zlF I r1 ty e fun tk=>⟨.bl b,H,I.tok tk,rfl,q⟩
theorem zrD {a:Expr} {x:Str} {T:String} {p1 p2 pos:Pos} {fa:Sd->M D} (hk:zj7 T) (hg:Gl X "isinstance") (hm:X.mg "isinstance"=none) (hgT:Gl X x) (hmT:X.mg x=none) (hvT:bootBuiltins x=some (.type T)) (ha:SE X E a fa)
  (hn:x≠"__name__":=by decide) (hd:(x==("__debug__":Str))=false:=by decide)
  (h1:starEach [a,.Name x p2] X.env=(false,eval a X.env)::starEach [.Name x p2] X.env:=by rfl) (h2:starEach [.Name x p2] X.env=[(false,eval (.Name x p2) X.env)]:=by rfl)
  (hpl:(backTo pos (starEach [.Name x p2] X.env)).any (·.1)=false:=by rfl):
  SE X E (.Call (.Name "isinstance" p1) [a,.Name x p2] [] pos) (fun sd=>do let d<-fa sd;zkg T d):=by
 refine PE.imp (zgO zn1 hg hm PyProof.Rows.boot_isinstance (zbZ ha (zbZ (zrr (v:= .ty T) hgT hmT hvT rfl hn hd) zdh h2) h1) (he:=h1) (hpl:=hpl)) fun σ H Q ⟨ι,h,sd,L,hh,q⟩=>⟨ι,h,sd,L,hh,Fin.bind q fun d h1 ι1 H1 e1 s1 hr1 q1 v rv=> ?_⟩
 obtain ⟨t,ht,ty,q2⟩:=zri hr1 rv q1
 exact ⟨v,.type t,T,isB T t,rfl,ty,hk X.K t ht,Fin.out hr1 q2 _ (by simp [Rel])⟩
noncomputable def dIs:D->D->M D
 | .bl a,.bl b=>pure (.bl (a==b))
 | _,_=>M.bad
noncomputable def zg9:D->D->M D
 | .bl a,.bl b=>pure (.bl (a != b))
 | _,_=>M.bad
theorem zs8:OpR X (compareOp .Is) (zde X.K E dIs):=by
 intro pins s σ H x y v u Q I rx ry ⟨ι,h,d1,d2,r1,r2,hr,q⟩
 unfold dIs at q
 split at q
 ·simp only [Rel] at r1 r2
  subst r1 r2
  cases rx
  cases ry
  exact is_bool (zfm I (Fin.out hr q _ (by simp [Rel])) rfl)
 ·exact qa0 q
theorem zkP:OpR X (compareOp .IsNot) (zde X.K E zg9):=by
 intro pins s σ H x y v u Q I rx ry ⟨ι,h,d1,d2,r1,r2,hr,q⟩
 unfold zg9 at q
 split at q
 ·simp only [Rel] at r1 r2
  subst r1 r2
  cases rx
  cases ry
  exact isnot_bool (zfm I (Fin.out hr q _ (by simp [Rel])) rfl)
 ·exact qa0 q
noncomputable def zkA (xs:List D) (lo hi:Option Int):List D:=(xs.drop (HT.sIx xs.length 0 lo)).take (HT.sIx xs.length xs.length hi - HT.sIx xs.length 0 lo)
noncomputable def dSl (d:D) (lo hi:Option Int):M D:=match d with
 | .tup ds=>pure (.tup (zkA ds lo hi))
 | .lst ds=>pure (.lst (zkA ds lo hi))
 | _=>M.bad
noncomputable def zwD (K:W.Frag) (E:XE) (f:Sd->M (Option Int)):TO:=fun σ H Q=> ∃ ι h sd,zcK K ι H sd σ/\zbm K ι H h/\Fin K E ι H (f sd h) fun o ι' H'=>Q o H'
noncomputable abbrev SO (X:Cx) (E:XE) (e:Option Expr) (f:Sd->M (Option Int)):Prop:=PO X e (zwD X.K E f)
theorem PO.imp {e:Option Expr} {t t':TO} (h:PO X e t) (m: ∀ σ H Q,t' σ H Q->t σ H Q):PO X e t':=fun pins s σ H Q I q=>h pins s σ H Q I (m _ _ _ q)
noncomputable def znM:Sd->M (Option Int):=fun _=>pure none
noncomputable def zp3:D->M (Option Int)
 | .int i=>pure (some i)
 | _=>M.bad
noncomputable def znG (f:Sd->M D):Sd->M (Option Int):=fun sd=>do let d<-f sd;zp3 d
theorem zmq:SO X E none znM:=PO.imp zrj fun σ H Q ⟨ι,h,sd,L,hh,q⟩=>Fin.out hh q
theorem zmg {e:Expr} {f:Sd->M D} (h:SE X E e f):SO X E (some e) (znG f):=by
 refine PO.imp (zpM h) fun σ H Q ⟨ι,h,sd,L,hh,q⟩=>⟨ι,h,sd,L,hh,Fin.bind q fun d h1 ι1 H1 e1 s1 hr1 q1 v rv=> ?_⟩
 cases d with
 | int i=>simp only [Rel] at rv;exact ⟨i,rv,Fin.out hr1 q1⟩
 | _=>exact qa0 q1
noncomputable def cSl (f:Sd->M D) (lo hi:Sd->M (Option Int)):Sd->M D:=fun sd=>do let d<-f sd;let l<-lo sd;let u<-hi sd;dSl d l u
theorem ziR {e:Expr} {lo hi:Option Expr} {p2 pos:Pos} {f:Sd->M D} {fl fh:Sd->M (Option Int)} (he:SE X E e f) (hl:SO X E lo fl) (hu:SO X E hi fh):SE X E (.Subscript e (.Slice lo hi none p2) pos) (cSl f fl fh):=by
 refine PE.imp (zn2 (zqQ.or (zrM.or zqc)) he hl hu) fun σ H Q ⟨ι,h,sd,L,hh,q⟩=>⟨ι,h,sd,L,hh,Fin.bind q fun d h1 ι1 H1 e1 s1 hr1 q1 v rv=> ?_⟩
 refine ⟨ι1,h1,sd,L.step s1,hr1,Fin.bind q1 fun l h2 ι2 H2 e2 s2 hr2 q2=> ?_⟩
 refine ⟨ι2,h2,sd,(L.step s1).step s2,hr2,Fin.bind q2 fun u h3 ι3 H3 e3 s3 hr3 q3=> ?_⟩
 have rv3:=(rv.step s2).step s3
 cases d with
 | tup ds=>
  obtain ⟨a,vs,e,k1,k2⟩:=zcO rv3
  by_cases hw:HT.sIx vs.length 0 l=0/\HT.sIx vs.length vs.length u=vs.length
  ·refine .inl ⟨a,vs,e,k1,hw,?_⟩
   have ec:zkA ds l u=ds:=by
    unfold zkA
    rw [k2.length,hw.1,hw.2, <-k2.length]
    simp
   refine Fin.out hr3 q3 _ ?_
   rw [ec, <-e]
   exact rv3
  ·refine .inr (.inl ⟨a,vs,e,k1,hw,fun p hp=>ztH hr3 ?_ q3 hp⟩)
   unfold zkA zoH
   rw [k2.length]
   exact zav.take _ (zav.drop _ k2)
 | lst ds=>
  obtain ⟨a,vs,e,k1,k2⟩:=zeC rv3
  refine .inr (.inr ⟨a,vs,e,k1,fun p hp=>zqd hr3 ?_ q3 hp⟩)
  unfold zkA zoH
  rw [k2.length]
  exact zav.take _ (zav.drop _ k2)
 | _=>exact qa0 q3
noncomputable def zwx:D->M D
 | .tup ds=>pure (.tup ds.reverse)
 | _=>M.bad
noncomputable def zka (x y:D):M D:=match x,y with
 | .int i,.int j=>if (za8 i || za8 j)=true then pure (.int (i*j)) else M.bad
 | .tup xs,.int k=>if xs≠[]/\2<=k/\k<1000/\xs.length*k.toNat<=sizeLine then pure (.tup (List.replicate k.toNat xs).flatten) else M.bad
 | _,_=>M.bad
theorem zav.rep {K:W.Frag} {ι:Io} {H:Hp} {ds:List D} {vs:List V} (h:zav K ι H ds vs): ∀ n,zav K ι H (List.replicate n ds).flatten (List.replicate n vs).flatten
 | 0=>zav.nil
 | n+1=>by
  rw [List.replicate_succ,List.replicate_succ,List.flatten_cons,List.flatten_cons]
  exact zav.append h (zav.rep h n)
theorem zdB:OpR X (binaryOp .Mult) (zde X.K E zka):=by
 refine OpR.imp (zsS.or zpp) fun x y H Q ⟨ι,h,d1,d2,r1,r2,hr,q⟩=> ?_
 unfold zka at q
 split at q
 ·simp only [Rel] at r1 r2
  obtain ⟨c,q⟩:=Fin.guard q
  refine .inl ⟨_,_,r1,r2,?_,Fin.out hr q _ (by simp [Rel])⟩
  rcases (Bool.or_eq_true _ _).mp c with z | z
  ·exact .inl (zdb z)
  ·exact .inr (zdb z)
 ·simp only [Rel] at r2
  obtain ⟨a,vs,e,k1,k2⟩:=zcO r1
  obtain ⟨⟨c1,c2,c3,c4⟩,q⟩:=Fin.guard q
  refine .inr ⟨a,_,vs,e,r2,k1,fun z=>c1 ?_,c2,c3,by rw [<- k2.length];exact c4,fun p hp=>ztH hr (k2.rep _) q hp⟩
  subst z
  exact List.eq_nil_of_length_eq_zero k2.length
 ·exact qa0 q
theorem zkl {pins:List (Addr×Obj)} {σ:L2.St} {H:Hp} {s:Shared} (I:Inv X pins σ H s):sysModules<s.heap.objs.size:=
 Nat.lt_trans (by decide) (show mainGlobals<s.heap.objs.size from (I.mod.glob.keeps I.bk).lt)
theorem znJ {pos:Pos}:PE X (.Dict [] [] pos) (fun _ H Q=> ∀ p,H p=none->Q (.ref p) (upd H p (.dK []))):=fun pins s σ H Q I h=>
 wpAny_Dict_empty ⟨.ref s.heap.objs.size,_,I.laid (a:=s.heap.objs.size) (o:= .dK []) (t':=s.toks) (fun _ _ q=>qag _ q) (qaV _)
   ⟨Nat.zero_le _,beq_eq_false_iff_ne.mpr (Ne.symm (qaR (zkl I))),[],.nil,Heap.DictOf.new s.heap⟩,rfl,h _ (I.hok.fresh (qaV _))⟩
mutual
noncomputable def pdH (h:Hh):D->Option PyData
 | .non=>some .none
 | .bl b=>some (.bool b)
 | .int i=>some (.int i)
 | .str x=>some (.str x)
 | .tup xs=>(ziy h xs).map .tuple
 | .lst xs=>(ziy h xs).map .list
 | .cel n=>match h[n]? with
  | some (.lst ds)=>(pdL ds).map .list
  | _=>none
 | _=>none
noncomputable def ziy (h:Hh):List D->Option (List PyData)
 | []=>some []
 | x::xs=>match pdH h x,ziy h xs with
  | some a,some r=>some (a::r)
  | _,_=>none
end
mutual
theorem zhx {pins:List (Addr×Obj)} {σ:L2.St} {H:Hp} {s:Shared} {ι:Io} {h:Hh} (I:Inv X pins σ H s) (hr:zbm X.K ι H h): ∀ {d:D} {v:V} {u:Value} {p:PyData},Rel X.K ι H d v->zb4 v u->pdH h d=some p-> ∃ as,Reads s.heap u p as
 | .non,v,u,p,r,ru,e=>by simp only [Rel] at r;subst r;cases ru;simp only [pdH] at e;cases e;exact ⟨_,.none⟩
 | .bl b,v,u,p,r,ru,e=>by simp only [Rel] at r;subst r;cases ru;simp only [pdH] at e;cases e;exact ⟨_,.bool _⟩
 | .int i,v,u,p,r,ru,e=>by simp only [Rel] at r;subst r;obtain ⟨t,rfl⟩:=ru;simp only [pdH] at e;cases e;exact ⟨_,.int _ _⟩
 | .str i,v,u,p,r,ru,e=>by simp only [Rel] at r;subst r;obtain ⟨t,rfl⟩:=ru;simp only [pdH] at e;cases e;exact ⟨_,.str _ _⟩
 | .tup ds,v,u,p,r,ru,e=>by
  obtain ⟨a,vs,rfl,h1,h2⟩:=zcO r
  cases ru
  obtain ⟨its,rv,pl,_⟩:=I.tuple h1
  obtain ⟨o,ho,hc,n,hd⟩:=pl
  simp only [pdH] at e
  cases z:ziy h ds with
  | none=>rw [z] at e;cases e
  | some ps=>
   rw [z] at e;cases e
   obtain ⟨as,q⟩:=zig I hr h2 rv z
   exact ⟨_,.tuple ho hc hd (by simpa using q)⟩
 | .lst ds,v,u,p,r,ru,e=>by
  obtain ⟨a,vs,rfl,h1,h2⟩:=zeC r
  cases ru
  obtain ⟨its,rv,pl,_⟩:=I.list h1
  obtain ⟨o,ho,hc,n,hd⟩:=pl.isList
  simp only [pdH] at e
  cases z:ziy h ds with
  | none=>rw [z] at e;cases e
  | some ps=>
   rw [z] at e;cases e
   obtain ⟨as,q⟩:=zig I hr h2 rv z
   exact ⟨_,.list ho hc hd (by simpa using q)⟩
 | .cel m,v,u,p,r,ru,e=>by
  simp only [pdH] at e
  cases z0:h[m]? with
  | none=>rw [z0] at e;cases e
  | some c=>
   rw [z0] at e
   cases c with
   | dead=>cases e
   | dic _=>cases e
   | lst ds=>
    obtain ⟨a,vs,rfl,hn,hH,rl⟩:=hr.read r z0
    cases ru
    obtain ⟨its,rv,pl,_⟩:=I.list (SqL.of hH)
    obtain ⟨o,ho,hc,n,hd⟩:=pl.isList
    cases z:pdL ds with
    | none=>simp only [z] at e;cases e
    | some ps=>
     simp only [z] at e;cases e
     obtain ⟨as,q⟩:=zhv I rl rv z
     exact ⟨_,.list ho hc hd (by simpa using q)⟩
 | .scr ds,_,_,_,_,_,e=>by simp only [pdH] at e;cases e
 | .set xs,_,_,_,_,_,e=>by simp only [pdH] at e;cases e
 | .dct,_,_,_,_,_,e=>by simp only [pdH] at e;cases e
 | .fn _,_,_,_,_,_,e=>by simp only [pdH] at e;cases e
 | .exn _,_,_,_,_,_,e=>by simp only [pdH] at e;cases e
theorem zig {pins:List (Addr×Obj)} {σ:L2.St} {H:Hp} {s:Shared} {ι:Io} {h:Hh} (I:Inv X pins σ H s) (hr:zbm X.K ι H h): ∀ {ds:List D} {vs:List V} {us:List Value} {ps:List PyData},zav X.K ι H ds vs->zba vs us->ziy h ds=some ps-> ∃ as,ReadsAll s.heap us ps as
 | [],vs,us,ps,r,ru,e=>by simp only [zav] at r;subst r;cases ru;simp only [ziy] at e;cases e;exact ⟨_,.nil⟩
 | d::ds,vs,us,ps,r,ru,e=>by
  simp only [zav] at r
  obtain ⟨v,vr,rfl,r1,r2⟩:=r
  cases ru with
  | cons ru1 ru2=>
   simp only [ziy] at e
   cases z:pdH h d with
   | none=>rw [z] at e;cases e
   | some a=>
    cases z2:ziy h ds with
    | none=>rw [z,z2] at e;cases e
    | some b=>
     rw [z,z2] at e
     cases e
     obtain ⟨as,q1⟩:=zhx I hr r1 ru1 z
     obtain ⟨bs,q2⟩:=zig I hr r2 ru2 z2
     exact ⟨_,.cons q1 q2⟩
end
noncomputable def ztB (x y:D):M D:=fun h=>match pdH h x,pdH h y with
 | some a,some b=>if zjx a b=true then .ok (.bl (PyData.eqv a b)) h else .bad
 | _,_=> .bad
theorem ztC (hu:X.A.units+60<cLine):OpR X (compareOp .Eq) (zde X.K E ztB):=by
 intro pins s σ H x y v u Q I rx ry ⟨ι,h,d1,d2,r1,r2,hr,q⟩
 unfold ztB at q
 cases e1:pdH h d1 with
 | none=>rw [e1] at q;exact qa0 q
 | some a=>
  cases e2:pdH h d2 with
  | none=>rw [e1,e2] at q;exact qa0 q
  | some b=>
   rw [e1,e2] at q
   dsimp only at q
   by_cases c:zjx a b=true
   ·rw [qa4 c] at q
    obtain ⟨c1,c2,c3⟩:=zgu c
    obtain ⟨as,ra⟩:=zhx I hr r1 rx e1
    obtain ⟨bs,rb⟩:=zhx I hr r2 ry e2
    exact SeqAt.compareEq_reads ra rb c1 c2 (by omega) ⟨.bl _,H,I,rfl,q ι H (zcd.refl _ _) hr (.bl _) (by simp [Rel])⟩
   ·rw [qa5 c] at q
    exact qa0 q
end
noncomputable abbrev FE:=Sd->M D
noncomputable abbrev FT:=Sd->M Bool
noncomputable abbrev FA:=Sd->M (List D)
noncomputable abbrev FS:=Sd->M Out
noncomputable def cOp (F:D->D->M D) (a b:FE):FE:=fun sd=>do let x<-a sd;let y<-b sd;F x y
noncomputable def cUn (F:D->M D) (a:FE):FE:=fun sd=>do let x<-a sd;F x
noncomputable def zay (F:List D->M D) (a:FA):FE:=fun sd=>do let ds<-a sd;F ds
noncomputable def zdK (F:D->D->M D) (a b:FE):FT:=fun sd=>do let z<-(do let x<-a sd;let y<-b sd;F x y);zdx z
noncomputable def zh8 (a:FE):FT:=fun sd=>do let x<-a sd;zdx x
noncomputable def zhD (t:FT):FT:=fun sd=>do let c<-t sd;pure (!c)
noncomputable def zrT (t u:FT):FT:=fun sd=>do let c<-t sd;if c=true then u sd else pure false
noncomputable def tOr (t u:FT):FT:=fun sd=>do let c<-t sd;if c=true then pure true else u sd
noncomputable def zm4 (a b:FE):FE:=fun sd=>do let c<-(do let x<-a sd;zdx x);if c=true then b sd else pure (.bl false)
noncomputable def cOr (a b:FE):FE:=fun sd=>do let c<-(do let x<-a sd;zdx x);if c=true then pure (.bl true) else b sd
noncomputable def zuj (a:FE):FE:=fun sd=>do let c<-(do let x<-a sd;zdx x);pure (.bl (!c))
noncomputable def cIf (t:FT) (a b:FE):FE:=fun sd=>do let c<-t sd;if c=true then a sd else b sd
noncomputable def cK (d:D):FE:=fun _=>pure d
noncomputable def zat:FA:=fun _=>pure []
noncomputable def zad (a:FE) (r:FA):FA:=fun sd=>do let x<-a sd;let r<-r sd;pure (x::r)
noncomputable def zeS (fs:FA):FE:=fun sd=>do let ds<-fs sd;fits ds.length;pure (.tup ds)
noncomputable def zmY (fs:FA):FE:=fun sd=>do let ds<-fs sd;fits ds.length;pure (.lst ds)
noncomputable def zhq (fs:FA):FE:=fun sd=>do let ds<-fs sd;fits ds.length;zdZ ds
noncomputable def zfa:FS:=fun sd=>pure (.nx sd)
noncomputable def zas (g g':FS):FS:=fun sd=>do let o<-g sd;zd5 o g'
noncomputable def zbt (i:Nat) (f:FE):FS:=fun sd=>do let d<-f sd;pure (.nx (sd.set i (some d)))
noncomputable def zbG (f:FE):FS:=fun sd=>do let d<-f sd;pure (.rt d)
noncomputable def sIf (t:FT) (g g':FS):FS:=fun sd=>do let c<-t sd;if c=true then g sd else g' sd
noncomputable def zg1 (fi:FA) (g:D->Sd->M Sd) (gb:FS):FS:=fun sd=>do let ds<-fi sd;zaQ (fun x sd=>do let sd1<-g x sd;gb sd1) ds sd
noncomputable def zoa (f:FE) (g:D->Sd->M Sd):FS:=fun sd=>do let d<-f sd;let sd'<-g d sd;pure (.nx sd')
noncomputable def zgM (f:FE):FS:=fun sd=>do let _<-f sd;pure (.nx sd)
noncomputable def iSq (f:FE):FA:=fun sd=>do let d<-f sd;zdr d
noncomputable def zkB (fs:FA):FA:=fun sd=>do let ds<-fs sd;zmu ds
noncomputable def zog (fo fi:FE):D->Sd->M Sd:=fun d sd=>do let x<-fo sd;let y<-fi sd;zmP x y d;pure sd
section
variable {X:Cx} {E:XE} {a b e c:Expr} {es:List Expr} {pos p p1 p2:Pos} {fa fb f:FE} {fs:FA} {x:Str}
theorem zab (i:Nat) (hN:X.N[i]? = some x:=by rfl) (hv:Vis X.env.scope x:=by first | exact Or.inl rfl | exact Or.inr (Or.inl rfl) | exact Or.inr (Or.inr rfl)) (hd:(x==("__debug__":Str))=false:=by decide) (hcd:(x==("__classdict__":Str))=false:=by decide):SE X E (.Name x pos) (zag i):=ztz i hN hv hd hcd
theorem zah {i:Int} {j:Nat}:SE X E (.Constant (.int i) j pos) (cK (.int i)):=zr6
theorem zjj {i:Bool} {j:Nat}:SE X E (.Constant (.bool i) j pos) (cK (.bl i)):=zvQ
theorem zlM {j:Nat}:SE X E (.Constant .none j pos) (cK .non):=zsm
theorem zqZ {i:Int} (hm: ∃ t,X.mg x=some (.int i t)) (hg:Gl X x:=by rfl) (hd:(x==("__debug__":Str))=false:=by decide):SE X E (.Name x pos) (cK (.int i)):=by
 obtain ⟨t,hm⟩:=hm
 exact zm3 hg hm hd
theorem zbl {op:Operator} {F:D->D->M D} (ho:OpR X (binaryOp op) (zde X.K E F)) (ha:SE X E a fa) (hb:SE X E b fb):SE X E (.BinOp a op b pos) (cOp F fa fb):=zuW ho ha hb
theorem zfI {op:CmpOp} {F:D->D->M D} (ho:OpR X (compareOp op) (zde X.K E F)) (ha:SE X E a fa) (hb:SE X E b fb) (hm:behindInMarks op b=false:=by rfl):SE X E (.Compare a [op] [b] pos) (cOp F fa fb):=zss ho ha hb hm
theorem zaU {op:CmpOp} {F:D->D->M D} (ho:OpR X (compareOp op) (zde X.K E F)) (ha:SE X E a fa) (hb:SE X E b fb) (hm:behindInMarks op b=false:=by rfl):ST X E (.Compare a [op] [b] pos) (zdK F fa fb):=zt0 ho ha hb hm
theorem za9 (ha:SE X E a fa) (hb:SE X E b fb) (hs:zgD b:=by intro _ _;rfl):SE X E (.Subscript a b pos) (cOp dIx fa fb):=zsi zwH ha hb hs
theorem zsg (ha:SE X E a fa):SE X E (.UnaryOp .USub a pos) (cUn zth fa):=zsI ha
theorem zt2 (ha:SE X E a fa):SE X E (.UnaryOp .Not a pos) (zuj fa):=ztx ha
theorem zhi {op:BoolOp} (h:SE X E a fa):SE X E (.BoolOp op [a] pos) fa:=ztc h
theorem zih {zbk:List Expr} (ha:SE X E a fa) (hb:SE X E (.BoolOp .And (b::zbk) pos) fb):SE X E (.BoolOp .And (a::b::zbk) pos) (zm4 fa fb):=zsV ha hb
theorem zwe {zbk:List Expr} (ha:SE X E a fa) (hb:SE X E (.BoolOp .Or (b::zbk) pos) fb):SE X E (.BoolOp .Or (a::b::zbk) pos) (cOr fa fb):=zuy ha hb
theorem zcv (h:SE X E e f) (he: ∀ whole,isTrue e X.env whole=(do let v<-whole;standAt e.pos;holding [v] (truthy v)):=by intro _;rfl):ST X E e (zh8 f):=ztm h he
theorem zc0 {t:FT} (ha:ST X E a t):ST X E (.UnaryOp .Not a pos) (zhD t):=zrG ha
theorem zru {t:FT} (ha:ST X E a t):PW X (.BoolOp .And [a] pos) (zgR X.K E t):=zqg ha
theorem zd6 {t:FT} (ha:ST X E a t):PW X (.BoolOp .Or [a] pos) (zgR X.K E t):=ztb ha
theorem zsh {zbk:List Expr} {t u:FT} (ha:ST X E a t) (hb:PW X (.BoolOp .And (b::zbk) pos) (zgR X.K E u)):PW X (.BoolOp .And (a::b::zbk) pos) (zgR X.K E (zrT t u)):=zr2 ha hb
theorem zet {zbk:List Expr} {t u:FT} (ha:ST X E a t) (hb:PW X (.BoolOp .Or (b::zbk) pos) (zgR X.K E u)):PW X (.BoolOp .Or (a::b::zbk) pos) (zgR X.K E (tOr t u)):=zvA ha hb
theorem zcD {op:BoolOp} {vs:List Expr} {t:FT} (h:PW X (.BoolOp op vs pos) (zgR X.K E t)):ST X E (.BoolOp op vs pos) t:=zq9 h
theorem zuJ {t:FT} (hc:ST X E c t) (ha:SE X E a fa) (hb:SE X E b fb):SE X E (.IfExp c a b pos) (cIf t fa fb):=zm6 hc ha hb
theorem zmA {env:Env} (h: ∀ v p,e≠ .Starred v p):starEach (e::es) env=(false,eval e env)::starEach es env:=by
 cases e<;>first | rfl | exact absurd rfl (h _ _)
theorem zac:SA X E [] zat:=zsC
theorem zaa (ha:SE X E e fa) (hr:SA X E es fs) (hs:starEach (e::es) X.env=(false,eval e X.env)::starEach es X.env:=by exact zmA (fun _ _ z=>nomatch z)):SA X E (e::es) (zad fa fs):=zqt ha hr hs
theorem zcr {k} (h:SA X E es fs):SE X E (.Tuple es k pos) (zeS fs):=zrJ h
theorem zg8 (h:SA X E es fs):SE X E (.List es pos) (zmY fs):=zsX h
theorem zf4 (h:SA X E es fs):SE X E (.List es pos) (zhq fs):=zpC h
theorem zaB {id:String} {F:List D->M D} (hc:zaV X (.builtin id) (ziL X.K E F)) (hv:bootBuiltins x=some (.builtin id)) (hm:X.mg x=none) (ha:SA X E (e::es) fs) (hg:Gl X x:=by rfl) (hn:x≠"__name__":=by decide) (hdb:(x==("__debug__":Str))=false:=by decide)
  (he:starEach (e::es) X.env=(false,eval e X.env)::starEach es X.env:=by rfl) (hpl:(backTo pos (starEach es X.env)).any (·.1)=false:=by rfl):SE X E (.Call (.Name x p) (e::es) [] pos) (zay F fs):=zoe hc hg hm hv ha hn hdb he hpl
theorem zbL {T:String} {F:List D->M D} (hc:zaV X (.type T) (ziL X.K E F)) (hv:bootBuiltins x=some (.type T)) (hm:X.mg x=none) (ha:SA X E (e::es) fs) (hg:Gl X x:=by rfl) (hn:x≠"__name__":=by decide) (hdb:(x==("__debug__":Str))=false:=by decide)
  (he:starEach (e::es) X.env=(false,eval e X.env)::starEach es X.env:=by rfl) (hpl:(backTo pos (starEach es X.env)).any (·.1)=false:=by rfl):SE X E (.Call (.Name x p) (e::es) [] pos) (zay F fs):=zkW hc hg hm hv ha hn hdb he hpl
theorem zkL {T:String} (hk:zj7 T) (hvT:bootBuiltins x=some (.type T)) (hm:X.mg "isinstance"=none) (hmT:X.mg x=none) (ha:SE X E a fa) (hg:Gl X "isinstance":=by rfl) (hgT:Gl X x:=by rfl)
  (hn:x≠"__name__":=by decide) (hd:(x==("__debug__":Str))=false:=by decide)
  (h1:starEach [a,.Name x p2] X.env=(false,eval a X.env)::starEach [.Name x p2] X.env:=by rfl) (h2:starEach [.Name x p2] X.env=[(false,eval (.Name x p2) X.env)]:=by rfl)
  (hpl:(backTo pos (starEach [.Name x p2] X.env)).any (·.1)=false:=by rfl):SE X E (.Call (.Name "isinstance" p1) [a,.Name x p2] [] pos) (cUn (zkg T) fa):=zrD hk hg hm hgT hmT hvT ha hn hd h1 h2 hpl
theorem zhd {pos2:Pos} (hc:X.calm=true) (hm1:X.mg "sorted"=none) (hm2:X.mg "set"=none) (he:SE X E e f) (hg1:Gl X "sorted":=by rfl) (hg2:Gl X "set":=by rfl)
  (h1:starEach [.Call (.Name "set" p2) [e] [] pos2] X.env=[(false,eval (.Call (.Name "set" p2) [e] [] pos2) X.env)]:=by rfl) (h2:starEach [e] X.env=[(false,eval e X.env)]:=by rfl):
  SE X E (.Call (.Name "sorted" p1) [.Call (.Name "set" p2) [e] [] pos2] [] pos) (cUn zce f):=zkx hc hg1 hm1 hg2 hm2 he h1 h2
theorem zaj {k:Nat} {g:Addr} {fd:FuncData} {ps:List Str} {n:Nat} {F:List D->M D} (G:zbr X.prog X.w X.K X.mg X.base CX0 k g fd ps (zbR X.K n F)) (hr:zeq k X.A) (hm:X.mg x=some (.ref g)) (hk:W.keepIn X.K (.ref g)=true) (hb:zaE X.K fd ps [])
  (ha:SA X E0x (e::es) fs) (hg:Gl X x:=by rfl) (hdb:(x==("__debug__":Str))=false:=by decide) (he:starEach (e::es) X.env=(false,eval e X.env)::starEach es X.env:=by rfl) (hpl:(backTo pos (starEach es X.env)).any (·.1)=false:=by rfl):
  SE X E0x (.Call (.Name x p) (e::es) [] pos) (zay (zar n F) fs):=zrl G hr hg hm hk hb ha hdb he hpl
theorem zbA:SSs X E [] zfa:=zsG
theorem zai {st:Stmt} {g:FS} (h1:SS X E st g):SSs X E [st] g:=zsH h1
theorem zaf {st:Stmt} {zbk:List Stmt} {g g':FS} (h1:SS X E st g) (h2:SSs X E zbk g'):SSs X E (st::zbk) (zas g g'):=zp5 h1 h2
theorem zaD (he:SE X E e f):SS X E (.Return (some e) pos) (zbG f):=zvw he
theorem zfO {ys ns:List Stmt} {t:FT} {g g':FS} (hc:ST X E c t) (ha:SSs X E ys g) (hb:SSs X E ns g'):SS X E (.If c ys ns pos) (sIf t g g'):=zwJ hc ha hb
theorem zfy (he:SE X E e f) (hs:swapsWith e none pos.line X.env=pure false:=by rfl):SS X E (.Expr e pos) (zgM f):=zsk he hs
theorem zaC (i:Nat) (hN:X.N.Nodup) (he:SE X E e f) (hi:X.N[i]? = some x:=by rfl) (hx:Loc X.env.scope x:=by first | exact Or.inl rfl | exact Or.inr rfl) (hf:X.fn x=true\/X.env.scope.names.lookup x=some .local:=by first | exact Or.inl rfl | exact Or.inr rfl)
  (hs:swapsWith e (some (.Name x p)) pos.line X.env=pure false:=by rfl):SS X E (.Assign [.Name x p] e pos) (zbt i f):=zuw i hN hi hx hf he hs
theorem ziD {tg:Expr} {g:D->Sd->M Sd} (he:SE X E e f) (hg:SG X E tg g) (hs:swapsWithSole [tg] e pos.line X.env=pure false:=by rfl) (hw:swappedStores [tg] e X.env=pure none:=by rfl)
  (h1:(assignEach [tg] X.env).map (·.2)=[assign tg X.env]:=by rfl):SS X E (.Assign [tg] e pos) (zoa f g):=zvr he hg hs hw h1
theorem zaq (i:Nat) (hN:X.N.Nodup) (hi:X.N[i]? = some x:=by rfl) (hx:Loc X.env.scope x:=by first | exact Or.inl rfl | exact Or.inr rfl) (hf:X.fn x=true\/X.env.scope.names.lookup x=some .local:=by first | exact Or.inl rfl | exact Or.inr rfl):SG X E (.Name x pos) (zaI i):=zp0 i hN hi hx hf
theorem zdq:SGs X E [] zcI:=zqp
theorem zaX {g:D->Sd->M Sd} {gs:List D->Sd->M Sd} (h1:SG X E e g) (h2:SGs X E es gs) (hs:(assignEach (e::es) X.env).map (·.2)=assign e X.env::(assignEach es X.env).map (·.2):=by rfl):SGs X E (e::es) (zaz g gs):=zno h1 h2 hs
theorem zeI {k n:Nat} {gs:List D->Sd->M Sd} (hc:X.calm=true) (h:SGs X E es gs) (hn:(assignEach es X.env).length=n:=by rfl) (hst:(assignEach es X.env).findIdx? (·.1)=none:=by rfl):SG X E (.Tuple es k pos) (zcq n gs):=ztg hc h hn hst
theorem zoT (ho:SE X E a fa) (hi:SE X E b fb) (ha: ∀ v,assign (.Subscript a b pos) X.env v=(do
      let ov<-holding [v] (eval a X.env)
      let iv<-holding [v,ov] (eval b X.env)
      standAt pos
      holding [v,ov,iv] (setItem ov iv v)
      release [v,ov,iv] []):=by intro _;rfl):SG X E (.Subscript a b pos) (zog fa fb):=zrU fun hs=>zpf ho hi hs ha
theorem zcb {tg:Expr} (he:SE X E e f):SI X E tg e (iSq f):=zsv he
theorem zgr {tg:Expr} (hm:X.mg "range"=none) (ha:SA X E [a] fs) (hg:Gl X "range":=by rfl) (hs:starEach [a] X.env=[(false,eval a X.env)]:=by rfl):SI X E tg (.Call (.Name "range" p) [a] [] pos) (zkB fs):=zpZ hg hm ha hs
theorem zdO {tg iter:Expr} {body:List Stmt} {fi:FA} {g:D->Sd->M Sd} {gb:FS} (hc:X.calm=true) (hp:PassesOwn (model X.prog X.w) X.A X.env X.xe) (hi:SI X E tg iter fi) (hg:SG X E tg g) (hb:SSs X E body gb)
  (hs: ∀ x,foldedSetIterable iter X.env x=pure x:=by intro _;rfl):SS X E (.For tg iter body [] pos) (zg1 fi g gb):=zuu hc hp hi hg hb hs
theorem zcc:SCs X E [] (fun _=>pure true):=zs9
theorem zh4 {t:FT} (h:ST X E c t):SCs X E [c] t:=zrH h
theorem zbM {scope:Scope} {N:List Str} {src:List (Option Nat)} {tg iter elt:Expr} {ifs:List Expr} {fi:FA} {g:D->Sd->M Sd} {tc:FT} {te:FE} (hc:X.calm=true) (B:BOk X scope N src) (hk:zaW g src) (hi:SI X E tg iter fi)
  (hg: ∀ s H fp,SG (cxB X scope N s H fp) E tg g) (ht: ∀ s H fp,SCs (cxB X scope N s H fp) E ifs tc) (he: ∀ s H fp,SE (cxB X scope N s H fp) E elt te)
  (hs: ∀ x,foldedSetIterable iter X.env x=pure x:=by intro _;rfl):SE X E (.ListComp elt [⟨tg,iter,ifs,0⟩] scope pos) (zaJ fi g tc te src):=zqw B hk hi hg ht he hs
theorem zh6 {scope:Scope} {N:List Str} {src:List (Option Nat)} {tg iter elt:Expr} {ifs:List Expr} {fi:FA} {g:D->Sd->M Sd} {tc:FT} {te:FE} (i:Nat) {y:Str} {py spos:Pos} (hc:X.calm=true) (hN:X.N.Nodup) (B:BOk X scope N src) (hk:zaW g src) (hi:SI X E tg iter fi)
  (hg: ∀ s H fp,SG (cxB X scope N s H fp) E tg g) (ht: ∀ s H fp,SCs (cxB X scope N s H fp) E ifs tc) (he: ∀ s H fp,SE (cxB X scope N s H fp) E elt te)
  (hy:X.N[i]? = some y:=by rfl) (hx:Loc X.env.scope y:=by first | exact Or.inl rfl | exact Or.inr rfl) (hf:X.fn y=true\/X.env.scope.names.lookup y=some .local:=by first | exact Or.inl rfl | exact Or.inr rfl) (hsw:swapsWith (.ListComp elt [⟨tg,iter,ifs,0⟩] scope pos) (some (.Name y py)) spos.line X.env=pure true:=by rfl)
  (hs: ∀ x,foldedSetIterable iter X.env x=pure x:=by intro _;rfl):SS X E (.Assign [.Name y py] (.ListComp elt [⟨tg,iter,ifs,0⟩] scope pos) spos) (zbt i (zaJ fi g tc te src)):=zle i B hk hi hg ht he hN hy hx hf hsw hs
end
theorem zbm.empty {K:W.Frag} {H:Hp}:zbm K ⟨[],[]⟩ H []:=⟨rfl,fun m n a h=>by simp at h,fun n a c h=>by simp at h,fun n h=>by simp at h,fun a h=>by cases h⟩
theorem zvP {K:W.Frag} {F:List D->M D} {H:Hp} {a:Addr} {ns:List Int} (hS:SqL K H a (ns.map V.int)) (hm: ∃ h',F [.scr (ns.map D.int)] []= .ok (.bl true) h'):zbR K 1 F [.ref a] H (fun v _=>v= .bl true) fun _ _ _=>False:=by
 obtain ⟨h',e⟩:=hm
 refine ⟨rfl,⟨[],[]⟩,[],[.scr (ns.map D.int)],zav.cons ?_ zav.nil,zbm.empty,?_⟩
 ·simp only [Rel]
  refine ⟨a,ns.map V.int,rfl,?_,zcT.mpr rfl⟩
  rcases hS with h | h
  ·exact .inl ⟨h,fun z=>by rcases z with z | z<;>cases z⟩
  ·exact .inr (.inr h)
 ·rw [e]
  intro ι1 H1 s hr v rv
  simpa [Rel] using rv
section
variable {sd:Sd} {a b:FE} {fs:FA} {t u:FT} {g g':FS} {F:D->D->M D}
@[simp] theorem zcB:cOp F a b sd=(do let x<-a sd;let y<-b sd;F x y):=rfl
@[simp] theorem znL {F:D->M D}:cUn F a sd=(do let x<-a sd;F x):=rfl
@[simp] theorem zbx {F:List D->M D}:zay F fs sd=(do let ds<-fs sd;F ds):=rfl
@[simp] theorem zeG:zdK F a b sd=(do let z<-(do let x<-a sd;let y<-b sd;F x y);zdx z):=rfl
@[simp] theorem zju:zh8 a sd=(do let x<-a sd;zdx x):=rfl
@[simp] theorem zjR:zhD t sd=(do let c<-t sd;pure (!c)):=rfl
@[simp] theorem zsq:zrT t u sd=(do let c<-t sd;if c=true then u sd else pure false):=rfl
@[simp] theorem zpz:tOr t u sd=(do let c<-t sd;if c=true then pure true else u sd):=rfl
@[simp] theorem zoB:zm4 a b sd=(do let c<-(do let x<-a sd;zdx x);if c=true then b sd else pure (.bl false)):=rfl
@[simp] theorem zuH:cOr a b sd=(do let c<-(do let x<-a sd;zdx x);if c=true then pure (.bl true) else b sd):=rfl
@[simp] theorem zoC:zuj a sd=(do let c<-(do let x<-a sd;zdx x);pure (.bl (!c))):=rfl
@[simp] theorem zuB:cIf t a b sd=(do let c<-t sd;if c=true then a sd else b sd):=rfl
@[simp] theorem zeZ {d:D}:cK d sd=pure d:=rfl
@[simp] theorem za6:zat sd=pure []:=rfl
@[simp] theorem zaM:zad a fs sd=(do let x<-a sd;let r<-fs sd;pure (x::r)):=rfl
@[simp] theorem zhe:zeS fs sd=(do let ds<-fs sd;fits ds.length;pure (.tup ds)):=rfl
@[simp] theorem zi2:zmY fs sd=(do let ds<-fs sd;fits ds.length;pure (.lst ds)):=rfl
@[simp] theorem zgv:zhq fs sd=(do let ds<-fs sd;fits ds.length;zdZ ds):=rfl
@[simp] theorem zeE:zfa sd=pure (.nx sd):=rfl
@[simp] theorem za7:zas g g' sd=(do let o<-g sd;zd5 o g'):=rfl
@[simp] theorem zcY {i:Nat}:zbt i a sd=(do let d<-a sd;pure (.nx (sd.set i (some d)))):=rfl
@[simp] theorem zcW:zbG a sd=(do let d<-a sd;pure (.rt d)):=rfl
@[simp] theorem zg7:sIf t g g' sd=(do let c<-t sd;if c=true then g sd else g' sd):=rfl
@[simp] theorem zht {fi:FA} {gt:D->Sd->M Sd}:zg1 fi gt g sd=(do let ds<-fi sd;zaQ (fun x sd=>do let sd1<-gt x sd;g sd1) ds sd):=rfl
@[simp] theorem zjA {gt:D->Sd->M Sd}:zoa a gt sd=(do let d<-a sd;let sd'<-gt d sd;pure (.nx sd')):=rfl
@[simp] theorem zqE:zgM a sd=(do let _<-a sd;pure (.nx sd)):=rfl
@[simp] theorem zqS:iSq a sd=(do let d<-a sd;zdr d):=rfl
@[simp] theorem zhX:zkB fs sd=(do let ds<-fs sd;zmu ds):=rfl
@[simp] theorem zmy {d:D}:zog a b d sd=(do let x<-a sd;let y<-b sd;zmP x y d;pure sd):=rfl
@[simp] theorem zcx {i:Nat} {d:D}:zaI i d sd=pure (sd.set i (some d)):=rfl
@[simp] theorem zg0:zd5 (.nx sd) g=g sd:=rfl
@[simp] theorem zui {d:D}:zd5 (.rt d) g=pure (.rt d):=rfl
@[simp] theorem zwR:zd5 (.bk sd) g=pure (.bk sd):=rfl
@[simp] theorem zwS:zd5 (.ct sd) g=pure (.ct sd):=rfl
@[simp] theorem zu4:zb7 (.nx sd)=pure .non:=rfl
@[simp] theorem zgx {d:D}:zb7 (.rt d)=pure d:=rfl
@[simp] theorem zdg {c:Bool}:zdx (.bl c)=pure c:=rfl
@[simp] theorem zvJ {lo hi:Sd->M (Option Int)}:cSl a lo hi sd=(do let d<-a sd;let l<-lo sd;let u<-hi sd;dSl d l u):=rfl
@[simp] theorem zqa:znM sd=pure none:=rfl
@[simp] theorem zpS:znG a sd=(do let d<-a sd;zp3 d):=rfl
@[simp] theorem zst {i:Int}:zp3 (.int i)=pure (some i):=rfl
@[simp] theorem zuV {ds:List D} {lo hi:Option Int}:dSl (.tup ds) lo hi=pure (.tup (zkA ds lo hi)):=rfl
@[simp] theorem zut {ds:List D}:zwx (.tup ds)=pure (.tup ds.reverse):=rfl
@[simp] theorem zvu {i:Int}:zth (.int i)=pure (.int (-i)):=rfl
@[simp] theorem zdV {i j:Int}:zdQ (.int i) (.int j)=pure (.int (i+j)):=rfl
@[simp] theorem zpe {xs ys:List D}:zdQ (.tup xs) (.tup ys)=(do fits (xs.length+ys.length);pure (.tup (xs++ys))):=rfl
@[simp] theorem zlD {xs ys:List D}:zdQ (.lst xs) (.lst ys)=(do fits (xs.length+ys.length);pure (.lst (xs++ys))):=rfl
@[simp] theorem zpI {i j:Int}:zta (.int i) (.int j)=pure (.int (i - j)):=rfl
@[simp] theorem zum {i j:Int}:zvz (.int i) (.int j)=pure (.int (Builtin.bitAnd i j)):=rfl
@[simp] theorem zmW {i j:Int}:dLt (.int i) (.int j)=pure (.bl (decide (i<j))):=rfl
@[simp] theorem zwQ {i j:Int}:dLe (.int i) (.int j)=pure (.bl (decide (i<=j))):=rfl
@[simp] theorem zwa {i j:Int}:dGt (.int i) (.int j)=pure (.bl (decide (j<i))):=rfl
@[simp] theorem zun {i j:Int}:dGe (.int i) (.int j)=pure (.bl (decide (j<=i))):=rfl
@[simp] theorem zvH {i j:Bool}:zg9 (.bl i) (.bl j)=pure (.bl (i != j)):=rfl
@[simp] theorem zsJ {ds:List D}:ze1 [.tup ds]=pure (.int ds.length):=rfl
@[simp] theorem zoI {ds:List D}:ze1 [.lst ds]=pure (.int ds.length):=rfl
@[simp] theorem zoE {ds:List D}:ze1 [.scr ds]=pure (.int ds.length):=rfl
@[simp] theorem ztU {ds:List D}:zcu [.tup ds]=pure (.tup ds):=rfl
@[simp] theorem zhC {ds:List D}:zcu [.lst ds]=pure (.tup ds):=rfl
@[simp] theorem zsp {ds:List D}:zvp [.tup ds]=pure (.lst ds):=rfl
@[simp] theorem ztW {ds:List D}:zdr (.tup ds)=pure ds:=rfl
@[simp] theorem zrZ {ds:List D}:zdr (.lst ds)=pure ds:=rfl
@[simp] theorem zir {F:List D->M D} {x:D}:zar 1 F [x]=F [x]:=rfl
@[simp] theorem zbY {F:List D->M D} {x y:D}:zar 2 F [x,y]=F [x,y]:=rfl
@[simp] theorem zpx {F:List D->M D} {x y z:D}:zar 3 F [x,y,z]=F [x,y,z]:=rfl
@[simp] theorem zct {body:D->Sd->M Out}:zaQ body [] sd=pure (.nx sd):=rfl
theorem zbo {body:D->Sd->M Out} {x:D} {r:List D}:zaQ body (x::r) sd=(do let o<-body x sd;match o with | .nx sd'=>zaQ body r sd' | .ct sd'=>zaQ body r sd' | .bk sd'=>pure (.nx sd') | .rt d=>pure (.rt d)):=rfl
@[simp] theorem zlz {gs:List D->Sd->M Sd} {x y:D}:zcq 2 gs (.tup [x,y]) sd=gs [x,y] sd:=rfl
@[simp] theorem zkC:zcI [] sd=pure sd:=rfl
@[simp] theorem zjn {gt:D->Sd->M Sd} {gs:List D->Sd->M Sd} {x:D} {r:List D}:zaz gt gs (x::r) sd=(do let sd1<-gt x sd;gs r sd1):=rfl
@[simp] theorem zoV {n:Nat} {k:Int} {d:D}:zmP (.cel n) (.int k) d=(do let ds<-zao n;let j<-ofO (ixN ds.length k);zbE n (ds.set j d)):=rfl
@[simp] theorem zuC {ds:List D} {i:Int}:dIx (.tup ds) (.int i)=ofO (atI ds i):=rfl
@[simp] theorem zov {ds:List D} {i:Int}:dIx (.lst ds) (.int i)=ofO (atI ds i):=rfl
@[simp] theorem zuI {ds:List D} {i:Int}:dIx (.scr ds) (.int i)=ofO (atI ds i):=rfl
@[simp] theorem zoc {n:Nat} {i:Int}:dIx (.cel n) (.int i)=(do let ds<-zao n;ofO (atI ds i)):=rfl
@[simp] theorem zfR {α:Type} {x:α}:ofO (some x)=pure x:=rfl
@[simp] theorem zml {x:D} {r:List D}:atI (x::r) 0=some x:=by unfold atI ixN;simp
@[simp] theorem zte {x y:D} {r:List D}:atI (x::y::r) 1=some y:=by
 have:=zfz (xs:=x::y::r) (j:=1) (v:=y) rfl
 simpa using this
end
theorem zaA {n:Nat} (h:n<=1000):fits n=pure ():=by
 unfold fits
 rw [qa4 (qaS h (by decide))]
theorem ziP {i j:Int} (h:(za8 i || za8 j)=true):zka (.int i) (.int j)=pure (.int (i*j)):=by
 show (if (za8 i || za8 j)=true then _ else _)=_
 rw [qa4 h]
theorem zjE {i:Int} (h: -1000000000000000<i) (h':i<1000000000000000):za8 i=true:=by unfold za8;simp;omega
theorem zh3 {i j:Int} (h: -1000000000000000<i) (h':i<1000000000000000):zka (.int i) (.int j)=pure (.int (i*j)):=ziP (by rw [zjE h h'];rfl)
theorem zl4 {i j:Int} (h: -1000000000000000<j) (h':j<1000000000000000):zka (.int i) (.int j)=pure (.int (i*j)):=ziP (by rw [zjE h h'];simp)
theorem zdz {i j:Int} (h:0<j):znb (.int i) (.int j)=pure (.int (i % j)):=by
 show (if (decide (0<j))=true then _ else _)=_
 rw [qa4 (by simpa using h)]
theorem zjy {i j:Int} (h:0<j) (h':j<2^64):znZ (.int i) (.int j)=pure (.int (i / j)):=by
 show (if (decide (0<j) && decide (j<2^64))=true then _ else _)=_
 rw [qa4 (by rw [qaG];exact ⟨by simpa using h,by simpa using h'⟩)]
theorem zoM {i j:Int}:dEq (.int i) (.int j)=pure (.bl (i==j)):=by
 unfold dEq zm0
 simp only [pd]
 rw [qa4 (show zjx (.int i) (.int j)=true from rfl)]
 rfl
theorem zv2 {i j:Int}:dNe (.int i) (.int j)=pure (.bl (!(i==j))):=by
 unfold dNe zm0
 simp only [pd]
 rw [qa4 (show zjx (.int i) (.int j)=true from rfl)]
 rfl
def wp {α:Type} (m:M α) (h:Hh) (P:α->Hh->Prop):Prop:= ∃ a h',m h= .ok a h'/\P a h'
section
variable {α β:Type} {h:Hh} {P P':α->Hh->Prop}
theorem zam {a:α}:wp (pure a:M α) h P↔P a h:=⟨fun ⟨b,h',e,q⟩=>by cases (show R.ok a h=R.ok b h' from e);exact q,fun q=>⟨a,h,rfl,q⟩⟩
theorem zan {m:M β} {f:β->M α}:wp (m>>=f) h P↔wp m h fun b h'=>wp (f b) h' P:=by
 constructor
 ·rintro ⟨a,h',e,q⟩
  have e:M.bind m f h= .ok a h':=e
  unfold M.bind at e
  cases z:m h with
  | ok b h1=>rw [z] at e;exact ⟨b,h1,z,a,h',e,q⟩
  | exc c h1=>rw [z] at e;cases e
  | bad=>rw [z] at e;cases e
 ·rintro ⟨b,h1,e,a,h',e2,q⟩
  refine ⟨a,h',?_,q⟩
  show M.bind m f h=_
  unfold M.bind
  rw [e]
  exact e2
theorem ziE {m:M α} (q:wp m h P) (k: ∀ a h',P a h'->P' a h'):wp m h P':=by
 obtain ⟨a,h',e,q⟩:=q
 exact ⟨a,h',e,k _ _ q⟩
theorem zcl {n:Nat} {ds:List D} {P:List D->Hh->Prop} (e:h[n]? = some (.lst ds)):wp (zao n) h P↔P ds h:=by
 unfold wp zao
 rw [e]
 exact ⟨fun ⟨b,h',e,q⟩=>by cases e;exact q,fun q=>⟨_,_,rfl,q⟩⟩
theorem zfY {n:Nat} {ds:List D} {P:Unit->Hh->Prop}:wp (zbE n ds) h P↔P () (h.set n (.lst ds)):=⟨fun ⟨b,h',e,q⟩=>by cases (show R.ok () (h.set n (.lst ds))=R.ok b h' from e);exact q,fun q=>⟨_,_,rfl,q⟩⟩
theorem zjz {ds:List D} {P:D->Hh->Prop}:wp (zdZ ds) h P↔P (.cel h.length) (h++[.lst ds]):=⟨fun ⟨b,h',e,q⟩=>by cases (show R.ok (D.cel h.length) (h++[C.lst ds])=R.ok b h' from e);exact q,fun q=>⟨_,_,rfl,q⟩⟩
end
theorem zev {f:D->M (Option D)} {k:D->Option D}: ∀ {ds:List D},(∀ x∈ds,f x=pure (k x))->zbS f ds=pure (ds.filterMap k)
 | [],_=>rfl
 | x::r,hf=>by
  rw [zbS,hf x qau,zev fun y hy=>hf y (qan _ hy)]
  simp only [pure_bind]
  cases e:k x<;>simp [qat,e]
theorem zez {fi:FA} {g:D->Sd->M Sd} {tc:FT} {te:FE} {src:List (Option Nat)} {sd:Sd} {ds:List D} {k:D->Option D} (hi:fi sd=pure ds) (hl:ds.length<=1000) (hf: ∀ x∈ds,zbn g tc te (zaw src sd) x=pure (k x)):zaJ fi g tc te src sd=pure (.lst (ds.filterMap k)):=by
 unfold zaJ
 rw [hi]
 simp only [pure_bind]
 rw [zaA hl]
 simp only [pure_bind]
 rw [zev hf]
 simp only [pure_bind]
theorem zhT {fi:FA} {g:D->Sd->M Sd} {tc:FT} {te:FE} {src:List (Option Nat)} {sd:Sd} {ds:List D} {k:D->D} (hi:fi sd=pure ds) (hl:ds.length<=1000) (hf: ∀ x∈ds,zbn g tc te (zaw src sd) x=pure (some (k x))):zaJ fi g tc te src sd=pure (.lst (ds.map k)):=by
 rw [zez (k:=fun x=>some (k x)) hi hl hf]
 simp
theorem zi1: ∀ bs:List Bool,zoA (bs.map D.bl)=some bs
 | []=>rfl
 | b::r=>by rw [qaM,zoA,zi1 r];rfl
theorem zbp: ∀ bs:List Int,zcS (bs.map D.int)=some bs
 | []=>rfl
 | b::r=>by rw [qaM,zcS,zbp r];rfl
theorem zkO (bs:List Bool):zuf [.lst (bs.map D.bl)]=pure (.bl (bs.all id)):=by
 show (do let bs<-ofO (zoA (bs.map D.bl));pure (.bl (bs.all id)):M D)=_
 rw [zi1]
 rfl
theorem zmh {d:D} {xs:List Int} (e:zm1 d=pure (xs.map D.int)) (h:(xs.foldl step_dedup []).length<64) (h2:xs.length<4000):zce d=pure (.lst ((zdj xs).map D.int)):=by
 unfold zce
 rw [e]
 show (do let ns<-ofO (zcS (xs.map D.int));if (ns.foldl step_dedup []).length<64/\ns.length<4000 then pure (.lst ((zdj ns).map D.int)) else M.bad:M D)=_
 rw [zbp]
 show (if (xs.foldl step_dedup []).length<64/\xs.length<4000 then (pure (.lst ((zdj xs).map D.int)):M D) else M.bad)=_
 rw [qa4 ⟨h,h2⟩]
theorem zhW {xs:List Int} (h:xs.length<64):zce (.lst (xs.map D.int))=pure (.lst ((zdj xs).map D.int)):=zmh rfl (Nat.lt_of_le_of_lt (zld xs) h) (by omega)
theorem zes {xs:List Int} (h:xs.length<64):zc3 [.tup (xs.map D.int)]=pure (.lst ((zbF xs).map D.int)):=by
 show (do let ns<-ofO (zcS (xs.map D.int));if ns.length<64 then pure (.lst ((zbF ns).map D.int)) else M.bad:M D)=_
 rw [zbp]
 show (if xs.length<64 then (pure (.lst ((zbF xs).map D.int)):M D) else M.bad)=_
 rw [qa4 h]
noncomputable def kn:D->Bool
 | .non | .bl _ | .int _ | .str _ | .tup _ | .lst _ | .dct=>true
 | _=>false
noncomputable def isT:D->Bool
 | .tup _=>true
 | _=>false
noncomputable def isI:D->Bool
 | .int _=>true
 | _=>false
theorem zkN {d:D} (k:kn d=true):zkg "tuple" d=pure (.bl (isT d)):=by
 cases d<;>simp [kn] at k<;>simp [zkg,tyD,isB,isT]
theorem zp8 {d:D} (k:kn d=true):zkg "int" d=pure (.bl (isI d || (match d with | .bl _=>true | _=>false))):=by
 cases d<;>simp [kn] at k<;>simp [zkg,tyD,isB,isI]
theorem zs4 {d:D} (k:kn d=true):zkg "bool" d=pure (.bl (match d with | .bl _=>true | _=>false)):=by
 cases d<;>simp [kn] at k<;>simp [zkg,tyD,isB,isI]
mutual
noncomputable def zmH:D->Bool
 | .non | .bl _ | .int _=>true
 | .str x=>PyData.strOk x
 | .tup ds=>decide (ds.length<64) && zid ds
 | .lst ds=>decide (ds.length<64) && zid ds
 | _=>false
noncomputable def zid:List D->Bool
 | []=>true
 | d::r=>zmH d && zid r
end
mutual
theorem zrt: ∀ {d:D},zmH d=true-> ∃ p,pd d=some p/\p.canLay0=true
 | .non,_=>⟨.none,rfl,rfl⟩
 | .bl b,_=>⟨.bool b,rfl,rfl⟩
 | .int i,_=>⟨.int i,rfl,rfl⟩
 | .str x,g=>⟨.str x,rfl,by simpa [zmH,PyData.canLay0] using g⟩
 | .tup ds,g=>by
  have g2:zid ds=true:=by simp [zmH] at g;exact g.2
  obtain ⟨ps,e,c⟩:=zgN g2
  exact ⟨.tuple ps,by unfold pd;rw [e];rfl,c⟩
 | .lst ds,g=>by
  have g2:zid ds=true:=by simp [zmH] at g;exact g.2
  obtain ⟨ps,e,c⟩:=zgN g2
  exact ⟨.list ps,by unfold pd;rw [e];rfl,c⟩
 | .cel _,g=>by simp [zmH] at g
 | .set _,g=>by simp [zmH] at g
 | .dct,g=>by simp [zmH] at g
 | .fn _,g=>by simp [zmH] at g
 | .scr _,g=>by simp [zmH] at g
 | .exn _,g=>by simp [zmH] at g
theorem zgN: ∀ {ds:List D},zid ds=true-> ∃ ps,pdL ds=some ps/\PyData.canLayAll0 ps=true
 | [],_=>⟨[],rfl,rfl⟩
 | d::r,g=>by
  simp [zid] at g
  obtain ⟨p,e,c⟩:=zrt g.1
  obtain ⟨ps,e2,c2⟩:=zgN g.2
  exact ⟨p::ps,by unfold pdL;rw [e,e2],by simp [PyData.canLayAll0,c,c2]⟩
end
theorem zc9: ∀ xs:List Int,pdL (xs.map D.int)=some (xs.map PyData.int)
 | []=>rfl
 | x::r=>by rw [qaM,pdL,zc9 r];rfl
theorem zbe: ∀ xs:List Int,PyData.canLayAll0 (xs.map PyData.int)=true
 | []=>rfl
 | x::r=>by simp [PyData.canLayAll0,PyData.canLay0,zbe r]
theorem zbH: ∀ xs:List Int,PyData.depthAll (xs.map PyData.int)=0
 | []=>rfl
 | x::r=>by simp [PyData.depthAll,PyData.depth,zbH r]
theorem zgU: ∀ xs ys:List Int,PyData.eqvAll (xs.map PyData.int) (ys.map PyData.int)=(xs==ys)
 | [],[]=>rfl
 | [],_::_=>rfl
 | _::_,[]=>rfl
 | x::xs,y::ys=>by
  simp only [qaM,PyData.eqvAll,PyData.eqv,zgU xs ys]
  rfl
theorem zdJ (k:Int): ∀ xs:List Int,((xs.map PyData.int).any fun y=>PyData.eqv y (.int k))=xs.any (· == k)
 | []=>rfl
 | x::r=>by simp only [qaM,List.any_cons,zdJ k r];rfl
theorem zjV (k:Int) (xs:List Int):dIn (.int k) (.tup (xs.map D.int))=pure (.bl (xs.any (· == k))):=by
 show zmX false (.int k) (.tup (xs.map D.int))=_
 unfold zmX
 simp only [pd]
 rw [zc9]
 have c:zgw (.int k) (xs.map PyData.int)=true:=by
  unfold zgw
  simp [PyData.canLay0,zbe,PyData.depth,zbH]
 simp only [c,if_true,zdJ]
 rfl
end L3
namespace L2
open PySem PySem.Spec PyProof.Rows LT
section
variable {X:Cx}
end
end L2
namespace L3
open PySem PySem.Spec PyProof.Rows L2 LT
section
variable {X:Cx} {E:XE} {a b c o e:Expr} {pos apos cpos:Pos} {fa fb fc fo fe:FE}
noncomputable def zdn:D->M Unit
 | .cel n=>do let _<-zao n;pure ()
 | _=>M.bad
noncomputable def zd1 (x y:D):M D:=match x with
 | .cel n=>do
  let ds<-zao n
  fits (ds.length+1)
  zbE n (ds++[y])
  pure .non
 | _=>M.bad
noncomputable def zic (fo fe:FE):FE:=fun sd=>do
 let x<-fo sd
 zdn x
 let y<-fe sd
 zd1 x y
theorem zex {α:Type} {K:W.Frag} {ι:Io} {H:Hp} {h:Hh} {n:Nat} {f:List D->M α} {P:α->Io->Hp->Prop} (q:Fin K E ι H ((zao n>>=f) h) P): ∃ ds,h[n]? = some (.lst ds)/\Fin K E ι H (f ds h) P:=by
 have q':Fin K E ι H (M.bind (zao n) f h) P:=q
 unfold M.bind at q'
 cases z:zao n h with
 | bad=>rw [z] at q';exact qa0 q'
 | exc c h'=>unfold zao at z;split at z<;>cases z
 | ok ds h'=>
  rw [z] at q'
  obtain ⟨rfl,z2⟩:=zcU z
  exact ⟨ds,z2,q'⟩
theorem znI (ho:SE X E o fo) (he:SE X E e fe)
  (hbase:attributeBase o "append" X.env (eval o X.env)=eval o X.env:=by rfl)
  (hfew:((backTo cpos (starEach [e] X.env)).all (fun x=> !x.1) && (backToKw cpos (keywordEach [] X.env)).all (fun x=>x.1.isSome)
    && decide (([e]:List Expr).length+([]:List Keyword).length+(if ([]:List Keyword).isEmpty then 0 else 1)<30))=true:=by rfl)
  (hline:(apos.endLine==cpos.line)=true:=by rfl) (hs:starEach [e] X.env=(false,eval e X.env)::starEach [] X.env:=by rfl) (hplain:(backTo cpos (starEach [] X.env)).any (·.1)=false:=by rfl):
  SE X E (.Call (.Attribute o "append" apos) [e] [] cpos) (zic fo fe):=by
 refine PE.imp (zpH PySem.F.plainAttrs_list PySem.F.slot_list_append PySem.F.type_list_append zhS ho (zbZ he zdh hs) hbase hfew hline hs hplain) fun σ H Q ⟨ι,h,sd,L,hh,q⟩=>⟨ι,h,sd,L,hh,Fin.bind q fun d h1 ι1 H1 e1 s1 hr1 q1 v rv=> ?_⟩
 cases d with
 | cel n=>
  have q2:Fin X.K E ι1 H1 ((zao n>>=fun _=>fe sd>>=fun y=>zd1 (.cel n) y) h1) (fun d ι' H'=> ∀ v,Rel X.K ι' H' d v->Q v H'):=by
   have ee:(zdn (.cel n)>>=fun _=>fe sd>>=fun y=>zd1 (.cel n) y:M D)=(zao n>>=fun _=>fe sd>>=fun y=>zd1 (.cel n) y):=by
    show ((zao n>>=fun _=>pure ())>>=fun _=>fe sd>>=fun y=>zd1 (.cel n) y)=_
    simp only [bind_assoc,pure_bind]
   rw [<- ee]
   exact q1
  obtain ⟨ds,e2,q3⟩:=zex q2
  obtain ⟨a,vs,rfl,hn,hH,rl⟩:=hr1.read rv e2
  refine ⟨.inl ⟨rfl,vs,SqL.of hH⟩,ι1,h1,sd,L.step s1,hr1,Fin.bind q3 fun y h3 ι3 H3 e3 s3 hr3 q4 w rw'=> ?_⟩
  have rv3:=rv.step s3
  have q5:Fin X.K E ι3 H3 ((zao n>>=fun ds=>fits (ds.length+1)>>=fun _=>zbE n (ds++[y])>>=fun _=>pure D.non) h3) (fun d ι' H'=> ∀ v,Rel X.K ι' H' d v->Q v H'):=q4
  obtain ⟨ds3,e4,q6⟩:=zex q5
  obtain ⟨a3,vs3,ea,hn3,hH3,rl3⟩:=hr3.read rv3 e4
  cases ea
  obtain ⟨z,q7⟩:=Fin.fits q6
  refine ⟨a,vs3,w,rfl,rfl,hH3,by rw [<- rl3.length];omega,?_⟩
  have q8:Fin X.K E ι3 H3 (R.ok D.non (h3.set n (.lst (ds3++[y])))) (fun d ι' H'=> ∀ v,Rel X.K ι' H' d v->Q v H'):=q7
  exact q8 ι3 _ (hr3.cellS hn3) (hr3.cell hn3 (rl3.append (zav.cons rw' zav.nil))) _ (by simp [Rel])
 | _=>exact qa0 q1
end
end L3
namespace Att
open PySem PySem.W PySem.Calls PyProof.Rows
theorem zf5: ∀ {ns:List Int} {i:Int},i∈ns->Builtin.Int.intBits i<=WData.weightAll (ns.map WData.int)
 | n::r,i,h=>by
  rw [qaM,WData.weightAll]
  rcases qaP.mp h with e | e
  ·subst e
   have:WData.weight (.int i)=Builtin.Int.intBits i:=by simp only [WData.weight,Builtin.Int.intBits]
   omega
  ·have:=zf5 e
   omega
theorem zus {ns:List Int} (h:WData.layableAll [WData.list (ns.map WData.int)]=true): ∀ i∈ns,Builtin.Int.intBits i<=2^20:=by
 intro i hi
 have h2:WData.weight (WData.list (ns.map WData.int))<=2^20:=by
  simp only [WData.layableAll,List.all_cons,List.all_nil,Bool.and_true,WData.layable,qaG,qaD] at h
  exact h.2
 have h3:WData.weight (WData.list (ns.map WData.int))=WData.weightAll (ns.map WData.int):=by simp only [WData.weight]
 have:=zf5 hi
 omega
end Att
namespace L2
open PySem PySem.Spec PyProof.Rows
end L2
namespace L3
open PySem PySem.Spec PyProof.Rows L2 LT
section
variable {X:Cx} {E:XE}
noncomputable def zj2 (i j:Int):Bool:=decide (Builtin.Int.intBits i+Builtin.Int.intBits j<=2^26)
theorem zlZ {i j:Int} (h:zj2 i j=true):IntMulOk i j:=by
 unfold zj2 at h
 rw [qaD] at h
 unfold IntMulOk
 intro z
 rw [qaG] at z
 have z2:=z.2
 unfold Builtin.Int.intTooBig at z2
 have hb:bitsLine=2^27:=rfl
 rw [qaD,hb] at z2
 omega
theorem zpr:OpR X (binaryOp .Mult) (rI (fun i j=>IntMulOk i j) fun i j=> .int (i*j)):=opI fun _ _ _ _ _ _ _ hc q=>mul_int q hc
noncomputable def zcQ:=dII (fun i j=>za8 i || za8 j || zj2 i j) fun i j=> .int (i*j)
theorem zbD:OpR X (binaryOp .Mult) (zde X.K E zcQ):=ziF (zpr) (fun i j h=>by
  rw [Bool.or_eq_true] at h
  rcases h with h | h
  · rcases (Bool.or_eq_true _ _).mp h with z | z
    · have:=zdb z
      exact IntMulOk.of_left (intBits_le_64 this.1 this.2)
    · have:=zdb z
      exact IntMulOk.of_right (intBits_le_64 this.1 this.2)
  · exact zlZ h) fun _ _ _ _=>by simp [Rel]
end
end L3
namespace PySem
open Sem (wp)
open AutoSeq1 (wpAny_loadPart')
section
variable {prog:Program} {w:World} {A:Around} {E:Value->Shared->Prop} {s:Shared}
end
end PySem
namespace L2
open PySem PySem.Spec PyProof.Rows LT
theorem zft: ∀ (ns:List Int) (us:List Value),ns.length=us.length->(∀ (j:Nat) u,us[j]? = some u-> ∃ t,u=Value.int (ns.getD j 0) t)->zba (ns.map V.int) us
 | [],[],_,_=> .nil
 | [],_::_,h,_=>by cases h
 | _::_,[],h,_=>by cases h
 | n::ns,u::us,h,hg=>by
  refine .cons ?_ (zft ns us (by simpa using h) fun j w e=> ?_)
  ·obtain ⟨t,e⟩:=hg 0 u rfl
   exact ⟨t,by simpa using e⟩
  ·obtain ⟨t,e⟩:=hg (j+1) w (by simpa using e)
   exact ⟨t,by simpa using e⟩
section
variable {X:Cx}
theorem zfi:zaV X (.type "range") (fun xs H Q=> ∃ j:Int,xs=[.int j]/\ ∀ p,H p=none->Q (.ref p) (upd H p (.rng 0 j))):=by
 intro pins s σ H xs us Q I r h
 obtain ⟨j,rfl,q⟩:=h
 obtain ⟨u,rfl,rx⟩:=zeP r
 obtain ⟨t,rfl⟩:=rx
 refine call_range_1 ?_
 exact ⟨.ref s.heap.objs.size,_,I.laid (t':=s.toks+1+1) (o:= .rng 0 j) (fun b ob q=>qag _ q) (qaV _) ⟨_,_,_,qar _ rfl⟩,rfl,q _ (I.hok.fresh (qaV _))⟩
theorem znQ {j:Int} (h0:0<=j):Builtin.Range.rangeSize 0 j 1=(j.toNat:Int):=by
 unfold Builtin.Range.rangeSize
 rw [qa4 (by decide)]
 split
 ·rw [Int.ediv_one];omega
 ·omega
end
end L2
namespace L3
open PySem PySem.Spec PyProof.Rows L2 LT
section
variable {X:Cx} {E:XE} {e:Expr} {f:FE}
theorem ziK {K:W.Frag} {ι:Io} {H:Hp} {n:Nat}:zav K ι H (zdi 0 n) (((List.range n).map fun (k:Nat)=>(k:Int)).map V.int):=by
 have:zdi 0 n=((List.range n).map fun (k:Nat)=>(k:Int)).map D.int:=by unfold zdi;simp
 rw [this]
 exact zcT.mpr rfl
end
@[simp] theorem zaG {d:D} {r:Sd}:zag 0 (some d::r)=pure d:=rfl
@[simp] theorem zaP {n:Nat} {x:Option D} {r:Sd}:zag (n+1) (x::r)=zag n r:=rfl
noncomputable def zb9 (m:Int):Int->List D->Bool
 | _,[]=>true
 | l,.int i::r=>decide (l<=i) && decide (i<m) && zb9 m (i+1) r
 | _,_::_=>false
theorem zby {m:Int}: ∀ {xs:List Int} {l:Int},zb9 m l (xs.map D.int)=true↔xs.Pairwise (· < ·)/\ ∀ x∈xs,l<=x/\x<m
 | [],l=>by simp [zb9]
 | x::r,l=>by
  rw [qaM,zb9,qaG,qaG,zby (xs:=r) (l:=x+1),qay]
  simp only [qaD,qaP,forall_eq_or_imp]
  constructor
  ·rintro ⟨⟨h1,h2⟩,h3,h4⟩
   refine ⟨⟨fun y hy=> ?_,h3⟩,⟨h1,h2⟩,fun y hy=> ?_⟩
   ·have:=(h4 y hy).1;omega
   ·have:=h4 y hy;omega
  ·rintro ⟨⟨h1,h2⟩,⟨h3,h4⟩,h5⟩
   refine ⟨⟨h3,h4⟩,h2,fun y hy=> ?_⟩
   have a1:=h1 y hy
   have a2:=h5 y hy
   omega
theorem zgp {m:Int}: ∀ {ts:List D} {l:Int},zb9 m l ts=true->ts.all isI=true
 | [],_,_=>rfl
 | d::r,l,h=>by
  cases d<;>first
   | (simp [zb9] at h;done)
   | (rw [zb9,qaG] at h;rw [List.all_cons,zgp h.2];rfl)
theorem ziv: ∀ {ts:List D},ts.all isI=true-> ∃ xs:List Int,ts=xs.map D.int
 | [],_=>⟨[],rfl⟩
 | d::r,h=>by
  rw [List.all_cons,qaG] at h
  obtain ⟨xs,e⟩:=ziv h.2
  cases d<;>first
   | (simp [isI] at h;done)
   | (rename_i i;exact ⟨i::xs,by rw [e];rfl⟩)
theorem zeV {m:Int}: ∀ {ts:List D} {l:Int},zb9 m l ts=true->l<=m->(ts.length:Int)<=m - l
 | [],l,_,h=>by simp;omega
 | d::r,l,h,hl=>by
  cases d<;>first
   | (simp [zb9] at h;done)
   | (rename_i i
      rw [zb9,qaG,qaG,qaD,qaD] at h
      have:=zeV h.2 (by omega)
      simp
      omega)
def Bx (b:Nat) (h:Hh):Prop:= ∃ z:Int,h[b]? = some (.lst [.int z])
def Ext (b:Nat) (h h':Hh):Prop:=Bx b h'/\ ∀ (n:Nat) (c:C),n≠b->h[n]? = some c->h'[n]? = some c
theorem Ext.refl {b:Nat} {h:Hh} (q:Bx b h):Ext b h h:=⟨q,fun _ _ _ e=>e⟩
theorem Ext.trans {b:Nat} {h h1 h2:Hh} (p:Ext b h h1) (q:Ext b h1 h2):Ext b h h2:=⟨q.1,fun n c hn e=>q.2 n c hn (p.2 n c hn e)⟩
theorem Bx.set {b:Nat} {h:Hh} {z:Int} (q:Bx b h):Ext b h (h.set b (.lst [.int z])):=by
 obtain ⟨y,e⟩:=q
 have hl:=(qac.mp e).1
 exact ⟨⟨z,qai hl⟩,fun n c hn e=>by rw [qao (Ne.symm hn)];exact e⟩
theorem Bx.push {b:Nat} {h:Hh} {c:C} (q:Bx b h):Ext b h (h++[c]):=by
 obtain ⟨y,e⟩:=q
 have hl:=(qac.mp e).1
 refine ⟨⟨y,by rw [qad hl];exact e⟩,fun n c' hn e=> ?_⟩
 rw [qad (qac.mp e).1]
 exact e
theorem zc4 {j:Int} (h0:0<=j) (h:j<1000):zmu [.int j]=pure (zdi 0 j.toNat):=by
 show (if zbN j=true then _ else _)=_
 rw [qa4 (by unfold zbN;simp;omega)]
theorem zgP {n:Nat} {d:D} (h:d∈zdi 0 n): ∃ i:Int,d= .int i/\0<=i/\i<n:=by
 unfold zdi at h
 obtain ⟨k,hk,e⟩:=qaU.mp h
 have:=List.mem_range.mp hk
 exact ⟨0+(k:Int),e.symm,by omega,by omega⟩
theorem zem {n:Nat}:(zdi 0 n).length=n:=by unfold zdi;simp
theorem zdC (n:Nat):zdi 0 n=((List.range n).map fun (k:Nat)=>(k:Int)).map D.int:=by unfold zdi;simp
theorem zl7 {α:Type} {c:Prop} [Decidable c] {a b:M α} {h:Hh} {P:α->Hh->Prop}:wp (if c then a else b) h P↔if c then wp a h P else wp b h P:=by split<;>exact Iff.rfl
theorem zqA {m:Int} (h0:0<=m) (h:m<=1000):zvl (.int 1) (.int m)=pure (.int (1*2^m.toNat)):=by
 show (if zrv 1 m=true then _ else _)=_
 rw [qa4 (by unfold zrv;simp;omega)]
theorem zqK {i m:Int} (h0:0<=m):zve (.int i) (.int m)=pure (.int (i / 2^m.toNat)):=by
 show (if decide (0<=m)=true then _ else _)=_
 rw [qa4 (by simpa using h0)]
theorem zpF:zua (.int 10) (.int 12)=pure (.int 1000000000000):=by
 unfold zua dII
 simp only
 rw [qa4 (by decide)]
 rfl
theorem zrd (i:Int):Builtin.bitAnd i 1=i % 2:=by
 exact bitAnd_m1 i
theorem zdM {f:D->M (Option D)} {k:D->Option D} {h:Hh}: ∀ {ds:List D} {P:List D->Hh->Prop},(∀ x∈ds,wp (f x) h fun o h'=>o=k x/\h'=h)->P (ds.filterMap k) h->wp (zbS f ds) h P
 | [],P,_,q=>by rw [zbS,zam];exact q
 | x::r,P,hf,q=>by
  rw [zbS,zan]
  refine ziE (hf x qau) ?_
  rintro o h' ⟨rfl,rfl⟩
  rw [zan]
  refine zdM (k:=k) (fun y hy=>hf y (qan _ hy)) ?_
  rw [zam]
  cases e:k x with
  | none=>rw [qat,e] at q;exact q
  | some y=>rw [qat,e] at q;exact q
theorem zkt {fi:FA} {g:D->Sd->M Sd} {tc:FT} {te:FE} {src:List (Option Nat)} {sd:Sd} {ds:List D} {k:D->Option D} {h:Hh} {P:D->Hh->Prop} (hi:fi sd=pure ds) (hl:ds.length<=1000) (hf: ∀ x∈ds,wp (zbn g tc te (zaw src sd) x) h fun o h'=>o=k x/\h'=h) (q:P (.lst (ds.filterMap k)) h):wp (zaJ fi g tc te src sd) h P:=by
 unfold zaJ
 rw [hi]
 simp only [pure_bind]
 rw [zaA hl]
 simp only [pure_bind]
 rw [zan]
 refine zdM hf ?_
 rw [zam]
 exact q
theorem zpP {xs:List Int} {i:Int} (h:xs.Pairwise (· < ·)) (hi:i∉xs):(zbF (xs++[i])).Pairwise (· < ·):=by
 have hn:(xs++[i]).Nodup:=by
  rw [List.nodup_append]
  refine ⟨h.imp fun z=>by omega,by simp,fun a ha b hb=> ?_⟩
  simp at hb
  subst hb
  exact fun z=>hi (z▸ha)
 have hn2:(zbF (xs++[i])).Nodup:=(zau _).nodup_iff.mpr hn
 exact ((zdF (xs++[i])).and hn2).imp fun ⟨a,b⟩=>by omega
end L3
namespace L2
open PySem PySem.Spec PyProof.Rows L3
theorem zbV.there {P:Program} {w:World} {H:Hp} {h:Heap} {a:Addr} {o:HO} (x:zbV P w H h a o): ∃ ob,h.get? a=some ob:=by
 cases o with
 | lst xs=>obtain ⟨_,_,_,_,e⟩:=x;exact ⟨_,e⟩
 | tup xs=>obtain ⟨_,_,_,ob,e,_⟩:=x;exact ⟨ob,e⟩
 | dK kvs=>obtain ⟨_,_,_,_,ob,_,_,e,_⟩:=x;exact ⟨ob,e⟩
 | dT kvs=>obtain ⟨_,_,_,_,ob,_,_,e,_⟩:=x;exact ⟨ob,e⟩
 | set S n=>obtain ⟨ob,_,_,_,e,_⟩:=x;exact ⟨ob,e⟩
 | ins C dx fs=>obtain ⟨_,_,_,e,_⟩:=x;exact ⟨_,e⟩
 | own y=>exact x
 | xd fs=>obtain ⟨_,⟨ob,_,_,e,_⟩,_⟩:=x;exact ⟨ob,e⟩
 | rng lo hi=>obtain ⟨_,_,_,e⟩:=x;exact ⟨_,e⟩
 | frz ob u=>exact ⟨ob,x.1⟩
 | tbl ps=>exact ⟨_,x⟩
 | met f y=>exact ⟨_,x⟩
 | ext φ=>exact x.2.1
structure HS (H H':Hp) (h:Heap):Prop where
 free: ∀ b o,h.get? b=some o->H b=none->H' b=none
 tups: ∀ b xs,H b=some (.tup xs)->H' b=some (.tup xs)
 frzs: ∀ b o u,H b=some (.frz o u)->H' b=some (.frz o u)
 tbls: ∀ b ps,H b=some (.tbl ps)-> ∃ more,H' b=some (.tbl (ps++more))
structure FlB (P:Program) (w:World) (l:List Env) (H:Hp) (h:Heap) (H':Hp) (B:Heap):Prop where
 old: ∀ b o,h.get? b=some o->b∉frs l-> ∃ o',B.get? b=some o'/\(H b=none->o'=o)
 trk: ∀ b u,H' b=some u-> ∃ o,B.get? b=some o
 ok:HOk P w H' B
structure Fl (P:Program) (w:World) (l:List Env) (H:Hp) (s:Shared) (a C:Addr) (fl:Value) (H':Hp) (s':Shared):Prop where
 os:s'.os=s.os
 bare:AllBare s'.gens
 base: ∃ B:Heap,Fly B l a (.ref C) fl s'.heap/\FlB P w l H s.heap H' B
 slot: ∀ b o,s.heap.get? b=some o->H b=none->b∈frs l-> ∃ sl,s'.heap.get? b=some {o with slots:=sl}
 hs:HS H H' s.heap
section
variable {P:Program} {w:World} {l:List Env} {H H':Hp} {s s':Shared} {a C:Addr} {fl:Value}
theorem Fl.un (y:Fl P w l H s a C fl H' s'):Un (frs l) [] H H' s.heap s'.heap:=by
 obtain ⟨B,y1,y2⟩:=y.base
 refine ⟨fun b o e n hb _=> ?_,fun b o e n hb _=>y.slot b o e n hb,fun b o e n _=>y.hs.free b o e n,fun b o e _=> ?_,y.hs.tups,y.hs.frzs,y.hs.tbls⟩
 ·obtain ⟨o',e',q⟩:=y2.old b o e hb
  rw [<- q n]
  exact y1.stays b o' e'
 ·by_cases hb:b∈frs l
  ·obtain ⟨_,o',e',_⟩:=y1.frames.mem hb
   exact ⟨o',e'⟩
  ·obtain ⟨o',e',_⟩:=y2.old b o e hb
   exact ⟨o',y1.stays b o' e'⟩
theorem Fl.hok (y:Fl P w l H s a C fl H' s'):HOk P w H' s'.heap:=by
 obtain ⟨B,y1,y2⟩:=y.base
 exact y2.ok.kept y1.stays
theorem Fl.exc (y:Fl P w l H s a C fl H' s'): ∃ head,zie s'.heap a (.ref C) head:=by
 obtain ⟨B,y1,y2⟩:=y.base
 obtain ⟨hd,z,_⟩:=y1.exc
 exact ⟨hd,z⟩
theorem Fl.fresh (y:Fl P w l H s a C fl H' s'):s.heap.get? a=none/\H' a=none/\a∉frs l:=by
 obtain ⟨B,y1,y2⟩:=y.base
 have nf:a∉frs l:=fun z=>by
  obtain ⟨_,o,e,n⟩:=y1.frames.mem z
  obtain ⟨_,⟨ob,vs,e2,_,_,d,_⟩,_⟩:=y1.exc
  rw [e] at e2
  cases e2
  exact n vs d
 refine ⟨?_,?_,nf⟩
 ·cases q:s.heap.get? a with
  | none=>rfl
  | some o=>
   obtain ⟨o',e,_⟩:=y2.old a o q nf
   rw [y1.new] at e
   cases e
 ·cases q:H' a with
  | none=>rfl
  | some u=>
   obtain ⟨o',e⟩:=y2.trk a u q
   rw [y1.new] at e
   cases e
theorem Fl.mv {B h':Heap} {fl':Value} (os:s'.os=s.os) (bare:AllBare s'.gens) (slot: ∀ b o,s.heap.get? b=some o->H b=none->b∈frs l-> ∃ sl,s'.heap.get? b=some {o with slots:=sl}) (hs:HS H H' s.heap)
  (fr:s'.heap.FunFrames B l) (z:Fly B l a (.ref C) fl' h') (y:FlB P w l H s.heap H' B) (u:s'.heap.UpToSlots h'):Fl P w l H s a C fl' H' {s' with heap:=h'}:=by
 refine ⟨os,bare,⟨B,z,y⟩,fun b o e n hb=> ?_,hs⟩
 obtain ⟨sl,e2⟩:=slot b o e n hb
 obtain ⟨_,o2,e3,n3⟩:=fr.mem hb
 rw [e2] at e3
 cases e3
 obtain ⟨sl',e4⟩:=u b _ e2 n3
 exact ⟨sl',e4⟩
section
variable {M:Model} {A:Around} {E:Value->Shared->Prop} {env:Env} {outer:List Env} {L:Addr} {Q:Unit->Shared->Prop}
theorem Fl.off (y:Fl P w l H s a C fl H' s') (k: ∀ h',Fl P w l H s a C .none H' {s' with heap:=h'}->Q () {s' with heap:=h'}):wpAny M A (setFlight (.ref a) none) Q E s':=by
 obtain ⟨B,y1,y2⟩:=y.base
 exact zf6 y1 fun h' z u=>k h' (Fl.mv y.os y.bare y.slot y.hs y1.frames z y2 fun b o e n=>⟨o.slots,u b o e n⟩)
end
end
structure zp2 (X:Cx):Prop where
 stk:X.stack=X.env::X.outer
 frm:X.env.frame=some X.env.locals
 ex:X.ex=[]
theorem zp2.frs {X:Cx} (z:zp2 X):frs X.stack=X.env.locals::frs X.outer:=by
 rw [z.stk]
 unfold L2.frs
 rw [qat,z.frm]
section
variable {X:Cx} {pins:List (Addr×Obj)} {σ:St} {H H':Hp} {s s':Shared} {a C:Addr} {M:Model} {E:Value->Shared->Prop} {Q:Unit->Shared->Prop}
theorem Inv.below (I:Inv X pins σ H s) {b:Addr} {o:Obj} (e:X.s₀.heap.get? b=some o):b≠X.env.locals:=qaR (qaw (qaQ e) I.ok.above)
theorem Fl.made {h':Heap} {vs:List Value} (z:zp2 X) (I:Inv X pins σ H s) (m:Heap.MadeExcOf s.heap h' a (.ref C) vs) (k: ∀ s2,Fl X.prog X.w X.outer X.H₀ X.s₀ a C .none H s2->Q () s2):wpAny M X.A (leaving X.env (.ref a)) Q E {s with heap:=h'}:=by
 have nex: ∀ b,b∉X.ex:=fun b h=>by rw [z.ex] at h;cases h
 have hfr:=I.ok.frames
 have hl:=I.stack
 have hin: ∀ env∈X.stack, ∀ b,env.frame=some b->b∈frs X.stack:=fun env he b hb=>List.mem_filterMap.mpr ⟨env,he,hb⟩
 have hl2:=W.funFrames_hide hl hin
 have hl3:h'.FunFrames (W.hideAll s.heap (frs X.stack)) X.stack:=hl2.of_keeps fun b o e _=>⟨o,m.keeps b o e,rfl⟩
 have inB: ∀ {b:Addr} {o:Obj},s.heap.get? b=some o->b∉frs X.stack->(W.hideAll s.heap (frs X.stack)).get? b=some o:=fun e n=>W.hideAll_get _ e n
 have ofB: ∀ {b:Addr} {o:Obj},(W.hideAll s.heap (frs X.stack)).get? b=some o->s.heap.get? b=some o:=fun e=>W.of_hideAll _ e
 have trk: ∀ b u,H b=some u->b∉frs X.stack:=fun b u e hm=>by rw [I.stkFree b hm] at e;cases e
 have newB:(W.hideAll s.heap (frs X.stack)).get? a=none:=by
  cases q:(W.hideAll s.heap (frs X.stack)).get? a with
  | none=>rfl
  | some o=>have:=ofB q;rw [m.new] at this;cases this
 have hst:=z.stk
 refine zij (B:=W.hideAll s.heap (frs X.stack)) (by rw [<- hst];exact hfr) (by rw [<- hst];exact hl3) z.frm (znt m) (fun b o e=>m.keeps b o (ofB e)) newB fun h2 q u=>k _ ?_
 have nin: ∀ b o,X.s₀.heap.get? b=some o->b∉frs X.outer->b∉frs X.stack:=fun b o e hb hm=>by
  rw [z.frs] at hm
  rcases qaP.mp hm with r | r
  ·exact I.below e r
  ·exact hb r
 refine ⟨I.os,I.bare,⟨_,q,fun b o e hb=> ?_,fun b v e=> ?_,fun b v e=> ?_⟩,fun b o e n hb=> ?_,fun b o e n=>I.base.free b o e n (nex b),I.base.tups,I.base.frzs,I.base.tbls⟩
 ·obtain ⟨o1,e1⟩:=I.base.there b o e (nex b)
  refine ⟨o1,inB e1 (nin b o e hb),fun n=> ?_⟩
  have e3:=I.base.keep b o e n hb (nex b)
  rw [e1] at e3
  cases e3
  rfl
 ·obtain ⟨o,e1⟩:=(I.hok b v e).there
  exact ⟨o,inB e1 (trk b v e)⟩
 ·refine (I.hok b v e).stay (fun c o hc e1=>inB e1 ?_) (fun _ r=>r) fun _ _ r=>r
  rcases hc with rfl | hc
  ·exact trk _ v e
  ·exact trk _ _ hc
 ·obtain ⟨sl,e1⟩:=I.base.slot b o e n hb (nex b)
  have hb2:b∈frs X.stack:=by rw [z.frs];exact qan _ hb
  obtain ⟨_,o3,e3,n3⟩:=hl.mem hb2
  rw [e1] at e3
  cases e3
  obtain ⟨sl4,e4⟩:=u b _ (m.keeps b _ e1) n3
  exact ⟨sl4,e4⟩
end
noncomputable def CXE (P:Program) (w:World):CXT:=fun outer H s E e s'=> ∃ a C H',e= .ref a/\Fl P w outer H s a C .none H' s'/\E e (some C) H'
end L2
namespace L3
open PySem PySem.Spec PyProof.Rows L2
def zjY (K:W.Frag) (c:String) (C:Addr):Prop:=W.nsIn K mainGlobals (c:Str)=some (some (.ref C))
noncomputable def zwd (K:W.Frag) (E:XK):XE:=fun c H'=> ∀ C v,zjY K c C->E v (some C) H'
section
variable {P:Program} {w:World} {K:W.Frag} {mg:Str->Option Value} {base:Heap} {N:List Str} {qual:Str} {scope:Scope} {f:Addr} {cd:Value} {A:Around} {outer:List Env} {s:Shared} {H:Hp} {E:XK}
end
noncomputable def noX {α:Type} (m:M α):M α:=fun h=>match m h with
 | .exc _ _=> .bad
 | r=>r
theorem Fin.noX {α:Type} {K:W.Frag} {E E':XE} {ι:Io} {H:Hp} {m:M α} {h:Hh} {P:α->Io->Hp->Prop} (q:Fin K E ι H (L3.noX m h) P):Fin K E' ι H (m h) P:=by
 unfold L3.noX at q
 cases e:m h with
 | ok a h'=>rw [e] at q;exact q
 | exc c h'=>rw [e] at q;exact qa0 q
 | bad=>rw [e] at q;exact q
noncomputable def spE (K:W.Frag) (n:Nat) (F:List D->M D):Sp:=fun vs H Q E=>vs.length=n/\ ∃ ι h ds,zav K ι H ds vs/\zbm K ι H h/\Fin K (zwd K E) ι H (F ds h) fun d ι' H'=> ∀ v,Rel K ι' H' d v->Q v H'
section
variable {P:Program} {w:World} {K:W.Frag} {mg:Str->Option Value} {base:Heap}
end
section
variable {X:Cx} {E:XE} {e:Expr} {es:List Expr} {pos p:Pos}
end
end L3
namespace L2
open PySem PySem.Spec PyProof.Rows L3
structure zgo (k:Nat) (A:Around):Prop where
 dp:A.depth+3*k+5<recursionLimit
 un:A.units+16*k+200<cLine
theorem zgo.of {k:Nat} {A:Around} (r:zeq k A):zgo k A:=⟨r.dp,r.un⟩
theorem zgo.deeper {k:Nat} {A:Around} (r:zgo (k+1) A) (env:Env):zgo k (A.deeper env):=
 ⟨by have:=r.dp;show A.depth+1+3*k+5<_;omega,by have:=r.un;show A.units+3+16*k+200<_;omega⟩
theorem zgo.mono {j k:Nat} {A:Around} (r:zgo k A) (h:j<=k):zgo j A:=⟨by have:=r.dp;omega,by have:=r.un;omega⟩
structure FnH (P:Program) (w:World) (K:W.Frag) (mg:Str->Option Value) (base:Heap) (k:Nat) (f:Addr) (fd:FuncData) (ps:List Str) (sp:Sp):Prop where
 len: ∀ vs H Q E,sp vs H Q E->vs.length=ps.length
 run: ∀ (A:Around) (outer:List Env) (s:Shared) (H:Hp) (args:Args) (us:List Value) (vs:List V) (Q:VK),zgo k A->zo3 P w K mg base A outer s H->BindsTo s fd args (ps.zip us)->zba vs us->sp vs H Q E0->
  codeAny (model P w) A (.call (.ref f) args) (CR CX0 outer P w H s Q E0) s
section
variable {X:Cx} {pins:List (Addr×Obj)} {σ:St} {H H':Hp} {s s':Shared} {a:Addr} {o:Obj}
end
section
variable {X:Cx} {pins:List (Addr×Obj)} {σ:St} {H H':Hp} {s s':Shared} {a C CE:Addr} {ce en:Str} {pce pos:Pos} {b₀:Stmt} {suite:List Stmt} {j:Nat} {Q:Flow->Shared->Prop} {E:Value->Shared->Prop}
end
noncomputable abbrev zo9:List Value:=[.type "ValueError",.type "Exception",.type "BaseException",.type "object"]
section
variable {X:Cx} {pins pins':List (Addr×Obj)} {σ:St} {H H':Hp} {s s':Shared} {xe:Value->Shared->Prop}
end
end L2
namespace L3
open PySem PySem.Spec PyProof.Rows L2
section
variable {X:Cx} {pins:List (Addr×Obj)} {σ:L2.St} {H:Hp} {s:Shared} {a C:Addr} {o:Obj} {vs:Array Value} {head:Value} {c:String} {gk en pe:Str} {p1 p2 p3:Pos} {j k:Nat} {fk:Addr} {fdk:FuncData} {Fk:List D->M D} {Qv:VK} {ι:Io} {h:Hh}
end
section
variable {X:Cx} {E:XE} {body:List Stmt} {ce en gk pe x:Str} {pce p1 p2 p3 p4 p5 hp pos:Pos} {CE fk:Addr} {fdk:FuncData} {Fk:List D->M D} {gb:FS} {j k i:Nat} {known:List String}
noncomputable def zsK (c:String):FS:=fun _ h=> .exc c h
end
end L3
namespace L3
open PySem PySem.W
section
variable {prog:Program} {w:World} {A:Around} {E:Value->Shared->Prop} {s:Shared} {K:Frag} {x D:Addr} {ox:Obj}
end
end L3
namespace L3
open PySem PySem.Spec PyProof.Rows L2
noncomputable def kxb (K:W.Frag) (C:Addr):Bool:=(W.clsIn K C).isSome && W.findIn K (.ref C) "__getattribute__"==some (some (.builtin "BaseException.__getattribute__")) && W.findIn K (.ref C) "__getattr__"==some none && W.findIn K (.ref C) "__class__"==some (some (.builtin "object.__class__"))
 && W.specialIn K (.builtin "object.__class__") "__get__"==some (some (.builtin "getset_descriptor.__get__")) && W.takesIn K (.builtin "object.__class__")==some true && W.mroIn K C (.type "object")==some true && W.mroIn K C (.type "BaseException")==some true
structure zuM (K:W.Frag) (CE:Addr) (names:List String) (c:String) (C:Addr):Prop where
 exc:W.excIn K C zo9 "ValueError.__new__"=true
 cov:W.exmOne K (.ref C) (.ref CE)=some true
 kx:kxb K C=true
 ve:W.kitOne K (.ref C) (.type "ValueError")=some true
 one: ∀ c'∈names, ∀ C',zjY K c' C'->W.kitOne K (.ref C) (.ref C')=some (c==c')
def zub (K:W.Frag) (CE:Addr) (names:List String):Prop:= ∀ c∈names, ∀ C,zjY K c C->zuM K CE names c C
noncomputable def zoK (K:W.Frag) (CE:Addr) (tab:List (String×Addr)):Bool:=tab.all fun p=>W.nsIn K mainGlobals (p.1:Str)==some (some (.ref p.2)) && W.excIn K p.2 zo9 "ValueError.__new__" && W.exmOne K (.ref p.2) (.ref CE)==some true && kxb K p.2 && W.kitOne K (.ref p.2) (.type "ValueError")==some true
 && tab.all fun r=>W.kitOne K (.ref p.2) (.ref r.2)==some (p.1==r.1)
theorem zub.of {K:W.Frag} {CE:Addr} {tab:List (String×Addr)} (h:zoK K CE tab=true):zub K CE (tab.map (·.1)):=by
 unfold zoK at h
 rw [List.all_eq_true] at h
 have key: ∀ c∈tab.map (·.1), ∀ C,zjY K c C->(c,C)∈tab:=fun c hc C hC=>by
  obtain ⟨p,hp,rfl⟩:=qaU.mp hc
  have h1:=h p hp
  simp only [qaG,beq_iff_eq] at h1
  have e:=h1.1.1.1.1.1
  unfold zjY at hC
  rw [hC] at e
  cases e
  exact hp
 intro c hc C hC
 have h1:=h _ (key c hc C hC)
 simp only [qaG,beq_iff_eq,List.all_eq_true] at h1
 obtain ⟨⟨⟨⟨⟨a1,a2⟩,a3⟩,a4⟩,a5⟩,a6⟩:=h1
 exact ⟨a2,a3,a4,a5,fun c' hc' C' hC'=>a6 _ (key c' hc' C' hC')⟩
theorem zub.known {K:W.Frag} {CE:Addr} {names:List String} (h:zub K CE names): ∀ c∈names, ∀ C,zjY K c C->W.exmOne K (.ref C) (.ref CE)=some true:=fun c hc C hC=>(h c hc C hC).cov
section
variable {X:Cx} {E:XE}
variable {a:Expr} {p1 p2 pos:Pos} {fa:FE} {CE CC:Addr} {names:List String}
end
end L3
namespace L3
open PySem
section
variable {prog:Program} {w:World} {A:Around} {E:Value->Shared->Prop} {s:Shared}
end
end L3
namespace L2
open PySem PySem.Spec PyProof.Rows L3
section
variable {X:Cx}
theorem zj0:MtM X "list.extend" (fun x vs H Q=> ∃ l b xs zs,x= .ref l/\vs=[.ref b]/\H l=some (.lst xs)/\SqT X.K H b zs/\xs.length+zs.length<=sizeLine/\Q .non (upd H l (.lst (xs++zs)))):=by
 intro pins s σ H x vs v us Q I rx rv h
 obtain ⟨l,b,xs,zs,rfl,rfl,hH,hB,hz,q⟩:=h
 cases rx
 obtain ⟨u,rfl,ru⟩:=zeP rv
 cases ru
 obtain ⟨z,its,n,r,hl,e⟩:=I.lstM hH
 obtain ⟨its2,r2,⟨ob,e2,c2,n2,d2⟩,z2⟩:=I.tuple hB
 have l2:=r2.length
 have hsz:its.toArray.size+its2.toArray.size<=sizeLine:=by rw [qaA,qaA];omega
 refine wpAny_call (codeAny_call_builtin F.slot_list_extend.plain F.entry_list_extend (F.slot_list_extend.check _ _ _ _ _ _ _ _ ⟨_,e,rfl⟩ (F.args_list_extend_2 _ _) ?_))
 unfold Builtin.«list.extend»
 refine qaW (qaX ?_)
 unfold Builtin.List.listExtendWith
 refine qaW (wpAny_typeOf ⟨ob,e2,c2⟩ ?_)
 have h1:(Builtin.List.listSameRef (.ref l) (.ref b) || Value.type "tuple"==Value.type "list" || Value.type "tuple"==Value.type "tuple")=true:=by simp
 simp only [h1,if_true]
 unfold Builtin.List.listItems
 refine qaW (qaW (wpAny_seqItems e2 d2 (qaX ?_)))
 refine qaW (qaW (wpAny_seqItems e rfl (qaX ?_)))
 rw [qa5 (by rw [zje hsz,Bool.and_false];exact Bool.false_ne_true)]
 refine qaW (wpAny_updateSeq e rfl ?_ (by rw [qaA];omega))
 refine qaX ?_
 refine ⟨.non,_,I.lset (its':=its++its2) hH e (by simp) (r.append r2) ?_,rfl,q⟩
 rw [qav]
 omega
end
end L2
namespace L3
open PySem PySem.Spec PyProof.Rows L2
noncomputable def zv9 (f:FE):FE:=fun sd=>noX (f sd)
noncomputable def zwC (f:FS):FS:=fun sd=>noX (f sd)
section
variable {X:Cx} {E:XE} {a e o:Expr} {es:List Expr} {pos p cpos apos:Pos} {f fo fe fa:FE} {fs:FA} {x:Str}
noncomputable def zd4 (x y:D):M D:=match x,y with
 | .cel n,.tup zs=>do
  let ds<-zao n
  fits (ds.length+zs.length)
  zbE n (ds++zs)
  pure .non
 | _,_=>M.bad
noncomputable def zgT (fo fe:FE):FE:=fun sd=>do
 let x<-fo sd
 zdn x
 let y<-fe sd
 zd4 x y
theorem zjf (ho:SE X E o fo) (he:SE X E e fe)
  (hbase:attributeBase o "extend" X.env (eval o X.env)=eval o X.env:=by rfl)
  (hfew:((backTo cpos (starEach [e] X.env)).all (fun x=> !x.1) && (backToKw cpos (keywordEach [] X.env)).all (fun x=>x.1.isSome)
    && decide (([e]:List Expr).length+([]:List Keyword).length+(if ([]:List Keyword).isEmpty then 0 else 1)<30))=true:=by rfl)
  (hline:(apos.endLine==cpos.line)=true:=by rfl) (hs:starEach [e] X.env=(false,eval e X.env)::starEach [] X.env:=by rfl) (hplain:(backTo cpos (starEach [] X.env)).any (·.1)=false:=by rfl):
  SE X E (.Call (.Attribute o "extend" apos) [e] [] cpos) (zgT fo fe):=by
 refine PE.imp (zpH PySem.F.plainAttrs_list PySem.F.slot_list_extend PySem.F.type_list_extend zj0 ho (zbZ he zdh hs) hbase hfew hline hs hplain) fun σ H Q ⟨ι,h,sd,L,hh,q⟩=>⟨ι,h,sd,L,hh,Fin.bind q fun d h1 ι1 H1 e1 s1 hr1 q1 v rv=> ?_⟩
 cases d with
 | cel n=>
  have q2:Fin X.K E ι1 H1 ((zao n>>=fun _=>fe sd>>=fun y=>zd4 (.cel n) y) h1) (fun d ι' H'=> ∀ v,Rel X.K ι' H' d v->Q v H'):=by
   have ee:(zdn (.cel n)>>=fun _=>fe sd>>=fun y=>zd4 (.cel n) y:M D)=(zao n>>=fun _=>fe sd>>=fun y=>zd4 (.cel n) y):=by
    show ((zao n>>=fun _=>pure ())>>=fun _=>fe sd>>=fun y=>zd4 (.cel n) y)=_
    simp only [bind_assoc,pure_bind]
   rw [<- ee]
   exact q1
  obtain ⟨ds,e2,q3⟩:=zex q2
  obtain ⟨a,vs,rfl,hn,hH,rl⟩:=hr1.read rv e2
  refine ⟨.inl ⟨rfl,vs,SqL.of hH⟩,ι1,h1,sd,L.step s1,hr1,Fin.bind q3 fun y h3 ι3 H3 e3 s3 hr3 q4 w rw'=> ?_⟩
  have rv3:=rv.step s3
  cases y with
  | tup zs=>
   have q5:Fin X.K E ι3 H3 ((zao n>>=fun ds=>fits (ds.length+zs.length)>>=fun _=>zbE n (ds++zs)>>=fun _=>pure D.non) h3) (fun d ι' H'=> ∀ v,Rel X.K ι' H' d v->Q v H'):=q4
   obtain ⟨ds3,e4,q6⟩:=zex q5
   obtain ⟨a3,vs3,ea,hn3,hH3,rl3⟩:=hr3.read rv3 e4
   cases ea
   obtain ⟨b,ws,eb,hb,rlb⟩:=zcO rw'
   obtain ⟨z,q7⟩:=Fin.fits q6
   refine ⟨a,b,vs3,ws,rfl,by rw [eb],hH3,hb,by rw [<- rl3.length, <-rlb.length];exact z,?_⟩
   have q8:Fin X.K E ι3 H3 (R.ok D.non (h3.set n (.lst (ds3++zs)))) (fun d ι' H'=> ∀ v,Rel X.K ι' H' d v->Q v H'):=q7
   exact q8 ι3 _ (hr3.cellS hn3) (hr3.cell hn3 (rl3.append rlb)) _ (by simp [Rel])
  | _=>exact qa0 q4
 | _=>exact qa0 q1
end
section
variable {P:Program} {w:World} {K:W.Frag} {mg:Str->Option Value} {base:Heap}
end
section
variable {X:Cx} {E:XE} {body:List Stmt} {ce en gk pe x:Str} {pce p1 p2 p3 p4 p5 hp pos:Pos} {CE fk:Addr} {fdk:FuncData} {Fk:List D->M D} {gb:FS} {k:Nat} {known:List String}
end
noncomputable def ztY (Fs:List (List D->M D)) (i:D):M (List D->M D):=match i with
 | .int j=>(match ixN Fs.length j with
   | some m=>ofO Fs[m]?
   | none=>M.bad)
 | _=>M.bad
noncomputable def zuq (n:Nat) (Fs:List (List D->M D)) (fi:FE) (fs:FA):FE:=fun sd=>do
 let i<-fi sd
 let F<-ztY Fs i
 let ds<-fs sd
 zar n F ds
structure Fns (X:Cx) (n:Nat) (addrs:List Addr) (Fs:List (List D->M D)):Prop where
 len:Fs.length=addrs.length
 ok: ∀ (m:Nat) (F:List D->M D) (a:Addr),Fs[m]? = some F->addrs[m]? = some a-> ∃ k fd ps,zbr X.prog X.w X.K X.mg X.base (CXE X.prog X.w) k a fd ps (spE X.K n F)/\zeq k X.A/\W.keepIn X.K (.ref a)=true/\zaE X.K fd ps []
theorem Fns.nil {X:Cx} {n:Nat}:Fns X n [] []:=⟨rfl,fun m F a h=>by simp at h⟩
theorem Fns.cons {X:Cx} {n k:Nat} {a:Addr} {F:List D->M D} {addrs:List Addr} {Fs:List (List D->M D)} {fd:FuncData} {ps:List Str} (G:zbr X.prog X.w X.K X.mg X.base (CXE X.prog X.w) k a fd ps (spE X.K n F)) (hr:zeq k X.A) (hk:W.keepIn X.K (.ref a)=true) (hb:zaE X.K fd ps []) (h:Fns X n addrs Fs):Fns X n (a::addrs) (F::Fs):=by
 refine ⟨by simp [h.len],fun m F' a' h1 h2=> ?_⟩
 cases m with
 | zero=>simp at h1 h2;subst h1 h2;exact ⟨k,fd,ps,G,hr,hk,hb⟩
 | succ m=>simp at h1 h2;exact h.ok m F' a' h1 h2
section
variable {X:Cx} {E:XE} {e ix:Expr} {es fes:List Expr} {pos p q3 q4:Pos} {fi:FE} {fs:FA} {x:Str}
end
end L3
namespace L2
open PySem PySem.Spec PyProof.Rows
noncomputable def Itd (lo:Int) (n:Nat):It:=⟨fun i _=>i<n,fun i H x H'=>H'=H/\x= .int (lo - i),fun i _=>n<=i⟩
theorem zl1 {P:Program} {w:World} {K:W.Frag} {tg:Expr} (it:Addr) (lo:Int) (n:Nat):zp1 P w K tg (Itd lo n) [it] it (fun i h=>IsRangeIter h it (lo - (i:Nat)) ((n:Int) - (i:Nat)) (-1)) where
 mem:=by simp
 obj:=fun i h st b hb=>by
  have e:b=it:=by simpa using hb
  subst e
  exact ⟨_,st,fun v z=>by
    have z':Data.fields _=Data.cell v:=z
    cases z'⟩
 keep:=fun i h h' st k=>k it (by simp) _ st
 item:=by
  intro X hP hw hK i pins s σ H E I hf st hg
  subst hP hw hK
  obtain ⟨f0,f1,f2,f3,f4,f5⟩:=hf it (by simp)
  refine wpAny_pyNext_range_item st (by have:i<n:=hg;omega) fun h' st' kk=> ?_
  have e1:lo - (i:Nat)+ -1=lo - ((i+1:Nat):Int):=by omega
  have e2:(n:Int) - (i:Nat) - 1=(n:Int) - ((i+1:Nat):Int):=by omega
  rw [e1,e2] at st'
  have I1:Inv X pins σ H {s with heap:=h',toks:=s.toks+1}:=I.turned (fun b o hb e=>(kk.2 b hb).trans e) f0 f1 f3 f4 f5
  exact ⟨_,rfl,zoq (s:={s with heap:=h',toks:=s.toks+1}) (n:="range_iterator") st' rfl rfl (by decide) ⟨.int (lo - i),H,I1,⟨s.toks,rfl⟩,⟨rfl,rfl⟩,st',fun b hb=>(hf b hb).1⟩⟩
 done:=by
  intro X hP hw hK i pins s σ H E I hf st hg
  subst hP hw hK
  obtain ⟨f0,f1,f2,f3,f4,f5⟩:=hf it (by simp)
  exact L3.zho I.hand st (by have:n<=i:=hg;omega) fun h' eb=>⟨rfl,I.turned (t':=s.toks) (fun b o hb e=>eb b o hb e) f0 f1 f3 f4 f5⟩
 self:=fun _ _ _ _ _ st h=>wpAny_pyIter_rangeiter st h
theorem zhl {a b:Int}:Builtin.Range.rangeSize a b (-1)=((a - b).toNat:Int):=by
 unfold Builtin.Range.rangeSize
 rw [qa5 (by decide)]
 split
 ·rw [show (-(-1):Int)=1 by decide,Int.ediv_one];omega
 ·omega
theorem zkk {a b:Int} (ha: -1000<=a) (ha':a<1000) (hb: -1000<=b) (hb':b<1000):Builtin.Range.small a b (-1)=true:=by
 unfold Builtin.Range.small
 rw [zhl]
 simp only [Builtin.Range.rangeFitsLong,qaG,Bool.or_eq_true,qaD,beq_iff_eq,show ¬(-1:Int)>0 by decide,if_false]
 omega
section
variable {X:Cx} {tg:Expr}
noncomputable def zu8 (ta:TA):TI:=fun σ H R=>ta σ H fun vs H1=> ∃ i j:Int,vs=[.int i,.int j,.int (-1)]/\(-1000<=i/\i<1000/\ -1000<=j/\j<1000)/\R (Itd i (i - j).toNat) H1
theorem zmc {a b c:Expr} {ta:TA} {p pos:Pos} (hg:Gl X "range") (hm:X.mg "range"=none) (ha:PA X [a,b,c] ta) (hs:starEach [a,b,c] X.env=[(false,eval a X.env),(false,eval b X.env),(false,eval c X.env)]:=by rfl) (hs2:starEach [b,c] X.env=[(false,eval b X.env),(false,eval c X.env)]:=by rfl):
  PI X tg (.Call (.Name "range" p) [a,b,c] [] pos) (zu8 ta):=by
 intro pins s σ H R I h
 refine Call_ (ze8 I hg hm boot_range (PyProof.Rows.callWith_type1 (thn (ha pos pins s σ H _ I h) fun us s1 ⟨vs,H1,I1,r1,q1⟩=> ?_) (by rw [hs,hs2]) (by rw [hs2];rfl)))
 obtain ⟨i,j,e,⟨q1,q2,q3,q4⟩,q⟩:=q1
 subst e
 cases r1 with
 | cons r rr=>
  cases rr with
  | cons r' rr=>
   cases rr with
   | cons r'' rr=>
    cases rr
    obtain ⟨t,rfl⟩:=r
    obtain ⟨t',rfl⟩:=r'
    obtain ⟨t'',rfl⟩:=r''
    refine call_range_3 (by decide) ?_ (Or.inl (PyProof.noPylong_small (by decide)))
    refine wpAny_pyIter_range (IsRange.new ..) (zkk q1 q2 q3 q4) ?_
    have I2:Inv X pins σ H1 {s1 with heap:=s1.heap.push {cls:= .type "range",data:= .fields #[.int i t,.int j t',.int (-1) t'']},toks:=s1.toks}:=I1.kept fun b o e=>qag _ e
    refine ⟨(s1.heap.push {cls:= .type "range",data:= .fields #[.int i t,.int j t',.int (-1) t'']}).objs.size,[(s1.heap.push {cls:= .type "range",data:= .fields #[.int i t,.int j t',.int (-1) t'']}).objs.size],_,_,H1,rfl,
      I2.kept (t':=s1.toks) fun b o e=>qag _ e,zl1 _ i (i - j).toNat,?_,fun b hb=> ?_,q⟩
    ·have e1:i - ((0:Nat):Int)=i:=by simp
     have e2:(((i - j).toNat:Nat):Int) - ((0:Nat):Int)=Builtin.Range.rangeSize i j (-1):=by rw [zhl];simp
     show IsRangeIter _ _ (i - ((0:Nat):Int)) ((((i - j).toNat:Nat):Int) - ((0:Nat):Int)) (-1)
     rw [e1,e2]
     exact qar _ rfl
    ·have e:b=(s1.heap.push {cls:= .type "range",data:= .fields #[.int i t,.int j t',.int (-1) t'']}).objs.size:=by simpa using hb
     subst e
     exact I2.fpOk (qaV _) (I2.hok.fresh (qaV _))
theorem zeJ (hc:X.calm=true):zaV X (.type "list") (fun xs H Q=> ∃ (p:Addr) (j:Int),xs=[.ref p]/\H p=some (.rng 0 j)/\0<=j/\j<1000/\ ∀ l,H l=none->Q (.ref l) (upd H l (.lst (((List.range j.toNat).map fun (k:Nat)=>(k:Int)).map V.int)))):=by
 intro pins s σ H xs us Q I r h
 obtain ⟨p,j,rfl,hp,h0,h1,q⟩:=h
 obtain ⟨u,rfl,rx⟩:=zeP r
 cases rx
 obtain ⟨t,u',v,hr⟩:=(show zbV X.prog X.w H s.heap p (.rng 0 j) from I.hok p _ hp)
 refine call_list_range (I.ok.hd hc) hr (small_one (by omega) (by omega) (by omega) (by omega)) (znQ h0) (by omega) fun h' tk acc c' hk hS hacc=> ?_
 have hl:acc.toList.length=j.toNat:=by rw [qas];exact hacc.1
 have I2:=I.laid (t':=tk) (h':=h') (a:=s.heap.objs.size) (o:= .lst (((List.range j.toNat).map fun (k:Nat)=>(k:Int)).map V.int)) hk (qaV _)
  (show zbV X.prog X.w _ h' _ (.lst _) from ⟨by rw [qaH,qaH,List.length_range];exact qaS (show j.toNat<=1000 by omega) (by decide),acc.toList,c',zft _ _ (by rw [qaH,List.length_range,hl]) (fun k w e=> ?_),by simpa using hS⟩)
 ·exact ⟨.ref s.heap.objs.size,_,I2,rfl,q _ (I.hok.fresh (qaV _))⟩
 ·have hk':k<j.toNat:=by rw [<- hl];exact (qac.mp e).1
  obtain ⟨t,et⟩:=hacc.2 k w (by simpa using e)
  refine ⟨t,?_⟩
  rw [et]
  simp [hk']
end
end L2
namespace L3
open PySem PySem.Spec PyProof.Rows L2
section
variable {X:Cx} {E:XE} {e o:Expr} {f fo fe:FE} {pos apos cpos:Pos}
noncomputable def zbP (tc:FT) (gb:FS):Nat->FS
 | 0,_=>M.bad
 | n+1,sd=>do
  let b<-tc sd
  if b=true then
   let o<-gb sd
   match o with
   | .nx sd'=>zbP tc gb n sd'
   | .ct sd'=>zbP tc gb n sd'
   | .bk sd'=>pure (.nx sd')
   | .rt d=>pure (.rt d)
  else pure (.nx sd)
noncomputable def zeO (n:Nat) (tc:FT) (gb:FS):FS:=zbP tc gb n
theorem zgs {c:Expr} {body:List Stmt} {tc:FT} {gb:FS} (n:Nat) (hp:PassesOwn (model X.prog X.w) X.A X.env X.xe) (hc:ST X E c tc) (hb:SSs X E body gb):SS X E (.While c body [] pos) (zeO n tc gb):=by
 refine PS.imp (znn hp hc hb) fun D0 σ H ⟨ι,h,sd,L,hh,q⟩=> ?_
 refine ⟨fun m σ' H'=> ∃ ι' h' sd',zcK X.K ι' H' sd' σ'/\zbm X.K ι' H' h'/\Fin X.K E ι' H' (zbP tc gb m sd' h') (zhr X.K D0),⟨n,ι,h,sd,L,hh,q⟩,?_⟩
 rintro m σ2 H2 ⟨ι2,h2,sd2,L2,hr2,q2⟩
 cases m with
 | zero=>exact qa0 q2
 | succ m=>
  refine ⟨ι2,h2,sd2,L2,hr2,Fin.bind q2 fun b h3 ι3 H3 e3 s3 hr3 q3=> ?_⟩
  cases b with
  | true=>
   refine ⟨fun σ' H'=> ∃ ι' h' sd',zcK X.K ι' H' sd' σ'/\zbm X.K ι' H' h'/\Fin X.K E ι' H' (zbP tc gb m sd' h') (zhr X.K D0),fun σ' H' p=>⟨m,by omega,p⟩,ι3,h3,sd2,L2.step s3,hr3,Fin.bind q3 fun o h7 ι7 H7 e7 s7 hr7 q7=> ?_⟩
   cases o with
   | nx sd'=>exact fun σ' L'=>⟨ι7,h7,sd',L',hr7,q7⟩
   | ct sd'=>exact fun σ' L'=>⟨ι7,h7,sd',L',hr7,q7⟩
   | bk sd'=>exact fun σ' L'=>Fin.out (E:=E) (P:=zhr X.K D0) hr7 q7 σ' L'
   | rt d=>exact fun v rv=>Fin.out (E:=E) (P:=zhr X.K D0) hr7 q7 v rv
  | false=>exact Fin.out (E:=E) (P:=zhr X.K D0) hr3 q3 σ2 (L2.step s3)
noncomputable def zkd (lo:Int) (n:Nat):List D:=(List.range n).map fun (k:Nat)=>D.int (lo - (k:Int))
theorem zm7 {K:W.Frag} {ι:Io} {H:Hp} {lo:Int} {n:Nat}:zp4 K ι H (Itd lo n) (zkd lo n) where
 go:=fun ι' H' i s hi=>by show i<n;simpa [zkd] using hi
 yld:=fun ι' H' _ i x H2 s _ hi ⟨e,y⟩=>by
  subst e y
  have hi:i<n:=by simpa [zkd] using hi
  refine ⟨.inl rfl,.int (lo - i),?_,by simp [Rel]⟩
  simp [zkd,hi]
 stop:=fun ι' H' s=>by
  show n<=(zkd lo n).length
  simp [zkd]
noncomputable def zom:List D->M (List D)
 | [.int i,.int j,.int c]=>if (-1000<=i/\i<1000/\ -1000<=j/\j<1000)/\c= -1 then pure (zkd i (i - j).toNat) else M.bad
 | _=>M.bad
noncomputable def zro (fs:FA):FA:=fun sd=>do let ds<-fs sd;zom ds
theorem ztj {tg a b c:Expr} {p:Pos} {fs:FA} (hm:X.mg "range"=none) (ha:SA X E [a,b,c] fs) (hg:Gl X "range":=by rfl) (hs:starEach [a,b,c] X.env=[(false,eval a X.env),(false,eval b X.env),(false,eval c X.env)]:=by rfl) (hs2:starEach [b,c] X.env=[(false,eval b X.env),(false,eval c X.env)]:=by rfl):
  SI X E tg (.Call (.Name "range" p) [a,b,c] [] pos) (zro fs):=by
 refine PI.imp (zmc hg hm ha hs hs2) fun σ H Q ⟨ι,h,sd,L,hh,q⟩=>⟨ι,h,sd,L,hh,Fin.bind q fun ds h1 ι1 H1 e1 s1 hr1 q1 vs rv=> ?_⟩
 unfold zom at q1
 split at q1
 ·rename_i i j c'
  simp only [zav,Rel] at rv
  obtain ⟨v,r,rfl,rfl,v',r',rfl,rfl,v'',r'',rfl,rfl,rfl⟩:=rv
  by_cases hj:(-1000<=i/\i<1000/\ -1000<=j/\j<1000)/\c'= -1
  ·rw [qa4 hj] at q1
   obtain ⟨hj,rfl⟩:=hj
   exact ⟨i,j,rfl,hj,Fin.out hr1 q1 _ zm7⟩
  ·rw [qa5 hj] at q1
   exact qa0 q1
 ·exact qa0 q1
noncomputable def ziC:D->M D
 | .int j=>if 0<=j/\j<1000 then zdZ (zdi 0 j.toNat) else M.bad
 | _=>M.bad
theorem zod {p1 p2 pos pos2:Pos} (hc:X.calm=true) (hm1:X.mg "list"=none) (hm2:X.mg "range"=none) (he:SE X E e f) (hg1:Gl X "list":=by rfl) (hg2:Gl X "range":=by rfl)
  (h1:starEach [.Call (.Name "range" p2) [e] [] pos2] X.env=[(false,eval (.Call (.Name "range" p2) [e] [] pos2) X.env)]:=by rfl) (h2:starEach [e] X.env=[(false,eval e X.env)]:=by rfl):
  SE X E (.Call (.Name "list" p1) [.Call (.Name "range" p2) [e] [] pos2] [] pos) (cUn ziC f):=by
 refine PE.imp (zcR (zeJ hc) hg1 hm1 PyProof.Rows.boot_list (zbZ (zcR zfi hg2 hm2 boot_range (zbZ he zdh h2) (he:=h2)) zdh h1) (he:=h1)) fun σ H Q ⟨ι,h,sd,L,hh,q⟩=>⟨ι,h,sd,L,hh,Fin.bind q fun d h1 ι1 H1 e1 s1 hr1 q1 v rv=> ?_⟩
 cases d with
 | int j=>
  simp only [Rel] at rv
  obtain ⟨⟨c1,c2⟩,q2⟩:=Fin.guard q1
  refine ⟨j,by rw [rv],fun p hp=> ?_⟩
  have hr2:zbm X.K ι1 (upd H1 p (.rng 0 j)) h1:=hr1.laid hp
  exact ⟨p,j,rfl,zbd,c1,c2,fun l hl=>zvU hr2 ziK (Fin.step (hr1.laidS hp) q2) hl⟩
 | _=>exact qa0 q1
noncomputable def zgt:D->M D
 | .int j=>if 0<=j/\j<1000 then pure (.lst (zdi 0 j.toNat)) else M.bad
 | _=>M.bad
theorem zkD {p1 p2 pos pos2:Pos} (hc:X.calm=true) (hm1:X.mg "list"=none) (hm2:X.mg "range"=none) (he:SE X E e f) (hg1:Gl X "list":=by rfl) (hg2:Gl X "range":=by rfl)
  (h1:starEach [.Call (.Name "range" p2) [e] [] pos2] X.env=[(false,eval (.Call (.Name "range" p2) [e] [] pos2) X.env)]:=by rfl) (h2:starEach [e] X.env=[(false,eval e X.env)]:=by rfl):
  SE X E (.Call (.Name "list" p1) [.Call (.Name "range" p2) [e] [] pos2] [] pos) (cUn zgt f):=by
 refine PE.imp (zcR (zeJ hc) hg1 hm1 PyProof.Rows.boot_list (zbZ (zcR zfi hg2 hm2 boot_range (zbZ he zdh h2) (he:=h2)) zdh h1) (he:=h1)) fun σ H Q ⟨ι,h,sd,L,hh,q⟩=>⟨ι,h,sd,L,hh,Fin.bind q fun d h1 ι1 H1 e1 s1 hr1 q1 v rv=> ?_⟩
 cases d with
 | int j=>
  simp only [Rel] at rv
  obtain ⟨⟨c1,c2⟩,q2⟩:=Fin.guard q1
  refine ⟨j,by rw [rv],fun p hp=> ?_⟩
  have hr2:zbm X.K ι1 (upd H1 p (.rng 0 j)) h1:=hr1.laid hp
  exact ⟨p,j,rfl,zbd,c1,c2,fun l hl=>zqd hr2 ziK (Fin.step (hr1.laidS hp) q2) hl⟩
 | _=>exact qa0 q1
noncomputable def zfv (x y:D):M D:=match x,y with
 | .cel n,.int i=>do
  let ds<-zao n
  if 0<=i/\i<1000 then
   match ds[i.toNat]? with
   | some d=>do zbE n (ds.eraseIdx i.toNat);pure d
   | none=>M.bad
  else M.bad
 | _,_=>M.bad
noncomputable def zvG (fo fe:FE):FE:=fun sd=>do
 let x<-fo sd
 zdn x
 let y<-fe sd
 zfv x y
theorem zav.eraseIdx {K:W.Frag} {ι:Io} {H:Hp}: ∀ {ds:List D} {vs:List V} (i:Nat),zav K ι H ds vs->zav K ι H (ds.eraseIdx i) (vs.eraseIdx i)
 | [],vs,i,h=>by
  simp only [zav] at h
  subst h
  simpa using zav.nil
 | x::r,vs,i,h=>by
  simp only [zav] at h
  obtain ⟨v,vs',rfl,rv,rl⟩:=h
  cases i with
  | zero=>simpa using rl
  | succ i=>exact zav.cons rv (zav.eraseIdx i rl)
theorem zu7 (ho:SE X E o fo) (he:SE X E e fe)
  (hbase:attributeBase o "pop" X.env (eval o X.env)=eval o X.env:=by rfl)
  (hfew:((backTo cpos (starEach [e] X.env)).all (fun x=> !x.1) && (backToKw cpos (keywordEach [] X.env)).all (fun x=>x.1.isSome)
    && decide (([e]:List Expr).length+([]:List Keyword).length+(if ([]:List Keyword).isEmpty then 0 else 1)<30))=true:=by rfl)
  (hline:(apos.endLine==cpos.line)=true:=by rfl) (hs:starEach [e] X.env=(false,eval e X.env)::starEach [] X.env:=by rfl) (hplain:(backTo cpos (starEach [] X.env)).any (·.1)=false:=by rfl):
  SE X E (.Call (.Attribute o "pop" apos) [e] [] cpos) (zvG fo fe):=by
 refine PE.imp (zpH PySem.F.plainAttrs_list PySem.F.slot_list_pop PySem.F.type_list_pop zm9 ho (zbZ he zdh hs) hbase hfew hline hs hplain) fun σ H Q ⟨ι,h,sd,L,hh,q⟩=>⟨ι,h,sd,L,hh,Fin.bind q fun d h1 ι1 H1 e1 s1 hr1 q1 v rv=> ?_⟩
 cases d with
 | cel n=>
  have q2:Fin X.K E ι1 H1 ((zao n>>=fun _=>fe sd>>=fun y=>zfv (.cel n) y) h1) (fun d ι' H'=> ∀ v,Rel X.K ι' H' d v->Q v H'):=by
   have ee:(zdn (.cel n)>>=fun _=>fe sd>>=fun y=>zfv (.cel n) y:M D)=(zao n>>=fun _=>fe sd>>=fun y=>zfv (.cel n) y):=by
    show ((zao n>>=fun _=>pure ())>>=fun _=>fe sd>>=fun y=>zfv (.cel n) y)=_
    simp only [bind_assoc,pure_bind]
   rw [<- ee]
   exact q1
  obtain ⟨ds,e2,q3⟩:=zex q2
  obtain ⟨a,vs,rfl,hn,hH,rl⟩:=hr1.read rv e2
  refine ⟨.inl ⟨rfl,vs,SqL.of hH⟩,ι1,h1,sd,L.step s1,hr1,Fin.bind q3 fun y h3 ι3 H3 e3 s3 hr3 q4 w rw'=> ?_⟩
  have rv3:=rv.step s3
  cases y with
  | int i=>
   have q5:Fin X.K E ι3 H3 ((zao n>>=fun ds=>if 0<=i/\i<1000 then (match ds[i.toNat]? with | some d=>(zbE n (ds.eraseIdx i.toNat)>>=fun _=>pure d:M D) | none=>M.bad) else M.bad) h3) (fun d ι' H'=> ∀ v,Rel X.K ι' H' d v->Q v H'):=q4
   obtain ⟨ds3,e4,q6⟩:=zex q5
   obtain ⟨a3,vs3,ea,hn3,hH3,rl3⟩:=hr3.read rv3 e4
   cases ea
   simp only [Rel] at rw'
   by_cases hi:0<=i/\i<1000
   ·rw [qa4 hi] at q6
    cases ed:ds3[i.toNat]? with
    | none=>rw [ed] at q6;exact qa0 q6
    | some d=>
     rw [ed] at q6
     obtain ⟨y,ey,ry⟩:=zav.get rl3 ed
     have hlt:=(qac.mp ey).1
     refine ⟨a,vs3,i,i.toNat,y,rfl,by rw [rw'],hH3,by omega,by omega,?_,ey,?_⟩
     ·exact PySem.StrLaws.seqIndex_nonneg hi.1 (by omega)
     ·have q8:Fin X.K E ι3 H3 (R.ok d (h3.set n (.lst (ds3.eraseIdx i.toNat)))) (fun d ι' H'=> ∀ v,Rel X.K ι' H' d v->Q v H'):=q6
      exact q8 ι3 _ (hr3.cellS hn3) (hr3.cell hn3 (zav.eraseIdx _ rl3)) _ (ry.step (hr3.cellS hn3))
   ·rw [qa5 hi] at q6
    exact qa0 q6
  | _=>exact qa0 q4
 | _=>exact qa0 q1
end
end L3
namespace L3
open PySem
open Sem (wp)
open AutoSeq1 (wpAny_loadPart')
section
variable {prog:Program} {w:World} {A:Around} {E:Value->Shared->Prop} {s:Shared}
theorem zey {it l:Addr} {i:Nat} {items:Array Value} {x:Value} {Q:Value->Shared->Prop} (hit:s.heap.IsTupleIter it l i) (hl:s.heap.IsTuple l items) (hx:items[i]? = some x)
  (hQ: ∀ h',h'.IsTupleIter it l (i+1)->Heap.SameBut it s.heap h'->Q x {s with heap:=h'}):wpAny (model prog w) A (Builtin.SmallTypes.nextOf (.ref it)) Q E s:=by
 obtain ⟨o,ho,hc,hd⟩:=id hit
 obtain ⟨ol,hol,_,nl,hdl⟩:=hl
 unfold Builtin.SmallTypes.nextOf
 refine qaW (wpAny_callSpecial?_slot (name:=Str.ofString "__next__") hit.typeIs F.slot_tuple_iterator_next
   (wpAny_call_entry F.slot_tuple_iterator_next hit.typeIs F.entry_tuple_iterator_next ?_ (F.args_tuple_iterator_next_1 _)))
 show wpAny _ _ (field (.ref it) 0>>=_) _ _ s
 refine qaW (wpAny_field ho hd (x:= .ref l) rfl ?_)
 show wpAny _ _ (if (Value.ref l==Value.none)=true then _ else _) _ _ s
 rw [qa5 (show ¬((Value.ref l==Value.none)=true) from Bool.false_ne_true)]
 show wpAny _ _ (field (.ref it) 1>>=_) _ _ s
 refine qaW (wpAny_field ho hd (x:= .int i 0) rfl ?_)
 show wpAny _ _ (seqItems? (.ref l)>>=_) _ _ s
 refine qaW (wpAny_seqItems hol hdl ?_)
 simp only [qaB,hx]
 refine qaW (wpAny_setField ho hd (by simp) (qaX ⟨x,rfl,qaX (hQ _ ?_ (Heap.SameBut.update ..))⟩))
 exact ⟨_,qal _ ho (Obj.isFreed_of_fields (Obj.data_mapFields hd _)),(Obj.cls_mapFields ..).trans hc,by
   rw [Obj.data_mapFields hd];simp [rawInt]⟩
theorem zeR {it l:Addr} {i:Nat} {items:Array Value} {Q:Value->Shared->Prop} (hh:zk8 A s.heap) (hit:s.heap.IsTupleIter it l i) (hl:s.heap.IsTuple l items) (hx:items[i]? = none)
  (hE: ∀ h' e,Heap.ExtBut it s.heap h'->(∃ o,h'.get? e=some o/\o.cls= .type "StopIteration")->E (.ref e) {s with heap:=h'}):wpAny (model prog w) A (Builtin.SmallTypes.nextOf (.ref it)) Q E s:=by
 obtain ⟨o,h1,h2,h3⟩:=id hit
 obtain ⟨ol,l1,_,nl,l2⟩:=hl
 unfold Builtin.SmallTypes.nextOf
 refine qaW (wpAny_callSpecial?_slot (name:=Str.ofString "__next__") hit.typeIs F.slot_tuple_iterator_next
   (wpAny_call_entry F.slot_tuple_iterator_next hit.typeIs F.entry_tuple_iterator_next ?_ (F.args_tuple_iterator_next_1 _)))
 show wpAny _ _ (field (.ref it) 0>>=_) _ _ s
 refine qaW (wpAny_field h1 h3 (x:= .ref l) rfl ?_)
 show wpAny _ _ (if (Value.ref l==Value.none)=true then _ else _) _ _ s
 rw [qa5 (show ¬(Value.ref l==Value.none)=true from nofun)]
 show wpAny _ _ (field (.ref it) 1>>=_) _ _ s
 refine qaW (wpAny_field h1 h3 (x:= .int i 0) rfl ?_)
 show wpAny _ _ (seqItems? (.ref l)>>=_) _ _ s
 refine qaW (wpAny_seqItems l1 l2 ?_)
 simp only [qaB,hx]
 refine qaW (wpAny_rule (qaW (wpAny_setField h1 h3 (by simp) ?_)))
 show wpAny _ _ (newExc (.type "StopIteration") []>>=_) _ _ _
 refine qaW ?_
 simp only [newExc,newTuple]
 refine qaW (qaC ?_ (by size_fits))
 refine qaW (m:=firstArgMember _ _) (wpAny_of_eq (a:=Value.none) (by first | rfl | (simp only [firstArgMember];rfl)) ?_)
 refine qaC ?_ (by size_fits)
 rcases hh with hh | ⟨ha,cls,head,hh,hX⟩
 ·simp only [raiseNew]
  refine qaW (wpAny_handled ?_)
  first | rw [show A.in1.handled=none from hh] | rw [hh]
  refine qaW (qaX (wpAny_throw ?_))
  exact hE _ _ (((Heap.SameBut.update ..).extBut.push _).push _) ⟨_,qar _ rfl,rfl⟩
 have nit:ha≠it:=fun z=>by
  subst z
  obtain ⟨ob,vs,x1,_,_,x4,x5,x6⟩:=hX
  rw [h1] at x1
  cases x1
  rw [h3] at x4
  cases x4
  simp at x5
 have hX1:zie (s.heap.update it (Obj.mapFields (·.setIfInBounds 0 Value.none))) ha cls head:=by
  obtain ⟨ob,vs,x1,x2⟩:=hX
  exact ⟨ob,vs,(qah _ _ (Ne.symm nit)).trans x1,x2⟩
 obtain ⟨ob,vs,x1,x2⟩:=hX1
 have y1:=qag {cls:= .type "tuple",dict:=none,data:= .seq [].toArray} x1
 refine zdL (h:=ha) (cls:=cls) (head:=head) hh ⟨ob,vs,qag _ y1,x2⟩ (qar _ rfl) rfl (by simp;omega) (qaR (qaQ y1)) ?_
 refine hE _ _ (fun b o hb z=> ?_) ⟨_,qal _ (qar _ rfl) rfl,rfl⟩
 have z1:(s.heap.update it (Obj.mapFields (·.setIfInBounds 0 Value.none))).get? b=some o:=(qah _ _ (Ne.symm hb)).trans z
 have z2:=qag {cls:= .type "tuple",dict:=none,data:= .seq [].toArray} z1
 rw [qah _ _ (Nat.ne_of_gt (qaQ z2))]
 exact qag _ z2
end
noncomputable def zcM (A:Around):List Addr:=match A.handled with
 | some (.ref a)=>[a]
 | _=>[]
theorem zk8.keep {A:Around} {h h':Heap} (x:zk8 A h) (k: ∀ b∈zcM A, ∀ o,h.get? b=some o->h'.get? b=some o):zk8 A h':=by
 rcases x with x | ⟨a,cls,head,x1,ob,vs,x2,x3⟩
 ·exact .inl x
 ·exact .inr ⟨a,cls,head,x1,ob,vs,k a (by unfold zcM;rw [x1];simp) _ x2,x3⟩
theorem zfq {prog:Program} {w:World} {A:Around} (it l:Addr) (hne:l≠it) (items:Array Value):
  Draws prog w A.in1 it (it::l::zcM A) items.size (fun i v=>items[i]? = some v) (fun i h=>h.IsTupleIter it l i/\h.IsTuple l items/\zk8 A h/\it∉zcM A) where
 live:=fun _ _ st=>let ⟨o,ho,_⟩:=st.1;⟨o,ho⟩
 frame:=fun _ _ _ st hk=>⟨st.1.at fun o e=>hk it (by simp) o e,st.2.1.at fun o e=>hk l (by simp) o e,st.2.2.1.keep fun b hb o e=>hk b (by simp [hb]) o e,st.2.2.2⟩
 item:=fun i s Q E hi st hQ=>by
  refine zey st.1 st.2.1 (x:=items[i]) (by simp [hi]) fun h' hit' hs'=> ?_
  exact hQ _ h' s.toks (by simp [hi]) ⟨hit',st.2.1.extBut hs'.extBut hne,st.2.2.1.keep fun b hb o e=>(hs'.2 b fun z=>st.2.2.2 (z▸hb)).trans e,st.2.2.2⟩ hs'
 done:=fun s Q E st hE=>zeR (A:=A.in1) st.2.2.1 st.1 st.2.1 (by simp) hE
theorem zdS (l:Addr) (items:Array Value) (n:Nat) (dct:Option Addr) (sl:Array (Option Value)):
  Meets (Builtin.«enumerate.__new__» ⟨[.type "enumerate",.ref l],[]⟩) (fun _ R s=>s.heap.get? l=some {cls:= .type "tuple",dict:=dct,data:= .seq items n,slots:=sl}/\
    R (.ok (.ret (.ref (s.heap.push {cls:= .type "tuple_iterator",data:= .fields #[.ref l,.int 0 0]}).objs.size)))
      {s with heap:=(s.heap.push {cls:= .type "tuple_iterator",data:= .fields #[.ref l,.int 0 0]}).push {cls:= .type "enumerate",data:= .fields #[.none,.bool false,.ref s.heap.objs.size,rawInt 0,.none,.none]}}):=
 .of_wp fun prog w A R s h=>by
  obtain ⟨hp,g,d,tk,os⟩:=s;obtain ⟨hl,h⟩:=h
  have hsub:=sub_enumerate
  have hL:Heap.IsTuple (Shared.heap ⟨hp,g,d,tk,os⟩) l items:=⟨_,hl,rfl,n,rfl⟩
  wp_walk using wpAny_loadPart' hl
  refine wpAny_stack_any fun st=>qaX ?_
  split
  ·rename_i c _ _ _ _ _
   cases (c==Value.type "enumerate")
   ·wp_walk using wpAny_loadPart' hl,wpAny_pyIter_tuple hL
    exact ⟨_,rfl,h⟩
   ·wp_walk using wpAny_loadPart' hl,wpAny_pyIter_tuple hL
    exact ⟨_,rfl,h⟩
  ·wp_walk using wpAny_loadPart' hl,wpAny_pyIter_tuple hL
   exact ⟨_,rfl,h⟩
end L3
namespace L3
open PySem
section
variable {prog:Program} {w:World} {A:Around} {E:Value->Shared->Prop} {s:Shared}
theorem zdR {l:Addr} {items:Array Value} {Q:Value->Shared->Prop} (hL:s.heap.IsTuple l items)
  (h: ∀ h',IsEnum h' (s.heap.objs.size+1) s.heap.objs.size 0 .none->h'.IsTupleIter s.heap.objs.size l 0->h'.objs.size=s.heap.objs.size+2->
    (∀ b o,s.heap.get? b=some o->h'.get? b=some o)->Q (.ref (s.heap.objs.size+1)) {s with heap:=h'}):
  wpAny (model prog w) A (call (.type "enumerate") [.ref l]) Q E s:=by
 obtain ⟨⟨c,dct,dt,sl⟩,hl,hc,n,hd⟩:=hL
 replace hc:c= .type "tuple":=hc
 replace hd:dt= .seq items n:=hd
 subst hc hd
 refine callType_new F.called_enumerate (by decide) (F.typeCall_enumerate_1 _) (F.newCall_enumerate_1 _) (fun obj=>F.args_object_init_2 obj _) F.entry_enumerate_new
  (zdS l items n dct sl) ⟨hl,?_⟩
 have hz:(s.heap.push {cls:= .type "tuple_iterator",data:= .fields #[.ref l,.int 0 0]}).objs.size=s.heap.objs.size+1:=qaL ..
 show _/\_
 rw [hz]
 have he:IsEnum ((s.heap.push {cls:= .type "tuple_iterator",data:= .fields #[.ref l,.int 0 0]}).push
     {cls:= .type "enumerate",data:= .fields #[.none,.bool false,.ref s.heap.objs.size,rawInt 0,.none,.none]}) (s.heap.objs.size+1) s.heap.objs.size 0 .none:=by
  have:=qar (s.heap.push {cls:= .type "tuple_iterator",data:= .fields #[.ref l,.int 0 0]})
   (o:={cls:= .type "enumerate",data:= .fields #[.none,.bool false,.ref s.heap.objs.size,rawInt 0,.none,.none]}) rfl
  rw [hz] at this;exact this
 exact ⟨⟨_,he,rfl⟩,h _ he ⟨_,qag _ (qar _ rfl),rfl,rfl⟩ (by rw [qaL,hz]) fun b o x=>qag _ (qag _ x)⟩
end
end L3
namespace L2
open PySem PySem.Spec PyProof.Rows
section
variable {X:Cx} {pins:List (Addr×Obj)} {σ:St} {H:Hp} {s:Shared} {h':Heap}
theorem Inv.turned2 {t':Nat} {e it:Addr} (I:Inv X pins σ H s) (k: ∀ b o,b≠e->b≠it->s.heap.get? b=some o->h'.get? b=some o) (f:zjM X pins H e) (g:zjM X pins H it):Inv X pins σ H {s with heap:=h',toks:=t'}:=by
 obtain ⟨f0,f1,f2,f3,f4,f5⟩:=f
 obtain ⟨g0,g1,g2,g3,g4,g5⟩:=g
 have ne: ∀ b u,H b=some u->b≠e:=fun b u q z=>by rw [z,f0] at q;cases q
 have nit: ∀ b u,H b=some u->b≠it:=fun b u q z=>by rw [z,g0] at q;cases q
 have kk: ∀ b o,b∉[e,it]->s.heap.get? b=some o->h'.get? b=some o:=fun b o hb q=>k b o (fun z=>hb (by simp [z])) (fun z=>hb (by simp [z])) q
 refine I.step (g':=s.gens) (d':=s.drawn) (ch:=[e,it]) (fun b hb=> ?_) (fun b o _ _ hc q _=>kk b o hc q) (fun b o _ _ hc q _=>⟨o.slots,kk b o hc q⟩) (fun _ _ _ _ n=>n)
  (fun b o hc q=>⟨o,kk b o hc q⟩) (fun _ _ q=>q) (fun _ _ _ q=>q) (fun b ps q=>⟨#[],by rw [q];simp⟩) (fun m hm=> ?_) (fun b u q=> ?_) I.bare
 ·have z:b=e\/b=it:=by simpa using hb
  rcases z with rfl | rfl
  ·exact ⟨f3,f1,f4,f5⟩
  ·exact ⟨g3,g1,g4,g5⟩
 ·obtain ⟨o,es,ep,ho,r⟩:=hm
  exact ⟨o,es,ep,k _ o (Ne.symm f1) (Ne.symm g1) ho,r⟩
 ·refine (I.hok b u q).stay (fun c v hc q'=> ?_) (fun _ q=>q) fun _ _ q=>q
  rcases hc with z | z
  ·rw [z];exact k b v (ne b u q) (nit b u q) (by rw [<- z];exact q')
  ·exact k c v (ne c _ z) (nit c _ z) q'
end
noncomputable def Ite (K:W.Frag) (a:Addr):It:=
 ⟨fun i H=> ∃ xs x,SqT K H a xs/\xs[i]? = some x,fun i H x H'=> ∃ T y,H T=none/\H'=upd H T (.tup [.int i,y])/\x= .ref T/\ ∀ xs,SqT K H a xs->xs[i]? = some y,fun i H=> ∃ xs,SqT K H a xs/\xs.length=i⟩
theorem zma {P:Program} {w:World} {K:W.Frag} {elts:List Expr} {k:Nat} {pos:Pos} (a e it:Addr) (hei:e≠it):zp1 P w K (.Tuple elts k pos) (Ite K a) [e,it] e (fun i h=>(∃ old,IsEnum h e it i old)/\h.IsTupleIter it a i) where
 mem:=by simp
 obj:=fun i h st b hb=>by
  obtain ⟨⟨old,he⟩,o,ho,hc,hd⟩:=st
  have z:b=e\/b=it:=by simpa using hb
  rcases z with rfl | rfl
  ·exact ⟨_,he,fun v z=>by cases z⟩
  ·exact ⟨o,ho,fun v z=>by rw [hd] at z;cases z⟩
 keep:=fun i h h' st k=>⟨let ⟨old,he⟩:=st.1;⟨old,k e (by simp) _ he⟩,st.2.at fun o q=>k it (by simp) o q⟩
 item:=by
  intro X hP hw hK i pins s σ H E I hf st hg
  subst hP hw hK
  obtain ⟨xs,y,hq,hx⟩:=hg
  obtain ⟨its,rv,p,hz⟩:=I.tuple hq
  obtain ⟨u,hu,ru⟩:=rv.get hx
  obtain ⟨⟨old,he⟩,hit⟩:=st
  have hfe:=hf e (by simp)
  have hfi:=hf it (by simp)
  obtain ⟨ot,ht,hct,nt,hdt⟩:=(show s.heap.IsTuple a its.toArray from p)
  obtain ⟨oi,hi,hci,hdi⟩:=id hit
  have hai:a≠it:=fun z=>by
   subst z
   rw [ht] at hi
   cases hi
   rw [hdt] at hdi
   cases hdi
  have hea:e≠a:=fun z=>by
   subst z
   have he':s.heap.get? e=_:=he
   rw [ht] at he'
   cases he'
   cases hdt
  have hin:it∉L3.zcM X.A:=fun z=>by
   rcases I.hand with q | ⟨ha,cls,head,q,ob,vs,x1,_,_,x4,x5,_⟩
   ·unfold L3.zcM at z;rw [q] at z;simp at z
   ·unfold L3.zcM at z
    rw [q] at z
    have:it=ha:=by simpa using z
    subst this
    rw [hi] at x1
    cases x1
    rw [hdi] at x4
    cases x4
    simp at x5
  have hen:e∉L3.zcM X.A:=fun z=>by
   rcases I.hand with q | ⟨ha,cls,head,q,ob,vs,x1,_,_,x4,x5,_⟩
   ·unfold L3.zcM at z;rw [q] at z;simp at z
   ·unfold L3.zcM at z
    rw [q] at z
    have:e=ha:=by simpa using z
    subst this
    have he':s.heap.get? e=_:=he
    rw [x1] at he'
    cases he'
    cases x4
    simp at x5
  have hlt:i<its.toArray.size:=by
   have:=(qac.mp hu).1
   simpa using this
  refine wpAny_pyNext_enum_itemD (L3.zfq (A:=X.A) it a hai its.toArray) he ⟨hit,p,I.hand,hin⟩ hlt hei (by simp [hei,hea,hen]) fun x h1 tk hP ho hs' hT hsz hk=> ?_
  have hxu:x=u:=by
   have:its[i]? = some x:=by simpa using hP
   rw [hu] at this
   exact (Option.some.inj this).symm
  subst hxu
  refine ⟨_,rfl,wpAny_letOwnedTupleGo_enum ho fun h2 he2 hs2=> ?_⟩
  have het:e≠s.heap.objs.size:=qaR (qaQ he)
  have hit':it≠s.heap.objs.size:=qaR (qaQ hi)
  have fresh:=I.hok.fresh (qaV s.heap.objs.size)
  have I1:Inv X pins σ (upd H s.heap.objs.size (.tup [.int i,y])) {s with heap:=s.heap.push {cls:= .type "tuple",data:= .seq #[.int i tk,x]},toks:=tk+1}:=
   I.laid (t':=tk+1) (fun b o q=>qag _ q) (qaV _) (show zbV X.prog X.w _ _ _ (.tup [.int i,y]) from ⟨by show 2<=sizeLine;decide,[.int i tk,x],.cons ⟨tk,rfl⟩ (.cons ru .nil),IsTup.new _ _⟩)
  have fe:zjM X pins (upd H s.heap.objs.size (.tup [.int i,y])) e:=⟨by rw [zaH het];exact hfe.1,hfe.2⟩
  have fi:zjM X pins (upd H s.heap.objs.size (.tup [.int i,y])) it:=⟨by rw [zaH hit'];exact hfi.1,hfi.2⟩
  have I2:Inv X pins σ (upd H s.heap.objs.size (.tup [.int i,y])) {s with heap:=h1,toks:=tk+1}:=I1.turned2 (t':=tk+1) (h':=h1) (fun b o hb1 hb2 q=>by
    rcases Heap.get?_push_cases q with ⟨z1,z2⟩ | z
    · rw [z1,z2];exact hT
    · exact hk b o hb1 hb2 z) fe fi
  obtain ⟨f0,f1,f2,f3,f4,f5⟩:=fe
  have I3:Inv X pins σ (upd H s.heap.objs.size (.tup [.int i,y])) {s with heap:=h2,toks:=tk+1}:=I2.turned (t':=tk+1) (fun b o hb q=>(hs2.2 b hb).trans q) f0 f1 f3 f4 f5
  refine ⟨.ref s.heap.objs.size,_,I3,rfl,⟨s.heap.objs.size,y,fresh,rfl,rfl,fun ys hy=>by rw [I.tuple_inj hy hq];exact hx⟩,⟨⟨x,by simpa using he2⟩,hs'.1.at fun o q=>(hs2.2 it (Ne.symm hei)).trans q⟩,fun b hb=> ?_⟩
  have z:b=e\/b=it:=by simpa using hb
  rcases z with rfl | rfl
  ·exact f0
  ·exact fi.1
 done:=by
  intro X hP hw hK i pins s σ H E I hf st hg
  subst hP hw hK
  obtain ⟨xs,hq,hx⟩:=hg
  obtain ⟨its,rv,p,hz⟩:=I.tuple hq
  obtain ⟨⟨old,he⟩,hit⟩:=st
  have hfi:=hf it (by simp)
  obtain ⟨ot,ht,hct,nt,hdt⟩:=(show s.heap.IsTuple a its.toArray from p)
  obtain ⟨oi,hi,hci,hdi⟩:=id hit
  have hai:a≠it:=fun z=>by
   subst z
   rw [ht] at hi
   cases hi
   rw [hdt] at hdi
   cases hdi
  have hin:it∉L3.zcM X.A:=fun z=>by
   rcases I.hand with q | ⟨ha,cls,head,q,ob,vs,x1,_,_,x4,x5,_⟩
   ·unfold L3.zcM at z;rw [q] at z;simp at z
   ·unfold L3.zcM at z
    rw [q] at z
    have:it=ha:=by simpa using z
    subst this
    rw [hi] at x1
    cases x1
    rw [hdi] at x4
    cases x4
    simp at x5
  have hn:its.toArray.size=i:=by
   have:=rv.length
   simp
   omega
  subst hn
  obtain ⟨f0,f1,f2,f3,f4,f5⟩:=hfi
  exact wpAny_pyNext_enum_endD (L3.zfq (A:=X.A) it a hai its.toArray) he ⟨hit,p,I.hand,hin⟩ fun h' hx'=>⟨rfl,I.turned (t':=s.toks) (fun b o hb q=>hx' b o hb q) f0 f1 f3 f4 f5⟩
 self:=fun _ _ _ _ _ st h=>let ⟨⟨_,he⟩,_⟩:=st;wpAny_pyIter_enum he h
section
variable {X:Cx} {elts:List Expr} {k:Nat} {tpos:Pos}
noncomputable def zuN (K:W.Frag) (ta:TA):TI:=fun σ H R=>ta σ H fun vs H1=> ∃ a,vs=[.ref a]/\(∃ xs,SqT K H1 a xs)/\R (Ite K a) H1
theorem zpR {l:Expr} {ta:TA} {p pos:Pos} (hg:Gl X "enumerate") (hm:X.mg "enumerate"=none) (ha:PA X [l] ta) (hs:starEach [l] X.env=[(false,eval l X.env)]:=by rfl):
  PI X (.Tuple elts k tpos) (.Call (.Name "enumerate" p) [l] [] pos) (zuN X.K ta):=by
 intro pins s σ H R I h
 refine Call_ (ze8 I hg hm PyProof.Rows.boot_enumerate (PyProof.Rows.callWith_type1 (thn (ha pos pins s σ H _ I h) fun us s1 ⟨vs,H1,I1,r1,q1⟩=> ?_) hs rfl))
 obtain ⟨a,e,⟨xs,hq⟩,q⟩:=q1
 subst e
 cases r1 with
 | cons r rr=>
  cases rr
  cases r
  obtain ⟨its,rv,p,hz⟩:=I1.tuple hq
  refine L3.zdR (show s1.heap.IsTuple a its.toArray from p) fun h' he hit hsz kp=> ?_
  refine wpAny_pyIter_enum he ?_
  refine ⟨s1.heap.objs.size+1,[s1.heap.objs.size+1,s1.heap.objs.size],_,_,H1,rfl,I1.kept (t':=s1.toks) kp,zma a _ _ (Nat.succ_ne_self _),⟨⟨_,he⟩,hit⟩,fun b hb=> ?_,q⟩
  have z:b=s1.heap.objs.size+1\/b=s1.heap.objs.size:=by simpa using hb
  rcases z with rfl | rfl
  ·exact I1.fpOk (Nat.le_succ _) (I1.hok.fresh (Nat.le_succ _))
  ·exact I1.fpOk (qaV _) (I1.hok.fresh (qaV _))
end
end L2
namespace L3
open PySem PySem.Spec PyProof.Rows L2
section
variable {X:Cx} {E:XE} {elts:List Expr} {k:Nat} {tpos pos:Pos}
noncomputable def zo0 (ds:List D):List D:=(List.range ds.length).map fun (i:Nat)=> .tup [.int i,ds.getD i .non]
theorem znl {K:W.Frag} {ι:Io} {H:Hp} {a:Addr} {vs:List V} {ds:List D} (h: ∀ ι' H',Pass ι H ι' H'->SqT K H' a vs) (rl:zav K ι H ds vs):zp4 K ι H (Ite K a) (zo0 ds) where
 go:=fun ι' H' i s hi=>by
  have hi:i<ds.length:=by simpa [zo0] using hi
  obtain ⟨v,ev,_⟩:=zav.get rl (i:=i) (d:=ds[i]) (by simp [hi])
  exact ⟨vs,v,h ι' H' s,ev⟩
 yld:=fun ι' H' _ i x H2 s hr hi ⟨T,y,hT,e,e2,hy⟩=>by
  subst e e2
  have hi:i<ds.length:=by simpa [zo0] using hi
  obtain ⟨v,ev,rv⟩:=zav.get rl (i:=i) (d:=ds[i]) (by simp [hi])
  have ey:=hy vs (h ι' H' s)
  rw [ev] at ey
  cases ey
  refine ⟨.inr ⟨T,_,hT,rfl⟩,.tup [.int i,ds[i]],by simp [zo0,hi],?_⟩
  obtain ⟨st,hr2⟩:=zuk.step (.inr ⟨T,[.int i,y],hT,rfl⟩) hr
  have rv2:Rel K ι' (upd H' T (.tup [.int i,y])) ds[i] y:=(rv.pass s).step st
  simp only [Rel]
  exact ⟨T,_,rfl,⟨zbd,hr.nin hT⟩,zav.cons (by simp [Rel]) (zav.cons rv2 zav.nil)⟩
 stop:=fun ι' H' s=>⟨vs,h ι' H' s,by rw [<- rl.length];simp [zo0]⟩
noncomputable def zvD (f:FE):FA:=fun sd=>do
 let d<-f sd
 match d with
 | .tup ds=>pure (zo0 ds)
 | _=>M.bad
theorem zsW {l:Expr} {f:FE} {p:Pos} (hm:X.mg "enumerate"=none) (he:SE X E l f) (hg:Gl X "enumerate":=by rfl) (hs:starEach [l] X.env=[(false,eval l X.env)]:=by rfl):SI X E (.Tuple elts k tpos) (.Call (.Name "enumerate" p) [l] [] pos) (zvD f):=by
 refine PI.imp (zpR hg hm (zbZ he zdh hs) hs) fun σ H Q ⟨ι,h,sd,L,hh,q⟩=>⟨ι,h,sd,L,hh,Fin.bind q fun d h1 ι1 H1 e1 s1 hr1 q1 v rv=> ?_⟩
 cases d with
 | tup ds=>
  obtain ⟨a,vs,e,h1',h2⟩:=zmC rv
  exact ⟨a,by rw [e],⟨vs,h1' _ _ (Pass.refl _ _)⟩,Fin.out hr1 q1 _ (znl h1' h2)⟩
 | _=>exact qa0 q1
end
end L3
namespace L3
open PySem PyProof.Rows
noncomputable def pLt (p q:Int×List Int):Bool:=if p.1=q.1 then HT.zc5 p.2 q.2 else decide (p.1<q.1)
theorem zeX: ∀ xs:List Int,HT.zc5 xs xs=false
 | []=>rfl
 | x::r=>by rw [HT.zeB,qa4 rfl,zeX r]
section
open PySem.SeqAt
open PySem.AutoSeq1 (wpAny_loadPart')
open PySem.MeetsSeq PySem.MeetsSeq2 PySem.MeetsSeq3
def zug (A:Around) (s:Shared) (a b:Value) (e l:Bool):Prop:=EqAt A s a b e/\(e=false-> ∀ (prog:Program) (w:World) (E Q:Value->Shared->Prop),Q (.bool l) s->wpAny (model prog w) A (richCompare .Lt a b) Q E s)
theorem zhf (l b:Addr) (a0 a1 b0 b1:Value) (n n2:Nat) (dd dd2:Option Addr) (sl sl2:Array (Option Value)) (e0 l0 e1 l1:Bool):
  Meets (Builtin.«tuple.__lt__» ⟨[.ref l,.ref b],[]⟩)
   (fun A R s=>s.heap.get? l=some {cls:= .type "tuple",dict:=dd,data:= .seq #[a0,a1] n,slots:=sl}/\s.heap.get? b=some {cls:= .type "tuple",dict:=dd2,data:= .seq #[b0,b1] n2,slots:=sl2}/\
     zug A.in1 s a0 b0 e0 l0/\zug A.in1 s a1 b1 e1 l1/\R (.ok (.ret (.bool (if e0=true then (if e1=true then false else l1) else l0)))) s):=
 .of_wp fun prog w A R s h=>by
  obtain ⟨hp,g,d,tk,os⟩:=s;obtain ⟨hl,hb,c0,c1,h⟩:=h
  have f2:=AutoSeq1.sub_tuple_tuple
  wp_walk using wpAny_loadPart' hl,wpAny_loadPart' hb,wpAny_forIn_list _ (fun zbk b s'=>b.1=none/\s'=⟨hp,g,d,tk,os⟩/\
    (zbk=[(a0,b0),(a1,b1)]\/(zbk=[(a1,b1)]/\e0=true)\/(zbk=[]/\e0=true/\e1=true))) _
  case turn=>
   rintro ⟨y,x⟩ zbk b s' ⟨hb',rfl,hz⟩
   rcases hz with hz | ⟨hz,z0⟩ | ⟨hz,_⟩
   ·cases hz
    refine qaW (c0.1 prog w _ _ ?_)
    cases e0 with
    | true=>
     wp_walk
     exact ⟨rfl,rfl,.inr (.inl ⟨rfl,rfl⟩)⟩
    | false=>
     have hri:=c0.2 rfl prog w
     wp_walk using hri
     exact ⟨_,rfl,by simpa using h⟩
   ·cases hz
    subst z0
    refine qaW (c1.1 prog w _ _ ?_)
    cases e1 with
    | true=>
     wp_walk
     exact ⟨rfl,rfl,.inr (.inr ⟨rfl,rfl,rfl⟩)⟩
    | false=>
     have hri:=c1.2 rfl prog w
     wp_walk using hri
     exact ⟨_,rfl,by simpa using h⟩
   ·cases hz
  case fin=>
   rintro ⟨b1',b2'⟩ s' ⟨hb',rfl,hz⟩
   simp only at hb'
   subst hb'
   rcases hz with hz | ⟨hz,_⟩ | ⟨_,z0,z1⟩
   ·cases hz
   ·cases hz
   ·subst z0 z1
    wp_walk
    exact ⟨_,rfl,by simpa [Builtin.Tuple.tupleCompareSizes] using h⟩
  case h=>
   exact ⟨rfl,rfl,.inl rfl⟩
section
variable {prog:Program} {w:World} {A:Around} {E:Value->Shared->Prop} {s:Shared}
theorem zrB {l b:Addr} {a0 a1 b0 b1:Value} {e0 l0 e1 l1:Bool} {Q:Value->Shared->Prop} (hl:IsTup s.heap l #[a0,a1]) (hb:IsTup s.heap b #[b0,b1]) (c0:zug A.in1 s a0 b0 e0 l0) (c1:zug A.in1 s a1 b1 e1 l1)
  (hu:A.units<cLine) (h:Q (.bool (if e0=true then (if e1=true then false else l1) else l0)) s):wpAny (model prog w) A (richCompare .Lt (.ref l) (.ref b)) Q E s:=by
 obtain ⟨⟨cls,dd,data,sl⟩,ho,hc,n,hd⟩:=id hl
 obtain ⟨⟨cls2,dd2,data2,sl2⟩,ho2,hc2,n2,hd2⟩:=id hb
 simp only at hc hd hc2 hd2
 subst hc hd hc2 hd2
 exact richCompare_meets_room (op:= .Lt) ⟨_,ho,rfl⟩ ⟨_,ho2,rfl⟩ PySem.F.slot_tuple_lt PySem.F.entry_tuple_lt (PySem.F.args_tuple_lt_2 _ _) (zhf l b a0 a1 b0 b1 n n2 dd dd2 sl sl2 e0 l0 e1 l1)
  ⟨ho,ho2,c0,c1,show Value.bool _≠Value.notImplemented/\Q (.bool _) s from ⟨(fun x=>nomatch x),h⟩⟩ hu
theorem zgL: ∀ {xs:List Value} {ns:List Int},IntsAre xs ns-> ∀ (j:Nat) (h:j<xs.length), ∃ (t:Tok) (i:Int),ns[j]? = some i/\xs[j]= .int i t
 | _,_,.nil,j,h=>by cases h
 | _,_,.cons a t r,0,_=>⟨t,a,rfl,rfl⟩
 | _,_,.cons a t r,j+1,h=>by
  obtain ⟨t',i,e1,e2⟩:=zgL r j (Nat.lt_of_succ_lt_succ h)
  exact ⟨t',i,e1,e2⟩
theorem ziS: ∀ {xs:List Value} {ns ms:List Int},IntsAre xs ns->IntsAre xs ms->ns=ms
 | _,_,_,.nil,h=>by cases h;rfl
 | _,_,_,.cons a t r,h=>by
  cases h with
  | cons _ _ r'=>rw [ziS r r']
theorem zl6 {q r:Addr} {xs ys:List Value} {ns ms:List Int} (hq:IsTup s.heap q xs.toArray) (hr:IsTup s.heap r ys.toArray) (hi:IntsAre xs ns) (hj:IntsAre ys ms) (hu:A.units<cLine):EqAt A s (.ref q) (.ref r) (ns==ms):=by
 by_cases hqr:q=r
 ·subst hqr
  obtain ⟨o,e,_,n,d⟩:=hq
  obtain ⟨o',e',_,n',d'⟩:=hr
  rw [e] at e'
  cases e'
  rw [d] at d'
  injection d' with d' _
  have:xs=ys:=by simpa using d'
  subst this
  rw [ziS hi hj]
  simpa using EqAt.same (A:=A) (s:=s) (.ref q)
 ·have l1:=hi.length
  have l2:=hj.length
  have hc:=RcAt.tuples (A:=A) (s:=s) (e:=fun j=>ns[j]? == ms[j]?) hq hr hu fun j h1 h2=>by
   have h1':j<xs.length:=by simpa using h1
   have h2':j<ys.length:=by simpa using h2
   obtain ⟨t,i,e1,e2⟩:=zgL hi j h1'
   obtain ⟨u,k,e3,e4⟩:=zgL hj j h2'
   have g1:xs.toArray[j]= .int i t:=by simpa using e2
   have g2:ys.toArray[j]= .int k u:=by simpa using e4
   rw [g1,g2,e1,e3]
   have:(some i==some k)=(i==k):=rfl
   rw [this]
   exact EqAt.int_int i t k u
  have he:((List.range (min xs.toArray.size ys.toArray.size)).all (fun j=>ns[j]? == ms[j]?) && xs.toArray.size==ys.toArray.size)=(ns==ms):=by
   rw [Bool.eq_iff_iff,qaG,List.all_eq_true,beq_iff_eq,beq_iff_eq]
   simp only [qaA,beq_iff_eq,List.mem_range]
   constructor
   ·rintro ⟨h1,h2⟩
    refine List.ext_getElem? fun j=> ?_
    by_cases hjl:j<ns.length
    ·exact h1 j (by omega)
    ·rw [List.getElem?_eq_none (by omega),List.getElem?_eq_none (by omega)]
   ·intro e
    subst e
    exact ⟨fun _ _=>rfl,by omega⟩
  rw [<- he]
  exact EqAt.of_refs hqr hc
end
def zfh (h:Heap) (v:Value) (p:Int×List Int):Prop:= ∃ (a q:Addr) (t:Tok) (its:List Value),v= .ref a/\IsTup h a #[.int p.1 t,.ref q]/\IsTup h q its.toArray/\IntsAre its p.2
theorem zfh.keep {h h':Heap} {v:Value} {p:Int×List Int} (k: ∀ b o,h.get? b=some o->h'.get? b=some o):zfh h v p->zfh h' v p:=fun ⟨a,q,t,its,e,⟨o,x1,x2⟩,⟨o',y1,y2⟩,z⟩=>⟨a,q,t,its,e,⟨o,k _ _ x1,x2⟩,⟨o',k _ _ y1,y2⟩,z⟩
theorem znh {prog:Program} {w:World} {A:Around} {E:Value->Shared->Prop} {s:Shared} {u v:Value} {p q:Int×List Int} {Q:Value->Shared->Prop} (hv:zfh s.heap v p) (hu:zfh s.heap u q) (hr:A.units+2<cLine) (h:Q (.bool (pLt p q)) s):wpAny (model prog w) A (richCompare .Lt v u) Q E s:=by
 obtain ⟨a,x,t,its,rfl,ha,hx,hi⟩:=hv
 obtain ⟨b,y,t',its',rfl,hb,hy,hj⟩:=hu
 have r1:A.in1.units<cLine:=by rw [Around.in1_units];omega
 refine zrB (e0:=(p.1==q.1)) (l0:=decide (p.1<q.1)) (e1:=(p.2==q.2)) (l1:=HT.zc5 p.2 q.2) ha hb ⟨EqAt.int_int _ _ _ _,fun _ prog w E Q hq=>HT.zjQ _ _ _ _ _ _ prog w E Q hq⟩
  ⟨zl6 hx hy hi hj r1,fun _ prog w E Q hq=>HT.zkc hx hy (by simpa using hi) (by simpa using hj) r1 hq⟩ (by omega) ?_
 have e:(if (p.1==q.1)=true then (if (p.2==q.2)=true then false else HT.zc5 p.2 q.2) else decide (p.1<q.1))=pLt p q:=by
  unfold pLt
  by_cases h1:p.1=q.1
  ·rw [qa4 (by simpa using h1),qa4 h1]
   by_cases h2:p.2=q.2
   ·rw [qa4 (by simpa using h2),h2,zeX]
   ·rw [qa5 (by simpa using h2)]
  ·rw [qa5 (by simpa using h1),qa5 h1]
 rw [e]
 exact h
end
end L3
namespace L3
open PySem
section
variable {prog:Program} {w:World} {A:Around} {R:Result->Shared->Prop} {I:Addr} {fp wr:List Addr} {n:Nat} {P:Nat->Value->Prop} {St:Nat->Heap->Prop} {h0:Heap}
def zqY (prog:Program) (w:World) (A:Around) (h0:Heap) (P:Nat->Value->Prop) (bt:Nat->Nat->Bool):Prop:=
 ∀ i j vi vj (s:Shared) (Q:Value->Shared->Prop) (E:Value->Shared->Prop),(∀ b o,h0.get? b=some o->s.heap.get? b=some o)->P i vi->P j vj->Q (.bool (bt i j)) s->wpAny (model prog w) A (richCompare .Lt vi vj) Q E s
theorem zkZ (W:Walks prog w A.in1 I fp wr n P St) (bt:Nat->Nat->Bool) (hcmp:zqY prog w A.in1 h0 P bt) (S:Addr) (hSf:S∉fp) (h0w: ∀ b o,h0.get? b=some o->b∉wr/\b≠S):
  ∀ (k j:Nat) (s:Shared) (vb:Value) (c:Nat),n - (j+1)=k->j+1<=n->St (j+1) s.heap->P (argBest bt j) vb->(∀ b o,h0.get? b=some o->s.heap.get? b=some o)->
  s.heap.get? S=some {cls:= .type "list",dict:=none,data:= .seq #[vb,vb] c,slots:= #[]}->
  (∀ v h' tk,P (argBest bt (n - 1)) v->(∀ b o,b∉wr->b≠S->s.heap.get? b=some o->h'.get? b=some o)->R (.ok (.ret v)) {s with heap:=h',toks:=tk})->
  codeAny (model prog w) A (.builtin "min.loop" ⟨[.ref I,.none,.ref S],[]⟩) R s:=by
 have hSw:S∉wr:=fun h=>hSf (W.sub _ h)
 have hname:(toString "min"++toString ".loop":String)="min.loop":=by decide
 intro k
 induction k with
 | zero=>
  intro j s vb c hk hj hst hPb hx hS hR
  have hin:j+1=n:=by omega
  refine codeAny_builtin F.entry_min_loop ?_
  rw [qap F.plain_min_loop _]
  show wpAny _ A.in1 (seqItems? (.ref S)>>=_) _ _ s
  refine qaW (wpAny_seqItems hS rfl ?_)
  show wpAny _ A.in1 (tryCatch (pyNext (.ref I)) _>>=_) _ _ s
  refine qaW (wpAny_tryCatch (W.done s _ _ (hin▸hst) fun h' tk hk'=> ?_))
  show wpAny _ A.in1 (updateSeq S (fun _=> #[])>>=_) _ _ _
  refine qaW (wpAny_updateSeq (hk' S _ hSw hS) rfl (qaW (wpAny_letGo (qaX ?_))))
  exact hR vb _ tk (by rw [<- hin];exact hPb) fun b o hbw hbS e=>(qah _ _ (Ne.symm hbS)).trans (hk' b o hbw e)
 | succ k ih=>
  intro j s vb c hk hj hst hPb hx hS hR
  have hlt:j+1<n:=by omega
  refine codeAny_builtin F.entry_min_loop ?_
  rw [qap F.plain_min_loop _]
  show wpAny _ A.in1 (seqItems? (.ref S)>>=_) _ _ s
  refine qaW (wpAny_seqItems hS rfl ?_)
  show wpAny _ A.in1 (tryCatch (pyNext (.ref I)) _>>=_) _ _ s
  refine qaW (wpAny_tryCatch (W.item (j+1) s _ _ hlt hst fun v h' tk hP hst' hk'=> ?_))
  have hS':=hk' S _ hSw hS
  have hx': ∀ b o,h0.get? b=some o->h'.get? b=some o:=fun b o e=>hk' b o (h0w b o e).1 (hx b o e)
  show wpAny _ A.in1 (tryCatch (holding [v,v] (richCompare .Lt v vb>>=_)) _>>=_) _ _ _
  refine qaW (wpAny_tryCatch (qaO (qaW (hcmp (j+1) (argBest bt j) v vb _ _ _ hx' hP hPb ?_))))
  refine qaW (qaO (wpAny_truthy_bool ?_))
  refine qaW (wpAny_letGo (qaX ?_))
  cases hb:bt (j+1) (argBest bt j) with
  | true=>
   simp only [if_true]
   refine qaW (wpAny_updateSeq hS' rfl (qaW (wpAny_letGo ?_)))
   rw [hname]
   refine qaX ⟨plainId_quiet F.plain_min_loop _,ih (j+1) _ v _ (by omega) hlt (W.frame _ _ _ hst' fun b hbf o e=> ?_) (by simp only [argBest,hb,if_true];exact hP) (fun b o e=> ?_) (qal _ hS' rfl)
     fun v' h'' tk'' hP' hk''=> ?_⟩
   ·exact (qah _ _ (fun h:S=b=>hSf (by rw [h];exact hbf))).trans e
   ·exact (qah _ _ (Ne.symm (h0w b o e).2)).trans (hx' b o e)
   ·exact hR v' h'' tk'' hP' fun b o hbw hbS e=>hk'' b o hbw hbS ((qah _ _ (Ne.symm hbS)).trans (hk' b o hbw e))
  | false=>
   simp only [qax,if_false]
   refine qaW (wpAny_letGo ?_)
   rw [hname]
   exact qaX ⟨plainId_quiet F.plain_min_loop _,ih (j+1) _ vb c (by omega) hlt hst' (by simp only [argBest,hb,qax,if_false];exact hPb) hx' hS' fun v' h'' tk'' hP' hk''=>
     hR v' h'' tk'' hP' fun b o hbw hbS e=>hk'' b o hbw hbS (hk' b o hbw e)⟩
end
section
variable {prog:Program} {w:World} {A:Around} {E:Value->Shared->Prop} {s:Shared}
theorem zsd {x:Value} {Q:Value->Shared->Prop}
  (h:wpAny (model prog w) A.in1 (pyIter x) (fun it s₂=> ∃ I fp wr n P St bt h0,it= .ref I/\Walks prog w A.in1 I fp wr n P St/\St 0 s₂.heap/\(∀ b∈fp,b<s₂.heap.objs.size)/\0<n/\zqY prog w A.in1 h0 P bt/\(∀ b o,h0.get? b=some o->b∉wr/\s₂.heap.get? b=some o)/\
    ∀ v h' tk,P (argBest bt (n - 1)) v->(∀ b o,b∉wr->s₂.heap.get? b=some o->h'.get? b=some o)->Q v {s₂ with heap:=h',toks:=tk}) E s):
  wpAny (model prog w) A (call (.builtin "min") [x]) Q E s:=by
 have hname:(toString "min"++toString ".loop":String)="min.loop":=by decide
 refine call_function_tree F.kind_min F.plain_min F.entry_min (F.args_min1 _) ?_
 show wpAny _ A.in1 (Builtin.Builtins.bindParams "min" ["key","default"] 0 ⟨[],[]⟩>>=_) _ _ s
 refine qaW (wpAny_of_eq (show Builtin.Builtins.bindParams "min" ["key","default"] 0 ⟨[],[]⟩=pure [none,none] from rfl) ?_)
 refine qaW (qaX ?_)
 refine qaW (qaZ h (fun it s₂ h₂=> ?_) fun _ _ e=>e)
 obtain ⟨I,fp,wr,n,P,St,bt,h0,rfl,W,hst,hfp,hn,hcmp,hx,hQ⟩:=h₂
 refine qaW (qaC ?_)
 have hSf:s₂.heap.objs.size∉fp:=fun hm=>qaN _ (hfp _ hm)
 have hSw:s₂.heap.objs.size∉wr:=fun h=>hSf (W.sub _ h)
 have h0w: ∀ b o,h0.get? b=some o->b∉wr/\b≠s₂.heap.objs.size:=fun b o e=>⟨(hx b o e).1,qaR (qaQ (hx b o e).2)⟩
 rw [hname]
 refine qaX ⟨plainId_quiet F.plain_min_loop _,?_⟩
 refine codeAny_builtin F.entry_min_loop ?_
 rw [qap F.plain_min_loop _]
 show wpAny _ A.in1 (seqItems? (.ref s₂.heap.objs.size)>>=_) _ _ _
 refine qaW (wpAny_seqItems (qar _ rfl) rfl ?_)
 show wpAny _ A.in1 (tryCatch (pyNext (.ref I)) _>>=_) _ _ _
 refine qaW (wpAny_tryCatch (W.item 0 _ _ _ hn (W.frame _ _ _ hst fun b _ o e=>qag _ e) fun v h' tk hP hst' hk'=> ?_))
 have hS':=hk' s₂.heap.objs.size _ hSw (qar _ rfl)
 show wpAny _ A.in1 (updateSeq s₂.heap.objs.size (fun _=> #[v,v])>>=_) _ _ _
 refine qaW (wpAny_updateSeq hS' rfl ?_)
 rw [hname]
 refine qaX ⟨plainId_quiet F.plain_min_loop _,zkZ W bt hcmp s₂.heap.objs.size hSf h0w _ 0 _ v _ rfl hn (W.frame _ _ _ hst' fun b hbf o e=> ?_) hP (fun b o e=> ?_) (qal _ hS' rfl) fun v' h'' tk'' hP' hk''=> ?_⟩
 ·exact (qah _ _ (fun h:s₂.heap.objs.size=b=>hSf (by rw [h];exact hbf))).trans e
 ·exact (qah _ _ (Ne.symm (h0w b o e).2)).trans (hk' b o (h0w b o e).1 (qag _ (hx b o e).2))
 ·exact hQ v' h'' tk'' hP' fun b o hbw e=>hk'' b o hbw (qaR (qaQ e)) ((qah _ _ (Ne.symm (qaR (qaQ e)))).trans (hk' b o hbw (qag _ e)))
theorem znH {l:Addr} {items:Array Value} {bt:Nat->Nat->Bool} {Q:Value->Shared->Prop} (hh:zk8 A s.heap) (hl:s.heap.IsList l items) (hn:0<items.size) (hc:zqY prog w A.in1 s.heap (fun i v=>items[i]? = some v) bt)
  (k: ∀ v h' tk,items[argBest bt (items.size - 1)]? = some v->(∀ b o,s.heap.get? b=some o->h'.get? b=some o)->Q v {s with heap:=h',toks:=tk}):wpAny (model prog w) A (call (.builtin "min") [.ref l]) Q E s:=by
 have hlt:l<s.heap.objs.size:=by obtain ⟨_,e,_⟩:=hl;exact qaQ e
 have hlI:l≠s.heap.objs.size:=qaR hlt
 refine zsd (wpAny_pyIter_list hl ?_)
 have hfp: ∀ b∈[s.heap.objs.size,l],b<(s.heap.push {cls:= .type "list_iterator",data:= .fields #[.ref l,.int 0 0]}).objs.size:=fun b hb=>by
  rw [qaL]
  simp only [qaP,qaF,or_false] at hb
  rcases hb with rfl | rfl
  ·exact Nat.lt_succ_self _
  ·exact Nat.lt_succ_of_lt hlt
 have st1:(s.heap.push {cls:= .type "list_iterator",data:= .fields #[.ref l,.int 0 0]}).IsListIter s.heap.objs.size l 0:=⟨_,qar _ rfl,rfl,rfl⟩
 have hx: ∀ b o,s.heap.get? b=some o->b∉[s.heap.objs.size]/\(s.heap.push {cls:= .type "list_iterator",data:= .fields #[.ref l,.int 0 0]}).get? b=some o:=fun b o e=>
  ⟨fun hm=>qaN _ (by simp only [qaP,qaF,or_false] at hm;exact hm▸qaQ e),qag _ e⟩
 rcases hh with hh | ⟨ha,cls,head,hh,hX⟩
 ·exact ⟨_,_,_,_,_,_,bt,s.heap,rfl,Walks.list (A:=A.in1) hh _ l hlI items,⟨st1,hl.push _⟩,hfp,hn,hc,hx,fun v h' tk hv hk=>k v h' tk hv fun b o e=>hk b o (hx b o e).1 (hx b o e).2⟩
 ·obtain ⟨ob,vs,x1,x2⟩:=id hX
  have hX2:=hX.keep (h':=s.heap.push {cls:= .type "list_iterator",data:= .fields #[.ref l,.int 0 0]}) fun o e=>qag _ e
  refine ⟨_,_,_,_,_,_,bt,s.heap,rfl,zke (A:=A.in1) (ha:=ha) (cls:=cls) (head:=head) hh _ l hlI (qaR (qaQ x1)) items,⟨st1,hl.push _,hX2⟩,fun b hb=> ?_,hn,hc,hx,fun v h' tk hv hk=>k v h' tk hv fun b o e=>hk b o (hx b o e).1 (hx b o e).2⟩
  simp only [qaP,qaF,or_false] at hb
  rcases hb with z | z | z
  ·exact hfp b (by simp [z])
  ·exact hfp b (by simp [z])
  ·rw [z]
   show ha<(s.heap.push _).objs.size
   rw [qaL]
   exact Nat.lt_succ_of_lt (qaQ x1)
end
end L3
namespace L2
open PySem PySem.Spec PyProof.Rows L3
section
variable {X:Cx}
def znT (K:W.Frag) (H:Hp) (v:V) (p:Int×List Int):Prop:= ∃ a q,v= .ref a/\SqT K H a [.int p.1,.ref q]/\SqT K H q (p.2.map V.int)
theorem zkI {pins:List (Addr×Obj)} {σ:St} {H:Hp} {s:Shared} (I:Inv X pins σ H s) {v:V} {u:Value} {p:Int×List Int} (h:znT X.K H v p) (r:zb4 v u):zfh s.heap u p:=by
 obtain ⟨a,q,rfl,h1,h2⟩:=h
 cases r
 obtain ⟨its,r1,p1,_⟩:=I.tuple h1
 obtain ⟨its2,r2,p2,_⟩:=I.tuple h2
 obtain ⟨u1,u2,rfl,e1,e2⟩:=zqm r1
 obtain ⟨t,rfl⟩:=e1
 cases e2
 exact ⟨a,q,t,its2,rfl,p1,p2,zch r2⟩
theorem zmL (hu:X.A.units+60<cLine):zaV X (.builtin "min") (fun xs H Q=> ∃ (a:Addr) (vs:List V) (ps:List (Int×List Int)),xs=[.ref a]/\SqL X.K H a vs/\ps.length=vs.length/\0<vs.length/\(∀ (i:Nat) v p,vs[i]? = some v->ps[i]? = some p->znT X.K H v p)/\
    ∀ v,vs[argBest (fun i j=>pLt (ps.getD i (0,[])) (ps.getD j (0,[]))) (ps.length - 1)]? = some v->Q v H):=by
 intro pins s σ H xs us Q I r h
 obtain ⟨a,vs,ps,rfl,hq,hlen,hpos,hp,q⟩:=h
 obtain ⟨u,rfl,rx⟩:=zeP r
 cases rx
 obtain ⟨its,r',pl,hz⟩:=I.list hq
 have hlen':=r'.length
 have back: ∀ (i:Nat) u,its.toArray[i]? = some u-> ∃ v,vs[i]? = some v/\zb4 v u:=fun i u e=>by
  have e':its[i]? = some u:=by simpa using e
  have hi:i<vs.length:=by have:=(qac.mp e').1;omega
  obtain ⟨u',hu',ru⟩:=r'.get (x:=vs[i]) (i:=i) (by simp [hi])
  rw [e'] at hu'
  cases hu'
  exact ⟨vs[i],by simp [hi],ru⟩
 have key: ∀ (i:Nat) u,its.toArray[i]? = some u->zfh s.heap u (ps.getD i (0,[])):=fun i u e=>by
  obtain ⟨v,ev,ru⟩:=back i u e
  have hi:i<ps.length:=by have:=(qac.mp ev).1;omega
  refine zkI I (hp i v _ ev ?_) ru
  simp [List.getD,hi]
 refine L3.znH I.hand pl.isList (by simp;omega) (bt:=fun i j=>pLt (ps.getD i (0,[])) (ps.getD j (0,[]))) (fun i j vi vj s' Q E hk hi hj hQ=>znh ((key i vi hi).keep hk) ((key j vj hj).keep hk) (by rw [Around.in1_units];omega) hQ) fun v h' tk hv hk=> ?_
 have hs:its.toArray.size - 1=ps.length - 1:=by simp;omega
 rw [hs] at hv
 obtain ⟨v0,ev,ru⟩:=back _ _ hv
 exact ⟨v0,H,I.grown (s':={s with heap:=h',toks:=tk}) rfl rfl hk,ru,q v0 ev⟩
end
end L2
namespace L3
open PySem PySem.Spec PyProof.Rows L2
section
variable {X:Cx} {E:XE}
noncomputable def zhg:D->Option (Int×List Int)
 | .tup [.int i,.tup ds]=>(zcS ds).map fun ns=>(i,ns)
 | _=>none
noncomputable def zeb:List D->Option (List (Int×List Int))
 | []=>some []
 | d::r=>(zhg d).bind fun p=>(zeb r).map fun ps=>p::ps
noncomputable def zed (ps:List (Int×List Int)):Nat:=argBest (fun i j=>pLt (ps.getD i (0,[])) (ps.getD j (0,[]))) (ps.length - 1)
noncomputable def zqq:List D->M D:=zn0 fun d=>do
 let ds<-zm1 d
 let ps<-ofO (match d with | .tup _=>none | _=>zeb ds)
 ofO (ds[zed ps]?)
theorem zkh {K:W.Frag} {ι:Io} {H:Hp} {d:D} {v:V} {p:Int×List Int} (r:Rel K ι H d v) (e:zhg d=some p):znT K H v p:=by
 unfold zhg at e
 split at e
 ·rename_i i ds
  cases z:zcS ds with
  | none=>rw [z] at e;cases e
  | some ns=>
   rw [z] at e
   cases e
   obtain ⟨a,vs,rfl,h1,h2⟩:=zcO r
   simp only [zav] at h2
   obtain ⟨v1,r1,rfl,g1,v2,r2,rfl,g2,rfl⟩:=h2
   simp only [Rel] at g1
   subst g1
   obtain ⟨q,ws,rfl,k1,k2⟩:=zcO g2
   have:=zcV k2 z
   subst this
   exact ⟨a,q,rfl,h1,k1⟩
 ·cases e
theorem zfX {K:W.Frag} {ι:Io} {H:Hp}: ∀ {ds:List D} {vs:List V} {ps:List (Int×List Int)},zav K ι H ds vs->zeb ds=some ps->ps.length=vs.length/\ ∀ (i:Nat) v p,vs[i]? = some v->ps[i]? = some p->znT K H v p
 | [],vs,ps,h,e=>by
  simp only [zav] at h
  subst h
  cases e
  exact ⟨rfl,fun i v p e1=>by simp at e1⟩
 | d::r,vs,ps,h,e=>by
  simp only [zav] at h
  obtain ⟨v,r',rfl,h1,h2⟩:=h
  unfold zeb at e
  cases z:zhg d with
  | none=>rw [z] at e;cases e
  | some p=>
   rw [z] at e
   cases z2:zeb r with
   | none=>rw [z2] at e;cases e
   | some qs=>
    rw [z2] at e
    cases e
    obtain ⟨g1,g2⟩:=zfX h2 z2
    refine ⟨by simp [g1],fun i v' p' e1 e2=> ?_⟩
    cases i with
    | zero=>
     simp at e1 e2
     subst e1 e2
     exact zkh h1 z
    | succ i=>
     simp at e1 e2
     exact g2 i v' p' e1 e2
theorem zkw (hu:X.A.units+60<cLine):zaV X (.builtin "min") (ziL X.K E zqq):=by
 refine zaV.imp (zmL hu) fun xs H Q ⟨ι,h,ds,rl,hr,q⟩=> ?_
 obtain ⟨d,v,e,r,q⟩:=zc8 rl q
 obtain ⟨a,vs,ds',e',hs,rl',q⟩:=zdE hr r q
 obtain ⟨ps,ep,q⟩:=Fin.ofOb q
 obtain ⟨x,ex⟩: ∃ x,ds'[zed ps]? = some x:=by
  cases ex:ds'[zed ps]? with
  | none=>rw [ex] at q;exact qa0 q
  | some x=>exact ⟨x,rfl⟩
 rw [ex] at q
 rcases hs with ⟨hs,hd⟩ | ⟨hs,hd⟩
 ·have ep':zeb ds'=some ps:=by
   cases d with
   | tup ts=>exact absurd rfl (hd ts)
   | _=>exact ep
  obtain ⟨g1,g2⟩:=zfX rl' ep'
  have hlt:=(qac.mp ex).1
  have hl:=rl'.length
  refine ⟨a,vs,ps,by rw [e,e'],hs,g1,by omega,g2,fun v0 ev=> ?_⟩
  obtain ⟨w,ew,rw'⟩:=zav.get rl' ex
  have ev':vs[zed ps]? = some v0:=ev
  rw [ew] at ev'
  cases ev'
  exact Fin.out hr q _ rw'
 ·subst hd
  cases ep
noncomputable def zrz:FS:=fun _=>M.bad
theorem zmp {st:Stmt}:SS X E st zrz:=fun pins s σ H D I h=>by
 obtain ⟨ι,h,sd,L,hh,q⟩:=h
 exact qa0 q
end
section
variable {X:Cx} {E:XE}
noncomputable def zwp (d:D):M Bool:=do let ds<-zm1 d;pure (!ds.isEmpty)
noncomputable def zv7 (f:FE):FT:=fun sd=>do let d<-f sd;zwp d
end
end L3
section
namespace TS
set_option autoImplicit false
open PySem PyProof PyProof.Rows
noncomputable abbrev Ga:Bool->Keyed->Array Keyed->Nat->Nat->Nat->StateT SortSt Sem (Option Nat):=sortPriv% PySem.Builtin.gallop
noncomputable abbrev Lt:Keyed->Keyed->StateT SortSt Sem (Option Bool):=sortPriv% PySem.Builtin.lt
noncomputable abbrev El:Array Keyed->Nat->StateT SortSt Sem Keyed:=sortPriv% PySem.Builtin.elem
structure Cx where
 prog:Program
 w:World
 A:Around
 E:Value->Shared->Prop
 s:Shared
 kd:SortKind
 O:KeyOrd
 ky:Value->O.α
 ok:Value->Prop
 cmp: ∀ (E':Value->Shared->Prop) (x y:Value) (Q:Bool->Shared->Prop),ok x->ok y->Q (O.blt (ky x) (ky y)) s->wpAny (model prog w) A (keyLt' kd x y) Q E' s
noncomputable abbrev Cx.wp (c:Cx) {α:Type} (m:StateT SortSt Sem α) (Q:α->SortSt->Prop) (st:SortSt):Prop:=wpS (model c.prog c.w) c.A c.E c.s m Q st
noncomputable def Cx.lt (c:Cx) (x y:Keyed):Bool:=c.O.blt (c.ky x.1) (c.ky y.1)
def Cx.le (c:Cx) (x y:Keyed):Prop:=c.lt y x=false
section
variable {c:Cx}
theorem Cx.le_refl (x:Keyed):c.le x x:=c.O.irrefl _
theorem Cx.le_of_lt {x y:Keyed} (h:c.lt x y=true):c.le x y:=KeyOrd.klt_asymm (O:=c.O) h
theorem Cx.le_trans {x y z:Keyed} (h:c.le x y) (h2:c.le y z):c.le x z:=KeyOrd.kle_trans (O:=c.O) h h2
end
end TS
end
section
namespace TS
set_option autoImplicit false
open PySem PyProof PyProof.Rows
noncomputable abbrev Sg:Nat->StateT SortSt Sem Unit:=sortPriv% PySem.Builtin.setMinGallop
structure Sm (st st':SortSt):Prop where
 k:kindOf st'=kindOf st
 a:arrOf st'=arrOf st
 p:pendingOf st'=pendingOf st
 f:failedOf st'=failedOf st
theorem Sm.refl (st:SortSt):Sm st st:=⟨rfl,rfl,rfl,rfl⟩
theorem Sm.g {st st':SortSt} (h:Sm st st') (n:Nat):Sm st (SortSt.mk' (kindOf st') (arrOf st') (pendingOf st') n (failedOf st')):=⟨h.k,h.a,h.p,h.f⟩
structure Mg (r:Keyed->Keyed->Prop) (O L R T:List Keyed):Prop where
 s:O.Pairwise r
 l: ∀ x,x∈O-> ∀ y,y∈L->r x y
 r: ∀ x,x∈O-> ∀ y,y∈R->r x y
 p:(O++(L++R)).Perm T
section
variable {r:Keyed->Keyed->Prop} {O L R T X:List Keyed}
theorem Mg.symm (h:Mg r O L R T):Mg r O R L T:=⟨h.s,h.r,h.l,(List.Perm.append_left O List.perm_append_comm).trans h.p⟩
theorem Mg.fin (h:Mg r O L R T) (hs:(L++R).Pairwise r):(O++(L++R)).Pairwise r/\(O++(L++R)).Perm T:=by
 refine ⟨?_,h.p⟩
 rw [qaq]
 refine ⟨h.s,hs,fun x hx y hy=> ?_⟩
 rcases qaK.mp hy with hy | hy
 ·exact h.l x hx y hy
 ·exact h.r x hx y hy
end
section
variable {c:Cx}
def srt (c:Cx) (a:Array Keyed):Prop:=a.toList.Pairwise c.le
def okA (c:Cx) (a:Array Keyed):Prop:= ∀ x,x∈a.toList->c.ok x.1
structure MgA (c:Cx) (a b out:Array Keyed) (ia ib:Nat):Prop where
 m:Mg c.le out.toList (a.toList.drop ia) (b.toList.drop ib) (a.toList++b.toList)
 z:out.size=ia+ib
 la:ia<=a.size
 lb:ib<=b.size
def Fi (c:Cx) (a b res:Array Keyed):Prop:=srt c res/\res.toList.Perm (a.toList++b.toList)
variable {a b out:Array Keyed} {ia ib k:Nat}
theorem MgA.done (h:MgA c a b out ia ib) (ha:srt c a) (hb:srt c b) (he:ia=a.size\/ib=b.size):Fi c a b (out++a.extract ia++b.extract ib):=by
 have e:(out++a.extract ia++b.extract ib).toList=out.toList++(a.toList.drop ia++b.toList.drop ib):=by
  simp [List.extract,List.take_of_length_le]
 have hs:(a.toList.drop ia++b.toList.drop ib).Pairwise c.le:=by
  rcases he with he | he
  ·rw [List.drop_eq_nil_of_le (by simp [he]),List.nil_append]
   exact List.Pairwise.sublist (List.drop_sublist _ _) hb
  ·rw [List.drop_eq_nil_of_le (as:=b.toList) (by simp [he]),List.append_nil]
   exact List.Pairwise.sublist (List.drop_sublist _ _) ha
 obtain ⟨h1,h2⟩:=h.m.fin hs
 exact ⟨by unfold srt;rw [e];exact h1,by rw [e];exact h2⟩
end
end TS
end
section
namespace TS
set_option autoImplicit false
open PySem PyProof PyProof.Rows
section
variable {c:Cx} {a b:Array Keyed}
theorem zl7 {α:Type} {p:Prop} [Decidable p] {x y:StateT SortSt Sem α} {Q:α->SortSt->Prop} {st:SortSt} (h1:p->c.wp x Q st) (h2: ¬p->c.wp y Q st):c.wp (if p then x else y) Q st:=by
 by_cases h:p
 ·rw [qa4 h];exact h1 h
 ·rw [qa5 h];exact h2 h
noncomputable abbrev StL:=ForInStep (Option (Array Keyed)×Array Keyed×Nat×Nat×Nat×Nat×Nat)
structure Ex (c:Cx) (a b:Array Keyed) (N:Nat) (Q:StL->SortSt->Prop) (st:SortSt):Prop where
 d1: ∀ res t,Fi c a b res->Q (.done (some res,t)) st
 d2: ∀ o i j t,MgA c a b o i j->i+1<a.size->j<b.size->N<=o.size->Q (.done (none,o,i,j,t)) st/\Q (.yield (none,o,i,j,t)) st
 hl: ∀ (o:Array Keyed) (i j:Nat),MgA c a b o i j->i+1=a.size->Fi c a b (o++b.extract j++a.extract i)
 ha:srt c a
 hb:srt c b
 oa:okA c a
 ob:okA c b
 hk:kindOf st=c.kd
section
variable {N:Nat} {Q:StL->SortSt->Prop} {st:SortSt} {o:Array Keyed} {i j g k l u v:Nat}
end
end
end TS
end
section
namespace TS
set_option autoImplicit false
open PySem PyProof PyProof.Rows
section
variable {c:Cx} {a b out:Array Keyed} {na nb at':Nat}
structure MgH (c:Cx) (a b out:Array Keyed) (na nb:Nat):Prop where
 m:Mg (fun x y=>c.le y x) out.toList (a.toList.take na).reverse (b.toList.take nb).reverse (a.toList++b.toList)
 z:out.size+na+nb=a.size+b.size
 la:na<=a.size
 lb:nb<=b.size
theorem zkS {l:Array Keyed} (n:Nat) (h:srt c l):((l.toList.take n).reverse).Pairwise (fun x y=>c.le y x):=by
 rw [List.pairwise_reverse]
 exact List.Pairwise.sublist (List.take_sublist _ _) h
theorem zmw {r:List Keyed} {O L R T:List Keyed} (h:Mg (fun x y=>c.le y x) O L R T) (hs:(L++R).Pairwise (fun x y=>c.le y x)) (e:r=(O++(L++R)).reverse):r.Pairwise c.le/\r.Perm T:=by
 obtain ⟨h1,h2⟩:=h.fin hs
 subst e
 exact ⟨by rw [List.pairwise_reverse];exact h1,(List.reverse_perm _).trans h2⟩
theorem MgH.done (h:MgH c a b out na nb) (ha:srt c a) (hb:srt c b) (he:na=0\/nb=0):Fi c a b (a.extract 0 na++b.extract 0 nb++out.reverse):=by
 have hs:((b.toList.take nb).reverse++(a.toList.take na).reverse).Pairwise (fun x y=>c.le y x):=by
  rcases he with he | he
  ·subst he;simpa using zkS nb hb
  ·subst he;simpa using zkS na ha
 exact zmw h.m.symm hs (by simp [List.extract])
theorem MgH.first (h:MgH c a b out na nb) (ha:srt c a) (_hb:srt c b) (he:nb=1) (hl: ∀ y,b[0]? = some y-> ∀ x,x∈a.toList->c.le y x):Fi c a b (b.extract 0 nb++a.extract 0 na++out.reverse):=by
 subst he
 have hlb:=h.lb
 have ed:b.toList.take 1=[b[0]]:=by
  obtain ⟨l⟩:=b
  cases l with
  | nil=>simp at hlb
  | cons x l=>simp
 have hs:((a.toList.take na).reverse++(b.toList.take 1).reverse).Pairwise (fun x y=>c.le y x):=by
  rw [ed,qaq]
  refine ⟨zkS na ha,List.pairwise_singleton _ _,?_⟩
  intro x hx y hy
  rw [List.mem_singleton.mp hy]
  exact hl _ (getElem?_pos b 0 (by omega)) x (List.mem_of_mem_take (List.mem_reverse.mp hx))
 exact zmw h.m hs (by simp [List.extract])
noncomputable abbrev H5:=Option (Array Keyed)×Nat×Nat×Array Keyed×Nat
noncomputable abbrev H6:=Option (Array Keyed)×Nat×Nat×Array Keyed×Nat×Nat
noncomputable abbrev H7:=Option (Array Keyed)×Nat×Nat×Array Keyed×Nat×Nat×Nat
def Hi (c:Cx) (a b:Array Keyed) (N:Nat) (p q:Nat) (o:Array Keyed):Prop:=MgH c a b o p q/\0<p/\1<q/\N<=o.size
structure Ey (c:Cx) (a b:Array Keyed) (N:Nat) (Q:ForInStep H7->SortSt->Prop) (st:SortSt):Prop where
 d1: ∀ res t,Fi c a b res->Q (.done (some res,t)) st
 d2: ∀ p q o t,Hi c a b N p q o->Q (.done (none,p,q,o,t)) st/\Q (.yield (none,p,q,o,t)) st
 hl: ∀ (o:Array Keyed) (i j:Nat),MgH c a b o i j->j=1->Fi c a b (b.extract 0 j++a.extract 0 i++o.reverse)
 ha:srt c a
 hb:srt c b
 oa:okA c a
 ob:okA c b
 hk:kindOf st=c.kd
noncomputable def U4 (a b:Array Keyed) (p q:Nat) (o:Array Keyed) (g k l:Nat):StateT SortSt Sem (ForInStep H7):=El a (p - 1)>>=fun z=>
 if (p - 1==0)=true then pure (.done (some (a.extract 0 (p - 1)++b.extract 0 q++(o.push z).reverse),p - 1,q,o.push z,g,k,l))
 else if (decide (k<7) && decide (l<7))=true then pure (.done (none,p - 1,q,o.push z,g,k,l)) else pure (.yield (none,p - 1,q,o.push z,g,k,l))
noncomputable def U3 (a b:Array Keyed) (p q:Nat) (o:Array Keyed) (g k v:Nat):StateT SortSt Sem (ForInStep H7):=El b (q - 1)>>=fun y=>
 if (q - 1==1)=true then pure (.done (some (b.extract 0 (q - 1)++a.extract 0 p++(o.push y).reverse),p,q - 1,o.push y,g,k,v))
 else El a (p - 1)>>=fun z=>Ga true z b 0 (q - 1) (q - 1 - 1)>>=fun x=>match x with
  | some l=>if q - 1 - l>0 then
    if (l==1)=true then pure (.done (some (b.extract 0 l++a.extract 0 p++(o.push y++(b.extract l (q - 1)).reverse).reverse),p,l,o.push y++(b.extract l (q - 1)).reverse,g,k,q - 1 - l))
    else if (l==0)=true then pure (.done (some (a.extract 0 p++b.extract 0 l++(o.push y++(b.extract l (q - 1)).reverse).reverse),p,l,o.push y++(b.extract l (q - 1)).reverse,g,k,q - 1 - l))
    else U4 a b p l (o.push y++(b.extract l (q - 1)).reverse) g k (q - 1 - l)
   else U4 a b p (q - 1) (o.push y) g k (q - 1 - l)
  | _=>pure (.done (some (a.extract 0 p++b.extract 0 (q - 1)++(o.push y).reverse),p,q - 1,o.push y,g,k,v))
noncomputable def U2 (a b:Array Keyed) (p q:Nat) (o:Array Keyed) (g u v:Nat):StateT SortSt Sem (ForInStep H7):=El b (q - 1)>>=fun y=>Ga false y a 0 p (p - 1)>>=fun x=>match x with
  | some k=>if p - k>0 then
    if (k==0)=true then pure (.done (some (a.extract 0 k++b.extract 0 q++(o++(a.extract k p).reverse).reverse),k,q,o++(a.extract k p).reverse,g,p - k,v))
    else U3 a b k q (o++(a.extract k p).reverse) g (p - k) v
   else U3 a b p q o g (p - k) v
  | _=>pure (.done (some (a.extract 0 p++b.extract 0 q++o.reverse),p,q,o,g,u,v))
noncomputable def Z1 (a b:Array Keyed) (g:Nat) (p q:Nat) (o:Array Keyed) (u v:Nat):StateT SortSt Sem (ForInStep H6):=El b (q - 1)>>=fun y=>El a (p - 1)>>=fun z=>Lt y z>>=fun x=>match x with
 | some w=>if w=true then El a (p - 1)>>=fun z=>if (p - 1==0)=true then pure (.done (some (a.extract 0 (p - 1)++b.extract 0 q++(o.push z).reverse),p - 1,q,o.push z,u+1,0)) else if u+1>=g then pure (.done (none,p - 1,q,o.push z,u+1,0)) else pure (.yield (none,p - 1,q,o.push z,u+1,0))
  else El b (q - 1)>>=fun y=>if (q - 1==1)=true then pure (.done (some (b.extract 0 (q - 1)++a.extract 0 p++(o.push y).reverse),p,q - 1,o.push y,0,v+1)) else if v+1>=g then pure (.done (none,p,q - 1,o.push y,0,v+1)) else pure (.yield (none,p,q - 1,o.push y,0,v+1))
 | _=>pure (.done (some (a.extract 0 p++b.extract 0 q++o.reverse),p,q,o,u,v))
noncomputable def Z2 (a b:Array Keyed) (p q:Nat) (o:Array Keyed) (g u v:Nat):StateT SortSt Sem (ForInStep H7):=
 if g>1 then Sg (g - 1)>>=fun _=>U2 a b p q o (g - 1) u v else Sg g>>=fun _=>U2 a b p q o g u v
section
variable {N:Nat} {Q:ForInStep H7->SortSt->Prop} {st:SortSt} {o:Array Keyed} {p q g k l u v:Nat}
end
end
end TS
end
section
namespace TS
set_option autoImplicit false
open PySem PyProof PyProof.Rows
structure Loc (xs ys:Array Keyed) (lo hi:Nat):Prop where
 p:ys.toList.Perm xs.toList
 o: ∀ i,i<lo\/hi<=i->ys[i]? = xs[i]?
theorem Loc.refl (xs:Array Keyed) (lo hi:Nat):Loc xs xs lo hi:=⟨List.Perm.refl _,fun _ _=>rfl⟩
theorem Loc.trans {xs ys zs:Array Keyed} {lo hi:Nat} (h:Loc xs ys lo hi) (h2:Loc ys zs lo hi):Loc xs zs lo hi:=⟨h2.p.trans h.p,fun i hi=>(h2.o i hi).trans (h.o i hi)⟩
theorem Loc.size {xs ys:Array Keyed} {lo hi:Nat} (h:Loc xs ys lo hi):ys.size=xs.size:=by simpa using h.p.length_eq
section
variable {c:Cx}
def sg (c:Cx) (xs:Array Keyed) (lo hi:Nat):Prop:= ∀ i j x y,lo<=i->i<=j->j<hi->xs[i]? = some x->xs[j]? = some y->c.le x y
end
end TS
end
section
namespace TS
set_option autoImplicit false
open PySem PyProof PyProof.Rows
noncomputable abbrev CR:Nat->Nat->StateT SortSt Sem (Option Nat):=sortPriv% PySem.Builtin.countRun
structure St (c:Cx) (a0:Array Keyed) (p0:Array (Nat×Nat×Nat)) (lo hi:Nat) (st:SortSt):Prop where
 k:kindOf st=c.kd
 f:failedOf st=none
 p:pendingOf st=p0
 l:Loc a0 (arrOf st) lo hi
section
variable {c:Cx} {a0:Array Keyed} {p0:Array (Nat×Nat×Nat)} {lo hi:Nat}
noncomputable def KV (c:Cx) (xs:Array Keyed) (i:Nat):c.O.α:=c.ky (xs[i]?.getD (.none,.none)).1
def up (c:Cx) (xs:Array Keyed) (lo hi:Nat):Prop:= ∀ i j,lo<=i->i<=j->j<hi->c.O.kle (KV c xs i) (KV c xs j)
def dn (c:Cx) (xs:Array Keyed) (lo hi:Nat):Prop:= ∀ i j,lo<=i->i<=j->j<hi->c.O.kle (KV c xs j) (KV c xs i)
def ek (c:Cx) (xs:Array Keyed) (lo hi:Nat):Prop:= ∀ i,lo<=i->i<hi->KV c xs i=KV c xs (hi - 1)
theorem St.set {st:SortSt} {xs:Array Keyed} (h:St c a0 p0 lo hi st) (hl:Loc (arrOf st) xs lo hi):St c a0 p0 lo hi (setArr st xs):=⟨h.k,h.f,h.p,h.l.trans hl⟩
theorem St.ok {st:SortSt} (h:St c a0 p0 lo hi st) (ho:okA c a0):okA c (arrOf st):=fun x hx=>ho x (h.l.p.mem_iff.mp hx)
end
end TS
end
section
namespace TS
set_option autoImplicit false
open PySem PyProof PyProof.Rows
section
variable {c:Cx}
noncomputable def chn (c:Cx) (xs:Array Keyed):List (Nat×Nat×Nat)->Nat->Nat->Prop
 | [],a,b=>a=b
 | t::r,a,b=>t.1=a/\0<t.2.1/\sg c xs a (a+t.2.1)/\chn c xs r (a+t.2.1) b
structure Rn (c:Cx) (a0:Array Keyed) (lo:Nat) (st:SortSt):Prop where
 k:kindOf st=c.kd
 f:failedOf st=none
 p:(arrOf st).toList.Perm a0.toList
 h:chn c (arrOf st) (pendingOf st).toList 0 lo
theorem Rn.size {a0:Array Keyed} {lo:Nat} {st:SortSt} (h:Rn c a0 lo st):(arrOf st).size=a0.size:=by simpa using h.p.length_eq
theorem Rn.ok {a0:Array Keyed} {lo:Nat} {st:SortSt} (h:Rn c a0 lo st) (ho:okA c a0):okA c (arrOf st):=fun x hx=>ho x (h.p.mem_iff.mp hx)
end
end TS
end
section
namespace TS
set_option autoImplicit false
open PySem PyProof PyProof.Rows
noncomputable def h6 (h:Heap) (a:Addr) (vs:List Value):Heap:=((h.update a (Obj.mapSeq fun _=> #[])).push (seqObj "tuple" vs.toArray 0)).push (seqObj "list" #[] 0)
def Srt (prog:Program) (w:World) (A:Around) (vs:List Value) (s1:Shared) (kd:SortKind) (O:KeyOrd) (ky:Value->O.α) (ok:Value->Prop):Prop:=
 (∀ v,v∈vs->ok v)/\ ∀ s2:Shared,(∀ b o,s1.heap.get? b=some o->s2.heap.get? b=some o)->
  (2<=vs.length-> ∀ (E:Value->Shared->Prop) (Q:SortKind->Shared->Prop),Q kd s2->wpAny (model prog w) A (keyKind' vs.toArray) Q E s2)/\
  ∀ (E:Value->Shared->Prop) (x y:Value) (Q:Bool->Shared->Prop),ok x->ok y->Q (O.blt (ky x) (ky y)) s2->wpAny (model prog w) A (keyLt' kd x y) Q E s2
end TS
end
namespace TS
set_option autoImplicit false
open PySem PyProof PyProof.Rows PySem.SeqAt
open PySem.MeetsSeq PySem.MeetsSeq2 PySem.MeetsSeq3
inductive Rs (A:Around) (s:Shared) (b:Bool):List ((Value×Value)×Nat)->Bool->Bool->Prop
 | nil (d:Bool):Rs A s b [] d d
 | eq {p q:Value} {i:Nat} {zbk:List ((Value×Value)×Nat)} {d r:Bool} (h:EqAt A s p q true) (t:Rs A s b zbk d r):Rs A s b (((p,q),i)::zbk) d r
 | ne {p q:Value} {i:Nat} {zbk:List ((Value×Value)×Nat)} {d l:Bool} (h:EqAt A s p q false) (t: ∀ (prog:Program) (w:World) (E:Value->Shared->Prop) (Q:Bool->Shared->Prop),Q l s->wpAny (model prog w) A (oneLt' (b && i==0) p q) Q E s):Rs A s b (((p,q),i)::zbk) d l
section
variable {prog:Program} {w:World} {A:Around} {s:Shared}
def zqs (h:Heap) (v:Value) (ns:List Int):Prop:= ∃ (a:Addr) (its:List Value),v= .ref a/\IsTup h a its.toArray/\IntsAre its ns
end
end TS
namespace TS
set_option autoImplicit false
open PySem PyProof PyProof.Rows PySem.SeqAt
def ziO (h:Heap) (v:Value):Prop:= ∃ (a:Addr) (xs:Array Value) (n:Int) (t:Tok),v= .ref a/\IsTup h a xs/\xs[0]? = some (.int n t)
section
variable {prog:Program} {w:World} {A:Around} {s:Shared}
theorem znf {v:Value} (h:ziO s.heap v) {E:Value->Shared->Prop}:wpAny (model prog w) A (firstOfTuple' v) (fun r s'=>s'=s/\ ∃ n t,r=some (.int n t)) E s:=by
 obtain ⟨a,xs,n,t,rfl,⟨o,e1,e2,m,d⟩,hx⟩:=h
 refine qaW (wpAny_typeOf (T:="tuple") ⟨o,e1,e2⟩ ?_)
 have:(Value.type "tuple" != Value.type "tuple")=false:=by rfl
 rw [this]
 refine qaW (listItems_at e1 d (qaX ⟨rfl,n,t,hx⟩))
theorem zhw {E:Value->Shared->Prop}: ∀ (vs:List Value),(∀ v,v∈vs->ziO s.heap v)->wpAny (model prog w) A (vs.mapM firstOfTuple') (fun r s'=>s'=s/\ ∃ us ns,IntsAre us ns/\r=us.map some/\us.length=vs.length) E s
 | [],_=>by rw [List.mapM_nil];exact qaX ⟨rfl,[],[],.nil,rfl,rfl⟩
 | v::vs,h=>by
  rw [List.mapM_cons]
  refine qaW (qaZ (znf (h v (qau ..))) ?_ fun _ _ e=>e)
  rintro r s' ⟨es,n,t,rfl⟩
  rw [es]
  refine qaW (qaZ (zhw vs fun u hu=>h u (qan _ hu)) ?_ fun _ _ e=>e)
  rintro r s' ⟨es,us,ns,h1,rfl,h3⟩
  rw [es]
  exact qaX ⟨rfl,.int n t::us,n::ns,.cons n t h1,rfl,by simp [h3]⟩
theorem zqO {vs:List Value} (h: ∀ v,v∈vs->ziO s.heap v) (h0:2<=vs.length) {E:Value->Shared->Prop} {Q:SortKind->Shared->Prop} (hq:Q (tuples' true) s):wpAny (model prog w) A (keyKind' vs.toArray) Q E s:=by
 rw [keyKind'_eq,List.mapM_toArray,map_eq_pure_bind,bind_assoc]
 refine qaW (qaZ (zhw vs h) ?_ fun _ _ e=>e)
 rintro r s' ⟨rfl,us,ns,h1,rfl,h3⟩
 rw [pure_bind]
 rw [qa4 (by simp)]
 refine qaW (wpAny_rule ?_)
 have e1:Array.filterMap id (us.map some).toArray=us.toArray:=by simp
 rw [e1,oneTypeOnly'_eq,List.mapM_toArray,mapM_typeOf_ints h1]
 simp only [map_pure,pure_bind]
 obtain ⟨u,us',rfl⟩: ∃ u us',us=u::us':=by
  cases us with
  | nil=>simp at h3;omega
  | cons u us'=>exact ⟨u,us',rfl⟩
 have hall:((List.map (fun _=>Value.type "int") (u::us')).toArray.all fun x=>x==Value.type "int")=true:=by
  simp only [List.all_toArray,List.all_map,List.all_eq_true]
  intro _ _
  rfl
 have h0':(List.map (fun _=>Value.type "int") (u::us')).toArray[0]? = some (Value.type "int"):=by simp
 rw [h0']
 simp only [hall,if_true,pure_bind]
 exact qaX hq
end
theorem zqs.keep {h h':Heap} {v:Value} {p:List Int} (k: ∀ b o,h.get? b=some o->h'.get? b=some o):zqs h v p->zqs h' v p:=fun ⟨a,its,e,⟨o,x1,x2⟩,z⟩=>⟨a,its,e,⟨o,k _ _ x1,x2⟩,z⟩
structure KR where
 O:KeyOrd
 dflt:O.α
 At:Heap->Value->O.α->Prop
 inj: ∀ {h v p q},At h v p->At h v q->p=q
 keep: ∀ {h h':Heap} {v p},(∀ b o,h.get? b=some o->h'.get? b=some o)->At h v p->At h' v p
 first: ∀ {h v p},At h v p->ziO h v
 lt: ∀ {prog:Program} {w:World} {A:Around} {s:Shared} {E:Value->Shared->Prop} {Q:Bool->Shared->Prop} {u v p q},At s.heap v p->At s.heap u q->A.units+2<cLine->Q (O.blt p q) s->wpAny (model prog w) A (keyLt' (tuples' true) v u) Q E s
open Classical in
noncomputable def KR.ky (k:KR) (h:Heap) (v:Value):k.O.α:=if e: ∃ p,k.At h v p then e.choose else k.dflt
theorem KR.ky_eq {k:KR} {h:Heap} {v:Value} {p:k.O.α} (e:k.At h v p):k.ky h v=p:=by
 unfold KR.ky
 rw [dif_pos ⟨p,e⟩]
 exact k.inj (Exists.choose_spec ⟨p,e⟩) e
theorem KR.srt (k:KR) {prog:Program} {w:World} {A:Around} {vs:List Value} {s1:Shared} (hr:A.units+2<cLine) (h: ∀ v,v∈vs-> ∃ p,k.At s1.heap v p):Srt prog w A vs s1 (tuples' true) k.O (k.ky s1.heap) (fun v=> ∃ p,k.At s1.heap v p):=by
 refine ⟨h,fun s2 hk=>⟨fun h2 E Q hq=>zqO (fun v hv=> ?_) h2 hq,fun E x y Q hx hy hq=> ?_⟩⟩
 ·obtain ⟨p,hp⟩:=h v hv
  exact k.first (k.keep hk hp)
 ·obtain ⟨p,hp⟩:=hx
  obtain ⟨q,hq'⟩:=hy
  rw [KR.ky_eq hp,KR.ky_eq hq'] at hq
  exact k.lt (k.keep hk hp) (k.keep hk hq') hr hq
end TS
namespace TS
set_option autoImplicit false
open PySem PyProof.Rows
end TS
namespace L2
open PySem PySem.Spec PyProof.Rows TS
section
variable {X:L2.Cx}
end
end L2
namespace L3
open PySem PySem.Spec PyProof.Rows L2 TS
section
variable {X:L2.Cx} {E:XE}
end
end L3
namespace L3
open PySem PySem.Spec PyProof.Rows L2
section
variable {X:Cx} {E:XE}
noncomputable def ztu:D->Option Bool
 | .non=>some true
 | .int _=>some false
 | .tup _=>some false
 | .lst _=>some false
 | _=>none
noncomputable def zt9 (x y:D):M D:=match y with
 | .non=>do let b<-ofO (ztu x);pure (.bl b)
 | _=>M.bad
noncomputable def znE (x y:D):M D:=match y with
 | .non=>do let b<-ofO (ztu x);pure (.bl (!b))
 | _=>M.bad
theorem zjv {K:W.Frag} {ι:Io} {H:Hp} {x:D} {v:V} {u:Value} {b:Bool} (r:Rel K ι H x v) (rv:zb4 v u) (e:ztu x=some b):(u=Value.none/\b=true)\/(u≠Value.none/\b=false):=by
 cases x with
 | non=>
  simp only [Rel] at r
  subst r
  cases rv
  cases e
  exact .inl ⟨rfl,rfl⟩
 | int i=>
  simp only [Rel] at r
  subst r
  obtain ⟨t,rfl⟩:=rv
  cases e
  exact .inr ⟨(fun z=>by cases z),rfl⟩
 | tup ds=>
  obtain ⟨a,vs,rfl,_,_⟩:=zcO r
  cases rv
  cases e
  exact .inr ⟨(fun z=>by cases z),rfl⟩
 | lst ds=>
  obtain ⟨a,vs,rfl,_,_⟩:=zeC r
  cases rv
  cases e
  exact .inr ⟨(fun z=>by cases z),rfl⟩
 | _=>cases e
theorem zoS:OpR X (compareOp .Is) (zde X.K E zt9):=by
 intro pins s σ H x y v u Q I rx ry ⟨ι,h,d1,d2,r1,r2,hr,q⟩
 cases d2 with
 | non=>
  obtain ⟨b,eb,q⟩:=Fin.ofOb (show Fin X.K E ι H ((do let b<-ofO (ztu d1);pure (.bl b):M D) h) _ from q)
  simp only [Rel] at r2
  subst r2
  cases ry
  rcases zjv r1 rx eb with ⟨rfl,rfl⟩ | ⟨hv,rfl⟩
  ·exact is_none_none (zfm I (Fin.out hr q _ (by simp [Rel])) rfl)
  ·exact is_none_ne hv (zfm I (Fin.out hr q _ (by simp [Rel])) rfl)
 | _=>exact qa0 q
theorem zrg:OpR X (compareOp .IsNot) (zde X.K E znE):=by
 intro pins s σ H x y v u Q I rx ry ⟨ι,h,d1,d2,r1,r2,hr,q⟩
 cases d2 with
 | non=>
  obtain ⟨b,eb,q⟩:=Fin.ofOb (show Fin X.K E ι H ((do let b<-ofO (ztu d1);pure (.bl (!b)):M D) h) _ from q)
  simp only [Rel] at r2
  subst r2
  cases ry
  rcases zjv r1 rx eb with ⟨rfl,rfl⟩ | ⟨hv,rfl⟩
  ·exact isnot_none_none (zfm I (Fin.out hr q _ (by simp [Rel])) rfl)
  ·exact isnot_none_ne hv (zfm I (Fin.out hr q _ (by simp [Rel])) rfl)
 | _=>exact qa0 q
end
section
variable {X:Cx} {E:XE} {scope:Scope} {N:List Str} {src:List (Option Nat)} {tg iter elt:Expr} {ifs:List Expr} {pos:Pos}
noncomputable def zud (d:D):M D:=match d with
 | .cel n=>fun h=>match h[n]? with
  | some (.lst ds)=> .ok (.lst ds) (h.set n .dead)
  | _=> .bad
 | _=>M.bad
theorem zuX {e:Expr} {f:FE} (he:SE X E e f):SE X E e (cUn zud f):=by
 refine PE.imp he fun σ H Q ⟨ι,h,sd,L,hh,q⟩=>⟨ι,h,sd,L,hh,Fin.bind q fun d h1 ι1 H1 e1 s1 hr1 q1 v rv=> ?_⟩
 cases d with
 | cel n=>
  simp only [Rel] at rv
  obtain ⟨a,rfl,hn⟩:=rv
  rcases hn with hn | hn
  rotate_left
  ·have hd:=hr1.dead n hn
   have:Fin X.K E ι1 H1 (match h1[n]? with | some (.lst ds)=>R.ok (D.lst ds) (h1.set n .dead) | _=> .bad) _:=q1
   rw [hd] at this
   exact qa0 this
  have hlt:=(qac.mp hn).1
  have hl:=hr1.len
  obtain ⟨c,hc⟩: ∃ c,h1[n]? = some c:=⟨h1[n],by simp [hl,hlt]⟩
  obtain ⟨ds,vs,rfl,e2,rl⟩: ∃ ds vs,c= .lst ds/\H1 a=some (.lst vs)/\zav X.K ι1 H1 ds vs:=by
   obtain ⟨o,e1,e2⟩:=hr1.at_ n a c hn hc
   cases c with
   | lst ds=>obtain ⟨vs,rfl,rl⟩:=e2;exact ⟨ds,vs,rfl,e1,rl⟩
   | dic kvs=>
    have:Fin X.K E ι1 H1 (match h1[n]? with | some (.lst ds)=>R.ok (D.lst ds) (h1.set n .dead) | _=> .bad) _:=q1
    rw [hc] at this
    exact qa0 this
   | dead=>exact qa0 e2
  have q2:Fin X.K E ι1 H1 (.ok (.lst ds) (h1.set n .dead)) fun d ι' H'=> ∀ v,Rel X.K ι' H' d v->Q v H':=by
   have:Fin X.K E ι1 H1 (match h1[n]? with | some (.lst ds)=>R.ok (D.lst ds) (h1.set n .dead) | _=> .bad) _:=q1
   rw [hc] at this
   exact this
  have mem: ∀ b,some b∈ι1.c.set n none->some b∈ι1.c:=fun b hb=>by
   rcases List.mem_or_eq_of_mem_set hb with z | z
   ·exact z
   ·cases z
  have st:zcd ι1 H1 ⟨ι1.c.set n none,ι1.x⟩ H1:=by
   refine ⟨fun k o hk=> ?_,fun b hb=> .inl (mem b hb),rfl,fun _ _=>rfl,fun _ _ h _=>h⟩
   by_cases hkn:n=k
   ·subst hkn
    right
    show (ι1.c.set n none)[n]? = _
    rw [qai hlt]
   ·left
    show (ι1.c.set n none)[k]? = _
    rw [qao hkn]
    exact hk
  have hna:some a∉ι1.c.set n none:=fun z=>by
   obtain ⟨k,hk⟩:=List.getElem?_of_mem z
   by_cases hkn:n=k
   ·subst hkn
    rw [qai hlt] at hk
    cases hk
   ·rw [qao hkn] at hk
    exact hkn (hr1.inj n k a hn hk)
  have hrn:zbm X.K ⟨ι1.c.set n none,ι1.x⟩ H1 (h1.set n .dead):=by
   refine ⟨by simp [hl],fun i j b hi hj=> ?_,fun k b c' hk hc'=> ?_,fun k hk=> ?_,fun b hb=>⟨(hr1.hidt b hb).1,fun z=>(hr1.hidt b hb).2 (mem b z)⟩⟩
   ·have hi:(ι1.c.set n none)[i]? = some (some b):=hi
    have hj:(ι1.c.set n none)[j]? = some (some b):=hj
    have key: ∀ k,(ι1.c.set n none)[k]? = some (some b)->ι1.c[k]? = some (some b):=fun k hk=>by
     by_cases hkn:n=k
     ·subst hkn
      rw [qai hlt] at hk
      cases hk
     ·rw [qao hkn] at hk
      exact hk
    exact hr1.inj i j b (key i hi) (key j hj)
   ·have hk:(ι1.c.set n none)[k]? = some (some b):=hk
    by_cases hkn:n=k
    ·subst hkn
     rw [qai hlt] at hk
     cases hk
    ·rw [qao hkn] at hk hc'
     obtain ⟨o',x2,x3⟩:=hr1.at_ k b c' hk hc'
     exact ⟨o',x2,x3.pass st.pass⟩
   ·have hk:(ι1.c.set n none)[k]? = some none:=hk
    by_cases hkn:n=k
    ·subst hkn
     rw [qai (by omega)]
    ·rw [qao hkn] at hk ⊢
     exact hr1.dead k hk
  refine q2 _ _ st hrn (.ref a) ?_
  simp only [Rel]
  refine ⟨a,vs,rfl,⟨e2,fun z=> ?_⟩,rl.step st⟩
  rcases z with z | z
  ·exact hna z
  ·exact (hr1.hidt a z).2 (List.mem_of_getElem? hn)
 | _=>exact qa0 q1
end
end L3
namespace L3
open PySem
open Sem (wp)
open AutoSeq1 (wpAny_loadPart')
section
variable {prog:Program} {w:World} {A:Around} {E:Value->Shared->Prop} {s:Shared}
end
end L3
namespace L2
open PySem PySem.Spec PyProof.Rows
section
variable {X:Cx} {elts:List Expr} {k:Nat} {tpos:Pos}
end
end L2
namespace L3
open PySem PySem.Spec PyProof.Rows L2
section
variable {X:Cx} {E:XE} {elts:List Expr} {k:Nat} {tpos pos:Pos}
noncomputable def zjt (fs:FA):FA:=fun sd=>do let ds<-fs sd;zlH ds
theorem zrQ {tg a b:Expr} {p:Pos} {fs:FA} (hm:X.mg "range"=none) (ha:SA X E [a,b] fs) (hg:Gl X "range":=by rfl) (hs:starEach [a,b] X.env=[(false,eval a X.env),(false,eval b X.env)]:=by rfl) (hs2:starEach [b] X.env=[(false,eval b X.env)]:=by rfl):
  SI X E tg (.Call (.Name "range" p) [a,b] [] pos) (zjt fs):=zpu (zlR hg hm ha hs hs2)
end
end L3
namespace L2
open PySem PySem.Spec PyProof.Rows
section
variable {κ:Type} [DecidableEq κ]
noncomputable def zoW (kvs:List (κ×V)) (k:κ) (v:V):List (κ×V):=
 if (kvs.any fun kv=>decide (kv.1=k))=true then kvs.map (fun kv=>if kv.1=k then (kv.1,v) else kv) else kvs++[(k,v)]
theorem zia (kvs:List (κ×V)) (k:κ) (v:V):(zoW kvs k v).length<=kvs.length+1:=by
 unfold zoW
 split
 ·rw [qaH];omega
 ·rw [qav,qaE,qaJ];omega
theorem KV.any {kvs:List (κ×V)} {vs:List (κ×Value)} (r:KV kvs vs) (k:κ):(kvs.any fun kv=>decide (kv.1=k))=vs.any fun kv=>decide (kv.1=k):=by
 unfold KV at r
 induction r with
 | nil=>rfl
 | cons h t ih=>rw [List.any_cons,List.any_cons,ih,h.1]
theorem KV.repl {kvs:List (κ×V)} {vs:List (κ×Value)} (r:KV kvs vs) (k:κ) {y:V} {u:Value} (ry:zb4 y u):
  KV (kvs.map fun kv=>if kv.1=k then (kv.1,y) else kv) (vs.map fun kv=>if kv.1=k then (kv.1,u) else kv):=by
 unfold KV at r ⊢
 induction r with
 | nil=>exact .nil
 | @cons p q ps qs h t ih=>
  rw [qaM,qaM]
  refine .cons ?_ ih
  obtain ⟨h1,h2⟩:=h
  by_cases e:p.1=k
  ·rw [qa4 e,qa4 (h1.symm.trans e)];exact ⟨h1,ry⟩
  ·rw [qa5 e,qa5 (fun z=>e (h1.trans z))];exact ⟨h1,h2⟩
theorem KV.put {kvs:List (κ×V)} {vs:List (κ×Value)} (r:KV kvs vs) (k:κ) {y:V} {u:Value} (ry:zb4 y u):KV (zoW kvs k y) (stored vs k u):=by
 unfold zoW stored
 rw [r.any k]
 by_cases e:(vs.any fun kv=>decide (kv.1=k))=true
 ·rw [qa4 e,qa4 e];exact r.repl k ry
 ·rw [qa5 e,qa5 e];exact Paired.snoc r ⟨rfl,ry⟩
theorem KV.length {kvs:List (κ×V)} {vs:List (κ×Value)} (r:KV kvs vs):kvs.length=vs.length:=Paired.length r
end
theorem zr5 {P:Program} {w:World} {k:Key} {u:Value} (r:zb4 (kV k) u):(zfD P w).is k u=true:=by
 cases k with
 | inl i=>obtain ⟨t,e⟩:=(show ∃ t,u=Value.int i t from r);subst e;exact ziH P w i t
 | inr x=>obtain ⟨t,e⟩:=(show ∃ t,u=Value.str x t from r);subst e;exact ziw P w x t
section
variable {X:Cx}
theorem zq6:zpD X (fun x y v H Q=> ∃ a kvs k,x= .ref a/\y=kV k/\H a=some (.dK kvs)/\kvs.length<sizeLine/\Q (upd H a (.dK (zoW kvs k v)))):=by
 intro pins s σ H o i v ov iv u Q I ro ri rv h
 obtain ⟨a,kvs,k,rfl,rfl,e,l,q⟩:=h
 cases ro
 obtain ⟨z,hd,vs,rel,dd⟩:=(show zbV X.prog X.w H s.heap a (.dK kvs) from I.hok a _ e)
 have hz:vs.length<=sizeLine:=by rw [<- rel.length];exact z
 have hl:(zoW kvs k v).length<=sizeLine:=by have:=zia kvs k v;omega
 refine wpAny_setItem_pairs (hsz:=hz) (zr5 ri) dd fun h' dd' hs=>⟨_,?_,q⟩
 have he: ∃ q,h'.get? a=some q:=let ⟨q,_,_,hq,_⟩:=dd';⟨q,hq⟩
 exact I.write (x:=a) (e:=a) (by rw [e];exact True.intro) (.inl rfl) (fun b q hb z=>(hs.2 b hb).trans z) he ⟨hl,hd,_,rel.put k rv,dd'⟩
end
end L2
namespace L3
open PySem PySem.Spec PyProof.Rows L2
section
variable {X:L2.Cx} {E:XE}
noncomputable def zgh (kvs:List (Int×D)) (k:Int) (d:D):List (Int×D):=
 if (kvs.any fun p=>decide (p.1=k))=true then kvs.map (fun p=>if p.1=k then (p.1,d) else p) else kvs++[(k,d)]
noncomputable def zcN (n:Nat):M (List (Int×D)):=fun h=>match h[n]? with
 | some (.dic kvs)=> .ok kvs h
 | _=> .bad
noncomputable def zfl (n:Nat) (kvs:List (Int×D)):M Unit:=fun h=> .ok () (h.set n (.dic kvs))
noncomputable def zva:FE:=fun _ h=> .ok (.cel h.length) (h++[.dic []])
theorem zvq {pos:Pos}:SE X E (.Dict [] [] pos) zva:=by
 refine PE.imp znJ fun σ H Q ⟨ι,h,sd,L,hh,q⟩ p hp=> ?_
 exact ztn (E:=E) hh (c0:= .dic []) ⟨[],rfl,.nil⟩ q hp
noncomputable def znV (o k d:D):M Unit:=match o,k with
 | .cel n,.int k=>do
  let kvs<-zcN n
  fits (kvs.length+1)
  zfl n (zgh kvs k d)
 | _,_=>M.bad
noncomputable def zuQ (fo fi:FE):D->Sd->M Sd:=fun d sd=>do let x<-fo sd;let y<-fi sd;znV x y d;pure sd
theorem zq2 {K:W.Frag} {ι:Io} {H:Hp} {kvs:List (Int×D)} {vs:List (Key×V)} {k:Int} {d:D} {v:V} (r:Paired (fun (p:Int×D) (q:Key×V)=>q.1= .inl p.1/\Rel K ι H p.2 q.2) kvs vs) (rv:Rel K ι H d v):
  Paired (fun (p:Int×D) (q:Key×V)=>q.1= .inl p.1/\Rel K ι H p.2 q.2) (zgh kvs k d) (zoW vs (.inl k) v):=by
 have ha:(kvs.any fun p=>decide (p.1=k))=(vs.any fun p=>decide (p.1=(.inl k:Key))):=by
  induction r with
  | nil=>rfl
  | @cons p q ps qs h t ih=>
   rw [List.any_cons,List.any_cons,ih,h.1]
   congr 1
   rw [Bool.eq_iff_iff]
   simp only [qaD]
   exact ⟨fun z=>by rw [z],fun z=>by injection z⟩
 unfold zgh zoW
 rw [ha]
 by_cases e:(vs.any fun p=>decide (p.1=(.inl k:Key)))=true
 ·rw [qa4 e,qa4 e]
  clear ha e
  induction r with
  | nil=>exact .nil
  | @cons p q ps qs h t ih=>
   rw [qaM,qaM]
   refine .cons ?_ ih
   by_cases e:p.1=k
   ·rw [qa4 e,qa4 (by rw [h.1,e])];exact ⟨h.1,rv⟩
   ·rw [qa5 e,qa5 (fun z=>e (by rw [h.1] at z;injection z))];exact h
 ·rw [qa5 e,qa5 e]
  exact Paired.snoc r ⟨rfl,rv⟩
theorem zs6 {o i:Expr} {pos:Pos} {fo fi:FE} (ho:SE X E o fo) (hi:SE X E i fi)
  (ha: ∀ v,assign (.Subscript o i pos) X.env v=(do
    let ov<-holding [v] (eval o X.env)
    let iv<-holding [v,ov] (eval i X.env)
    standAt pos
    holding [v,ov,iv] (setItem ov iv v)
    release [v,ov,iv] []):=by intro _;rfl):SG X E (.Subscript o i pos) (zuQ fo fi):=by
 refine PG.imp (zpf ho hi zq6 ha) fun v σ H Q ⟨ι,h,sd,d,L,hr,rd,q⟩=>⟨ι,h,sd,L,hr,Fin.bind q fun x h1 ι1 H1 e1 s1 hr1 q1 xv rx=> ?_⟩
 refine ⟨ι1,h1,sd,L.step s1,hr1,Fin.bind q1 fun y h2 ι2 H2 e2 s2 hr2 q2 yv ry=> ?_⟩
 cases x with
 | cel n=>
  cases y with
  | int k=>
   have rx2:=rx.step s2
   have q3:Fin X.K E ι2 H2 ((zcN n>>=fun kvs=>(fits (kvs.length+1)>>=fun _=>zfl n (zgh kvs k d)>>=fun _=>pure sd)) h2) (fun sd' ι' H'=> ∀ σ',zcK X.K ι' H' sd' σ'->Q σ' H'):=by
    have e:(do znV (.cel n) (.int k) d;pure sd:M Sd)=(zcN n>>=fun kvs=>(fits (kvs.length+1)>>=fun _=>zfl n (zgh kvs k d)>>=fun _=>pure sd)):=by
     show ((zcN n>>=fun kvs=>(fits (kvs.length+1)>>=fun _=>zfl n (zgh kvs k d)))>>=fun _=>pure sd)=_
     rw [bind_assoc]
     congr 1
     funext kvs
     rw [bind_assoc]
    rw [<- e]
    exact q2
   simp only [Rel] at rx2 ry
   obtain ⟨a,rfl,hn⟩:=rx2
   have q4:Fin X.K E ι2 H2 (M.bind (zcN n) (fun kvs=>(fits (kvs.length+1)>>=fun _=>zfl n (zgh kvs k d)>>=fun _=>pure sd)) h2) (fun sd' ι' H'=> ∀ σ',zcK X.K ι' H' sd' σ'->Q σ' H'):=q3
   unfold M.bind zcN at q4
   rcases hn with hn | hn
   ·have hl:=hr2.len
    have hlt:=(qac.mp hn).1
    obtain ⟨c,hc⟩: ∃ c,h2[n]? = some c:=⟨h2[n],by simp [hl,hlt]⟩
    rw [hc] at q4
    obtain ⟨ob,e3,co⟩:=hr2.at_ n a c hn hc
    cases c with
    | dic kvs=>
     obtain ⟨vs,rfl,rp⟩:=co
     obtain ⟨hf,q5⟩:=Fin.fits q4
     have hlen:kvs.length=vs.length:=Paired.length rp
     refine ⟨a,vs,.inl k,rfl,ry,e3,by omega,?_⟩
     have rd2:=(rd.step s1).step s2
     refine q5 ι2 _ (hr2.cellS hn) (hr2.cellO hn (c':= .dic (zgh kvs k d)) ⟨_,rfl,zq2 rp rd2⟩) σ ?_
     exact ((L.step s1).step s2).step (hr2.cellS hn)
    | lst ds=>exact qa0 q4
    | dead=>exact qa0 q4
   ·rw [hr2.dead n hn] at q4
    exact qa0 q4
  | _=>exact qa0 q2
 | _=>exact qa0 q2
end
open LT
section
variable {h:Hh}
theorem zmk {n:Nat} {kvs:List (Int×D)} {P:List (Int×D)->Hh->Prop} (e:h[n]? = some (.dic kvs)):wp (zcN n) h P↔P kvs h:=by
 unfold wp zcN
 rw [e]
 exact ⟨fun ⟨b,h',e,q⟩=>by cases e;exact q,fun q=>⟨_,_,rfl,q⟩⟩
theorem zpq {n:Nat} {kvs:List (Int×D)} {P:Unit->Hh->Prop}:wp (zfl n kvs) h P↔P () (h.set n (.dic kvs)):=⟨fun ⟨b,h',e,q⟩=>by cases (show R.ok () (h.set n (.dic kvs))=R.ok b h' from e);exact q,fun q=>⟨_,_,rfl,q⟩⟩
theorem zqo {sd:Sd} {P:D->Hh->Prop}:wp (zva sd) h P↔P (.cel h.length) (h++[.dic []]):=⟨fun ⟨b,h',e,q⟩=>by cases (show R.ok (D.cel h.length) (h++[C.dic []])=R.ok b h' from e);exact q,fun q=>⟨_,_,rfl,q⟩⟩
theorem zr9 {a b:FE} {d:D} {sd:Sd}:zuQ a b d sd=(do let x<-a sd;let y<-b sd;znV x y d;pure sd):=rfl
theorem zty {n:Nat} {k:Int} {d:D}:znV (.cel n) (.int k) d=(do let kvs<-zcN n;fits (kvs.length+1);zfl n (zgh kvs k d)):=rfl
end
end L3
namespace L3
open PySem PySem.Spec PyProof.Rows L2
structure Fd (K:W.Frag) (x:Str) (st:Stmt) (a:Addr) (d:FuncData):Prop where
 e:W.nsIn K mainGlobals x=some (some (.ref a))
 F:Fun K x x st a d
section
variable {X:Cx} {E:XE}
noncomputable def zon (x y:D):M D:=match x,y with
 | .lst xs,.int k=>if 0<=k/\k<1000/\xs.length*k.toNat<=sizeLine then pure (.lst (List.replicate k.toNat xs).flatten) else M.bad
 | _,_=>M.bad
theorem zq7:OpR X (binaryOp .Mult) (zde X.K E zon):=by
 refine OpR.imp zrS fun x y H Q ⟨ι,h,d1,d2,r1,r2,hr,q⟩=> ?_
 unfold zon at q
 split at q
 ·simp only [Rel] at r1 r2
  obtain ⟨a,vs,e,k1,k2⟩:=r1
  obtain ⟨⟨c2,c3,c4⟩,q⟩:=Fin.guard q
  exact ⟨a,_,vs,e,r2,k1.1,by omega,by omega,by rw [<- k2.length];exact c4,fun p hp=>zqd hr (k2.rep _) q hp⟩
 ·exact qa0 q
end
end L3
namespace L3
open PySem PyProof.Rows HT
section
open PySem.SeqAt
open PySem.AutoSeq1 (wpAny_loadPart')
open PySem.MeetsSeq PySem.MeetsSeq2 PySem.MeetsSeq3
end
section
variable {prog:Program} {w:World} {A:Around} {E:Value->Shared->Prop} {s:Shared}
end
end L3
namespace L3
open PySem PyProof.Rows
section
open PySem.SeqAt
open PySem.AutoSeq1 (wpAny_loadPart')
open PySem.MeetsSeq PySem.MeetsSeq2 PySem.MeetsSeq3
section
variable {prog:Program} {w:World} {A:Around} {E:Value->Shared->Prop} {s:Shared}
end
end
open PySem.Spec L2
section
variable {X:Cx} {E:XE}
end
end L3
namespace L2
open PySem PySem.Spec PyProof.Rows
section
variable {X:Cx}
theorem zlA:zaV X (.builtin "abs") (fun xs H Q=> ∃ i,xs=[.int i]/\Q (.int (if i<0 then -i else i)) H):=by
 intro pins s σ H xs us Q I r h
 obtain ⟨i,rfl,q⟩:=h
 obtain ⟨u,rfl,t,rfl⟩:=zeP r
 exact call_abs_int fun u tk=>⟨.int (if i<0 then -i else i),H,I.tok _,⟨_,rfl⟩,q⟩
end
end L2
namespace L3
open PySem PySem.Spec PyProof.Rows L2
section
variable {X:Cx} {E:XE}
noncomputable def ztJ:List D->M D
 | [.int i]=>pure (.int (if i<0 then -i else i))
 | _=>M.bad
theorem zh5:zaV X (.builtin "abs") (ziL X.K E ztJ):=by
 refine zaV.imp zlA fun xs H Q ⟨ι,h,ds,rl,hr,q⟩=> ?_
 unfold ztJ at q
 split at q
 ·simp only [zav,Rel] at rl
  obtain ⟨v,r,rfl,rfl,rfl⟩:=rl
  exact ⟨_,rfl,Fin.out hr q _ (by simp [Rel])⟩
 ·exact qa0 q
noncomputable def zry (i j:Nat) (fs:FA):FS:=fun sd=>do let ds<-fs sd;match ds with | [d,d']=>pure (.nx ((sd.set i (some d)).set j (some d'))) | _=>M.bad
theorem zr8 {x y:Str} {a b:Expr} {fs:FA} {px py pt pos:Pos} {kt k2 pt2} (i j:Nat) (hc:X.calm=true) (hN:X.N.Nodup) (ha:SA X E [a,b] fs) (hi:X.N[i]? = some x:=by rfl) (hj:X.N[j]? = some y:=by rfl) (hij:i≠j:=by decide)
  (hx:X.env.scope.names.lookup x=some .local:=by rfl) (hy:X.env.scope.names.lookup y=some .local:=by rfl)
  (hw:swappedStores [.Tuple [.Name x px,.Name y py] kt pt] (.Tuple [a,b] k2 pt2) X.env=pure (some [x,y]):=by rfl)
  (hs:swapsWithSole [.Tuple [.Name x px,.Name y py] kt pt] (.Tuple [a,b] k2 pt2) pos.line X.env=pure false:=by rfl):
  SS X E (.Assign [.Tuple [.Name x px,.Name y py] kt pt] (.Tuple [a,b] k2 pt2) pos) (zry i j fs):=zvL (zr1 hc hN hi hj hij hx hy ha hw hs)
end
open Classical in
noncomputable def chk (n:Nat) (ds:List D):M Unit:=fun h=>if h[n]? = some (.lst ds) then .ok () h else .bad
section
variable {X:Cx} {E:XE} {scope:Scope} {N:List Str} {src:List (Option Nat)} {tg iter elt:Expr} {ifs:List Expr} {pos:Pos}
end
end L3
namespace L3
open PySem PySem.Spec PyProof.Rows L2
section
variable {X:Cx} {E:XE} {pos:Pos}
noncomputable def zd3 (x y:D):M D:=fun h=>match pdH h x,pdH h y with
 | some a,some (.list xs)=>if zgw a xs=true then .ok (.bl (!xs.any (fun y=>PyData.eqv y a))) h else .bad
 | some a,some (.tuple xs)=>if zgw a xs=true then .ok (.bl (!xs.any (fun y=>PyData.eqv y a))) h else .bad
 | _,_=> .bad
theorem zmo (hu:X.A.units+60<cLine):OpR X (compareOp .NotIn) (zde X.K E zd3):=by
 intro pins s σ H x y v u Q I rx ry ⟨ι,h,d1,d2,r1,r2,hr,q⟩
 unfold zd3 at q
 cases e1:pdH h d1 with
 | none=>rw [e1] at q;exact qa0 q
 | some a=>
  cases e2:pdH h d2 with
  | none=>rw [e1,e2] at q;exact qa0 q
  | some b=>
   rw [e1,e2] at q
   obtain ⟨as,ra⟩:=zhx I hr r1 rx e1
   obtain ⟨bs,rb⟩:=zhx I hr r2 ry e2
   cases b with
   | list xs=>
    dsimp only at q
    by_cases c:zgw a xs=true
    ·rw [qa4 c] at q
     obtain ⟨c1,c2,c3⟩:=zeY c
     exact SeqAt.notIn_list_reads rb ra c2 c1 (by omega) ⟨.bl _,H,I,rfl,q ι H (zcd.refl _ _) hr (.bl _) (by simp [Rel])⟩
    ·rw [qa5 c] at q
     exact qa0 q
   | tuple xs=>
    dsimp only at q
    by_cases c:zgw a xs=true
    ·rw [qa4 c] at q
     obtain ⟨c1,c2,c3⟩:=zeY c
     exact SeqAt.notIn_tuple_reads rb ra c2 c1 (by omega) ⟨.bl _,H,I,rfl,q ι H (zcd.refl _ _) hr (.bl _) (by simp [Rel])⟩
    ·rw [qa5 c] at q
     exact qa0 q
   | _=>exact qa0 q
end
end L3
namespace L2
open PySem PySem.Spec PyProof.Rows
section
variable {X:Cx}
noncomputable def atK (kvs:List (Key×V)) (k:Key):Option V:=(kvs.find? fun q=>decide (q.1=k)).map (·.2)
theorem zqu {kvs:List (Key×V)} {us:List (Key×Value)} (r:KV kvs us) {k:Key} {v:V} (e:atK kvs k=some v): ∃ w,valueAt us k=some w/\zb4 v w:=by
 unfold KV at r
 induction r with
 | nil=>cases e
 | @cons p q ps qs h t ih=>
  by_cases hk:p.1=k
  ·have e2:atK (p::ps) k=some p.2:=by simp [atK,List.find?_cons,hk]
   rw [e2] at e
   cases e
   exact ⟨q.2,by simp [valueAt,List.find?_cons,h.1.symm.trans hk],h.2⟩
  ·have hk': ¬q.1=k:=fun z=>hk (h.1.trans z)
   have e2:atK (p::ps) k=atK ps k:=by simp [atK,List.find?_cons,hk]
   rw [e2] at e
   obtain ⟨w,hw,rw'⟩:=ih e
   exact ⟨w,by rw [<- hw];simp [valueAt,List.find?_cons,hk'],rw'⟩
theorem zt5:IxR X (fun x y H Q=> ∃ a kvs k v,x= .ref a/\y=kV k/\H a=some (.dK kvs)/\atK kvs k=some v/\Q v H):=by
 intro value slice pins s σ H x y v u Q I rx ry h hs
 obtain ⟨a,kvs,k,z,rfl,rfl,e,l,q⟩:=h
 cases rx
 obtain ⟨zz,hd,vs,rel,dd⟩:=(show zbV X.prog X.w H s.heap a (.dK kvs) from I.hok a _ e)
 obtain ⟨w',hw,rw'⟩:=zqu rel l
 exact tail_any dd.typeIs slot_dict_getitem.lookup (wpAny_getItem_of (zr5 ry) dd.mapOf hw ⟨z,H,I.tok _,rw',q⟩) hs
theorem zf3: ∀ {ns:List Int} {its:List Value},zba (ns.map V.int) its-> ∃ xs:List (Int×Tok),its=xs.map (fun p=>Value.int p.1 p.2)/\xs.map (·.1)=ns
 | [],its,r=>by
  cases r
  exact ⟨[],rfl,rfl⟩
 | n::ns,its,r=>by
  cases r with
  | cons r1 r2=>
   obtain ⟨t,rfl⟩:=r1
   obtain ⟨xs,rfl,e⟩:=zf3 r2
   exact ⟨(n,t)::xs,rfl,by rw [qaM,e]⟩
noncomputable def zjD (ns:List Int):Int:=ns.getD (argBest (fun i j=>decide (ns.getD i 0>ns.getD j 0)) (ns.length - 1)) 0
theorem zlN (hc:X.calm=true):zaV X (.builtin "max") (fun xs H Q=> ∃ (a:Addr) (ns:List Int),xs=[.ref a]/\SqL X.K H a (ns.map V.int)/\0<ns.length/\Q (.int (zjD ns)) H):=by
 intro pins s σ H xs us Q I r h
 obtain ⟨a,ns,rfl,hq,hpos,q⟩:=h
 obtain ⟨u,rfl,rx⟩:=zeP r
 cases rx
 obtain ⟨its,r',pl,hz⟩:=I.list hq
 obtain ⟨ps,rfl,en⟩:=zf3 r'
 have hl:ps.length=ns.length:=by rw [<- en,qaH]
 have hi:(ps.map fun p=>Value.int p.1 p.2).toArray=intItems ps.toArray:=by simp [intItems]
 rw [hi] at pl
 have hn: ∀ i,numAt ps.toArray i=ns.getD i 0:=fun i=>by
  rw [<- en]
  simp [numAt,List.getD]
 refine max_intList (I.ok.hd hc) pl.isList (by simpa [hl] using hpos) fun v h' tk hv hk=> ?_
 obtain ⟨t,rfl⟩:=intItems_at hv
 refine ⟨.int (zjD ns),H,I.grown (s':={s with heap:=h',toks:=tk}) rfl rfl hk,⟨t,?_⟩,q⟩
 rw [hn]
 have hf:(fun i j=>decide (numAt ps.toArray i>numAt ps.toArray j))=fun i j=>decide (ns.getD i 0>ns.getD j 0):=by
  funext i j
  rw [hn,hn]
 rw [hf]
 unfold zjD
 rw [qaA,hl]
end
end L2
namespace L3
open PySem PySem.Spec PyProof.Rows L2
section
variable {X:L2.Cx} {E:XE}
noncomputable def zeD (kvs:List (Int×D)) (k:Int):Option D:=(kvs.find? fun p=>p.1==k).map (·.2)
noncomputable def zuc (x y:D):M D:=match x,y with
 | .cel n,.int k=>do let kvs<-zcN n;ofO (zeD kvs k)
 | _,_=>M.bad
theorem zoh {K:W.Frag} {ι:Io} {H:Hp}: ∀ {kvs:List (Int×D)} {vs:List (Key×V)},Paired (fun (p:Int×D) (q:Key×V)=>q.1= .inl p.1/\Rel K ι H p.2 q.2) kvs vs-> ∀ {k:Int} {d:D},zeD kvs k=some d-> ∃ v,atK vs (.inl k)=some v/\Rel K ι H d v:=by
 intro kvs vs r
 induction r with
 | nil=>intro k d e;cases e
 | @cons p q ps qs h t ih=>
  intro k d e
  by_cases hk:p.1=k
  ·have e2:zeD (p::ps) k=some p.2:=by simp [zeD,List.find?_cons,hk]
   rw [e2] at e
   cases e
   exact ⟨q.2,by simp [atK,List.find?_cons,h.1,hk],h.2⟩
  ·have e2:zeD (p::ps) k=zeD ps k:=by simp [zeD,List.find?_cons,hk]
   rw [e2] at e
   obtain ⟨v,hv,rv⟩:=ih e
   have hk': ¬q.1=(.inl k:Key):=fun z=>hk (by rw [h.1] at z;injection z)
   exact ⟨v,by rw [<- hv];simp [atK,List.find?_cons,hk'],rv⟩
theorem zwO:IxR X (zde X.K E zuc):=by
 refine IxR.imp zt5 fun x y H Q ⟨ι,h,d1,d2,r1,r2,hr,q⟩=> ?_
 cases d2 with
 | int k=>
  cases d1 with
  | cel n=>
   simp only [Rel] at r1 r2
   obtain ⟨a,rfl,hn⟩:=r1
   have q4:Fin X.K E ι H (M.bind (zcN n) (fun kvs=>L3.ofO (zeD kvs k)) h) (fun d ι' H'=> ∀ v,Rel X.K ι' H' d v->Q v H'):=q
   unfold M.bind zcN at q4
   rcases hn with hn | hn
   ·have hl:=hr.len
    have hlt:=(qac.mp hn).1
    obtain ⟨c,hc⟩: ∃ c,h[n]? = some c:=⟨h[n],by simp [hl,hlt]⟩
    rw [hc] at q4
    obtain ⟨ob,e3,co⟩:=hr.at_ n a c hn hc
    cases c with
    | dic kvs=>
     obtain ⟨vs,rfl,rp⟩:=co
     obtain ⟨d,ed,q5⟩:=Fin.ofO hr q4
     obtain ⟨v,ev,rv⟩:=zoh rp ed
     exact ⟨a,vs,.inl k,v,rfl,r2,e3,ev,q5 v rv⟩
    | lst ds=>exact qa0 q4
    | dead=>exact qa0 q4
   ·rw [hr.dead n hn] at q4
    exact qa0 q4
  | _=>exact qa0 q
 | _=>cases d1<;>exact qa0 q
theorem zu1 {a b:Expr} {fa fb:FE} {pos:Pos} (ha:SE X E a fa) (hb:SE X E b fb) (hs:zgD b:=by intro _ _;rfl):SE X E (.Subscript a b pos) (cOp zuc fa fb):=zsi zwO ha hb hs
noncomputable def zox:List D->M D:=zn0 fun d=>do
 let ds<-zm1 d
 let ns<-ofO (match d with | .tup _=>none | _=>zcS ds)
 if 0<ns.length then pure (.int (zjD ns)) else M.bad
theorem zf9 (hc:X.calm=true):zaV X (.builtin "max") (ziL X.K E zox):=by
 refine zaV.imp (zlN hc) fun xs H Q ⟨ι,h,ds,rl,hr,q⟩=> ?_
 obtain ⟨d,v,e,r,q⟩:=zc8 rl q
 obtain ⟨a,vs,ds',e',hs,rl',q⟩:=zdE hr r q
 obtain ⟨ns,ep,q⟩:=Fin.ofOb q
 rcases hs with ⟨hs,hd⟩ | ⟨hs,hd⟩
 ·have ep':zcS ds'=some ns:=by
   cases d with
   | tup ts=>exact absurd rfl (hd ts)
   | _=>exact ep
  have ev:=zcV rl' ep'
  subst ev
  by_cases hn:0<ns.length
  ·rw [qa4 hn] at q
   exact ⟨a,ns,by rw [e,e'],hs,hn,Fin.out hr q _ (by simp [Rel])⟩
  ·rw [qa5 hn] at q
   exact qa0 q
 ·subst hd
  cases ep
theorem zoj:OpR X (binaryOp .FloorDiv) (rI (fun _ j=>0<j/\j<2^8000) fun i j=> .int (i / j)):=opI fun i j _ _ _ _ _ hc q=>by
 refine floordiv_int (by omega) (by rw [Int.fdiv_eq_ediv_of_nonneg _ (by omega)];exact q) (.inl (PyProof.noPylong_of_log2 ?_))
 have h1:j.natAbs<2^8000:=by omega
 have h0:j.natAbs≠0:=by omega
 exact Nat.lt_trans ((Nat.log2_lt h0).mpr h1) (by decide)
noncomputable def zfC:=dII (fun _ j=>decide (0<j) && decide (j<2^8000)) fun i j=> .int (i / j)
theorem ze0:OpR X (binaryOp .FloorDiv) (zde X.K E zfC):=ziF zoj (fun i j h=>by simpa using h) fun _ _ _ _=>by simp [Rel]
end
section
variable {X:L2.Cx} {E:XE}
end
end L3
namespace L2
open PySem PySem.Spec PyProof.Rows
section
variable {X:Cx}
end
end L2
namespace L3
open PySem PySem.Spec PyProof.Rows L2
section
variable {X:L2.Cx} {E:XE}
end
end L3
namespace L3
open PySem
open Sem (wp)
section
variable {prog:Program} {w:World} {A:Around} {E:Value->Shared->Prop} {s:Shared}
end
section
variable {prog:Program} {w:World} {A:Around} {E:Value->Shared->Prop} {s:Shared}
end
end L3
namespace L2
open PySem PySem.Spec PyProof.Rows
section
variable {X:Cx} {pins:List (Addr×Obj)} {σ:St} {H:Hp} {s:Shared} {h':Heap}
end
section
variable {X:Cx} {elts:List Expr} {k:Nat} {tpos:Pos}
end
end L2
namespace L3
open PySem PySem.Spec PyProof.Rows L2
section
variable {X:Cx} {E:XE} {elts:List Expr} {k:Nat} {tpos pos:Pos}
end
end L3
namespace L2
open PySem PySem.Spec PyProof.Rows
section
variable {X:Cx}
end
end L2
namespace L3
open PySem PySem.Spec PyProof.Rows L2
section
variable {X:L2.Cx} {E:XE}
end
open LT
def Gro (h h':Hh):Prop:= ∃ t,h'=h++t
theorem Gro.refl {h:Hh}:Gro h h:=⟨[],by simp⟩
theorem Gro.trans {h h1 h2:Hh} (a:Gro h h1) (b:Gro h1 h2):Gro h h2:=by
 obtain ⟨t,rfl⟩:=a
 obtain ⟨u,rfl⟩:=b
 exact ⟨t++u,by simp⟩
theorem Gro.get {h h':Hh} {n:Nat} {c:C} (g:Gro h h') (e:h[n]? = some c):h'[n]? = some c:=by
 obtain ⟨t,rfl⟩:=g
 rw [qad (qac.mp e).1]
 exact e
theorem Gro.ext {b:Nat} {h h':Hh} (q:Bx b h) (g:Gro h h'):Ext b h h':=by
 obtain ⟨z,e⟩:=q
 exact ⟨⟨z,g.get e⟩,fun n c _ e=>g.get e⟩
def Ev {α:Type} (m:M α) (a:α):Prop:= ∀ h, ∃ h',m h= .ok a h'/\Gro h h'
section
variable {α β:Type} {m:M α} {a:α} {f:α->M β} {b:β} {h:Hh} {P:α->Hh->Prop}
theorem Ev.pure:Ev (Pure.pure a:M α) a:=fun h=>⟨h,rfl,.refl⟩
theorem Ev.of (e:m=Pure.pure a):Ev m a:=e▸ .pure
theorem Ev.bind (x:Ev m a) (y:Ev (f a) b):Ev (m>>=f) b:=fun h=>by
 obtain ⟨h1,e1,g1⟩:=x h
 obtain ⟨h2,e2,g2⟩:=y h1
 refine ⟨h2,?_,g1.trans g2⟩
 show M.bind m f h=_
 unfold M.bind
 rw [e1]
 exact e2
theorem Ev.wp (x:Ev m a) (k: ∀ h',Gro h h'->P a h'):wp m h P:=by
 obtain ⟨h1,e1,g1⟩:=x h
 exact ⟨a,h1,e1,k h1 g1⟩
theorem Ev.of_wp (x: ∀ h,L3.wp m h fun r h'=>r=a/\Gro h h'):Ev m a:=fun h=>by
 obtain ⟨r,h1,e1,rfl,g⟩:=x h
 exact ⟨h1,e1,g⟩
theorem Ev.noX (x:Ev m a):Ev (L3.noX m) a:=fun h=>by
 obtain ⟨h1,e1,g1⟩:=x h
 refine ⟨h1,?_,g1⟩
 unfold L3.noX
 rw [e1]
end
@[simp] theorem znz {α:Type} {a:α}:noX (pure a:M α)=pure a:=rfl
noncomputable def zhN {α:Type} (c:String):M α:=fun h=> .exc c h
@[simp] theorem zkb {α β:Type} {c:String} {f:α->M β}:((zhN c:M α)>>=f)=zhN c:=rfl
@[simp] theorem zok {c:String} {sd:Sd}:zsK c sd=zhN c:=rfl
theorem zs3 {n:Nat} {Fs:List (List D->M D)} {fi:FE} {fs:FA} {sd:Sd}:zuq n Fs fi fs sd=(do let i<-fi sd;let F<-ztY Fs i;let ds<-fs sd;zar n F ds):=rfl
noncomputable def tI (xs:List Int):D:= .tup (xs.map D.int)
noncomputable def zcJ (o:List Int×Int):D:= .tup [tI o.1,.int o.2]
noncomputable def zbb (m:Int) (os:List (List Int×Int)):D:= .tup [.int m,.tup (os.map zcJ)]
structure Stk (m:Int) (os:List (List Int×Int)):Prop where
 m0:1<=m
 m1:m<=10
 len:os.length<=12
 up: ∀ o∈os,o.1.Pairwise (· < ·)
 bd: ∀ o∈os, ∀ x∈o.1,0<=x/\x<m
 ne: ∀ o∈os,o.1≠[]
 pos: ∀ o∈os,0<o.2
theorem Stk.olen {m:Int} {os:List (List Int×Int)} (s:Stk m os): ∀ o∈os,o.1.length<=10:=fun o ho=>by
 have h:=zeV (m:=m) (ts:=o.1.map D.int) (l:=0) (zby.mpr ⟨s.up o ho,fun x hx=>s.bd o ho x hx⟩) (by have:=s.m0;omega)
 rw [qaH] at h
 have:=s.m1
 omega
theorem zmj {fo fe:FE} {sd:Sd}:zgT fo fe sd=(do let x<-fo sd;zdn x;let y<-fe sd;zd4 x y):=rfl
theorem zpY {n:Nat}:zdn (.cel n)=(do let _<-zao n;pure ()):=rfl
theorem zn7 {n:Nat} {zs:List D}:zd4 (.cel n) (.tup zs)=(do let ds<-zao n;fits (ds.length+zs.length);zbE n (ds++zs);pure .non):=rfl
theorem zfw {xs:List Int} {m:Int} (m0:0<=m) (h:xs.Pairwise (· < ·)) (b: ∀ x∈xs,0<=x/\x<m):(xs.length:Int)<=m:=by
 have:=zeV (m:=m) (ts:=xs.map D.int) (l:=0) (zby.mpr ⟨h,b⟩) m0
 rw [qaH] at this
 omega
theorem zof {xs:List Int} {m:Int} (m0:0<=m) (b: ∀ x∈xs,0<=x/\x<m):((zdj xs).length:Int)<=m:=zfw m0 (zcA xs) fun x hx=>b x (zbi.mp hx)
theorem ziB {xs:List Int} {m:Int} (m0:0<=m) (m1:m<=60) (b: ∀ x∈xs,0<=x/\x<m):(xs.foldl step_dedup []).length<64:=by
 have h:=zof m0 b
 unfold zdj at h
 rw [(zau _).length_eq] at h
 omega
theorem zhM {n:Nat} {h:Hh} {xs:List Int} {P:D->Hh->Prop} (e:h[n]? = some (.lst (xs.map D.int))) (h1:(xs.foldl step_dedup []).length<64) (h2:xs.length<4000) (k:P (.lst ((zdj xs).map D.int)) h):wp (zce (.cel n)) h P:=by
 unfold zce
 show wp (zao n>>=_) h P
 rw [zan,zcl e]
 show wp (do let ns<-ofO (zcS (xs.map D.int));if (ns.foldl step_dedup []).length<64/\ns.length<4000 then pure (.lst ((zdj ns).map D.int)) else M.bad:M D) h P
 rw [zbp]
 show wp (if (xs.foldl step_dedup []).length<64/\xs.length<4000 then (pure (.lst ((zdj xs).map D.int)):M D) else M.bad) h P
 rw [qa4 ⟨h1,h2⟩,zam]
 exact k
theorem zib: ∀ {xs ys:List Int},xs.Pairwise (· < ·)->ys.Pairwise (· < ·)->(∀ k,k∈xs↔k∈ys)->xs=ys:=by
 intro xs ys hx hy hm
 have nx:xs.Nodup:=hx.imp fun z=>by omega
 have ny:ys.Nodup:=hy.imp fun z=>by omega
 have p:List.Perm xs ys:=(List.perm_ext_iff_of_nodup nx ny).mpr hm
 exact (zeT p (hx.imp fun z=>by omega)).trans (zeT (List.Perm.refl ys) (hy.imp fun z=>by omega)).symm
theorem zsy {x y:D} {a b:PyData} (e1:pd x=some a) (e2:pd y=some b) (h:zjx a b=true):dEq x y=pure (.bl (PyData.eqv a b)):=by
 show zm0 false x y=_
 unfold zm0
 rw [e1,e2]
 simp only [h,if_true]
 rfl
theorem zm2 (xs:List Int):pd (tI xs)=some (.tuple (xs.map PyData.int)):=by unfold tI pd;rw [zc9];rfl
theorem ztP (xs ys:List Int):dEq (tI xs) (tI ys)=pure (.bl (xs==ys)):=by
 rw [zsy (zm2 xs) (zm2 ys) (by unfold zjx;simp [PyData.canLay0,zbe,PyData.depth,zbH])]
 simp only [PyData.eqv,zgU]
theorem zpO (xs:List Int):zuD [.lst (xs.map D.int)]=pure (.int xs.sum):=by
 show (do let bs<-ofO (zcS (xs.map D.int));pure (.int bs.sum):M D)=_
 rw [zbp]
 rfl
def gk (d:D):Prop:=kn d=true/\ ∀ ds,d= .tup ds->ds.length<64/\ ∀ x∈ds,kn x=true
theorem ztK {xs:List Int} (h:xs.length<64):gk (tI xs):=⟨rfl,fun ds e=>by
  cases e
  exact ⟨by rw [qaH];exact h,fun x hx=>by obtain ⟨i,_,rfl⟩:=qaU.mp hx;rfl⟩⟩
noncomputable def zue (n:Nat):D->Bool
 | .tup ds=>zb9 n 0 ds
 | _=>false
theorem zfp {os:List (List Int×Int)} {i:Int} (h0:0<=i) (h1:i<os.length):atI (os.map zcJ) i=some (zcJ (os.getD i.toNat ([],0))):=by
 have hl:i.toNat<os.length:=by omega
 have:=zfz (xs:=os.map zcJ) (j:=i.toNat) (v:=zcJ (os.getD i.toNat ([],0))) (by simp [hl,List.getD])
 rw [<- this]
 congr 1
 omega
noncomputable def zbf (os:List (List Int×Int)) (ls:List Int):List (List Int×Int):=ls.map fun i=>os.getD i.toNat ([],0)
theorem zcZ {os:List (List Int×Int)} {ls:List Int} (b: ∀ x∈ls,0<=x/\x<os.length): ∀ o∈zbf os ls,o∈os:=fun o ho=>by
 obtain ⟨i,hi,rfl⟩:=qaU.mp ho
 have:=b i hi
 have hl:i.toNat<os.length:=by omega
 simp [List.getD,hl]
theorem ziG (k:Int) (xs:List Int):zmv (.int k) (.lst (xs.map D.int))=pure (.bl (!xs.any (· == k))):=by
 show zmX true (.int k) (.lst (xs.map D.int))=_
 unfold zmX
 simp only [pd]
 rw [zc9]
 have c:zgw (.int k) (xs.map PyData.int)=true:=by
  unfold zgw
  simp [PyData.canLay0,zbe,PyData.depth,zbH]
 simp only [c,if_true,zdJ]
theorem zfe {xs:List Int} (h:xs.length<64):zc3 [.lst (xs.map D.int)]=pure (.lst ((zbF xs).map D.int)):=by
 show (do let ns<-ofO (zcS (xs.map D.int));if ns.length<64 then pure (.lst ((zbF ns).map D.int)) else M.bad:M D)=_
 rw [zbp]
 show (if xs.length<64 then (pure (.lst ((zbF xs).map D.int)):M D) else M.bad)=_
 rw [qa4 h]
theorem zb0 {xs:List Int} (h:xs.Nodup):(zbF xs).Pairwise (· < ·):=by
 have h1:=zdF xs
 have h2:(zbF xs).Nodup:=(zau xs).nodup_iff.mpr h
 exact (List.pairwise_and_iff.mpr ⟨h1,h2⟩).imp fun z=>by have:=z.1;have:=z.2;omega
theorem zh9 {xs ys:List Int} (h:xs.Nodup) (hm: ∀ k,k∈xs↔k∈ys):zbF xs=zdj ys:=zib (zb0 h) (zcA ys) fun k=>by rw [(zau xs).mem_iff,zbi,hm]
theorem zbQ {xs:List Int} {m:Int} (m0:0<=m) (h:xs.Nodup) (b: ∀ x∈xs,0<=x/\x<m):(xs.length:Int)<=m:=by
 rw [<- (zau xs).length_eq]
 exact zfw m0 (zb0 h) fun x hx=>b x ((zau xs).mem_iff.mp hx)
theorem zdW {p:Int->Bool} {k:D->Option D} (e: ∀ i:Int,k (.int i)=if p i=true then some (.int i) else none): ∀ xs:List Int,(xs.map D.int).filterMap k=(xs.filter p).map D.int
 | []=>rfl
 | x::r=>by
  rw [qaM,qat,e,List.filter_cons,zdW e r]
  cases p x<;>simp
theorem zur {i j:Int}:zqh [.int i,.int j]=pure (.int (if j<i then j else i)):=rfl
theorem zuo {i j:Int}:zqG [.int i,.int j]=pure (.int (if j>i then j else i)):=rfl
theorem zbz (n:Nat):((List.range n).map fun (k:Nat)=>(k:Int)).Pairwise (· < ·):=by
 rw [List.pairwise_map]
 exact List.pairwise_lt_range.imp fun z=>by omega
theorem zbB {n:Nat}: ∀ x∈(List.range n).map fun (k:Nat)=>(k:Int),0<=x/\x<n:=fun x hx=>by
 obtain ⟨k,hk,rfl⟩:=qaU.mp hx
 have:=List.mem_range.mp hk
 omega
def EvX {α:Type} (m:M α) (c:String):Prop:= ∀ h, ∃ h',m h= .exc c h'/\Gro h h'
section
variable {α β:Type} {m:M α} {a:α} {f:α->M β} {c:String}
theorem EvX.raise:EvX (zhN c:M α) c:=fun h=>⟨h,rfl,.refl⟩
theorem EvX.of (e:m=zhN c):EvX m c:=e▸ .raise
theorem EvX.left (x:EvX m c):EvX (m>>=f) c:=fun h=>by
 obtain ⟨h1,e1,g1⟩:=x h
 refine ⟨h1,?_,g1⟩
 show M.bind m f h=_
 unfold M.bind
 rw [e1]
end
theorem ztR {g:FS} {sd:Sd}:zwC g sd=noX (g sd):=rfl
theorem zsE {g:FE} {sd:Sd}:zv9 g sd=noX (g sd):=rfl
theorem znr (xs:List D) {k:Int} (h:0<=k):L3.zkA xs none (some k)=xs.take k.toNat:=by
 have e:=HT.zlJ xs.length xs.length k.toNat
 rw [Int.toNat_of_nonneg h] at e
 unfold L3.zkA
 have e0:HT.sIx xs.length 0 none=0:=rfl
 rw [e0,e]
 simp
theorem zns (xs:List D) {k:Int} (h:0<=k):L3.zkA xs (some k) none=xs.drop k.toNat:=by
 have e:=HT.zlJ xs.length 0 k.toNat
 rw [Int.toNat_of_nonneg h] at e
 unfold L3.zkA
 have e0:HT.sIx xs.length xs.length none=xs.length:=rfl
 rw [e0,e]
 by_cases hk:k.toNat<=xs.length
 ·rw [Nat.min_eq_left hk,List.take_of_length_le (by rw [List.length_drop];omega)]
 ·rw [Nat.min_eq_right (by omega),List.drop_eq_nil_of_le (show xs.length<=k.toNat by omega)]
  simp
theorem ziA {xs:List Int} {m:Int} (m0:0<=m) (h:xs.Pairwise (· < ·)) (b: ∀ x∈xs,0<=x/\x<m):(xs==(List.range m.toNat).map fun (k:Nat)=>(k:Int))=((xs.length:Int)==m):=by
 rw [Bool.eq_iff_iff,beq_iff_eq,beq_iff_eq]
 constructor
 ·intro e
  rw [e]
  simp
  omega
 ·intro e
  refine zib h (zbz _) fun k=>⟨fun hk=> ?_,fun hk=> ?_⟩
  ·obtain ⟨h1,h2⟩:=b k hk
   exact qaU.mpr ⟨k.toNat,List.mem_range.mpr (by omega),by omega⟩
  ·have hb:=zbB k hk
   by_cases c:k∈xs
   ·exact c
   ·exfalso
    have:=zbQ (xs:=k::xs) m0 (List.nodup_cons.mpr ⟨c,h.imp fun z=>by omega⟩) fun x hx=>by
     rcases qaP.mp hx with rfl | hx
     ·omega
     ·exact b x hx
    rw [qaE] at this
    omega
end L3
namespace K24
open PySem PySem.Spec PyProof.Rows L2 L3
noncomputable def G_44:FS:=zas (sIf (zdK dLt (zag 1) (zay ze1 (zad (zag 0) zat))) (zbG (cOp dIx (zag 0) (zag 1))) zfa) (zbG (cOp zdQ (cOp zka (cK (.int 6151)) (zag 1)) (cK (.int 29))))
noncomputable def F_44:List D->M D:=zca 2 G_44
theorem d_44 (x0 x1:D):F_44 [x0,x1]=(do let o<-G_44 [some x0,some x1];zb7 o):=rfl
noncomputable def zdw:FS:=zas (zbt 4 (cOp znb (cOp zdQ (cOp zdQ (cOp zdQ (cOp zka (zag 4) (cK (.int 48271))) (cOp zka (cOp zka (cK (.int 7)) (zag 5)) (zag 5))) (cOp zka (cK (.int 11)) (zag 1))) (cK (.int 1))) (cK (.int 2147483647)))) (zbt 3 (cOp zdQ (cOp zka (zag 3) (cK (.int 2147483647))) (zag 4)))
noncomputable def G_45:FS:=zas (zbt 2 (zay (zar 2 F_44) (zad (zag 0) (zad (zag 1) zat)))) (zas (sIf (zdK dEq (cOp znb (zag 2) (cK (.int 2))) (cK (.int 0))) (zbG (zhq (zad (cOp znZ (zag 2) (cK (.int 2))) zat))) zfa) (zas (zbt 3 (cK (.int 0))) (zas (zbt 4 (cOp znb (zag 2) (cK (.int 2147483647)))) (zas (zg1 (zkB (zad (cK (.int 24)) zat)) (zaI 5) zdw) (zbG (zhq (zad (zag 3) zat)))))))
noncomputable def F_45:List D->M D:=zca 6 G_45
theorem d_45 (x0 x1:D):F_45 [x0,x1]=(do let o<-G_45 [some x0,some x1,none,none,none,none];zb7 o):=rfl
noncomputable def G_46:FS:=zas (zbt 2 (cOp znb (cOp dIx (zag 0) (cK (.int 0))) (zag 1))) (zas (zoa (cOp znZ (cOp dIx (zag 0) (cK (.int 0))) (zag 1)) (zog (zag 0) (cK (.int 0)))) (zbG (zag 2)))
noncomputable def F_46:List D->M D:=zca 3 G_46
theorem d_46 (x0 x1:D):F_46 [x0,x1]=(do let o<-G_46 [some x0,some x1,none];zb7 o):=rfl
noncomputable def zcj:FE:=zag 0
noncomputable def zco:FT:=zdK dEq (cOp zvz (cOp zve (zag 1) (zag 0)) (cK (.int 1))) (cK (.int 1))
noncomputable def zck:FE:=cOp znb (cOp zdQ (zag 1) (cOp zka (zag 2) (zag 0))) (zag 3)
noncomputable def G_47:FS:=zas (zbt 2 (zay (zar 2 F_46) (zad (zag 0) (zad (cK (.int 3)) zat)))) (zas (sIf (zdK dEq (zag 2) (cK (.int 0))) (zas (zbt 3 (cOp zdQ (cK (.int 1)) (zay (zar 2 F_46) (zad (zag 0) (zad (cOp zta (cOp zvl (cK (.int 1)) (zag 1)) (cK (.int 1))) zat))))) (zbG (zay zcu (zad (zaJ (zkB (zad (zag 1) zat)) (zaI 0) zco zcj [none,some 3]) zat)))) zfa) (zas (zoa (zeS (zad (zay (zar 2 F_46) (zad (zag 0) (zad (zag 1) zat))) (zad (cOp dIx (zmY (zad (cK (.int 1)) (zad (cOp zdQ (cK (.int 1)) (zay (zar 2 F_46) (zad (zag 0) (zad (cK (.int 3)) zat)))) zat))) (cOp zta (zag 2) (cK (.int 1)))) zat))) (zcq 2 (zaz (zaI 4) (zaz (zaI 5) zcI)))) (zbG (zay zcu (zad (cUn zce (zaJ (zkB (zad (cOp zdQ (cK (.int 1)) (zay (zar 2 F_46) (zad (zag 0) (zad (cK (.int 4)) zat)))) zat)) (zaI 0) (fun _=>pure true) zck [none,some 4,some 5,some 1])) zat)))))
noncomputable def F_47:List D->M D:=zca 6 G_47
theorem d_47 (x0 x1:D):F_47 [x0,x1]=(do let o<-G_47 [some x0,some x1,none,none,none,none];zb7 o):=rfl
noncomputable def zc2:FE:=zhq (zad (zay (zar 2 F_47) (zad (zag 1) (zad (zag 2) zat))) (zad (cOp zdQ (cK (.int 1)) (zay (zar 2 F_46) (zad (zag 1) (zad (zag 3) zat)))) zat))
noncomputable def zd9:FE:=zag 0
noncomputable def zej:FT:=zdK dIn (zag 1) (cOp dIx (zag 0) (cK (.int 0)))
noncomputable def zbJ:FS:=sIf (zdK ztB (zaJ (iSq (zag 5)) (zaI 0) zej zd9 [none,some 6]) (zmY zat)) (zas (zbt 7 (cOp dIx (zag 5) (zay (zar 2 F_46) (zad (zag 0) (zad (zay ze1 (zad (zag 5) zat)) zat))))) (zoa (zay zcu (zad (zay zc3 (zad (cOp zdQ (cOp dIx (zag 7) (cK (.int 0))) (zeS (zad (zag 6) zat))) zat)) zat)) (zog (zag 7) (cK (.int 0))))) zfa
noncomputable def zef:FE:=zeS (zad (cOp dIx (zag 0) (cK (.int 0))) (zad (cOp dIx (zag 0) (cK (.int 1))) zat))
noncomputable def G_48:FS:=zas (zbt 3 (cOp zdQ (cK (.int 1)) (zay (zar 2 F_46) (zad (zag 0) (zad (zag 1) zat))))) (zas (zbt 4 (cOp dIx (zmY (zad (cK (.int 3)) (zad (cK (.int 9)) (zad (cK (.int 50)) (zad (cOp zua (cK (.int 10)) (cK (.int 12))) zat))))) (zay (zar 2 F_46) (zad (zag 0) (zad (cK (.int 4)) zat))))) (zas (zbt 5 (zaJ (zkB (zad (cOp zdQ (cK (.int 1)) (zay (zar 2 F_46) (zad (zag 0) (zad (zag 2) zat)))) zat)) (zaI 0) (fun _=>pure true) zc2 [none,some 0,some 3,some 4])) (zas (zg1 (zkB (zad (zag 3) zat)) (zaI 6) zbJ) (zbG (zeS (zad (zag 3) (zad (zay zcu (zad (zaJ (iSq (zag 5)) (zaI 0) (fun _=>pure true) zef [none]) zat)) zat)))))))
noncomputable def F_48:List D->M D:=zca 8 G_48
theorem d_48 (x0 x1 x2:D):F_48 [x0,x1,x2]=(do let o<-G_48 [some x0,some x1,some x2,none,none,none,none,none];zb7 o):=rfl
noncomputable def zdu:FE:=zag 0
noncomputable def zds:FT:=zdK zmv (zag 0) (zag 1)
noncomputable def zdt:FS:=zbt 2 (cOp zdQ (zag 2) (zaJ (iSq (cOp dIx (cOp dIx (cOp dIx (zag 0) (cK (.int 1))) (zag 3)) (cK (.int 0)))) (zaI 0) zds zdu [none,some 2]))
noncomputable def G_49:FS:=zas (zbt 2 (zmY zat)) (zas (zg1 (iSq (zag 1)) (zaI 3) zdt) (zbG (zay zcu (zad (zay zc3 (zad (zag 2) zat)) zat))))
noncomputable def F_49:List D->M D:=zca 4 G_49
theorem d_49 (x0 x1:D):F_49 [x0,x1]=(do let o<-G_49 [some x0,some x1,none,none];zb7 o):=rfl
noncomputable def zb2:FT:=zdK dLt (zay ze1 (zad (zay (zar 2 F_49) (zad (zag 1) (zad (zag 3) zat))) zat)) (cOp dIx (zag 1) (cK (.int 0)))
noncomputable def zb1:FS:=zbt 3 (cOp zdQ (zag 3) (zeS (zad (zvG (zag 2) (zay (zar 2 F_46) (zad (zag 0) (zad (zay ze1 (zad (zag 2) zat)) zat)))) zat)))
noncomputable def G_50:FS:=zas (zbt 2 (cUn ziC (zay ze1 (zad (cOp dIx (zag 1) (cK (.int 1))) zat)))) (zas (zbt 3 (zeS zat)) (zas (zeO 1000 zb2 zb1) (zbG (zay zcu (zad (zay zc3 (zad (zag 3) zat)) zat)))))
noncomputable def F_50:List D->M D:=zca 4 G_50
theorem d_50 (x0 x1:D):F_50 [x0,x1]=(do let o<-G_50 [some x0,some x1,none,none];zb7 o):=rfl
noncomputable def zbc:FS:=zgM (zgT (zag 1) (cOp dIx (zag 2) (cK (.int 0))))
noncomputable def G_22:FS:=zas (zbt 1 (zhq zat)) (zas (zg1 (iSq (zag 0)) (zaI 2) zbc) (zbG (zay zcu (zad (cUn zce (zag 1)) zat))))
noncomputable def F_22:List D->M D:=zca 3 G_22
theorem d_22 (x0:D):F_22 [x0]=(do let o<-G_22 [some x0,none,none];zb7 o):=rfl
noncomputable def G_23:FS:=zbG (cOp dEq (zay ze1 (zad (zay (zar 1 F_22) (zad (zag 1) zat)) zat)) (cOp dIx (zag 0) (cK (.int 0))))
noncomputable def F_23:List D->M D:=zca 2 G_23
theorem d_23 (x0 x1:D):F_23 [x0,x1]=(do let o<-G_23 [some x0,some x1];zb7 o):=rfl
noncomputable def G_15:FS:=zbG (zay (zar 2 F_23) (zad (zag 0) (zad (cOp dIx (zag 0) (cK (.int 1))) zat)))
noncomputable def F_15:List D->M D:=zca 1 G_15
theorem d_15 (x0:D):F_15 [x0]=(do let o<-G_15 [some x0];zb7 o):=rfl
noncomputable def G_18:FS:=sIf (zhD (zh8 (zay (zar 1 F_15) (zad (zag 0) zat)))) zrz zfa
noncomputable def F_18:List D->M D:=zca 1 G_18
theorem d_18 (x0:D):F_18 [x0]=(do let o<-G_18 [some x0];zb7 o):=rfl
noncomputable def zc7:FS:=zas (zbt 2 (cOp zka (zag 2) (cK (.int 2)))) (sIf (zdK dIn (zag 3) (zag 1)) (zbt 2 (cOp zdQ (zag 2) (cK (.int 1)))) zfa)
noncomputable def G_37:FS:=zas (zbt 2 (cK (.int 0))) (zas (zg1 (zkB (zad (zag 0) zat)) (zaI 3) zc7) (zbG (zag 2)))
noncomputable def F_37:List D->M D:=zca 4 G_37
theorem d_37 (x0 x1:D):F_37 [x0,x1]=(do let o<-G_37 [some x0,some x1,none,none];zb7 o):=rfl
noncomputable def zcG:FE:=zeS (zad (cOp zdQ (cOp dIx (zag 1) (cK (.int 1))) (cOp dIx (zag 0) (cK (.int 0)))) (zad (cOp zdQ (zeS (zad (zag 2) zat)) (cOp dIx (zag 0) (cK (.int 1)))) (zad (cOp dOr (zag 3) (cOp dIx (zag 0) (cK (.int 2)))) zat)))
noncomputable def zbw:FS:=zas (zbt 3 (cOp dIx (cOp dIx (zag 0) (cK (.int 1))) (zag 2))) (zas (zbt 4 (zay (zar 2 F_37) (zad (cOp dIx (zag 0) (cK (.int 0))) (zad (cOp dIx (zag 3) (cK (.int 0))) zat)))) (zas (zbt 5 (zaJ (iSq (zag 1)) (zaI 0) (fun _=>pure true) zcG [none,some 3,some 2,some 4])) (zbt 1 (cOp zdQ (cOp zdQ (cSl (zag 1) znM (znG (cK (.int 1)))) (zag 5)) (cSl (zag 1) (znG (cK (.int 1))) znM)))))
noncomputable def G_36:FS:=zas (zbt 1 (zmY (zad (zeS (zad (cK (.int 0)) (zad (zeS zat) (zad (cK (.int 0)) zat)))) zat))) (zas (zg1 (zro (zad (cOp zta (zay ze1 (zad (cOp dIx (zag 0) (cK (.int 1))) zat)) (cK (.int 1))) (zad (cUn zth (cK (.int 1))) (zad (cUn zth (cK (.int 1))) zat)))) (zaI 2) zbw) (zbG (zag 1)))
noncomputable def F_36:List D->M D:=zca 6 G_36
theorem d_36 (x0:D):F_36 [x0]=(do let o<-G_36 [some x0,none,none,none,none,none];zb7 o):=rfl
noncomputable def zbX:FE:=zeS (zad (cOp dIx (zag 0) (cK (.int 0))) (zad (cOp dIx (zag 0) (cK (.int 1))) zat))
noncomputable def zbW:FT:=zdK dEq (cOp dIx (zag 0) (cK (.int 2))) (zag 1)
noncomputable def G_35:FS:=zas (zbt 1 (zay (zar 2 F_37) (zad (cOp dIx (zag 0) (cK (.int 0))) (zad (cUn zgt (cOp dIx (zag 0) (cK (.int 0)))) zat)))) (zbG (zaJ (iSq (zay (zar 1 F_36) (zad (zag 0) zat))) (zaI 0) zbW zbX [none,some 1]))
noncomputable def F_35:List D->M D:=zca 2 G_35
theorem d_35 (x0:D):F_35 [x0]=(do let o<-G_35 [some x0,none];zb7 o):=rfl
noncomputable def G_38:FS:=zas (zgM (zay (zar 1 F_18) (zad (zag 0) zat))) (zbG (cOp dIx (zay zqq (zad (zay (zar 1 F_35) (zad (zag 0) zat)) zat)) (cK (.int 1))))
noncomputable def F_38:List D->M D:=zca 1 G_38
theorem d_38 (x0:D):F_38 [x0]=(do let o<-G_38 [some x0];zb7 o):=rfl
noncomputable def G_0:FS:=zbG (zm4 (cUn (zkg "int") (zag 0)) (zuj (cUn (zkg "bool") (zag 0))))
noncomputable def F_0:List D->M D:=zca 1 G_0
theorem d_0 (x0:D):F_0 [x0]=(do let o<-G_0 [some x0];zb7 o):=rfl
noncomputable def zbs:FS:=zas (sIf (tOr (zhD (zh8 (zay (zar 1 F_0) (zad (zag 3) zat)))) (tOr (zdK dLt (zag 3) (zag 2)) (zdK dGe (zag 3) (zag 1)))) (zbG (cK (.bl false))) zfa) (zbt 2 (cOp zdQ (zag 3) (cK (.int 1))))
noncomputable def G_2:FS:=zas (sIf (zhD (zh8 (cUn (zkg "tuple") (zag 0)))) (zbG (cK (.bl false))) zfa) (zas (zbt 2 (cK (.int 0))) (zas (zg1 (iSq (zag 0)) (zaI 3) zbs) (zbG (cK (.bl true)))))
noncomputable def F_2:List D->M D:=zca 4 G_2
theorem d_2 (x0 x1:D):F_2 [x0,x1]=(do let o<-G_2 [some x0,some x1,none,none];zb7 o):=rfl
noncomputable def G_14:FS:=zbG (zay (zar 2 F_2) (zad (zag 1) (zad (zay ze1 (zad (cOp dIx (zag 0) (cK (.int 1))) zat)) zat)))
noncomputable def F_14:List D->M D:=zca 2 G_14
theorem d_14 (x0 x1:D):F_14 [x0,x1]=(do let o<-G_14 [some x0,some x1];zb7 o):=rfl
noncomputable def G_20:FS:=sIf (zhD (zh8 (zay (zar 2 F_14) (zad (zag 0) (zad (zag 1) zat))))) zrz zfa
noncomputable def F_20:List D->M D:=zca 2 G_20
theorem d_20 (x0 x1:D):F_20 [x0,x1]=(do let o<-G_20 [some x0,some x1];zb7 o):=rfl
noncomputable def zd8:FE:=cOp dIx (cOp dIx (zag 1) (cK (.int 1))) (zag 0)
noncomputable def G_21:FS:=zas (zgM (zay (zar 2 F_20) (zad (zag 0) (zad (zag 1) zat)))) (zbG (zaJ (iSq (zag 1)) (zaI 0) (fun _=>pure true) zd8 [none,some 0]))
noncomputable def F_21:List D->M D:=zca 2 G_21
theorem d_21 (x0 x1:D):F_21 [x0,x1]=(do let o<-G_21 [some x0,some x1];zb7 o):=rfl
noncomputable def zdl:FE:=cOp dIx (zag 0) (cK (.int 1))
noncomputable def G_17:FS:=zbG (zay zuD (zad (zaJ (iSq (zay (zar 2 F_21) (zad (zag 0) (zad (zag 1) zat)))) (zaI 0) (fun _=>pure true) zdl [none]) zat))
noncomputable def F_17:List D->M D:=zca 2 G_17
theorem d_17 (x0 x1:D):F_17 [x0,x1]=(do let o<-G_17 [some x0,some x1];zb7 o):=rfl
noncomputable def zdU:FE:=zag 0
noncomputable def zdX:FT:=zdK zd3 (zag 0) (zag 1)
noncomputable def G_30:FS:=zbG (zay zcu (zad (zaJ (iSq (cOp dIx (zag 0) (cK (.int 0)))) (zaI 0) zdX zdU [none,some 1]) zat))
noncomputable def F_30:List D->M D:=zca 2 G_30
theorem d_30 (x0 x1:D):F_30 [x0,x1]=(do let o<-G_30 [some x0,some x1];zb7 o):=rfl
noncomputable def zak:FT:=zdK dGt (zag 3) (cK (.int 0))
noncomputable def zal:FS:=zas (zbt 4 (cOp znb (zag 2) (zag 3))) (zas (zbt 2 (zag 3)) (zbt 3 (zag 4)))
noncomputable def G_4:FS:=zas (zbt 2 (zag 0)) (zas (zbt 3 (zag 1)) (zas (zeO 20000 zak zal) (zbG (zag 2))))
noncomputable def F_4:List D->M D:=zca 5 G_4
theorem d_4 (x0 x1:D):F_4 [x0,x1]=(do let o<-G_4 [some x0,some x1,none,none,none];zb7 o):=rfl
noncomputable def G_3:FS:=zas (zbt 2 (zay (zar 2 F_4) (zad (zag 0) (zad (zag 1) zat)))) (zbG (zeS (zad (cOp zfC (zag 0) (zag 2)) (zad (cOp zfC (zag 1) (zag 2)) zat))))
noncomputable def F_3:List D->M D:=zca 3 G_3
theorem d_3 (x0 x1:D):F_3 [x0,x1]=(do let o<-G_3 [some x0,some x1,none];zb7 o):=rfl
noncomputable def G_29:FS:=zas (zbt 2 (zay ze1 (zad (zay (zar 2 F_30) (zad (zag 0) (zad (zag 1) zat))) zat))) (zbG (cIf (zdK dGt (zag 2) (cK (.int 0))) (zay (zar 2 F_3) (zad (cOp dIx (zag 0) (cK (.int 1))) (zad (zag 2) zat))) (cK .non)))
noncomputable def F_29:List D->M D:=zca 3 G_29
theorem d_29 (x0 x1:D):F_29 [x0,x1]=(do let o<-G_29 [some x0,some x1,none];zb7 o):=rfl
noncomputable def G_5:FS:=zbG (cOp dLt (cOp zcQ (cOp dIx (zag 0) (cK (.int 0))) (cOp dIx (zag 1) (cK (.int 1)))) (cOp zcQ (cOp dIx (zag 1) (cK (.int 0))) (cOp dIx (zag 0) (cK (.int 1)))))
noncomputable def F_5:List D->M D:=zca 2 G_5
theorem d_5 (x0 x1:D):F_5 [x0,x1]=(do let o<-G_5 [some x0,some x1];zb7 o):=rfl
noncomputable def za5:FS:=zas (zbt 6 (zay (zar 2 F_29) (zad (zag 5) (zad (zag 1) zat)))) (sIf (zrT (zdK znE (zag 6) (cK .non)) (tOr (zdK zt9 (zag 3) (cK .non)) (zh8 (zay (zar 2 F_5) (zad (zag 6) (zad (zag 3) zat)))))) (zas (zbt 2 (zag 4)) (zbt 3 (zag 6))) zfa)
noncomputable def G_28:FS:=zas (zbt 2 (cK .non)) (zas (zbt 3 (cK .non)) (zas (zg1 (zvD (cOp dIx (zag 0) (cK (.int 1)))) (zcq 2 (zaz (zaI 4) (zaz (zaI 5) zcI))) za5) (zbG (zag 2))))
noncomputable def F_28:List D->M D:=zca 7 G_28
theorem d_28 (x0 x1:D):F_28 [x0,x1]=(do let o<-G_28 [some x0,some x1,none,none,none,none,none];zb7 o):=rfl
noncomputable def zbq:FT:=zdK dLt (zay ze1 (zad (zag 2) zat)) (cOp dIx (zag 0) (cK (.int 0)))
noncomputable def zbK:FS:=zas (zbt 3 (zay (zar 2 F_28) (zad (zag 0) (zad (zag 2) zat)))) (zas (zbt 4 (cOp dIx (cOp dIx (zag 0) (cK (.int 1))) (zag 3))) (zas (zbt 5 (zay (zar 2 F_30) (zad (zag 4) (zad (zag 2) zat)))) (zas (zgM (zic (zag 1) (zeS (zad (zag 3) (zad (zag 5) (zad (zay (zar 2 F_29) (zad (zag 4) (zad (zag 2) zat))) zat)))))) (zgM (zgT (zag 2) (zag 5))))))
noncomputable def G_26:FS:=zas (zgM (zay (zar 1 F_18) (zad (zag 0) zat))) (zas (zbt 1 (zhq zat)) (zas (zbt 2 (zhq zat)) (zas (zeO 1000 zbq zbK) (zbG (cUn zud (zag 1))))))
noncomputable def F_26:List D->M D:=zca 6 G_26
theorem d_26 (x0:D):F_26 [x0]=(do let o<-G_26 [some x0,none,none,none,none,none];zb7 o):=rfl
noncomputable def zcP:FE:=cOp dIx (zag 0) (cK (.int 0))
noncomputable def G_27:FS:=zbG (zay zcu (zad (zay zc3 (zad (zaJ (iSq (zay (zar 1 F_26) (zad (zag 0) zat))) (zaI 0) (fun _=>pure true) zcP [none]) zat)) zat))
noncomputable def F_27:List D->M D:=zca 1 G_27
theorem d_27 (x0:D):F_27 [x0]=(do let o<-G_27 [some x0];zb7 o):=rfl
noncomputable def zcs:FS:=zas (zbt 1 (cOp zdQ (cOp zcQ (zag 1) (cOp dIx (zag 3) (cK (.int 1)))) (cOp zcQ (cOp dIx (zag 3) (cK (.int 0))) (zag 2)))) (zbt 2 (cOp zcQ (zag 2) (cOp dIx (zag 3) (cK (.int 1)))))
noncomputable def G_7:FS:=zas (zbt 1 (cK (.int 0))) (zas (zbt 2 (cK (.int 1))) (zas (zg1 (iSq (zag 0)) (zaI 3) zcs) (zbG (zay (zar 2 F_3) (zad (zag 1) (zad (zag 2) zat))))))
noncomputable def F_7:List D->M D:=zca 4 G_7
theorem d_7 (x0:D):F_7 [x0]=(do let o<-G_7 [some x0,none,none,none];zb7 o):=rfl
noncomputable def zbO:FE:=zeS (zad (cK (.int 1)) (zad (zag 0) zat))
noncomputable def G_31:FS:=zas (sIf (tOr (zhD (zh8 (zay (zar 1 F_0) (zad (zag 0) zat)))) (tOr (zdK dLt (zag 0) (cK (.int 0))) (zdK dGt (zag 0) (cK (.int 100))))) zrz zfa) (zbG (zay (zar 1 F_7) (zad (zaJ (zjt (zad (cK (.int 1)) (zad (cOp zdQ (zag 0) (cK (.int 1))) zat))) (zaI 0) (fun _=>pure true) zbO [none]) zat)))
noncomputable def F_31:List D->M D:=zca 1 G_31
theorem d_31 (x0:D):F_31 [x0]=(do let o<-G_31 [some x0];zb7 o):=rfl
noncomputable def za2:FS:=zoa (cOp dIx (zag 2) (cK (.int 2))) (zuQ (zag 1) (zag 3))
noncomputable def za0:FS:=zg1 (iSq (cOp dIx (zag 2) (cK (.int 1)))) (zaI 3) za2
noncomputable def zb5:FE:=cOp zuc (zag 1) (zag 0)
noncomputable def G_33:FS:=zas (zbt 1 zva) (zas (zg1 (iSq (zay (zar 1 F_26) (zad (zag 0) zat))) (zaI 2) za0) (zbG (zaJ (zkB (zad (cOp dIx (zag 0) (cK (.int 0))) zat)) (zaI 0) (fun _=>pure true) zb5 [none,some 1])))
noncomputable def F_33:List D->M D:=zca 4 G_33
theorem d_33 (x0:D):F_33 [x0]=(do let o<-G_33 [some x0,none,none,none];zb7 o):=rfl
noncomputable def zdk:FE:=zay ze1 (zad (cOp dIx (zag 0) (cK (.int 0))) zat)
noncomputable def zdp:FE:=zay (zar 2 F_3) (zad (cOp zcQ (cOp dIx (zag 0) (cK (.int 0))) (cOp dIx (zag 1) (cK (.int 1)))) (zad (cOp zcQ (cOp dIx (zag 0) (cK (.int 1))) (cOp dIx (zag 1) (cK (.int 0)))) zat))
noncomputable def G_32:FS:=zas (zbt 1 (zay (zar 1 F_33) (zad (zag 0) zat))) (zas (zbt 2 (zay (zar 1 F_31) (zad (zay zox (zad (zaJ (iSq (cOp dIx (zag 0) (cK (.int 1)))) (zaI 0) (fun _=>pure true) zdk [none]) zat)) zat))) (zbG (zay zcu (zad (zaJ (iSq (zag 1)) (zaI 0) (fun _=>pure true) zdp [none,some 2]) zat))))
noncomputable def F_32:List D->M D:=zca 3 G_32
theorem d_32 (x0:D):F_32 [x0]=(do let o<-G_32 [some x0,none,none];zb7 o):=rfl
noncomputable def zeN:FE:=cOp dIx (zag 1) (zag 0)
noncomputable def G_43:FS:=zas (zbt 2 (zay (zar 1 F_7) (zad (zaJ (iSq (cOp dIx (zag 0) (cK (.int 0)))) (zaI 0) (fun _=>pure true) zeN [none,some 1]) zat))) (zbG (zuj (zay (zar 2 F_5) (zad (zeS (zad (cOp dIx (zag 0) (cK (.int 1))) (zad (cK (.int 1)) zat))) (zad (zag 2) zat)))))
noncomputable def F_43:List D->M D:=zca 3 G_43
theorem d_43 (x0 x1:D):F_43 [x0,x1]=(do let o<-G_43 [some x0,some x1,none];zb7 o):=rfl
noncomputable def G_1:FS:=zbG (zm4 (cUn (zkg "tuple") (zag 0)) (cOp dEq (zay ze1 (zad (zag 0) zat)) (cK (.int 2))))
noncomputable def F_1:List D->M D:=zca 1 G_1
theorem d_1 (x0:D):F_1 [x0]=(do let o<-G_1 [some x0];zb7 o):=rfl
noncomputable def G_6:FS:=zas (sIf (tOr (zhD (zh8 (zay (zar 1 F_1) (zad (zag 0) zat)))) (tOr (zhD (zh8 (zay (zar 1 F_0) (zad (cOp dIx (zag 0) (cK (.int 0))) zat)))) (zhD (zh8 (zay (zar 1 F_0) (zad (cOp dIx (zag 0) (cK (.int 1))) zat)))))) (zbG (cK (.bl false))) zfa) (zbG (zm4 (cOp dGt (cOp dIx (zag 0) (cK (.int 1))) (cK (.int 0))) (cOp dEq (zay (zar 2 F_4) (zad (cOp dIx (zag 0) (cK (.int 0))) (zad (cOp dIx (zag 0) (cK (.int 1))) zat))) (cK (.int 1)))))
noncomputable def F_6:List D->M D:=zca 1 G_6
theorem d_6 (x0:D):F_6 [x0]=(do let o<-G_6 [some x0];zb7 o):=rfl
noncomputable def G_42:FS:=zbG (zm4 (zay (zar 1 F_6) (zad (zag 0) zat)) (cOp dGe (cOp dIx (zag 0) (cK (.int 0))) (cK (.int 0))))
noncomputable def F_42:List D->M D:=zca 1 G_42
theorem d_42 (x0:D):F_42 [x0]=(do let o<-G_42 [some x0];zb7 o):=rfl
noncomputable def zcC:FE:=zay (zar 1 F_42) (zad (zag 0) zat)
noncomputable def G_41:FS:=zas (sIf (tOr (zhD (zh8 (cUn (zkg "tuple") (zag 0)))) (zdK dNe (zay ze1 (zad (zag 0) zat)) (zag 1))) (zbG (cK (.bl false))) zfa) (zbG (zay zuf (zad (zaJ (iSq (zag 0)) (zaI 0) (fun _=>pure true) zcC [none]) zat)))
noncomputable def F_41:List D->M D:=zca 2 G_41
theorem d_41 (x0 x1:D):F_41 [x0,x1]=(do let o<-G_41 [some x0,some x1];zb7 o):=rfl
noncomputable def zcE:FE:=zay (zar 2 F_43) (zad (zag 0) (zad (zag 1) zat))
noncomputable def G_39:FS:=zbG (zm4 (zay (zar 2 F_41) (zad (zag 1) (zad (cOp dIx (zag 0) (cK (.int 0))) zat))) (zay zuf (zad (zaJ (iSq (cOp dIx (zag 0) (cK (.int 1)))) (zaI 0) (fun _=>pure true) zcE [none,some 1]) zat)))
noncomputable def F_39:List D->M D:=zca 2 G_39
theorem d_39 (x0 x1:D):F_39 [x0,x1]=(do let o<-G_39 [some x0,some x1];zb7 o):=rfl
noncomputable def zaF:FT:=zdK dGt (zag 3) (cK (.int 0))
noncomputable def zaL:FS:=zry 2 3 (zad (zag 3) (zad (cOp znb (zag 2) (zag 3)) zat))
noncomputable def G_51:FS:=zas (zry 2 3 (zad (zay ztJ (zad (zag 0) zat)) (zad (zay ztJ (zad (zag 1) zat)) zat))) (zas (zeO 20000 zaF zaL) (zbG (zeS (zad (cOp zfC (zag 0) (zag 2)) (zad (cOp zfC (zag 1) (zag 2)) zat)))))
noncomputable def F_51:List D->M D:=zca 4 G_51
theorem d_51 (x0 x1:D):F_51 [x0,x1]=(do let o<-G_51 [some x0,some x1,none,none];zb7 o):=rfl
noncomputable def zcw:FS:=zoa (zay (zar 2 F_51) (zad (cOp zdQ (cOp zcQ (zag 1) (cOp dIx (zag 3) (cK (.int 1)))) (cOp zcQ (cOp dIx (zag 3) (cK (.int 0))) (zag 2))) (zad (cOp zcQ (zag 2) (cOp dIx (zag 3) (cK (.int 1)))) zat))) (zcq 2 (zaz (zaI 1) (zaz (zaI 2) zcI)))
noncomputable def G_52:FS:=zas (zoa (zeS (zad (cK (.int 0)) (zad (cK (.int 1)) zat))) (zcq 2 (zaz (zaI 1) (zaz (zaI 2) zcI)))) (zas (zg1 (iSq (zag 0)) (zaI 3) zcw) (zbG (zeS (zad (zag 1) (zad (zag 2) zat)))))
noncomputable def F_52:List D->M D:=zca 4 G_52
theorem d_52 (x0:D):F_52 [x0]=(do let o<-G_52 [some x0,none,none,none];zb7 o):=rfl
noncomputable def G_40:FS:=zas (sIf (zhD (zh8 (zay (zar 2 F_39) (zad (zag 0) (zad (zag 1) zat))))) zrz zfa) (zbG (zay (zar 1 F_7) (zad (zag 1) zat)))
noncomputable def F_40:List D->M D:=zca 2 G_40
theorem d_40 (x0 x1:D):F_40 [x0,x1]=(do let o<-G_40 [some x0,some x1];zb7 o):=rfl
noncomputable def za4:FS:=zbt 3 (cOp zdQ (zag 3) (cOp zon (zmY (zad (zag 6) zat)) (zay ze1 (zad (zag 5) zat))))
noncomputable def zbu:FE:=zay ze1 (zad (zag 0) zat)
noncomputable def za3:FS:=sIf (zdK dLt (cOp zcQ (zay (zar 2 F_17) (zad (zag 0) (zad (zag 10) zat))) (zag 7)) (cOp zcQ (zag 2) (zag 8))) (zbG (cK (.bl false))) zfa
noncomputable def G_54:FS:=zas (zbt 2 (zay (zar 2 F_17) (zad (zag 0) (zad (zay (zar 1 F_27) (zad (zag 0) zat)) zat)))) (zas (zbt 3 (zmY zat)) (zas (zg1 (iSq (zay (zar 1 F_26) (zad (zag 0) zat))) (zcq 3 (zaz (zaI 4) (zaz (zaI 5) (zaz (zaI 6) zcI)))) za4) (zas (zoa (zay (zar 1 F_31) (zad (zay zox (zad (zaJ (iSq (cOp dIx (zag 0) (cK (.int 1)))) (zcq 2 (zaz (zaI 0) (zaz (zaI 1) zcI))) (fun _=>pure true) zbu [none,none]) zat)) zat)) (zcq 2 (zaz (zaI 7) (zaz (zaI 8) zcI)))) (zas (zbt 9 (zay (zar 1 F_32) (zad (zag 0) zat))) (zas (sIf (tOr (zdK dNe (zay (zar 1 F_52) (zad (zag 3) zat)) (zeS (zad (zag 2) (zad (cK (.int 1)) zat)))) (zdK zg9 (zay (zar 2 F_39) (zad (zag 0) (zad (zag 9) zat))) (cK (.bl true)))) (zbG (cK (.bl false))) zfa) (zas (sIf (zdK dNe (zay (zar 2 F_40) (zad (zag 0) (zad (zag 9) zat))) (zay (zar 2 F_51) (zad (cOp zcQ (zag 2) (zag 8)) (zad (zag 7) zat)))) (zbG (cK (.bl false))) zfa) (zas (zg1 (iSq (zag 1)) (zaI 10) za3) (zbG (cOr (cOp dGt (zag 7) (zag 8)) (cOp dEq (zag 2) (zay (zar 2 F_17) (zad (zag 0) (zad (zay (zar 1 F_38) (zad (zag 0) zat)) zat)))))))))))))
noncomputable def F_54:List D->M D:=zca 11 G_54
theorem d_54 (x0 x1:D):F_54 [x0,x1]=(do let o<-G_54 [some x0,some x1,none,none,none,none,none,none,none,none,none];zb7 o):=rfl
noncomputable def G_19:FS:=sIf (tOr (zhD (zh8 (zay (zar 1 F_0) (zad (zag 1) zat)))) (tOr (zdK dLt (zag 1) (cK (.int 0))) (zdK dGe (zag 1) (zay ze1 (zad (cOp dIx (zag 0) (cK (.int 1))) zat))))) zrz zfa
noncomputable def F_19:List D->M D:=zca 2 G_19
theorem d_19 (x0 x1:D):F_19 [x0,x1]=(do let o<-G_19 [some x0,some x1];zb7 o):=rfl
noncomputable def G_16:FS:=zbG (zay (zar 1 F_22) (zad (zay (zar 2 F_21) (zad (zag 0) (zad (zag 1) zat))) zat))
noncomputable def F_16:List D->M D:=zca 2 G_16
theorem d_16 (x0 x1:D):F_16 [x0,x1]=(do let o<-G_16 [some x0,some x1];zb7 o):=rfl
noncomputable def G_24:FS:=zas (zgM (zay (zar 2 F_19) (zad (zag 0) (zad (zag 1) zat)))) (zbG (zay (zar 2 F_29) (zad (cOp dIx (cOp dIx (zag 0) (cK (.int 1))) (zag 1)) (zad (zay (zar 2 F_16) (zad (zag 0) (zad (zag 2) zat))) zat))))
noncomputable def F_24:List D->M D:=zca 3 G_24
theorem d_24 (x0 x1 x2:D):F_24 [x0,x1,x2]=(do let o<-G_24 [some x0,some x1,some x2];zb7 o):=rfl
noncomputable def G_25:FS:=zbG (zay (zar 2 F_28) (zad (zag 0) (zad (zay (zar 2 F_16) (zad (zag 0) (zad (zag 1) zat))) zat)))
noncomputable def F_25:List D->M D:=zca 2 G_25
theorem d_25 (x0 x1:D):F_25 [x0,x1]=(do let o<-G_25 [some x0,some x1];zb7 o):=rfl
noncomputable def G_34:FS:=zbG (zm4 (zay (zar 2 F_14) (zad (zag 0) (zad (zag 1) zat))) (zay (zar 2 F_23) (zad (zag 0) (zad (zay (zar 2 F_21) (zad (zag 0) (zad (zag 1) zat))) zat))))
noncomputable def F_34:List D->M D:=zca 2 G_34
theorem d_34 (x0 x1:D):F_34 [x0,x1]=(do let o<-G_34 [some x0,some x1];zb7 o):=rfl
noncomputable def za1:FS:=zas (sIf (tOr (zdK dNe (zay (zar 2 F_25) (zad (zag 0) (zad (zag 1) zat))) (zag 3)) (zdK dNe (zay (zar 3 F_24) (zad (zag 0) (zad (zag 3) (zad (zag 1) zat)))) (zag 5))) (zbG (cK (.bl false))) zfa) (zas (sIf (zdK dLt (cOp zcQ (cOp dIx (zag 5) (cK (.int 0))) (cOp dIx (zag 2) (cK (.int 1)))) (cOp zcQ (cOp dIx (zag 2) (cK (.int 0))) (cOp dIx (zag 5) (cK (.int 1))))) (zbG (cK (.bl false))) zfa) (zas (zbt 2 (zag 5)) (zbt 1 (zay zcu (zad (zay zc3 (zad (cOp zdQ (zag 1) (zeS (zad (zag 3) zat))) zat)) zat)))))
noncomputable def G_53:FS:=zas (zbt 1 (zeS zat)) (zas (zbt 2 (zeS (zad (cK (.int 0)) (zad (cK (.int 1)) zat)))) (zas (zg1 (iSq (zay (zar 1 F_26) (zad (zag 0) zat))) (zcq 3 (zaz (zaI 3) (zaz (zaI 4) (zaz (zaI 5) zcI)))) za1) (zbG (zm4 (cOp dEq (zag 1) (zay (zar 1 F_27) (zad (zag 0) zat))) (cOp dIs (zay (zar 2 F_34) (zad (zag 0) (zad (zag 1) zat))) (cK (.bl true)))))))
noncomputable def F_53:List D->M D:=zca 6 G_53
theorem d_53 (x0:D):F_53 [x0]=(do let o<-G_53 [some x0,none,none,none,none,none];zb7 o):=rfl
noncomputable def zif:FE:=zay (zar 2 F_50) (zad (zag 1) (zad (zag 2) zat))
noncomputable def zfn:FS:=zas (zbt 2 (zay (zar 2 F_45) (zad (zag 0) (zad (zag 1) zat)))) (zas (zbt 3 (zay (zar 3 F_48) (zad (zag 2) (zad (cK (.int 10)) (zad (cK (.int 10)) zat))))) (zas (zbt 4 (cOp zdQ (zaJ (zkB (zad (cK (.int 4)) zat)) (zaI 0) (fun _=>pure true) zif [none,some 2,some 3]) (zmY (zad (zay (zar 1 F_38) (zad (zag 3) zat)) zat)))) (sIf (tOr (zhD (zh8 (zay (zar 1 F_53) (zad (zag 3) zat)))) (zhD (zh8 (zay (zar 2 F_54) (zad (zag 3) (zad (zag 4) zat)))))) (zbG (cK (.bl false))) zfa)))
noncomputable def G_55:FS:=zas (zg1 (zkB (zad (zay zqG (zad (cK (.int 1)) (zad (zay zqh (zad (zay ze1 (zad (zag 0) zat)) (zad (cK (.int 3)) zat))) zat))) zat)) (zaI 1) zfn) (zbG (cK (.bl true)))
noncomputable def F_55:List D->M D:=zca 5 G_55
theorem d_55 (x0:D):F_55 [x0]=(do let o<-G_55 [some x0,none,none,none,none];zb7 o):=rfl
end K24
set_option genInjectivity false
set_option genSizeOf false
set_option genSizeOfSpec false
namespace K24
open PySem PySem.Spec PyProof.Rows L2 L3
set_option hygiene false in
local macro_rules
|`(tactic|ext a)=>`(tactic|refine zaa ?_ ?_)
|`(tactic|ext b)=>`(tactic|exact (hr.mono (by decide)))
|`(tactic|ext c)=>`(tactic|refine zaf ?_ ?_)
|`(tactic|ext d)=>`(tactic|refine zbl ?_ ?_ ?_)
|`(tactic|ext e)=>`(tactic|refine za9 ?_ ?_)
|`(tactic|ext f)=>`(tactic|refine zaj (k:=1) (g:=t.a_46) (fd:=t.d_46) (ps:=["box","many"]) ?_ ?_ ?_ ?_ ?_ ?_)
|`(tactic|ext g)=>`(tactic|exact zab 0)
|`(tactic|ext h)=>`(tactic|exact zac)
|`(tactic|ext i)=>`(tactic|refine zai ?_)
|`(tactic|ext j)=>`(tactic|exact zah)
|`(tactic|ext k)=>`(tactic|refine zaB (id:="len") ?_ ?_ ?_ ?_)
|`(tactic|ext l)=>`(tactic|exact zab 1)
|`(tactic|ext m)=>`(tactic|refine zaD ?_)
|`(tactic|ext n)=>`(tactic|exact (zaW.name (i:=0) rfl))
|`(tactic|ext o)=>`(tactic|refine zaU ?_ ?_ ?_)
|`(tactic|ext p)=>`(tactic|exact (BOk.of (Xn:=(zae s_48).names) (XN:=["box","most","lots","many","far","rows","thing","row"]) rfl rfl rfl (by decide +kernel)))
|`(tactic|ext q)=>`(tactic|refine zaj (k:=1) (g:=t.a_0) (fd:=t.d_0) (ps:=["thing"]) ?_ ?_ ?_ ?_ ?_ ?_)
|`(tactic|ext r)=>`(tactic|refine zaC 2 ?_ ?_)
|`(tactic|ext s)=>`(tactic|refine zbL (T:="tuple") ?_ ?_ ?_ ?_)
|`(tactic|ext t)=>`(tactic|refine zdO ?_ ?_ ?_ ?_ ?_)
|`(tactic|ext u)=>`(tactic|exact PassesOwn.never)
|`(tactic|ext v)=>`(tactic|exact zab 2)
|`(tactic|ext w)=>`(tactic|refine zfO ?_ ?_ ?_)
|`(tactic|ext x)=>`(tactic|refine zaj (k:=5) (g:=t.a_26) (fd:=t.d_26) (ps:=["stock"]) ?_ ?_ ?_ ?_ ?_ ?_)
|`(tactic|ext y)=>`(tactic|exact zab 3)
|`(tactic|ext z)=>`(tactic|refine zaj (k:=5) (g:=t.a_21) (fd:=t.d_21) (ps:=["stock","lot"]) ?_ ?_ ?_ ?_ ?_ ?_)
|`(tactic|ext A)=>`(tactic|refine zaj (k:=3) (g:=t.a_29) (fd:=t.d_29) (ps:=["offer","had"]) ?_ ?_ ?_ ?_ ?_ ?_)
|`(tactic|ext B)=>`(tactic|refine zaj (k:=6) (g:=t.a_17) (fd:=t.d_17) (ps:=["stock","lot"]) ?_ ?_ ?_ ?_ ?_ ?_)
|`(tactic|ext C)=>`(tactic|refine zaj (k:=2) (g:=t.a_3) (fd:=t.d_3) (ps:=["top","bottom"]) ?_ ?_ ?_ ?_ ?_ ?_)
|`(tactic|ext D)=>`(tactic|exact (BOk.of (Xn:=(zae s_47).names) (XN:=["box","many","way","bits","first","step"]) rfl rfl rfl (by decide +kernel)))
|`(tactic|ext E)=>`(tactic|refine zaj (k:=3) (g:=t.a_7) (fd:=t.d_7) (ps:=["fractions"]) ?_ ?_ ?_ ?_ ?_ ?_)
|`(tactic|ext F)=>`(tactic|exact rfl)
|`(tactic|ext G)=>`(tactic|refine zcb ?_)
|`(tactic|ext H)=>`(tactic|refine zaX ?_ ?_)
|`(tactic|ext I)=>`(tactic|refine zaC 3 ?_ ?_)
|`(tactic|ext J)=>`(tactic|exact (BOk.of (Xn:=(zae s_32).names) (XN:=["stock","borne","times"]) rfl rfl rfl (by decide +kernel)))
|`(tactic|ext K)=>`(tactic|refine zcr ?_)
|`(tactic|ext L)=>`(tactic|refine zaB (id:="sorted") ?_ ?_ ?_ ?_)
|`(tactic|ext M)=>`(tactic|refine zaj (k:=2) (g:=t.a_23) (fd:=t.d_23) (ps:=["stock","offers"]) ?_ ?_ ?_ ?_ ?_ ?_)
|`(tactic|ext N)=>`(tactic|refine zaj (k:=1) (g:=t.a_5) (fd:=t.d_5) (ps:=["fraction","other"]) ?_ ?_ ?_ ?_ ?_ ?_)
|`(tactic|ext O)=>`(tactic|refine zaj (k:=1) (g:=t.a_37) (fd:=t.d_37) (ps:=["many","things"]) ?_ ?_ ?_ ?_ ?_ ?_)
|`(tactic|ext P)=>`(tactic|refine zaj (k:=3) (g:=t.a_14) (fd:=t.d_14) (ps:=["stock","thing"]) ?_ ?_ ?_ ?_ ?_ ?_)
|`(tactic|ext Q)=>`(tactic|refine zaj (k:=5) (g:=t.a_39) (fd:=t.d_39) (ps:=["stock","thing"]) ?_ ?_ ?_ ?_ ?_ ?_)
|`(tactic|ext R)=>`(tactic|refine zaj (k:=1) (g:=t.a_51) (fd:=t.d_51) (ps:=["top","bottom"]) ?_ ?_ ?_ ?_ ?_ ?_)
|`(tactic|ext S)=>`(tactic|refine zaj (k:=1) (g:=t.a_30) (fd:=t.d_30) (ps:=["offer","had"]) ?_ ?_ ?_ ?_ ?_ ?_)
|`(tactic|ext T)=>`(tactic|refine zaj (k:=4) (g:=t.a_28) (fd:=t.d_28) (ps:=["stock","had"]) ?_ ?_ ?_ ?_ ?_ ?_)
|`(tactic|ext U)=>`(tactic|refine zaj (k:=6) (g:=t.a_16) (fd:=t.d_16) (ps:=["stock","lot"]) ?_ ?_ ?_ ?_ ?_ ?_)
|`(tactic|ext V)=>`(tactic|refine zaj (k:=1) (g:=t.a_4) (fd:=t.d_4) (ps:=["top","bottom"]) ?_ ?_ ?_ ?_ ?_ ?_)
|`(tactic|ext W)=>`(tactic|refine zaC 1 ?_ ?_)
|`(tactic|ext X)=>`(tactic|refine zet ?_ ?_)
|`(tactic|ext Y)=>`(tactic|exact T.n_tuple)
|`(tactic|ext Z)=>`(tactic|refine zfI ?_ ?_ ?_)
|`(tactic|ext aa)=>`(tactic|exact T.n_len)
|`(tactic|ext ab)=>`(tactic|exact (zei (zf2 hr)))
|`(tactic|ext ac)=>`(tactic|exact T.n_range)
|`(tactic|ext ad)=>`(tactic|refine zcv ?_)
|`(tactic|ext ae)=>`(tactic|exact T.F_46.kp)
|`(tactic|ext af)=>`(tactic|exact zaK)
|`(tactic|ext ag)=>`(tactic|refine zc0 ?_)
|`(tactic|ext ah)=>`(tactic|refine zkL ?_ ?_ ?_ ?_ ?_)
|`(tactic|ext ai)=>`(tactic|refine zgr ?_ ?_)
|`(tactic|ext aj)=>`(tactic|refine zaC 4 ?_ ?_)
|`(tactic|ext ak)=>`(tactic|exact zab 5)
|`(tactic|ext al)=>`(tactic|refine zeI ?_ ?_)
|`(tactic|ext am)=>`(tactic|exact zbA)
|`(tactic|ext an)=>`(tactic|(ext a;ext g))
|`(tactic|ext ao)=>`(tactic|(ext i;ext m))
|`(tactic|ext ap)=>`(tactic|(ext g;ext j))
|`(tactic|ext aq)=>`(tactic|(ext e;ext ap))
|`(tactic|ext ar)=>`(tactic|(ext an;ext a))
|`(tactic|ext as)=>`(tactic|(ext h;ext h))
|`(tactic|ext au)=>`(tactic|(ext d;ext af))
|`(tactic|ext av)=>`(tactic|(ext h;ext c))
|`(tactic|ext aw)=>`(tactic|(ext a;ext j))
|`(tactic|ext ax)=>`(tactic|(ext c;ext r))
|`(tactic|ext ay)=>`(tactic|(ext ar;ext l))
|`(tactic|ext az)=>`(tactic|(ext a;ext aq))
|`(tactic|ext aA)=>`(tactic|(ext an;ext h))
|`(tactic|ext aB)=>`(tactic|(ext t;ext F))
|`(tactic|ext aC)=>`(tactic|(ext aB;ext u))
|`(tactic|ext aD)=>`(tactic|(ext a;ext y))
|`(tactic|ext aE)=>`(tactic|(ext a;ext l))
|`(tactic|ext aF)=>`(tactic|(ext a;ext v))
|`(tactic|ext aG)=>`(tactic|(ext n;ext G))
|`(tactic|ext aH)=>`(tactic|(ext v;ext j))
|`(tactic|ext aI)=>`(tactic|(ext a;ext d))
|`(tactic|ext aJ)=>`(tactic|(ext h;ext ao))
|`(tactic|ext aK)=>`(tactic|(ext ag;ext ad))
|`(tactic|ext aL)=>`(tactic|(ext l;ext j))
|`(tactic|ext aM)=>`(tactic|(ext y;ext j))
noncomputable def top (i:Nat):Stmt:=PySem.Challenge.pw_cheapcovers_k24_whole_bargains_are_not_f.main.body.getD i (.Pass ⟨0,0,0,0⟩)
theorem zf2 {A:Around} {k:Nat} (hr:zeq k A):A.units+60<cLine:=by have:=hr.units;omega
theorem zoL:bootBuiltins "abs"=some (.builtin "abs"):=by decide +kernel
theorem zpd:bootBuiltins "all"=some (.builtin "all"):=by decide +kernel
theorem zpX:bootBuiltins "bool"=some (.type "bool"):=by decide +kernel
theorem zsA:bootBuiltins "int"=some (.type "int"):=by decide +kernel
theorem zb6:bootBuiltins "len"=some (.builtin "len"):=by decide +kernel
theorem zl3:bootBuiltins "max"=some (.builtin "max"):=by decide +kernel
theorem zoY:bootBuiltins "min"=some (.builtin "min"):=by decide +kernel
theorem zdo:bootBuiltins "sorted"=some (.builtin "sorted"):=by decide +kernel
theorem zso:bootBuiltins "sum"=some (.builtin "sum"):=by decide +kernel
theorem zbj:bootBuiltins "tuple"=some (.type "tuple"):=by decide +kernel
noncomputable abbrev s_44:Stmt:=top 54
noncomputable abbrev s_45:Stmt:=top 55
noncomputable abbrev s_46:Stmt:=top 56
noncomputable abbrev s_47:Stmt:=top 57
noncomputable abbrev s_48:Stmt:=top 58
noncomputable abbrev s_49:Stmt:=top 59
noncomputable abbrev s_50:Stmt:=top 60
noncomputable abbrev s_22:Stmt:=top 25
noncomputable abbrev s_23:Stmt:=top 26
noncomputable abbrev s_15:Stmt:=top 18
noncomputable abbrev s_18:Stmt:=top 21
noncomputable abbrev s_37:Stmt:=top 44
noncomputable abbrev s_36:Stmt:=top 43
noncomputable abbrev s_35:Stmt:=top 42
noncomputable abbrev s_38:Stmt:=top 46
noncomputable abbrev s_0:Stmt:=top 1
noncomputable abbrev s_2:Stmt:=top 3
noncomputable abbrev s_14:Stmt:=top 17
noncomputable abbrev s_20:Stmt:=top 23
noncomputable abbrev s_21:Stmt:=top 24
noncomputable abbrev s_17:Stmt:=top 20
noncomputable abbrev s_30:Stmt:=top 34
noncomputable abbrev s_4:Stmt:=top 5
noncomputable abbrev s_3:Stmt:=top 4
noncomputable abbrev s_29:Stmt:=top 33
noncomputable abbrev s_5:Stmt:=top 6
noncomputable abbrev s_28:Stmt:=top 32
noncomputable abbrev s_26:Stmt:=top 30
noncomputable abbrev s_27:Stmt:=top 31
noncomputable abbrev s_7:Stmt:=top 8
noncomputable abbrev s_31:Stmt:=top 37
noncomputable abbrev s_33:Stmt:=top 39
noncomputable abbrev s_32:Stmt:=top 38
noncomputable abbrev s_43:Stmt:=top 52
noncomputable abbrev s_1:Stmt:=top 2
noncomputable abbrev s_6:Stmt:=top 7
noncomputable abbrev s_42:Stmt:=top 51
noncomputable abbrev s_41:Stmt:=top 50
noncomputable abbrev s_39:Stmt:=top 48
noncomputable abbrev s_51:Stmt:=top 61
noncomputable abbrev s_52:Stmt:=top 62
noncomputable abbrev s_40:Stmt:=top 49
noncomputable abbrev s_54:Stmt:=top 64
noncomputable abbrev s_19:Stmt:=top 22
noncomputable abbrev s_16:Stmt:=top 19
noncomputable abbrev s_24:Stmt:=top 28
noncomputable abbrev s_25:Stmt:=top 29
noncomputable abbrev s_34:Stmt:=top 41
noncomputable abbrev s_53:Stmt:=top 63
noncomputable abbrev s_55:Stmt:=top 65
structure Ad where
 a_44:Addr
 d_44:FuncData
 a_45:Addr
 d_45:FuncData
 a_46:Addr
 d_46:FuncData
 a_47:Addr
 d_47:FuncData
 a_48:Addr
 d_48:FuncData
 a_49:Addr
 d_49:FuncData
 a_50:Addr
 d_50:FuncData
 a_22:Addr
 d_22:FuncData
 a_23:Addr
 d_23:FuncData
 a_15:Addr
 d_15:FuncData
 a_18:Addr
 d_18:FuncData
 a_37:Addr
 d_37:FuncData
 a_36:Addr
 d_36:FuncData
 a_35:Addr
 d_35:FuncData
 a_38:Addr
 d_38:FuncData
 a_0:Addr
 d_0:FuncData
 a_2:Addr
 d_2:FuncData
 a_14:Addr
 d_14:FuncData
 a_20:Addr
 d_20:FuncData
 a_21:Addr
 d_21:FuncData
 a_17:Addr
 d_17:FuncData
 a_30:Addr
 d_30:FuncData
 a_4:Addr
 d_4:FuncData
 a_3:Addr
 d_3:FuncData
 a_29:Addr
 d_29:FuncData
 a_5:Addr
 d_5:FuncData
 a_28:Addr
 d_28:FuncData
 a_26:Addr
 d_26:FuncData
 a_27:Addr
 d_27:FuncData
 a_7:Addr
 d_7:FuncData
 a_31:Addr
 d_31:FuncData
 a_33:Addr
 d_33:FuncData
 a_32:Addr
 d_32:FuncData
 a_43:Addr
 d_43:FuncData
 a_1:Addr
 d_1:FuncData
 a_6:Addr
 d_6:FuncData
 a_42:Addr
 d_42:FuncData
 a_41:Addr
 d_41:FuncData
 a_39:Addr
 d_39:FuncData
 a_51:Addr
 d_51:FuncData
 a_52:Addr
 d_52:FuncData
 a_40:Addr
 d_40:FuncData
 a_54:Addr
 d_54:FuncData
 a_19:Addr
 d_19:FuncData
 a_16:Addr
 d_16:FuncData
 a_24:Addr
 d_24:FuncData
 a_25:Addr
 d_25:FuncData
 a_34:Addr
 d_34:FuncData
 a_53:Addr
 d_53:FuncData
 a_55:Addr
 d_55:FuncData
structure Tx (K:W.Frag) (mg:Str->Option Value) (t:Ad):Prop where
 n_abs:mg "abs"=none
 n_all:mg "all"=none
 n_bool:mg "bool"=none
 n_enumerate:mg "enumerate"=none
 n_int:mg "int"=none
 n_isinstance:mg "isinstance"=none
 n_len:mg "len"=none
 n_list:mg "list"=none
 n_max:mg "max"=none
 n_min:mg "min"=none
 n_range:mg "range"=none
 n_set:mg "set"=none
 n_sorted:mg "sorted"=none
 n_sum:mg "sum"=none
 n_tuple:mg "tuple"=none
 c_MOST_STEPS: ∃ k,mg "MOST_STEPS"=some (.int 100 k)
 m_44:mg "_law_cell"=some (.ref t.a_44)
 F_44:Fun K "_law_cell" "_law_cell" s_44 t.a_44 t.d_44
 b_44:zaE K t.d_44 ["script","k"] []
 m_45:mg "_law_box"=some (.ref t.a_45)
 F_45:Fun K "_law_box" "_law_box" s_45 t.a_45 t.d_45
 b_45:zaE K t.d_45 ["script","k"] []
 m_46:mg "_law_take"=some (.ref t.a_46)
 F_46:Fun K "_law_take" "_law_take" s_46 t.a_46 t.d_46
 b_46:zaE K t.d_46 ["box","many"] []
 m_47:mg "_law_things"=some (.ref t.a_47)
 F_47:Fun K "_law_things" "_law_things" s_47 t.a_47 t.d_47
 b_47:zaE K t.d_47 ["box","many"] []
 m_48:mg "_law_full"=some (.ref t.a_48)
 F_48:Fun K "_law_full" "_law_full" s_48 t.a_48 t.d_48
 b_48:zaE K t.d_48 ["box","most","lots"] []
 m_49:mg "_law_has"=some (.ref t.a_49)
 F_49:Fun K "_law_has" "_law_has" s_49 t.a_49 t.d_49
 b_49:zaE K t.d_49 ["stock","lot"] []
 m_50:mg "_law_cover"=some (.ref t.a_50)
 F_50:Fun K "_law_cover" "_law_cover" s_50 t.a_50 t.d_50
 b_50:zaE K t.d_50 ["box","stock"] []
 m_22:mg "things_together"=some (.ref t.a_22)
 F_22:Fun K "things_together" "things_together" s_22 t.a_22 t.d_22
 b_22:zaE K t.d_22 ["offers"] []
 m_23:mg "have_all"=some (.ref t.a_23)
 F_23:Fun K "have_all" "have_all" s_23 t.a_23 t.d_23
 b_23:zaE K t.d_23 ["stock","offers"] []
 m_15:mg "is_full"=some (.ref t.a_15)
 F_15:Fun K "is_full" "is_full" s_15 t.a_15 t.d_15
 b_15:zaE K t.d_15 ["stock"] []
 m_18:mg "need_full"=some (.ref t.a_18)
 F_18:Fun K "need_full" "need_full" s_18 t.a_18 t.d_18
 b_18:zaE K t.d_18 ["stock"] []
 m_37:mg "bits_of"=some (.ref t.a_37)
 F_37:Fun K "bits_of" "bits_of" s_37 t.a_37 t.d_37
 b_37:zaE K t.d_37 ["many","things"] []
 m_36:mg "known_lots"=some (.ref t.a_36)
 F_36:Fun K "known_lots" "known_lots" s_36 t.a_36 t.d_36
 b_36:zaE K t.d_36 ["stock"] []
 m_35:mg "priced_covers"=some (.ref t.a_35)
 F_35:Fun K "priced_covers" "priced_covers" s_35 t.a_35 t.d_35
 b_35:zaE K t.d_35 ["stock"] []
 m_38:mg "cheapest_cover"=some (.ref t.a_38)
 F_38:Fun K "cheapest_cover" "cheapest_cover" s_38 t.a_38 t.d_38
 b_38:zaE K t.d_38 ["stock"] []
 m_0:mg "is_whole"=some (.ref t.a_0)
 F_0:Fun K "is_whole" "is_whole" s_0 t.a_0 t.d_0
 b_0:zaE K t.d_0 ["thing"] []
 m_2:mg "is_rising"=some (.ref t.a_2)
 F_2:Fun K "is_rising" "is_rising" s_2 t.a_2 t.d_2
 b_2:zaE K t.d_2 ["thing","bound"] []
 m_14:mg "is_lot"=some (.ref t.a_14)
 F_14:Fun K "is_lot" "is_lot" s_14 t.a_14 t.d_14
 b_14:zaE K t.d_14 ["stock","thing"] []
 m_20:mg "need_lot"=some (.ref t.a_20)
 F_20:Fun K "need_lot" "need_lot" s_20 t.a_20 t.d_20
 b_20:zaE K t.d_20 ["stock","lot"] []
 m_21:mg "offers_of"=some (.ref t.a_21)
 F_21:Fun K "offers_of" "offers_of" s_21 t.a_21 t.d_21
 b_21:zaE K t.d_21 ["stock","lot"] []
 m_17:mg "price_of"=some (.ref t.a_17)
 F_17:Fun K "price_of" "price_of" s_17 t.a_17 t.d_17
 b_17:zaE K t.d_17 ["stock","lot"] []
 m_30:mg "new_things"=some (.ref t.a_30)
 F_30:Fun K "new_things" "new_things" s_30 t.a_30 t.d_30
 b_30:zaE K t.d_30 ["offer","had"] []
 m_4:mg "greatest_divisor"=some (.ref t.a_4)
 F_4:Fun K "greatest_divisor" "greatest_divisor" s_4 t.a_4 t.d_4
 b_4:zaE K t.d_4 ["top","bottom"] []
 m_3:mg "reduced"=some (.ref t.a_3)
 F_3:Fun K "reduced" "reduced" s_3 t.a_3 t.d_3
 b_3:zaE K t.d_3 ["top","bottom"] []
 m_29:mg "bargain_behind"=some (.ref t.a_29)
 F_29:Fun K "bargain_behind" "bargain_behind" s_29 t.a_29 t.d_29
 b_29:zaE K t.d_29 ["offer","had"] []
 m_5:mg "is_less"=some (.ref t.a_5)
 F_5:Fun K "is_less" "is_less" s_5 t.a_5 t.d_5
 b_5:zaE K t.d_5 ["fraction","other"] []
 m_28:mg "best_behind"=some (.ref t.a_28)
 F_28:Fun K "best_behind" "best_behind" s_28 t.a_28 t.d_28
 b_28:zaE K t.d_28 ["stock","had"] []
 m_26:mg "bargain_way"=some (.ref t.a_26)
 F_26:Fun K "bargain_way" "bargain_way" s_26 t.a_26 t.d_26
 b_26:zaE K t.d_26 ["stock"] []
 m_27:mg "bargain_cover"=some (.ref t.a_27)
 F_27:Fun K "bargain_cover" "bargain_cover" s_27 t.a_27 t.d_27
 b_27:zaE K t.d_27 ["stock"] []
 m_7:mg "together"=some (.ref t.a_7)
 F_7:Fun K "together" "together" s_7 t.a_7 t.d_7
 b_7:zaE K t.d_7 ["fractions"] []
 m_31:mg "steps_together"=some (.ref t.a_31)
 F_31:Fun K "steps_together" "steps_together" s_31 t.a_31 t.d_31
 b_31:zaE K t.d_31 ["many"] []
 m_33:mg "borne_by_bargains"=some (.ref t.a_33)
 F_33:Fun K "borne_by_bargains" "borne_by_bargains" s_33 t.a_33 t.d_33
 b_33:zaE K t.d_33 ["stock"] []
 m_32:mg "lessened"=some (.ref t.a_32)
 F_32:Fun K "lessened" "lessened" s_32 t.a_32 t.d_32
 b_32:zaE K t.d_32 ["stock"] []
 m_43:mg "is_borne"=some (.ref t.a_43)
 F_43:Fun K "is_borne" "is_borne" s_43 t.a_43 t.d_43
 b_43:zaE K t.d_43 ["offer","shares"] []
 m_1:mg "is_pair"=some (.ref t.a_1)
 F_1:Fun K "is_pair" "is_pair" s_1 t.a_1 t.d_1
 b_1:zaE K t.d_1 ["thing"] []
 m_6:mg "is_fraction"=some (.ref t.a_6)
 F_6:Fun K "is_fraction" "is_fraction" s_6 t.a_6 t.d_6
 b_6:zaE K t.d_6 ["thing"] []
 m_42:mg "is_share"=some (.ref t.a_42)
 F_42:Fun K "is_share" "is_share" s_42 t.a_42 t.d_42
 b_42:zaE K t.d_42 ["thing"] []
 m_41:mg "are_shares"=some (.ref t.a_41)
 F_41:Fun K "are_shares" "are_shares" s_41 t.a_41 t.d_41
 b_41:zaE K t.d_41 ["thing","many"] []
 m_39:mg "is_bearing"=some (.ref t.a_39)
 F_39:Fun K "is_bearing" "is_bearing" s_39 t.a_39 t.d_39
 b_39:zaE K t.d_39 ["stock","thing"] []
 m_51:mg "_law_frac"=some (.ref t.a_51)
 F_51:Fun K "_law_frac" "_law_frac" s_51 t.a_51 t.d_51
 b_51:zaE K t.d_51 ["top","bottom"] []
 m_52:mg "_law_sum"=some (.ref t.a_52)
 F_52:Fun K "_law_sum" "_law_sum" s_52 t.a_52 t.d_52
 b_52:zaE K t.d_52 ["some"] []
 m_40:mg "worth_of"=some (.ref t.a_40)
 F_40:Fun K "worth_of" "worth_of" s_40 t.a_40 t.d_40
 b_40:zaE K t.d_40 ["stock","bearing"] []
 m_54:mg "_law_bound_right"=some (.ref t.a_54)
 F_54:Fun K "_law_bound_right" "_law_bound_right" s_54 t.a_54 t.d_54
 b_54:zaE K t.d_54 ["stock","covers"] []
 m_19:mg "need_offer"=some (.ref t.a_19)
 F_19:Fun K "need_offer" "need_offer" s_19 t.a_19 t.d_19
 b_19:zaE K t.d_19 ["stock","offer"] []
 m_16:mg "things_of"=some (.ref t.a_16)
 F_16:Fun K "things_of" "things_of" s_16 t.a_16 t.d_16
 b_16:zaE K t.d_16 ["stock","lot"] []
 m_24:mg "bargain_of"=some (.ref t.a_24)
 F_24:Fun K "bargain_of" "bargain_of" s_24 t.a_24 t.d_24
 b_24:zaE K t.d_24 ["stock","offer","lot"] []
 m_25:mg "best_bargain"=some (.ref t.a_25)
 F_25:Fun K "best_bargain" "best_bargain" s_25 t.a_25 t.d_25
 b_25:zaE K t.d_25 ["stock","lot"] []
 m_34:mg "is_cover"=some (.ref t.a_34)
 F_34:Fun K "is_cover" "is_cover" s_34 t.a_34 t.d_34
 b_34:zaE K t.d_34 ["stock","thing"] []
 m_53:mg "_law_way_right"=some (.ref t.a_53)
 F_53:Fun K "_law_way_right" "_law_way_right" s_53 t.a_53 t.d_53
 b_53:zaE K t.d_53 ["stock"] []
 m_55:mg "law"=some (.ref t.a_55)
 F_55:Fun K "law" "law" s_55 t.a_55 t.d_55
 b_55:zaE K t.d_55 ["script"] []
section
variable {P:Program} {w:World} {K:W.Frag} {mg:Str->Option Value} {base:Heap} {t:Ad}
theorem sc_44:zap ["script","k"] ["script","k"] (zae s_44):=⟨rfl,rfl,rfl,by decide +kernel,rfl,by decide +kernel,by decide +kernel⟩
theorem ok_44 (T:Tx K mg t):zbr P w K mg base CX0 1 t.a_44 t.d_44 ["script","k"] (zbR K 2 F_44):=by
 refine zaO (k:=0) (G:=G_44) (N:=["script","k"]) (ps:=["script","k"]) (st:=s_44) T.F_44 sc_44 fun cdv A outer s H E hr=> ?_
 ext c;ext w;ext o
 exact zel
 ext l;ext k
 exact zaN
 exact zb6
 ext aa;ext aA;ext ao;ext e;ext g;ext l;ext am;ext ao;ext au;ext d
 exact zdB
 ext j;ext aL
theorem nd_45:(["script","k","cell","number","mixed","j"]:List Str).Nodup:=by decide +kernel
theorem sc_45:zap ["script","k","cell","number","mixed","j"] ["script","k"] (zae s_45):=⟨rfl,rfl,rfl,by decide +kernel,rfl,by decide +kernel,by decide +kernel⟩
theorem ok_45 (T:Tx K mg t):zbr P w K mg base CX0 2 t.a_45 t.d_45 ["script","k"] (zbR K 2 F_45):=by
 have G_44:=ok_44 (P:=P) (w:=w) (base:=base) T
 refine zaO (k:=1) (G:=G_45) (N:=["script","k","cell","number","mixed","j"]) (ps:=["script","k"]) (st:=s_45) T.F_45 sc_45 fun cdv A outer s H E hr=> ?_
 ext ax
 exact nd_45
 refine zaj (k:=1) (g:=t.a_44) (fd:=t.d_44) (ps:=["script","k"]) ?_ ?_ ?_ ?_ ?_ ?_
 exact G_44
 ext b
 exact T.m_44
 exact T.F_44.kp
 exact T.b_44
 ext ay;ext av;ext w;ext o;ext ab;ext d
 exact zd2
 ext aH;ext j;ext ao
 refine zf4 ?_
 ext aI
 exact zjm
 ext aH;ext h;ext am;ext c;ext I
 exact nd_45
 ext j;ext c;ext aj
 exact nd_45
 ext d
 exact zd2
 ext aH;ext c;ext aC;ext ai;ext ac;ext aw;ext h
 exact zaq 5 nd_45
 ext c;ext aj
 exact nd_45
 ext d
 exact zd2
 ext au;ext au;ext au;ext d
 exact zdB
 exact zab 4
 ext j;ext d
 exact zdB
 ext d
 exact zdB
 ext j;ext ak;ext ak;ext d
 exact zdB
 ext j;ext aL;ext j;ext i;ext I
 exact nd_45
 ext au;ext d
 exact zdB
 ext aM
 exact zab 4
 ext ao
 refine zf4 ?_
 ext aD;ext h
theorem nd_46:(["box","many","digit"]:List Str).Nodup:=by decide +kernel
theorem sc_46:zap ["box","many","digit"] ["box","many"] (zae s_46):=⟨rfl,rfl,rfl,by decide +kernel,rfl,by decide +kernel,by decide +kernel⟩
theorem ok_46 (T:Tx K mg t):zbr P w K mg base CX0 1 t.a_46 t.d_46 ["box","many"] (zbR K 2 F_46):=by
 refine zaO (k:=0) (G:=G_46) (N:=["box","many","digit"]) (ps:=["box","many"]) (st:=s_46) T.F_46 sc_46 fun cdv A outer s H E hr=> ?_
 ext ax
 exact nd_46
 ext d
 exact zd2
 ext aq;ext l;ext c
 refine ziD ?_ ?_
 ext d
 exact zjm
 ext aq;ext l
 refine zoT ?_ ?_
 ext ap;ext ao;ext v
theorem nd_47:(["box","many","way","bits","first","step"]:List Str).Nodup:=by decide +kernel
theorem zsr:(["thing","bits"]:List Str).Nodup:=by decide +kernel
theorem ztD:(["k","first","step","many"]:List Str).Nodup:=by decide +kernel
theorem sc_47:zap ["box","many","way","bits","first","step"] ["box","many"] (zae s_47):=⟨rfl,rfl,rfl,by decide +kernel,rfl,by decide +kernel,by decide +kernel⟩
theorem ok_47 (T:Tx K mg t):zbr P w K mg base CX0 2 t.a_47 t.d_47 ["box","many"] (zbR K 2 F_47):=by
 have G_46:=ok_46 (P:=P) (w:=w) (base:=base) T
 refine zaO (k:=1) (G:=G_47) (N:=["box","many","way","bits","first","step"]) (ps:=["box","many"]) (st:=s_47) T.F_47 sc_47 fun cdv A outer s H E hr=> ?_
 ext ax
 exact nd_47
 ext f
 exact G_46
 ext b
 exact T.m_46
 ext ae
 exact T.b_46
 ext ar;ext j;ext av;ext w;ext o;ext ab;ext aH;ext c;ext I
 exact nd_47
 ext au;ext j;ext f
 exact G_46
 ext b
 exact T.m_46
 ext ae
 exact T.b_46
 ext ar;ext d
 exact zio
 ext d
 exact zp9
 ext j;ext aL;ext aJ;ext s
 exact zaT
 exact zbj
 ext Y;ext a
 refine zbM (N:=["thing","bits"]) ?_ ?_ ?_ ?_ ?_ ?_ ?_
 ext F;ext D;ext n;ext ai;ext ac;ext aE;ext h
 intro _ _ _
 exact zaq 0 zsr
 intro _ _ _
 refine zh4 ?_
 ext o;ext ab;ext d
 exact zre
 ext d
 exact zqT
 ext l;ext ap;ext j
 intro _ _ _
 ext g;ext h;ext am;ext c
 refine ziD ?_ ?_
 ext K;ext a;ext f
 exact G_46
 ext b
 exact T.m_46
 ext ae
 exact T.b_46
 ext ay;ext h;ext a;ext e
 refine zg8 ?_
 ext aw;ext a;ext au;ext j;ext f
 exact G_46
 ext b
 exact T.m_46
 ext ae
 exact T.b_46
 ext ar;ext j;ext as;ext d
 exact zio
 ext aH;ext h;ext al;ext F;ext H
 exact zaq 4 nd_47
 ext H
 exact zaq 5 nd_47
 exact zdq
 ext ao;ext s
 exact zaT
 exact zbj
 ext Y;ext a
 refine zhd ?_ ?_ ?_ ?_
 ext F
 exact T.n_sorted
 exact T.n_set
 refine zbM (N:=["k","first","step","many"]) ?_ ?_ ?_ ?_ ?_ ?_ ?_
 ext F;ext D;ext n;ext ai;ext ac;ext a;ext au;ext j;ext f
 exact G_46
 ext b
 exact T.m_46
 ext ae
 exact T.b_46
 ext ar;ext j;ext as
 intro _ _ _
 exact zaq 0 ztD
 intro _ _ _
 exact zcc
 intro _ _ _
 ext d
 exact zd2
 ext au;ext l;ext d
 exact zdB
 ext v;ext g;ext y;ext h
theorem nd_48:(["box","most","lots","many","far","rows","thing","row"]:List Str).Nodup:=by decide +kernel
theorem zr3:(["k","box","many","far"]:List Str).Nodup:=by decide +kernel
theorem zsu:(["row","thing"]:List Str).Nodup:=by decide +kernel
theorem zsn:(["row"]:List Str).Nodup:=by decide +kernel
theorem sc_48:zap ["box","most","lots","many","far","rows","thing","row"] ["box","most","lots"] (zae s_48):=⟨rfl,rfl,rfl,by decide +kernel,rfl,by decide +kernel,by decide +kernel⟩
theorem ok_48 (T:Tx K mg t):zbr P w K mg base CX0 3 t.a_48 t.d_48 ["box","most","lots"] (zbR K 3 F_48):=by
 have G_46:=ok_46 (P:=P) (w:=w) (base:=base) T
 have G_47:=ok_47 (P:=P) (w:=w) (base:=base) T
 refine zaO (k:=2) (G:=G_48) (N:=["box","most","lots","many","far","rows","thing","row"]) (ps:=["box","most","lots"]) (st:=s_48) T.F_48 sc_48 fun cdv A outer s H E hr=> ?_
 ext c;ext I
 exact nd_48
 ext au;ext j;ext f
 exact G_46
 ext b
 exact T.m_46
 ext ae
 exact T.b_46
 ext ay;ext av;ext aj
 exact nd_48
 ext e
 refine zg8 ?_
 ext aw;ext aw;ext aw;ext aI
 exact zra
 ext j;ext j;ext h;ext f
 exact G_46
 ext b
 exact T.m_46
 ext ae
 exact T.b_46
 ext ar;ext j;ext av
 refine zh6 5 (N:=["k","box","many","far"]) ?_ ?_ ?_ ?_ ?_ ?_ ?_ ?_
 ext F
 exact nd_48
 ext p;ext n;ext ai;ext ac;ext a;ext au;ext j;ext f
 exact G_46
 ext b
 exact T.m_46
 ext ae
 exact T.b_46
 ext ar;ext v;ext as
 intro _ _ _
 exact zaq 0 zr3
 intro _ _ _
 exact zcc
 intro _ _ _
 refine zf4 ?_
 ext a
 refine zaj (k:=2) (g:=t.a_47) (fd:=t.d_47) (ps:=["box","many"]) ?_ ?_ ?_ ?_ ?_ ?_
 exact G_47
 ext b
 exact T.m_47
 exact T.F_47.kp
 exact T.b_47
 ext aE;ext aF;ext h;ext a;ext au;ext j;ext f
 exact G_46
 ext b
 exact T.m_46
 ext ae
 exact T.b_46
 ext aE;ext aD;ext as;ext c;ext aC;ext ai;ext ac;ext aD;ext h
 exact zaq 6 nd_48
 ext i;ext w;ext o
 exact (ztC (zf2 hr))
 refine zbM (N:=["row","thing"]) ?_ ?_ ?_ ?_ ?_ ?_ ?_
 ext F;ext p;ext aG;ext ak
 intro _ _ _
 exact zaq 0 zsu
 intro _ _ _
 refine zh4 ?_
 ext o
 exact (zpc (zf2 hr))
 ext l;ext aq
 intro _ _ _
 ext g
 refine zg8 ?_
 ext av
 refine zaC 7 ?_ ?_
 exact nd_48
 ext e;ext ak;ext f
 exact G_46
 ext b
 exact T.m_46
 ext ae
 exact T.b_46
 ext ar;ext k
 exact zaN
 exact zb6
 ext aa;ext a;ext ak;ext as;ext i
 refine ziD ?_ ?_
 ext s
 exact zaT
 exact zbj
 ext Y;ext a;ext L
 exact (zb3 rfl)
 exact zdo
 exact T.n_sorted
 ext a;ext au;ext e
 exact zab 7
 ext j;ext K;ext a
 exact zab 6
 ext as;ext h
 refine zoT ?_ ?_
 exact zab 7
 ext j;ext am;ext ao;ext K;ext aD;ext a;ext s
 exact zaT
 exact zbj
 ext Y;ext a
 refine zbM (N:=["row"]) ?_ ?_ ?_ ?_ ?_ ?_ ?_
 ext F;ext p;ext aG;ext ak
 intro _ _ _
 exact zaq 0 zsn
 intro _ _ _
 exact zcc
 intro _ _ _
 ext K;ext az;ext az;ext as;ext h
theorem nd_49:(["stock","lot","found","offer"]:List Str).Nodup:=by decide +kernel
theorem ztt:(["thing","found"]:List Str).Nodup:=by decide +kernel
theorem sc_49:zap ["stock","lot","found","offer"] ["stock","lot"] (zae s_49):=⟨rfl,rfl,rfl,by decide +kernel,rfl,by decide +kernel,by decide +kernel⟩
theorem ok_49 (T:Tx K mg t):zbr P w K mg base CX0 1 t.a_49 t.d_49 ["stock","lot"] (zbR K 2 F_49):=by
 refine zaO (k:=0) (G:=G_49) (N:=["stock","lot","found","offer"]) (ps:=["stock","lot"]) (st:=s_49) T.F_49 sc_49 fun cdv A outer s H E hr=> ?_
 ext ax
 exact nd_49
 refine zg8 ?_
 ext av;ext aC;ext G;ext l
 exact zaq 3 nd_49
 ext i;ext r
 exact nd_49
 ext au;ext v
 refine zbM (N:=["thing","found"]) ?_ ?_ ?_ ?_ ?_ ?_ ?_
 ext F
 exact (BOk.of (Xn:=(zae s_49).names) (XN:=["stock","lot","found","offer"]) rfl rfl rfl (by decide +kernel))
 ext aG;ext e;ext e;ext aq;ext aM
 intro _ _ _
 exact zaq 0 ztt
 intro _ _ _
 refine zh4 ?_
 ext o
 exact (zl0 (zf2 hr))
 ext g;ext l
 intro _ _ _
 ext g;ext ao;ext s
 exact zaT
 exact zbj
 ext Y;ext a;ext L
 exact (zb3 rfl)
 exact zdo
 exact T.n_sorted
 ext aF;ext as
theorem nd_50:(["box","stock","left","found"]:List Str).Nodup:=by decide +kernel
theorem sc_50:zap ["box","stock","left","found"] ["box","stock"] (zae s_50):=⟨rfl,rfl,rfl,by decide +kernel,rfl,by decide +kernel,by decide +kernel⟩
theorem ok_50 (T:Tx K mg t):zbr P w K mg base CX0 2 t.a_50 t.d_50 ["box","stock"] (zbR K 2 F_50):=by
 have G_49:=ok_49 (P:=P) (w:=w) (base:=base) T
 have G_46:=ok_46 (P:=P) (w:=w) (base:=base) T
 refine zaO (k:=1) (G:=G_50) (N:=["box","stock","left","found"]) (ps:=["box","stock"]) (st:=s_50) T.F_50 sc_50 fun cdv A outer s H E hr=> ?_
 ext ax
 exact nd_50
 refine zod ?_ ?_ ?_ ?_
 ext F
 exact T.n_list
 ext ac;ext k
 exact zaN
 exact zb6
 ext aa;ext a;ext e;ext aL;ext av;ext I
 exact nd_50
 ext K;ext av
 refine zgs 1000 ?_ ?_ ?_
 ext u;ext o
 exact zel
 ext k
 exact zaN
 exact zb6
 ext aa;ext a
 refine zaj (k:=1) (g:=t.a_49) (fd:=t.d_49) (ps:=["stock","lot"]) ?_ ?_ ?_ ?_ ?_ ?_
 exact G_49
 ext b
 exact T.m_49
 exact T.F_49.kp
 exact T.b_49
 ext aE;ext aD;ext as;ext e;ext aL;ext i;ext I
 exact nd_50
 ext au;ext y;ext K;ext a
 refine zu7 ?_ ?_
 ext v;ext f
 exact G_46
 ext b
 exact T.m_46
 ext ae
 exact T.b_46
 ext ar;ext k
 exact zaN
 exact zb6
 ext aa;ext aF;ext as;ext aJ;ext s
 exact zaT
 exact zbj
 ext Y;ext a;ext L
 exact (zb3 rfl)
 exact zdo
 exact T.n_sorted
 ext aD;ext as
theorem nd_22:(["offers","things","offer"]:List Str).Nodup:=by decide +kernel
theorem sc_22:zap ["offers","things","offer"] ["offers"] (zae s_22):=⟨rfl,rfl,rfl,by decide +kernel,rfl,by decide +kernel,by decide +kernel⟩
theorem ok_22 (T:Tx K mg t):zbr P w K mg base CX0 1 t.a_22 t.d_22 ["offers"] (zbR K 1 F_22):=by
 refine zaO (k:=0) (G:=G_22) (N:=["offers","things","offer"]) (ps:=["offers"]) (st:=s_22) T.F_22 sc_22 fun cdv A outer s H E hr=> ?_
 ext c;ext W
 exact nd_22
 refine zf4 ?_
 ext av;ext aC;ext G;ext g
 exact zaq 2 nd_22
 ext i
 refine zfy ?_
 refine zjf ?_ ?_
 ext l;ext e;ext aH;ext ao;ext s
 exact zaT
 exact zbj
 ext Y;ext a
 refine zhd ?_ ?_ ?_ ?_
 ext F
 exact T.n_sorted
 exact T.n_set
 ext l;ext h
theorem sc_23:zap ["stock","offers"] ["stock","offers"] (zae s_23):=⟨rfl,rfl,rfl,by decide +kernel,rfl,by decide +kernel,by decide +kernel⟩
theorem ok_23 (T:Tx K mg t):zbr P w K mg base CX0 2 t.a_23 t.d_23 ["stock","offers"] (zbR K 2 F_23):=by
 have G_22:=ok_22 (P:=P) (w:=w) (base:=base) T
 refine zaO (k:=1) (G:=G_23) (N:=["stock","offers"]) (ps:=["stock","offers"]) (st:=s_23) T.F_23 sc_23 fun cdv A outer s H E hr=> ?_
 ext ao;ext Z;ext ab;ext k
 exact zaN
 exact zb6
 ext aa;ext a
 refine zaj (k:=1) (g:=t.a_22) (fd:=t.d_22) (ps:=["offers"]) ?_ ?_ ?_ ?_ ?_ ?_
 exact G_22
 ext b
 exact T.m_22
 exact T.F_22.kp
 exact T.b_22
 ext aE;ext as;ext aq
theorem sc_15:zap ["stock"] ["stock"] (zae s_15):=⟨rfl,rfl,rfl,by decide +kernel,rfl,by decide +kernel,by decide +kernel⟩
theorem ok_15 (T:Tx K mg t):zbr P w K mg base CX0 3 t.a_15 t.d_15 ["stock"] (zbR K 1 F_15):=by
 have G_23:=ok_23 (P:=P) (w:=w) (base:=base) T
 refine zaO (k:=2) (G:=G_15) (N:=["stock"]) (ps:=["stock"]) (st:=s_15) T.F_15 sc_15 fun cdv A outer s H E hr=> ?_
 ext ao;ext M
 exact G_23
 ext b
 exact T.m_23
 exact T.F_23.kp
 exact T.b_23
 ext ar;ext aq;ext h
theorem sc_18:zap ["stock"] ["stock"] (zae s_18):=⟨rfl,rfl,rfl,by decide +kernel,rfl,by decide +kernel,by decide +kernel⟩
theorem ok_18 (T:Tx K mg t):zbr P w K mg base CX0 4 t.a_18 t.d_18 ["stock"] (zbR K 1 F_18):=by
 have G_15:=ok_15 (P:=P) (w:=w) (base:=base) T
 refine zaO (k:=3) (G:=G_18) (N:=["stock"]) (ps:=["stock"]) (st:=s_18) T.F_18 sc_18 fun cdv A outer s H E hr=> ?_
 ext i;ext w;ext aK
 refine zaj (k:=3) (g:=t.a_15) (fd:=t.d_15) (ps:=["stock"]) ?_ ?_ ?_ ?_ ?_ ?_
 exact G_15
 ext b
 exact T.m_15
 exact T.F_15.kp
 exact T.b_15
 ext aA;ext i
 exact zmp
 ext am
theorem nd_37:(["many","things","bits","thing"]:List Str).Nodup:=by decide +kernel
theorem sc_37:zap ["many","things","bits","thing"] ["many","things"] (zae s_37):=⟨rfl,rfl,rfl,by decide +kernel,rfl,by decide +kernel,by decide +kernel⟩
theorem ok_37 (T:Tx K mg t):zbr P w K mg base CX0 1 t.a_37 t.d_37 ["many","things"] (zbR K 2 F_37):=by
 refine zaO (k:=0) (G:=G_37) (N:=["many","things","bits","thing"]) (ps:=["many","things"]) (st:=s_37) T.F_37 sc_37 fun cdv A outer s H E hr=> ?_
 ext ax
 exact nd_37
 ext j;ext c;ext aC;ext ai;ext ac;ext aA
 exact zaq 3 nd_37
 ext ax
 exact nd_37
 ext d
 exact zdB
 ext aH;ext i;ext w;ext o
 exact (zpc (zf2 hr))
 ext y;ext l;ext i;ext r
 exact nd_37
 ext au;ext aH;ext am;ext ao;ext v
theorem nd_36:(["stock","lots","number","offer","bits","longer"]:List Str).Nodup:=by decide +kernel
theorem zrP:(["known","offer","number","bits"]:List Str).Nodup:=by decide +kernel
theorem sc_36:zap ["stock","lots","number","offer","bits","longer"] ["stock"] (zae s_36):=⟨rfl,rfl,rfl,by decide +kernel,rfl,by decide +kernel,by decide +kernel⟩
theorem ok_36 (T:Tx K mg t):zbr P w K mg base CX0 2 t.a_36 t.d_36 ["stock"] (zbR K 1 F_36):=by
 have G_37:=ok_37 (P:=P) (w:=w) (base:=base) T
 refine zaO (k:=1) (G:=G_36) (N:=["stock","lots","number","offer","bits","longer"]) (ps:=["stock"]) (st:=s_36) T.F_36 sc_36 fun cdv A outer s H E hr=> ?_
 ext c;ext W
 exact nd_36
 refine zg8 ?_
 ext a;ext K;ext aw;ext a;ext K;ext h;ext aw;ext as;ext c;ext aC
 refine ztj ?_ ?_
 ext ac;ext aI
 exact zio
 ext k
 exact zaN
 exact zb6
 ext aa;ext az;ext h;ext j;ext a
 refine zsg ?_
 ext j;ext a
 refine zsg ?_
 ext j;ext h
 exact zaq 2 nd_36
 ext c;ext I
 exact nd_36
 ext e;ext aq;ext v;ext c;ext aj
 exact nd_36
 ext O
 exact G_37
 ext b
 exact T.m_37
 exact T.F_37.kp
 exact T.b_37
 ext az;ext a;ext e;ext aM;ext av
 refine zh6 5 (N:=["known","offer","number","bits"]) ?_ ?_ ?_ ?_ ?_ ?_ ?_ ?_
 ext F
 exact nd_36
 exact (BOk.of (Xn:=(zae s_36).names) (XN:=["stock","lots","number","offer","bits","longer"]) rfl rfl rfl (by decide +kernel))
 ext aG;ext l
 intro _ _ _
 exact zaq 0 zrP
 intro _ _ _
 exact zcc
 intro _ _ _
 ext K;ext a;ext au;ext e;ext aL;ext aq;ext a;ext au;ext K;ext aF;ext h;ext aq;ext aI
 exact zsx
 ext y;ext aq;ext h;ext i;ext W
 exact nd_36
 ext au;ext au
 refine ziR ?_ ?_ ?_
 ext l
 exact zmq
 refine zmg ?_
 ext j;ext ak
 refine ziR ?_ ?_ ?_
 ext l
 refine zmg ?_
 ext j
 exact zmq
 ext ao;ext l
theorem nd_35:(["stock","every"]:List Str).Nodup:=by decide +kernel
theorem zvi:(["known","every"]:List Str).Nodup:=by decide +kernel
theorem sc_35:zap ["stock","every"] ["stock"] (zae s_35):=⟨rfl,rfl,rfl,by decide +kernel,rfl,by decide +kernel,by decide +kernel⟩
theorem ok_35 (T:Tx K mg t):zbr P w K mg base CX0 3 t.a_35 t.d_35 ["stock"] (zbR K 1 F_35):=by
 have G_37:=ok_37 (P:=P) (w:=w) (base:=base) T
 have G_36:=ok_36 (P:=P) (w:=w) (base:=base) T
 refine zaO (k:=2) (G:=G_35) (N:=["stock","every"]) (ps:=["stock"]) (st:=s_35) T.F_35 sc_35 fun cdv A outer s H E hr=> ?_
 ext c;ext W
 exact nd_35
 ext O
 exact G_37
 ext b
 exact T.m_37
 exact T.F_37.kp
 exact T.b_37
 ext az;ext a
 refine zkD ?_ ?_ ?_ ?_
 ext F
 exact T.n_list
 ext ac;ext aq;ext aJ
 refine zbM (N:=["known","every"]) ?_ ?_ ?_ ?_ ?_ ?_ ?_
 ext F
 exact (BOk.of (Xn:=(zae s_35).names) (XN:=["stock","every"]) rfl rfl rfl (by decide +kernel))
 ext aG
 refine zaj (k:=2) (g:=t.a_36) (fd:=t.d_36) (ps:=["stock"]) ?_ ?_ ?_ ?_ ?_ ?_
 exact G_36
 ext b
 exact T.m_36
 exact T.F_36.kp
 exact T.b_36
 ext aA
 intro _ _ _
 exact zaq 0 zvi
 intro _ _ _
 refine zh4 ?_
 ext o;ext ab;ext aq;ext l
 intro _ _ _
 ext K;ext az;ext az;ext h
theorem sc_38:zap ["stock"] ["stock"] (zae s_38):=⟨rfl,rfl,rfl,by decide +kernel,rfl,by decide +kernel,by decide +kernel⟩
theorem ok_38 (T:Tx K mg t):zbr P w K mg base CX0 5 t.a_38 t.d_38 ["stock"] (zbR K 1 F_38):=by
 have G_18:=ok_18 (P:=P) (w:=w) (base:=base) T
 have G_35:=ok_35 (P:=P) (w:=w) (base:=base) T
 refine zaO (k:=4) (G:=G_38) (N:=["stock"]) (ps:=["stock"]) (st:=s_38) T.F_38 sc_38 fun cdv A outer s H E hr=> ?_
 ext c
 refine zfy ?_
 refine zaj (k:=4) (g:=t.a_18) (fd:=t.d_18) (ps:=["stock"]) ?_ ?_ ?_ ?_ ?_ ?_
 exact G_18
 ext b
 exact T.m_18
 exact T.F_18.kp
 exact T.b_18
 ext aA;ext ao;ext e
 refine zaB (id:="min") ?_ ?_ ?_ ?_
 exact (zkw (zf2 hr))
 exact zoY
 exact T.n_min
 ext a
 refine zaj (k:=3) (g:=t.a_35) (fd:=t.d_35) (ps:=["stock"]) ?_ ?_ ?_ ?_ ?_ ?_
 exact G_35
 ext b
 exact T.m_35
 exact T.F_35.kp
 exact T.b_35
 ext an;ext as;ext j
theorem sc_0:zap ["thing"] ["thing"] (zae s_0):=⟨rfl,rfl,rfl,by decide +kernel,rfl,by decide +kernel,by decide +kernel⟩
theorem ok_0 (T:Tx K mg t):zbr P w K mg base CX0 1 t.a_0 t.d_0 ["thing"] (zbR K 1 F_0):=by
 refine zaO (k:=0) (G:=G_0) (N:=["thing"]) (ps:=["thing"]) (st:=s_0) T.F_0 sc_0 fun cdv A outer s H E hr=> ?_
 ext ao
 refine zih ?_ ?_
 ext ah
 exact zqy
 exact zsA
 exact T.n_isinstance
 exact T.n_int
 ext g
 refine zhi ?_
 refine zt2 ?_
 ext ah
 exact znB
 exact zpX
 exact T.n_isinstance
 exact T.n_bool
 ext g
theorem nd_2:(["thing","bound","least","number"]:List Str).Nodup:=by decide +kernel
theorem sc_2:zap ["thing","bound","least","number"] ["thing","bound"] (zae s_2):=⟨rfl,rfl,rfl,by decide +kernel,rfl,by decide +kernel,by decide +kernel⟩
theorem ok_2 (T:Tx K mg t):zbr P w K mg base CX0 2 t.a_2 t.d_2 ["thing","bound"] (zbR K 2 F_2):=by
 have G_0:=ok_0 (P:=P) (w:=w) (base:=base) T
 refine zaO (k:=1) (G:=G_2) (N:=["thing","bound","least","number"]) (ps:=["thing","bound"]) (st:=s_2) T.F_2 sc_2 fun cdv A outer s H E hr=> ?_
 ext c;ext w;ext aK;ext ah
 exact zfG
 exact zbj
 exact T.n_isinstance
 ext Y;ext g;ext ao
 exact zjj
 ext am;ext ax
 exact nd_2
 ext j;ext c;ext aC;ext G;ext g
 exact zaq 3 nd_2
 ext c;ext w
 refine zcD ?_
 ext X;ext aK;ext q
 exact G_0
 ext b
 exact T.m_0
 exact T.F_0.kp
 exact T.b_0
 ext aD;ext h;ext X;ext o
 exact zel
 ext y;ext v
 refine zd6 ?_
 ext o
 exact zmK
 ext y;ext l;ext ao
 exact zjj
 ext am;ext i;ext r
 exact nd_2
 ext au;ext aM;ext ao
 exact zjj
theorem sc_14:zap ["stock","thing"] ["stock","thing"] (zae s_14):=⟨rfl,rfl,rfl,by decide +kernel,rfl,by decide +kernel,by decide +kernel⟩
theorem ok_14 (T:Tx K mg t):zbr P w K mg base CX0 3 t.a_14 t.d_14 ["stock","thing"] (zbR K 2 F_14):=by
 have G_2:=ok_2 (P:=P) (w:=w) (base:=base) T
 refine zaO (k:=2) (G:=G_14) (N:=["stock","thing"]) (ps:=["stock","thing"]) (st:=s_14) T.F_14 sc_14 fun cdv A outer s H E hr=> ?_
 ext ao
 refine zaj (k:=2) (g:=t.a_2) (fd:=t.d_2) (ps:=["thing","bound"]) ?_ ?_ ?_ ?_ ?_ ?_
 exact G_2
 ext b
 exact T.m_2
 exact T.F_2.kp
 exact T.b_2
 ext aE;ext a;ext k
 exact zaN
 exact zb6
 ext aa;ext az;ext as
theorem sc_20:zap ["stock","lot"] ["stock","lot"] (zae s_20):=⟨rfl,rfl,rfl,by decide +kernel,rfl,by decide +kernel,by decide +kernel⟩
theorem ok_20 (T:Tx K mg t):zbr P w K mg base CX0 4 t.a_20 t.d_20 ["stock","lot"] (zbR K 2 F_20):=by
 have G_14:=ok_14 (P:=P) (w:=w) (base:=base) T
 refine zaO (k:=3) (G:=G_20) (N:=["stock","lot"]) (ps:=["stock","lot"]) (st:=s_20) T.F_20 sc_20 fun cdv A outer s H E hr=> ?_
 ext i;ext w;ext aK;ext P
 exact G_14
 ext b
 exact T.m_14
 exact T.F_14.kp
 exact T.b_14
 ext ay;ext h;ext i
 exact zmp
 ext am
theorem zuv:(["number","stock"]:List Str).Nodup:=by decide +kernel
theorem sc_21:zap ["stock","lot"] ["stock","lot"] (zae s_21):=⟨rfl,rfl,rfl,by decide +kernel,rfl,by decide +kernel,by decide +kernel⟩
theorem ok_21 (T:Tx K mg t):zbr P w K mg base CX0 5 t.a_21 t.d_21 ["stock","lot"] (zbR K 2 F_21):=by
 have G_20:=ok_20 (P:=P) (w:=w) (base:=base) T
 refine zaO (k:=4) (G:=G_21) (N:=["stock","lot"]) (ps:=["stock","lot"]) (st:=s_21) T.F_21 sc_21 fun cdv A outer s H E hr=> ?_
 ext c
 refine zfy ?_
 refine zaj (k:=4) (g:=t.a_20) (fd:=t.d_20) (ps:=["stock","lot"]) ?_ ?_ ?_ ?_ ?_ ?_
 exact G_20
 ext b
 exact T.m_20
 exact T.F_20.kp
 exact T.b_20
 ext ay;ext aJ
 refine zbM (N:=["number","stock"]) ?_ ?_ ?_ ?_ ?_ ?_ ?_
 ext F
 exact (BOk.of (Xn:=(zae s_21).names) (XN:=["stock","lot"]) rfl rfl rfl (by decide +kernel))
 ext aG;ext l
 intro _ _ _
 exact zaq 0 zuv
 intro _ _ _
 exact zcc
 intro _ _ _
 ext e;ext e;ext aL;ext g
theorem zux:(["offer"]:List Str).Nodup:=by decide +kernel
theorem sc_17:zap ["stock","lot"] ["stock","lot"] (zae s_17):=⟨rfl,rfl,rfl,by decide +kernel,rfl,by decide +kernel,by decide +kernel⟩
theorem ok_17 (T:Tx K mg t):zbr P w K mg base CX0 6 t.a_17 t.d_17 ["stock","lot"] (zbR K 2 F_17):=by
 have G_21:=ok_21 (P:=P) (w:=w) (base:=base) T
 refine zaO (k:=5) (G:=G_17) (N:=["stock","lot"]) (ps:=["stock","lot"]) (st:=s_17) T.F_17 sc_17 fun cdv A outer s H E hr=> ?_
 ext ao
 refine zaB (id:="sum") ?_ ?_ ?_ ?_
 exact (zmr rfl)
 exact zso
 exact T.n_sum
 ext a
 refine zbM (N:=["offer"]) ?_ ?_ ?_ ?_ ?_ ?_ ?_
 ext F
 exact (BOk.of (Xn:=(zae s_17).names) (XN:=["stock","lot"]) rfl rfl rfl (by decide +kernel))
 ext aG;ext z
 exact G_21
 ext b
 exact T.m_21
 exact T.F_21.kp
 exact T.b_21
 ext ay;ext h
 intro _ _ _
 exact zaq 0 zux
 intro _ _ _
 exact zcc
 intro _ _ _
 ext aq;ext h
theorem zvc:(["thing","had"]:List Str).Nodup:=by decide +kernel
theorem sc_30:zap ["offer","had"] ["offer","had"] (zae s_30):=⟨rfl,rfl,rfl,by decide +kernel,rfl,by decide +kernel,by decide +kernel⟩
theorem ok_30 (T:Tx K mg t):zbr P w K mg base CX0 1 t.a_30 t.d_30 ["offer","had"] (zbR K 2 F_30):=by
 refine zaO (k:=0) (G:=G_30) (N:=["offer","had"]) (ps:=["offer","had"]) (st:=s_30) T.F_30 sc_30 fun cdv A outer s H E hr=> ?_
 ext ao;ext s
 exact zaT
 exact zbj
 ext Y;ext a
 refine zbM (N:=["thing","had"]) ?_ ?_ ?_ ?_ ?_ ?_ ?_
 ext F
 exact (BOk.of (Xn:=(zae s_30).names) (XN:=["offer","had"]) rfl rfl rfl (by decide +kernel))
 ext aG;ext aq
 intro _ _ _
 exact zaq 0 zvc
 intro _ _ _
 refine zh4 ?_
 ext o
 exact (zmo (zf2 hr))
 ext g;ext l
 intro _ _ _
 ext g;ext h
theorem nd_4:(["top","bottom","one","other","rest"]:List Str).Nodup:=by decide +kernel
theorem sc_4:zap ["top","bottom","one","other","rest"] ["top","bottom"] (zae s_4):=⟨rfl,rfl,rfl,by decide +kernel,rfl,by decide +kernel,by decide +kernel⟩
theorem ok_4 (T:Tx K mg t):zbr P w K mg base CX0 1 t.a_4 t.d_4 ["top","bottom"] (zbR K 2 F_4):=by
 refine zaO (k:=0) (G:=G_4) (N:=["top","bottom","one","other","rest"]) (ps:=["top","bottom"]) (st:=s_4) T.F_4 sc_4 fun cdv A outer s H E hr=> ?_
 ext ax
 exact nd_4
 ext g;ext c;ext I
 exact nd_4
 ext l;ext c
 refine zgs 20000 ?_ ?_ ?_
 ext u;ext o
 exact zfT
 ext aM;ext c;ext aj
 exact nd_4
 ext d
 exact zd2
 ext v;ext y;ext ax
 exact nd_4
 ext y;ext i;ext I
 exact nd_4
 exact zab 4
 ext ao;ext v
theorem nd_3:(["top","bottom","shared"]:List Str).Nodup:=by decide +kernel
theorem sc_3:zap ["top","bottom","shared"] ["top","bottom"] (zae s_3):=⟨rfl,rfl,rfl,by decide +kernel,rfl,by decide +kernel,by decide +kernel⟩
theorem ok_3 (T:Tx K mg t):zbr P w K mg base CX0 2 t.a_3 t.d_3 ["top","bottom"] (zbR K 2 F_3):=by
 have G_4:=ok_4 (P:=P) (w:=w) (base:=base) T
 refine zaO (k:=1) (G:=G_3) (N:=["top","bottom","shared"]) (ps:=["top","bottom"]) (st:=s_3) T.F_3 sc_3 fun cdv A outer s H E hr=> ?_
 ext ax
 exact nd_3
 ext V
 exact G_4
 ext b
 exact T.m_4
 exact T.F_4.kp
 exact T.b_4
 ext ay;ext aJ;ext K;ext aI
 exact ze0
 ext g;ext v;ext aI
 exact ze0
 ext l;ext v;ext h
theorem nd_29:(["offer","had","many"]:List Str).Nodup:=by decide +kernel
theorem sc_29:zap ["offer","had","many"] ["offer","had"] (zae s_29):=⟨rfl,rfl,rfl,by decide +kernel,rfl,by decide +kernel,by decide +kernel⟩
theorem ok_29 (T:Tx K mg t):zbr P w K mg base CX0 3 t.a_29 t.d_29 ["offer","had"] (zbR K 2 F_29):=by
 have G_30:=ok_30 (P:=P) (w:=w) (base:=base) T
 have G_3:=ok_3 (P:=P) (w:=w) (base:=base) T
 refine zaO (k:=2) (G:=G_29) (N:=["offer","had","many"]) (ps:=["offer","had"]) (st:=s_29) T.F_29 sc_29 fun cdv A outer s H E hr=> ?_
 ext ax
 exact nd_29
 ext k
 exact zaN
 exact zb6
 ext aa;ext a;ext S
 exact G_30
 ext b
 exact T.m_30
 exact T.F_30.kp
 exact T.b_30
 ext ay;ext as;ext ao
 refine zuJ ?_ ?_ ?_
 ext o
 exact zfT
 ext aH;ext C
 exact G_3
 ext b
 exact T.m_3
 exact T.F_3.kp
 exact T.b_3
 ext az;ext aF;ext h
 exact zlM
theorem sc_5:zap ["fraction","other"] ["fraction","other"] (zae s_5):=⟨rfl,rfl,rfl,by decide +kernel,rfl,by decide +kernel,by decide +kernel⟩
theorem ok_5 (T:Tx K mg t):zbr P w K mg base CX0 1 t.a_5 t.d_5 ["fraction","other"] (zbR K 2 F_5):=by
 refine zaO (k:=0) (G:=G_5) (N:=["fraction","other"]) (ps:=["fraction","other"]) (st:=s_5) T.F_5 sc_5 fun cdv A outer s H E hr=> ?_
 ext ao;ext Z
 exact zel
 ext d
 exact zbD
 ext aq;ext e;ext aL;ext d
 exact zbD
 ext e;ext aL;ext aq
theorem nd_28:(["stock","had","best","least","number","offer","bargain"]:List Str).Nodup:=by decide +kernel
theorem sc_28:zap ["stock","had","best","least","number","offer","bargain"] ["stock","had"] (zae s_28):=⟨rfl,rfl,rfl,by decide +kernel,rfl,by decide +kernel,by decide +kernel⟩
theorem ok_28 (T:Tx K mg t):zbr P w K mg base CX0 4 t.a_28 t.d_28 ["stock","had"] (zbR K 2 F_28):=by
 have G_29:=ok_29 (P:=P) (w:=w) (base:=base) T
 have G_5:=ok_5 (P:=P) (w:=w) (base:=base) T
 refine zaO (k:=3) (G:=G_28) (N:=["stock","had","best","least","number","offer","bargain"]) (ps:=["stock","had"]) (st:=s_28) T.F_28 sc_28 fun cdv A outer s H E hr=> ?_
 ext ax
 exact nd_28
 exact zlM
 ext c;ext I
 exact nd_28
 exact zlM
 ext c;ext aC
 refine zsW ?_ ?_
 exact T.n_enumerate
 ext aq;ext al;ext F;ext H
 exact zaq 4 nd_28
 ext H
 exact zaq 5 nd_28
 exact zdq
 ext c
 refine zaC 6 ?_ ?_
 exact nd_28
 ext A
 exact G_29
 ext b
 exact T.m_29
 exact T.F_29.kp
 exact T.b_29
 ext a;ext ak;ext aE;ext h;ext i;ext w
 refine zcD ?_
 refine zsh ?_ ?_
 ext o
 exact zrg
 exact zab 6
 exact zlM
 refine zru ?_
 refine zcD ?_
 ext X;ext o
 exact zoS
 ext y
 exact zlM
 refine zd6 ?_
 ext ad;ext N
 exact G_5
 ext b
 exact T.m_5
 exact T.F_5.kp
 exact T.b_5
 ext a
 exact zab 6
 ext aD;ext av;ext r
 exact nd_28
 exact zab 4
 ext i;ext I
 exact nd_28
 exact zab 6
 ext am;ext ao;ext v
theorem nd_26:(["stock","way","had","number","offer","things"]:List Str).Nodup:=by decide +kernel
theorem sc_26:zap ["stock","way","had","number","offer","things"] ["stock"] (zae s_26):=⟨rfl,rfl,rfl,by decide +kernel,rfl,by decide +kernel,by decide +kernel⟩
theorem ok_26 (T:Tx K mg t):zbr P w K mg base CX0 5 t.a_26 t.d_26 ["stock"] (zbR K 1 F_26):=by
 have G_18:=ok_18 (P:=P) (w:=w) (base:=base) T
 have G_28:=ok_28 (P:=P) (w:=w) (base:=base) T
 have G_30:=ok_30 (P:=P) (w:=w) (base:=base) T
 have G_29:=ok_29 (P:=P) (w:=w) (base:=base) T
 refine zaO (k:=4) (G:=G_26) (N:=["stock","way","had","number","offer","things"]) (ps:=["stock"]) (st:=s_26) T.F_26 sc_26 fun cdv A outer s H E hr=> ?_
 ext c
 refine zfy ?_
 refine zaj (k:=4) (g:=t.a_18) (fd:=t.d_18) (ps:=["stock"]) ?_ ?_ ?_ ?_ ?_ ?_
 exact G_18
 ext b
 exact T.m_18
 exact T.F_18.kp
 exact T.b_18
 ext an;ext av;ext W
 exact nd_26
 refine zf4 ?_
 ext av;ext r
 exact nd_26
 refine zf4 ?_
 ext av
 refine zgs 1000 ?_ ?_ ?_
 ext u;ext o
 exact zel
 ext k
 exact zaN
 exact zb6
 ext aa;ext aF;ext h;ext aq;ext c;ext I
 exact nd_26
 ext T
 exact G_28
 ext b
 exact T.m_28
 exact T.F_28.kp
 exact T.b_28
 ext ar;ext v;ext av;ext aj
 exact nd_26
 ext e;ext aq;ext y;ext c
 refine zaC 5 ?_ ?_
 exact nd_26
 ext S
 exact G_30
 ext b
 exact T.m_30
 exact T.F_30.kp
 exact T.b_30
 ext a
 exact zab 4
 ext aF;ext av
 refine zfy ?_
 refine znI ?_ ?_
 ext l;ext K;ext aD;ext a;ext ak;ext a;ext A
 exact G_29
 ext b
 exact T.m_29
 exact T.F_29.kp
 exact T.b_29
 ext a
 exact zab 4
 ext aF;ext as;ext i
 refine zfy ?_
 refine zjf ?_ ?_
 ext v;ext ak;ext ao
 refine zuX ?_
 ext l
theorem zuU:(["step"]:List Str).Nodup:=by decide +kernel
theorem sc_27:zap ["stock"] ["stock"] (zae s_27):=⟨rfl,rfl,rfl,by decide +kernel,rfl,by decide +kernel,by decide +kernel⟩
theorem ok_27 (T:Tx K mg t):zbr P w K mg base CX0 6 t.a_27 t.d_27 ["stock"] (zbR K 1 F_27):=by
 have G_26:=ok_26 (P:=P) (w:=w) (base:=base) T
 refine zaO (k:=5) (G:=G_27) (N:=["stock"]) (ps:=["stock"]) (st:=s_27) T.F_27 sc_27 fun cdv A outer s H E hr=> ?_
 ext ao;ext s
 exact zaT
 exact zbj
 ext Y;ext a;ext L
 exact (zb3 rfl)
 exact zdo
 exact T.n_sorted
 ext a
 refine zbM (N:=["step"]) ?_ ?_ ?_ ?_ ?_ ?_ ?_
 ext F
 exact (BOk.of (Xn:=(zae s_27).names) (XN:=["stock"]) rfl rfl rfl (by decide +kernel))
 ext aG;ext x
 exact G_26
 ext b
 exact T.m_26
 exact T.F_26.kp
 exact T.b_26
 ext aA
 intro _ _ _
 exact zaq 0 zuU
 intro _ _ _
 exact zcc
 intro _ _ _
 ext aq;ext as
theorem nd_7:(["fractions","top","bottom","fraction"]:List Str).Nodup:=by decide +kernel
theorem sc_7:zap ["fractions","top","bottom","fraction"] ["fractions"] (zae s_7):=⟨rfl,rfl,rfl,by decide +kernel,rfl,by decide +kernel,by decide +kernel⟩
theorem ok_7 (T:Tx K mg t):zbr P w K mg base CX0 3 t.a_7 t.d_7 ["fractions"] (zbR K 1 F_7):=by
 have G_3:=ok_3 (P:=P) (w:=w) (base:=base) T
 refine zaO (k:=2) (G:=G_7) (N:=["fractions","top","bottom","fraction"]) (ps:=["fractions"]) (st:=s_7) T.F_7 sc_7 fun cdv A outer s H E hr=> ?_
 ext c;ext W
 exact nd_7
 ext j;ext ax
 exact nd_7
 ext j;ext c;ext aC;ext G;ext g
 exact zaq 3 nd_7
 ext c;ext W
 exact nd_7
 ext au;ext d
 exact zbD
 ext l;ext e;ext aM;ext d
 exact zbD
 ext e;ext aM;ext v;ext i;ext r
 exact nd_7
 ext d
 exact zbD
 ext v;ext e;ext aM;ext ao;ext C
 exact G_3
 ext b
 exact T.m_3
 exact T.F_3.kp
 exact T.b_3
 ext aE;ext aF;ext h
theorem zvo:(["step"]:List Str).Nodup:=by decide +kernel
theorem sc_31:zap ["many"] ["many"] (zae s_31):=⟨rfl,rfl,rfl,by decide +kernel,rfl,by decide +kernel,by decide +kernel⟩
theorem ok_31 (T:Tx K mg t):zbr P w K mg base CX0 4 t.a_31 t.d_31 ["many"] (zbR K 1 F_31):=by
 have G_0:=ok_0 (P:=P) (w:=w) (base:=base) T
 have G_7:=ok_7 (P:=P) (w:=w) (base:=base) T
 refine zaO (k:=3) (G:=G_31) (N:=["many"]) (ps:=["many"]) (st:=s_31) T.F_31 sc_31 fun cdv A outer s H E hr=> ?_
 ext c;ext w
 refine zcD ?_
 ext X;ext aK;ext q
 exact G_0
 ext b
 exact T.m_0
 exact T.F_0.kp
 exact T.b_0
 ext aA;ext X;ext o
 exact zel
 ext ap
 refine zd6 ?_
 ext o
 exact zfT
 ext g
 exact zqZ T.c_MOST_STEPS
 ext i
 exact zmp
 ext am;ext ao;ext E
 exact G_7
 ext b
 exact T.m_7
 exact T.F_7.kp
 exact T.b_7
 ext a
 refine zbM (N:=["step"]) ?_ ?_ ?_ ?_ ?_ ?_ ?_
 ext F
 exact (BOk.of (Xn:=(zae s_31).names) (XN:=["many"]) rfl rfl rfl (by decide +kernel))
 ext n
 refine zrQ ?_ ?_
 ext ac;ext aw;ext a;ext au;ext ap;ext h
 intro _ _ _
 exact zaq 0 zvo
 intro _ _ _
 exact zcc
 intro _ _ _
 ext K;ext aw;ext an;ext as
theorem nd_33:(["stock","borne","step","thing"]:List Str).Nodup:=by decide +kernel
theorem zvx:(["thing","borne"]:List Str).Nodup:=by decide +kernel
theorem sc_33:zap ["stock","borne","step","thing"] ["stock"] (zae s_33):=⟨rfl,rfl,rfl,by decide +kernel,rfl,by decide +kernel,by decide +kernel⟩
theorem ok_33 (T:Tx K mg t):zbr P w K mg base CX0 6 t.a_33 t.d_33 ["stock"] (zbR K 1 F_33):=by
 have G_26:=ok_26 (P:=P) (w:=w) (base:=base) T
 refine zaO (k:=5) (G:=G_33) (N:=["stock","borne","step","thing"]) (ps:=["stock"]) (st:=s_33) T.F_33 sc_33 fun cdv A outer s H E hr=> ?_
 ext c;ext W
 exact nd_33
 exact zvq
 ext c;ext aC;ext G;ext x
 exact G_26
 ext b
 exact T.m_26
 exact T.F_26.kp
 exact T.b_26
 ext aA
 exact zaq 2 nd_33
 ext i;ext aC;ext G;ext e;ext aH
 exact zaq 3 nd_33
 ext i
 refine ziD ?_ ?_
 ext e;ext aH
 refine zs6 ?_ ?_
 ext l;ext y;ext ao
 refine zbM (N:=["thing","borne"]) ?_ ?_ ?_ ?_ ?_ ?_ ?_
 ext F
 exact (BOk.of (Xn:=(zae s_33).names) (XN:=["stock","borne","step","thing"]) rfl rfl rfl (by decide +kernel))
 ext n;ext ai;ext ac;ext az;ext h
 intro _ _ _
 exact zaq 0 zvx
 intro _ _ _
 exact zcc
 intro _ _ _
 refine zu1 ?_ ?_
 ext l;ext g
theorem nd_32:(["stock","borne","times"]:List Str).Nodup:=by decide +kernel
theorem zul:(["offer"]:List Str).Nodup:=by decide +kernel
theorem zvv:(["each","times"]:List Str).Nodup:=by decide +kernel
theorem sc_32:zap ["stock","borne","times"] ["stock"] (zae s_32):=⟨rfl,rfl,rfl,by decide +kernel,rfl,by decide +kernel,by decide +kernel⟩
theorem ok_32 (T:Tx K mg t):zbr P w K mg base CX0 7 t.a_32 t.d_32 ["stock"] (zbR K 1 F_32):=by
 have G_33:=ok_33 (P:=P) (w:=w) (base:=base) T
 have G_31:=ok_31 (P:=P) (w:=w) (base:=base) T
 have G_3:=ok_3 (P:=P) (w:=w) (base:=base) T
 refine zaO (k:=6) (G:=G_32) (N:=["stock","borne","times"]) (ps:=["stock"]) (st:=s_32) T.F_32 sc_32 fun cdv A outer s H E hr=> ?_
 ext c;ext W
 exact nd_32
 refine zaj (k:=6) (g:=t.a_33) (fd:=t.d_33) (ps:=["stock"]) ?_ ?_ ?_ ?_ ?_ ?_
 exact G_33
 ext b
 exact T.m_33
 exact T.F_33.kp
 exact T.b_33
 ext an;ext av;ext r
 exact nd_32
 refine zaj (k:=4) (g:=t.a_31) (fd:=t.d_31) (ps:=["many"]) ?_ ?_ ?_ ?_ ?_ ?_
 exact G_31
 ext b
 exact T.m_31
 exact T.F_31.kp
 exact T.b_31
 ext a
 refine zaB (id:="max") ?_ ?_ ?_ ?_
 exact (zf9 rfl)
 exact zl3
 exact T.n_max
 ext a
 refine zbM (N:=["offer"]) ?_ ?_ ?_ ?_ ?_ ?_ ?_
 ext F;ext J;ext aG;ext aq
 intro _ _ _
 exact zaq 0 zul
 intro _ _ _
 exact zcc
 intro _ _ _
 ext k
 exact zaN
 exact zb6
 ext aa;ext az;ext as;ext aJ;ext s
 exact zaT
 exact zbj
 ext Y;ext a
 refine zbM (N:=["each","times"]) ?_ ?_ ?_ ?_ ?_ ?_ ?_
 ext F;ext J;ext aG;ext l
 intro _ _ _
 exact zaq 0 zvv
 intro _ _ _
 exact zcc
 intro _ _ _
 ext C
 exact G_3
 ext b
 exact T.m_3
 exact T.F_3.kp
 exact T.b_3
 ext aI
 exact zbD
 ext aq;ext e;ext aL;ext aI
 exact zbD
 ext aq;ext e;ext aL;ext as
theorem nd_43:(["offer","shares","borne"]:List Str).Nodup:=by decide +kernel
theorem zsM:(["thing","shares"]:List Str).Nodup:=by decide +kernel
theorem sc_43:zap ["offer","shares","borne"] ["offer","shares"] (zae s_43):=⟨rfl,rfl,rfl,by decide +kernel,rfl,by decide +kernel,by decide +kernel⟩
theorem ok_43 (T:Tx K mg t):zbr P w K mg base CX0 4 t.a_43 t.d_43 ["offer","shares"] (zbR K 2 F_43):=by
 have G_7:=ok_7 (P:=P) (w:=w) (base:=base) T
 have G_5:=ok_5 (P:=P) (w:=w) (base:=base) T
 refine zaO (k:=3) (G:=G_43) (N:=["offer","shares","borne"]) (ps:=["offer","shares"]) (st:=s_43) T.F_43 sc_43 fun cdv A outer s H E hr=> ?_
 ext ax
 exact nd_43
 ext E
 exact G_7
 ext b
 exact T.m_7
 exact T.F_7.kp
 exact T.b_7
 ext a
 refine zbM (N:=["thing","shares"]) ?_ ?_ ?_ ?_ ?_ ?_ ?_
 ext F
 exact (BOk.of (Xn:=(zae s_43).names) (XN:=["offer","shares","borne"]) rfl rfl rfl (by decide +kernel))
 ext aG;ext aq
 intro _ _ _
 exact zaq 0 zsM
 intro _ _ _
 exact zcc
 intro _ _ _
 ext e;ext l;ext g;ext aJ
 refine zt2 ?_
 ext N
 exact G_5
 ext b
 exact T.m_5
 exact T.F_5.kp
 exact T.b_5
 ext a;ext K;ext az;ext aw;ext h;ext aF;ext h
theorem sc_1:zap ["thing"] ["thing"] (zae s_1):=⟨rfl,rfl,rfl,by decide +kernel,rfl,by decide +kernel,by decide +kernel⟩
theorem ok_1 (T:Tx K mg t):zbr P w K mg base CX0 1 t.a_1 t.d_1 ["thing"] (zbR K 1 F_1):=by
 refine zaO (k:=0) (G:=G_1) (N:=["thing"]) (ps:=["thing"]) (st:=s_1) T.F_1 sc_1 fun cdv A outer s H E hr=> ?_
 ext ao
 refine zih ?_ ?_
 ext ah
 exact zfG
 exact zbj
 exact T.n_isinstance
 ext Y;ext g
 refine zhi ?_
 ext Z;ext ab;ext k
 exact zaN
 exact zb6
 ext aa;ext aA;ext j
theorem sc_6:zap ["thing"] ["thing"] (zae s_6):=⟨rfl,rfl,rfl,by decide +kernel,rfl,by decide +kernel,by decide +kernel⟩
theorem ok_6 (T:Tx K mg t):zbr P w K mg base CX0 2 t.a_6 t.d_6 ["thing"] (zbR K 1 F_6):=by
 have G_0:=ok_0 (P:=P) (w:=w) (base:=base) T
 have G_1:=ok_1 (P:=P) (w:=w) (base:=base) T
 have G_4:=ok_4 (P:=P) (w:=w) (base:=base) T
 refine zaO (k:=1) (G:=G_6) (N:=["thing"]) (ps:=["thing"]) (st:=s_6) T.F_6 sc_6 fun cdv A outer s H E hr=> ?_
 ext c;ext w
 refine zcD ?_
 ext X;ext aK
 refine zaj (k:=1) (g:=t.a_1) (fd:=t.d_1) (ps:=["thing"]) ?_ ?_ ?_ ?_ ?_ ?_
 exact G_1
 ext b
 exact T.m_1
 exact T.F_1.kp
 exact T.b_1
 ext aA;ext X;ext aK;ext q
 exact G_0
 ext b
 exact T.m_0
 exact T.F_0.kp
 exact T.b_0
 ext az;ext h
 refine zd6 ?_
 ext aK;ext q
 exact G_0
 ext b
 exact T.m_0
 exact T.F_0.kp
 exact T.b_0
 ext az;ext aJ
 exact zjj
 ext am;ext ao
 refine zih ?_ ?_
 ext Z
 exact zfT
 ext aq;ext j
 refine zhi ?_
 ext Z;ext ab;ext V
 exact G_4
 ext b
 exact T.m_4
 exact T.F_4.kp
 exact T.b_4
 ext az;ext az;ext h;ext j
theorem sc_42:zap ["thing"] ["thing"] (zae s_42):=⟨rfl,rfl,rfl,by decide +kernel,rfl,by decide +kernel,by decide +kernel⟩
theorem ok_42 (T:Tx K mg t):zbr P w K mg base CX0 3 t.a_42 t.d_42 ["thing"] (zbR K 1 F_42):=by
 have G_6:=ok_6 (P:=P) (w:=w) (base:=base) T
 refine zaO (k:=2) (G:=G_42) (N:=["thing"]) (ps:=["thing"]) (st:=s_42) T.F_42 sc_42 fun cdv A outer s H E hr=> ?_
 ext ao
 refine zih ?_ ?_
 refine zaj (k:=2) (g:=t.a_6) (fd:=t.d_6) (ps:=["thing"]) ?_ ?_ ?_ ?_ ?_ ?_
 exact G_6
 ext b
 exact T.m_6
 exact T.F_6.kp
 exact T.b_6
 ext aA
 refine zhi ?_
 ext Z
 exact zmK
 ext aq;ext j
theorem zt1:(["share"]:List Str).Nodup:=by decide +kernel
theorem sc_41:zap ["thing","many"] ["thing","many"] (zae s_41):=⟨rfl,rfl,rfl,by decide +kernel,rfl,by decide +kernel,by decide +kernel⟩
theorem ok_41 (T:Tx K mg t):zbr P w K mg base CX0 4 t.a_41 t.d_41 ["thing","many"] (zbR K 2 F_41):=by
 have G_42:=ok_42 (P:=P) (w:=w) (base:=base) T
 refine zaO (k:=3) (G:=G_41) (N:=["thing","many"]) (ps:=["thing","many"]) (st:=s_41) T.F_41 sc_41 fun cdv A outer s H E hr=> ?_
 ext c;ext w
 refine zcD ?_
 ext X;ext aK;ext ah
 exact zfG
 exact zbj
 exact T.n_isinstance
 ext Y;ext g
 refine zd6 ?_
 ext o
 exact (zhc (zf2 hr))
 ext k
 exact zaN
 exact zb6
 ext aa;ext aA;ext l;ext ao
 exact zjj
 ext am;ext ao
 refine zaB (id:="all") ?_ ?_ ?_ ?_
 exact (zhk rfl)
 exact zpd
 exact T.n_all
 ext a
 refine zbM (N:=["share"]) ?_ ?_ ?_ ?_ ?_ ?_ ?_
 ext F
 exact (BOk.of (Xn:=(zae s_41).names) (XN:=["thing","many"]) rfl rfl rfl (by decide +kernel))
 ext aG;ext g
 intro _ _ _
 exact zaq 0 zt1
 intro _ _ _
 exact zcc
 intro _ _ _
 refine zaj (k:=3) (g:=t.a_42) (fd:=t.d_42) (ps:=["thing"]) ?_ ?_ ?_ ?_ ?_ ?_
 exact G_42
 ext b
 exact T.m_42
 exact T.F_42.kp
 exact T.b_42
 ext an;ext as
theorem zrL:(["offer","thing"]:List Str).Nodup:=by decide +kernel
theorem sc_39:zap ["stock","thing"] ["stock","thing"] (zae s_39):=⟨rfl,rfl,rfl,by decide +kernel,rfl,by decide +kernel,by decide +kernel⟩
theorem ok_39 (T:Tx K mg t):zbr P w K mg base CX0 5 t.a_39 t.d_39 ["stock","thing"] (zbR K 2 F_39):=by
 have G_43:=ok_43 (P:=P) (w:=w) (base:=base) T
 have G_41:=ok_41 (P:=P) (w:=w) (base:=base) T
 refine zaO (k:=4) (G:=G_39) (N:=["stock","thing"]) (ps:=["stock","thing"]) (st:=s_39) T.F_39 sc_39 fun cdv A outer s H E hr=> ?_
 ext ao
 refine zih ?_ ?_
 refine zaj (k:=4) (g:=t.a_41) (fd:=t.d_41) (ps:=["thing","many"]) ?_ ?_ ?_ ?_ ?_ ?_
 exact G_41
 ext b
 exact T.m_41
 exact T.F_41.kp
 exact T.b_41
 ext aE;ext az;ext h
 refine zhi ?_
 refine zaB (id:="all") ?_ ?_ ?_ ?_
 exact (zhk rfl)
 exact zpd
 exact T.n_all
 ext a
 refine zbM (N:=["offer","thing"]) ?_ ?_ ?_ ?_ ?_ ?_ ?_
 ext F
 exact (BOk.of (Xn:=(zae s_39).names) (XN:=["stock","thing"]) rfl rfl rfl (by decide +kernel))
 ext aG;ext aq
 intro _ _ _
 exact zaq 0 zrL
 intro _ _ _
 exact zcc
 intro _ _ _
 refine zaj (k:=4) (g:=t.a_43) (fd:=t.d_43) (ps:=["offer","shares"]) ?_ ?_ ?_ ?_ ?_ ?_
 exact G_43
 ext b
 exact T.m_43
 exact T.F_43.kp
 exact T.b_43
 ext ay;ext as
theorem nd_51:(["top","bottom","one","other"]:List Str).Nodup:=by decide +kernel
theorem sc_51:zap ["top","bottom","one","other"] ["top","bottom"] (zae s_51):=⟨rfl,rfl,rfl,by decide +kernel,rfl,by decide +kernel,by decide +kernel⟩
theorem ok_51 (T:Tx K mg t):zbr P w K mg base CX0 1 t.a_51 t.d_51 ["top","bottom"] (zbR K 2 F_51):=by
 refine zaO (k:=0) (G:=G_51) (N:=["top","bottom","one","other"]) (ps:=["top","bottom"]) (st:=s_51) T.F_51 sc_51 fun cdv A outer s H E hr=> ?_
 ext c
 refine zr8 2 3 ?_ ?_ ?_
 ext F
 exact nd_51
 ext a
 refine zaB (id:="abs") ?_ ?_ ?_ ?_
 exact zh5
 exact zoL
 exact T.n_abs
 ext aA;ext a
 refine zaB (id:="abs") ?_ ?_ ?_ ?_
 exact zh5
 exact zoL
 exact T.n_abs
 ext aE;ext as;ext c
 refine zgs 20000 ?_ ?_ ?_
 ext u;ext o
 exact zfT
 ext aM;ext i
 refine zr8 2 3 ?_ ?_ ?_
 ext F
 exact nd_51
 ext aD;ext aI
 exact zd2
 ext v;ext y;ext aJ;ext K;ext aI
 exact ze0
 ext g;ext v;ext aI
 exact ze0
 ext l;ext v;ext h
theorem nd_52:(["some","top","bottom","one"]:List Str).Nodup:=by decide +kernel
theorem sc_52:zap ["some","top","bottom","one"] ["some"] (zae s_52):=⟨rfl,rfl,rfl,by decide +kernel,rfl,by decide +kernel,by decide +kernel⟩
theorem ok_52 (T:Tx K mg t):zbr P w K mg base CX0 2 t.a_52 t.d_52 ["some"] (zbR K 1 F_52):=by
 have G_51:=ok_51 (P:=P) (w:=w) (base:=base) T
 refine zaO (k:=1) (G:=G_52) (N:=["some","top","bottom","one"]) (ps:=["some"]) (st:=s_52) T.F_52 sc_52 fun cdv A outer s H E hr=> ?_
 ext c
 refine ziD ?_ ?_
 ext K;ext aw;ext aw;ext h;ext al;ext F;ext H
 exact zaq 1 nd_52
 ext H
 exact zaq 2 nd_52
 exact zdq
 ext c;ext aC;ext G;ext g
 exact zaq 3 nd_52
 ext i
 refine ziD ?_ ?_
 ext R
 exact G_51
 ext b
 exact T.m_51
 exact T.F_51.kp
 exact T.b_51
 ext a;ext au;ext d
 exact zbD
 ext l;ext e;ext aM;ext d
 exact zbD
 ext e;ext aM;ext v;ext aI
 exact zbD
 ext v;ext e;ext aM;ext h;ext al;ext F;ext H
 exact zaq 1 nd_52
 ext H
 exact zaq 2 nd_52
 exact zdq
 ext ao;ext K;ext aE;ext aF;ext h
theorem sc_40:zap ["stock","bearing"] ["stock","bearing"] (zae s_40):=⟨rfl,rfl,rfl,by decide +kernel,rfl,by decide +kernel,by decide +kernel⟩
theorem ok_40 (T:Tx K mg t):zbr P w K mg base CX0 6 t.a_40 t.d_40 ["stock","bearing"] (zbR K 2 F_40):=by
 have G_39:=ok_39 (P:=P) (w:=w) (base:=base) T
 have G_7:=ok_7 (P:=P) (w:=w) (base:=base) T
 refine zaO (k:=5) (G:=G_40) (N:=["stock","bearing"]) (ps:=["stock","bearing"]) (st:=s_40) T.F_40 sc_40 fun cdv A outer s H E hr=> ?_
 ext c;ext w;ext aK;ext Q
 exact G_39
 ext b
 exact T.m_39
 exact T.F_39.kp
 exact T.b_39
 ext ay;ext h;ext i
 exact zmp
 ext am;ext ao;ext E
 exact G_7
 ext b
 exact T.m_7
 exact T.F_7.kp
 exact T.b_7
 ext aE;ext h
theorem nd_54:(["stock","covers","price","every","offer","things","each","top","bottom","bears","cover"]:List Str).Nodup:=by decide +kernel
theorem zoQ:(["things","cost"]:List Str).Nodup:=by decide +kernel
theorem sc_54:zap ["stock","covers","price","every","offer","things","each","top","bottom","bears","cover"] ["stock","covers"] (zae s_54):=⟨rfl,rfl,rfl,by decide +kernel,rfl,by decide +kernel,by decide +kernel⟩
theorem ok_54 (T:Tx K mg t):zbr P w K mg base CX0 8 t.a_54 t.d_54 ["stock","covers"] (zbR K 2 F_54):=by
 have G_17:=ok_17 (P:=P) (w:=w) (base:=base) T
 have G_27:=ok_27 (P:=P) (w:=w) (base:=base) T
 have G_26:=ok_26 (P:=P) (w:=w) (base:=base) T
 have G_31:=ok_31 (P:=P) (w:=w) (base:=base) T
 have G_32:=ok_32 (P:=P) (w:=w) (base:=base) T
 have G_39:=ok_39 (P:=P) (w:=w) (base:=base) T
 have G_52:=ok_52 (P:=P) (w:=w) (base:=base) T
 have G_40:=ok_40 (P:=P) (w:=w) (base:=base) T
 have G_51:=ok_51 (P:=P) (w:=w) (base:=base) T
 have G_38:=ok_38 (P:=P) (w:=w) (base:=base) T
 refine zaO (k:=7) (G:=G_54) (N:=["stock","covers","price","every","offer","things","each","top","bottom","bears","cover"]) (ps:=["stock","covers"]) (st:=s_54) T.F_54 sc_54 fun cdv A outer s H E hr=> ?_
 ext ax
 exact nd_54
 ext B
 exact G_17
 ext b
 exact T.m_17
 exact T.F_17.kp
 exact T.b_17
 ext ar
 refine zaj (k:=6) (g:=t.a_27) (fd:=t.d_27) (ps:=["stock"]) ?_ ?_ ?_ ?_ ?_ ?_
 exact G_27
 ext b
 exact T.m_27
 exact T.F_27.kp
 exact T.b_27
 ext an;ext as;ext c;ext I
 exact nd_54
 refine zg8 ?_
 ext av;ext aC;ext G;ext x
 exact G_26
 ext b
 exact T.m_26
 exact T.F_26.kp
 exact T.b_26
 ext aA;ext al;ext F;ext H
 exact zaq 4 nd_54
 ext H
 exact zaq 5 nd_54
 ext H
 exact zaq 6 nd_54
 exact zdq
 ext i;ext I
 exact nd_54
 ext au;ext y;ext d
 exact zq7
 refine zg8 ?_
 ext a
 exact zab 6
 ext h;ext k
 exact zaN
 exact zb6
 ext aa;ext a;ext ak;ext av
 refine ziD ?_ ?_
 refine zaj (k:=4) (g:=t.a_31) (fd:=t.d_31) (ps:=["many"]) ?_ ?_ ?_ ?_ ?_ ?_
 exact G_31
 ext b
 exact T.m_31
 exact T.F_31.kp
 exact T.b_31
 ext a
 refine zaB (id:="max") ?_ ?_ ?_ ?_
 exact (zf9 rfl)
 exact zl3
 exact T.n_max
 ext a
 refine zbM (N:=["things","cost"]) ?_ ?_ ?_ ?_ ?_ ?_ ?_
 ext F
 exact (BOk.of (Xn:=(zae s_54).names) (XN:=["stock","covers","price","every","offer","things","each","top","bottom","bears","cover"]) rfl rfl rfl (by decide +kernel))
 exact (zaW.tup (zdc.cons (i:=0) rfl (zdc.cons (i:=1) rfl zdc.nil)))
 ext G;ext aq
 intro _ _ _
 ext al;ext F;ext H
 exact zaq 0 zoQ
 ext H
 exact zaq 1 zoQ
 exact zdq
 intro _ _ _
 exact zcc
 intro _ _ _
 ext k
 exact zaN
 exact zb6
 ext aa;ext an;ext as;ext h;ext al;ext F;ext H
 exact zaq 7 nd_54
 ext H
 exact zaq 8 nd_54
 exact zdq
 ext c
 refine zaC 9 ?_ ?_
 exact nd_54
 refine zaj (k:=7) (g:=t.a_32) (fd:=t.d_32) (ps:=["stock"]) ?_ ?_ ?_ ?_ ?_ ?_
 exact G_32
 ext b
 exact T.m_32
 exact T.F_32.kp
 exact T.b_32
 ext an;ext av;ext w
 refine zcD ?_
 ext X;ext o
 exact (zhc (zf2 hr))
 refine zaj (k:=2) (g:=t.a_52) (fd:=t.d_52) (ps:=["some"]) ?_ ?_ ?_ ?_ ?_ ?_
 exact G_52
 ext b
 exact T.m_52
 exact T.F_52.kp
 exact T.b_52
 ext aD;ext h;ext K;ext aF;ext aw;ext h
 refine zd6 ?_
 ext o
 exact zkP
 ext Q
 exact G_39
 ext b
 exact T.m_39
 exact T.F_39.kp
 exact T.b_39
 ext ar
 exact zab 9
 ext h
 exact zjj
 ext ao
 exact zjj
 ext am;ext c;ext w;ext o
 exact (zhc (zf2 hr))
 refine zaj (k:=6) (g:=t.a_40) (fd:=t.d_40) (ps:=["stock","bearing"]) ?_ ?_ ?_ ?_ ?_ ?_
 exact G_40
 ext b
 exact T.m_40
 exact T.F_40.kp
 exact T.b_40
 ext ar
 exact zab 9
 ext h;ext R
 exact G_51
 ext b
 exact T.m_51
 exact T.F_51.kp
 exact T.b_51
 ext aI
 exact zbD
 ext v
 exact zab 8
 ext a
 exact zab 7
 ext aJ
 exact zjj
 ext am;ext c;ext aC;ext G;ext l
 exact zaq 10 nd_54
 ext i;ext w;ext o
 exact zel
 ext d
 exact zbD
 ext B
 exact G_17
 ext b
 exact T.m_17
 exact T.F_17.kp
 exact T.b_17
 ext ar
 exact zab 10
 ext h
 exact zab 7
 ext d
 exact zbD
 ext v
 exact zab 8
 ext ao
 exact zjj
 ext am;ext ao
 refine zwe ?_ ?_
 ext Z
 exact zfT
 exact zab 7
 exact zab 8
 refine zhi ?_
 ext Z;ext ab;ext v;ext B
 exact G_17
 ext b
 exact T.m_17
 exact T.F_17.kp
 exact T.b_17
 ext ar
 refine zaj (k:=5) (g:=t.a_38) (fd:=t.d_38) (ps:=["stock"]) ?_ ?_ ?_ ?_ ?_ ?_
 exact G_38
 ext b
 exact T.m_38
 exact T.F_38.kp
 exact T.b_38
 ext an;ext as
theorem sc_19:zap ["stock","offer"] ["stock","offer"] (zae s_19):=⟨rfl,rfl,rfl,by decide +kernel,rfl,by decide +kernel,by decide +kernel⟩
theorem ok_19 (T:Tx K mg t):zbr P w K mg base CX0 2 t.a_19 t.d_19 ["stock","offer"] (zbR K 2 F_19):=by
 have G_0:=ok_0 (P:=P) (w:=w) (base:=base) T
 refine zaO (k:=1) (G:=G_19) (N:=["stock","offer"]) (ps:=["stock","offer"]) (st:=s_19) T.F_19 sc_19 fun cdv A outer s H E hr=> ?_
 ext i;ext w
 refine zcD ?_
 ext X;ext aK;ext q
 exact G_0
 ext b
 exact T.m_0
 exact T.F_0.kp
 exact T.b_0
 ext aE;ext h;ext X;ext o
 exact zel
 ext aL
 refine zd6 ?_
 ext o
 exact zmK
 ext l;ext k
 exact zaN
 exact zb6
 ext aa;ext az;ext h;ext i
 exact zmp
 ext am
theorem sc_16:zap ["stock","lot"] ["stock","lot"] (zae s_16):=⟨rfl,rfl,rfl,by decide +kernel,rfl,by decide +kernel,by decide +kernel⟩
theorem ok_16 (T:Tx K mg t):zbr P w K mg base CX0 6 t.a_16 t.d_16 ["stock","lot"] (zbR K 2 F_16):=by
 have G_22:=ok_22 (P:=P) (w:=w) (base:=base) T
 have G_21:=ok_21 (P:=P) (w:=w) (base:=base) T
 refine zaO (k:=5) (G:=G_16) (N:=["stock","lot"]) (ps:=["stock","lot"]) (st:=s_16) T.F_16 sc_16 fun cdv A outer s H E hr=> ?_
 ext ao
 refine zaj (k:=1) (g:=t.a_22) (fd:=t.d_22) (ps:=["offers"]) ?_ ?_ ?_ ?_ ?_ ?_
 exact G_22
 ext b
 exact T.m_22
 exact T.F_22.kp
 exact T.b_22
 ext a;ext z
 exact G_21
 ext b
 exact T.m_21
 exact T.F_21.kp
 exact T.b_21
 ext ay;ext as
theorem sc_24:zap ["stock","offer","lot"] ["stock","offer","lot"] (zae s_24):=⟨rfl,rfl,rfl,by decide +kernel,rfl,by decide +kernel,by decide +kernel⟩
theorem ok_24 (T:Tx K mg t):zbr P w K mg base CX0 7 t.a_24 t.d_24 ["stock","offer","lot"] (zbR K 3 F_24):=by
 have G_19:=ok_19 (P:=P) (w:=w) (base:=base) T
 have G_29:=ok_29 (P:=P) (w:=w) (base:=base) T
 have G_16:=ok_16 (P:=P) (w:=w) (base:=base) T
 refine zaO (k:=6) (G:=G_24) (N:=["stock","offer","lot"]) (ps:=["stock","offer","lot"]) (st:=s_24) T.F_24 sc_24 fun cdv A outer s H E hr=> ?_
 ext c
 refine zfy ?_
 refine zaj (k:=2) (g:=t.a_19) (fd:=t.d_19) (ps:=["stock","offer"]) ?_ ?_ ?_ ?_ ?_ ?_
 exact G_19
 ext b
 exact T.m_19
 exact T.F_19.kp
 exact T.b_19
 ext ay;ext aJ;ext A
 exact G_29
 ext b
 exact T.m_29
 exact T.F_29.kp
 exact T.b_29
 ext a;ext e;ext aq;ext l;ext a;ext U
 exact G_16
 ext b
 exact T.m_16
 exact T.F_16.kp
 exact T.b_16
 ext ar;ext v;ext as
theorem sc_25:zap ["stock","lot"] ["stock","lot"] (zae s_25):=⟨rfl,rfl,rfl,by decide +kernel,rfl,by decide +kernel,by decide +kernel⟩
theorem ok_25 (T:Tx K mg t):zbr P w K mg base CX0 7 t.a_25 t.d_25 ["stock","lot"] (zbR K 2 F_25):=by
 have G_28:=ok_28 (P:=P) (w:=w) (base:=base) T
 have G_16:=ok_16 (P:=P) (w:=w) (base:=base) T
 refine zaO (k:=6) (G:=G_25) (N:=["stock","lot"]) (ps:=["stock","lot"]) (st:=s_25) T.F_25 sc_25 fun cdv A outer s H E hr=> ?_
 ext ao;ext T
 exact G_28
 ext b
 exact T.m_28
 exact T.F_28.kp
 exact T.b_28
 ext ar;ext U
 exact G_16
 ext b
 exact T.m_16
 exact T.F_16.kp
 exact T.b_16
 ext ay;ext as
theorem sc_34:zap ["stock","thing"] ["stock","thing"] (zae s_34):=⟨rfl,rfl,rfl,by decide +kernel,rfl,by decide +kernel,by decide +kernel⟩
theorem ok_34 (T:Tx K mg t):zbr P w K mg base CX0 6 t.a_34 t.d_34 ["stock","thing"] (zbR K 2 F_34):=by
 have G_23:=ok_23 (P:=P) (w:=w) (base:=base) T
 have G_21:=ok_21 (P:=P) (w:=w) (base:=base) T
 have G_14:=ok_14 (P:=P) (w:=w) (base:=base) T
 refine zaO (k:=5) (G:=G_34) (N:=["stock","thing"]) (ps:=["stock","thing"]) (st:=s_34) T.F_34 sc_34 fun cdv A outer s H E hr=> ?_
 ext ao
 refine zih ?_ ?_
 ext P
 exact G_14
 ext b
 exact T.m_14
 exact T.F_14.kp
 exact T.b_14
 ext ay;ext h
 refine zhi ?_
 ext M
 exact G_23
 ext b
 exact T.m_23
 exact T.F_23.kp
 exact T.b_23
 ext ar;ext z
 exact G_21
 ext b
 exact T.m_21
 exact T.F_21.kp
 exact T.b_21
 ext ay;ext as
theorem nd_53:(["stock","lot","ahead","offer","things","each"]:List Str).Nodup:=by decide +kernel
theorem sc_53:zap ["stock","lot","ahead","offer","things","each"] ["stock"] (zae s_53):=⟨rfl,rfl,rfl,by decide +kernel,rfl,by decide +kernel,by decide +kernel⟩
theorem ok_53 (T:Tx K mg t):zbr P w K mg base CX0 8 t.a_53 t.d_53 ["stock"] (zbR K 1 F_53):=by
 have G_26:=ok_26 (P:=P) (w:=w) (base:=base) T
 have G_24:=ok_24 (P:=P) (w:=w) (base:=base) T
 have G_25:=ok_25 (P:=P) (w:=w) (base:=base) T
 have G_34:=ok_34 (P:=P) (w:=w) (base:=base) T
 have G_27:=ok_27 (P:=P) (w:=w) (base:=base) T
 refine zaO (k:=7) (G:=G_53) (N:=["stock","lot","ahead","offer","things","each"]) (ps:=["stock"]) (st:=s_53) T.F_53 sc_53 fun cdv A outer s H E hr=> ?_
 ext c;ext W
 exact nd_53
 ext K;ext av;ext r
 exact nd_53
 ext K;ext aw;ext aw;ext av;ext aC;ext G;ext x
 exact G_26
 ext b
 exact T.m_26
 exact T.F_26.kp
 exact T.b_26
 ext aA;ext al;ext F;ext H
 exact zaq 3 nd_53
 ext H
 exact zaq 4 nd_53
 ext H
 exact zaq 5 nd_53
 exact zdq
 ext c;ext w
 refine zcD ?_
 ext X;ext o
 exact (zhc (zf2 hr))
 refine zaj (k:=7) (g:=t.a_25) (fd:=t.d_25) (ps:=["stock","lot"]) ?_ ?_ ?_ ?_ ?_ ?_
 exact G_25
 ext b
 exact T.m_25
 exact T.F_25.kp
 exact T.b_25
 ext ay;ext h;ext y
 refine zd6 ?_
 ext o
 exact (zhc (zf2 hr))
 refine zaj (k:=7) (g:=t.a_24) (fd:=t.d_24) (ps:=["stock","offer","lot"]) ?_ ?_ ?_ ?_ ?_ ?_
 exact G_24
 ext b
 exact T.m_24
 exact T.F_24.kp
 exact T.b_24
 ext ar;ext y;ext aE;ext h;ext ak;ext ao
 exact zjj
 ext am;ext c;ext w;ext o
 exact zel
 ext d
 exact zbD
 ext e;ext ak;ext j;ext e;ext aH;ext d
 exact zbD
 ext e;ext aH;ext e;ext ak;ext j;ext ao
 exact zjj
 ext am;ext ax
 exact nd_53
 ext ak;ext i;ext W
 exact nd_53
 ext s
 exact zaT
 exact zbj
 ext Y;ext a;ext L
 exact (zb3 rfl)
 exact zdo
 exact T.n_sorted
 ext a;ext au;ext l;ext K;ext aD;ext as;ext aJ
 refine zih ?_ ?_
 ext Z;ext ab;ext l
 refine zaj (k:=6) (g:=t.a_27) (fd:=t.d_27) (ps:=["stock"]) ?_ ?_ ?_ ?_ ?_ ?_
 exact G_27
 ext b
 exact T.m_27
 exact T.F_27.kp
 exact T.b_27
 ext aA
 refine zhi ?_
 ext Z
 exact zs8
 refine zaj (k:=6) (g:=t.a_34) (fd:=t.d_34) (ps:=["stock","thing"]) ?_ ?_ ?_ ?_ ?_ ?_
 exact G_34
 ext b
 exact T.m_34
 exact T.F_34.kp
 exact T.b_34
 ext ay;ext h
 exact zjj
theorem nd_55:(["script","k","box","stock","covers"]:List Str).Nodup:=by decide +kernel
theorem ztw:(["turn","box","stock"]:List Str).Nodup:=by decide +kernel
theorem sc_55:zap ["script","k","box","stock","covers"] ["script"] (zae s_55):=⟨rfl,rfl,rfl,by decide +kernel,rfl,by decide +kernel,by decide +kernel⟩
theorem ok_55 (T:Tx K mg t):zbr P w K mg base CX0 9 t.a_55 t.d_55 ["script"] (zbR K 1 F_55):=by
 have G_45:=ok_45 (P:=P) (w:=w) (base:=base) T
 have G_48:=ok_48 (P:=P) (w:=w) (base:=base) T
 have G_50:=ok_50 (P:=P) (w:=w) (base:=base) T
 have G_38:=ok_38 (P:=P) (w:=w) (base:=base) T
 have G_54:=ok_54 (P:=P) (w:=w) (base:=base) T
 have G_53:=ok_53 (P:=P) (w:=w) (base:=base) T
 refine zaO (k:=8) (G:=G_55) (N:=["script","k","box","stock","covers"]) (ps:=["script"]) (st:=s_55) T.F_55 sc_55 fun cdv A outer s H E hr=> ?_
 ext c;ext aC;ext ai;ext ac;ext a
 refine zaB (id:="max") ?_ ?_ ?_ ?_
 exact (zkn rfl)
 exact zl3
 exact T.n_max
 ext aw;ext a
 refine zaB (id:="min") ?_ ?_ ?_ ?_
 exact (zjW rfl)
 exact zoY
 exact T.n_min
 ext a;ext k
 exact zaN
 exact zb6
 ext aa;ext aA;ext aw;ext as;ext h
 exact zaq 1 nd_55
 ext ax
 exact nd_55
 refine zaj (k:=2) (g:=t.a_45) (fd:=t.d_45) (ps:=["script","k"]) ?_ ?_ ?_ ?_ ?_ ?_
 exact G_45
 ext b
 exact T.m_45
 exact T.F_45.kp
 exact T.b_45
 ext ay;ext av;ext I
 exact nd_55
 refine zaj (k:=3) (g:=t.a_48) (fd:=t.d_48) (ps:=["box","most","lots"]) ?_ ?_ ?_ ?_ ?_ ?_
 exact G_48
 ext b
 exact T.m_48
 exact T.F_48.kp
 exact T.b_48
 ext aF;ext aw;ext aw;ext av;ext aj
 exact nd_55
 ext au
 refine zbM (N:=["turn","box","stock"]) ?_ ?_ ?_ ?_ ?_ ?_ ?_
 ext F
 exact (BOk.of (Xn:=(zae s_55).names) (XN:=["script","k","box","stock","covers"]) rfl rfl rfl (by decide +kernel))
 ext n;ext ai;ext ac;ext aw;ext h
 intro _ _ _
 exact zaq 0 ztw
 intro _ _ _
 exact zcc
 intro _ _ _
 refine zaj (k:=2) (g:=t.a_50) (fd:=t.d_50) (ps:=["box","stock"]) ?_ ?_ ?_ ?_ ?_ ?_
 exact G_50
 ext b
 exact T.m_50
 exact T.F_50.kp
 exact T.b_50
 ext aE;ext aF;ext h
 refine zg8 ?_
 ext a
 refine zaj (k:=5) (g:=t.a_38) (fd:=t.d_38) (ps:=["stock"]) ?_ ?_ ?_ ?_ ?_ ?_
 exact G_38
 ext b
 exact T.m_38
 exact T.F_38.kp
 exact T.b_38
 ext aD;ext as;ext i;ext w
 refine zcD ?_
 ext X;ext aK
 refine zaj (k:=8) (g:=t.a_53) (fd:=t.d_53) (ps:=["stock"]) ?_ ?_ ?_ ?_ ?_ ?_
 exact G_53
 ext b
 exact T.m_53
 exact T.F_53.kp
 exact T.b_53
 ext aD;ext h
 refine zd6 ?_
 ext aK
 refine zaj (k:=8) (g:=t.a_54) (fd:=t.d_54) (ps:=["stock","covers"]) ?_ ?_ ?_ ?_ ?_ ?_
 exact G_54
 ext b
 exact T.m_54
 exact T.F_54.kp
 exact T.b_54
 ext aD;ext a
 exact zab 4
 ext aJ
 exact zjj
 ext am;ext ao
 exact zjj
end
end K24
set_option exponentiation.threshold 8000
namespace L3
open PySem PySem.Spec PyProof.Rows L2 LT
section
theorem zdv {n:Nat} {tc:FT} {gb:FS} {sd:Sd}:zbP tc gb (n+1) sd=(do let b<-tc sd;if b=true then (do let o<-gb sd;match o with | .nx sd'=>zbP tc gb n sd' | .ct sd'=>zbP tc gb n sd' | .bk sd'=>pure (.nx sd') | .rt d=>pure (.rt d)) else pure (.nx sd)):=rfl
theorem zcg {k:Int} {xs:List Int}:xs.any (· == k)=true↔k∈xs:=by
 rw [List.any_eq_true]
 constructor
 ·rintro ⟨x,hx,e⟩
  rw [beq_iff_eq] at e
  exact e▸hx
 ·intro h
  exact ⟨k,h,by simp⟩
theorem zdm {α β:Type} {p:α->Bool} {g:α->β}: ∀ xs:List α,xs.filterMap (fun x=>if p x=true then some (g x) else none)=(xs.filter p).map g
 | []=>rfl
 | x::r=>by
  rw [qat,List.filter_cons,zdm r]
  cases p x<;>simp
theorem zb8 {α:Type} {g':α->D} {fi:FA} {g:D->Sd->M Sd} {tc:FT} {te:FE} {src:List (Option Nat)} {sd:Sd} {xs:List α} {k:α->Option D} (hi:fi sd=pure (xs.map g')) (hl:xs.length<=1000) (hf: ∀ x∈xs,zbn g tc te (zaw src sd) (g' x)=pure (k x)):zaJ fi g tc te src sd=pure (.lst (xs.filterMap k)):=by
 unfold zaJ
 rw [hi]
 simp only [pure_bind]
 rw [zaA (by rw [qaH];exact hl)]
 simp only [pure_bind]
 have: ∀ {ys:List α},(∀ x∈ys,zbn g tc te (zaw src sd) (g' x)=pure (k x))->zbS (zbn g tc te (zaw src sd)) (ys.map g')=pure (ys.filterMap k):=by
  intro ys
  induction ys with
  | nil=>intro _;rfl
  | cons x r ih=>
   intro hf
   rw [qaM,zbS,hf x qau,ih fun y hy=>hf y (qan _ hy)]
   simp only [pure_bind]
   cases e:k x<;>simp [qat,e]
 rw [this hf]
 simp only [pure_bind]
theorem zrR {x y:D} {a b:PyData} (e1:pd x=some a) (e2:pd y=some b) (h:zjx a b=true):dNe x y=pure (.bl (!PyData.eqv a b)):=by
 show zm0 true x y=_
 unfold zm0
 rw [e1,e2]
 simp only [h,if_true]
theorem zr7 (xs ys:List Int):dNe (tI xs) (tI ys)=pure (.bl (!(xs==ys))):=by
 rw [zrR (zm2 xs) (zm2 ys) (by unfold zjx;simp [PyData.canLay0,zbe,PyData.depth,zbH])]
 simp only [PyData.eqv,zgU]
theorem zsf {i j:Nat} {f g:FE} {sd:Sd}:zry i j (zad f (zad g zat)) sd=(do let x<-f sd;let y<-g sd;pure (.nx ((sd.set i (some x)).set j (some y)))):=by
 unfold zry
 simp only [zaM,za6,bind_assoc,pure_bind]
noncomputable def bb:Nat:=2^7000
theorem zku {n:Nat} (h:n<=7000):2^n<=bb:=Nat.pow_le_pow_right (by decide) h
theorem zd7 {i:Int} {k:Nat} (h0:0<k) (h1:k<=bb):zfC (.int i) (.int (k:Int))=pure (.int (i / (k:Int))):=by
 have hb:bb<2^8000:=Nat.pow_lt_pow_right (by decide) (by decide)
 have h2:((k:Int):Int)<2^8000:=by
  have:((k:Nat):Int)<((2^8000:Nat):Int):=Int.ofNat_lt.mpr (Nat.lt_of_le_of_lt h1 hb)
  rw [Int.natCast_pow] at this
  exact this
 unfold zfC dII
 simp only
 rw [qa4]
 rw [qaG,qaD,qaD]
 exact ⟨by omega,h2⟩
theorem euc {a b n:Nat} (hb:b≠0) (hab:b<=a) (h:a*b<2^(n+1)):b*(a % b)<2^n:=by
 have hp:0<b:=Nat.pos_of_ne_zero hb
 have h1:=Nat.div_add_mod a b
 have h2:1<=a / b:=(Nat.one_le_div_iff hp).mpr hab
 have h3:=Nat.mod_lt a hp
 have h4:b+a % b<=a:=by
  have:b*1<=b*(a / b):=Nat.mul_le_mul_left b h2
  omega
 have h5:(b+a % b)*b<=a*b:=Nat.mul_le_mul_right b h4
 have h6:b*(a % b)+b*(a % b)<=(b+a % b)*b:=by
  rw [Nat.add_mul,Nat.mul_comm (a % b) b]
  have:b*(a % b)<=b*b:=Nat.mul_le_mul_left b (Nat.le_of_lt h3)
  omega
 rw [Nat.pow_succ] at h
 omega
noncomputable def qD (r:Rat):D:= .tup [.int r.num,.int (r.den:Int)]
theorem zpN (a:Int) {b:Nat} (hb:0<b):Nat.gcd b (a % (b:Int)).toNat=Nat.gcd a.natAbs b:=by
 have h0:0<=a % (b:Int):=Int.emod_nonneg _ (by omega)
 have e:(((a % (b:Int)).toNat:Nat):Int)=a % (b:Int):=Int.toNat_of_nonneg h0
 have key: ∀ d:Nat,(d ∣ b/\d ∣ (a % (b:Int)).toNat)↔(d ∣ a.natAbs/\d ∣ b):=fun d=>by
  rw [<- Int.natCast_dvd_natCast (m:=d) (n:=(a % (b:Int)).toNat),e, <-Int.natCast_dvd_natCast (m:=d) (n:=b), <-Int.ofNat_dvd_left (n:=d) (z:=a)]
  constructor
  ·rintro ⟨h1,h2⟩
   refine ⟨?_,h1⟩
   have:=Int.dvd_add (Int.dvd_mul_of_dvd_left (c:=a / (b:Int)) h1) h2
   rwa [Int.mul_ediv_add_emod] at this
  ·rintro ⟨h1,h2⟩
   refine ⟨h2,?_⟩
   rw [Int.emod_def]
   exact Int.dvd_sub h1 (Int.dvd_mul_of_dvd_left h2)
 refine Nat.dvd_antisymm (Nat.dvd_gcd ((key _).mp ⟨Nat.gcd_dvd_left _ _,Nat.gcd_dvd_right _ _⟩).1 (Nat.gcd_dvd_left _ _)) (Nat.dvd_gcd (Nat.gcd_dvd_right _ _) ((key _).mpr ⟨Nat.gcd_dvd_left _ _,Nat.gcd_dvd_right _ _⟩).2)
end
section
noncomputable def pF:D->Bool
 | .tup [.int a,.int b]=>decide (0<b) && (Nat.gcd a.natAbs b.toNat==1)
 | _=>false
noncomputable def pS:D->Bool
 | .tup [.int a,.int b]=>decide (0<b) && (Nat.gcd a.natAbs b.toNat==1) && decide (0<=a)
 | _=>false
def sv (d:D):Prop:=kn d=true/\ ∀ ds,d= .tup ds->(∀ x∈ds,kn x=true)/\ ∀ a b:Int,ds=[.int a,.int b]->b.toNat<bb
theorem zwj (r:Rat):pF (qD r)=true:=by
 unfold qD pF
 have:=r.den_pos
 rw [qaG,qaD,beq_iff_eq,qaB]
 exact ⟨by omega,r.reduced⟩
end
section
theorem zgy {i j:Int} (h:(za8 i || za8 j || zj2 i j)=true):zcQ (.int i) (.int j)=pure (.int (i*j)):=by
 show (if (za8 i || za8 j || zj2 i j)=true then _ else _)=_
 rw [qa4 h]
theorem zlf {x:Int} {n:Nat} (h:x.natAbs<2^n):Builtin.Int.intBits x<=n:=by
 unfold Builtin.Int.intBits
 split
 ·exact Nat.zero_le _
 ·rename_i c
  have h0:x.natAbs≠0:=fun z=>c (by simp;omega)
  exact (Nat.log2_lt h0).mpr h
theorem zmZ {a b:Int} (ha:a.natAbs<2^6000) (hb:b.natAbs<2^6000):zcQ (.int a) (.int b)=pure (.int (a*b)):=by
 refine zgy ?_
 have h1:=zlf ha
 have h2:=zlf hb
 rw [Bool.or_eq_true]
 right
 unfold zj2
 rw [qaD]
 have:(2:Nat)^26=67108864:=by decide
 omega
noncomputable def tt:Nat:=2^1800
noncomputable def pD (p:Int×Nat):D:= .tup [.int p.1,.int (p.2:Int)]
noncomputable def rq (p:Int×Nat):Rat:=mkRat p.1 p.2
noncomputable def nd (r:Rat):Int×Nat:=(r.num,r.den)
noncomputable def dpp (ps:List (Int×Nat)):Nat:=ps.foldr (fun p n=>p.2*n) 1
noncomputable def dp (rs:List Rat):Nat:=rs.foldr (fun r n=>r.den*n) 1
theorem zge: ∀ ps:List (Int×Nat),(∀ p∈ps,0<p.2)->0<dpp ps
 | [],_=>by decide
 | p::ps,h=>Nat.mul_pos (h p qau) (zge ps fun q hq=>h q (qan _ hq))
theorem zo1: ∀ rs:List Rat,dpp (rs.map nd)=dp rs
 | []=>rfl
 | r::rs=>by
  show r.den*dpp (rs.map nd)=r.den*dp rs
  rw [zo1 rs]
theorem zrc (rs:List Rat):(rs.map nd).map rq=rs:=by
 rw [qaT]
 conv=>rhs;rw [<- List.map_id rs]
 exact List.map_congr_left fun r _=>Rat.mkRat_self r
theorem ztr (rs:List Rat):(rs.map nd).map pD=rs.map qD:=by
 rw [qaT]
 rfl
theorem zhH (a:Int) {b:Nat} (hb:0<b):(mkRat a b).num.natAbs<=a.natAbs:=by
 rw [Rat.num_mkRat,qa5 (by omega)]
 exact Int.natAbs_ediv_le_natAbs _ _
theorem ze3 (a:Int) {b:Nat} (hb:0<b):(mkRat a b).den<=b:=by
 rw [Rat.den_mkRat,qa5 (by omega)]
 exact Nat.div_le_self _ _
theorem ziM {a b x y:Nat} (ha:a<=2^x) (hb:b<=2^y):a*b<=2^(x+y):=by
 rw [Nat.pow_add]
 exact Nat.mul_le_mul ha hb
structure Sz (A:Int) (B k:Nat) (rs:List (Int×Nat)):Prop where
 b0:0<B
 b1:B*dpp rs<=2^2000
 a1:A.natAbs<=k*(tt*B)
 k1:k+rs.length<=14
 r1: ∀ r∈rs,r.1.natAbs<=tt
 p0: ∀ r∈rs,0<r.2
theorem Sz.B_le {A:Int} {B k:Nat} {rs:List (Int×Nat)} (z:Sz A B k rs):B<=2^2000:=by
 have h:=z.b1
 have h1:B*1<=B*dpp rs:=Nat.mul_le_mul_left B (zge rs z.p0)
 omega
theorem Sz.A_le {A:Int} {B k:Nat} {rs:List (Int×Nat)} (z:Sz A B k rs):A.natAbs<=2^3804:=by
 have hB:=z.B_le
 have hk:k<=2^4:=by
  have:=z.k1
  have:(2:Nat)^4=16:=by decide
  omega
 have h1:tt*B<=2^(1800+2000):=ziM (qaV _) hB
 have h2:k*(tt*B)<=2^(4+(1800+2000)):=ziM hk h1
 exact qaS z.a1 h2
theorem Sz.d_le {A:Int} {B k:Nat} {r:Int×Nat} {rs:List (Int×Nat)} (z:Sz A B k (r::rs)):B*r.2<=2^2000/\r.2<=2^2000:=by
 have h:=z.b1
 have h0:=z.b0
 have e:B*dpp (r::rs)=B*r.2*dpp rs:=by
  show B*(r.2*dpp rs)=_
  rw [Nat.mul_assoc]
 rw [e] at h
 have h1:B*r.2*1<=B*r.2*dpp rs:=Nat.mul_le_mul_left _ (zge rs fun q hq=>z.p0 q (qan _ hq))
 have h2:1*r.2<=B*r.2:=Nat.mul_le_mul_right _ h0
 omega
theorem Sz.next {A:Int} {B k:Nat} {r:Int×Nat} {rs:List (Int×Nat)} (z:Sz A B k (r::rs)):Sz (A*(r.2:Int)+r.1*(B:Int)) (B*r.2) (k+1) rs where
 b0:=Nat.mul_pos z.b0 (z.p0 r qau)
 b1:=by
  have h:=z.b1
  have e:B*dpp (r::rs)=B*r.2*dpp rs:=by
   show B*(r.2*dpp rs)=_
   rw [Nat.mul_assoc]
  rw [<- e]
  exact h
 a1:=by
  have h1:=Int.natAbs_add_le (A*(r.2:Int)) (r.1*(B:Int))
  rw [Int.natAbs_mul,Int.natAbs_mul,Int.natAbs_natCast,Int.natAbs_natCast] at h1
  have h2:A.natAbs*r.2<=k*(tt*B)*r.2:=Nat.mul_le_mul_right _ z.a1
  have h3:r.1.natAbs*B<=tt*B:=Nat.mul_le_mul_right _ (z.r1 r qau)
  have h4:tt*B*1<=tt*B*r.2:=Nat.mul_le_mul_left _ (z.p0 r qau)
  have e1:k*(tt*B)*r.2=k*(tt*(B*r.2)):=by rw [Nat.mul_assoc,Nat.mul_assoc]
  have e2:(k+1)*(tt*(B*r.2))=k*(tt*(B*r.2))+tt*(B*r.2):=by rw [Nat.add_mul,Nat.one_mul]
  have e3:tt*B*r.2=tt*(B*r.2):=Nat.mul_assoc _ _ _
  omega
 k1:=by
  have:=z.k1
  rw [qaE] at this
  omega
 r1:=fun x hx=>z.r1 x (qan _ hx)
 p0:=fun x hx=>z.p0 x (qan _ hx)
theorem zaY {n:Nat} (h:n<6000) {a:Nat} (ha:a<=2^n):a<2^6000:=Nat.lt_of_le_of_lt ha (Nat.pow_lt_pow_right (by decide) h)
theorem zdH {A:Int} {B:Nat} (h0:0<B) {p:Int×Nat} (hp:0<p.2):mkRat A B+rq p=mkRat (A*(p.2:Int)+p.1*(B:Int)) (B*p.2):=by
 exact Rat.mkRat_add_mkRat A p.1 (d₁:=B) (d₂:=p.2) (by omega) (by omega)
end
section
theorem zse {d:D} (h:pF d=true): ∃ a b:Int,d= .tup [.int a,.int b]:=by
 unfold pF at h
 split at h
 ·exact ⟨_,_,rfl⟩
 ·cases h
theorem zvh {d:D} (h:pF d=false):pS d=false:=by
 unfold pS
 split
 ·rename_i a b
  have h:(decide (0<b) && (Nat.gcd a.natAbs b.toNat==1))=false:=h
  rw [h]
  rfl
 ·rfl
theorem zsY {a b:Int} (h:pF (.tup [.int a,.int b])=true):pS (.tup [.int a,.int b])=decide (0<=a):=by
 have h:(decide (0<b) && (Nat.gcd a.natAbs b.toNat==1))=true:=h
 show (decide (0<b) && (Nat.gcd a.natAbs b.toNat==1) && decide (0<=a))=_
 rw [h,Bool.true_and]
end
section
theorem zfx {α:Type} {g':α->D} {f:D->M (Option D)} {k:α->Option D}: ∀ {xs:List α},(∀ x∈xs,f (g' x)=pure (k x))->zbS f (xs.map g')=pure (xs.filterMap k)
 | [],_=>rfl
 | x::r,hf=>by
  rw [qaM,zbS,hf x qau,zfx fun y hy=>hf y (qan _ hy)]
  simp only [pure_bind]
  cases e:k x<;>simp [qat,e]
theorem zmQ (k:Int) (xs:List Int):dIn (.int k) (.lst (xs.map D.int))=pure (.bl (xs.any (· == k))):=by
 show zmX false (.int k) (.lst (xs.map D.int))=_
 unfold zmX
 simp only [pd]
 rw [zc9]
 have c:zgw (.int k) (xs.map PyData.int)=true:=by
  unfold zgw
  simp [PyData.canLay0,zbe,PyData.depth,zbH]
 simp only [c,if_true,zdJ]
 rfl
theorem ziV {n:Nat} (h:n<=16000000):fits n=pure ():=by
 unfold fits
 rw [qa4 (qaS h (by decide))]
theorem zky {α:Type} {g':α->D} {fi:FA} {g:D->Sd->M Sd} {tc:FT} {te:FE} {src:List (Option Nat)} {sd:Sd} {xs:List α} {k:α->Option D} (hi:fi sd=pure (xs.map g')) (hl:xs.length<=16000000) (hf: ∀ x∈xs,zbn g tc te (zaw src sd) (g' x)=pure (k x)):zaJ fi g tc te src sd=pure (.lst (xs.filterMap k)):=by
 unfold zaJ
 rw [hi,pure_bind,ziV (by rw [qaH];exact hl),pure_bind,zfx hf]
 rfl
theorem zhG: ∀ {xs ys zs:List Int},HT.zc5 xs ys=true->HT.zc5 ys zs=true->HT.zc5 xs zs=true
 | [],[],_,h,_=>by cases h
 | [],_::_,[],_,h=>by cases h
 | [],_::_,_::_,_,_=>rfl
 | _::_,[],_,h,_=>by cases h
 | _::_,_::_,[],_,h=>by cases h
 | x::xs,y::ys,z::zs,h1,h2=>by
  rw [HT.zeB] at h1 h2 ⊢
  split at h1
  ·split at h2
   ·rw [qa4 (by omega)]
    exact zhG h1 h2
   ·simp at h2
    rw [qa5 (by omega)]
    simp
    omega
  ·simp at h1
   split at h2
   ·rw [qa5 (by omega)]
    simp
    omega
   ·simp at h2
    rw [qa5 (by omega)]
    simp
    omega
theorem zmd {p q r:Int×List Int} (h1:pLt p q=true) (h2:pLt q r=true):pLt p r=true:=by
 unfold pLt at*
 split at h1
 ·split at h2
  ·rw [qa4 (by omega)]
   exact zhG h1 h2
  ·simp at h2
   rw [qa5 (by omega)]
   simp
   omega
 ·simp at h1
  split at h2
  ·rw [qa5 (by omega)]
   simp
   omega
  ·simp at h2
   rw [qa5 (by omega)]
   simp
   omega
theorem zk7 (f:Nat->Int×List Int): ∀ k,argBest (fun i j=>pLt (f i) (f j)) k<=k/\ ∀ i,i<=k->pLt (f i) (f (argBest (fun i j=>pLt (f i) (f j)) k))=false
 | 0=>⟨qaV _,fun i hi=>by
   have:i=0:=by omega
   subst this
   show pLt (f 0) (f 0)=false
   unfold pLt
   rw [qa4 rfl,zeX]⟩
 | k+1=>by
  obtain ⟨h1,h2⟩:=zk7 f k
  unfold argBest
  by_cases c:pLt (f (k+1)) (f (argBest (fun i j=>pLt (f i) (f j)) k))=true
  ·rw [qa4 c]
   refine ⟨qaV _,fun i hi=> ?_⟩
   by_cases e:i=k+1
   ·subst e
    unfold pLt
    rw [qa4 rfl,zeX]
   ·have h3:=h2 i (by omega)
    cases h4:pLt (f i) (f (k+1)) with
    | false=>rfl
    | true=>rw [zmd h4 c] at h3;cases h3
  ·rw [qa5 c]
   refine ⟨by omega,fun i hi=> ?_⟩
   by_cases e:i=k+1
   ·subst e
    simpa using c
   ·exact h2 i (by omega)
theorem zg2 {ps:List (Int×List Int)} (h:ps≠[]):zed ps<ps.length/\ ∀ q∈ps,pLt q (ps.getD (zed ps) (0,[]))=false:=by
 have hl:=List.length_pos_iff.mpr h
 obtain ⟨h1,h2⟩:=zk7 (fun i=>ps.getD i (0,[])) (ps.length - 1)
 refine ⟨Nat.lt_of_le_of_lt h1 (by omega),fun q hq=> ?_⟩
 obtain ⟨i,hi,rfl⟩:=List.getElem_of_mem hq
 have h3:=h2 i (by omega)
 have e:ps.getD i (0,[])=ps[i]:=by simp [List.getD,hi]
 rw [<- e]
 exact h3
noncomputable def pD2 (p:Int×List Int):D:= .tup [.int p.1,tI p.2]
theorem zhP: ∀ ps:List (Int×List Int),zeb (ps.map pD2)=some ps
 | []=>rfl
 | p::r=>by
  rw [qaM,zeb,zhP r]
  simp only [pD2,tI,zhg,zbp,Option.map,Option.bind]
theorem zlW {ps:List (Int×List Int)} (h:ps≠[]):zqq [.lst (ps.map pD2)]=pure (pD2 (ps.getD (zed ps) (0,[]))):=by
 have hb:=(zg2 h).1
 have e:(ps.map pD2)[zed ps]? = some (pD2 (ps.getD (zed ps) (0,[]))):=by simp [List.getD,hb]
 show (do let ps'<-ofO (zeb (ps.map pD2));ofO ((ps.map pD2)[zed ps']?):M D)=_
 rw [zhP]
 show (ofO ((ps.map pD2)[zed ps]?):M D)=_
 rw [e]
 rfl
theorem zsD (a b:Nat):Builtin.bitOr (a:Int) (b:Int)=((a ||| b:Nat):Int):=by
 unfold Builtin.bitOr Builtin.bitAnd Builtin.bitNot
 have h1:decide (0<= -(a:Int) - 1)=false:=by simp;omega
 have h2:decide (0<= -(b:Int) - 1)=false:=by simp;omega
 rw [h1,h2]
 simp only
 have e1:(-(-(a:Int) - 1) - 1).toNat=a:=by omega
 have e2:(-(-(b:Int) - 1) - 1).toNat=b:=by omega
 rw [e1,e2]
 omega
noncomputable def bv (p:Nat->Bool):Nat->Nat
 | 0=>0
 | n+1=>bv p n*2+(if p n=true then 1 else 0)
theorem zrW (p q:Nat->Bool): ∀ n,bv p n ||| bv q n=bv (fun i=>p i || q i) n
 | 0=>by
  unfold bv
  rfl
 | n+1=>by
  have ih:=zrW p q n
  unfold bv
  rw [<- ih]
  refine Nat.eq_of_testBit_eq fun i=> ?_
  cases i with
  | zero=>
   rw [Nat.testBit_or]
   simp only [Nat.testBit_zero]
   cases p n<;>cases q n<;>simp<;>omega
  | succ i=>
   rw [Nat.testBit_or]
   simp only [Nat.testBit_add_one]
   have e: ∀ (a:Nat) (c:Bool),(a*2+(if c=true then 1 else 0)) / 2=a:=fun a c=>by cases c<;>simp<;>omega
   rw [e,e,e,Nat.testBit_or]
theorem zkH (p:Nat->Bool): ∀ n,bv p n=bv (fun _=>true) n↔ ∀ i,i<n->p i=true
 | 0=>⟨fun _ i h=>by omega,fun _=>rfl⟩
 | n+1=>by
  have ih:=zkH p n
  unfold bv
  constructor
  ·intro h i hi
   cases hp:p n with
   | false=>rw [hp] at h;simp at h;omega
   | true=>
    rw [hp] at h
    simp at h
    by_cases e:i=n
    ·rw [e];exact hp
    ·exact ih.mp (by omega) i (by omega)
  ·intro h
   rw [h n (by omega),ih.mpr fun i hi=>h i (by omega)]
theorem zi9 {p q:Nat->Bool}: ∀ {n},(∀ i,i<n->p i=q i)->bv p n=bv q n
 | 0,_=>rfl
 | n+1,h=>by
  unfold bv
  rw [h n (by omega),zi9 fun i hi=>h i (by omega)]
theorem znS (j:Int) (r:Nat):zdi j (r+1)= .int j::zdi (j+1) r:=by
 unfold zdi
 rw [List.range_succ_eq_map,qaM,qaT]
 congr 1
 ·simp
 ·refine List.map_congr_left fun k _=> ?_
  simp
  omega
theorem znp (lo:Int) (k:Nat):zkd lo (k+1)= .int lo::zkd (lo - 1) k:=by
 unfold zkd
 rw [List.range_succ_eq_map,qaM,qaT]
 congr 1
 ·simp
 ·refine List.map_congr_left fun j _=> ?_
  simp
  omega
noncomputable def kl (n:Nat):Nat->List (List Int)
 | 0=>[[]]
 | r+1=>(kl n r).take 1++(kl n r).map (fun ls=>((n - (r+1):Nat):Int)::ls)++(kl n r).drop 1
theorem zhO (n:Nat): ∀ (r:Nat) (x:List Int),r<=n->(x∈kl n r↔x.Pairwise (· < ·)/\ ∀ y∈x,((n - r:Nat):Int)<=y/\y<(n:Int))
 | 0,x,_=>by
  unfold kl
  rw [List.mem_singleton]
  constructor
  ·rintro rfl
   exact ⟨.nil,fun y hy=>by cases hy⟩
  ·rintro ⟨_,h⟩
   cases x with
   | nil=>rfl
   | cons y r=>have:=h y qau;omega
 | r+1,x,hr=>by
  have ih:=fun y=>zhO n r y (by omega)
  have e:x∈kl n (r+1)↔x∈kl n r\/ ∃ y∈kl n r,((n - (r+1):Nat):Int)::y=x:=by
   have h0:x∈kl n r↔x∈(kl n r).take 1++(kl n r).drop 1:=by rw [List.take_append_drop]
   have h1:x∈kl n (r+1)↔x∈(kl n r).take 1++(kl n r).map (fun ls=>((n - (r+1):Nat):Int)::ls)++(kl n r).drop 1:=Iff.rfl
   rw [h0,h1]
   simp only [qaK,qaU]
   constructor
   ·rintro ((h | h) | h)
    ·exact .inl (.inl h)
    ·exact .inr h
    ·exact .inl (.inr h)
   ·rintro ((h | h) | h)
    ·exact .inl (.inl h)
    ·exact .inr h
    ·exact .inl (.inr h)
  rw [e,ih x]
  constructor
  ·rintro (⟨h1,h2⟩ | ⟨y,hy,rfl⟩)
   ·exact ⟨h1,fun y hy=>by have:=h2 y hy;omega⟩
   ·obtain ⟨g1,g2⟩:=(ih y).mp hy
    refine ⟨qay.mpr ⟨fun a ha=> ?_,g1⟩,fun z hz=> ?_⟩
    ·have:=g2 a ha
     omega
    ·rcases qaP.mp hz with rfl | hz
     ·omega
     ·have:=g2 z hz
      omega
  ·rintro ⟨h1,h2⟩
   cases x with
   | nil=>exact .inl ⟨.nil,fun y hy=>by cases hy⟩
   | cons y ys=>
    rw [qay] at h1
    have hy:=h2 y qau
    by_cases c:y=((n - (r+1):Nat):Int)
    ·refine .inr ⟨ys,(ih ys).mpr ⟨h1.2,fun z hz=> ?_⟩,by rw [c]⟩
     have h3:=h1.1 z hz
     have h4:=h2 z (qan _ hz)
     omega
    ·refine .inl ⟨qay.mpr h1,fun z hz=> ?_⟩
     have h4:=h2 z hz
     rcases qaP.mp hz with rfl | hz
     ·omega
     ·have h3:=h1.1 z hz
      omega
theorem ziT (n:Nat): ∀ r,(kl n r).length=2^r
 | 0=>rfl
 | r+1=>by
  unfold kl
  rw [qav,qav,qaH,List.length_take,List.length_drop,ziT n r,Nat.pow_succ]
  have:=Nat.two_pow_pos r
  omega
noncomputable def pr (os:List (List Int×Int)) (ls:List Int):Int:=(ls.map fun i=>(os.getD i.toNat ([],0)).2).sum
noncomputable def zpl (os:List (List Int×Int)) (ls:List Int) (t:Nat):Bool:=ls.any fun i=>(os.getD i.toNat ([],0)).1.any (· == (t:Int))
noncomputable def cvB (m:Int) (os:List (List Int×Int)) (ls:List Int):Bool:=bv (zpl os ls) m.toNat==bv (fun _=>true) m.toNat
theorem zeo {m:Int} {os:List (List Int×Int)} {ls:List Int}:cvB m os ls=true↔ ∀ t:Int,0<=t->t<m-> ∃ i∈ls,t∈(os.getD i.toNat ([],0)).1:=by
 unfold cvB
 rw [beq_iff_eq,zkH]
 have key: ∀ t:Nat,zpl os ls t=true↔ ∃ i∈ls,(t:Int)∈(os.getD i.toNat ([],0)).1:=fun t=>by
  unfold zpl
  simp [List.any_eq_true]
 constructor
 ·intro h t t0 t1
  have:=(key t.toNat).mp (h t.toNat (by omega))
  rw [Int.toNat_of_nonneg t0] at this
  exact this
 ·intro h i hi
  exact (key i).mpr (h i (by omega) (by omega))
noncomputable def trD (m:Int) (os:List (List Int×Int)) (ls:List Int):D:= .tup [.int (pr os ls),tI ls,.int (bv (zpl os ls) m.toNat)]
theorem zkU {p:Nat->Bool} (h: ∀ i,p i=false): ∀ n,bv p n=0
 | 0=>rfl
 | n+1=>by
  unfold bv
  rw [zkU h n,h n]
  rfl
theorem znw (a b:Nat):((a:Int)==(b:Int))=(a==b):=by
 rw [Bool.eq_iff_iff,beq_iff_eq,beq_iff_eq]
 omega
end
section
theorem ztQ {fo fe:FE} {sd:Sd}:zvG fo fe sd=(do let x<-fo sd;zdn x;let y<-fe sd;zfv x y):=rfl
theorem zrI {c:Nat} {h:Hh} {ds:List D} {i:Int} {d:D} {P:D->Hh->Prop} (e:h[c]? = some (.lst ds)) (i0:0<=i) (i1:i<1000) (ed:ds[i.toNat]? = some d) (k:P d (h.set c (.lst (ds.eraseIdx i.toNat)))):wp (zfv (.cel c) (.int i)) h P:=by
 show wp (zao c>>=_) h P
 rw [zan,zcl e]
 rw [qa4 ⟨i0,i1⟩,ed]
 simp only [zan,zfY,zam]
 exact k
theorem zn3 {xs:List Int} {i:Nat} {x:Int} (e:xs[i]? = some x):List.Perm (x::xs.eraseIdx i) xs:=by
 obtain ⟨h,rfl⟩:=qac.mp e
 have e2:xs=xs.take i++xs[i]::xs.drop (i+1):=by simp
 rw [List.eraseIdx_eq_take_drop_succ]
 conv=>rhs;rw [e2]
 exact List.perm_middle.symm
end
section
theorem zr0 {n:Nat} {h:Hh} {ds:List D} {P:D->Hh->Prop} (e:h[n]? = some (.lst ds)) (k:P (.lst ds) (h.set n .dead)):wp (zud (.cel n)) h P:=by
 refine ⟨.lst ds,h.set n .dead,?_,k⟩
 unfold zud
 simp only
 rw [e]
theorem zhh {h:Hh}: ∀ xs:List Int,ziy h (xs.map D.int)=some (xs.map PyData.int)
 | []=>by rw [List.map_nil,ziy];rfl
 | x::r=>by
  rw [qaM,ziy,zhh r,pdH]
  rfl
theorem znc {h:Hh} {n:Nat} {xs:List Int} (e:h[n]? = some (.lst (xs.map D.int))):pdH h (.cel n)=some (.list (xs.map PyData.int)):=by
 rw [pdH,e]
 show (pdL (xs.map D.int)).map PyData.list=_
 rw [zc9]
 rfl
theorem zlC {h:Hh} {n:Nat} {xs:List Int} {k:Int} {P:D->Hh->Prop} (e:h[n]? = some (.lst (xs.map D.int))) (q:P (.bl (!xs.any (· == k))) h):wp (zd3 (.int k) (.cel n)) h P:=by
 refine ⟨_,h,?_,q⟩
 unfold zd3
 rw [znc e,show pdH h (.int k)=some (.int k) by rw [pdH]]
 have c:zgw (.int k) (xs.map PyData.int)=true:=by
  unfold zgw
  simp [PyData.canLay0,zbe,PyData.depth,zbH]
 simp only [c,if_true,zdJ]
theorem zot {k:Nat} (h:k<1000):k<bb:=qaw (Nat.lt_trans h (by decide:1000<2^10)) (zku (by decide))
theorem zt6 {n:Nat}:ze1 [.cel n]=(do let ds<-zao n;pure (.int ds.length)):=rfl
def zrx (hv:D) (had:List Int) (h:Hh):Prop:= ∀ (k:Int) (P:D->Hh->Prop),P (.bl (!had.any (· == k))) h->wp (zd3 (.int k) hv) h P
theorem zgf {h:Hh} {n:Nat} {xs:List Int} (e:h[n]? = some (.lst (xs.map D.int))):zrx (.cel n) xs h:=fun _ _ q=>zlC e q
theorem zjq (xs:List Int) (h:Hh):zrx (tI xs) xs h:=fun k P q=>by
 refine ⟨_,h,?_,q⟩
 unfold zd3
 rw [show pdH h (tI xs)=some (.tuple (xs.map PyData.int)) by
   unfold tI
   rw [pdH]
   rw [zhh]
   rfl,show pdH h (.int k)=some (.int k) by rw [pdH]]
 have c:zgw (.int k) (xs.map PyData.int)=true:=by
  unfold zgw
  simp [PyData.canLay0,zbe,PyData.depth,zbH]
 simp only [c,if_true,zdJ]
end
section
def Kp (N:Nat) (h h':Hh):Prop:=N<=h'.length/\ ∀ k,k<N->h'[k]? = h[k]?
theorem Kp.gro {h h':Hh} (k:Kp h.length h h'):Gro h h':=by
 refine ⟨h'.drop h.length,List.ext_getElem? fun j=> ?_⟩
 by_cases hj:j<h.length
 ·rw [qad hj,k.2 j hj]
 ·rw [qaa (by omega),List.getElem?_drop]
  congr 1
  omega
end
section
theorem zcL (p:Int×D) (r:List (Int×D)) (j:Int):zeD (p::r) j=if p.1==j then some p.2 else zeD r j:=by
 unfold zeD
 rw [List.find?_cons]
 cases p.1==j<;>rfl
theorem zi7 {k j:Int} {d:D}: ∀ kvs:List (Int×D),zeD (kvs.map fun p=>if p.1=k then (p.1,d) else p) j=if k==j then (zeD kvs j).map fun _=>d else zeD kvs j
 | []=>by simp [zeD]
 | p::r=>by
  rw [qaM,zcL,zcL,zi7 r]
  by_cases h1:p.1=k
  ·subst h1
   by_cases h2:p.1=j
   ·subst h2
    simp
   ·simp [h2]
  ·rw [qa5 h1]
   by_cases h2:p.1=j
   ·subst h2
    simp [Ne.symm h1]
   ·simp [h2]
theorem zjs {k j:Int} {d:D}: ∀ kvs:List (Int×D),(kvs.any fun p=>decide (p.1=k))=false->zeD (kvs++[(k,d)]) j=if k==j then some d else zeD kvs j
 | [],_=>by rw [List.nil_append,zcL]
 | p::r,h=>by
  rw [List.any_cons,Bool.or_eq_false_iff,decide_eq_false_iff_not] at h
  rw [List.cons_append,zcL,zcL,zjs r h.2]
  by_cases h2:p.1=j
  ·subst h2
   simp [Ne.symm h.1]
  ·simp [h2]
theorem zjI {k:Int}: ∀ kvs:List (Int×D),(kvs.any fun p=>decide (p.1=k))=true-> ∃ x,zeD kvs k=some x
 | [],h=>by cases h
 | p::r,h=>by
  rw [zcL]
  by_cases h1:p.1=k
  ·exact ⟨p.2,by simp [h1]⟩
  ·rw [List.any_cons,decide_eq_false h1,Bool.false_or] at h
   obtain ⟨x,hx⟩:=zjI r h
   exact ⟨x,by simp [h1,hx]⟩
theorem zow (kvs:List (Int×D)) (k j:Int) (d:D):zeD (zgh kvs k d) j=if k==j then some d else zeD kvs j:=by
 unfold zgh
 split
 ·rename_i h
  rw [zi7]
  by_cases e:k=j
  ·subst e
   obtain ⟨x,hx⟩:=zjI kvs h
   simp [hx]
  ·simp [e]
 ·rename_i h
  exact zjs kvs (Bool.not_eq_true _▸h)
theorem zlg (kvs:List (Int×D)) (k:Int) (d:D):(zgh kvs k d).length<=kvs.length+1:=by
 unfold zgh
 split
 ·rw [qaH]
  omega
 ·rw [qav,List.length_singleton]
  omega
noncomputable def zcz {α:Type} (f:α->D) (kvs:List (Int×D)) (as:List (Int×α)):List (Int×D):=as.foldl (fun m a=>zgh m a.1 (f a.2)) kvs
noncomputable def zdP {α:Type} (as:List (Int×α)) (t:Int) (o:Option α):Option α:=as.foldl (fun o a=>if a.1==t then some a.2 else o) o
theorem zlp {α:Type} {f:α->D} {t:Int}: ∀ (as:List (Int×α)) {kvs:List (Int×D)} {o:Option α},zeD kvs t=o.map f->zeD (zcz f kvs as) t=(zdP as t o).map f
 | [],kvs,o,h=>h
 | a::r,kvs,o,h=>by
  show zeD (zcz f (zgh kvs a.1 (f a.2)) r) t=(zdP r t (if a.1==t then some a.2 else o)).map f
  refine zlp r ?_
  rw [zow,h]
  cases a.1==t<;>rfl
theorem zhA {α:Type} {t:Int}: ∀ (as:List (Int×α)) {o:Option α},((∃ x,o=some x)\/ ∃ a∈as,a.1=t)-> ∃ x,zdP as t o=some x
 | [],o,h=>by
  rcases h with h | ⟨a,ha,_⟩
  ·exact h
  ·cases ha
 | a::r,o,h=>by
  show ∃ x,zdP r t (if a.1==t then some a.2 else o)=some x
  refine zhA r ?_
  by_cases e:a.1=t
  ·exact .inl ⟨a.2,by simp [e]⟩
  ·rcases h with ⟨x,hx⟩ | ⟨b,hb,eb⟩
   ·exact .inl ⟨x,by simp [e,hx]⟩
   ·rcases qaP.mp hb with rfl | hb
    ·exact absurd eb e
    ·exact .inr ⟨b,hb,eb⟩
theorem zjh {α:Type} {t:Int} {x:α}: ∀ (as:List (Int×α)) {o:Option α},zdP as t o=some x->o=some x\/ ∃ a∈as,a.2=x
 | [],o,h=> .inl h
 | a::r,o,h=>by
  have h:zdP r t (if a.1==t then some a.2 else o)=some x:=h
  rcases zjh r h with z | ⟨b,hb,e⟩
  ·cases he:a.1==t
   ·rw [he] at z
    exact .inl z
   ·rw [he] at z
    exact .inr ⟨a,qau,by simpa using z⟩
  ·exact .inr ⟨b,qan _ hb,e⟩
theorem zme {α:Type} {f:α->D}: ∀ (as:List (Int×α)) (kvs:List (Int×D)),(zcz f kvs as).length<=kvs.length+as.length
 | [],kvs=>qaV _
 | a::r,kvs=>by
  have h1:=zme (f:=f) r (zgh kvs a.1 (f a.2))
  have h2:=zlg kvs a.1 (f a.2)
  show (zcz f (zgh kvs a.1 (f a.2)) r).length<=_
  rw [qaE]
  omega
theorem zqi {α:Type} {f:α->D} {kvs:List (Int×D)} {as bs:List (Int×α)}:zcz f kvs (as++bs)=zcz f (zcz f kvs as) bs:=List.foldl_append
theorem zti {α:Type} {g':α->D} {f:D->M (Option D)} {k:α->Option D} {h:Hh}: ∀ {xs:List α} {P:List D->Hh->Prop},(∀ x∈xs,wp (f (g' x)) h fun o h'=>o=k x/\h'=h)->P (xs.filterMap k) h->wp (zbS f (xs.map g')) h P
 | [],P,_,q=>by rw [List.map_nil,zbS,zam];exact q
 | x::r,P,hf,q=>by
  rw [qaM,zbS,zan]
  refine ziE (hf x qau) ?_
  rintro o h' ⟨rfl,rfl⟩
  rw [zan]
  refine zti (fun y hy=>hf y (qan _ hy)) ?_
  rw [zam]
  rw [qat] at q
  cases hk:k x<;>rw [hk] at q<;>exact q
theorem zoU (bt:Nat->Nat->Bool): ∀ k,argBest bt k<=k
 | 0=>qaV _
 | k+1=>by
  have:=zoU bt k
  rw [argBest]
  split<;>omega
theorem zol {ns:List Int} (h:0<ns.length):zjD ns∈ns:=by
 unfold zjD
 have h1:=zoU (fun i j=>decide (ns.getD i 0>ns.getD j 0)) (ns.length - 1)
 have h2:argBest (fun i j=>decide (ns.getD i 0>ns.getD j 0)) (ns.length - 1)<ns.length:=by omega
 rw [List.getD,qaf h2,Option.getD_some]
 exact List.getElem_mem h2
theorem zoF {ns:List Int} (h:0<ns.length):zox [.lst (ns.map D.int)]=pure (.int (zjD ns)):=by
 show (do let ns'<-ofO (zcS (ns.map D.int));if 0<ns'.length then pure (.int (zjD ns')) else M.bad:M D)=_
 rw [zbp]
 show (if 0<ns.length then (pure (.int (zjD ns)):M D) else M.bad)=_
 rw [qa4 h]
theorem zjU {h:Hh} {n:Nat} {c:C} (e:h[n]? = some c):h.set n c=h:=by
 refine List.ext_getElem? fun j=> ?_
 by_cases hj:n=j
 ·subst hj
  rw [qai (qac.mp e).1,e]
 ·rw [qao hj]
theorem zpT {n:Nat} (h:n<=500):zlH [.int 1,.int ((n:Int)+1)]=pure ((List.range n).map fun (k:Nat)=> .int (1+(k:Int))):=by
 show (if zbN 1=true/\zbN ((n:Int)+1)=true then (pure (zdi 1 ((n:Int)+1 - 1).toNat):M (List D)) else M.bad)=_
 rw [qa4 ⟨by decide,by unfold zbN;simp;omega⟩]
 rw [show ((n:Int)+1 - 1).toNat=n by omega]
 rfl
end
section
theorem zkQ {gs:List D->Sd->M Sd} {x y z:D} {sd:Sd}:zcq 3 gs (.tup [x,y,z]) sd=gs [x,y,z] sd:=rfl
theorem zlU (d:D) {n:Nat} (h:n<1000):zon (.lst [d]) (.int (n:Int))=pure (.lst (List.replicate n d)):=by
 show (if _ then _ else _)=_
 rw [qa4 ⟨by omega,by omega,by
   have hsl:(sizeLine:Nat)=16777216:=by decide
   show 1*(n:Int).toNat<=_
   omega⟩]
 congr 2
 refine List.eq_replicate_iff.mpr ⟨by simp,fun x hx=> ?_⟩
 obtain ⟨l,hl,hx⟩:=List.mem_flatten.mp hx
 rw [(List.mem_replicate.mp hl).2] at hx
 exact List.mem_singleton.mp hx
theorem zph (p:Int):qD (p:Rat)= .tup [.int p,.int 1]:=rfl
theorem zqL (q:Rat):dNe (qD q) (qD q)=pure (.bl false):=by
 have:=zr7 [q.num,(q.den:Int)] [q.num,(q.den:Int)]
 rw [beq_self_eq_true] at this
 exact this
end
end L3
namespace K24
open PySem PySem.Spec PyProof.Rows L2 L3 LT
set_option hygiene false in
local macro_rules | `(tactic| ac_nf0)=> `(tactic| simp only [za7,zcY,zjA,zcW,zg7,zht,zqE,zeE,zbx,zaM,za6,zcB,znL,zeZ,zaG,zaP,pure_bind,bind_assoc,zg0,zui,zgx,zu4,List.set,zeG,zju,zjR,zsq,zpz,zoB,zuH,zoC,zuB,zhe,zi2,zgv,zdg,zir,zbY,zpx,zdV,zuC,zov,zml,zte,zfR,zsJ,zoI,ztW,zrZ,zqS,zhX,zcx,zlz,zjn,zkC,zhC,ztU,zan,zam,zjz,qaE,qaJ,qaH,Nat.zero_add,Nat.reduceAdd,Nat.reduceLeDiff,zaA,zcJ,tI,zmj,zpY,zn7,zs3,zok,zkb,znz,zvJ,zqa,zpS,zst,zuV,zut,zvu,zpe,zlD,zsp,zuo,zpI,zwa,if_true,Bool.not_true,Bool.not_false,qax,if_false,qav,List.cons_append,List.nil_append,ztR,zsE])
variable {m:Int} {os:List (List Int×Int)} {i:Nat}
noncomputable def zg4 (m:Int):D->Bool
 | .tup [.tup ts,.int p]=>zb9 m 0 ts && decide (0<(ts.length:Int)) && decide (0<p/\p<2^64)
 | _=>false
theorem zcp {h:Hh} {b:Nat} {m:Int} {P:D->Hh->Prop} (q:Bx b h) (h0:0<m) (h1:m<2^64) (k: ∀ t h',0<=t->t<m->Ext b h h'->P (.int t) h'):wp (F_46 [.cel b,.int m]) h P:=by
 obtain ⟨z,e⟩:=id q
 rw [d_46]
 simp only [G_46,za7,zcY,zcB,zaG,zaP,pure_bind,bind_assoc,zeZ,zoc,zan,zcl e,zml,zfR,zam,zdz h0,zg0,List.set,zjA,zjy h0 h1,zmy,zoV]
 have e2:ixN ([D.int z]:List D).length 0=some 0:=rfl
 simp only [zan,zcl e,e2,zfR,zam,zfY,zg0,zcW,zaP,zaG,zgx,List.set]
 exact k _ _ (Int.emod_nonneg _ (by omega)) (Int.emod_lt_of_pos _ h0) q.set
theorem zpG {ns:List Int} {k:Int} (h0:0<=k): ∃ c:Int,F_44 [.scr (ns.map D.int),.int k]=pure (.int c):=by
 rw [d_44]
 simp only [G_44,za7,zg7,zeG,zaP,zaG,pure_bind,bind_assoc,zbx,zaM,za6,zoE,zmW,zdg]
 by_cases hk:k<((ns.map D.int).length:Int)
 ·have hk':k.toNat<ns.length:=by simp at hk;omega
  have ea:atI (ns.map D.int) k=some (.int ns[k.toNat]):=by
   have:=zfz (xs:=ns.map D.int) (j:=k.toNat) (v:= .int ns[k.toNat]) (by simp [hk'])
   rw [<- this]
   congr 1
   omega
  simp only [hk,decide_true,if_true,zcW,zcB,zaG,zaP,pure_bind,zuI,ea,zfR,zui,zgx]
  exact ⟨_,rfl⟩
 ·simp only [hk,decide_false,qax,if_false,zeE,pure_bind,zg0,zcW,zcB,zeZ,zaP,zaG,zh3 (show (-1000000000000000:Int)<6151 by decide) (show (6151:Int)<1000000000000000 by decide),zdV,zgx]
  exact ⟨_,rfl⟩
theorem zjC {s0 s2:Option D} {k:Int} (k0:0<=k) (k5:k<5): ∀ (ds:List D) (n mx:Int) (x5:Option D),(∀ d∈ds, ∃ j:Int,d= .int j/\0<=j/\j<24)->0<=mx->mx<2147483647->
  ∃ (n' mx':Int) (x5':Option D),zaQ (fun x sd=>do let sd1<-zaI 5 x sd;zdw sd1) ds [s0,some (.int k),s2,some (.int n),some (.int mx),x5]=pure (.nx [s0,some (.int k),s2,some (.int n'),some (.int mx'),x5'])
 | [],n,mx,x5,_,_,_=>⟨n,mx,x5,rfl⟩
 | d::r,n,mx,x5,hd,m0,m1=>by
  obtain ⟨j,rfl,j0,j1⟩:=hd _ qau
  obtain ⟨n',mx',x5',ih⟩:=zjC k0 k5 r (n*2147483647+(mx*48271+7*j*j+11*k+1) % 2147483647) ((mx*48271+7*j*j+11*k+1) % 2147483647) (some (.int j)) (fun y hy=>hd y (qan _ hy)) (Int.emod_nonneg _ (by decide)) (Int.emod_lt_of_pos _ (by decide))
  refine ⟨n',mx',x5',?_⟩
  rw [zbo, <-ih]
  simp only [zdw,zcx,List.set,pure_bind,bind_assoc,za7,zcY,zcB,zaP,zaG,zeZ,zh3 (show -1000000000000000<mx by omega) (show mx<1000000000000000 by omega),zh3 (show (-1000000000000000:Int)<7 by decide) (show (7:Int)<1000000000000000 by decide),
    zl4 (i:=7*j) (show -1000000000000000<j by omega) (show j<1000000000000000 by omega),zh3 (show (-1000000000000000:Int)<11 by decide) (show (11:Int)<1000000000000000 by decide),zdV,zdz (show (0:Int)<2147483647 by decide),zg0,zl4 (i:=n) (show (-1000000000000000:Int)<2147483647 by decide) (show (2147483647:Int)<1000000000000000 by decide)]
theorem ztF {h:Hh} {ns:List Int} {k:Int} {P:D->Hh->Prop} (k0:0<=k) (k5:k<5) (q: ∀ z:Int,P (.cel h.length) (h++[.lst [.int z]])):wp (F_45 [.scr (ns.map D.int),.int k]) h P:=by
 obtain ⟨c,ec⟩:=zpG (ns:=ns) k0
 rw [d_45]
 simp only [G_45,za7,zcY,zbx,zaM,za6,zaG,zaP,pure_bind,bind_assoc,zbY,ec,zg0,List.set,zg7,zeG,zcB,zeZ,zdz (show (0:Int)<2 by decide),zoM,zdg]
 by_cases hc:(c % 2==0)=true
 ·simp only [hc,if_true,zcW,zgv,zaM,za6,zcB,zaP,zaG,zeZ,pure_bind,bind_assoc,zjy (show (0:Int)<2 by decide) (show (2:Int)<2^64 by decide),qaE,qaJ,zaA (show 0+1<=1000 by decide),zan,zjz,zam,zui,zgx]
  exact q _
 ·obtain ⟨n',mx',x5',el⟩:=zjC (s0:=some (.scr (ns.map D.int))) (s2:=some (.int c)) k0 k5 (zdi 0 24) 0 (c % 2147483647) none (fun d hd=>by
    obtain ⟨i,e,i0,i1⟩:=zgP hd
    exact ⟨i,e,i0,by omega⟩) (Int.emod_nonneg _ (by decide)) (Int.emod_lt_of_pos _ (by decide))
  have er:zmu [.int 24]=pure (zdi 0 24):=zc4 (by decide) (by decide)
  simp only [hc,if_false,zeE,pure_bind,zg0,za7,zcY,zeZ,List.set,zcB,zaP,zaG,zdz (show (0:Int)<2147483647 by decide),zht,zhX,zaM,za6,er,bind_assoc,el,zcW,zgv,qaE,qaJ,zaA (show 0+1<=1000 by decide),zan,zjz,zam,zgx,qax]
  exact q _
theorem zhj {a b:Nat} (h:a<=b):(2:Int)^a<=2^b:=by
 have:(2:Nat)^a<=2^b:=Nat.pow_le_pow_right (by decide) h
 exact_mod_cast this
theorem zjL {bits:Int}: ∀ (m:Nat),0<bits->bits<2^m-> ∃ j:Nat,j<m/\(bits / 2^j) % 2=1
 | 0,h0,h1=>by simp at h1;omega
 | m+1,h0,h1=>by
  by_cases c:bits<2^m
  ·obtain ⟨j,a,b⟩:=zjL m h0 c
   exact ⟨j,by omega,b⟩
  ·refine ⟨m,by omega,?_⟩
   have hp:(0:Int)<2^m:=Int.pow_pos (by decide)
   have e:bits / 2^m=1:=by
    have h2:(2:Int)^(m+1)=2*2^m:=by rw [Int.pow_succ];omega
    have a1:1<=bits / 2^m:=(Int.le_ediv_iff_mul_le hp).mpr (by omega)
    have a2:bits / 2^m<2:=(Int.ediv_lt_iff_lt_mul hp).mpr (by omega)
    omega
   rw [e]
   decide
noncomputable def zrw (bits:Int) (d:D):Option D:=match d with
 | .int j=>if ((bits / 2^j.toNat) % 2==1)=true then some d else none
 | _=>none
theorem zhp (bits:Int): ∀ xs:List Int,(xs.map D.int).filterMap (zrw bits)=(xs.filter fun j=>(bits / 2^j.toNat) % 2==1).map D.int
 | []=>rfl
 | x::r=>by
  rw [qaM,qat,List.filter_cons,zhp bits r]
  unfold zrw
  dsimp only
  split<;>simp_all
theorem zmS {bits:Int} {m:Nat} (h0:0<bits) (h1:bits<2^m):zb9 m 0 ((zdi 0 m).filterMap (zrw bits))=true/\(zdi 0 m).filterMap (zrw bits)≠[]:=by
 rw [zdC,zhp]
 constructor
 ·rw [zby]
  constructor
  ·refine List.Pairwise.filter _ ?_
   rw [List.pairwise_map]
   exact List.pairwise_lt_range.imp fun h=>by omega
  ·intro x hx
   obtain ⟨k,hk,e⟩:=qaU.mp (List.mem_filter.mp hx).1
   have:=List.mem_range.mp hk
   omega
 ·obtain ⟨j,a,b⟩:=zjL m h0 h1
  intro z
  have:((j:Int))∈((List.range m).map fun (k:Nat)=>(k:Int)).filter fun j=>(bits / 2^j.toNat) % 2==1:=by
   refine List.mem_filter.mpr ⟨qaU.mpr ⟨j,List.mem_range.mpr a,rfl⟩,?_⟩
   rw [qaB,b]
   rfl
  have z':=List.map_eq_nil_iff.mp z
  rw [z'] at this
  cases this
theorem zlV {h:Hh} {b:Nat} {m:Int} {P:D->Hh->Prop} (q:Bx b h) (h0:1<=m) (h1:m<=10) (k: ∀ ts h',zb9 m 0 ts=true->ts≠[]->Ext b h h'->P (.tup ts) h'):wp (F_47 [.cel b,.int m]) h P:=by
 rw [d_47]
 simp only [G_47,za7,zcY,zbx,zaM,za6,zaG,zaP,pure_bind,bind_assoc,zbY,zeZ,zan]
 refine zcp q (by decide) (by decide) fun way h2 w0 w1 x2=> ?_
 simp only [zam,zan,zg0,List.set,za7,zg7,zeG,zaP,zaG,pure_bind,bind_assoc,zeZ,zoM,zdg]
 by_cases hw:(way==0)=true
 ·rw [qa4 hw]
  simp only [za7,zcY,zcB,zeZ,zaP,zaG,pure_bind,bind_assoc,zbx,zaM,za6,zqA (show 0<=m by omega) (show m<=1000 by omega),zpI,zbY,zan]
  have hp:(2:Int)<=2^m.toNat:=by
   have:(2:Int)^1<=2^m.toNat:=zhj (by omega)
   simpa using this
  have hp':(2:Int)^m.toNat<=2^10:=zhj (by omega)
  refine zcp x2.1 (by omega) (by omega) fun t h3 t0 t1 x3=> ?_
  have ed:zaJ (zkB (zad (zag 1) zat)) (zaI 0) zco zcj [none,some 3] [some (.cel b),some (.int m),some (.int way),some (.int (1+t)),none,none]=pure (.lst ((zdi 0 m.toNat).filterMap (zrw (1+t)))):=by
   refine zez (by simp [zc4 (show 0<=m by omega) (show m<1000 by omega)]) (by rw [zem];omega) fun x hx=> ?_
   obtain ⟨i,rfl,i0,i1⟩:=zgP hx
   have eb:zaw [none,some 3] [some (.cel b),some (.int m),some (.int way),some (.int (1+t)),none,none]=[none,some (D.int (1+t))]:=rfl
   rw [eb]
   simp only [zbn,zcx,List.set,pure_bind,zco,zeG,zcB,zaP,zaG,zeZ,zqK i0,zum,zrd,zoM,zdg,zcj,zrw]
   split<;>rfl
  simp only [zam,zan,zg0,List.set,zdV,pure_bind,zcW,zbx,zaM,za6,bind_assoc,ed,zhC,zui,zgx]
  have hm:((m.toNat:Nat):Int)=m:=Int.toNat_of_nonneg (by omega)
  have:=zmS (bits:=1+t) (m:=m.toNat) (by omega) (by omega)
  rw [hm] at this
  exact k _ _ this.1 this.2 (x2.trans x3)
 ·rw [qa5 hw]
  have hw': ¬way=0:=by simpa using hw
  simp only [zeE,zam,zg0,za7,zjA,zhe,zaM,za6,zbx,zaG,zaP,pure_bind,bind_assoc,zbY,zan]
  refine zcp x2.1 (by omega) (by omega) fun first h3 f0 f1 x3=> ?_
  simp only [zcB,zi2,zaM,za6,zeZ,zbx,zaG,zaP,pure_bind,bind_assoc,zbY,zan,zam]
  refine zcp x3.1 (by decide) (by decide) fun t h4 t0 t1 x4=> ?_
  simp only [zdV,pure_bind,zam,zan,qaE,qaJ,zaA (show 0+1+1<=1000 by decide),zaP,zaG,zpI,zov,bind_assoc]
  obtain ⟨step,es,s0,s1⟩: ∃ s:Int,atI [D.int 1,D.int (1+t)] (way - 1)=some (.int s)/\1<=s/\s<=3:=by
   by_cases c:way=1
   ·subst c
    exact ⟨1,rfl,by decide,by decide⟩
   ·have c:way=2:=by omega
    subst c
    exact ⟨1+t,rfl,by omega,by omega⟩
  simp only [es,zfR,zam,zan,zlz,zjn,zcx,List.set,pure_bind,zkC,zg0,zcW,zbx,zaM,za6,znL,bind_assoc]
  unfold zaJ
  simp only [zhX,zaM,za6,zcB,zeZ,zbx,zaG,zaP,pure_bind,bind_assoc,zbY,zan]
  refine zcp x4.1 (by decide) (by decide) fun u h5 u0 u1 x5=> ?_
  have eb:zaw [none,some 4,some 5,some 1] [some (.cel b),some (.int m),some (.int way),none,some (.int first),some (.int step)]=[none,some (D.int first),some (.int step),some (.int m)]:=rfl
  have hl:zbS (zbn (zaI 0) (fun _=>pure true) zck [none,some (D.int first),some (.int step),some (.int m)]) (zdi 0 (1+u).toNat)=pure ((((List.range (1+u).toNat).map fun (k:Nat)=>(first+step*(k:Int)) % m)).map D.int):=by
   rw [zdC]
   rw [zev (k:=fun d=>match d with | .int j=>some (.int ((first+step*j) % m)) | _=>none)]
   ·congr 1
    rw [List.filterMap_map]
    simp [Function.comp_def]
   ·intro x hx
    obtain ⟨j,_,rfl⟩:=qaU.mp hx
    simp only [zbn,zcx,List.set,pure_bind,if_true,zck,zcB,zaP,zaG,zh3 (show -1000000000000000<step by omega) (show step<1000000000000000 by omega),zdV,zdz (show 0<m by omega)]
  simp only [zdV,pure_bind,zc4 (show 0<=1+u by omega) (show 1+u<1000 by omega),zem,zaA (show (1+u).toNat<=1000 by omega),eb,hl,zam,zan]
  generalize hy:((List.range (1+u).toNat).map fun (k:Nat)=>(first+step*(k:Int)) % m)=ys
  have yl:ys.length=(1+u).toNat:=by rw [<- hy];simp
  have ym: ∀ y∈ys,0<=y/\y<m:=fun y h=>by
   rw [<- hy] at h
   obtain ⟨k,_,rfl⟩:=qaU.mp h
   exact ⟨Int.emod_nonneg _ (by omega),Int.emod_lt_of_pos _ (by omega)⟩
  simp only [zhW (show ys.length<64 by omega),zam,zhC,zgx,pure_bind,zan]
  refine k _ _ (zby.mpr ⟨zcA ys,fun x hx=>ym x (zbi.mp hx)⟩) (fun z=> ?_) (((x2.trans x3).trans x4).trans x5)
  have z':=List.map_eq_nil_iff.mp z
  have hy0: ∃ y,y∈ys:=List.exists_mem_of_length_pos (by omega)
  obtain ⟨y,hy0⟩:=hy0
  have:=zbi.mpr hy0
  rw [z'] at this
  cases this
def Row (m:Int) (h:Hh) (d:D):Prop:= ∃ (n:Nat) (xs:List Int) (p:Int),d= .cel n/\h[n]? = some (.lst [.tup (xs.map D.int),.int p])/\zb9 m 0 (xs.map D.int)=true/\xs≠[]/\(0<p/\p<2^64)
theorem Row.ext {m:Int} {b:Nat} {h h':Hh} {d:D} (q:Bx b h) (x:Ext b h h') (r:Row m h d):Row m h' d:=by
 obtain ⟨n,ts,p,e,e2,r⟩:=r
 have hn:n≠b:=fun z=>by
  subst z
  obtain ⟨y,e3⟩:=q
  rw [e3] at e2
  cases e2
 exact ⟨n,ts,p,e,x.2 n _ hn e2,r⟩
theorem zk9 {b:Nat} {m far:Int} (m0:1<=m) (m1:m<=10) (f0:0<far) (f1:far<2^64): ∀ (ds:List D) {h:Hh} {P:List D->Hh->Prop},Bx b h->(∀ rs h',Ext b h h'->rs.length=ds.length->(∀ r∈rs,Row m h' r)->P rs h')->
  wp (zbS (zbn (zaI 0) (fun _=>pure true) zc2 [none,some (.cel b),some (.int m),some (.int far)]) ds) h P
 | [],h,P,q,k=>by
  rw [zbS,zam]
  exact k [] h (Ext.refl q) rfl fun r hr=>by cases hr
 | d::r,h,P,q,k=>by
  rw [zbS]
  simp only [zan,zbn,zcx,List.set,pure_bind,if_true,zc2,zgv,zaM,za6,zbx,zaP,zaG,bind_assoc,zbY]
  refine zlV q m0 m1 fun ts h2 hr hne x2=> ?_
  simp only [zan,zcB,zeZ,zbx,zaM,za6,zaP,zaG,pure_bind,bind_assoc,zbY]
  refine zcp x2.1 f0 f1 fun t h3 t0 t1 x3=> ?_
  simp only [zdV,pure_bind,zam,zan,qaE,qaJ,zaA (show 0+1+1<=1000 by decide),zjz]
  have x4:=x3.1.push (c:= .lst [.tup ts,.int (1+t)])
  obtain ⟨xs,rfl⟩:=ziv (zgp hr)
  refine zk9 m0 m1 f0 f1 r x4.1 fun rs h' x5 hl hr'=> ?_
  refine k (.cel h3.length::rs) h' (((x2.trans x3).trans x4).trans x5) (by simp [hl]) fun y hy=> ?_
  rcases qaP.mp hy with rfl | hy
  ·exact Row.ext x4.1 x5 ⟨h3.length,xs,1+t,rfl,by simp,hr,fun z=>hne (by rw [z];rfl),⟨by omega,by omega⟩⟩
  ·exact hr' y hy
noncomputable def zpb (h:Hh) (i:Int) (d:D):Bool:=match d with
 | .cel n=>match h[n]? with
  | some (.lst (.tup ts::_))=>match zcS ts with
   | some xs=>xs.any (· == i)
   | none=>false
  | _=>false
 | _=>false
noncomputable def zki (h:Hh) (d:D):D:=match d with
 | .cel n=>match h[n]? with
  | some (.lst ds)=> .tup ds
  | _=> .non
 | _=> .non
theorem zoJ {m:Int} {h:Hh}: ∀ {rs:List D},(∀ r∈rs,Row m h r)-> ∃ ps,ziy h rs=some ps/\PyData.canLayAll0 ps=true/\ps.length=rs.length
 | [],_=>⟨[],rfl,rfl,rfl⟩
 | d::r,hr=>by
  obtain ⟨n,xs,p,rfl,e,_⟩:=hr d qau
  obtain ⟨ps,e1,e2,e3⟩:=zoJ fun y hy=>hr y (qan _ hy)
  refine ⟨.list [.tuple (xs.map .int),.int p]::ps,?_,?_,by simp [e3]⟩
  ·simp only [ziy,pdH,e,pdL,pd,zc9,Option.map,e1]
  ·simp [PyData.canLayAll0,PyData.canLay0,zbe,e2]
theorem zqC {m:Int} {h:Hh} {rs:List D} {P:D->Hh->Prop} (hr: ∀ r∈rs,Row m h r) (q:P (.bl rs.isEmpty) h):wp (ztB (.lst rs) (.lst [])) h P:=by
 obtain ⟨ps,e1,e2,e3⟩:=zoJ hr
 refine ⟨.bl rs.isEmpty,h,?_,q⟩
 unfold ztB
 have a1:pdH h (.lst rs)=some (.list ps):=by simp only [pdH,e1,Option.map]
 have a2:pdH h (.lst [])=some (.list []):=by simp only [pdH,ziy,Option.map]
 rw [a1,a2]
 have c:zjx (.list ps) (.list [])=true:=by
  unfold zjx
  simp [PyData.canLay0,PyData.canLayAll0,e2,PyData.depth,PyData.depthAll]
 simp only [c,if_true]
 cases ps with
 | nil=>
  cases rs with
  | nil=>rfl
  | cons _ _=>cases e3
 | cons _ _=>
  cases rs with
  | nil=>cases e3
  | cons _ _=>rfl
def Cov (rows:List D) (h:Hh) (j:Int):Prop:= ∃ r∈rows, ∃ (n:Nat) (xs:List Int) (p:Int),r= .cel n/\h[n]? = some (.lst [.tup (xs.map D.int),.int p])/\j∈xs
theorem Cov.ext {b:Nat} {rows:List D} {h h':Hh} {j:Int} (q:Bx b h) (x:Ext b h h') (r:Cov rows h j):Cov rows h' j:=by
 obtain ⟨d,hd,n,ts,p,e,e2,r⟩:=r
 have hn:n≠b:=fun z=>by
  subst z
  obtain ⟨y,e3⟩:=q
  rw [e3] at e2
  cases e2
 exact ⟨d,hd,n,ts,p,e,x.2 n _ hn e2,r⟩
theorem zg5 {b:Nat} {m far:Int} {s1 s2:Option D} {rows:List D} (m0:1<=m) (m1:m<=10) (hne:rows≠[]) (hl:rows.length<=12): ∀ (ds:List D) (dn:List Int) {h:Hh} {x6 x7:Option D} {P:Out->Hh->Prop},Bx b h->(∀ d∈ds, ∃ i:Int,d= .int i/\0<=i/\i<m)->(∀ r∈rows,Row m h r)->(∀ j∈dn,Cov rows h j)->
  (∀ x6' x7' h',Bx b h'->(∀ r∈rows,Row m h' r)->(∀ j,j∈dn\/D.int j∈ds->Cov rows h' j)->P (.nx [some (.cel b),s1,s2,some (.int m),some (.int far),some (.lst rows),x6',x7']) h')->
  wp (zaQ (fun x sd=>do let sd1<-zaI 6 x sd;zbJ sd1) ds [some (.cel b),s1,s2,some (.int m),some (.int far),some (.lst rows),x6,x7]) h P
 | [],dn,h,x6,x7,P,q,_,hr,hc,k=>by
  rw [zct,zam]
  exact k _ _ h q hr fun j hj=>hc j (hj.elim id fun z=>by cases z)
 | d::r,dn,h,x6,x7,P,q,hd,hr,hc,k=>by
  obtain ⟨i,rfl,i0,i1⟩:=hd _ qau
  have hd':=fun y hy=>hd y (qan _ hy)
  have ih: ∀ {h:Hh} {x6 x7:Option D},Bx b h->(∀ r∈rows,Row m h r)->(∀ j∈i::dn,Cov rows h j)->wp (zaQ (fun x sd=>do let sd1<-zaI 6 x sd;zbJ sd1) r [some (.cel b),s1,s2,some (.int m),some (.int far),some (.lst rows),x6,x7]) h P:=fun q hr hc=>zg5 m0 m1 hne hl r (i::dn) q hd' hr hc fun x6' x7' h' q' hr' hc'=>k x6' x7' h' q' hr' fun j hj=>hc' j (by
    rcases hj with hj | hj
    · exact .inl (qan _ hj)
    · rcases qaP.mp hj with z | z
      · cases z;exact .inl qau
      · exact .inr z)
  rw [zbo]
  generalize zaQ (fun x sd=>do let sd1<-zaI 6 x sd;zbJ sd1) r=zbk at ih ⊢
  simp only [zcx,List.set,pure_bind,zbJ,zg7,zeG,zan]
  refine zkt (k:=fun d=>if zpb h i d=true then some d else none) (ds:=rows) (by simp) (by omega) (fun x hx=> ?_) ?_
  ·obtain ⟨n,xs,p,rfl,e,_⟩:=hr x hx
   have eb:zaw [none,some 6] [some (.cel b),s1,s2,some (.int m),some (.int far),some (.lst rows),some (.int i),x7]=[none,some (D.int i)]:=rfl
   rw [eb]
   simp only [zbn,zcx,List.set,pure_bind,zej,zeG,zaP,zaG,zcB,zeZ,zoc,bind_assoc,zan,zcl e,zml,zfR,zam,zjV,zdg,zd9,zpb,e,zbp]
   rw [zl7]
   split
   ·simp_all [zam,zaG,zan]
   ·simp_all [zam]
  ·simp only [zi2,za6,pure_bind,qaJ,zaA (show 0<=1000 by decide),zan,zam]
   refine zqC (m:=m) (fun y hy=> ?_) ?_
   ·obtain ⟨z,hz,ez⟩:=List.mem_filterMap.mp hy
    split at ez
    ·cases ez;exact hr _ hz
    ·cases ez
   simp only [zdg,zam]
   rw [zl7]
   split
   ·rename_i c
    have none_has: ∀ y∈rows,zpb h i y=false:=fun y hy=>by
     cases z:zpb h i y with
     | false=>rfl
     | true=>
      have:y∈rows.filterMap fun d=>if zpb h i d=true then some d else none:=List.mem_filterMap.mpr ⟨y,hy,by rw [z];rfl⟩
      rw [List.isEmpty_iff.mp c] at this
      cases this
    have hpos:0<rows.length:=List.length_pos_iff.mpr hne
    simp only [za7,zcY,zcB,zaP,zaG,pure_bind,bind_assoc,zbx,zaM,za6,zoI,zbY,zan]
    refine zcp q (by omega) (by omega) fun t h2 t0 t1 x2=> ?_
    have ht:t.toNat<rows.length:=by omega
    have ea:atI rows t=some rows[t.toNat]:=by
     have:=zfz (xs:=rows) (j:=t.toNat) (v:=rows[t.toNat]) (by simp [ht])
     rw [<- this]
     congr 1
     omega
    have hrow:=hr rows[t.toNat] (List.getElem_mem ht)
    have hno:=none_has rows[t.toNat] (List.getElem_mem ht)
    have hmem:rows[t.toNat]∈rows:=List.getElem_mem ht
    generalize rows[t.toNat]=row at ea hrow hno hmem
    obtain ⟨n,xs,p,rfl,e,hrs,hx0,hp0⟩:=hrow
    have hni:i∉xs:=fun z=>by
     simp only [zpb,e,zbp] at hno
     have:xs.any (· == i)=true:=List.any_eq_true.mpr ⟨i,z,by simp⟩
     rw [this] at hno
     cases hno
    have hnb:n≠b:=fun z=>by
     subst z
     obtain ⟨y,e3⟩:=q
     rw [e3] at e
     cases e
    have e2:=x2.2 n _ hnb e
    obtain ⟨hpw,hbd⟩:=zby.mp hrs
    have hxl:(xs.length:Int)<=m:=by have:=zeV hrs (by omega);simpa using this
    have esn:((xs.map D.int)++[D.int i])=(xs++[i]).map D.int:=by simp
    simp only [zov,ea,zfR,zam,zg0,List.set,zjA,zbx,zaM,za6,zcB,zaP,zaG,zeZ,pure_bind,bind_assoc,zoc,zan,zcl e2,zml,zhe,qaE,qaJ,zaA (show 0+1<=1000 by decide),zpe,qaH,
      zaA (show xs.length+(0+1)<=1000 by omega),esn,zes (show (xs++[i]).length<64 by simp;omega),zhC,zmy,zoV]
    have e3:ixN (0+1+1) 0=some 0:=rfl
    simp only [zan,zcl e2,qaE,qaJ,e3,zfR,zam,zfY,List.set]
    have hlt:n<h2.length:=(qac.mp e2).1
    refine ih ?_ ?_ ?_
    ·obtain ⟨y,ey⟩:=x2.1
     exact ⟨y,by rw [qao hnb];exact ey⟩
    ·intro y hy
     obtain ⟨n',xs',p',rfl,e',r1,r2,r3⟩:=Row.ext q x2 (hr y hy)
     by_cases hnn:n'=n
     ·subst hnn
      refine ⟨n',zbF (xs++[i]),p,rfl,qai hlt,zby.mpr ⟨zpP hpw hni,fun z hz=> ?_⟩,fun z=> ?_,hp0⟩
      ·have:=(zau (xs++[i])).mem_iff.mp hz
       rcases qaK.mp this with w | w
       ·exact hbd z w
       ·simp at w;omega
      ·have:=(zau (xs++[i])).length_eq
       rw [z] at this
       simp at this
     ·exact ⟨n',xs',p',rfl,by rw [qao (Ne.symm hnn)];exact e',r1,r2,r3⟩
    ·intro j hj
     rcases qaP.mp hj with rfl | hj
     ·exact ⟨.cel n,hmem,n,zbF (xs++[j]),p,rfl,qai hlt,(zau (xs++[j])).mem_iff.mpr (by simp)⟩
     ·obtain ⟨y,hy,n',xs',p',rfl,e',hj'⟩:=Cov.ext q x2 (hc j hj)
      by_cases hnn:n'=n
      ·subst hnn
       rw [e2] at e'
       have exs:xs=xs':=by
        have z:xs.map D.int=xs'.map D.int:=by injection (Option.some.inj e') with z;simpa using (List.cons.inj z).1
        exact (List.map_inj_right fun a b h=>by injection h).mp z
       subst exs
       exact ⟨_,hy,n',zbF (xs++[i]),p,rfl,qai hlt,(zau (xs++[i])).mem_iff.mpr (List.mem_append_left _ hj')⟩
      ·exact ⟨_,hy,n',xs',p',rfl,by rw [qao (Ne.symm hnn)];exact e',hj'⟩
   ·rename_i c
    simp only [zeE,zam]
    refine ih q hr fun j hj=> ?_
    rcases qaP.mp hj with rfl | hj
    ·obtain ⟨y,hy⟩:=List.exists_mem_of_ne_nil (rows.filterMap fun d=>if zpb h j d=true then some d else none) (fun z=>c (by rw [z];rfl))
     obtain ⟨z,hz,ez⟩:=List.mem_filterMap.mp hy
     split at ez
     ·rename_i c2
      obtain ⟨n,xs,p,rfl,e,_⟩:=hr z hz
      simp only [zpb,e,zbp] at c2
      obtain ⟨k,hk,ek⟩:=List.any_eq_true.mp c2
      exact ⟨_,hz,n,xs,p,rfl,e,(show k=j by simpa using ek)▸hk⟩
     ·cases ez
    ·exact hc j hj
theorem zqb {h:Hh} {b:Nat} {lots:Int} {P:D->Hh->Prop} (z0:1<=lots) (z1:lots<=12) (q:Bx b h) (k: ∀ (m:Int) (os:List D) h',Bx b h'->1<=m->m<=10->1<=os.length->(os.length:Int)<=lots->(∀ o∈os,zg4 m o=true)->(∀ i:Int,0<=i->i<m-> ∃ o∈os, ∃ (xs:List Int) (p:Int),o= .tup [.tup (xs.map D.int),.int p]/\i∈xs)->P (.tup [.int m,.tup os]) h'):wp (F_48 [.cel b,.int 10,.int lots]) h P:=by
 rw [d_48]
 simp only [G_48,za7,zcY,zcB,zeZ,zbx,zaM,za6,zaG,zaP,pure_bind,bind_assoc,zbY,zan]
 refine zcp q (by decide) (by decide) fun t h2 t0 t1 x2=> ?_
 simp only [zdV,pure_bind,zam,zg0,List.set,za7,zcY,zcB,zi2,zaM,za6,zeZ,zpF,bind_assoc,zan,qaE,qaJ,zaA (show 0+1+1+1+1<=1000 by decide),zbx,zaG,zaP,zbY]
 refine zcp x2.1 (by decide) (by decide) fun f h3 f0 f1 x3=> ?_
 obtain ⟨far,ef,g0,g1⟩: ∃ far:Int,atI [D.int 3,.int 9,.int 50,.int 1000000000000] f=some (.int far)/\0<far/\far<2^64:=by
  have:f=0\/f=1\/f=2\/f=3:=by omega
  rcases this with rfl | rfl | rfl | rfl
  ·exact ⟨3,rfl,by decide,by decide⟩
  ·exact ⟨9,rfl,by decide,by decide⟩
  ·exact ⟨50,rfl,by decide,by decide⟩
  ·exact ⟨1000000000000,rfl,by decide,by decide⟩
 simp only [zov,ef,zfR,zam,zg0,List.set,za7,zcY,zan]
 unfold zaJ
 simp only [zhX,zaM,za6,zcB,zeZ,zbx,zaG,zaP,pure_bind,bind_assoc,zbY,zan]
 refine zcp x3.1 (by omega) (by omega) fun u h4 u0 u1 x4=> ?_
 have eb:zaw [none,some 0,some 3,some 4] [some (.cel b),some (.int 10),some (.int lots),some (.int (1+t)),some (.int far),none,none,none]=[none,some (D.cel b),some (.int (1+t)),some (.int far)]:=rfl
 simp only [zdV,pure_bind,zc4 (show 0<=1+u by omega) (show 1+u<1000 by omega),zem,zaA (show (1+u).toNat<=1000 by omega),eb,zan,zam]
 refine zk9 (by omega) (by omega) g0 g1 _ x4.1 fun rows h5 x5 hl hr=> ?_
 rw [zem] at hl
 simp only [zam,zg0,List.set,za7,zht,zhX,zaM,za6,zaP,zaG,pure_bind,zc4 (show 0<=1+t by omega) (show 1+t<1000 by omega),zan]
 refine zg5 (by omega) (by omega) (fun z=>by rw [z] at hl;simp at hl;omega) (by omega) _ [] x5.1 (fun d hd=> ?_) hr (fun j hj=>by cases hj) fun x6 x7 h6 q6 hr6 hc6=> ?_
 ·obtain ⟨i,e,i0,i1⟩:=zgP hd
  exact ⟨i,e,i0,by omega⟩
 simp only [zg0,zcW,zhe,zaM,za6,zaP,zaG,pure_bind,bind_assoc,zbx,zan]
 have eb6:zaw [none] [some (.cel b),some (.int 10),some (.int lots),some (.int (1+t)),some (.int far),some (.lst rows),x6,x7]=[none]:=rfl
 simp only [zqS,zaP,zaG,pure_bind,zrZ,zam,zaA (show rows.length<=1000 by omega),eb6]
 refine zdM (k:=fun d=>some (zki h6 d)) (fun x hx=> ?_) ?_
 ·obtain ⟨n,xs,p,rfl,e,_⟩:=hr6 x hx
  simp only [zbn,zcx,List.set,pure_bind,if_true,zef,zhe,zaM,za6,zcB,zaG,zeZ,zoc,bind_assoc,zan,zcl e,zml,zte,zfR,zam,qaE,qaJ,zaA (show 0+1+1<=1000 by decide),zki,e]
  exact ⟨trivial,trivial⟩
 ·simp only [zhC,zam,pure_bind,qaE,qaJ,zaA (show 0+1+1<=1000 by decide),zgx,zan]
  have em:(rows.filterMap fun d=>some (zki h6 d))=rows.map (zki h6):=by simp
  rw [em]
  refine k (1+t) _ h6 q6 (by omega) (by omega) (by simp;omega) (by simp;omega) (fun o ho=> ?_) fun i i0 i1=> ?_
  rotate_left
  ·obtain ⟨r,hr',n,xs,p,rfl,e,hi⟩:=hc6 i (.inr (by rw [zdC,qaU];exact ⟨i,qaU.mpr ⟨i.toNat,List.mem_range.mpr (by omega),by omega⟩,rfl⟩))
   exact ⟨_,qaU.mpr ⟨_,hr',rfl⟩,xs,p,by simp only [zki,e],hi⟩
  obtain ⟨r,hr',rfl⟩:=qaU.mp ho
  obtain ⟨n,xs,p,rfl,e,r1,r2,r3⟩:=hr6 r hr'
  have hx:0<(xs.length:Int):=by
   have:=List.length_pos_iff.mpr r2
   omega
  simp only [zki,e,zg4,r1,qaH]
  simp [hx,r3]
  exact ⟨List.length_pos_iff.mpr r2,r3.2⟩
theorem zlT {m:Int} {o:D} (h:zg4 m o=true): ∃ (xs:List Int) (p:Int),o=zcJ (xs,p)/\(xs.Pairwise (· < ·)/\ ∀ x∈xs,0<=x/\x<m)/\xs≠[]/\(0<p/\p<2^64):=by
 unfold zg4 at h
 split at h
 ·rename_i ts p
  simp only [qaG,qaD] at h
  obtain ⟨⟨h1,h2⟩,h3⟩:=h
  obtain ⟨xs,rfl⟩:=ziv (zgp h1)
  exact ⟨xs,p,rfl,zby.mp h1,fun z=>by rw [z] at h2;simp at h2,h3⟩
 ·cases h
theorem zpn {m:Int} (m0:1<=m) (m1:m<=10): ∀ {ds:List D},ds.length<=12->(∀ o∈ds,zg4 m o=true)-> ∃ os,ds=os.map zcJ/\Stk m os/\ ∀ o∈os,o.2<2^64
 | [],_,_=>⟨[],rfl,⟨m0,m1,by simp,by simp,by simp,by simp,by simp⟩,by simp⟩
 | d::r,hl,h=>by
  obtain ⟨os,e,s,hP⟩:=zpn m0 m1 (ds:=r) (by simp at hl;omega) fun o ho=>h o (qan _ ho)
  obtain ⟨xs,p,e1,⟨h1,h2⟩,h3,h4,h5⟩:=zlT (h d qau)
  have hlen:((xs,p)::os).length<=12:=by rw [e] at hl;simpa using hl
  refine ⟨(xs,p)::os,by rw [qaM,e,e1],⟨m0,m1,hlen,?_,?_,?_,?_⟩,fun o ho=>by
    rcases qaP.mp ho with rfl | ho
    · exact h5
    · exact hP o ho⟩
  ·intro o ho
   rcases qaP.mp ho with rfl | ho
   ·exact h1
   ·exact s.up o ho
  ·intro o ho
   rcases qaP.mp ho with rfl | ho
   ·exact h2
   ·exact s.bd o ho
  ·intro o ho
   rcases qaP.mp ho with rfl | ho
   ·exact h3
   ·exact s.ne o ho
  ·intro o ho
   rcases qaP.mp ho with rfl | ho
   ·exact h4
   ·exact s.pos o ho
theorem zna:dIx (zbb m os) (.int 1)=pure (.tup (os.map zcJ)):=rfl
theorem zqR:dIx (zbb m os) (.int 0)=pure (.int m):=rfl
theorem zjO {n:Nat} {s0:Option D}: ∀ (os:List (List Int×Int)) {h:Hh} {xs:List Int} {x2:Option D} {P:Out->Hh->Prop},h[n]? = some (.lst (xs.map D.int))->xs.length+(os.flatMap (·.1)).length<=1000->
  (∀ x2' h',(∀ k,k≠n->h'[k]? = h[k]?)->h'.length=h.length->h'[n]? = some (.lst ((xs++os.flatMap (·.1)).map D.int))->P (.nx [s0,some (.cel n),x2']) h')->
  wp (zaQ (fun x sd=>do let sd1<-zaI 2 x sd;zbc sd1) (os.map zcJ) [s0,some (.cel n),x2]) h P
 | [],h,xs,x2,P,e,_,k=>by
  rw [List.map_nil,zct,zam]
  exact k x2 h (fun _ _=>rfl) rfl (by simpa using e)
 | o::os,h,xs,x2,P,e,hl,k=>by
  have hln:=(qac.mp e).1
  rw [List.flatMap_cons,qav] at hl
  have ih:=fun (x2':Option D)=>zjO (s0:=s0) (n:=n) os (h:=h.set n (.lst ((xs++o.1).map D.int))) (xs:=xs++o.1) (x2:=x2') (P:=P) (qai hln) (by rw [qav];omega) fun x2'' h' h1 h2 h3=>k x2'' h' (fun j hj=>(h1 j hj).trans (qao (Ne.symm hj))) (h2.trans (qaI ..)) (by rw [h3,List.flatMap_cons,List.append_assoc])
  rw [qaM,zbo]
  generalize zaQ (fun x sd=>do let sd1<-zaI 2 x sd;zbc sd1) (os.map zcJ)=zbk at ih ⊢
  have f:=zaA (show (xs.map D.int).length+(o.1.map D.int).length<=1000 by rw [qaH,qaH];omega)
  simp only [qaH] at f
  simp only [zbc]
  ac_nf0
  simp only [zan,zcl e,zam,qaH,f,zfY, <-List.map_append]
  exact ih _
theorem zoG {d:D} {os:List (List Int×Int)} {m:Int} (hd:zdr d=pure (os.map zcJ)) (m0:0<=m) (m1:m<=60) (hl:(os.flatMap (·.1)).length<=1000) (b: ∀ o∈os, ∀ x∈o.1,0<=x/\x<m):Ev (F_22 [d]) (tI (zdj (os.flatMap (·.1)))):=by
 refine .of_wp fun h=> ?_
 rw [d_22]
 simp only [G_22]
 ac_nf0
 simp only [hd,zam]
 refine zjO os (xs:=[]) (by simp) (by simpa using hl) fun x2 h' h1 h2 h3=> ?_
 ac_nf0
 have bb: ∀ x∈os.flatMap (·.1),0<=x/\x<m:=fun x hx=>by
  obtain ⟨o,ho,hx⟩:=List.mem_flatMap.mp hx
  exact b o ho x hx
 refine zhM (by simpa using h3) (ziB m0 m1 bb) (by omega) ?_
 ac_nf0
 refine ⟨trivial,⟨[.lst ((os.flatMap (·.1)).map D.int)],List.ext_getElem? fun j=> ?_⟩⟩
 by_cases hj:j=h.length
 ·subst hj
  rw [h3]
  simp
 ·rw [h1 j hj]
  by_cases hlt:j<h.length
  ·rw [qad hlt,qad hlt]
  ·rw [List.getElem?_eq_none (by simp;omega),List.getElem?_eq_none (by simp;omega)]
theorem zjB {os:List (List Int×Int)} {n:Nat} (h: ∀ o∈os,o.1.length<=n):(os.flatMap (·.1)).length<=os.length*n:=by
 induction os with
 | nil=>simp
 | cons o r ih=>
  rw [List.flatMap_cons,qav,qaE,Nat.succ_mul]
  have a1:=h o qau
  have a2:=ih fun x hx=>h x (qan _ hx)
  omega
theorem zoz (s:Stk m os) {d:D} {os':List (List Int×Int)} (hd:zdr d=pure (os'.map zcJ)) (hl:os'.length<=12) (hs: ∀ o∈os',o∈os):Ev (F_23 [zbb m os,d]) (.bl (((zdj (os'.flatMap (·.1))).length:Int)==m)):=by
 have tg:=zoG hd (m:=m) (by have:=s.m0;omega) (by have:=s.m1;omega) (by have:=zjB (os:=os') (n:=10) fun o ho=>s.olen o (hs o ho);omega) fun o ho=>s.bd o (hs o ho)
 refine .of_wp fun h=> ?_
 rw [d_23]
 simp only [G_23,zbb]
 ac_nf0
 refine tg.wp fun h' g=> ?_
 ac_nf0
 rw [zoM]
 ac_nf0
 exact ⟨trivial,g⟩
theorem zi8 (s:Stk m os) {s1:Option D}: ∀ (ls fs:List Int) (x3:Option D),(∀ x∈ls,0<=x/\x<os.length)->fs.Nodup->(∀ x∈fs,0<=x/\x<m)->
  ∃ (gs:List Int) (x3':Option D),zaQ (fun x sd=>do let sd1<-zaI 3 x sd;zdt sd1) (ls.map D.int) [some (zbb m os),s1,some (.lst (fs.map D.int)),x3]=pure (.nx [some (zbb m os),s1,some (.lst (gs.map D.int)),x3'])/\gs.Nodup/\(∀ x∈gs,0<=x/\x<m)/\ ∀ k,k∈gs↔k∈fs\/k∈(zbf os ls).flatMap (·.1)
 | [],fs,x3,_,hn,hb=>⟨fs,x3,rfl,hn,hb,fun k=>by simp [zbf]⟩
 | i::r,fs,x3,hl,hn,hb=>by
  have hi:=hl i qau
  have ho:os.getD i.toNat ([],0)∈os:=by
   have h1:i.toNat<os.length:=by omega
   simp [List.getD,h1]
  generalize eo:os.getD i.toNat ([],0)=o at ho
  have m0:=s.m0
  have m1:=s.m1
  have hnew:(fs++o.1.filter fun t=> !fs.any (· == t)).Nodup:=by
   rw [List.nodup_append]
   refine ⟨hn,((s.up o ho).imp fun z=>by omega).filter _,fun a ha b hb e=> ?_⟩
   subst e
   have:=(List.mem_filter.mp hb).2
   simp at this
   exact this a ha rfl
  have hbn: ∀ x∈fs++o.1.filter fun t=> !fs.any (· == t),0<=x/\x<m:=fun x hx=>(qaK.mp hx).elim (hb x) fun z=>s.bd o ho x (List.mem_filter.mp z).1
  obtain ⟨gs,y3,ih,g1,g2,g3⟩:=zi8 s r (fs++o.1.filter fun t=> !fs.any (· == t)) (some (.int i)) (fun x hx=>hl x (qan _ hx)) hnew hbn
  refine ⟨gs,y3,?_,g1,g2,fun k=> ?_⟩
  ·rw [qaM,zbo, <-ih]
   have ec:zaJ (iSq (cOp dIx (cOp dIx (cOp dIx (zag 0) (cK (.int 1))) (zag 3)) (cK (.int 0)))) (zaI 0) zds zdu [none,some 2] [some (zbb m os),s1,some (.lst (fs.map D.int)),some (.int i)]=pure (.lst ((o.1.filter fun t=> !fs.any (· == t)).map D.int)):=by
    rw [<- zdW (k:=fun d=>match d with | .int t=>if (!fs.any (· == t))=true then some (.int t) else none | d=>none) fun _=>rfl]
    refine zez ?_ (by rw [qaH];have:=s.olen o ho;omega) ?_
    ·simp only [zbb]
     ac_nf0
     rw [zfp hi.1 hi.2,eo]
     ac_nf0
    ·intro x hx
     obtain ⟨t,_,rfl⟩:=qaU.mp hx
     have eb:zaw [none,some 2] [some (zbb m os),s1,some (.lst (fs.map D.int)),some (.int i)]=[none,some (.lst (fs.map D.int))]:=rfl
     rw [eb]
     simp only [zbn,zds,zdu]
     ac_nf0
     rw [ziG]
     ac_nf0
     split<;>rfl
   simp only [zdt]
   ac_nf0
   rw [ec]
   have f1:=zbQ (by omega) hnew hbn
   rw [qav] at f1
   have f:=zaA (show fs.length+(o.1.filter fun t=> !fs.any (· == t)).length<=1000 by omega)
   ac_nf0
   simp only [zlD,qaH,f]
   ac_nf0
   rw [List.map_append]
  ·rw [g3 k]
   have eo2:zbf os (i::r)=o::zbf os r:=by unfold zbf;rw [qaM,eo]
   rw [eo2,List.flatMap_cons,qaK,qaK,List.mem_filter]
   constructor
   ·rintro ((h | h) | h)
    ·exact .inl h
    ·exact .inr (.inl h.1)
    ·exact .inr (.inr h)
   ·rintro (h | h | h)
    ·exact .inl (.inl h)
    ·by_cases c:k∈fs
     ·exact .inl (.inl c)
     ·exact .inl (.inr ⟨h,by simp;exact fun x hx e=>c (e▸hx)⟩)
    ·exact .inr h
theorem ztG (s:Stk m os) {ls:List Int} (b: ∀ x∈ls,0<=x/\x<os.length):F_49 [zbb m os,tI ls]=pure (tI (zdj ((zbf os ls).flatMap (·.1)))):=by
 obtain ⟨gs,x3,el,g1,g2,g3⟩:=zi8 s (s1:=some (tI ls)) ls [] none b .nil (fun x hx=>by cases hx)
 have:=s.m0
 have:=s.m1
 have hl:=zbQ (by omega) g1 g2
 rw [d_49]
 simp only [G_49]
 unfold tI at el
 simp only [List.map_nil,zcx,pure_bind] at el
 ac_nf0
 rw [el]
 ac_nf0
 rw [zfe (by omega)]
 ac_nf0
 have e3: ∀ k,k∈gs↔k∈(zbf os ls).flatMap (·.1):=fun k=>by rw [g3 k];simp
 rw [zh9 g1 e3]
theorem zgF (a b:Nat):Nat.gcd a b=Nat.gcd b (a % b):=by rw [Nat.gcd_comm a b,Nat.gcd_rec b a,Nat.gcd_comm]
theorem zpV {s0 s1:Option D} {n a:Nat} {x4:Option D}:zbP zak zal (n+1) [s0,s1,some (.int (a:Int)),some (.int ((0:Nat):Int)),x4]=pure (.nx [s0,s1,some (.int (a:Int)),some (.int 0),x4]):=by
 rw [zdv]
 simp only [zak]
 ac_nf0
 rfl
theorem zpw {s0 s1:Option D} {n a b:Nat} {x4:Option D} (hb:b≠0):zbP zak zal (n+1) [s0,s1,some (.int (a:Int)),some (.int (b:Int)),x4]=zbP zak zal n [s0,s1,some (.int (b:Int)),some (.int ((a % b:Nat):Int)),some (.int ((a % b:Nat):Int))]:=by
 rw [zdv]
 generalize zbP zak zal n=zbk
 simp only [zak,zal]
 ac_nf0
 rw [show decide ((0:Int)<(b:Int))=true by rw [qaD];omega]
 ac_nf0
 rw [zdz (by omega)]
 ac_nf0
 rfl
theorem zls {s0 s1:Option D}: ∀ (k n a b:Nat) (x4:Option D),b<=a->a*b<2^k->k<n-> ∃ y4,zbP zak zal n [s0,s1,some (.int (a:Int)),some (.int (b:Int)),x4]=pure (.nx [s0,s1,some (.int (Nat.gcd a b:Int)),some (.int 0),y4])
 | k,0,a,b,x4,_,_,h=>by omega
 | k,n+1,a,b,x4,hab,hk,h=>by
  by_cases hb:b=0
  ·subst hb
   exact ⟨x4,by rw [zpV,Nat.gcd_zero_right]⟩
  ·cases k with
   | zero=>
    have:1<=a*b:=Nat.mul_pos (by omega) (Nat.pos_of_ne_zero hb)
    omega
   | succ k=>
    obtain ⟨y4,ih⟩:=zls (s0:=s0) (s1:=s1) k n b (a % b) (some (.int ((a % b:Nat):Int))) (Nat.le_of_lt (Nat.mod_lt a (Nat.pos_of_ne_zero hb))) (euc hb hab hk) (by omega)
    exact ⟨y4,by rw [zpw hb,ih,zgF a b]⟩
theorem zrK {b r:Nat} (hb:b<bb) (h:r<=b):b*r<2^14000:=by
 have h1:b*r<=b*b:=Nat.mul_le_mul_left b h
 have h2:b*b<bb*bb:=Nat.mul_lt_mul'' hb hb
 have h3:bb*bb=2^14000:=by
  unfold bb
  rw [<- Nat.pow_add]
 omega
theorem zni {s0 s1:Option D} {n:Nat} {a:Int} {b:Nat} {x4:Option D} (hb:b≠0):zbP zak zal (n+1) [s0,s1,some (.int a),some (.int (b:Int)),x4]=zbP zak zal n [s0,s1,some (.int (b:Int)),some (.int (((a % (b:Int)).toNat:Nat):Int)),some (.int (((a % (b:Int)).toNat:Nat):Int))]:=by
 have e:(((a % (b:Int)).toNat:Nat):Int)=a % (b:Int):=Int.toNat_of_nonneg (Int.emod_nonneg _ (by omega))
 rw [zdv,e]
 generalize zbP zak zal n=zbk
 simp only [zak,zal]
 ac_nf0
 rw [show decide ((0:Int)<(b:Int))=true by rw [qaD];omega]
 ac_nf0
 rw [zdz (by omega)]
 ac_nf0
theorem zs0 (a:Int) {b:Nat} (hb:0<b):(a % (b:Int)).toNat<=b:=by
 have h1:=Int.emod_lt_of_pos a (b:=(b:Int)) (by omega)
 have h0:=Int.emod_nonneg a (b:=(b:Int)) (by omega)
 omega
theorem ztZ {a:Int} {b:Nat} (h0:0<b) (hb:b<bb):F_4 [.int a,.int (b:Int)]=pure (.int (Nat.gcd a.natAbs b:Int)):=by
 have hr:=zs0 a h0
 obtain ⟨y4,ih⟩:=zls (s0:=some (.int a)) (s1:=some (.int (b:Int))) 14000 19999 b (a % (b:Int)).toNat (some (.int (((a % (b:Int)).toNat:Nat):Int))) hr (zrK hb hr) (by decide)
 have e:zbP zak zal 20000 [some (.int a),some (.int (b:Int)),some (.int a),some (.int (b:Int)),none]=pure (.nx [some (.int a),some (.int (b:Int)),some (.int (Nat.gcd a.natAbs b:Int)),some (.int 0),y4]):=by
  rw [show (20000:Nat)=19999+1 from rfl,zni (by omega),ih,zpN a h0]
 rw [d_4]
 simp only [G_4]
 ac_nf0
 rw [show zeO 20000 zak zal [some (.int a),some (.int (b:Int)),some (.int a),some (.int (b:Int)),none]=zbP zak zal 20000 [some (.int a),some (.int (b:Int)),some (.int a),some (.int (b:Int)),none] from rfl,e]
 ac_nf0
theorem zvM {a:Int} {b:Nat} (h0:0<b):qD (mkRat a b)= .tup [.int (a / (Nat.gcd a.natAbs b:Int)),.int ((b:Int) / (Nat.gcd a.natAbs b:Int))]:=by
 unfold qD
 rw [Rat.num_mkRat,Rat.den_mkRat,qa5 (by omega),qa5 (by omega),Nat.gcd_comm b,Int.natCast_ediv]
theorem zen {a:Int} {b:Nat} (h0:0<b) (h1:b<bb):F_3 [.int a,.int (b:Int)]=pure (qD (mkRat a b)):=by
 have g0:=Nat.gcd_pos_of_pos_right a.natAbs h0
 have g1:=Nat.gcd_le_right a.natAbs h0
 rw [zvM h0,d_3]
 simp only [G_3]
 ac_nf0
 rw [ztZ h0 h1]
 ac_nf0
 rw [zd7 g0 (by omega),zd7 g0 (by omega)]
 ac_nf0
theorem zq5 {s0 s1:Option D} {n a:Nat}:zbP zaF zaL (n+1) [s0,s1,some (.int (a:Int)),some (.int ((0:Nat):Int))]=pure (.nx [s0,s1,some (.int (a:Int)),some (.int 0)]):=by
 rw [zdv]
 simp only [zaF]
 ac_nf0
 rfl
theorem zlr {s0 s1:Option D} {n a b:Nat} (hb:b≠0):zbP zaF zaL (n+1) [s0,s1,some (.int (a:Int)),some (.int (b:Int))]=zbP zaF zaL n [s0,s1,some (.int (b:Int)),some (.int ((a % b:Nat):Int))]:=by
 rw [zdv]
 generalize zbP zaF zaL n=zbk
 simp only [zaF,zaL,zry]
 ac_nf0
 rw [show decide ((0:Int)<(b:Int))=true by rw [qaD];omega]
 ac_nf0
 rw [zdz (by omega)]
 ac_nf0
 rfl
theorem zlL {s0 s1:Option D}: ∀ (k n a b:Nat),b<=a->a*b<2^k->k<n->zbP zaF zaL n [s0,s1,some (.int (a:Int)),some (.int (b:Int))]=pure (.nx [s0,s1,some (.int (Nat.gcd a b:Int)),some (.int 0)])
 | k,0,a,b,_,_,h=>by omega
 | k,n+1,a,b,hab,hk,h=>by
  by_cases hb:b=0
  ·subst hb
   rw [zq5,Nat.gcd_zero_right]
  ·cases k with
   | zero=>
    have:1<=a*b:=Nat.mul_pos (by omega) (Nat.pos_of_ne_zero hb)
    omega
   | succ k=>
    have ih:=zlL (s0:=s0) (s1:=s1) k n b (a % b) (Nat.le_of_lt (Nat.mod_lt a (Nat.pos_of_ne_zero hb))) (euc hb hab hk) (by omega)
    rw [zlr hb,ih,zgF a b]
theorem zmT {a:Int} {b:Nat} (h0:0<b) (h1:b<bb):F_51 [.int a,.int (b:Int)]=pure (qD (mkRat a b)):=by
 have g0:=Nat.gcd_pos_of_pos_right a.natAbs h0
 have g1:=Nat.gcd_le_right a.natAbs h0
 have hr:=Nat.le_of_lt (Nat.mod_lt a.natAbs h0)
 have e:zbP zaF zaL 20000 [some (.int a),some (.int (b:Int)),some (.int (a.natAbs:Int)),some (.int (b:Int))]=pure (.nx [some (.int a),some (.int (b:Int)),some (.int (Nat.gcd a.natAbs b:Int)),some (.int 0)]):=by
  rw [show (20000:Nat)=19999+1 from rfl,zlr (by omega),zlL 14000 19999 b (a.natAbs % b) hr (zrK h1 hr) (by decide),zgF a.natAbs b]
 have a1: ∀ z:Int,ztJ [.int z]=pure (.int (z.natAbs:Int)):=fun z=>by
  show pure (D.int (if z<0 then -z else z))=_
  congr 2
  split<;>omega
 rw [zvM h0,d_51]
 simp only [G_51]
 ac_nf0
 rw [zsf]
 ac_nf0
 rw [a1,a1]
 ac_nf0
 rw [Int.natAbs_natCast]
 rw [show zeO 20000 zaF zaL [some (.int a),some (.int (b:Int)),some (.int (a.natAbs:Int)),some (.int (b:Int))]=zbP zaF zaL 20000 [some (.int a),some (.int (b:Int)),some (.int (a.natAbs:Int)),some (.int (b:Int))] from rfl,e]
 ac_nf0
 rw [zd7 g0 (by omega),zd7 g0 (by omega)]
 ac_nf0
noncomputable def zdA (p k:Nat):D:= .tup [.int ((p / Nat.gcd p k:Nat):Int),.int ((k / Nat.gcd p k:Nat):Int)]
theorem zsc {p c p' c':Nat} (hc:0<c) (hc':0<c'):(p / Nat.gcd p c)*(c' / Nat.gcd p' c')<(p' / Nat.gcd p' c')*(c / Nat.gcd p c)↔p*c'<p'*c:=by
 have g0:=Nat.gcd_pos_of_pos_right p hc
 have g0':=Nat.gcd_pos_of_pos_right p' hc'
 obtain ⟨a,ea⟩:=Nat.gcd_dvd_left p c
 obtain ⟨b,eb⟩:=Nat.gcd_dvd_right p c
 obtain ⟨a',ea'⟩:=Nat.gcd_dvd_left p' c'
 obtain ⟨b',eb'⟩:=Nat.gcd_dvd_right p' c'
 generalize Nat.gcd p c=g at*
 generalize Nat.gcd p' c'=g' at*
 subst ea eb ea' eb'
 rw [Nat.mul_div_cancel_left _ g0,Nat.mul_div_cancel_left _ g0,Nat.mul_div_cancel_left _ g0',Nat.mul_div_cancel_left _ g0']
 rw [show g*a*(g'*b')=(g*g')*(a*b') by ac_rfl,show g'*a'*(g*b)=(g*g')*(a'*b) by ac_rfl]
 exact (Nat.mul_lt_mul_left (Nat.mul_pos g0 g0')).symm
theorem zew {p k:Nat} (h:0<k):zdA p k=qD (mkRat p k):=by
 rw [zvM h]
 unfold zdA
 rw [Int.natAbs_natCast,Int.natCast_ediv,Int.natCast_ediv]
theorem znP {p k:Nat} (h0:0<k) (h1:k<bb):F_3 [.int (p:Int),.int (k:Int)]=pure (zdA p k):=by
 rw [zew h0]
 exact zen h0 h1
theorem zoy {p c p' c':Nat} (hc:0<c) (hc':0<c'):mkRat p c<mkRat p' c'↔p*c'<p'*c:=by
 have e1:=zew (p:=p) hc
 have e2:=zew (p:=p') hc'
 unfold zdA qD at e1 e2
 simp only [D.tup.injEq,List.cons.injEq,D.int.injEq,and_true] at e1 e2
 rw [Rat.lt_iff, <-e1.1, <-e1.2, <-e2.1, <-e2.2, <-zsc hc hc']
 omega
theorem zdI {d:D} (k:kn d=true):F_0 [d]=pure (.bl (isI d)):=by
 rw [d_0]
 simp only [G_0,zcW,zoB,znL,zaG,pure_bind,bind_assoc,zp8 k,zs4 k,zdg,zoC]
 cases d<;>simp [isI]
theorem zqe {d:D} (k:kn d=true):F_1 [d]=pure (.bl (match d with | .tup [_,_]=>true | _=>false)):=by
 have et:=zkN k
 rw [d_1]
 simp only [G_1]
 ac_nf0
 rw [et]
 cases d with
 | tup ds=>
  simp only [isT]
  ac_nf0
  rw [zoM]
  ac_nf0
  match ds with
  | []=>rfl
  | [x]=>rfl
  | [x,y]=>rfl
  | x::y::z::r=>
   rw [show (((x::y::z::r).length:Int)==2)=false by rw [beq_eq_false_iff_ne];simp;omega]
 | _=>simp only [isT];ac_nf0
theorem ziz {d:D} (g:sv d):F_6 [d]=pure (.bl (pF d)):=by
 obtain ⟨k,g⟩:=g
 have ep:=zqe k
 rw [d_6]
 simp only [G_6]
 ac_nf0
 rw [ep]
 cases d with
 | tup ds=>
  obtain ⟨kd,hb⟩:=g ds rfl
  match ds,kd,hb with
  | [],_,_=>ac_nf0;rfl
  | [x],_,_=>ac_nf0;cases x<;>rfl
  | x::y::z::r,_,_=>ac_nf0;cases x<;>cases y<;>rfl
  | [x,y],kd,hb=>
   have kx:=kd x (by simp)
   have ky:=kd y (by simp)
   ac_nf0
   rw [zdI kx]
   cases x with
   | int a=>
    simp only [isI]
    ac_nf0
    rw [zdI ky]
    cases y with
    | int b=>
     simp only [isI]
     ac_nf0
     have hbb:=hb a b rfl
     by_cases h0:0<b
     ·have ef:=ztZ (a:=a) (b:=b.toNat) (by omega) hbb
      rw [show ((b.toNat:Nat):Int)=b by omega] at ef
      rw [decide_eq_true h0]
      ac_nf0
      rw [ef]
      ac_nf0
      rw [zoM]
      show _=(pure (.bl (decide (0<b) && (Nat.gcd a.natAbs b.toNat==1))):M D)
      rw [decide_eq_true h0,Bool.true_and]
      ac_nf0
      congr 2
      rw [Bool.eq_iff_iff,beq_iff_eq,beq_iff_eq]
      omega
     ·rw [decide_eq_false h0]
      ac_nf0
      show (pure (D.bl false):M D)=pure (.bl (decide (0<b) && (Nat.gcd a.natAbs b.toNat==1)))
      rw [decide_eq_false h0]
      rfl
    | _=>simp only [isI];ac_nf0;rfl
   | _=>simp only [isI];ac_nf0;cases y<;>rfl
 | _=>ac_nf0;rfl
theorem zjT {s0:Option D}: ∀ (rs:List (Int×Nat)) (A:Int) (B k:Nat) (x3:Option D),Sz A B k rs-> ∃ (A':Int) (B':Nat) (y3:Option D),0<B'/\B'<=2^2000/\mkRat A' B'=(rs.map rq).foldl (· + ·) (mkRat A B)/\zaQ (fun x sd=>zcs (List.set sd 3 (some x))) (rs.map pD) [s0,some (.int A),some (.int (B:Int)),x3]=pure (.nx [s0,some (.int A'),some (.int (B':Int)),y3])
 | [],A,B,k,x3,z=>⟨A,B,x3,z.b0,z.B_le,rfl,rfl⟩
 | r::rs,A,B,k,x3,z=>by
  obtain ⟨A',B',y3,h1,h2,h3,ih⟩:=zjT (s0:=s0) rs _ _ _ (some (pD r)) z.next
  refine ⟨A',B',y3,h1,h2,?_,?_⟩
  ·rw [h3,qaM,List.foldl_cons,zdH z.b0 (z.p0 r qau)]
  ·have hA:=z.A_le
   have hB:=z.B_le
   obtain ⟨d1,d2⟩:=z.d_le
   have hn:=z.r1 r qau
   rw [qaM,zbo, <-ih]
   generalize zaQ (fun x sd=>zcs (List.set sd 3 (some x))) (rs.map pD)=zbk
   simp only [zcs]
   unfold pD
   ac_nf0
   rw [zmZ (zaY (by decide) hA) (by rw [Int.natAbs_natCast];exact zaY (by decide) d2),zmZ (zaY (n:=1800) (by decide) hn) (by rw [Int.natAbs_natCast];exact zaY (by decide) hB)]
   ac_nf0
   rw [zmZ (by rw [Int.natAbs_natCast];exact zaY (by decide) hB) (by rw [Int.natAbs_natCast];exact zaY (by decide) d2)]
   ac_nf0
   rw [Int.natCast_mul]
noncomputable def qs (rs:List Rat):Rat:=rs.foldl (· + ·) 0
theorem zsR:mkRat 0 1=0:=by decide +kernel
theorem zkG {s0:Option D}: ∀ (rs:List (Int×Nat)) (A:Int) (B k:Nat) (x3:Option D),Sz A B k rs-> ∃ y3,zaQ (fun x sd=>zcw (List.set sd 3 (some x))) (rs.map pD) [s0,some (.int (mkRat A B).num),some (.int ((mkRat A B).den:Int)),x3]=pure (.nx [s0,some (.int ((rs.map rq).foldl (· + ·) (mkRat A B)).num),some (.int (((rs.map rq).foldl (· + ·) (mkRat A B)).den:Int)),y3])
 | [],A,B,k,x3,z=>⟨x3,rfl⟩
 | r::rs,A,B,k,x3,z=>by
  obtain ⟨y3,ih⟩:=zkG (s0:=s0) rs _ _ _ (some (pD r)) z.next
  refine ⟨y3,?_⟩
  have hr0:=z.p0 r qau
  have hA:=qaS (zhH A z.b0) z.A_le
  have hd:=ze3 A z.b0
  have hB:=qaS hd z.B_le
  obtain ⟨d1,d2⟩:=z.d_le
  have hn:=z.r1 r qau
  have hdp:=(mkRat A B).den_pos
  have hbb:(mkRat A B).den*r.2<bb:=Nat.lt_of_le_of_lt (qaS (Nat.mul_le_mul_right _ hd) d1) (qaw (Nat.pow_lt_pow_right (by decide) (by decide:2000<2001)) (zku (by decide)))
  have ef:=zmT (a:=(mkRat A B).num*(r.2:Int)+r.1*((mkRat A B).den:Int)) (b:=(mkRat A B).den*r.2) (Nat.mul_pos hdp hr0) hbb
  have er:mkRat ((mkRat A B).num*(r.2:Int)+r.1*((mkRat A B).den:Int)) ((mkRat A B).den*r.2)=mkRat (A*(r.2:Int)+r.1*(B:Int)) (B*r.2):=by
   rw [<- zdH hdp hr0,Rat.mkRat_self,zdH z.b0 hr0]
  rw [er,Int.natCast_mul] at ef
  have e2:((r::rs).map rq).foldl (· + ·) (mkRat A B)=(rs.map rq).foldl (· + ·) (mkRat (A*(r.2:Int)+r.1*(B:Int)) (B*r.2)):=by
   rw [qaM,List.foldl_cons,zdH z.b0 hr0]
  rw [e2,qaM (f:=pD),zbo, <-ih]
  generalize zaQ (fun x sd=>zcw (List.set sd 3 (some x))) (rs.map pD)=zbk
  generalize mkRat (A*(r.2:Int)+r.1*(B:Int)) (B*r.2)=q at ef
  generalize mkRat A B=p at hA hB ef
  simp only [zcw]
  unfold qD at ef
  unfold pD
  ac_nf0
  rw [zmZ (zaY (by decide) hA) (by rw [Int.natAbs_natCast];exact zaY (by decide) d2),zmZ (zaY (n:=1800) (by decide) hn) (by rw [Int.natAbs_natCast];exact zaY (by decide) hB)]
  ac_nf0
  rw [zmZ (by rw [Int.natAbs_natCast];exact zaY (by decide) hB) (by rw [Int.natAbs_natCast];exact zaY (by decide) d2)]
  ac_nf0
  rw [ef]
  ac_nf0
structure Pz (ps:List (Int×Nat)):Prop where
 dp1:dpp ps<=2^2000
 ln:ps.length<=14
 r1: ∀ r∈ps,r.1.natAbs<=tt
 p0: ∀ r∈ps,0<r.2
theorem Pz.sz {ps:List (Int×Nat)} (z:Pz ps):Sz 0 1 0 ps:=⟨by decide,by rw [Nat.one_mul];exact z.dp1,by simp,by rw [Nat.zero_add];exact z.ln,z.r1,z.p0⟩
theorem zvF {ps:List (Int×Nat)} (z:Pz ps) {d:D} (hd:zdr d=pure (ps.map pD)):F_52 [d]=pure (qD (qs (ps.map rq))):=by
 obtain ⟨y3,e⟩:=zkG (s0:=some d) ps 0 1 0 none z.sz
 rw [zsR] at e
 rw [show (0:Rat).num=0 from rfl,show (0:Rat).den=1 from rfl] at e
 rw [d_52]
 simp only [G_52]
 unfold qs
 ac_nf0
 rw [hd]
 ac_nf0
 rw [show D.int ((1:Nat):Int)= .int 1 from rfl] at e
 rw [e]
 ac_nf0
 rfl
theorem zvW {ps:List (Int×Nat)} (z:Pz ps) {d:D} (hd:zdr d=pure (ps.map pD)):F_7 [d]=pure (qD (qs (ps.map rq))):=by
 obtain ⟨A',B',y3,h1,h2,h3,e⟩:=zjT (s0:=some d) ps 0 1 0 none z.sz
 rw [zsR] at h3
 have hbb:B'<bb:=Nat.lt_of_le_of_lt h2 (qaw (Nat.pow_lt_pow_right (by decide) (by decide:2000<2001)) (zku (by decide)))
 have er:=zen (a:=A') h1 hbb
 rw [h3] at er
 rw [d_7]
 simp only [G_7]
 ac_nf0
 rw [hd]
 ac_nf0
 rw [show D.int ((1:Nat):Int)= .int 1 from rfl] at e
 rw [e]
 ac_nf0
 rw [er]
 ac_nf0
 rfl
structure Rz (rs:List Rat):Prop where
 dp1:dp rs<=2^2000
 ln:rs.length<=14
 r1: ∀ r∈rs,r.num.natAbs<=2^1700
theorem Rz.pz {rs:List Rat} (z:Rz rs):Pz (rs.map nd):=⟨by rw [zo1];exact z.dp1,by rw [qaH];exact z.ln,fun p hp=>by
  obtain ⟨r,hr,rfl⟩:=qaU.mp hp
  exact qaS (z.r1 r hr) (Nat.pow_le_pow_right (by decide) (by decide)),fun p hp=>by
  obtain ⟨r,hr,rfl⟩:=qaU.mp hp
  exact r.den_pos⟩
theorem zpy {rs:List Rat} (z:Rz rs) {d:D} (hd:zdr d=pure (rs.map qD)):F_52 [d]=pure (qD (qs rs)):=by
 have:=zvF z.pz (d:=d) (by rw [ztr];exact hd)
 rw [zrc] at this
 exact this
theorem zoR {rs:List Rat} (z:Rz rs) {d:D} (hd:zdr d=pure (rs.map qD)):F_7 [d]=pure (qD (qs rs)):=by
 have:=zvW z.pz (d:=d) (by rw [ztr];exact hd)
 rw [zrc] at this
 exact this
theorem qsP {ps:List (Int×Nat)} (z:Pz ps):(qs (ps.map rq)).num.natAbs<2^6000/\(qs (ps.map rq)).den<2^6000:=by
 have key: ∀ (ps:List (Int×Nat)) (A:Int) (B k:Nat),Sz A B k ps-> ∃ (A':Int) (B':Nat) (k':Nat),Sz A' B' k' []/\mkRat A' B'=(ps.map rq).foldl (· + ·) (mkRat A B):=by
  intro ps
  induction ps with
  | nil=>exact fun A B k z=>⟨A,B,k,z,rfl⟩
  | cons r ps ih=>
   intro A B k z
   obtain ⟨A',B',k',z',e⟩:=ih _ _ _ z.next
   exact ⟨A',B',k',z',by rw [e,qaM,List.foldl_cons,zdH z.b0 (z.p0 r qau)]⟩
 obtain ⟨A',B',k',z',e⟩:=key ps 0 1 0 z.sz
 rw [zsR] at e
 unfold qs
 rw [<- e]
 exact ⟨zaY (n:=3804) (by decide) (qaS (zhH A' z'.b0) z'.A_le),zaY (n:=2000) (by decide) (qaS (ze3 A' z'.b0) z'.B_le)⟩
theorem ztE {rs:List Rat} (z:Rz rs):(qs rs).num.natAbs<2^6000/\(qs rs).den<2^6000:=by
 have:=qsP z.pz
 rw [zrc] at this
 exact this
theorem ztp {a b:List Rat} (h:a.Sublist b):dp a<=dp b:=by
 induction h with
 | slnil=>exact qaV _
 | @cons l1 l2 r _ ih=>
  have h1:1*dp l2<=r.den*dp l2:=Nat.mul_le_mul_right _ r.den_pos
  show dp l1<=r.den*dp l2
  omega
 | @cons_cons l1 l2 r _ ih=>exact Nat.mul_le_mul_left _ ih
noncomputable def pk (rs:List Rat) (ts:List Int):List Rat:=ts.map fun t=>rs.getD t.toNat 0
theorem zs2 {rs:List Rat} {ts:List Int} (hu:ts.Pairwise (· < ·)) (hb: ∀ t∈ts,0<=t/\t<(rs.length:Int)):(pk rs ts).Sublist rs:=by
 have e:ts=((List.range rs.length).filter fun (k:Nat)=>ts.any (· == (k:Int))).map fun (k:Nat)=>(k:Int):=by
  refine zib hu ?_ fun t=> ?_
  ·rw [List.pairwise_map]
   exact (List.pairwise_lt_range.filter _).imp fun h=>by omega
  ·rw [qaU]
   constructor
   ·intro ht
    have:=hb t ht
    refine ⟨t.toNat,List.mem_filter.mpr ⟨List.mem_range.mpr (by omega),?_⟩,by omega⟩
    rw [show ((t.toNat:Nat):Int)=t by omega]
    exact zcg.mpr ht
   ·rintro ⟨k,hk,rfl⟩
    exact zcg.mp (List.mem_filter.mp hk).2
 have e2:rs=(List.range rs.length).map fun k=>rs.getD k 0:=by
  refine List.ext_getElem (by simp) fun i h1 h2=> ?_
  simp [List.getD,h1]
 unfold pk
 rw [e,qaT]
 conv=>rhs;rw [e2]
 exact (List.filter_sublist.map _)
theorem Rz.pick {rs:List Rat} (z:Rz rs) {ts:List Int} (hu:ts.Pairwise (· < ·)) (hb: ∀ t∈ts,0<=t/\t<(rs.length:Int)):Rz (pk rs ts):=by
 have hs:=zs2 hu hb
 exact ⟨qaS (ztp hs) z.dp1,qaS hs.length_le z.ln,fun r hr=>z.r1 r (hs.subset hr)⟩
noncomputable def bB (rs:List Rat) (o:List Int×Int):Bool:= !decide (o.2*((qs (pk rs o.1)).den:Int)<(qs (pk rs o.1)).num)
theorem zwG {rs:List Rat} {t:Int} (h0:0<=t) (h1:t<(rs.length:Int)):atI (rs.map qD) t=some (qD (rs.getD t.toNat 0)):=by
 have hl:t.toNat<rs.length:=by omega
 have:=zfz (xs:=rs.map qD) (j:=t.toNat) (v:=qD (rs.getD t.toNat 0)) (by simp [List.getD,hl])
 rw [<- this]
 congr 1
 omega
theorem zqB {fi:FA} {src:List (Option Nat)} {sd:Sd} {te:FE} {rs:List Rat} {ts:List Int} (he:te=cOp dIx (zag 1) (zag 0)) (hl:ts.length<=1000) (hb: ∀ t∈ts,0<=t/\t<(rs.length:Int)) (hi:fi sd=pure (ts.map D.int)) (eb:zaw src sd=[none,some (.tup (rs.map qD))]):
  zaJ fi (zaI 0) (fun _=>pure true) te src sd=pure (.lst ((pk rs ts).map qD)):=by
 unfold pk
 rw [qaT,show ts.map (qD∘fun t=>rs.getD t.toNat 0)=ts.filterMap fun t=>some (qD (rs.getD t.toNat 0)) by simp [Function.comp_def]]
 refine zb8 (g':=D.int) hi hl fun t ht=> ?_
 rw [eb,he]
 simp only [zbn]
 ac_nf0
 rw [zwG (hb t ht).1 (hb t ht).2]
 ac_nf0
theorem zm5 {o:List Int×Int} {rs:List Rat} (z:Rz rs) (hu:o.1.Pairwise (· < ·)) (hb: ∀ t∈o.1,0<=t/\t<(rs.length:Int)) (hl:o.1.length<=12) (hp:o.2.natAbs<2^6000):F_43 [zcJ o,.tup (rs.map qD)]=pure (.bl (bB rs o)):=by
 have zp:=z.pick hu hb
 obtain ⟨n1,n2⟩:=ztE zp
 have et:=zoR zp (d:= .lst ((pk rs o.1).map qD)) rfl
 have ec: ∀ {s2:Option D},zaJ (iSq (cOp dIx (zag 0) (cK (.int 0)))) (zaI 0) (fun _=>pure true) zeN [none,some 1] [some (.tup [.tup (o.1.map D.int),.int o.2]),some (.tup (rs.map qD)),s2]=pure (.lst ((pk rs o.1).map qD)):=fun {s2}=>zqB rfl (by omega) hb (by ac_nf0) rfl
 have el:F_5 [.tup [.int o.2,.int 1],qD (qs (pk rs o.1))]=pure (.bl (decide (o.2*((qs (pk rs o.1)).den:Int)<(qs (pk rs o.1)).num))):=by
  rw [d_5]
  simp only [G_5]
  unfold qD
  ac_nf0
  rw [zmZ hp (by rw [Int.natAbs_natCast];exact n2),zmZ n1 (by decide +kernel)]
  ac_nf0
  simp only [zmW]
  ac_nf0
  rw [Int.mul_one]
 rw [d_43]
 simp only [G_43]
 unfold zcJ tI bB
 generalize (pk rs o.1).map qD=ps at et ec
 generalize qs (pk rs o.1)=q at et el
 ac_nf0
 rw [ec]
 ac_nf0
 rw [et]
 ac_nf0
 rw [el]
 ac_nf0
theorem zn8 {d:D} (g:sv d):F_42 [d]=pure (.bl (pS d)):=by
 have ef:=ziz g
 rw [d_42]
 simp only [G_42]
 ac_nf0
 rw [ef]
 ac_nf0
 cases hp:pF d with
 | false=>
  rw [zvh hp]
  ac_nf0
 | true=>
  obtain ⟨a,b,rfl⟩:=zse hp
  rw [zsY hp]
  ac_nf0
  rw [zun]
  ac_nf0
theorem zil {fi:FA} {sd:Sd} {te:FE} {ds:List D} (hi:fi sd=pure ds) (hl:ds.length<=60) (he: ∀ x∈ds,te [some x]=pure (.bl (pS x))):zaJ fi (zaI 0) (fun _=>pure true) te [none] sd=pure (.lst ((ds.map pS).map D.bl)):=by
 rw [zhT (ds:=ds) (k:=fun d=> .bl (pS d)) hi (by omega) ?_]
 ·rw [qaT]
  rfl
 ·intro x hx
  rw [show zaw [none] sd=[none] from rfl]
  simp only [zbn]
  ac_nf0
  rw [he x hx]
  ac_nf0
theorem all_map (ds:List D):((ds.map pS).all id)=ds.all pS:=by
 rw [List.all_map]
 rfl
theorem zwA {q:Rat} (h:q.den<2^6000):sv (qD q):=⟨rfl,fun ds e=>by
  unfold qD at e
  cases e
  refine ⟨fun x hx=> ?_,fun a b e=> ?_⟩
  · simp only [qaP,qaF,or_false] at hx
    rcases hx with rfl | rfl<;>rfl
  · simp only [List.cons.injEq,D.int.injEq,and_true] at e
    rw [<- e.2,qaB]
    exact qaw h (zku (by decide))⟩
theorem zwr {r:Rat} (h:0<=r):pS (qD r)=true:=by
 have h1:=zwj r
 unfold qD at h1 ⊢
 rw [zsY h1,qaD]
 exact Rat.num_nonneg.mpr h
theorem znA (s:Stk m os) (hp: ∀ o∈os,o.2<2^64) {rs:List Rat} (z:Rz rs) (hl:(rs.length:Int)=m) (hd: ∀ r∈rs,r.den<2^6000) (hn: ∀ r∈rs,0<=r) (hb:os.all (bB rs)=true):F_39 [zbb m os,.tup (rs.map qD)]=pure (.bl true):=by
 have ol:=s.len
 have m1:=s.m1
 have hall:(rs.map qD).all pS=true:=List.all_eq_true.mpr fun d h=>by
  obtain ⟨r,hr,rfl⟩:=qaU.mp h
  exact zwr (hn r hr)
 have hs: ∀ x∈rs.map qD,sv x:=fun x h=>by
  obtain ⟨r,hr,rfl⟩:=qaU.mp h
  exact zwA (hd r hr)
 have et:=zkN (d:= .tup (rs.map qD)) rfl
 have ea:F_41 [.tup (rs.map qD),.int m]=pure (.bl true):=by
  have ec:zaJ (iSq (zag 0)) (zaI 0) (fun _=>pure true) zcC [none] [some (.tup (rs.map qD)),some (.int m)]=pure (.lst (((rs.map qD).map pS).map D.bl)):=zil (by ac_nf0) (by rw [qaH];omega) fun x hx=>by
   simp only [zcC]
   ac_nf0
   rw [zn8 (hs x hx)]
  rw [d_41]
  simp only [G_41]
  ac_nf0
  rw [et]
  simp only [isT]
  ac_nf0
  rw [zv2,hl,beq_self_eq_true]
  ac_nf0
  rw [ec]
  ac_nf0
  rw [zkO,all_map,hall]
  ac_nf0
 have ec:zaJ (iSq (cOp dIx (zag 0) (cK (.int 1)))) (zaI 0) (fun _=>pure true) zcE [none,some 1] [some (zbb m os),some (.tup (rs.map qD))]=pure (.lst ((os.map (bB rs)).map D.bl)):=by
  rw [qaT,show os.map (D.bl∘bB rs)=os.filterMap fun o=>some (.bl (bB rs o)) by simp [Function.comp_def]]
  refine zb8 (g':=zcJ) (by ac_nf0;rw [zna];ac_nf0) (by omega) fun o ho=> ?_
  have eb:=zm5 z (s.up o ho) (fun t ht=>by have:=s.bd o ho t ht;omega) (by have:=s.olen o ho;omega) (by
    have h1:=s.pos o ho
    have h2:=hp o ho
    have h3:o.2.natAbs<=2^64:=by omega
    exact zaY (n:=64) (by decide) h3)
  rw [show zaw [none,some 1] [some (zbb m os),some (.tup (rs.map qD))]=[none,some (.tup (rs.map qD))] from rfl]
  simp only [zbn,zcE]
  generalize bB rs o=bo at eb
  generalize zcJ o=d at eb
  ac_nf0
  rw [eb]
  ac_nf0
 rw [d_39]
 simp only [G_39]
 ac_nf0
 rw [zqR]
 ac_nf0
 rw [ea]
 ac_nf0
 rw [ec]
 ac_nf0
 rw [zkO,List.all_map]
 rw [show (os.all (id∘bB rs))=os.all (bB rs) from rfl,hb]
 ac_nf0
theorem zkY (s:Stk m os) {rs:List Rat} (z:Rz rs) (hb:F_39 [zbb m os,.tup (rs.map qD)]=pure (.bl true)):F_40 [zbb m os,.tup (rs.map qD)]=pure (qD (qs rs)):=by
 have et:=zoR z (d:= .tup (rs.map qD)) rfl
 generalize qD (qs rs)=q at et
 rw [d_40]
 simp only [G_40]
 ac_nf0
 rw [hb]
 ac_nf0
 rw [et]
 ac_nf0
noncomputable def zdT (m:Int) (os:List (List Int×Int)):Bool:=((zdj (os.flatMap (·.1))).length:Int)==m
theorem zqz (s:Stk m os):Ev (F_15 [zbb m os]) (.bl (zdT m os)):=by
 have e:=zoz s (d:= .tup (os.map zcJ)) (os':=os) rfl s.len fun o ho=>ho
 refine .of_wp fun h=> ?_
 rw [d_15]
 simp only [G_15]
 ac_nf0
 rw [zna]
 ac_nf0
 refine e.wp fun h' g=> ?_
 ac_nf0
 first | exact ⟨g,rfl⟩ | exact ⟨trivial,g⟩ | exact ⟨g,trivial⟩ | exact g
theorem zgW (s:Stk m os):zdT m os=true↔ ∀ t:Int,0<=t->t<m-> ∃ o∈os,t∈o.1:=by
 have m0:=s.m0
 have hbd: ∀ x∈zdj (os.flatMap (·.1)),0<=x/\x<m:=fun x hx=>by
  obtain ⟨o,ho,hx⟩:=List.mem_flatMap.mp (zbi.mp hx)
  exact s.bd o ho x hx
 have hf:=ziA (by omega) (zcA _) hbd
 unfold zdT
 rw [<- hf,beq_iff_eq]
 constructor
 ·intro e t t0 t1
  have:t∈zdj (os.flatMap (·.1)):=by
   rw [e]
   exact qaU.mpr ⟨t.toNat,List.mem_range.mpr (by omega),by omega⟩
  exact List.mem_flatMap.mp (zbi.mp this)
 ·intro h
  refine List.Perm.eq_of_pairwise (le:=fun a b:Int=>a<b) (fun a b _ _ h1 h2=>by omega) (zcA _) (zbz _) ?_
  refine (List.perm_ext_iff_of_nodup ((zcA _).imp fun z=>by omega) ((zbz _).imp fun z=>by omega)).mpr fun x=> ?_
  constructor
  ·intro hx
   have:=hbd x hx
   exact qaU.mpr ⟨x.toNat,List.mem_range.mpr (by omega),by omega⟩
  ·intro hx
   have:=zbB x hx
   obtain ⟨o,ho,h2⟩:=h x (by omega) (by omega)
   exact zbi.mpr (List.mem_flatMap.mpr ⟨o,ho,h2⟩)
theorem zlX (s:Stk m os) (hf:zdT m os=true):Ev (F_18 [zbb m os]) .non:=by
 refine .of_wp fun h=> ?_
 rw [d_18]
 simp only [G_18]
 ac_nf0
 refine (zqz s).wp fun h' g=> ?_
 rw [hf]
 ac_nf0
 exact ⟨trivial,g⟩
theorem zhR {m:Int} {x0:Option D}: ∀ {ds:List D} {l:Int} {x3:Option D},(∀ d∈ds,kn d=true)->
  (zb9 m l ds=true-> ∃ sd',zaQ (fun x sd=>do let sd1<-zaI 3 x sd;zbs sd1) ds [x0,some (.int m),some (.int l),x3]=pure (.nx sd'))/\
  (zb9 m l ds=false->zaQ (fun x sd=>do let sd1<-zaI 3 x sd;zbs sd1) ds [x0,some (.int m),some (.int l),x3]=pure (.rt (.bl false)))
 | [],l,x3,_=>⟨fun _=>⟨_,rfl⟩,fun h=>by simp [zb9] at h⟩
 | d::r,l,x3,hk=>by
  have kd:=hk d qau
  have step: ∀ {i:Int},d= .int i->(do let sd1<-zaI 3 d [x0,some (.int m),some (.int l),x3];zbs sd1)=if (decide (l<=i) && decide (i<m))=true then pure (.nx [x0,some (.int m),some (.int (i+1)),some (.int i)]) else pure (.rt (.bl false)):=by
   intro i e
   subst e
   simp only [zbs,zcx,List.set,pure_bind,bind_assoc,za7,zg7,zpz,zjR,zju,zbx,zaM,za6,zaP,zaG,zir,zdI (show kn (.int i)=true from rfl),zdg,isI,zeG,zmW,zun,zcW,zeZ,zeE]
   by_cases h1:l<=i
   ·by_cases h2:i<m
    ·have h1': ¬i<l:=by omega
     have h2': ¬m<=i:=by omega
     simp [h1,h2,h1',h2']
    ·have h1': ¬i<l:=by omega
     have h2':m<=i:=by omega
     simp [h1,h2,h1',h2']
   ·have h1':i<l:=by omega
    simp [h1,h1']
  by_cases hi:isI d=true
  ·obtain ⟨i,e⟩: ∃ i,d= .int i:=by cases d<;>simp [isI] at hi;exact ⟨_,rfl⟩
   have s1:=step e
   subst e
   have ih:=zhR (m:=m) (x0:=x0) (ds:=r) (l:=i+1) (x3:=some (.int i)) fun y hy=>hk y (qan _ hy)
   rw [zbo,s1]
   by_cases c:(decide (l<=i) && decide (i<m))=true
   ·have er:zb9 m l (.int i::r)=zb9 m (i+1) r:=by rw [zb9,c];simp
    rw [er]
    simp only [c,if_true,pure_bind]
    exact ih
   ·have er:zb9 m l (.int i::r)=false:=by rw [zb9,Bool.eq_false_iff.mpr c];simp
    rw [er]
    simp only [Bool.eq_false_iff.mpr c,if_false,pure_bind,qax]
    simp
  ·have hi':isI d=false:=Bool.eq_false_iff.mpr hi
   have er:zb9 m l (d::r)=false:=by cases d<;>simp [isI] at hi'<;>rfl
   rw [er,zbo]
   refine ⟨fun h=>(by cases h),fun _=> ?_⟩
   simp only [zbs,zcx,List.set,pure_bind,bind_assoc,za7,zg7,zpz,zjR,zju,zbx,zaM,za6,zaP,zaG,zir,zdI kd,zdg,hi',zcW,zeZ,zeE]
   simp
theorem zlj {d:D} {m:Int} (k:kn d=true) (hk: ∀ ds,d= .tup ds-> ∀ x∈ds,kn x=true):F_2 [d,.int m]=pure (.bl (match d with | .tup ds=>zb9 m 0 ds | _=>false)):=by
 rw [d_2]
 simp only [G_2,za7,zg7,zjR,zju,znL,zaG,pure_bind,bind_assoc,zkN k,zdg]
 cases d with
 | tup ds=>
  simp only [isT,Bool.not_true,qax,if_false,zeE,pure_bind,zg0,za7,zcY,zeZ,List.set,zht,zqS,zaG,ztW,bind_assoc]
  have:=zhR (m:=m) (x0:=some (.tup ds)) (ds:=ds) (l:=0) (x3:=none) (hk ds rfl)
  cases c:zb9 m 0 ds with
  | true=>
   obtain ⟨sd',e⟩:=this.1 c
   rw [e]
   simp
  | false=>
   rw [this.2 c]
   simp
 | _=>simp [isT]
theorem zoO (s:Stk m os) {d:D} (g:gk d):F_14 [zbb m os,d]=pure (.bl (zue os.length d)):=by
 rw [d_14]
 simp only [G_14,zbb]
 ac_nf0
 rw [zlj g.1 fun ds e=>(g.2 ds e).2]
 ac_nf0
 cases d<;>rfl
theorem zqI (s:Stk m os) {d:D} (g:gk d) (hp:zue os.length d=true):F_20 [zbb m os,d]=pure .non:=by
 rw [d_20]
 simp only [G_20]
 ac_nf0
 rw [zoO s g,hp]
 ac_nf0
def Lt (os:List (List Int×Int)) (ls:List Int):Prop:=ls.Pairwise (· < ·)/\ ∀ x∈ls,0<=x/\x<os.length
theorem Lt.lot {ls:List Int} (h:Lt os ls):zue os.length (tI ls)=true:=zby.mpr h
theorem Lt.len {ls:List Int} (h:Lt os ls) (s:Stk m os):ls.length<=12:=by
 have:=zfw (m:=os.length) (by omega) h.1 h.2
 have:=s.len
 omega
theorem zff (s:Stk m os) {ls:List Int} (hu:ls.Pairwise (· < ·)) (b: ∀ x∈ls,0<=x/\x<os.length):F_21 [zbb m os,tI ls]=pure (.lst ((zbf os ls).map zcJ)):=by
 have hl:=zfw (m:=os.length) (by omega) hu b
 have hls:ls.length<=12:=by have:=s.len;omega
 have hp:zue os.length (tI ls)=true:=zby.mpr ⟨hu,b⟩
 rw [d_21]
 simp only [G_21]
 ac_nf0
 have e:=zqI s (d:=tI ls) (ztK (by omega)) hp
 unfold tI at e
 rw [e]
 ac_nf0
 rw [zhT (ds:=ls.map D.int) (k:=fun d=>match d with | .int i=>zcJ (os.getD i.toNat ([],0)) | d=>d) rfl (by rw [qaH];omega) ?_]
 ·ac_nf0
  unfold zbf
  rw [qaT,qaT]
  rfl
 ·intro x hx
  obtain ⟨i,hi,rfl⟩:=qaU.mp hx
  have eb:zaw [none,some 0] [some (zbb m os),some (D.tup (ls.map D.int))]=[none,some (zbb m os)]:=rfl
  rw [eb]
  simp only [zbn,zd8,zbb]
  ac_nf0
  rw [zfp (b i hi).1 (b i hi).2]
  ac_nf0
theorem zg6 {s0:Option D} {d:D} {p:Nat->Bool}: ∀ (r j:Nat) (x3:Option D),(∀ t:Nat,t<j+r->dIn (.int (t:Int)) d=pure (.bl (p t)))->
  ∃ y3,zaQ (fun x sd=>do let sd1<-zaI 3 x sd;zc7 sd1) (zdi j r) [s0,some d,some (.int (bv p j)),x3]=pure (.nx [s0,some d,some (.int (bv p (j+r))),y3])
 | 0,j,x3,_=>⟨x3,rfl⟩
 | r+1,j,x3,hd=>by
  obtain ⟨y3,ih⟩:=zg6 (s0:=s0) (d:=d) (p:=p) r (j+1) (some (.int j)) fun t ht=>hd t (by omega)
  refine ⟨y3,?_⟩
  have e1:((j+1:Nat):Int)=(j:Int)+1:=by omega
  have e2:j+1+r=j+(r+1):=by omega
  rw [e1,e2] at ih
  rw [znS,zbo, <-ih]
  generalize zaQ (fun x sd=>do let sd1<-zaI 3 x sd;zc7 sd1) (zdi ((j:Int)+1) r)=zbk
  simp only [zc7]
  ac_nf0
  rw [zl4 (by decide) (by decide)]
  ac_nf0
  rw [hd j (by omega)]
  ac_nf0
  have eb:bv p (j+1)=bv p j*2+(if p j=true then 1 else 0):=rfl
  rw [eb]
  cases p j
  ·ac_nf0
   simp
  ·ac_nf0
   simp
theorem zk2 {d:D} {p:Nat->Bool} (m0:0<=m) (m1:m<1000) (hd: ∀ t:Nat,t<m.toNat->dIn (.int (t:Int)) d=pure (.bl (p t))):F_37 [.int m,d]=pure (.int (bv p m.toNat)):=by
 obtain ⟨y3,el⟩:=zg6 (s0:=some (.int m)) (d:=d) (p:=p) m.toNat 0 none fun t ht=>hd t (by omega)
 rw [Nat.zero_add] at el
 have e0:((bv p 0:Nat):Int)=0:=rfl
 rw [e0] at el
 rw [d_37]
 simp only [G_37]
 ac_nf0
 rw [zc4 m0 m1]
 simp only [zcx,pure_bind,Int.natCast_zero] at el
 ac_nf0
 rw [el]
 ac_nf0
theorem zng (m0:0<=m) (m1:m<1000):F_37 [.int m,.lst (zdi 0 m.toNat)]=pure (.int (bv (fun _=>true) m.toNat)):=by
 refine zk2 m0 m1 fun t ht=> ?_
 rw [zdC,zmQ]
 congr 2
 rw [List.any_eq_true]
 exact ⟨(t:Int),qaU.mpr ⟨t,List.mem_range.mpr ht,rfl⟩,by simp⟩
theorem zkr (s:Stk m os) (n9:os.length<=10) {r:Nat} (hr:r<os.length) {x3 x4 x5:Option D}: ∃ y3 y4 y5,zbw [some (zbb m os),some (.lst ((kl os.length r).map (trD m os))),some (.int (((os.length - (r+1):Nat)):Int)),x3,x4,x5]=pure (.nx [some (zbb m os),some (.lst ((kl os.length (r+1)).map (trD m os))),some (.int (((os.length - (r+1):Nat)):Int)),y3,y4,y5]):=by
 have m0:=s.m0
 have m1:=s.m1
 have hk:=ziT os.length r
 have hk9:2^r<=2^9:=Nat.pow_le_pow_right (by decide) (by omega)
 have hj:os.length - (r+1)<os.length:=by omega
 generalize hje:os.length - (r+1)=j at hj
 have ea:=zfp (os:=os) (i:=(j:Int)) (by omega) (by omega)
 rw [qaB] at ea
 have mo:os.getD j ([],0)∈os:=by simp [List.getD,hj]
 generalize ho:os.getD j ([],0)=o at ea mo
 have lo:=s.olen o mo
 have eb:=zk2 (m:=m) (d:= .tup (o.1.map D.int)) (p:=fun t=>o.1.any (· == (t:Int))) (by omega) (by omega) fun t _=>zjV _ _
 have ec:zaJ (iSq (zag 1)) (zaI 0) (fun _=>pure true) zcG [none,some 3,some 2,some 4] [some (zbb m os),some (.lst ((kl os.length r).map (trD m os))),some (.int (j:Int)),some (.tup [.tup (o.1.map D.int),.int o.2]),some (.int (bv (fun t=>o.1.any (· == (t:Int))) m.toNat)),x5]=pure (.lst (((kl os.length r).map fun ls=>(j:Int)::ls).map (trD m os))):=by
  rw [show ((kl os.length r).map fun ls=>(j:Int)::ls).map (trD m os)=(kl os.length r).filterMap fun ls=>some (trD m os ((j:Int)::ls)) by simp]
  refine zb8 (g':=trD m os) rfl (by omega) fun ls hls=> ?_
  obtain ⟨h1,h2⟩:=(zhO os.length r ls (by omega)).mp hls
  have ll:=zfw (m:=os.length) (by omega) h1 fun x hx=>by have:=h2 x hx;omega
  have f:=zaA (show 1+ls.length<=1000 by omega)
  have ebs:zaw [none,some 3,some 2,some 4] [some (zbb m os),some (.lst ((kl os.length r).map (trD m os))),some (.int (j:Int)),some (.tup [.tup (o.1.map D.int),.int o.2]),some (.int (bv (fun t=>o.1.any (· == (t:Int))) m.toNat)),x5]=[none,some (.tup [.tup (o.1.map D.int),.int o.2]),some (.int (j:Int)),some (.int (bv (fun t=>o.1.any (· == (t:Int))) m.toNat))]:=rfl
  have e2: ∀ a b c:D,atI [a,b,c] 2=some c:=fun a b c=>rfl
  have eo:dOr (.int (bv (fun t=>o.1.any (· == (t:Int))) m.toNat)) (.int (bv (zpl os ls) m.toNat))=pure (.int (bv (zpl os ((j:Int)::ls)) m.toNat)):=by
   show (pure (D.int (Builtin.bitOr _ _)):M D)=_
   rw [zsD,zrW]
   congr 3
   refine zi9 fun i _=> ?_
   unfold zpl
   rw [List.any_cons,qaB,ho]
  have ep:pr os ((j:Int)::ls)=o.2+pr os ls:=by
   unfold pr
   rw [qaM,List.sum_cons,qaB,ho]
  rw [ebs]
  simp only [zbn,zcG,trD]
  ac_nf0
  simp only [e2,f]
  ac_nf0
  rw [eo,ep]
  ac_nf0
  rfl
 refine ⟨some (.tup [.tup (o.1.map D.int),.int o.2]),some (.int (bv (fun t=>o.1.any (· == (t:Int))) m.toNat)),some (.lst (((kl os.length r).map fun ls=>(j:Int)::ls).map (trD m os))),?_⟩
 have fk:(kl os.length (r+1)).length<=2000:=by
  rw [ziT]
  have:2^(r+1)<=2^10:=Nat.pow_le_pow_right (by decide) (by omega)
  omega
 have ek:kl os.length (r+1)=(kl os.length r).take 1++(kl os.length r).map (fun ls=>(j:Int)::ls)++(kl os.length r).drop 1:=by
  rw [<- hje]
  rfl
 have f1:=zaA (show (((kl os.length r).map (trD m os)).take 1).length+((kl os.length r).map fun ls=>(j:Int)::ls).length<=1000 by simp only [List.length_take,qaH,hk];omega)
 have f2:=ziV (show (((kl os.length r).map (trD m os)).take 1++((kl os.length r).map fun ls=>(j:Int)::ls).map (trD m os)).length+(((kl os.length r).map (trD m os)).drop 1).length<=16000000 by simp only [qav,List.length_take,List.length_drop,qaH,hk];omega)
 have es: ∀ (ds:List D) (lo hi:Option Int),dSl (.lst ds) lo hi=pure (.lst (zkA ds lo hi)):=fun _ _ _=>rfl
 simp only [zbw]
 ac_nf0
 rw [zna]
 ac_nf0
 rw [ea]
 ac_nf0
 rw [zqR]
 ac_nf0
 rw [eb]
 ac_nf0
 rw [ec]
 ac_nf0
 simp only [es,znr _ (show (0:Int)<=1 by decide),zns _ (show (0:Int)<=1 by decide)]
 ac_nf0
 rw [show (1:Int).toNat=1 from rfl]
 simp only [zlD,qaH,qav] at f1 f2 ⊢
 rw [f1]
 ac_nf0
 rw [f2]
 ac_nf0
 rw [ek,List.map_append,List.map_append,List.map_take,List.map_drop]
theorem zf7 (s:Stk m os) (n9:os.length<=10): ∀ (k r:Nat) (x2 x3 x4 x5:Option D),k+r=os.length->
  ∃ y2 y3 y4 y5,zaQ (fun x sd=>do let sd1<-zaI 2 x sd;zbw sd1) (zkd ((k:Int) - 1) k) [some (zbb m os),some (.lst ((kl os.length r).map (trD m os))),x2,x3,x4,x5]=pure (.nx [some (zbb m os),some (.lst ((kl os.length os.length).map (trD m os))),y2,y3,y4,y5])
 | 0,r,x2,x3,x4,x5,h=>⟨x2,x3,x4,x5,by
   have:r=os.length:=by omega
   subst this
   rfl⟩
 | k+1,r,x2,x3,x4,x5,h=>by
  obtain ⟨z3,z4,z5,eb⟩:=zkr s n9 (r:=r) (by omega) (x3:=x3) (x4:=x4) (x5:=x5)
  obtain ⟨y2,y3,y4,y5,ih⟩:=zf7 s n9 k (r+1) (some (.int (k:Int))) z3 z4 z5 (by omega)
  refine ⟨y2,y3,y4,y5,?_⟩
  have e1:((k+1:Nat):Int) - 1=(k:Int):=by omega
  have e2:os.length - (r+1)=k:=by omega
  rw [e2] at eb
  rw [e1,znp,zbo, <-ih]
  show (do let o<-zbw [some (zbb m os),some (.lst ((kl os.length r).map (trD m os))),some (.int (k:Int)),x3,x4,x5];_:M Out)=_
  rw [eb]
  rfl
theorem zny (s:Stk m os) (n9:os.length<=10):F_36 [zbb m os]=pure (.lst ((kl os.length os.length).map (trD m os))):=by
 obtain ⟨y2,y3,y4,y5,el⟩:=zf7 s n9 os.length 0 none none none none (by omega)
 have e0:(kl os.length 0).map (trD m os)=[.tup [.int 0,.tup [],.int 0]]:=by
  show [trD m os []]=_
  unfold trD
  rw [zkU (p:=zpl os []) (fun _=>rfl)]
  rfl
 rw [e0] at el
 have er:zom [.int ((os.length:Int) - 1),.int (-1),.int (-1)]=pure (zkd ((os.length:Int) - 1) os.length):=by
  show (if (-1000<=(os.length:Int) - 1/\(os.length:Int) - 1<1000/\(-1000:Int)<= -1/\(-1:Int)<1000)/\(-1:Int)= -1 then (pure (zkd ((os.length:Int) - 1) ((os.length:Int) - 1 - -1).toNat):M (List D)) else M.bad)=_
  rw [qa4 ⟨⟨by omega,by omega,by omega,by omega⟩,rfl⟩]
  congr 2
  omega
 have ei: ∀ (fs:FA) (sd:Sd),zro fs sd=(do let ds<-fs sd;zom ds):=fun _ _=>rfl
 simp only [zcx,pure_bind] at el
 rw [d_36]
 simp only [G_36]
 ac_nf0
 simp only [ei]
 ac_nf0
 rw [zna]
 ac_nf0
 rw [er]
 ac_nf0
 rw [el]
 ac_nf0
noncomputable def zkj (m:Int) (os:List (List Int×Int)):List (Int×List Int):=((kl os.length os.length).filter (cvB m os)).map fun ls=>(pr os ls,ls)
noncomputable def zh7 (m:Int) (os:List (List Int×Int)):Int×List Int:=(zkj m os).getD (zed (zkj m os)) (0,[])
theorem zlm (s:Stk m os) (n9:os.length<=10):F_35 [zbb m os]=pure (.lst ((zkj m os).map pD2)):=by
 have m0:=s.m0
 have m1:=s.m1
 have hk:=ziT os.length os.length
 have hk9:2^os.length<=2^10:=Nat.pow_le_pow_right (by decide) n9
 have ec:zaJ (iSq (zay (zar 1 F_36) (zad (zag 0) zat))) (zaI 0) zbW zbX [none,some 1] [some (zbb m os),some (.int (bv (fun _=>true) m.toNat))]=pure (.lst ((zkj m os).map pD2)):=by
  unfold zkj
  rw [qaT, <-zdm]
  refine zky (g':=trD m os) ?_ (by omega) fun ls hls=> ?_
  ·ac_nf0
   rw [zny s n9]
   ac_nf0
  ·have eb:zaw [none,some 1] [some (zbb m os),some (.int (bv (fun _=>true) m.toNat))]=[none,some (.int (bv (fun _=>true) m.toNat))]:=rfl
   have e2: ∀ a b c:D,atI [a,b,c] 2=some c:=fun a b c=>rfl
   rw [eb]
   simp only [zbn,zbW,zbX,trD]
   ac_nf0
   simp only [e2]
   ac_nf0
   rw [zoM,znw]
   ac_nf0
   unfold cvB
   split<;>rfl
 have el:zgt (.int m)=pure (.lst (zdi 0 m.toNat)):=by
  show (if 0<=m/\m<1000 then _ else _)=_
  rw [qa4 ⟨by omega,by omega⟩]
 rw [d_35]
 simp only [G_35]
 ac_nf0
 rw [zqR]
 ac_nf0
 rw [el]
 ac_nf0
 rw [zng (by omega) (by omega)]
 ac_nf0
 rw [ec]
 ac_nf0
theorem zmI (s:Stk m os) (hf:zdT m os=true):zkj m os≠[]:=fun z=>by
 have hall:=(zgW s).mp hf
 have hm:((pr os ((List.range os.length).map fun (k:Nat)=>(k:Int))),((List.range os.length).map fun (k:Nat)=>(k:Int)))∈zkj m os:=by
  refine qaU.mpr ⟨_,List.mem_filter.mpr ⟨(zhO os.length os.length _ (qaV _)).mpr ⟨zbz _,fun y hy=> ?_⟩,zeo.mpr fun t t0 t1=> ?_⟩,rfl⟩
  ·have:=zbB y hy
   omega
  ·obtain ⟨o,ho,ht⟩:=hall t t0 t1
   obtain ⟨j,hj,rfl⟩:=List.getElem_of_mem ho
   exact ⟨(j:Int),qaU.mpr ⟨j,List.mem_range.mpr hj,rfl⟩,by simpa [List.getD,hj] using ht⟩
 rw [z] at hm
 cases hm
theorem zfk (s:Stk m os) (hf:zdT m os=true) (n9:os.length<=10):Ev (F_38 [zbb m os]) (tI (zh7 m os).2):=by
 refine .of_wp fun h=> ?_
 rw [d_38]
 simp only [G_38]
 ac_nf0
 refine (zlX s hf).wp fun h' g=> ?_
 have ep:dIx (pD2 (zh7 m os)) (.int 1)=pure (tI (zh7 m os).2):=rfl
 ac_nf0
 rw [zlm s n9]
 ac_nf0
 rw [zlW (zmI s hf),show (zkj m os).getD (zed (zkj m os)) (0,[])=zh7 m os from rfl]
 ac_nf0
 rw [ep]
 ac_nf0
 exact ⟨g,trivial⟩
theorem zgg (s:Stk m os) {ls:List Int} (L:Lt os ls):F_17 [zbb m os,tI ls]=pure (.int (pr os ls)):=by
 have ll:=L.len s
 have e2:=zff s L.1 L.2
 have h3:(zbf os ls).length=ls.length:=by unfold zbf;simp
 have ec:zaJ (iSq (zay (zar 2 F_21) (zad (zag 0) (zad (zag 1) zat)))) (zaI 0) (fun _=>pure true) zdl [none] [some (zbb m os),some (tI ls)]=pure (.lst (((zbf os ls).map (·.2)).map D.int)):=by
  rw [show ((zbf os ls).map (·.2)).map D.int=(zbf os ls).filterMap fun o=>some (.int o.2) by simp]
  refine zb8 (g':=zcJ) ?_ (by omega) fun o _=> ?_
  ·simp only [tI] at e2
   ac_nf0
   rw [e2]
   ac_nf0
  ·have eb:zaw [none] [some (zbb m os),some (tI ls)]=[none]:=rfl
   rw [eb]
   simp only [zbn,zdl]
   ac_nf0
 rw [d_17]
 simp only [G_17,zcW,zbx,zaM,za6]
 rw [ec]
 simp only [pure_bind]
 rw [zpO]
 unfold pr zbf
 rw [qaT]
 rfl
theorem zrp (s:Stk m os) {ls:List Int} (L:Lt os ls):(((zdj ((zbf os ls).flatMap (·.1))).length:Int)==m)=cvB m os ls:=by
 have m0:=s.m0
 rw [<- ziA (by omega) (zcA _) fun x hx=>by
   obtain ⟨o,ho,hx⟩:=List.mem_flatMap.mp (zbi.mp hx)
   exact s.bd o (zcZ L.2 o ho) x hx]
 rw [Bool.eq_iff_iff,beq_iff_eq,zeo]
 constructor
 ·intro e t t0 t1
  have h1:t∈zdj ((zbf os ls).flatMap (·.1)):=by
   rw [e]
   exact qaU.mpr ⟨t.toNat,List.mem_range.mpr (by omega),by omega⟩
  obtain ⟨o,ho,hx⟩:=List.mem_flatMap.mp (zbi.mp h1)
  obtain ⟨i,hi,rfl⟩:=qaU.mp ho
  exact ⟨i,hi,hx⟩
 ·intro h
  refine zib (zcA _) (zbz _) fun k=> ?_
  rw [zbi]
  constructor
  ·intro hk
   obtain ⟨o,ho,hx⟩:=List.mem_flatMap.mp hk
   have:=s.bd o (zcZ L.2 o ho) k hx
   exact qaU.mpr ⟨k.toNat,List.mem_range.mpr (by omega),by omega⟩
  ·intro hk
   have:=zbB k hk
   obtain ⟨i,hi,hx⟩:=h k this.1 (by omega)
   exact List.mem_flatMap.mpr ⟨_,qaU.mpr ⟨i,hi,rfl⟩,hx⟩
theorem znd (s:Stk m os) {ls:List Int} (L:Lt os ls):Ev (F_34 [zbb m os,tI ls]) (.bl (cvB m os ls)):=by
 have e1:=zoO s (d:=tI ls) (ztK (by have:=L.len s;omega))
 rw [L.lot] at e1
 have e2:=zff s L.1 L.2
 have ll:=L.len s
 have h3:(zbf os ls).length=ls.length:=by unfold zbf;simp
 refine .of_wp fun h=> ?_
 rw [d_34]
 simp only [G_34]
 simp only [tI] at e1 e2
 ac_nf0
 rw [e1]
 ac_nf0
 rw [e2]
 ac_nf0
 refine (zoz s (d:= .lst ((zbf os ls).map zcJ)) (os':=zbf os ls) rfl (by omega) (zcZ L.2)).wp fun h' g=> ?_
 rw [zrp s L]
 ac_nf0
 exact ⟨trivial,g⟩
theorem zqW (s:Stk m os) (hf: ∀ i:Int,0<=i->i<m-> ∃ o∈os,i∈o.1) {fs:List Int} (hp:List.Perm fs ((List.range os.length).map fun (k:Nat)=>(k:Int))):((zdj ((zbf os fs).flatMap (·.1))).length:Int)=m:=by
 have m0:=s.m0
 have hb: ∀ x∈fs,0<=x/\x<(os.length:Int):=fun x hx=>zbB x (hp.mem_iff.mp hx)
 have e:zdj ((zbf os fs).flatMap (·.1))=(List.range m.toNat).map fun (k:Nat)=>(k:Int):=by
  refine zib (zcA _) (zbz _) fun k=> ?_
  rw [zbi]
  constructor
  ·intro hk
   obtain ⟨o,ho,hk⟩:=List.mem_flatMap.mp hk
   have:=s.bd o (zcZ hb o ho) k hk
   exact qaU.mpr ⟨k.toNat,List.mem_range.mpr (by omega),by omega⟩
  ·intro hk
   have hk:=zbB k hk
   obtain ⟨o,ho,hko⟩:=hf k hk.1 (by omega)
   obtain ⟨j,hj,rfl⟩:=List.getElem_of_mem ho
   refine List.mem_flatMap.mpr ⟨os[j],qaU.mpr ⟨(j:Int),hp.mem_iff.mpr (qaU.mpr ⟨j,List.mem_range.mpr hj,rfl⟩),?_⟩,hko⟩
   simp [List.getD,hj]
 rw [e]
 simp
 omega
structure Cv (m:Int) (os:List (List Int×Int)) (ls:List Int):Prop where
 up:ls.Pairwise (· < ·)
 bd: ∀ x∈ls,0<=x/\x<(os.length:Int)
 cv: ∀ t,0<=t->t<m-> ∃ i∈ls,t∈(os.getD i.toNat ([],0)).1
theorem zko (s:Stk m os) {fs:List Int} (hb: ∀ x∈fs,0<=x/\x<(os.length:Int)) (hm:m<=((zdj ((zbf os fs).flatMap (·.1))).length:Int)) (t:Int) (t0:0<=t) (t1:t<m): ∃ i∈fs,t∈(os.getD i.toNat ([],0)).1:=by
 have hnd:(zdj ((zbf os fs).flatMap (·.1))).Nodup:=(zcA _).imp fun z=>by omega
 have hbd: ∀ x∈zdj ((zbf os fs).flatMap (·.1)),0<=x/\x<m:=fun x hx=>by
  rw [zbi] at hx
  obtain ⟨o,ho,hx⟩:=List.mem_flatMap.mp hx
  exact s.bd o (zcZ hb o ho) x hx
 have ht:t∈zdj ((zbf os fs).flatMap (·.1)):=by
  by_cases h:t∈zdj ((zbf os fs).flatMap (·.1))
  ·exact h
  ·have:=zbQ (m:=m) (by omega) (List.nodup_cons.mpr ⟨h,hnd⟩) (fun x hx=>by
     rcases qaP.mp hx with rfl | hx
     · exact ⟨t0,t1⟩
     · exact hbd x hx)
   rw [qaE] at this
   omega
 rw [zbi] at ht
 obtain ⟨o,ho,ht⟩:=List.mem_flatMap.mp ht
 unfold zbf at ho
 obtain ⟨i,hi,rfl⟩:=qaU.mp ho
 exact ⟨i,hi,ht⟩
theorem zgb (s:Stk m os) (hf: ∀ i:Int,0<=i->i<m-> ∃ o∈os,i∈o.1) {b c:Nat} (hbc:c≠b): ∀ (n:Nat) (lf fs:List Int) {h:Hh} {P:Out->Hh->Prop},Bx b h->h[c]? = some (.lst (lf.map D.int))->lf.length<n->
  List.Perm (fs++lf) ((List.range os.length).map fun (k:Nat)=>(k:Int))->
  (∀ fs' x2' h',Bx b h'->fs'.Nodup->(∀ x∈fs',0<=x/\x<(os.length:Int))->m<=((zdj ((zbf os fs').flatMap (·.1))).length:Int)->P (.nx [some (.cel b),some (zbb m os),x2',some (tI fs')]) h')->
  wp (zbP zb2 zb1 n [some (.cel b),some (zbb m os),some (.cel c),some (tI fs)]) h P
 | 0,lf,fs,h,P,q,ec,hn,hp,k=>by omega
 | n+1,lf,fs,h,P,q,ec,hn,hp,k=>by
  have m0:=s.m0
  have m1:=s.m1
  have ol:=s.len
  have hbs: ∀ x∈fs++lf,0<=x/\x<(os.length:Int):=fun x hx=>zbB x (hp.mem_iff.mp hx)
  have hnd:(fs++lf).Nodup:=hp.nodup_iff.mpr ((zbz _).imp fun z=>by omega)
  have hb: ∀ x∈fs,0<=x/\x<(os.length:Int):=fun x hx=>hbs x (List.mem_append_left _ hx)
  have hlen:fs.length+lf.length=os.length:=by
   have:=hp.length_eq
   simpa using this
  have e1:=ztG s hb
  have zqR:dIx (zbb m os) (.int 0)=pure (.int m):=rfl
  have ih:=fun lf' fs' (h':Hh)=>zgb s hf hbc n lf' fs' (h:=h') (P:=P)
  rw [zdv]
  generalize zbP zb2 zb1 n=go at ih ⊢
  simp only [zb2]
  simp only [tI] at e1 ih k ⊢
  ac_nf0
  rw [e1]
  ac_nf0
  rw [zqR]
  ac_nf0
  simp only [zmW]
  ac_nf0
  by_cases hc:((zdj ((zbf os fs).flatMap (·.1))).length:Int)<m
  ·have hlf:lf≠[]:=fun z=>by
    subst z
    have:=zqW s hf (by simpa using hp)
    omega
   have hpos:0<lf.length:=List.length_pos_iff.mpr hlf
   simp only [hc,decide_true,if_true]
   simp only [zb1]
   ac_nf0
   simp only [ztQ]
   ac_nf0
   simp only [zan,zcl ec,zam]
   show wp (ze1 [.cel c]) h _
   have el:ze1 [.cel c]=(zao c>>=fun ds=>pure (.int ds.length):M D):=rfl
   rw [el]
   simp only [zan,zcl ec,zam,qaH]
   refine zcp q (by omega) (by omega) fun t h2 t0 t1 x2=> ?_
   have ht:t.toNat<lf.length:=by omega
   have ec2:=x2.2 c _ hbc ec
   have hlt:=(qac.mp ec2).1
   refine zrI ec2 t0 (by omega) (d:= .int lf[t.toNat]) (by simp [ht]) ?_
   have f:=zaA (show fs.length+1<=1000 by omega)
   ac_nf0
   simp only [qaH,f]
   ac_nf0
   have epp:=zn3 (xs:=lf) (i:=t.toNat) (x:=lf[t.toNat]) (by simp [ht])
   have:=ih (lf.eraseIdx t.toNat) (fs++[lf[t.toNat]]) (h2.set c (.lst ((lf.map D.int).eraseIdx t.toNat))) ?_ ?_ ?_ ?_ k
   ·simpa using this
   ·obtain ⟨y,ey⟩:=x2.1
    exact ⟨y,by rw [qao hbc];exact ey⟩
   ·rw [qai hlt,List.eraseIdx_eq_take_drop_succ,List.eraseIdx_eq_take_drop_succ,List.map_append,List.map_take,List.map_drop]
   ·rw [List.length_eraseIdx_of_lt ht];omega
   ·refine List.Perm.trans ?_ hp
    rw [List.append_assoc]
    exact List.Perm.append_left _ epp
  ·simp only [hc,decide_false,qax,if_false]
   ac_nf0
   exact k fs _ h q (List.nodup_append.mp hnd).1 hb (by omega)
theorem znj (s:Stk m os) (hf: ∀ i:Int,0<=i->i<m-> ∃ o∈os,i∈o.1) {h:Hh} {b:Nat} {P:D->Hh->Prop} (q:Bx b h) (k: ∀ ls h',Cv m os ls->Bx b h'->P (tI ls) h'):wp (F_50 [.cel b,zbb m os]) h P:=by
 have ol:=s.len
 have est:dIx (zbb m os) (.int 1)=pure (.tup (os.map zcJ)):=rfl
 rw [d_50]
 simp only [G_50]
 ac_nf0
 rw [est]
 ac_nf0
 have er:ziC (.int (os.length:Int))=zdZ (zdi 0 os.length):=by
  show (if 0<=(os.length:Int)/\(os.length:Int)<1000 then _ else _)=_
  rw [qa4 ⟨by omega,by omega⟩,qaB]
 rw [er]
 ac_nf0
 have qb:=q.push (c:= .lst (zdi 0 os.length))
 have hbc:h.length≠b:=fun z=>by
  obtain ⟨y,ey⟩:=q
  have:=(qac.mp ey).1
  omega
 simp only [zeO]
 have cl:=fun (P:Out->Hh->Prop)=>zgb s hf hbc 1000 ((List.range os.length).map fun (k:Nat)=>(k:Int)) [] (P:=P) qb.1 (by rw [<- zdC];simp) (by simp;omega) (by simp)
 simp only [tI,List.map_nil] at cl
 refine cl _ fun fs x2' h' q' hn hb hm=> ?_
 have fl:=zbQ (m:=os.length) (by omega) hn hb
 ac_nf0
 rw [zes (by omega)]
 ac_nf0
 refine k (zbF fs) h' ⟨zb0 hn,fun x hx=>hb x ((zau fs).mem_iff.mp hx),fun t t0 t1=> ?_⟩ q'
 obtain ⟨i,hi,ht⟩:=zko s hb hm t t0 t1
 exact ⟨i,(zau fs).mem_iff.mpr hi,ht⟩
theorem Cv.lt {ls:List Int} (c:Cv m os ls):Lt os ls:=⟨c.up,c.bd⟩
theorem Cv.cov {ls:List Int} (c:Cv m os ls):cvB m os ls=true:=zeo.mpr c.cv
noncomputable abbrev Acc:=Option (Nat×Nat×Nat)
noncomputable def stp (acc:Acc) (x:Nat×Nat×Nat):Acc:=match acc with
 | none=>some x
 | some y=>if x.1*y.2.1<y.1*x.2.1 then some x else some y
noncomputable def zoN:Acc->D
 | none=> .non
 | some y=> .int (y.2.2:Int)
noncomputable def zt7:Acc->D
 | none=> .non
 | some y=>zdA y.1 y.2.1
def zvs (acc:Acc):Prop:= ∀ y,acc=some y->0<y.2.1/\y.2.1<=12
theorem znC {acc:Acc} {x:Nat×Nat×Nat} (h:zvs acc) (h0:0<x.2.1) (h1:x.2.1<=12):zvs (stp acc x):=by
 intro y e
 unfold stp at e
 split at e
 ·cases e
  exact ⟨h0,h1⟩
 ·rename_i z
  split at e
  ·cases e
   exact ⟨h0,h1⟩
  ·cases e
   exact h _ rfl
noncomputable def zkz (os:List (List Int×Int)) (ls:List Int):List Int:=zdj ((zbf os ls).flatMap (·.1))
noncomputable def zaS (o:List Int×Int) (had:List Int):List Int:=o.1.filter fun t=> !had.any (· == t)
noncomputable def zqk (o:List Int×Int) (had:List Int):D:=if (zaS o had).length=0 then .non else zdA o.2.toNat (zaS o had).length
theorem zfB {o:List Int×Int} {had:List Int}:(zaS o had).length<=o.1.length:=List.length_filter_le _ _
noncomputable def zis (os:List (List Int×Int)) (had:List Int) (i:Nat):Option (Nat×Nat×Nat):=if (zaS (os.getD i ([],0)) had).length=0 then none else some ((os.getD i ([],0)).2.toNat,(zaS (os.getD i ([],0)) had).length,i)
noncomputable def zcf (os:List (List Int×Int)) (had:List Int):Acc:=((List.range os.length).filterMap (zis os had)).foldl stp none
theorem zvV {i j:Int} (h0:0<=j) (h1:j<=1000):zcQ (.int i) (.int j)=pure (.int (i*j)):=zgy (by
  have:za8 j=true:=by unfold za8;simp;omega
  rw [this]
  simp)
theorem zpB {p c p' c':Nat} (h0:0<c) (h1:c<=12) (h0':0<c') (h1':c'<=12):F_5 [zdA p c,zdA p' c']=pure (.bl (decide (p*c'<p'*c))):=by
 have b1:c / Nat.gcd p c<=c:=Nat.div_le_self _ _
 have b2:c' / Nat.gcd p' c'<=c':=Nat.div_le_self _ _
 have hc:=zsc (p:=p) (p':=p') h0 h0'
 rw [d_5]
 simp only [G_5]
 unfold zdA
 generalize c / Nat.gcd p c=u1 at*
 generalize c' / Nat.gcd p' c'=u2 at*
 generalize p / Nat.gcd p c=u3 at*
 generalize p' / Nat.gcd p' c'=u4 at*
 ac_nf0
 rw [zvV (by omega) (by omega),zvV (by omega) (by omega)]
 ac_nf0
 simp only [zmW]
 ac_nf0
 rw [<- Int.natCast_mul, <-Int.natCast_mul]
 congr 2
 rw [decide_eq_decide,Int.ofNat_lt]
 exact hc
theorem zpj {o:List Int×Int} (ho:o.1.length<=12) (e:zrx hv had h) {P:D->Hh->Prop} (k:P (tI (zaS o had)) h):wp (F_30 [zcJ o,hv]) h P:=by
 have ek:(o.1.map D.int).filterMap (fun d=>match d with | .int t=>if (!had.any (· == t))=true then some (.int t) else none | d=>none)=(zaS o had).map D.int:=by
  unfold zaS
  rw [<- zdm,List.filterMap_map]
  rfl
 rw [d_30]
 simp only [G_30]
 ac_nf0
 unfold zaJ
 simp only [zcJ,tI] at k ⊢
 ac_nf0
 rw [zaA (by omega)]
 ac_nf0
 refine zdM (k:=fun d=>match d with | .int t=>if (!had.any (· == t))=true then some (.int t) else none | d=>none) (fun x hx=> ?_) ?_
 ·obtain ⟨t,_,rfl⟩:=qaU.mp hx
  have eb:zaw [none,some 1] [some (.tup [.tup (o.1.map D.int),.int o.2]),some (hv)]=[none,some (hv)]:=rfl
  rw [eb]
  simp only [zbn,zdX,zdU]
  ac_nf0
  refine e t _ ?_
  ac_nf0
  cases had.any (· == t)<;>simp [zam]
 ·rw [ek]
  ac_nf0
  exact k
theorem zfo {o:List Int×Int} (ho:o.1.length<=12) (hp:0<o.2) (e:zrx hv had h) {P:D->Hh->Prop} (k:P (zqk o had) h):wp (F_29 [zcJ o,hv]) h P:=by
 have hl:=zfB (o:=o) (had:=had)
 rw [d_29]
 simp only [G_29]
 ac_nf0
 have e1:=fun (P:D->Hh->Prop) (k:P (tI (zaS o had)) h)=>zpj ho e k
 unfold zqk at k
 simp only [tI,zcJ] at e1 k ⊢
 refine e1 _ ?_
 generalize zaS o had=nw at hl k
 ac_nf0
 by_cases h0:nw.length=0
 ·rw [qa4 h0] at k
  rw [show decide ((0:Int)<(nw.length:Int))=false by rw [h0];rfl]
  ac_nf0
  exact k
 ·have er:=znP (p:=o.2.toNat) (k:=nw.length) (by omega) (zot (by omega))
  rw [show ((o.2.toNat:Nat):Int)=o.2 by omega] at er
  rw [qa5 h0] at k
  rw [show decide ((0:Int)<(nw.length:Int))=true by rw [qaD];omega]
  ac_nf0
  rw [er]
  ac_nf0
  exact k
theorem ze5 (s:Stk m os) (e:zrx hv had h): ∀ (is:List Nat) (acc:Acc) (x4 x5 x6:Option D) {P:Out->Hh->Prop},(∀ i∈is,i<os.length)->zvs acc->
  (∀ y4 y5 y6,P (.nx [some (zbb m os),some (hv),some (zoN ((is.filterMap (zis os had)).foldl stp acc)),some (zt7 ((is.filterMap (zis os had)).foldl stp acc)),y4,y5,y6]) h)->
  wp (zaQ (fun x sd=>do let sd1<-zcq 2 (zaz (zaI 4) (zaz (zaI 5) zcI)) x sd;za5 sd1) (is.map fun (i:Nat)=> .tup [.int (i:Int),(os.map zcJ).getD i .non]) [some (zbb m os),some (hv),some (zoN acc),some (zt7 acc),x4,x5,x6]) h P
 | [],acc,x4,x5,x6,P,_,_,k=>by
  rw [List.map_nil,zct,zam]
  exact k x4 x5 x6
 | i::r,acc,x4,x5,x6,P,hi,ho,k=>by
  have h1:=hi i qau
  have mo:os.getD i ([],0)∈os:=by simp [List.getD,h1]
  have ol:=s.olen _ mo
  have pp:=s.pos _ mo
  have hnl:=zfB (o:=os.getD i ([],0)) (had:=had)
  have eb:=fun (P:D->Hh->Prop) (k:P (zqk (os.getD i ([],0)) had) h)=>zfo (o:=os.getD i ([],0)) (by omega) pp e k
  have eo:(os.map zcJ).getD i .non=zcJ (os.getD i ([],0)):=by simp [List.getD,h1]
  have hr:=fun y hy=>hi y (qan _ hy)
  rw [qaM,zbo,eo]
  rw [qat] at k
  unfold zqk at eb
  have er:zis os had i=if (zaS (os.getD i ([],0)) had).length=0 then none else some ((os.getD i ([],0)).2.toNat,(zaS (os.getD i ([],0)) had).length,i):=rfl
  generalize os.getD i ([],0)=o at ol pp hnl eb er
  have n0:znE .non .non=pure (.bl false):=rfl
  have n1: ∀ p k:Nat,znE (zdA p k) .non=pure (.bl true):=fun _ _=>rfl
  have n2:zt9 .non .non=pure (.bl true):=rfl
  have n3: ∀ p k:Nat,zt9 (zdA p k) .non=pure (.bl false):=fun _ _=>rfl
  simp only [zcJ,tI] at eb
  by_cases hc:(zaS o had).length=0
  ·rw [qa4 hc] at eb er
   rw [er] at k
   have ih:=fun (x4 x5 x6:Option D)=>ze5 s e r acc x4 x5 x6 (P:=P) hr ho k
   generalize zaQ (fun x sd=>do let sd1<-zcq 2 (zaz (zaI 4) (zaz (zaI 5) zcI)) x sd;za5 sd1) (r.map fun (i:Nat)=> .tup [.int (i:Int),(os.map zcJ).getD i .non])=zbk at ih ⊢
   simp only [za5]
   ac_nf0
   refine eb _ ?_
   ac_nf0
   rw [n0]
   ac_nf0
   exact ih _ _ _
  ·rw [qa5 hc] at eb er
   rw [er] at k
   have c0:0<(zaS o had).length:=Nat.pos_of_ne_zero hc
   have c1:(zaS o had).length<=12:=by omega
   have ih:=fun (x4 x5 x6:Option D)=>ze5 s e r (stp acc (o.2.toNat,(zaS o had).length,i)) x4 x5 x6 (P:=P) hr (znC ho c0 c1) k
   generalize zaQ (fun x sd=>do let sd1<-zcq 2 (zaz (zaI 4) (zaz (zaI 5) zcI)) x sd;za5 sd1) (r.map fun (i:Nat)=> .tup [.int (i:Int),(os.map zcJ).getD i .non])=zbk at ih ⊢
   clear k er
   generalize (zaS o had).length=c at*
   simp only [za5]
   ac_nf0
   refine eb _ ?_
   ac_nf0
   rw [n1]
   ac_nf0
   cases acc with
   | none=>
    simp only [zt7,zoN,stp] at ih ⊢
    rw [n2]
    ac_nf0
    exact ih _ _ _
   | some y=>
    obtain ⟨k0,k1⟩:=ho y rfl
    have hl:=zpB (p:=o.2.toNat) (c:=c) (p':=y.1) (c':=y.2.1) c0 c1 k0 k1
    simp only [zt7,zoN,stp] at ih ⊢
    rw [n3]
    ac_nf0
    rw [hl]
    ac_nf0
    by_cases hlt:o.2.toNat*y.2.1<y.1*c
    ·rw [qa4 hlt] at ih
     rw [decide_eq_true hlt]
     ac_nf0
     exact ih _ _ _
    ·rw [qa5 hlt] at ih
     rw [decide_eq_false hlt]
     ac_nf0
     exact ih _ _ _
theorem zkE (s:Stk m os) (e:zrx hv had h) {P:D->Hh->Prop} (k:P (zoN (zcf os had)) h):wp (F_28 [zbb m os,hv]) h P:=by
 have ee:zvD (cOp dIx (zag 0) (cK (.int 1))) [some (zbb m os),some (hv),some .non,some .non,none,none,none]=pure ((List.range os.length).map fun (i:Nat)=> .tup [.int (i:Int),(os.map zcJ).getD i .non]):=by
  show (pure (zo0 (os.map zcJ)):M (List D))=_
  unfold zo0
  rw [qaH]
 rw [d_28]
 simp only [G_28]
 simp only [za7,zcY,zeZ,pure_bind,zg0,List.set,bind_assoc,zht]
 rw [ee,pure_bind,zan]
 refine ze5 s e (List.range os.length) none none none none (fun i hi=>List.mem_range.mp hi) (fun y e=>by cases e) fun y4 y5 y6=> ?_
 ac_nf0
 exact k
theorem ziu {m:Int} {had:List Int} (m0:0<=m) (hn:had.Nodup) (hb: ∀ t∈had,0<=t/\t<m):(had.length:Int)=m↔ ∀ t:Int,0<=t->t<m->t∈had:=by
 have hf:=ziA m0 (zb0 hn) fun x hx=>hb x ((zau had).mem_iff.mp hx)
 rw [(zau had).length_eq,Bool.eq_iff_iff,beq_iff_eq,beq_iff_eq] at hf
 rw [<- hf]
 constructor
 ·intro e t t0 t1
  refine (zau had).mem_iff.mp ?_
  rw [e]
  exact qaU.mpr ⟨t.toNat,List.mem_range.mpr (by omega),by omega⟩
 ·intro h
  refine zib (zb0 hn) (zbz _) fun t=> ?_
  rw [(zau had).mem_iff]
  constructor
  ·intro ht
   have:=hb t ht
   exact qaU.mpr ⟨t.toNat,List.mem_range.mpr (by omega),by omega⟩
  ·intro ht
   have:=zbB t ht
   exact h t (by omega) (by omega)
theorem zbC {o:List Int×Int} {t:Int}:t∈zaS o had↔t∈o.1/\t∉had:=by
 unfold zaS
 rw [List.mem_filter]
 constructor
 ·rintro ⟨h1,h2⟩
  exact ⟨h1,fun z=>by rw [zcg.mpr z] at h2;cases h2⟩
 ·rintro ⟨h1,h2⟩
  refine ⟨h1,?_⟩
  cases hb:had.any (· == t) with
  | false=>rfl
  | true=>exact absurd (zcg.mp hb) h2
theorem zfZ {o:List Int×Int} {had':List Int} (h: ∀ t,t∈had↔t∈had'):zaS o had=zaS o had':=by
 unfold zaS
 refine List.filter_congr fun t _=> ?_
 congr 1
 rw [Bool.eq_iff_iff,zcg,zcg,h]
theorem ziI {had':List Int} (h: ∀ t,t∈had↔t∈had'):zcf os had=zcf os had':=by
 have e:zis os had=zis os had':=by
  funext i
  unfold zis
  rw [zfZ h]
 unfold zcf
 rw [e]
theorem zgn {y:Nat×Nat×Nat}: ∀ (xs:List (Nat×Nat×Nat)) (acc:Acc),xs.foldl stp acc=some y->acc=some y\/y∈xs
 | [],acc,e=> .inl e
 | x::r,acc,e=>by
  rw [List.foldl_cons] at e
  rcases zgn r _ e with z | z
  ·unfold stp at z
   split at z
   ·cases z
    exact .inr qau
   ·split at z
    ·cases z
     exact .inr qau
    ·exact .inl z
  ·exact .inr (qan _ z)
theorem ze4: ∀ (xs:List (Nat×Nat×Nat)) (z:Nat×Nat×Nat), ∃ y,xs.foldl stp (some z)=some y
 | [],z=>⟨z,rfl⟩
 | x::r,z=>by
  rw [List.foldl_cons]
  have e:stp (some z) x=some x\/stp (some z) x=some z:=by
   simp only [stp]
   split
   ·exact .inl rfl
   ·exact .inr rfl
  rcases e with e | e<;>rw [e]
  ·exact ze4 r x
  ·exact ze4 r z
theorem zbU {y:Nat×Nat×Nat} (e:zcf os had=some y):y.2.2<os.length/\y.2.1=(zaS (os.getD y.2.2 ([],0)) had).length/\0<y.2.1:=by
 unfold zcf at e
 rcases zgn _ _ e with z | z
 ·cases z
 ·obtain ⟨i,hi,e⟩:=List.mem_filterMap.mp z
  unfold zis at e
  split at e
  ·cases e
  ·rename_i hc
   cases e
   exact ⟨List.mem_range.mp hi,rfl,Nat.pos_of_ne_zero hc⟩
theorem zm8 (hi:i<os.length) {t:Int} (ht:t∈(os.getD i ([],0)).1) (hn:t∉had): ∃ y,zcf os had=some y:=by
 have hm:t∈zaS (os.getD i ([],0)) had:=zbC.mpr ⟨ht,hn⟩
 have hl:=List.length_pos_of_mem hm
 have:((os.getD i ([],0)).2.toNat,(zaS (os.getD i ([],0)) had).length,i)∈(List.range os.length).filterMap (zis os had):=List.mem_filterMap.mpr ⟨i,List.mem_range.mpr hi,by unfold zis;rw [qa5 (by omega)]⟩
 unfold zcf
 cases hx:(List.range os.length).filterMap (zis os had) with
 | nil=>rw [hx] at this;cases this
 | cons x r=>
  rw [List.foldl_cons]
  exact ze4 r x
structure Ok (m:Int) (had:List Int):Prop where
 nd:had.Nodup
 bd: ∀ t∈had,0<=t/\t<m
theorem Ok.nil:Ok m []:=⟨.nil,fun t ht=>by cases ht⟩
theorem Ok.more (s:Stk m os) (o:Ok m had) (hi:i<os.length):Ok m (had++zaS (os.getD i ([],0)) had):=by
 have mo:os.getD i ([],0)∈os:=by simp [List.getD,hi]
 refine ⟨List.nodup_append.mpr ⟨o.nd,?_,fun a ha b hb e=> ?_⟩,fun t ht=> ?_⟩
 ·unfold zaS
  exact ((s.up _ mo).imp fun z=>by omega).filter _
 ·subst e
  exact (zbC.mp hb).2 ha
 ·rcases qaK.mp ht with z | z
  ·exact o.bd t z
  ·exact s.bd _ mo t (zbC.mp z).1
theorem ziN (s:Stk m os) (hf:zdT m os=true) (o:Ok m had):(had.length:Int)<m↔ ∃ y,zcf os had=some y:=by
 have m0:=s.m0
 have hl:=zbQ (by omega) o.nd o.bd
 have ha:=ziu (by omega) o.nd o.bd
 constructor
 ·intro hlt
  have hna: ¬ ∀ t:Int,0<=t->t<m->t∈had:=fun z=>by
   have:=ha.mpr z
   omega
  obtain ⟨t,ht⟩:=Classical.not_forall.mp hna
  have ht:0<=t/\t<m/\t∉had:=by
   refine ⟨Classical.byContradiction fun z=>ht fun a=>absurd a z,Classical.byContradiction fun z=>ht fun _ a=>absurd a z,fun z=>ht fun _ _=>z⟩
  obtain ⟨of,ho,hx⟩:=(zgW s).mp hf t ht.1 ht.2.1
  obtain ⟨i,hi,rfl⟩:=List.mem_iff_getElem.mp ho
  exact zm8 hi (by simpa [List.getD,hi] using hx) ht.2.2
 ·rintro ⟨y,e⟩
  obtain ⟨h1,h2,h3⟩:=zbU e
  refine Classical.byContradiction fun z=> ?_
  have hall:=ha.mp (by omega)
  obtain ⟨t,ht⟩:=List.exists_mem_of_length_pos (l:=zaS (os.getD y.2.2 ([],0)) had) (by omega)
  obtain ⟨k1,k2⟩:=zbC.mp ht
  have mo:os.getD y.2.2 ([],0)∈os:=by simp [List.getD,h1]
  have:=s.bd _ mo t k1
  exact k2 (hall t this.1 this.2)
noncomputable def zbv (os:List (List Int×Int)):Nat->List Int->List (Nat×List Int)
 | 0,_=>[]
 | f+1,had=>match zcf os had with
  | none=>[]
  | some y=>(y.2.2,zaS (os.getD y.2.2 ([],0)) had)::zbv os f (had++zaS (os.getD y.2.2 ([],0)) had)
theorem zcX {f:Nat} (e:zcf os had=none):zbv os f had=[]:=by
 cases f with
 | zero=>rfl
 | succ f=>rw [zbv,e]
theorem zci {f:Nat} {y:Nat×Nat×Nat} (e:zcf os had=some y):zbv os (f+1) had=(y.2.2,zaS (os.getD y.2.2 ([],0)) had)::zbv os f (had++zaS (os.getD y.2.2 ([],0)) had):=by
 rw [zbv,e]
theorem zgK: ∀ (f:Nat) (had:List Int),(zbv os f had).length<=f
 | 0,_=>qaV _
 | f+1,had=>by
  rw [zbv]
  split
  ·exact Nat.zero_le _
  ·rw [qaE]
   exact Nat.succ_le_succ (zgK f _)
theorem zdd: ∀ (f:Nat) (had:List Int), ∀ x∈zbv os f had,x.1<os.length/\zaS (os.getD x.1 ([],0)) had≠[]/\0<x.2.length/\x.2.length<=(os.getD x.1 ([],0)).1.length
 | 0,had,x,hx=>by cases hx
 | f+1,had,x,hx=>by
  rw [zbv] at hx
  split at hx
  ·cases hx
  ·rename_i y e
   obtain ⟨h1,h2,h3⟩:=zbU e
   rcases qaP.mp hx with rfl | hx
   ·refine ⟨h1,fun z=> ?_,by show 0<(zaS _ _).length;omega,zfB⟩
    have z:zaS (os.getD y.2.2 ([],0)) had=[]:=z
    rw [z] at h2
    simp at h2
    omega
   ·obtain ⟨k1,k2,k3,k4⟩:=zdd f _ x hx
    refine ⟨k1,fun z=> ?_,k3,k4⟩
    obtain ⟨t,ht⟩:=List.exists_mem_of_ne_nil _ k2
    obtain ⟨w1,w2⟩:=zbC.mp ht
    have:t∈zaS (os.getD x.1 ([],0)) had:=zbC.mpr ⟨w1,fun w=>w2 (List.mem_append_left _ w)⟩
    rw [z] at this
    cases this
theorem zln: ∀ (f:Nat) (had:List Int),((zbv os f had).map fun x=>(x.1:Int)).Nodup
 | 0,had=> .nil
 | f+1,had=>by
  rw [zbv]
  split
  ·exact .nil
  ·rename_i y e
   rw [qaM,List.nodup_cons]
   refine ⟨fun z=> ?_,zln f _⟩
   obtain ⟨x,hx,ex⟩:=qaU.mp z
   obtain ⟨k1,k2,_⟩:=zdd f _ x hx
   have ex:x.1=y.2.2:=by omega
   rw [ex] at k2
   obtain ⟨t,ht⟩:=List.exists_mem_of_ne_nil _ k2
   obtain ⟨w1,w2⟩:=zbC.mp ht
   exact w2 (qaK.mpr (Classical.or_iff_not_imp_left.mpr fun w=>zbC.mpr ⟨w1,w⟩))
theorem zdN {ls:List Int} {t:Int}:t∈zkz os ls↔ ∃ x∈ls,t∈(os.getD x.toNat ([],0)).1:=by
 unfold zkz zbf
 rw [zbi,List.mem_flatMap]
 constructor
 ·rintro ⟨o,ho,ht⟩
  obtain ⟨x,hx,rfl⟩:=qaU.mp ho
  exact ⟨x,hx,ht⟩
 ·rintro ⟨x,hx,ht⟩
  exact ⟨_,qaU.mpr ⟨x,hx,rfl⟩,ht⟩
theorem zmz {ls:List Int} (h: ∀ t,t∈had↔t∈zkz os ls): ∀ t,t∈had++zaS (os.getD i ([],0)) had↔t∈zkz os (ls++[(i:Int)]):=fun t=>by
 rw [zdN,qaK,zbC,h t,zdN]
 constructor
 ·rintro (⟨x,hx,ht⟩ | ⟨ht,_⟩)
  ·exact ⟨x,List.mem_append_left _ hx,ht⟩
  ·exact ⟨(i:Int),by simp,by rw [qaB];exact ht⟩
 ·rintro ⟨x,hx,ht⟩
  rcases qaK.mp hx with z | z
  ·exact .inl ⟨x,z,ht⟩
  ·have z:x=(i:Int):=by simpa using z
   subst z
   rw [qaB] at ht
   by_cases w: ∃ x∈ls,t∈(os.getD x.toNat ([],0)).1
   ·exact .inl w
   ·exact .inr ⟨ht,w⟩
noncomputable def wD (os:List (List Int×Int)) (x:Nat×List Int):D:= .tup [.int (x.1:Int),tI x.2,zdA (os.getD x.1 ([],0)).2.toNat x.2.length]
theorem zja {had:List Int} {a b:Nat} {h:Hh} {x3 x4 x5:Option D} {P:Bool->Hh->Prop} (eb:h[b]? = some (.lst (had.map D.int))) (k:P (decide ((had.length:Int)<m)) h):wp (zbq [some (zbb m os),some (.cel a),some (.cel b),x3,x4,x5]) h P:=by
 simp only [zbq]
 ac_nf0
 rw [zt6]
 simp only [bind_assoc,zan,zcl eb,pure_bind,zqR,qaH,zam,zmW,zdg]
 exact k
theorem znq (s:Stk m os) (hf:zdT m os=true) {a b:Nat} (hab:a≠b) (f:Nat): ∀ {had:List Int} {rs:List (Nat×List Int)} {h:Hh} {x3 x4 x5:Option D} {P:Out->Hh->Prop} (N:Nat),Ok m had->h[a]? = some (.lst (rs.map (wD os)))->h[b]? = some (.lst (had.map D.int))->m<=had.length+f->rs.length+f<=100->f<N->
  (∀ y3 y4 y5 h',(∀ j,j≠a->j≠b->h'[j]? = h[j]?)->h'.length=h.length->h'[a]? = some (.lst ((rs++zbv os f had).map (wD os)))->P (.nx [some (zbb m os),some (.cel a),some (.cel b),y3,y4,y5]) h')->
  wp (zbP zbq zbK N [some (zbb m os),some (.cel a),some (.cel b),x3,x4,x5]) h P:=by
 induction f with
 | zero=>
  intro had rs h x3 x4 x5 P N o ea eb hm hl hN k
  obtain ⟨N,rfl⟩: ∃ N',N=N'+1:=⟨N - 1,by omega⟩
  rw [zdv,zan]
  refine zja eb ?_
  rw [show decide ((had.length:Int)<m)=false by rw [decide_eq_false_iff_not];omega]
  ac_nf0
  exact k _ _ _ _ (fun _ _ _=>rfl) rfl (by rw [zbv,List.append_nil];exact ea)
 | succ f ih=>
  intro had rs h x3 x4 x5 P N o ea eb hm hl hN k
  obtain ⟨N,rfl⟩: ∃ N',N=N'+1:=⟨N - 1,by omega⟩
  rw [zdv,zan]
  refine zja eb ?_
  have bi:=ziN s hf o
  cases hb:zcf os had with
  | none=>
   have hc: ¬(had.length:Int)<m:=fun z=>by
    obtain ⟨y,e⟩:=bi.mp z
    rw [hb] at e
    cases e
   rw [decide_eq_false hc]
   ac_nf0
   exact k _ _ _ _ (fun _ _ _=>rfl) rfl (by rw [zcX hb,List.append_nil];exact ea)
  | some y=>
   rw [zci hb] at k
   have hc:(had.length:Int)<m:=bi.mpr ⟨y,hb⟩
   obtain ⟨h1,h2,h3⟩:=zbU hb
   have mo:os.getD y.2.2 ([],0)∈os:=by simp [List.getD,h1]
   have ol:=s.olen _ mo
   have pp:=s.pos _ mo
   have eo:=zfp (os:=os) (i:=(y.2.2:Int)) (by omega) (by omega)
   rw [qaB] at eo
   have o':=Ok.more s o h1
   have hln:=(qac.mp ea).1
   have hlb:=(qac.mp eb).1
   have hhl:=zbQ (by have:=s.m0;omega) o.nd o.bd
   have m1:=s.m1
   have bw:=fun (P:D->Hh->Prop)=>zkE s (zgf eb) (P:=P)
   rw [hb] at bw
   have hw:wD os (y.2.2,zaS (os.getD y.2.2 ([],0)) had)= .tup [.int (y.2.2:Int),tI (zaS (os.getD y.2.2 ([],0)) had),zdA (os.getD y.2.2 ([],0)).2.toNat (zaS (os.getD y.2.2 ([],0)) had).length]:=rfl
   have e1:=fun (P:D->Hh->Prop)=>zpj (o:=os.getD y.2.2 ([],0)) (by omega) (zgf eb) (P:=P)
   have e2:=fun (P:D->Hh->Prop)=>zfo (o:=os.getD y.2.2 ([],0)) (by omega) pp (zgf eb) (P:=P)
   unfold zqk at e2
   rw [qa5 (by omega)] at e2
   have ih':=fun (x3 x4 x5:Option D)=>ih (had:=had++zaS (os.getD y.2.2 ([],0)) had) (rs:=rs++[(y.2.2,zaS (os.getD y.2.2 ([],0)) had)]) (h:=(h.set a (.lst (rs.map (wD os)++[wD os (y.2.2,zaS (os.getD y.2.2 ([],0)) had)]))).set b (.lst ((had++zaS (os.getD y.2.2 ([],0)) had).map D.int))) (x3:=x3) (x4:=x4) (x5:=x5) (P:=P) N o'
    (by rw [qao (Ne.symm hab),qai hln,List.map_append];rfl) (by rw [qai (by rw [qaI];exact hlb)]) (by rw [qav];omega) (by simp;omega) (by omega)
    fun y3 y4 y5 h' q1 q2 q3=>k y3 y4 y5 h' (fun j ja jb=>by rw [q1 j ja jb,qao (Ne.symm jb),qao (Ne.symm ja)]) (by rw [q2,qaI,qaI]) (by rw [q3,List.append_assoc];rfl)
   have f1:=zaA (show (rs.length+1)<=1000 by omega)
   have hnl:=zfB (o:=os.getD y.2.2 ([],0)) (had:=had)
   have f2:=zaA (show had.length+(zaS (os.getD y.2.2 ([],0)) had).length<=1000 by omega)
   have f3:=zaA (show 3<=1000 by omega)
   have eb':(h.set a (.lst (rs.map (wD os)++[wD os (y.2.2,zaS (os.getD y.2.2 ([],0)) had)])))[b]? = some (.lst (had.map D.int)):=by rw [qao hab];exact eb
   rw [hw] at ih' eb'
   rw [decide_eq_true hc,qa4 rfl]
   generalize zbP zbq zbK N=zbk at ih' ⊢
   generalize os.getD y.2.2 ([],0)=of at*
   generalize zaS of had=nw at*
   simp only [zoN] at bw
   simp only [zcJ,tI,List.map_append] at e1 e2 eo ih' eb'
   simp only [zbK]
   ac_nf0
   refine bw _ ?_
   ac_nf0
   rw [zna]
   ac_nf0
   rw [eo]
   ac_nf0
   refine e1 _ ?_
   ac_nf0
   simp only [zic,zdn,zd1,zaP,zaG,pure_bind,bind_assoc,zan,zcl ea,zam]
   ac_nf0
   refine e2 _ ?_
   ac_nf0
   simp only [zcl ea,zan,zam,qaH,f1,f3,zfY,pure_bind,zdn,zd1]
   ac_nf0
   simp only [zcl eb',zan,zam,qaH,f2,zfY,pure_bind]
   ac_nf0
   rw [f2,zam]
   exact ih' _ _ _
theorem zgV (s:Stk m os) (hf:zdT m os=true):Ev (F_26 [zbb m os]) (.lst ((zbv os 10 []).map (wD os))):=by
 have m1:=s.m1
 refine .of_wp fun h=> ?_
 rw [d_26]
 simp only [G_26]
 ac_nf0
 refine (zlX s hf).wp fun h1 g1=> ?_
 ac_nf0
 have hl:=g1
 obtain ⟨t,rfl⟩:=g1
 generalize hu:h++t=u at hl ⊢
 have hul:h.length<=u.length:=by rw [<- hu];simp
 refine znq s hf (a:=u.length) (b:=u.length+1) (by omega) 10 (had:=[]) (rs:=[]) 1000 Ok.nil (by simp) (by rw [qaa (by omega)];simp) (by simp;omega) (by simp) (by decide) fun y3 y4 y5 h' q1 q2 q3=> ?_
 ac_nf0
 rw [List.nil_append] at q3
 refine zr0 q3 ?_
 ac_nf0
 have g:Gro h (h'.set u.length .dead):=Kp.gro ⟨by rw [qaI,q2,qav];omega,fun j hj=>by
   rw [qao (by omega),q1 j (by omega) (by omega),qad (by omega), <-hu,qad hj]⟩
 first | exact ⟨trivial,g⟩ | exact ⟨g,trivial⟩ | exact ⟨rfl,g⟩ | exact g
theorem zq8 {fs:FA} {sd:Sd}:zjt fs sd=(do let ds<-fs sd;zlH ds):=rfl
theorem zgl: ∀ (xs:List Rat) (a:Rat),xs.foldl (· + ·) a=a+xs.foldl (· + ·) 0
 | [],a=>by rw [List.foldl_nil,List.foldl_nil,Rat.add_zero]
 | x::r,a=>by
  rw [List.foldl_cons,List.foldl_cons,zgl r (a+x),zgl r (0+x),Rat.zero_add,Rat.add_assoc]
theorem zeH:qs []=0:=rfl
theorem zbh (x:Rat) (r:List Rat):qs (x::r)=x+qs r:=by
 unfold qs
 rw [List.foldl_cons,Rat.zero_add,zgl]
theorem zto: ∀ {rs:List Rat},(∀ r∈rs,0<=r)->0<=qs rs
 | [],_=>by rw [zeH];exact Rat.le_refl
 | r::rs,h=>by
  have h1:=h r qau
  have h2:=zto fun y hy=>h y (qan _ hy)
  rw [zbh]
  grind
noncomputable def hL (n:Nat):List (Int×Nat):=(List.range n).map fun (k:Nat)=>(1,k+1)
noncomputable def hR (n:Nat):Rat:=qs ((hL n).map rq)
theorem zkF {B:Nat}: ∀ ps:List (Int×Nat),(∀ p∈ps,p.2<=B)->dpp ps<=B^ps.length
 | [],_=>qaV _
 | p::ps,h=>by
  show p.2*dpp ps<=B^(ps.length+1)
  rw [Nat.pow_succ,Nat.mul_comm (B^ps.length)]
  exact Nat.mul_le_mul (h p qau) (zkF ps fun x hx=>h x (qan _ hx))
theorem zvE {n:Nat} (h:n<=12):Pz (hL n) where
 dp1:=by
  have h1:=zkF (B:=12) (hL n) fun p hp=>by
   obtain ⟨k,hk,rfl⟩:=qaU.mp hp
   have:=List.mem_range.mp hk
   show k+1<=12
   omega
  have h2:(hL n).length=n:=by unfold hL;simp
  rw [h2] at h1
  have h3:12^n<=12^12:=Nat.pow_le_pow_right (by decide) h
  have h4:12^12<=2^48:=by decide
  have h5:2^48<=2^2000:=Nat.pow_le_pow_right (by decide) (by decide)
  omega
 ln:=by unfold hL;simp;omega
 r1:=fun r hr=>by
  obtain ⟨k,hk,rfl⟩:=qaU.mp hr
  exact Nat.one_le_two_pow
 p0:=fun r hr=>by
  obtain ⟨k,hk,rfl⟩:=qaU.mp hr
  exact Nat.succ_pos k
theorem ziY {n:Nat} (h:n<=12):F_31 [.int (n:Int)]=pure (qD (hR n)):=by
 have et:=zvW (zvE h) (d:= .lst ((hL n).map pD)) rfl
 have ec:zaJ (zjt (zad (cK (.int 1)) (zad (cOp zdQ (zag 0) (cK (.int 1))) zat))) (zaI 0) (fun _=>pure true) zbO [none] [some (.int (n:Int))]=pure (.lst ((hL n).map pD)):=by
  rw [show (hL n).map pD=(List.range n).filterMap fun (k:Nat)=>some (.tup [.int 1,.int (1+(k:Int))]) by
    unfold hL
    rw [qaT]
    simp only [List.filterMap_eq_map',Function.comp_def]
    refine List.map_congr_left fun k _=> ?_
    unfold pD
    rw [show (((k+1:Nat)):Int)=1+(k:Int) by omega]]
  refine zb8 (g':=fun (k:Nat)=> .int (1+(k:Int))) ?_ (by simp;omega) fun k _=> ?_
  ·rw [zq8]
   ac_nf0
   exact zpT (by omega)
  ·have eb:zaw [none] [some (D.int (n:Int))]=[none]:=rfl
   rw [eb]
   simp only [zbn,zbO]
   ac_nf0
 rw [d_31]
 simp only [G_31]
 unfold hR
 generalize (hL n).map pD=ps at et ec
 generalize qD (qs ((hL n).map rq))=q at et
 ac_nf0
 rw [zdI rfl]
 simp only [isI]
 ac_nf0
 simp only [zmW]
 ac_nf0
 rw [show decide ((n:Int)<0)=false by rw [decide_eq_false_iff_not];omega]
 ac_nf0
 rw [show decide ((100:Int)<(n:Int))=false by rw [decide_eq_false_iff_not];omega]
 ac_nf0
 rw [ec]
 ac_nf0
 rw [et]
 ac_nf0
theorem zii (n:Nat):hR (n+1)=hR n+mkRat 1 (n+1):=by
 unfold hR hL
 rw [List.range_succ,List.map_append,List.map_append]
 unfold qs
 rw [List.foldl_append]
 rfl
theorem zpt:hR 0=0:=rfl
theorem zqM (n:Nat):0<mkRat 1 (n+1):=by
 have h:=(zoy (p:=0) (c:=1) (p':=1) (c':=n+1) (by decide) (by omega)).mpr (by omega)
 rw [show mkRat ((0:Nat):Int) 1=0 from zsR] at h
 exact h
theorem zgQ {a b:Nat} (h:a<=b):hR a<=hR b:=by
 induction h with
 | refl=>exact Rat.le_refl
 | @step k _ ih=>
  have:=zqM k
  rw [zii]
  grind
theorem zo4:hR 1=1:=by decide +kernel
theorem zea {n:Nat} (h:0<n):0<hR n:=by
 have:=zgQ (a:=1) (b:=n) h
 rw [zo4] at this
 grind
noncomputable abbrev Rw:=Nat×List Int
noncomputable def frD (os:List (List Int×Int)) (x:Rw):D:=zdA (os.getD x.1 ([],0)).2.toNat x.2.length
noncomputable def ziq (xs:List Rw):List (Int×Rw):=xs.flatMap fun x=>x.2.map fun t=>(t,x)
theorem zgi (s:Stk m os) (hf:zdT m os=true): ∀ (f:Nat) (had:List Int),Ok m had->m<=had.length+f-> ∀ t:Int,0<=t->t<m->t∈had\/ ∃ x∈zbv os f had,t∈x.2
 | 0,had,o,hm,t,t0,t1=>by
  have m0:=s.m0
  have hl:=zbQ (by omega) o.nd o.bd
  exact .inl ((ziu (by omega) o.nd o.bd).mp (by omega) t t0 t1)
 | f+1,had,o,hm,t,t0,t1=>by
  have m0:=s.m0
  cases hb:zcf os had with
  | none=>
   have hc: ¬(had.length:Int)<m:=fun z=>by
    obtain ⟨y,e⟩:=(ziN s hf o).mp z
    rw [hb] at e
    cases e
   have hl:=zbQ (by omega) o.nd o.bd
   exact .inl ((ziu (by omega) o.nd o.bd).mp (by omega) t t0 t1)
  | some y=>
   rw [zci hb]
   obtain ⟨h1,h2,h3⟩:=zbU hb
   rcases zgi s hf f (had++zaS (os.getD y.2.2 ([],0)) had) (Ok.more s o h1) (by rw [qav];omega) t t0 t1 with z | ⟨x,hx,ht⟩
   ·rcases qaK.mp z with z | z
    ·exact .inl z
    ·exact .inr ⟨_,qau,z⟩
   ·exact .inr ⟨x,qan _ hx,ht⟩
noncomputable def zin (os:List (List Int×Int)) (t:Nat):Option Rw:=zdP (ziq (zbv os 10 [])) (t:Int) none
theorem zoZ (s:Stk m os) (hf:zdT m os=true) {t:Nat} (ht:t<m.toNat): ∃ x,zin os t=some x/\x∈zbv os 10 []:=by
 have m1:=s.m1
 have ex: ∃ x,zin os t=some x:=by
  refine zhA _ (.inr ?_)
  rcases zgi s hf 10 [] Ok.nil (by simp;omega) (t:Int) (by omega) (by omega) with z | ⟨x,hx,hxt⟩
  ·cases z
  ·exact ⟨((t:Int),x),List.mem_flatMap.mpr ⟨x,hx,qaU.mpr ⟨_,hxt,rfl⟩⟩,rfl⟩
 obtain ⟨x,hx⟩:=ex
 refine ⟨x,hx,?_⟩
 rcases zjh _ hx with z | ⟨a,ha,e⟩
 ·cases z
 ·obtain ⟨y,hy,hm⟩:=List.mem_flatMap.mp ha
  obtain ⟨w,_,rfl⟩:=qaU.mp hm
  exact e▸hy
theorem zgz (s:Stk m os) {x:Rw} (hx:x∈zbv os 10 []):0<x.2.length/\x.2.length<=10/\True/\True:=by
 obtain ⟨w1,w2,w3,w4⟩:=zdd 10 [] x hx
 have mo:os.getD x.1 ([],0)∈os:=by simp [List.getD,w1]
 have ol:=s.olen _ mo
 exact ⟨w3,by omega,trivial,trivial⟩
theorem zrf (s:Stk m os):(ziq (zbv os 10 [])).length<=100:=by
 have key: ∀ xs:List Rw,(∀ x∈xs,x.2.length<=10)->(ziq xs).length<=xs.length*10:=fun xs h=>by
  induction xs with
  | nil=>simp [ziq]
  | cons x r ih=>
   have h1:=h x qau
   have h2:=ih fun y hy=>h y (qan _ hy)
   unfold ziq at h2 ⊢
   rw [List.flatMap_cons,qav,qaH,qaE]
   omega
 have h1:=key (zbv os 10 []) fun x hx=>(zgz s hx).2.1
 have h2:=zgK (os:=os) 10 []
 omega
theorem zli {c:Nat} {s0:Option D} {x:Rw}: ∀ (ts:List Int) {h:Hh} {kvs:List (Int×D)} {x3:Option D} {P:Out->Hh->Prop},h[c]? = some (.dic kvs)->kvs.length+ts.length<=500->
  (∀ y3,P (.nx [s0,some (.cel c),some (wD os x),y3]) (h.set c (.dic (zcz (frD os) kvs (ts.map fun t=>(t,x))))))->
  wp (zaQ (fun x sd=>za2 (List.set sd 3 (some x))) (ts.map D.int) [s0,some (.cel c),some (wD os x),x3]) h P
 | [],h,kvs,x3,P,e,hl,k=>by
  rw [List.map_nil,zct,zam]
  have:=k x3
  rw [show zcz (frD os) kvs ([].map fun t=>(t,x))=kvs from rfl,show h.set c (.dic kvs)=h from zjU e] at this
  exact this
 | t::r,h,kvs,x3,P,e,hl,k=>by
  have hln:=(qac.mp e).1
  have pl:=zlg kvs t (frD os x)
  rw [qaE] at hl
  have ih:=fun (x3:Option D)=>zli (c:=c) (s0:=s0) (x:=x) r (h:=h.set c (.dic (zgh kvs t (frD os x)))) (kvs:=zgh kvs t (frD os x)) (x3:=x3) (P:=P) (qai hln) (by omega) fun y3=>by
   rw [List.set_set]
   exact k y3
  have f1:=zaA (show kvs.length+1<=1000 by omega)
  have a2:dIx (wD os x) (.int 2)=pure (frD os x):=rfl
  rw [qaM,zbo]
  generalize zaQ (fun x sd=>za2 (List.set sd 3 (some x))) (r.map D.int)=zbk at ih ⊢
  simp only [za2]
  ac_nf0
  rw [a2]
  ac_nf0
  simp only [zr9]
  ac_nf0
  simp only [zty]
  ac_nf0
  rw [zmk e]
  ac_nf0
  rw [f1]
  ac_nf0
  rw [zpq]
  ac_nf0
  exact ih _
theorem zi4 (s:Stk m os) {c:Nat} {s0:Option D}: ∀ (xs:List Rw) {h:Hh} {kvs:List (Int×D)} {x2 x3:Option D} {P:Out->Hh->Prop},h[c]? = some (.dic kvs)->kvs.length+(ziq xs).length<=500->
  (∀ y2 y3,P (.nx [s0,some (.cel c),y2,y3]) (h.set c (.dic (zcz (frD os) kvs (ziq xs)))))->
  wp (zaQ (fun x sd=>za0 (List.set sd 2 (some x))) (xs.map (wD os)) [s0,some (.cel c),x2,x3]) h P
 | [],h,kvs,x2,x3,P,e,hl,k=>by
  rw [List.map_nil,zct,zam]
  have:=k x2 x3
  rw [show zcz (frD os) kvs (ziq [])=kvs from rfl,show h.set c (.dic kvs)=h from zjU e] at this
  exact this
 | x::r,h,kvs,x2,x3,P,e,hl,k=>by
  have hln:=(qac.mp e).1
  have ea:ziq (x::r)=x.2.map (fun t=>(t,x))++ziq r:=List.flatMap_cons
  rw [ea] at hl k
  rw [qav,qaH] at hl
  have al:=zme (f:=frD os) (x.2.map fun t=>(t,x)) kvs
  rw [qaH] at al
  have ih:=fun (x2 x3:Option D)=>zi4 s (c:=c) (s0:=s0) r (h:=h.set c (.dic (zcz (frD os) kvs (x.2.map fun t=>(t,x))))) (kvs:=zcz (frD os) kvs (x.2.map fun t=>(t,x))) (x2:=x2) (x3:=x3) (P:=P) (qai hln) (by omega) fun y2 y3=>by
   have:=k y2 y3
   rw [zqi] at this
   rw [List.set_set]
   exact this
  have a1:dIx (wD os x) (.int 1)=pure (.tup (x.2.map D.int)):=rfl
  rw [qaM,zbo]
  generalize zaQ (fun x sd=>za0 (List.set sd 2 (some x))) (r.map (wD os))=zbk at ih ⊢
  simp only [za0]
  ac_nf0
  rw [a1]
  ac_nf0
  refine zli x.2 e (by omega) fun y3=> ?_
  ac_nf0
  exact ih _ _
noncomputable def frO (os:List (List Int×Int)) (t:Nat):D:=match zin os t with
 | some x=>frD os x
 | none=> .non
theorem znO {c:Nat} {h:Hh} {kvs:List (Int×D)} {f:Rw->D} (e:h[c]? = some (.dic kvs)) (ek: ∀ t:Nat,zeD kvs (t:Int)=(zin os t).map f) {t:Nat} {x:Rw} (hx:zin os t=some x) {P:D->Hh->Prop} (k:P (f x) h):wp (zuc (.cel c) (.int (t:Int))) h P:=by
 show wp (do let kvs<-zcN c;ofO (zeD kvs (t:Int)):M D) h P
 rw [zan,zmk e,ek,hx]
 show wp (pure (f x)) h P
 rw [zam]
 exact k
theorem ztV {f:Rw->D} (t:Nat):zeD (zcz f [] (ziq (zbv os 10 []))) (t:Int)=(zin os t).map f:=zlp _ rfl
theorem znk (s:Stk m os) (hf:zdT m os=true):Ev (F_33 [zbb m os]) (.lst ((List.range m.toNat).map fun t=>frO os t)):=by
 have m0:=s.m0
 have m1:=s.m1
 have al:=zrf s
 refine .of_wp fun h=> ?_
 rw [d_33]
 simp only [G_33]
 ac_nf0
 rw [zqo]
 ac_nf0
 refine (zgV s hf).wp fun h1 g1=> ?_
 obtain ⟨t,rfl⟩:=g1
 ac_nf0
 have hln:h.length<(h++[C.dic []]++t).length:=by simp
 refine zi4 s (c:=h.length) (zbv os 10 []) (kvs:=[]) (by simp) (by simp;omega) fun y2 y3=> ?_
 ac_nf0
 unfold zaJ
 ac_nf0
 rw [zqR]
 ac_nf0
 rw [zc4 (by omega) (by omega),zdC,qaT]
 ac_nf0
 rw [zaA (by simp;omega)]
 ac_nf0
 refine zti (g':=fun (t:Nat)=> .int (t:Int)) (k:=fun t=>some (frO os t)) (xs:=List.range m.toNat) (fun t ht=> ?_) ?_
 ·obtain ⟨x,hx,_⟩:=zoZ s hf (List.mem_range.mp ht)
  rw [show zaw [none,some 1] [some (zbb m os),some (.cel h.length),y2,y3]=[none,some (.cel h.length)] from rfl]
  simp only [zbn,zb5]
  ac_nf0
  refine znO (qai hln) (fun t=>ztV t) hx ?_
  ac_nf0
  refine ⟨?_,trivial⟩
  unfold frO
  rw [hx]
 ·rw [show (List.range m.toNat).filterMap (fun t=>some (frO os t))=(List.range m.toNat).map fun t=>frO os t by simp]
  ac_nf0
  refine ⟨Kp.gro ⟨by rw [qaI];simp,fun j hj=> ?_⟩,trivial⟩
  rw [qao (by omega),List.append_assoc,qad hj]
noncomputable def zlc (os:List (List Int×Int)):List Int:=os.map fun o=>(o.1.length:Int)
noncomputable def mxN (os:List (List Int×Int)):Nat:=(zjD (zlc os)).toNat
theorem zhF (s:Stk m os) (hf:zdT m os=true):zjD (zlc os)=(mxN os:Int)/\0<mxN os/\mxN os<=10/\0<(zlc os).length:=by
 have m0:=s.m0
 obtain ⟨o,ho,_⟩:=(zgW s).mp hf 0 (by omega) (by omega)
 have hl:0<(zlc os).length:=by
  unfold zlc
  rw [qaH]
  exact List.length_pos_of_mem ho
 obtain ⟨o',ho',e⟩:=qaU.mp (zol hl)
 have e:(o'.1.length:Int)=zjD (zlc os):=e
 have h1:=s.olen o' ho'
 have h2:=List.length_pos_iff.mpr (s.ne o' ho')
 unfold mxN
 omega
noncomputable def fr (os:List (List Int×Int)) (x:Rw):Rat:=mkRat (os.getD x.1 ([],0)).2.toNat x.2.length
noncomputable def bW (os:List (List Int×Int)) (W:List Rw) (t:Int):Rat:=match W.find? fun x=>x.2.any (· == t) with
 | some x=>fr os x
 | none=>0
theorem zgX (W:List Rw) (x:Rw) (t:Int):bW os (x::W) t=if x.2.any (· == t) then fr os x else bW os W t:=by
 unfold bW
 rw [List.find?_cons]
 cases x.2.any (· == t)<;>rfl
theorem zgY: ∀ (f:Nat) (had:List Int),(∀ x∈zbv os f had, ∀ t∈x.2,t∉had)/\(zbv os f had).Pairwise fun x y=> ∀ t∈x.2,t∉y.2
 | 0,had=>⟨fun x hx=>(by cases hx),.nil⟩
 | f+1,had=>by
  cases hb:zcf os had with
  | none=>
   rw [zcX hb]
   exact ⟨fun x hx=>(by cases hx),.nil⟩
  | some y=>
   rw [zci hb]
   obtain ⟨h1,h2⟩:=zgY f (had++zaS (os.getD y.2.2 ([],0)) had)
   refine ⟨fun x hx t ht=> ?_,qay.mpr ⟨fun x hx t ht hxt=> ?_,h2⟩⟩
   ·rcases qaP.mp hx with rfl | hx
    ·exact (zbC.mp ht).2
    ·exact fun z=>h1 x hx t ht (List.mem_append_left _ z)
   ·exact h1 x hx t hxt (qak _ ht)
theorem zjN {t:Int} {x:Rw}: ∀ (ts:List Int) (o:Option Rw),zdP (ts.map fun u=>(u,x)) t o=if ts.any (· == t) then some x else o
 | [],o=>rfl
 | u::ts,o=>by
  have:=zjN (t:=t) (x:=x) ts (if u==t then some x else o)
  rw [List.any_cons]
  unfold zdP at this ⊢
  rw [qaM,List.foldl_cons,this]
  cases u==t<;>cases ts.any (· == t)<;>rfl
theorem zfE {t:Int}: ∀ (W:List Rw) (o:Option Rw),W.Pairwise (fun x y=> ∀ t∈x.2,t∉y.2)->(o.isSome=true-> ∀ x∈W,t∉x.2)->zdP (ziq W) t o=match o with | some z=>some z | none=>W.find? fun x=>x.2.any (· == t)
 | [],o,_,_=>by cases o<;>rfl
 | x::W,o,hp,ho=>by
  obtain ⟨p1,p2⟩:=qay.mp hp
  have e:zdP (ziq (x::W)) t o=zdP (ziq W) t (if x.2.any (· == t) then some x else o):=by
   unfold ziq
   rw [List.flatMap_cons]
   rw [show zdP (x.2.map (fun u=>(u,x))++W.flatMap fun x=>x.2.map fun t=>(t,x)) t o=zdP (W.flatMap fun x=>x.2.map fun t=>(t,x)) t (zdP (x.2.map fun u=>(u,x)) t o) from by unfold zdP;rw [List.foldl_append]]
   rw [zjN]
  rw [e]
  cases hx:x.2.any (· == t) with
  | true=>
   have hxt:=zcg.mp hx
   rw [qa4 rfl,zfE W (some x) p2 fun _ y hy=>p1 y hy t hxt]
   cases o with
   | some z=>exact absurd hxt (ho rfl x qau)
   | none=>simp [List.find?_cons,hx]
  | false=>
   simp only [qax,if_false]
   rw [zfE W o p2 fun h y hy=>ho h y (qan _ hy)]
   cases o with
   | some z=>rfl
   | none=>simp [List.find?_cons,hx]
noncomputable def bt (os:List (List Int×Int)) (t:Nat):Rat:=bW os (zbv os 10 []) (t:Int)
theorem zrq (s:Stk m os) (hp: ∀ o∈os,o.2<2^64) (hf:zdT m os=true) {t:Nat} (ht:t<m.toNat):frO os t=qD (bt os t)/\0<=bt os t/\(bt os t).num.natAbs<=2^64/\(bt os t).den<=10:=by
 obtain ⟨x,hx,hm⟩:=zoZ s hf ht
 obtain ⟨l0,l1,_,_⟩:=zgz s hm
 have e:=zfE (t:=(t:Int)) (zbv os 10 []) none (zgY 10 []).2 fun h=>by cases h
 have eb:bt os t=fr os x:=by
  unfold bt bW
  rw [<- show zin os t=(zbv os 10 []).find? fun x=>x.2.any (· == (t:Int)) from e,hx]
 refine ⟨?_,?_,?_,?_⟩
 ·rw [eb]
  unfold frO
  rw [hx]
  exact zew l0
 ·rw [eb]
  unfold fr
  exact Rat.num_nonneg.mp (by
    rw [Rat.num_mkRat,qa5 (by omega)]
    exact Int.ediv_nonneg (by omega) (by omega))
 ·rw [eb]
  have h1:=zhH (((os.getD x.1 ([],0)).2.toNat:Nat):Int) l0
  rw [Int.natAbs_natCast] at h1
  have w1:=(zdd 10 [] x hm).1
  have h2:=hp (os.getD x.1 ([],0)) (by simp [List.getD,w1])
  have h3:(os.getD x.1 ([],0)).2.toNat<=2^64:=by omega
  exact qaS h1 h3
 ·rw [eb]
  exact qaS (ze3 _ l0) l1
theorem zix {h:Rat} (hp:0<h):0<h.num:=by
 have h1:0<=h.num:=Rat.num_nonneg.mpr (by grind)
 by_cases h2:h.num=0
 ·have:h=0:=Rat.num_eq_zero.mp h2
  grind
 ·omega
noncomputable def dv (a h:Rat):Rat:=mkRat (a.num*(h.den:Int)) (a.den*h.num.toNat)
theorem ziW {a h:Rat} (hp:0<h):dv a h*h=a:=by
 have hn:0<h.num:=zix hp
 have e1:((h.num.toNat:Nat):Int)=h.num:=by omega
 conv=>lhs;rhs;rw [<- Rat.mkRat_self h]
 unfold dv
 rw [Rat.mkRat_mul_mkRat]
 conv=>rhs;rw [<- Rat.mkRat_self a]
 have e2:a.num*(h.den:Int)*h.num=a.num*((h.den*h.num.toNat:Nat):Int):=by
  rw [Int.natCast_mul,e1,Int.mul_assoc]
 have e3:a.den*h.num.toNat*h.den=a.den*(h.den*h.num.toNat):=by
  rw [Nat.mul_assoc,Nat.mul_comm h.num.toNat]
 rw [e2,e3]
 exact Rat.mkRat_mul_right (Nat.pos_iff_ne_zero.mp (Nat.mul_pos h.den_pos (by omega)))
theorem zqr {a h x:Rat} (hp:0<h) (e:x*h=a):x=dv a h:=by
 have e2:=ziW (a:=a) hp
 have hne:h≠0:=by grind
 have:x*h*h⁻¹=dv a h*h*h⁻¹:=by rw [e,e2]
 rw [Rat.mul_assoc,Rat.mul_assoc,Rat.mul_inv_cancel h hne,Rat.mul_one,Rat.mul_one] at this
 exact this
noncomputable def ls (os:List (List Int×Int)) (t:Nat):Rat:=dv (bt os t) (hR (mxN os))
theorem zmG (z:Int):z.toNat<=z.natAbs:=by omega
theorem zfH {z:Int} (h:0<z):0<z.toNat:=by omega
theorem zwz {n:Nat} (h:n<=12):(hR n).num.natAbs<2^6000/\(hR n).den<2^6000:=qsP (zvE h)
theorem zps (s:Stk m os) (hp: ∀ o∈os,o.2<2^64) (hf:zdT m os=true):Ev (F_32 [zbb m os]) (.tup (((List.range m.toNat).map (ls os)).map qD)):=by
 have m0:=s.m0
 have m1:=s.m1
 have ol:=s.len
 obtain ⟨x1,x2,x3,x4⟩:=zhF s hf
 have e1: ∀ {y1 y2:Option D},zaJ (iSq (cOp dIx (zag 0) (cK (.int 1)))) (zaI 0) (fun _=>pure true) zdk [none] [some (zbb m os),y1,y2]=pure (.lst ((zlc os).map D.int)):=fun {y1 y2}=>by
  unfold zlc
  rw [qaT,show os.map (D.int∘fun o=>(o.1.length:Int))=os.filterMap fun o=>some (.int (o.1.length:Int)) by simp [Function.comp_def]]
  refine zb8 (g':=zcJ) (by ac_nf0;rw [zna];ac_nf0) (by omega) fun o _=> ?_
  have eb:zaw [none] [some (zbb m os),y1,y2]=[none]:=rfl
  rw [eb]
  simp only [zbn,zdk]
  ac_nf0
 have hpos:=zea x2
 obtain ⟨z1,z2⟩:=zwz (n:=mxN os) (by omega)
 have hn:=zix hpos
 have e2:zaJ (iSq (zag 1)) (zaI 0) (fun _=>pure true) zdp [none,some 2] [some (zbb m os),some (.lst ((List.range m.toNat).map fun t=>frO os t)),some (qD (hR (mxN os)))]=pure (.lst (((List.range m.toNat).map (ls os)).map qD)):=by
  rw [show ((List.range m.toNat).map (ls os)).map qD=(List.range m.toNat).filterMap fun t=>some (qD (ls os t)) by rw [qaT];simp [Function.comp_def]]
  refine zb8 (g':=frO os) (by ac_nf0) (by simp;omega) fun t ht=> ?_
  obtain ⟨f1,_,f3,f4⟩:=zrq s hp hf (List.mem_range.mp ht)
  have p1:(bt os t).num.natAbs<2^6000:=zaY (n:=64) (by decide) f3
  have p2:((bt os t).den:Int).natAbs<2^6000:=by
   rw [Int.natAbs_natCast]
   exact zaY (n:=4) (by decide) (qaS f4 (by decide))
  have em1:=zmZ p1 (b:=((hR (mxN os)).den:Int)) (by rw [Int.natAbs_natCast];exact z2)
  have em2:=zmZ p2 z1
  have e3:(((bt os t).den*(hR (mxN os)).num.toNat:Nat):Int)=((bt os t).den:Int)*(hR (mxN os)).num:=by
   rw [Int.natCast_mul,Int.toNat_of_nonneg (Int.le_of_lt hn)]
  have hb:(bt os t).den*(hR (mxN os)).num.toNat<bb:=by
   have h1:(hR (mxN os)).num.toNat<=2^6000:=qaS (zmG _) (Nat.le_of_lt z1)
   have h2:(bt os t).den<=2^4:=qaS f4 (by decide)
   have h3:=ziM h2 h1
   exact Nat.lt_of_le_of_lt h3 (qaw (Nat.pow_lt_pow_right (by decide) (by decide:4+6000<6500)) (zku (by decide)))
  have er:=zen (a:=(bt os t).num*((hR (mxN os)).den:Int)) (Nat.mul_pos (bt os t).den_pos (zfH hn)) hb
  rw [e3] at er
  have er:F_3 [.int ((bt os t).num*((hR (mxN os)).den:Int)),.int (((bt os t).den:Int)*(hR (mxN os)).num)]=pure (qD (ls os t)):=er
  rw [show zaw [none,some 2] [some (zbb m os),some (.lst ((List.range m.toNat).map fun t=>frO os t)),some (qD (hR (mxN os)))]=[none,some (qD (hR (mxN os)))] from rfl,f1]
  simp only [zbn,zdp]
  generalize qD (ls os t)=q at er
  unfold qD
  ac_nf0
  rw [em1,em2]
  ac_nf0
  rw [er]
  ac_nf0
 have es:=ziY (n:=mxN os) (by omega)
 refine .of_wp fun h=> ?_
 rw [d_32]
 simp only [G_32]
 generalize qD (hR (mxN os))=hq at e2 es
 generalize ((List.range m.toNat).map (ls os)).map qD=lq at e2
 ac_nf0
 refine (znk s hf).wp fun h1 g1=> ?_
 ac_nf0
 rw [e1]
 ac_nf0
 rw [zoF x4,x1]
 ac_nf0
 rw [es]
 ac_nf0
 rw [e2]
 ac_nf0
 first | exact ⟨trivial,g1⟩ | exact ⟨g1,trivial⟩ | exact ⟨rfl,g1⟩ | exact g1
theorem zpk (rs:List Rat) (o:List Int×Int):bB rs o=true↔qs (pk rs o.1)<=(o.2:Rat):=by
 unfold bB
 rw [Bool.not_eq_true',decide_eq_false_iff_not,Rat.le_iff,Rat.num_intCast,Rat.den_intCast]
 constructor
 ·intro h;simp;omega
 ·intro h;simp at h;omega
theorem zjG: ∀ a b:List Rat,qs (a++b)=qs a+qs b
 | [],b=>by rw [List.nil_append,zeH];grind
 | x::a,b=>by rw [List.cons_append,zbh,zbh,zjG a b];grind
theorem zk3 {a b:List Rat} (h:List.Perm a b):qs a=qs b:=by
 induction h with
 | nil=>rfl
 | cons x _ ih=>rw [zbh,zbh,ih]
 | swap x y l=>rw [zbh,zbh,zbh,zbh];grind
 | trans _ _ ih1 ih2=>rw [ih1,ih2]
theorem zhZ (p:Int->Bool) (g:Int->Rat): ∀ xs:List Int,qs (xs.map g)=qs ((xs.filter p).map g)+qs ((xs.filter fun x=> !p x).map g)
 | []=>by rw [List.map_nil,zeH,List.filter_nil,List.filter_nil,List.map_nil,zeH];grind
 | x::xs=>by
  have ih:=zhZ p g xs
  rw [qaM,zbh,ih,List.filter_cons,List.filter_cons]
  cases p x with
  | true=>simp only [if_true,Bool.not_true,qax,if_false,qaM,zbh];grind
  | false=>simp only [if_true,Bool.not_false,qax,if_false,qaM,zbh];grind
theorem zeU {g:Int->Rat} {c:Rat}: ∀ xs:List Int,(∀ x∈xs,g x=c)->qs (xs.map g)=((xs.length:Int):Rat)*c
 | [],_=>by rw [List.map_nil,zeH,qaJ];grind
 | x::xs,h=>by
  rw [qaM,zbh,zeU xs fun y hy=>h y (qan _ hy),h x qau,qaE]
  rw [show (((xs.length+1:Nat):Int):Rat)=((xs.length:Int):Rat)+1 by rw [Int.natCast_add];exact Rat.intCast_add _ _]
  grind
theorem zf0 (p:Int->Bool): ∀ xs:List Int,(xs.filter p).length+(xs.filter fun x=> !p x).length=xs.length
 | []=>rfl
 | x::xs=>by
  have ih:=zf0 p xs
  rw [List.filter_cons,List.filter_cons]
  cases p x with
  | true=>simp only [if_true,Bool.not_true,qax,if_false,qaE];omega
  | false=>simp only [if_true,Bool.not_false,qax,if_false,qaE];omega
theorem zgB {g g':Int->Rat} {xs:List Int} (h: ∀ x∈xs,g x=g' x):qs (xs.map g)=qs (xs.map g'):=by
 rw [List.map_congr_left h]
theorem zlK (a:Int):mkRat a 1=(a:Rat):=by
 have:=Rat.mkRat_self (a:Rat)
 exact this
theorem zmE (a:Int) {n:Nat} (hn:0<n):mkRat a n*((n:Int):Rat)=(a:Rat):=by
 rw [<- zlK,Rat.mkRat_mul_mkRat, <-zlK]
 have:=Rat.mkRat_mul_right (n:=a) (d:=1) (a:=n) (by omega)
 rw [Nat.one_mul] at this
 rw [Nat.mul_one]
 exact this
theorem zrV (a:Int) {n:Nat} (hn:0<n):mkRat a n=(a:Rat)*mkRat 1 n:=by
 rw [<- zlK,Rat.mkRat_mul_mkRat,Int.mul_one,Nat.one_mul]
theorem zfd {a:Int} (h:0<=a):(0:Rat)<=(a:Rat):=Rat.num_nonneg.mp (by rw [Rat.num_intCast];exact h)
theorem zoD {a b:Nat} (h0:0<a) (h:a<=b):mkRat 1 b<=mkRat 1 a:=by
 have:=mt (zoy (p:=1) (c:=a) (p':=1) (c':=b) h0 (by omega)).mp (by omega)
 have e:((1:Nat):Int)=1:=rfl
 rw [e] at this
 exact Rat.not_lt.mp this
theorem zv6 {n:Nat}: ∀ r,r<=n->((r:Int):Rat)*mkRat 1 n<=hR n - hR (n - r)
 | 0,_=>by
  rw [Nat.sub_zero]
  rw [show (((0:Nat):Int):Rat)=0 from rfl]
  grind
 | r+1,h=>by
  have ih:=zv6 (n:=n) r (by omega)
  have e:n - r=(n - (r+1))+1:=by omega
  rw [e,zii] at ih
  have h1:=zoD (a:=n - (r+1)+1) (b:=n) (by omega) (by omega)
  rw [show (((r+1:Nat):Int):Rat)=((r:Int):Rat)+1 by rw [Int.natCast_add];exact Rat.intCast_add _ _]
  grind
theorem zi6: ∀ (xs:List (Nat×Nat×Nat)) (acc:Acc) {y:Nat×Nat×Nat},(∀ x∈xs,0<x.2.1)->(∀ z,acc=some z->0<z.2.1)->xs.foldl stp acc=some y->0<y.2.1/\(∀ z,acc=some z->mkRat y.1 y.2.1<=mkRat z.1 z.2.1)/\ ∀ x∈xs,mkRat y.1 y.2.1<=mkRat x.1 x.2.1
 | [],acc,y,_,ha,e=>by
  have e:acc=some y:=e
  subst e
  exact ⟨ha y rfl,fun z e=>(by cases e;exact Rat.le_refl),fun x hx=>(by cases hx)⟩
 | x::xs,acc,y,h,ha,e=>by
  rw [List.foldl_cons] at e
  have hx:=h x qau
  obtain ⟨a1,a2,a3⟩:=zi6 xs (stp acc x) (fun z hz=>h z (qan _ hz)) (fun z e=>by
    unfold stp at e
    split at e
    · cases e;exact hx
    · split at e
      · cases e;exact hx
      · cases e;exact ha _ rfl) e
  have key:(∀ z,acc=some z->mkRat y.1 y.2.1<=mkRat z.1 z.2.1)/\mkRat y.1 y.2.1<=mkRat x.1 x.2.1:=by
   unfold stp at a2
   split at a2
   ·exact ⟨fun z e=>(by cases e),a2 x rfl⟩
   ·rename_i w
    have hw:=ha w rfl
    have hl:=zoy (p:=x.1) (p':=w.1) hx hw
    split at a2
    ·rename_i hc
     have h1:=hl.mpr hc
     have h2:=a2 x rfl
     exact ⟨fun z e=>(by cases e;grind),h2⟩
    ·rename_i hc
     have h1:=Rat.not_lt.mp (mt hl.mp hc)
     have h2:=a2 w rfl
     exact ⟨fun z e=>(by cases e;exact h2),by grind⟩
  exact ⟨a1,key.1,fun z hz=>by
    rcases qaP.mp hz with rfl | hz
    · exact key.2
    · exact a3 z hz⟩
theorem zhn {had:List Int} {y:Nat×Nat×Nat} (e:zcf os had=some y):fr os (y.2.2,zaS (os.getD y.2.2 ([],0)) had)=mkRat y.1 y.2.1/\ ∀ i,i<os.length->zaS (os.getD i ([],0)) had≠[]->fr os (y.2.2,zaS (os.getD y.2.2 ([],0)) had)<=mkRat (os.getD i ([],0)).2.toNat (zaS (os.getD i ([],0)) had).length:=by
 have hpos: ∀ x∈(List.range os.length).filterMap (zis os had),0<x.2.1:=fun x hx=>by
  obtain ⟨i,_,e⟩:=List.mem_filterMap.mp hx
  unfold zis at e
  split at e
  ·cases e
  ·rename_i h
   cases e
   exact Nat.pos_of_ne_zero h
 have fm:=zi6 _ none hpos (fun z e=>by cases e) e
 have ey:fr os (y.2.2,zaS (os.getD y.2.2 ([],0)) had)=mkRat y.1 y.2.1:=by
  rcases zgn _ _ e with z | z
  ·cases z
  ·obtain ⟨i,_,e⟩:=List.mem_filterMap.mp z
   unfold zis at e
   split at e
   ·cases e
   ·cases e
    rfl
 refine ⟨ey,fun i hi hne=> ?_⟩
 rw [ey]
 have hl:(zaS (os.getD i ([],0)) had).length≠0:=fun z=>hne (List.eq_nil_of_length_eq_zero z)
 exact fm.2.2 ((os.getD i ([],0)).2.toNat,(zaS (os.getD i ([],0)) had).length,i) (List.mem_filterMap.mpr ⟨i,List.mem_range.mpr hi,by unfold zis;rw [qa5 hl]⟩)
theorem zjw (o:List Int×Int) (had nw:List Int):zaS o (had++nw)=(zaS o had).filter fun t=> !nw.any (· == t):=by
 unfold zaS
 rw [List.filter_filter]
 congr 1
 funext t
 rw [List.any_append,Bool.not_or,Bool.and_comm]
theorem zwK {i:Nat} (hi:i<os.length): ∀ (f:Nat) (had:List Int),qs ((zaS (os.getD i ([],0)) had).map (bW os (zbv os f had)))<=(((os.getD i ([],0)).2.toNat:Int):Rat)*hR (zaS (os.getD i ([],0)) had).length:=by
 have base: ∀ had:List Int,qs ((zaS (os.getD i ([],0)) had).map (bW os []))<=(((os.getD i ([],0)).2.toNat:Int):Rat)*hR (zaS (os.getD i ([],0)) had).length:=fun had=>by
  rw [zeU (g:=bW os []) (c:=0) _ fun x _=>rfl]
  have h1:=zfd (a:=((os.getD i ([],0)).2.toNat:Int)) (by omega)
  have h2:=zgQ (Nat.zero_le (zaS (os.getD i ([],0)) had).length)
  rw [zpt] at h2
  have h3:=Rat.mul_nonneg h1 h2
  grind
 intro f
 induction f with
 | zero=>exact base
 | succ f ih=>
  intro had
  cases hb:zcf os had with
  | none=>rw [zcX hb];exact base had
  | some y=>
   rw [zci hb]
   obtain ⟨ey,hmin⟩:=zhn hb
   have ih:=ih (had++zaS (os.getD y.2.2 ([],0)) had)
   rw [zjw] at ih
   generalize hx:((y.2.2,zaS (os.getD y.2.2 ([],0)) had):Rw)=x at hmin ⊢
   have hx2:zaS (os.getD y.2.2 ([],0)) had=x.2:=by rw [<- hx]
   rw [hx2] at ih ⊢
   generalize hN:zaS (os.getD i ([],0)) had=N at ih hmin ⊢
   rw [zhZ (fun t=>x.2.any (· == t)),zeU (c:=fr os x) _ fun t ht=>by rw [zgX,(List.mem_filter.mp ht).2,qa4 rfl]]
   rw [zgB (g:=bW os (x::zbv os f (had++x.2))) (g':=bW os (zbv os f (had++x.2))) (xs:=N.filter fun t=> !x.2.any (· == t)) fun t ht=>by
     have:=(List.mem_filter.mp ht).2
     rw [zgX,qa5 (by intro z;rw [z] at this;cases this)]]
   have hlen:(N.filter fun t=>x.2.any (· == t)).length+(N.filter fun t=> !x.2.any (· == t)).length=N.length:=by
    exact zf0 _ N
   generalize (N.filter fun t=> !x.2.any (· == t))=N2 at ih hlen ⊢
   generalize hr:(N.filter fun t=>x.2.any (· == t)).length=r at hlen ⊢
   have hP:=zfd (a:=((os.getD i ([],0)).2.toNat:Int)) (by omega)
   have hm:N≠[]->fr os x<=(((os.getD i ([],0)).2.toNat:Int):Rat)*mkRat 1 N.length:=fun hne=>by
    have h1:=hmin i hi (by rw [hN];exact hne)
    rw [hN] at h1
    rw [zrV _ (List.length_pos_iff.mpr hne)] at h1
    exact h1
   generalize (((os.getD i ([],0)).2.toNat:Int):Rat)=P at ih hP hm ⊢
   have hh:=zv6 (n:=N.length) r (by omega)
   rw [show N.length - r=N2.length by omega] at hh
   by_cases hne:N=[]
   ·subst hne
    have:r=0:=by rw [qaJ] at hlen;omega
    subst this
    have e2:N2.length=0:=by rw [qaJ] at hlen;omega
    rw [e2] at ih
    rw [show (((0:Nat):Int):Rat)=0 from rfl]
    simp only [qaJ]
    grind
   ·have hm:=hm hne
    have hrn:=zfd (a:=(r:Int)) (by omega)
    generalize ((r:Int):Rat)=rr at hh hrn ⊢
    have h1:=Rat.mul_le_mul_of_nonneg_left hm hrn
    have h2:=Rat.mul_le_mul_of_nonneg_left hh hP
    generalize qs (N2.map (bW os (zbv os f (had++x.2))))=S at ih ⊢
    generalize mkRat 1 N.length=iv at hm h1 h2 hh
    generalize hR N.length=HN at h2 hh ⊢
    generalize hR N2.length=HM at ih h2 hh
    grind
theorem zmM (H:Rat) {α:Type} (g:α->Rat): ∀ xs:List α,qs (xs.map g)*H=qs (xs.map fun x=>g x*H)
 | []=>by rw [List.map_nil,List.map_nil,zeH];grind
 | x::xs=>by
  rw [qaM,qaM,zbh,zbh, <-zmM H g xs]
  grind
theorem zh2 {a b H:Rat} (h:0<H) (hab:a*H<=b*H):a<=b:=by
 have h1:(a - b)*H<=0:=by grind
 by_cases hc:a<=b
 ·exact hc
 ·have h2:0<a - b:=by grind
  have h3:=Rat.mul_pos h2 h
  grind
noncomputable def lsL (m:Int) (os:List (List Int×Int)):List Rat:=(List.range m.toNat).map (ls os)
theorem zsa (s:Stk m os) (hp: ∀ o∈os,o.2<2^64) (hf:zdT m os=true) {t:Nat} (ht:t<m.toNat):0<=ls os t:=by
 obtain ⟨_,x2,_,_⟩:=zhF s hf
 have h1:=(zrq s hp hf ht).2.1
 have h2:=ziW (a:=bt os t) (zea x2)
 refine zh2 (zea x2) ?_
 unfold ls
 rw [h2]
 grind
theorem ztO {ts:List Int} (hb: ∀ t∈ts,0<=t/\t<m):pk (lsL m os) ts=ts.map fun t=>ls os t.toNat:=by
 unfold pk lsL
 refine List.map_congr_left fun t ht=> ?_
 have:=hb t ht
 have h1:t.toNat<m.toNat:=by omega
 simp [List.getD,h1]
theorem zo6 (f:Nat->Int): ∀ (k i:Nat),i<=k->f i<=f (argBest (fun i j=>decide (f i>f j)) k)
 | 0,i,h=>by
  have:i=0:=by omega
  subst this
  exact Int.le_refl _
 | k+1,i,h=>by
  have ih:=zo6 f k
  simp only [argBest]
  split
  ·rename_i hc
   rw [qaD] at hc
   by_cases hi:i<=k
   ·have:=ih i hi
    omega
   ·have:i=k+1:=by omega
    subst this
    exact Int.le_refl _
  ·rename_i hc
   rw [qaD] at hc
   by_cases hi:i<=k
   ·exact ih i hi
   ·have:i=k+1:=by omega
    subst this
    omega
theorem zqD {ns:List Int} {x:Int} (h:x∈ns):x<=zjD ns:=by
 obtain ⟨j,hj,rfl⟩:=List.getElem_of_mem h
 have:=zo6 (fun i=>ns.getD i 0) (ns.length - 1) j (by omega)
 unfold zjD
 rw [show ns[j]=ns.getD j 0 by simp [List.getD,hj]]
 exact this
theorem zfw (s:Stk m os) {o:List Int×Int} (ho:o∈os):o.1.length<=mxN os:=by
 have h1:(o.1.length:Int)∈zlc os:=qaU.mpr ⟨o,ho,rfl⟩
 have h2:=zqD h1
 unfold mxN
 omega
theorem zhV (s:Stk m os) (hf:zdT m os=true):os.all (bB (lsL m os))=true:=List.all_eq_true.mpr fun o ho=>by
 obtain ⟨_,x2,_,_⟩:=zhF s hf
 have hp:=s.pos o ho
 rw [zpk,ztO (s.bd o ho)]
 refine zh2 (zea x2) ?_
 rw [zmM]
 obtain ⟨j,hj,rfl⟩:=List.getElem_of_mem ho
 have eo:os.getD j ([],0)=os[j]:=by simp [List.getD,hj]
 have hd:=zwK hj 10 []
 rw [eo] at hd
 have en:zaS os[j] []=os[j].1:=by
  unfold zaS
  simp
 rw [en,show ((os[j].2.toNat:Nat):Int)=os[j].2 by omega] at hd
 have hm:=zgQ (zfw s ho)
 have hP:=zfd (a:=os[j].2) (by omega)
 have h2:=Rat.mul_le_mul_of_nonneg_left hm hP
 rw [zgB (g':=bW os (zbv os 10 [])) fun t ht=>by
   have hb:=s.bd _ ho t ht
   unfold ls
   rw [ziW (zea x2)]
   unfold bt
   rw [show ((t.toNat:Nat):Int)=t by omega]]
 grind
theorem zly (s:Stk m os): ∀ (f:Nat) (had:List Int),Ok m had->Ok m (had++(zbv os f had).flatMap (·.2))
 | 0,had,o=>by
  show Ok m (had++[])
  rw [List.append_nil]
  exact o
 | f+1,had,o=>by
  cases hb:zcf os had with
  | none=>
   rw [zcX hb]
   show Ok m (had++[])
   rw [List.append_nil]
   exact o
  | some y=>
   have h1:=(zbU hb).1
   have:=zly s f _ (Ok.more s o h1)
   rw [zci hb,List.flatMap_cons, <-List.append_assoc]
   exact this
theorem ziZ (s:Stk m os) (hf:zdT m os=true):List.Perm ((zbv os 10 []).flatMap (·.2)) ((List.range m.toNat).map fun (k:Nat)=>(k:Int)):=by
 have m1:=s.m1
 have o:=zly s 10 [] Ok.nil
 rw [List.nil_append] at o
 refine (List.perm_ext_iff_of_nodup o.nd ((zbz _).imp fun h=>by omega)).mpr fun t=> ?_
 constructor
 ·intro ht
  have:=o.bd t ht
  exact qaU.mpr ⟨t.toNat,List.mem_range.mpr (by omega),by omega⟩
 ·intro ht
  have hb:=zbB t ht
  rcases zgi s hf 10 [] Ok.nil (by simp;omega) t hb.1 (by omega) with z | ⟨x,hx,hxt⟩
  ·cases z
  ·exact List.mem_flatMap.mpr ⟨x,hx,hxt⟩
noncomputable def prW (os:List (List Int×Int)) (W:List Rw):Int:=(W.map fun x=>(os.getD x.1 ([],0)).2).sum
theorem zlt: ∀ (W:List Rw),(∀ x∈W,0<x.2.length/\0<=(os.getD x.1 ([],0)).2)->W.Pairwise (fun x y=> ∀ t∈x.2,t∉y.2)->qs ((W.flatMap (·.2)).map (bW os W))=(prW os W:Rat)
 | [],_,_=>by
  show qs []=((0:Int):Rat)
  rfl
 | x::W,h,hp=>by
  obtain ⟨p1,p2⟩:=qay.mp hp
  obtain ⟨h1,h2⟩:=h x qau
  have ih:=zlt W (fun y hy=>h y (qan _ hy)) p2
  rw [List.flatMap_cons,List.map_append,zjG,zeU (c:=fr os x) x.2 fun t ht=>by rw [zgX,zcg.mpr ht,qa4 rfl]]
  rw [zgB (g':=bW os W) fun t ht=>by
    obtain ⟨y,hy,hyt⟩:=List.mem_flatMap.mp ht
    have hn: ¬x.2.any (· == t)=true:=fun z=>p1 y hy t (zcg.mp z) hyt
    rw [zgX,qa5 hn]]
  rw [ih]
  have e:=zmE (((os.getD x.1 ([],0)).2.toNat:Nat):Int) h1
  rw [show (((os.getD x.1 ([],0)).2.toNat:Nat):Int)=(os.getD x.1 ([],0)).2 by omega] at e
  have e2:prW os (x::W)=(os.getD x.1 ([],0)).2+prW os W:=by
   unfold prW
   rw [qaM,List.sum_cons]
  have e3:fr os x=mkRat (os.getD x.1 ([],0)).2 x.2.length:=by
   unfold fr
   rw [show (((os.getD x.1 ([],0)).2.toNat:Nat):Int)=(os.getD x.1 ([],0)).2 by omega]
  rw [e2,Rat.intCast_add,e3,Rat.mul_comm,e]
theorem zo8 (c:Rat): ∀ n:Nat,qs (List.replicate n c)=((n:Int):Rat)*c
 | 0=>by
  show qs []=_
  rw [zeH,show (((0:Nat):Int):Rat)=0 from rfl]
  grind
 | n+1=>by
  rw [List.replicate_succ,zbh,zo8 c n,show (((n+1:Nat):Int):Rat)=((n:Int):Rat)+1 by rw [Int.natCast_add];exact Rat.intCast_add _ _]
  grind
noncomputable def evL (os:List (List Int×Int)) (W:List Rw):List Rat:=W.flatMap fun x=>List.replicate x.2.length (fr os x)
theorem zo2: ∀ (W:List Rw),(∀ x∈W,0<x.2.length/\0<=(os.getD x.1 ([],0)).2)->qs (evL os W)=(prW os W:Rat)
 | [],_=>rfl
 | x::W,h=>by
  obtain ⟨h1,h2⟩:=h x qau
  have ih:=zo2 W (fun y hy=>h y (qan _ hy))
  unfold evL at ih ⊢
  rw [List.flatMap_cons,zjG,ih,zo8]
  have e:=zmE (((os.getD x.1 ([],0)).2.toNat:Nat):Int) h1
  rw [show (((os.getD x.1 ([],0)).2.toNat:Nat):Int)=(os.getD x.1 ([],0)).2 by omega] at e
  have e2:prW os (x::W)=(os.getD x.1 ([],0)).2+prW os W:=by
   unfold prW
   rw [qaM,List.sum_cons]
  have e3:fr os x=mkRat (os.getD x.1 ([],0)).2 x.2.length:=by
   unfold fr
   rw [show (((os.getD x.1 ([],0)).2.toNat:Nat):Int)=(os.getD x.1 ([],0)).2 by omega]
  rw [e2,Rat.intCast_add,e3,Rat.mul_comm,e]
theorem zkT (s:Stk m os): ∀ x∈zbv os 10 [],0<x.2.length/\0<=(os.getD x.1 ([],0)).2:=fun x hx=>by
 obtain ⟨w1,w2,w3,w4⟩:=zdd 10 [] x hx
 have mo:os.getD x.1 ([],0)∈os:=by simp [List.getD,w1]
 have:=s.pos _ mo
 exact ⟨w3,by omega⟩
theorem zlq (s:Stk m os) (hf:zdT m os=true):qs ((List.range m.toNat).map (bt os))=(prW os (zbv os 10 []):Rat):=by
 rw [<- zlt _ (zkT s) (zgY 10 []).2,zk3 ((ziZ s hf).map _),qaT]
 rfl
theorem zpo (s:Stk m os) (hf:zdT m os=true):qs (lsL m os)*hR (mxN os)=(prW os (zbv os 10 []):Rat):=by
 obtain ⟨_,x2,_,_⟩:=zhF s hf
 rw [<- zlq s hf]
 unfold lsL
 rw [zmM]
 congr 1
 refine List.map_congr_left fun t _=> ?_
 unfold ls
 exact ziW (zea x2)
theorem zo5 {y:Int->Rat}: ∀ (xs L:List Int),xs.Nodup->(∀ x∈xs,x∈L)->(∀ x∈L,0<=y x)->qs (xs.map y)<=qs (L.map y)
 | [],L,_,_,hy=>by
  rw [List.map_nil,zeH]
  exact zto fun r hr=>by
   obtain ⟨x,hx,rfl⟩:=qaU.mp hr
   exact hy x hx
 | x::xs,L,hn,hs,hy=>by
  obtain ⟨n1,n2⟩:=List.nodup_cons.mp hn
  have hx:=hs x qau
  have hp:=List.perm_cons_erase hx
  have ih:=zo5 (y:=y) xs (L.erase x) n2 (fun z hz=>(List.mem_erase_of_ne (fun e:z=x=>n1 (by rw [<- e];exact hz))).mpr (hs z (qan _ hz))) fun z hz=>hy z (List.mem_of_mem_erase hz)
  rw [zk3 (hp.map y),qaM,qaM,zbh,zbh]
  grind
theorem weak (s:Stk m os) (hp: ∀ o∈os,o.2<2^64) (hf:zdT m os=true) {ls':List Int} (L:Lt os ls') (hc: ∀ t:Int,0<=t->t<m-> ∃ i∈ls',t∈(os.getD i.toNat ([],0)).1):qs (lsL m os)<=(pr os ls':Rat):=by
 have hmem: ∀ i∈ls',os.getD i.toNat ([],0)∈os:=fun i hi=>by
  have h1:=(L.2 i hi)
  have:i.toNat<os.length:=by omega
  simp [List.getD,this]
 have e1:qs (lsL m os)=qs (((List.range m.toNat).map fun (k:Nat)=>(k:Int)).map fun t=>ls os t.toNat):=by
  unfold lsL
  rw [qaT]
  congr 1
 have h1:=zo5 (y:=fun t=>ls os t.toNat) ((List.range m.toNat).map fun (k:Nat)=>(k:Int)) (ls'.flatMap fun i=>(os.getD i.toNat ([],0)).1) ((zbz _).imp fun h=>by omega) (fun t ht=>by
   have hb:=zbB t ht
   obtain ⟨i,hi,hit⟩:=hc t hb.1 (by omega)
   exact List.mem_flatMap.mpr ⟨i,hi,hit⟩) fun t ht=>by
   obtain ⟨i,hi,hit⟩:=List.mem_flatMap.mp ht
   have:=s.bd _ (hmem i hi) t hit
   exact zsa s hp hf (by omega)
 have h2: ∀ zs:List Int,(∀ i∈zs,os.getD i.toNat ([],0)∈os)->qs ((zs.flatMap fun i=>(os.getD i.toNat ([],0)).1).map fun t=>ls os t.toNat)<=(pr os zs:Rat):=fun zs=>by
  induction zs with
  | nil=>exact fun _=>Rat.le_refl
  | cons z zs ih=>
   intro hz
   have ho:=hz z qau
   have hb:=List.all_eq_true.mp (zhV s hf) _ ho
   rw [zpk,ztO (s.bd _ ho)] at hb
   have ih:=ih fun i hi=>hz i (qan _ hi)
   rw [List.flatMap_cons,List.map_append,zjG,show pr os (z::zs)=(os.getD z.toNat ([],0)).2+pr os zs by unfold pr;rw [qaM,List.sum_cons],Rat.intCast_add]
   grind
 have h3:=h2 ls' hmem
 rw [e1]
 grind
noncomputable def nW (os:List (List Int×Int)):List Int:=(zbv os 10 []).map fun x=>(x.1:Int)
noncomputable def zmU (os:List (List Int×Int)):List Int:=zbF (nW os)
theorem zee:List.Perm (zmU os) (nW os):=zau _
theorem zgI:Lt os (zmU os):=⟨zb0 (zln 10 []),fun x hx=>by
  obtain ⟨y,hy,rfl⟩:=qaU.mp (zee.mem_iff.mp hx)
  have:=(zdd 10 [] y hy).1
  omega⟩
theorem znx {a b:List Int} (h:List.Perm a b):a.sum=b.sum:=by
 induction h with
 | nil=>rfl
 | cons x _ ih=>rw [List.sum_cons,List.sum_cons,ih]
 | swap x y l=>rw [List.sum_cons,List.sum_cons,List.sum_cons,List.sum_cons];omega
 | trans _ _ ih1 ih2=>rw [ih1,ih2]
theorem zl5:pr os (zmU os)=prW os (zbv os 10 []):=by
 unfold pr prW
 rw [znx (zee.map _)]
 unfold nW
 rw [qaT]
 rfl
theorem zlI: ∀ (f:Nat) (had:List Int), ∀ x∈zbv os f had, ∀ t∈x.2,t∈(os.getD x.1 ([],0)).1
 | 0,had,x,hx=>by cases hx
 | f+1,had,x,hx=>by
  cases hb:zcf os had with
  | none=>rw [zcX hb] at hx;cases hx
  | some y=>
   rw [zci hb] at hx
   rcases qaP.mp hx with rfl | hx
   ·exact fun t ht=>(zbC.mp ht).1
   ·exact zlI f _ x hx
theorem zi0 (s:Stk m os) (hf:zdT m os=true): ∀ t:Int,0<=t->t<m-> ∃ i∈zmU os,t∈(os.getD i.toNat ([],0)).1:=fun t t0 t1=>by
 have m1:=s.m1
 rcases zgi s hf 10 [] Ok.nil (by simp;omega) t t0 t1 with z | ⟨x,hx,hxt⟩
 ·cases z
 ·exact ⟨(x.1:Int),zee.mem_iff.mpr (qaU.mpr ⟨x,hx,rfl⟩),by rw [qaB];exact zlI 10 [] x hx t hxt⟩
theorem zjo:(zbv os 10 []).length<=10:=zgK 10 []
theorem zmm (s:Stk m os) (hf:zdT m os=true):Ev (F_27 [zbb m os]) (tI (zmU os)):=by
 have wl:=zjo (os:=os)
 refine .of_wp fun h=> ?_
 rw [d_27]
 simp only [G_27]
 unfold zaJ
 ac_nf0
 refine (zgV s hf).wp fun h1 g1=> ?_
 ac_nf0
 rw [zaA (by omega)]
 ac_nf0
 rw [zfx (g':=wD os) (xs:=zbv os 10 []) (k:=fun x=>some (.int (x.1:Int))) fun x hx=>by
   rw [show zaw [none] [some (zbb m os)]=[none] from rfl]
   simp only [zbn,zcP]
   unfold wD
   ac_nf0]
 rw [show (zbv os 10 []).filterMap (fun x=>some (D.int (x.1:Int)))=(nW os).map D.int by unfold nW;rw [qaT];simp [Function.comp_def]]
 ac_nf0
 rw [zfe (by unfold nW;rw [qaH];omega)]
 ac_nf0
 unfold zmU
 first | exact ⟨trivial,g1⟩ | exact ⟨g1,trivial⟩ | exact ⟨rfl,g1⟩ | exact g1
theorem zla {s0 s1 s2 s7 s8 s9 s10:Option D}: ∀ (W:List Rw) (rs:List Rat) (x4 x5 x6:Option D),(∀ x∈W,0<x.2.length/\x.2.length<=12)->rs.length+12*W.length<=900-> ∃ y4 y5 y6,
  zaQ (fun x sd=>do let sd1<-zcq 3 (zaz (zaI 4) (zaz (zaI 5) (zaz (zaI 6) zcI))) x sd;za4 sd1) (W.map (wD os)) [s0,s1,s2,some (.lst (rs.map qD)),x4,x5,x6,s7,s8,s9,s10]=pure (.nx [s0,s1,s2,some (.lst ((rs++evL os W).map qD)),y4,y5,y6,s7,s8,s9,s10])
 | [],rs,x4,x5,x6,_,_=>⟨x4,x5,x6,by
   rw [List.map_nil,zct,show evL os []=[] from rfl,List.append_nil]⟩
 | x::W,rs,x4,x5,x6,h,hl=>by
  obtain ⟨h1,h2⟩:=h x qau
  rw [qaE] at hl
  obtain ⟨y4,y5,y6,ih⟩:=zla (s0:=s0) (s1:=s1) (s2:=s2) (s7:=s7) (s8:=s8) (s9:=s9) (s10:=s10) W (rs++List.replicate x.2.length (fr os x)) (some (.int (x.1:Int))) (some (tI x.2)) (some (qD (fr os x))) (fun y hy=>h y (qan _ hy)) (by rw [qav,List.length_replicate];omega)
  refine ⟨y4,y5,y6,?_⟩
  have e1:rs++evL os (x::W)=rs++List.replicate x.2.length (fr os x)++evL os W:=by
   unfold evL
   rw [List.flatMap_cons,List.append_assoc]
  have e2:zdA (os.getD x.1 ([],0)).2.toNat x.2.length=qD (fr os x):=zew h1
  have em:=zlU (qD (fr os x)) (n:=x.2.length) (by omega)
  have ef:=zaA (show rs.length+x.2.length<=1000 by omega)
  rw [List.map_append,List.map_replicate] at ih
  rw [e1,qaM,zbo, <-ih]
  generalize zaQ (fun x sd=>do let sd1<-zcq 3 (zaz (zaI 4) (zaz (zaI 5) (zaz (zaI 6) zcI))) x sd;za4 sd1) (W.map (wD os))=zbk
  unfold wD
  rw [e2,zkQ]
  simp only [za4]
  generalize qD (fr os x)=q at em
  unfold tI
  ac_nf0
  rw [em]
  ac_nf0
  rw [List.length_replicate,ef]
  ac_nf0
theorem zhI: ∀ (ps:List (Int×Nat)) (A:Int) (B:Nat),0<B->(∀ p∈ps,0<p.2)-> ∃ A',(ps.map rq).foldl (· + ·) (mkRat A B)=mkRat A' (B*dpp ps)
 | [],A,B,_,_=>⟨A,by show mkRat A B=mkRat A (B*1);rw [Nat.mul_one]⟩
 | p::ps,A,B,h,hp=>by
  have h0:=hp p qau
  obtain ⟨A',e⟩:=zhI ps (A*(p.2:Int)+p.1*(B:Int)) (B*p.2) (Nat.mul_pos h h0) fun q hq=>hp q (qan _ hq)
  refine ⟨A',?_⟩
  rw [qaM,List.foldl_cons,zdH h h0,e,Nat.mul_assoc]
  rfl
theorem zrs {ps:List (Int×Nat)} (hp: ∀ p∈ps,0<p.2):(qs (ps.map rq)).den<=dpp ps:=by
 obtain ⟨A',e⟩:=zhI ps 0 1 (by decide) hp
 unfold qs
 rw [zsR] at e
 rw [e,Nat.one_mul]
 exact ze3 A' (zge ps hp)
theorem zrC: ∀ n:Nat,hR n<=((n:Int):Rat)
 | 0=>Rat.le_refl
 | n+1=>by
  have ih:=zrC n
  have h1:=zoD (a:=1) (b:=n+1) (by decide) (by omega)
  rw [show mkRat 1 1=1 by decide +kernel] at h1
  rw [zii,show (((n+1:Nat):Int):Rat)=((n:Int):Rat)+1 by rw [Int.natCast_add];exact Rat.intCast_add _ _]
  grind
theorem zqX {a b:Int}:(a:Rat)<=(b:Rat)↔a<=b:=by
 rw [Rat.le_iff,Rat.num_intCast,Rat.num_intCast,Rat.den_intCast,Rat.den_intCast]
 simp
theorem zk0 {r:Rat} {K:Nat} (h:r<=((K:Int):Rat)):r.num<=(K:Int)*(r.den:Int):=by
 rw [Rat.le_iff,Rat.num_intCast,Rat.den_intCast] at h
 simpa using h
theorem zvY {n:Nat} (h0:0<n) (h:n<=12):(hR n).den<=2^48/\0<(hR n).num/\(hR n).num<=2^52:=by
 have hz:=zvE h
 have h1:(hR n).den<=dpp (hL n):=zrs hz.p0
 have h2:=zkF (B:=12) (hL n) fun p hp=>by
  obtain ⟨k,hk,rfl⟩:=qaU.mp hp
  have:=List.mem_range.mp hk
  show k+1<=12
  omega
 rw [show (hL n).length=n by unfold hL;simp] at h2
 have h3:12^n<=12^12:=Nat.pow_le_pow_right (by decide) h
 have h4:(12:Nat)^12<=2^48:=by decide
 have hd:(hR n).den<=2^48:=by omega
 have h5:=zk0 (zrC n)
 have h6:(n:Int)*((hR n).den:Int)<=12*2^48:=by
  have a1:(n:Int)<=12:=by omega
  have a2:((hR n).den:Int)<=2^48:=by omega
  exact Int.mul_le_mul a1 a2 (by omega) (by decide)
 exact ⟨hd,zix (zea h0),by omega⟩
theorem zts {i j:Int} (h0:0<=j) (h1:j<=2^60):zcQ (.int i) (.int j)=pure (.int (i*j)):=zgy (by
  have:za8 j=true:=by unfold za8;simp;omega
  rw [this]
  simp)
theorem zsZ {B:Nat}: ∀ rs:List Rat,(∀ r∈rs,r.den<=B)->dp rs<=B^rs.length
 | [],_=>qaV _
 | r::rs,h=>by
  show r.den*dp rs<=B^(rs.length+1)
  rw [Nat.pow_succ,Nat.mul_comm (B^rs.length)]
  exact Nat.mul_le_mul (h r qau) (zsZ rs fun x hx=>h x (qan _ hx))
theorem zjS {rs:List Rat} (hl:rs.length<=10) (h: ∀ r∈rs,r.den<=2^60):dp rs<=2^2000:=by
 have h1:=zsZ rs h
 rw [<- Nat.pow_mul] at h1
 exact qaS h1 (Nat.pow_le_pow_right (by decide) (by omega))
theorem znW (s:Stk m os) (hp: ∀ o∈os,o.2<2^64) (hf:zdT m os=true): ∀ r∈lsL m os,r.den<=2^60/\r.num.natAbs<=2^1700/\0<=r:=fun r hr=>by
 obtain ⟨_,x2,x3,_⟩:=zhF s hf
 obtain ⟨t,ht,rfl⟩:=qaU.mp hr
 have ht:=List.mem_range.mp ht
 obtain ⟨_,_,f3,f4⟩:=zrq s hp hf ht
 obtain ⟨z1,z2,z3⟩:=zvY x2 (show mxN os<=12 by omega)
 have hb:0<(bt os t).den*(hR (mxN os)).num.toNat:=Nat.mul_pos (bt os t).den_pos (zfH z2)
 refine ⟨?_,?_,zsa s hp hf ht⟩
 ·have h1:=ze3 ((bt os t).num*((hR (mxN os)).den:Int)) hb
  have h2:(bt os t).den*(hR (mxN os)).num.toNat<=2^4*2^52:=Nat.mul_le_mul (qaS f4 (by decide)) (by omega)
  have h3:(2:Nat)^4*2^52<=2^60:=by decide
  exact qaS h1 (qaS h2 h3)
 ·have h1:=zhH ((bt os t).num*((hR (mxN os)).den:Int)) hb
  rw [Int.natAbs_mul,Int.natAbs_natCast] at h1
  have h2:(bt os t).num.natAbs*(hR (mxN os)).den<=2^(64+48):=ziM f3 z1
  have h3:(2:Nat)^(64+48)<=2^1700:=Nat.pow_le_pow_right (by decide) (by decide)
  exact qaS h1 (qaS h2 h3)
theorem zv1 (s:Stk m os) (hp: ∀ o∈os,o.2<2^64) (hf:zdT m os=true):Rz (lsL m os) where
 dp1:=zjS (by have:=s.m1;unfold lsL;simp;omega) fun r hr=>(znW s hp hf r hr).1
 ln:=by have:=s.m1;unfold lsL;simp;omega
 r1:=fun r hr=>(znW s hp hf r hr).2.1
theorem zpm (s:Stk m os) (hf:zdT m os=true):(evL os (zbv os 10 [])).length<=10:=by
 have h1:=(ziZ s hf).length_eq
 have m1:=s.m1
 have h2: ∀ W:List Rw,(evL os W).length=(W.flatMap (·.2)).length:=fun W=>by
  induction W with
  | nil=>rfl
  | cons x W ih=>
   unfold evL at ih ⊢
   rw [List.flatMap_cons,List.flatMap_cons,qav,qav,ih,List.length_replicate]
 rw [h2,h1]
 simp
 omega
theorem zwE (s:Stk m os) (hp: ∀ o∈os,o.2<2^64) (hf:zdT m os=true):Rz (evL os (zbv os 10 [])):=by
 have key: ∀ r∈evL os (zbv os 10 []),r.den<=2^60/\r.num.natAbs<=2^1700:=fun r hr=>by
  obtain ⟨x,hx,hr⟩:=List.mem_flatMap.mp hr
  rw [(List.mem_replicate.mp hr).2]
  obtain ⟨l0,l1,_,_⟩:=zgz s hx
  have w1:=(zdd 10 [] x hx).1
  have h2:=hp (os.getD x.1 ([],0)) (by simp [List.getD,w1])
  have h3:(os.getD x.1 ([],0)).2.toNat<=2^64:=by omega
  have h1:=zhH (((os.getD x.1 ([],0)).2.toNat:Nat):Int) l0
  rw [Int.natAbs_natCast] at h1
  have h4:=ze3 (((os.getD x.1 ([],0)).2.toNat:Nat):Int) l0
  have h5:(2:Nat)^64<=2^1700:=Nat.pow_le_pow_right (by decide) (by decide)
  exact ⟨qaS h4 (qaS l1 (by decide)),qaS h1 (qaS h3 h5)⟩
 exact ⟨zjS (zpm s hf) fun r hr=>(key r hr).1,by have:=zpm s hf;omega,fun r hr=>(key r hr).2⟩
theorem zrO (s:Stk m os) (hp: ∀ o∈os,o.2<2^64) (hf:zdT m os=true) {ls':List Int} (L:Lt os ls') (hc: ∀ t:Int,0<=t->t<m-> ∃ i∈ls',t∈(os.getD i.toNat ([],0)).1):prW os (zbv os 10 [])*((hR (mxN os)).den:Int)<=pr os ls'*(hR (mxN os)).num:=by
 obtain ⟨_,x2,_,_⟩:=zhF s hf
 have h1:=weak s hp hf L hc
 have h2:=zpo s hf
 have hH:=zea x2
 have h3:=Rat.mul_le_mul_of_nonneg_right h1 (show 0<=hR (mxN os) by grind)
 rw [h2] at h3
 have e:=zmE (hR (mxN os)).num (hR (mxN os)).den_pos
 rw [Rat.mkRat_self] at e
 have hd:=zfd (a:=((hR (mxN os)).den:Int)) (by omega)
 have h4:=Rat.mul_le_mul_of_nonneg_right h3 hd
 rw [Rat.mul_assoc,e, <-Rat.intCast_mul, <-Rat.intCast_mul] at h4
 exact zqX.mp h4
theorem znu (s:Stk m os) (hf:zdT m os=true):qs (lsL m os)=mkRat (prW os (zbv os 10 [])*((hR (mxN os)).den:Int)) (hR (mxN os)).num.toNat:=by
 obtain ⟨_,x2,_,_⟩:=zhF s hf
 have:=zqr (zea x2) (zpo s hf)
 rw [this]
 unfold dv
 rw [Rat.num_intCast,Rat.den_intCast,Nat.one_mul]
theorem zlb (s:Stk m os) (hf:zdT m os=true):Lt os (zh7 m os).2/\(∀ t:Int,0<=t->t<m-> ∃ i∈(zh7 m os).2,t∈(os.getD i.toNat ([],0)).1)/\ ∀ ls',Lt os ls'->(∀ t:Int,0<=t->t<m-> ∃ i∈ls',t∈(os.getD i.toNat ([],0)).1)->pr os (zh7 m os).2<=pr os ls':=by
 obtain ⟨h1,h2⟩:=zg2 (zmI s hf)
 have hm:zh7 m os∈zkj m os:=by
  unfold zh7
  simp [List.getD,h1]
 obtain ⟨ls0,hl,e⟩:=qaU.mp hm
 obtain ⟨k1,k2⟩:=List.mem_filter.mp hl
 have k1:=(zhO os.length os.length ls0 (qaV _)).mp k1
 have e2:(zh7 m os).2=ls0:=by rw [<- e]
 rw [e2]
 refine ⟨⟨k1.1,fun x hx=>by have:=k1.2 x hx;omega⟩,zeo.mp k2,fun ls' L hc=> ?_⟩
 have hm':(pr os ls',ls')∈zkj m os:=qaU.mpr ⟨ls',List.mem_filter.mpr ⟨(zhO os.length os.length ls' (qaV _)).mpr ⟨L.1,fun y hy=>by have:=L.2 y hy;omega⟩,zeo.mpr hc⟩,rfl⟩
 have h3:=h2 _ hm'
 have e3:(zkj m os).getD (zed (zkj m os)) (0,[])=(pr os ls0,ls0):=e.symm
 rw [e3] at h3
 unfold pLt at h3
 by_cases hc:pr os ls'<pr os ls0
 ·simp [hc] at h3
  omega
 ·omega
theorem zji (s:Stk m os) {tp bo p:Int} (t0:0<=tp) (t1:tp<=2^60) (b0:0<=bo) (b1:bo<=2^60) {s1 s3 s4 s5 s6 s9:Option D}: ∀ (cs:List (List Int)) (x10:Option D),(∀ c∈cs,Lt os c/\p*bo<=pr os c*tp)-> ∃ y10,zaQ (fun x sd=>za3 (List.set sd 10 (some x))) (cs.map tI) [some (zbb m os),s1,some (.int p),s3,s4,s5,s6,some (.int tp),some (.int bo),s9,x10]=pure (.nx [some (zbb m os),s1,some (.int p),s3,s4,s5,s6,some (.int tp),some (.int bo),s9,y10])
 | [],x10,_=>⟨x10,rfl⟩
 | c::cs,x10,h=>by
  obtain ⟨y10,ih⟩:=zji s t0 t1 b0 b1 (p:=p) (s1:=s1) (s3:=s3) (s4:=s4) (s5:=s5) (s6:=s6) (s9:=s9) cs (some (tI c)) fun d hd=>h d (qan _ hd)
  obtain ⟨L,hb⟩:=h c qau
  have ep:=zgg s L
  refine ⟨y10,?_⟩
  rw [qaM,zbo, <-ih]
  generalize zaQ (fun x sd=>za3 (List.set sd 10 (some x))) (cs.map tI)=zbk
  simp only [za3]
  generalize tI c=d at ep
  generalize zbb m os=sk at ep
  ac_nf0
  rw [ep]
  ac_nf0
  rw [zts t0 t1,zts b0 b1]
  ac_nf0
  simp only [zmW]
  ac_nf0
  rw [decide_eq_false (by omega)]
  ac_nf0
theorem zsj (s:Stk m os) (hp: ∀ o∈os,o.2<2^64) (hf:zdT m os=true) (n9:os.length<=10) {cs:List (List Int)} (hc: ∀ c∈cs,Lt os c/\ ∀ t:Int,0<=t->t<m-> ∃ i∈c,t∈(os.getD i.toNat ([],0)).1):Ev (F_54 [zbb m os,.lst (cs.map tI)]) (.bl true):=by
 have m0:=s.m0
 have m1:=s.m1
 have wl:=zjo (os:=os)
 obtain ⟨x1,x2,x3,x4⟩:=zhF s hf
 obtain ⟨z1,z2,z3⟩:=zvY x2 (show mxN os<=12 by omega)
 have ep:=zgg s (zgI (os:=os))
 rw [zl5] at ep
 obtain ⟨y4,y5,y6,el⟩:=zla (os:=os) (s0:=some (zbb m os)) (s1:=some (.lst (cs.map tI))) (s2:=some (.int (prW os (zbv os 10 [])))) (s7:=none) (s8:=none) (s9:=none) (s10:=none) (zbv os 10 []) [] none none none (fun x hx=>by have:=zgz s hx;omega) (by simp;omega)
 rw [List.nil_append,List.map_nil] at el
 have e1: ∀ {y1 y2 y3 y4 y5 y6 y7 y8 y9 y10:Option D},zaJ (iSq (cOp dIx (zag 0) (cK (.int 1)))) (zcq 2 (zaz (zaI 0) (zaz (zaI 1) zcI))) (fun _=>pure true) zbu [none,none] [some (zbb m os),y1,y2,y3,y4,y5,y6,y7,y8,y9,y10]=pure (.lst ((zlc os).map D.int)):=fun {y1 y2 y3 y4 y5 y6 y7 y8 y9 y10}=>by
  unfold zlc
  rw [qaT,show os.map (D.int∘fun o=>(o.1.length:Int))=os.filterMap fun o=>some (.int (o.1.length:Int)) by simp [Function.comp_def]]
  refine zb8 (g':=zcJ) (by ac_nf0;rw [zna];ac_nf0) (by omega) fun o _=> ?_
  rw [show zaw [none,none] [some (zbb m os),y1,y2,y3,y4,y5,y6,y7,y8,y9,y10]=[none,none] from rfl]
  simp only [zbn,zbu]
  ac_nf0
 have es:=ziY (n:=mxN os) (by omega)
 rw [show qD (hR (mxN os))= .tup [.int (hR (mxN os)).num,.int ((hR (mxN os)).den:Int)] from rfl] at es
 have eu:=zpy (zwE s hp hf) (d:= .lst ((evL os (zbv os 10 [])).map qD)) rfl
 rw [zo2 _ (zkT s),zph] at eu
 have eb:=znA s hp (zv1 s hp hf) (by unfold lsL;simp;omega) (fun r hr=>zaY (n:=60) (by decide) (znW s hp hf r hr).1) (fun r hr=>(znW s hp hf r hr).2.2) (zhV s hf)
 have ew:=zkY s (zv1 s hp hf) eb
 have efr:=zmT (a:=prW os (zbv os 10 [])*((hR (mxN os)).den:Int)) (zfH z2) (Nat.lt_of_le_of_lt (show (hR (mxN os)).num.toNat<=2^52 by omega) (qaw (Nat.pow_lt_pow_right (by decide) (by decide:52<100)) (zku (by decide))))
 rw [<- znu s hf,Int.toNat_of_nonneg (Int.le_of_lt z2)] at efr
 have nq:=zqL (qs (lsL m os))
 have nu:=zqL ((prW os (zbv os 10 []):Int):Rat)
 rw [zph] at nu
 obtain ⟨y10,ecl⟩:=zji s (Int.le_of_lt z2) (by omega) (show (0:Int)<=((hR (mxN os)).den:Int) by omega) (by omega) (p:=prW os (zbv os 10 [])) (s1:=some (.lst (cs.map tI))) (s3:=some (.lst ((evL os (zbv os 10 [])).map qD))) (s4:=y4) (s5:=y5) (s6:=y6) (s9:=some (.tup ((lsL m os).map qD))) cs none fun c h=>⟨(hc c h).1,zrO s hp hf (hc c h).1 (hc c h).2⟩
 obtain ⟨c1,c2,c3⟩:=zlb s hf
 have ech:=zgg s c1
 have hdic:(hR (mxN os)).num>((hR (mxN os)).den:Int)\/(prW os (zbv os 10 []):Int)=pr os (zh7 m os).2:=by
  by_cases h2:2<=mxN os
  ·left
   have h3:=zgQ h2
   rw [show hR 2=mkRat 3 2 by decide +kernel] at h3
   rw [Rat.le_iff,show (mkRat 3 2).num=3 by decide +kernel,show (mkRat 3 2).den=2 by decide +kernel] at h3
   have:=(hR (mxN os)).den_pos
   omega
  ·right
   have e:mxN os=1:=by omega
   have h3:=zrO s hp hf c1 c2
   rw [e,zo4,show (1:Rat).num=1 from rfl,show (1:Rat).den=1 from rfl] at h3
   have h4:=c3 _ (zgI (os:=os)) (zi0 s hf)
   rw [zl5] at h4
   omega
 have hG:decide (((hR (mxN os)).den:Int)<(hR (mxN os)).num)=false->(prW os (zbv os 10 []):Int)=pr os (zh7 m os).2:=fun h=>by
  rcases hdic with z | z
  ·rw [decide_eq_false_iff_not] at h
   omega
  ·exact z
 unfold lsL at ew nq efr ecl eb
 refine .of_wp fun h=> ?_
 rw [d_54]
 simp only [G_54]
 generalize cs.map tI=cd at el ecl
 ac_nf0
 refine (zmm s hf).wp fun h1 g1=> ?_
 generalize tI (zmU os)=lw at ep
 ac_nf0
 rw [ep]
 ac_nf0
 refine (zgV s hf).wp fun h2 g2=> ?_
 ac_nf0
 rw [el]
 generalize (evL os (zbv os 10 [])).map qD=ev at eu ecl
 ac_nf0
 rw [e1]
 ac_nf0
 rw [zoF x4,x1]
 ac_nf0
 rw [es]
 ac_nf0
 refine (zps s hp hf).wp fun h3 g3=> ?_
 generalize ((List.range m.toNat).map (ls os)).map qD=lq at eb ew ecl
 ac_nf0
 rw [eu]
 ac_nf0
 rw [nu]
 ac_nf0
 rw [eb]
 ac_nf0
 rw [show zg9 (.bl true) (.bl true)=pure (.bl false) from rfl]
 ac_nf0
 rw [ew]
 ac_nf0
 rw [zts (show (0:Int)<=((hR (mxN os)).den:Int) by omega) (by omega)]
 ac_nf0
 rw [efr]
 ac_nf0
 rw [nq]
 ac_nf0
 rw [ecl]
 ac_nf0
 generalize hg:decide (((hR (mxN os)).den:Int)<(hR (mxN os)).num)=bg at hG
 have gg:Gro h h3:=g1.trans (g2.trans g3)
 cases bg with
 | true=>
  ac_nf0
  first | exact ⟨trivial,gg⟩ | exact ⟨gg,trivial⟩ | exact ⟨rfl,gg⟩ | exact gg
 | false=>
  have hG:=hG rfl
  ac_nf0
  refine (zfk s hf n9).wp fun h4 g4=> ?_
  have gg:Gro h h4:=gg.trans g4
  generalize tI (zh7 m os).2=cq at ech
  ac_nf0
  rw [ech]
  ac_nf0
  rw [hG,show dEq (.int (pr os (zh7 m os).2)) (.int (pr os (zh7 m os).2))=pure (.bl true) by rw [zoM];simp]
  ac_nf0
  first | exact ⟨trivial,gg⟩ | exact ⟨gg,trivial⟩ | exact ⟨rfl,gg⟩ | exact gg
theorem zhK (s:Stk m os) {ls:List Int} (hu:ls.Pairwise (· < ·)) (b: ∀ x∈ls,0<=x/\x<(os.length:Int)):Ev (F_16 [zbb m os,tI ls]) (tI (zkz os ls)):=by
 have eo:=zff s hu b
 have hm:=zcZ b
 have L:Lt os ls:=⟨hu,b⟩
 have hl:=L.len s
 have ht:=zoG (d:= .lst ((zbf os ls).map zcJ)) (os:=zbf os ls) (m:=m) rfl (by have:=s.m0;omega) (by have:=s.m1;omega) (by
   have h1:=zjB (os:=zbf os ls) (n:=12) fun o ho=>by have:=s.olen o (hm o ho);omega
   have h2:(zbf os ls).length=ls.length:=by unfold zbf;rw [qaH]
   omega) fun o ho x hx=>s.bd o (hm o ho) x hx
 refine .of_wp fun h=> ?_
 rw [d_16]
 simp only [G_16]
 unfold zkz
 generalize tI ls=d at eo
 ac_nf0
 rw [eo]
 ac_nf0
 refine ht.wp fun h1 g1=> ?_
 ac_nf0
 first | exact ⟨trivial,g1⟩ | exact ⟨g1,trivial⟩ | exact ⟨rfl,g1⟩ | exact g1
theorem zqN (s:Stk m os) {ls:List Int} (hu:ls.Pairwise (· < ·)) (b: ∀ x∈ls,0<=x/\x<(os.length:Int)):Ev (F_25 [zbb m os,tI ls]) (zoN (zcf os (zkz os ls))):=by
 refine .of_wp fun h=> ?_
 rw [d_25]
 simp only [G_25]
 have ht:=zhK s hu b
 generalize tI ls=d at ht
 ac_nf0
 refine ht.wp fun h1 g1=> ?_
 refine zkE s (zjq _ h1) ?_
 ac_nf0
 first | exact ⟨trivial,g1⟩ | exact ⟨g1,trivial⟩ | exact ⟨rfl,g1⟩ | exact g1
theorem zql (s:Stk m os) {ls:List Int} (hu:ls.Pairwise (· < ·)) (b: ∀ x∈ls,0<=x/\x<(os.length:Int)) {i:Nat} (hi:i<os.length):Ev (F_24 [zbb m os,.int (i:Int),tI ls]) (zqk (os.getD i ([],0)) (zkz os ls)):=by
 have mo:os.getD i ([],0)∈os:=by simp [List.getD,hi]
 have ol:=s.olen _ mo
 have pp:=s.pos _ mo
 have en:F_19 [zbb m os,.int (i:Int)]=pure .non:=by
  rw [d_19]
  simp only [G_19]
  ac_nf0
  rw [zdI rfl]
  simp only [isI]
  ac_nf0
  simp only [zmW]
  ac_nf0
  rw [decide_eq_false (show ¬((i:Int)<0) by omega)]
  ac_nf0
  rw [zna]
  ac_nf0
  simp only [zun]
  ac_nf0
  rw [decide_eq_false (show ¬((os.length:Int)<=(i:Int)) by omega)]
  ac_nf0
 have eo:=zfp (os:=os) (i:=(i:Int)) (by omega) (by omega)
 rw [qaB] at eo
 refine .of_wp fun h=> ?_
 rw [d_24]
 simp only [G_24]
 have ht:=zhK s hu b
 generalize tI ls=d at ht
 ac_nf0
 rw [en]
 ac_nf0
 rw [zna]
 ac_nf0
 rw [eo]
 ac_nf0
 refine ht.wp fun h1 g1=> ?_
 have bw:=fun (P:D->Hh->Prop)=>zfo (o:=os.getD i ([],0)) (hv:=tI (zkz os ls)) (h:=h1) (P:=P) (by omega) pp (zjq _ h1)
 simp only [zcJ,tI] at bw ⊢
 refine bw _ ?_
 ac_nf0
 first | exact ⟨trivial,g1⟩ | exact ⟨g1,trivial⟩ | exact ⟨rfl,g1⟩ | exact g1
theorem zlh {had:List Int} (s:Stk m os) {y z:Nat×Nat×Nat} (e:zcf os had=some y) (e2:zcf os (had++zaS (os.getD y.2.2 ([],0)) had)=some z):fr os (y.2.2,zaS (os.getD y.2.2 ([],0)) had)<=fr os (z.2.2,zaS (os.getD z.2.2 ([],0)) (had++zaS (os.getD y.2.2 ([],0)) had)):=by
 obtain ⟨z1,z2,z3⟩:=zbU e2
 have hsub:(zaS (os.getD z.2.2 ([],0)) (had++zaS (os.getD y.2.2 ([],0)) had)).length<=(zaS (os.getD z.2.2 ([],0)) had).length:=by
  rw [zjw]
  exact List.length_filter_le _ _
 have hne:zaS (os.getD z.2.2 ([],0)) had≠[]:=fun h=>by
  rw [h,qaJ] at hsub
  omega
 have h1:=(zhn e).2 z.2.2 z1 hne
 refine Rat.le_trans h1 ?_
 have hl:=mt (zoy (p:=(os.getD z.2.2 ([],0)).2.toNat) (p':=(os.getD z.2.2 ([],0)).2.toNat) (c:=(zaS (os.getD z.2.2 ([],0)) (had++zaS (os.getD y.2.2 ([],0)) had)).length) (c':=(zaS (os.getD z.2.2 ([],0)) had).length) (by omega) (by omega)).mp (by
   have:=Nat.mul_le_mul_left (os.getD z.2.2 ([],0)).2.toNat hsub
   omega)
 exact Rat.not_lt.mp hl
theorem znm {a b:Rat} (h:a<=b): ¬(b.num*(a.den:Int)<a.num*(b.den:Int)):=by
 rw [Rat.le_iff] at h
 omega
theorem zrX (s:Stk m os): ∀ (f:Nat) (had ls:List Int) (a:Rat) {h:Hh} {x3 x4 x5:Option D} {P:Out->Hh->Prop},(∀ t,t∈had↔t∈zkz os ls)->ls.Pairwise (· < ·)->(∀ x∈ls,0<=x/\x<(os.length:Int))->a.den<=2^60->
  (∀ y,zcf os had=some y->a<=fr os (y.2.2,zaS (os.getD y.2.2 ([],0)) had))->
  (∀ ls' y2 y3 y4 y5 h',Gro h h'->ls'.Pairwise (· < ·)->List.Perm ls' (ls++(zbv os f had).map fun x=>(x.1:Int))->P (.nx [some (zbb m os),some (tI ls'),y2,y3,y4,y5]) h')->
  wp (zaQ (fun x sd=>do let sd1<-zcq 3 (zaz (zaI 3) (zaz (zaI 4) (zaz (zaI 5) zcI))) x sd;za1 sd1) ((zbv os f had).map (wD os)) [some (zbb m os),some (tI ls),some (qD a),x3,x4,x5]) h P:=by
 have base: ∀ (f:Nat) (had ls:List Int) (a:Rat) {h:Hh} {x3 x4 x5:Option D} {P:Out->Hh->Prop},ls.Pairwise (· < ·)->zbv os f had=[]->
   (∀ ls' y2 y3 y4 y5 h',Gro h h'->ls'.Pairwise (· < ·)->List.Perm ls' (ls++(zbv os f had).map fun x=>(x.1:Int))->P (.nx [some (zbb m os),some (tI ls'),y2,y3,y4,y5]) h')->
   wp (zaQ (fun x sd=>do let sd1<-zcq 3 (zaz (zaI 3) (zaz (zaI 4) (zaz (zaI 5) zcI))) x sd;za1 sd1) ((zbv os f had).map (wD os)) [some (zbb m os),some (tI ls),some (qD a),x3,x4,x5]) h P:=by
  intro f had ls a h x3 x4 x5 P hu e k
  rw [e] at k ⊢
  rw [List.map_nil,zct,zam]
  exact k ls _ _ _ _ h Gro.refl hu (by rw [List.map_nil,List.append_nil])
 intro f
 induction f with
 | zero=>
  intro had ls a h x3 x4 x5 P hh hu hb ha hn k
  exact base 0 had ls a hu rfl k
 | succ f ih=>
  intro had ls a h x3 x4 x5 P hh hu hb ha hn k
  cases hbe:zcf os had with
  | none=>exact base (f+1) had ls a hu (zcX hbe) k
  | some y=>
   have hw:=zci (f:=f) hbe
   obtain ⟨h1,h2,h3⟩:=zbU hbe
   have mo:os.getD y.2.2 ([],0)∈os:=by simp [List.getD,h1]
   have ol:=s.olen _ mo
   have hnl:=zfB (o:=os.getD y.2.2 ([],0)) (had:=had)
   have hfr:=hn y hbe
   have hmore:=zmz (i:=y.2.2) hh
   have L:Lt os ls:=⟨hu,hb⟩
   have hlen:=L.len s
   have hni:((y.2.2:Nat):Int)∉ls:=fun hi=>by
    have hne:zaS (os.getD y.2.2 ([],0)) had≠[]:=fun z=>by rw [z,qaJ] at h2;omega
    obtain ⟨t,ht⟩:=List.exists_mem_of_ne_nil _ hne
    obtain ⟨t1,t2⟩:=zbC.mp ht
    exact t2 ((hh t).mpr (zdN.mpr ⟨_,hi,by rw [qaB];exact t1⟩))
   have hnd:(ls++[((y.2.2:Nat):Int)]).Nodup:=List.nodup_append.mpr ⟨hu.imp fun h=>(by omega),by simp,fun a ha b hb e=>hni (by rw [List.mem_singleton.mp hb] at e;rw [<- e];exact ha)⟩
   have hpm:=zau (ls++[((y.2.2:Nat):Int)])
   have hmem: ∀ t,t∈zkz os (ls++[((y.2.2:Nat):Int)])↔t∈zkz os (zbF (ls++[((y.2.2:Nat):Int)])):=fun t=>by
    rw [zdN,zdN]
    constructor
    ·rintro ⟨x,hx,h⟩
     exact ⟨x,hpm.mem_iff.mpr hx,h⟩
    ·rintro ⟨x,hx,h⟩
     exact ⟨x,hpm.mem_iff.mp hx,h⟩
   have hden:(fr os (y.2.2,zaS (os.getD y.2.2 ([],0)) had)).den<=2^60:=by
    have:=ze3 (((os.getD y.2.2 ([],0)).2.toNat:Nat):Int) (b:=(zaS (os.getD y.2.2 ([],0)) had).length) (by omega)
    have h4:(zaS (os.getD y.2.2 ([],0)) had).length<=2^60:=by omega
    exact qaS this h4
   have ih':=fun (h':Hh) (x3 x4 x5:Option D) (g:Gro h h')=>ih (had++zaS (os.getD y.2.2 ([],0)) had) (zbF (ls++[((y.2.2:Nat):Int)])) (fr os (y.2.2,zaS (os.getD y.2.2 ([],0)) had)) (h:=h') (x3:=x3) (x4:=x4) (x5:=x5) (P:=P) (fun t=>(hmore t).trans (hmem t)) (zb0 hnd) (fun x hx=>by
     rcases qaK.mp (hpm.mem_iff.mp hx) with z | z
     · exact hb x z
     · rw [List.mem_singleton.mp z];omega) hden (fun z e=>zlh s hbe e) fun ls' y2 y3 y4 y5 h'' g' hu' hp'=>k ls' y2 y3 y4 y5 h'' (g.trans g') hu' (by
       rw [hw]
       rw [qaM]
       refine hp'.trans ?_
       rw [show ls++((y.2.2:Nat):Int)::(zbv os f (had++zaS (os.getD y.2.2 ([],0)) had)).map (fun x=>(x.1:Int))=(ls++[((y.2.2:Nat):Int)])++(zbv os f (had++zaS (os.getD y.2.2 ([],0)) had)).map (fun x=>(x.1:Int)) by rw [List.append_assoc];rfl]
       exact hpm.append_right _)
   have eb:=zqN s hu hb
   rw [<- ziI hh,hbe] at eb
   have eg:=zql s hu hb h1
   unfold zqk at eg
   rw [<- zfZ hh,qa5 (by omega)] at eg
   have e2:zdA (os.getD y.2.2 ([],0)).2.toNat (zaS (os.getD y.2.2 ([],0)) had).length=qD (fr os (y.2.2,zaS (os.getD y.2.2 ([],0)) had)):=zew (by omega)
   rw [e2] at eg
   have hnq:=zqL (fr os (y.2.2,zaS (os.getD y.2.2 ([],0)) had))
   have hlt:=znm hfr
   rw [hw,qaM,zbo]
   rw [show wD os (y.2.2,zaS (os.getD y.2.2 ([],0)) had)= .tup [.int (y.2.2:Int),tI (zaS (os.getD y.2.2 ([],0)) had),zdA (os.getD y.2.2 ([],0)).2.toNat (zaS (os.getD y.2.2 ([],0)) had).length] from rfl,e2]
   generalize zaQ (fun x sd=>do let sd1<-zcq 3 (zaz (zaI 3) (zaz (zaI 4) (zaz (zaI 5) zcI))) x sd;za1 sd1) ((zbv os f (had++zaS (os.getD y.2.2 ([],0)) had)).map (wD os))=zbk at ih' ⊢
   generalize fr os (y.2.2,zaS (os.getD y.2.2 ([],0)) had)=r at ih' eg hnq hlt hden ⊢
   generalize tI (zaS (os.getD y.2.2 ([],0)) had)=nd at ih' ⊢
   have er:qD r= .tup [.int r.num,.int (r.den:Int)]:=rfl
   have ea:qD a= .tup [.int a.num,.int (a.den:Int)]:=rfl
   have fz:=zaA (show ls.length+1<=1000 by omega)
   have es:zc3 [.tup (ls.map D.int++[.int ((y.2.2:Nat):Int)])]=pure (.lst ((zbF (ls++[((y.2.2:Nat):Int)])).map D.int)):=by
    have:=zes (xs:=ls++[((y.2.2:Nat):Int)]) (by rw [qav,List.length_singleton];omega)
    rw [List.map_append] at this
    exact this
   rw [zkQ]
   simp only [za1]
   unfold tI at eb eg ih' ⊢
   ac_nf0
   refine eb.wp fun h1' g1=> ?_
   simp only [zoN]
   rw [zv2,beq_self_eq_true]
   ac_nf0
   refine eg.wp fun h2' g2=> ?_
   ac_nf0
   rw [hnq]
   ac_nf0
   rw [er,ea]
   ac_nf0
   rw [zts (show (0:Int)<=(a.den:Int) by omega) (by omega),zts (show (0:Int)<=(r.den:Int) by omega) (by omega)]
   ac_nf0
   simp only [zmW]
   ac_nf0
   rw [decide_eq_false hlt]
   ac_nf0
   rw [fz]
   ac_nf0
   rw [es]
   ac_nf0
   exact ih' h2' _ _ _ (g1.trans g2)
theorem zuR (x:Rw):0<=fr os x:=by
 unfold fr
 by_cases h:x.2.length=0
 ·rw [h,Rat.mkRat_zero]
  exact Rat.le_refl
 ·exact Rat.num_nonneg.mp (by
    rw [Rat.num_mkRat,qa5 h]
    exact Int.ediv_nonneg (by omega) (by omega))
theorem zsb (s:Stk m os) (hf:zdT m os=true):Ev (F_53 [zbb m os]) (.bl true):=by
 have ec:=znd s (zgI (os:=os))
 rw [zeo.mpr (zi0 s hf)] at ec
 refine .of_wp fun h=> ?_
 rw [d_53]
 simp only [G_53]
 ac_nf0
 refine (zgV s hf).wp fun h1 g1=> ?_
 ac_nf0
 have wr:=fun (x3 x4 x5:Option D) (P:Out->Hh->Prop)=>zrX s 10 [] [] 0 (h:=h1) (x3:=x3) (x4:=x4) (x5:=x5) (P:=P) (fun t=>by
   rw [zdN]
   constructor
   · intro h;cases h
   · rintro ⟨x,hx,_⟩;cases hx) .nil (fun x hx=>by cases hx) (by decide) (fun y _=>zuR _)
 rw [show qD 0= .tup [.int 0,.int 1] from rfl,show tI []= .tup [] from rfl] at wr
 refine wr _ _ _ _ fun ls' y2 y3 y4 y5 h2 g2 hu hp=> ?_
 have e:ls'=zmU os:=zib hu (zgI (os:=os)).1 fun k=>by
  rw [hp.mem_iff,List.nil_append,zee.mem_iff]
  rfl
 subst e
 ac_nf0
 have eb:=zmm s hf
 have eq:=ztP (zmU os) (zmU os)
 rw [beq_self_eq_true] at eq
 simp only [tI] at eb ec eq
 refine eb.wp fun h3 g3=> ?_
 ac_nf0
 rw [eq]
 ac_nf0
 refine ec.wp fun h4 g4=> ?_
 ac_nf0
 rw [show dIs (.bl true) (.bl true)=pure (.bl true) from rfl]
 ac_nf0
 have gg:Gro h h4:=g1.trans (g2.trans (g3.trans g4))
 first | exact ⟨trivial,gg⟩ | exact ⟨gg,trivial⟩ | exact ⟨rfl,gg⟩ | exact gg
theorem zjb (s:Stk m os) (hf: ∀ i:Int,0<=i->i<m-> ∃ o∈os,i∈o.1) {b:Nat}: ∀ (ds:List D) {h:Hh} {P:List D->Hh->Prop},Bx b h->(∀ (cs:List (List Int)) h',cs.length=ds.length->(∀ c∈cs,Cv m os c)->Bx b h'->P (cs.map tI) h')->
  wp (zbS (zbn (zaI 0) (fun _=>pure true) zif [none,some (.cel b),some (zbb m os)]) ds) h P
 | [],h,P,q,k=>by
  rw [zbS,zam]
  exact k [] h rfl (fun y hy=>by cases hy) q
 | d::r,h,P,q,k=>by
  rw [zbS,zan]
  simp only [zbn,zif]
  ac_nf0
  refine znj s hf q fun c h1 g q1=> ?_
  refine zjb s hf r q1 fun cs h2 hl hy q2=> ?_
  exact k (c::cs) h2 (by simp [hl]) (fun w hw=>by
    rcases qaP.mp hw with rfl | hw
    · exact g
    · exact hy w hw) q2
theorem ziX {ns:List Int}: ∀ (ds:List D) {h:Hh} {x1 x2 x3 x4:Option D},(∀ d∈ds, ∃ i:Int,d= .int i/\0<=i/\i<5)->
  wp (zaQ (fun x sd=>do let sd1<-zaI 1 x sd;zfn sd1) ds [some (.scr (ns.map D.int)),x1,x2,x3,x4]) h fun o _=> ∃ sd,o= .nx sd
 | [],h,x1,x2,x3,x4,_=>by rw [zct,zam];exact ⟨_,rfl⟩
 | d::r,h,x1,x2,x3,x4,hd=>by
  obtain ⟨i,rfl,i0,i1⟩:=hd _ qau
  have ih: ∀ {h:Hh} {x1 x2 x3 x4:Option D},wp (zaQ (fun x sd=>do let sd1<-zaI 1 x sd;zfn sd1) r [some (.scr (ns.map D.int)),x1,x2,x3,x4]) h fun o _=> ∃ sd,o= .nx sd:=ziX r fun y hy=>hd y (qan _ hy)
  rw [zbo]
  generalize zaQ (fun x sd=>do let sd1<-zaI 1 x sd;zfn sd1) r=zbk at ih ⊢
  simp only [zfn]
  ac_nf0
  refine ztF i0 i1 fun z=> ?_
  have qb:Bx h.length (h++[.lst [.int z]]):=⟨z,by simp⟩
  generalize h.length=b at qb ⊢
  generalize h++[.lst [.int z]]=h1 at qb ⊢
  ac_nf0
  refine zqb (lots:=10) (by decide) (by decide) qb fun m ods h2 q2 m0 m1 l0 l1 ho hcov=> ?_
  obtain ⟨os,rfl,s,hp⟩:=zpn m0 m1 (by omega) ho
  rw [qaH] at l0 l1
  have l1:os.length<=10:=by omega
  have hf: ∀ i:Int,0<=i->i<m-> ∃ o∈os,i∈o.1:=fun i i0 i1=>by
   obtain ⟨o,ho,xs,p,e,hi⟩:=hcov i i0 i1
   obtain ⟨o',ho',rfl⟩:=qaU.mp ho
   refine ⟨o',ho',?_⟩
   unfold zcJ tI at e
   simp only [D.tup.injEq,List.cons.injEq,and_true] at e
   have:=(List.map_inj_right (fun a b h=>by cases h;rfl)).mp e.1
   rw [this]
   exact hi
  have hF:=(zgW s).mpr hf
  rw [show D.tup [.int m,.tup (os.map zcJ)]=zbb m os from rfl]
  unfold zaJ
  ac_nf0
  rw [zc4 (by decide) (by decide)]
  ac_nf0
  rw [zem,zaA (show (4:Int).toNat<=1000 by decide)]
  ac_nf0
  refine zjb s hf _ q2 fun cs h3 hl hcv q3=> ?_
  rw [zem] at hl
  have hl4:cs.length=4:=hl
  ac_nf0
  refine (zfk s hF l1).wp fun h4 g4=> ?_
  obtain ⟨c1,c2,_⟩:=zlb s hF
  have eb:=zsj s hp hF l1 (cs:=cs++[(zh7 m os).2]) fun c hc=>by
   rcases qaK.mp hc with hc | hc
   ·exact ⟨(hcv c hc).lt,(hcv c hc).cv⟩
   ·rw [List.mem_singleton.mp hc];exact ⟨c1,c2⟩
  rw [List.map_append,List.map_singleton] at eb
  ac_nf0
  rw [hl4]
  ac_nf0
  refine (zsb s hF).wp fun h5 g5=> ?_
  ac_nf0
  refine eb.wp fun h6 g6=> ?_
  ac_nf0
  exact ih
theorem zoo: ∀ ns:List Int,ns.length<=63-> ∃ h',F_55 [.scr (ns.map D.int)] []= .ok (.bl true) h':=by
 intro ns _
 have key:wp (F_55 [.scr (ns.map D.int)]) [] fun d _=>d= .bl true:=by
  rw [d_55]
  simp only [G_55]
  ac_nf0
  simp only [zoE]
  ac_nf0
  simp only [zur]
  ac_nf0
  generalize hn:(if (if (3:Int)<(ns.length:Int) then (3:Int) else (ns.length:Int))>1 then (if (3:Int)<(ns.length:Int) then (3:Int) else (ns.length:Int)) else (1:Int))=n
  have n0:0<=n/\n<=5:=by
   rw [<- hn]
   split<;>split<;>omega
  rw [zc4 n0.1 (by omega)]
  ac_nf0
  refine ziE (ziX _ fun d hd=> ?_) ?_
  ·obtain ⟨i,e,i0,i1⟩:=zgP hd
   exact ⟨i,e,i0,by omega⟩
  ·rintro o h' ⟨sd,rfl⟩
   ac_nf0
 obtain ⟨d,h',e,rfl⟩:=key
 exact ⟨h',e⟩
end K24
namespace K24
open PySem PySem.Spec PyProof.Rows L2 L3
theorem ztN {l:W.OpenLaw} {w:World} {K:W.Frag} {h:Heap} {mg:Str->Option Value} {fa a_44 a_45 a_46 a_47 a_48 a_49 a_50 a_22 a_23 a_15 a_18 a_37 a_36 a_35 a_38 a_0 a_2 a_14 a_20 a_21 a_17 a_30 a_4 a_3 a_29 a_5 a_28 a_26 a_27 a_7 a_31 a_33 a_32 a_43 a_1 a_6 a_42 a_41 a_39 a_51 a_52 a_40 a_54 a_19 a_16 a_24 a_25 a_34 a_53 a_55:Addr} (X:K.In h) (G:h.Ns mainGlobals mg) (hfa:mg "law"=some (.ref fa))
  {od_55 an_55:Option Addr} {sl_55:Array (Option Value)} {oc_55 kV_55 dc_55 pm_55 cd_55 ct_55:Value}
  {d_44 d_45 d_46 d_47 d_48 d_49 d_50 d_22 d_23 d_15 d_18 d_37 d_36 d_35 d_38 d_0 d_2 d_14 d_20 d_21 d_17 d_30 d_4 d_3 d_29 d_5 d_28 d_26 d_27 d_7 d_31 d_33 d_32 d_43 d_1 d_6 d_42 d_41 d_39 d_51 d_52 d_40 d_54 d_19 d_16 d_24 d_25 d_34 d_53:FuncData}
  {tk_MOST_STEPS:Tok}
  (f_44:Fd K "_law_cell" s_44 a_44 d_44)
  (f_45:Fd K "_law_box" s_45 a_45 d_45)
  (f_46:Fd K "_law_take" s_46 a_46 d_46)
  (f_47:Fd K "_law_things" s_47 a_47 d_47)
  (f_48:Fd K "_law_full" s_48 a_48 d_48)
  (f_49:Fd K "_law_has" s_49 a_49 d_49)
  (f_50:Fd K "_law_cover" s_50 a_50 d_50)
  (f_22:Fd K "things_together" s_22 a_22 d_22)
  (f_23:Fd K "have_all" s_23 a_23 d_23)
  (f_15:Fd K "is_full" s_15 a_15 d_15)
  (f_18:Fd K "need_full" s_18 a_18 d_18)
  (f_37:Fd K "bits_of" s_37 a_37 d_37)
  (f_36:Fd K "known_lots" s_36 a_36 d_36)
  (f_35:Fd K "priced_covers" s_35 a_35 d_35)
  (f_38:Fd K "cheapest_cover" s_38 a_38 d_38)
  (f_0:Fd K "is_whole" s_0 a_0 d_0)
  (f_2:Fd K "is_rising" s_2 a_2 d_2)
  (f_14:Fd K "is_lot" s_14 a_14 d_14)
  (f_20:Fd K "need_lot" s_20 a_20 d_20)
  (f_21:Fd K "offers_of" s_21 a_21 d_21)
  (f_17:Fd K "price_of" s_17 a_17 d_17)
  (f_30:Fd K "new_things" s_30 a_30 d_30)
  (f_4:Fd K "greatest_divisor" s_4 a_4 d_4)
  (f_3:Fd K "reduced" s_3 a_3 d_3)
  (f_29:Fd K "bargain_behind" s_29 a_29 d_29)
  (f_5:Fd K "is_less" s_5 a_5 d_5)
  (f_28:Fd K "best_behind" s_28 a_28 d_28)
  (f_26:Fd K "bargain_way" s_26 a_26 d_26)
  (f_27:Fd K "bargain_cover" s_27 a_27 d_27)
  (f_7:Fd K "together" s_7 a_7 d_7)
  (f_31:Fd K "steps_together" s_31 a_31 d_31)
  (f_33:Fd K "borne_by_bargains" s_33 a_33 d_33)
  (f_32:Fd K "lessened" s_32 a_32 d_32)
  (f_43:Fd K "is_borne" s_43 a_43 d_43)
  (f_1:Fd K "is_pair" s_1 a_1 d_1)
  (f_6:Fd K "is_fraction" s_6 a_6 d_6)
  (f_42:Fd K "is_share" s_42 a_42 d_42)
  (f_41:Fd K "are_shares" s_41 a_41 d_41)
  (f_39:Fd K "is_bearing" s_39 a_39 d_39)
  (f_51:Fd K "_law_frac" s_51 a_51 d_51)
  (f_52:Fd K "_law_sum" s_52 a_52 d_52)
  (f_40:Fd K "worth_of" s_40 a_40 d_40)
  (f_54:Fd K "_law_bound_right" s_54 a_54 d_54)
  (f_19:Fd K "need_offer" s_19 a_19 d_19)
  (f_16:Fd K "things_of" s_16 a_16 d_16)
  (f_24:Fd K "bargain_of" s_24 a_24 d_24)
  (f_25:Fd K "best_bargain" s_25 a_25 d_25)
  (f_34:Fd K "is_cover" s_34 a_34 d_34)
  (f_53:Fd K "_law_way_right" s_53 a_53 d_53)
  (e_55:W.nsIn K mainGlobals "law"=some (some (.ref a_55))) (l_55:K.lookup a_55=some ⟨oc_55,od_55,.func (W.fnOf "law" "law" (zer s_55) (zdy s_55) (zae s_55) .none kV_55 dc_55 pm_55 an_55 cd_55 ct_55),sl_55⟩) (c_55:W.codeIn K cd_55 "law"=true) (k_55:W.keepIn K (.ref a_55)=true)
  (z_abs:W.nsIn K mainGlobals "abs"=some none)
  (z_all:W.nsIn K mainGlobals "all"=some none)
  (z_bool:W.nsIn K mainGlobals "bool"=some none)
  (z_enumerate:W.nsIn K mainGlobals "enumerate"=some none)
  (z_int:W.nsIn K mainGlobals "int"=some none)
  (z_isinstance:W.nsIn K mainGlobals "isinstance"=some none)
  (z_len:W.nsIn K mainGlobals "len"=some none)
  (z_list:W.nsIn K mainGlobals "list"=some none)
  (z_max:W.nsIn K mainGlobals "max"=some none)
  (z_min:W.nsIn K mainGlobals "min"=some none)
  (z_range:W.nsIn K mainGlobals "range"=some none)
  (z_set:W.nsIn K mainGlobals "set"=some none)
  (z_sorted:W.nsIn K mainGlobals "sorted"=some none)
  (z_sum:W.nsIn K mainGlobals "sum"=some none)
  (z_tuple:W.nsIn K mainGlobals "tuple"=some none)
  (y_MOST_STEPS:W.nsIn K mainGlobals "MOST_STEPS"=some (some (.int 100 tk_MOST_STEPS)))
  : ∃ fd:FuncData,(∀ (s:Shared) (v:Value),BindsTo s fd ⟨[v],[]⟩ [("script",v)])/\ ∀ base:Heap,K.In base->base.Ns mainGlobals mg->zbr l.prog w K mg base CX0 9 fa fd ["script"] (zbR K 1 F_55):=by
 have e:=hfa.symm.trans (W.mg_of X G e_55)
 cases e
 have F_55:=zax (st:=s_55) l_55 c_55 k_55
 have b_55:=F_55.binds (ps:=["script"]) fun _ _ _ _ _ _ us hl=>match us,hl with | [_],_=>rfl
 have T:Tx K mg ⟨a_44,_,a_45,_,a_46,_,a_47,_,a_48,_,a_49,_,a_50,_,a_22,_,a_23,_,a_15,_,a_18,_,a_37,_,a_36,_,a_35,_,a_38,_,a_0,_,a_2,_,a_14,_,a_20,_,a_21,_,a_17,_,a_30,_,a_4,_,a_3,_,a_29,_,a_5,_,a_28,_,a_26,_,a_27,_,a_7,_,a_31,_,a_33,_,a_32,_,a_43,_,a_1,_,a_6,_,a_42,_,a_41,_,a_39,_,a_51,_,a_52,_,a_40,_,a_54,_,a_19,_,a_16,_,a_24,_,a_25,_,a_34,_,a_53,_,fa,_⟩:=
  {n_abs:=W.mg_none_of X G z_abs,
    n_all:=W.mg_none_of X G z_all,
    n_bool:=W.mg_none_of X G z_bool,
    n_enumerate:=W.mg_none_of X G z_enumerate,
    n_int:=W.mg_none_of X G z_int,
    n_isinstance:=W.mg_none_of X G z_isinstance,
    n_len:=W.mg_none_of X G z_len,
    n_list:=W.mg_none_of X G z_list,
    n_max:=W.mg_none_of X G z_max,
    n_min:=W.mg_none_of X G z_min,
    n_range:=W.mg_none_of X G z_range,
    n_set:=W.mg_none_of X G z_set,
    n_sorted:=W.mg_none_of X G z_sorted,
    n_sum:=W.mg_none_of X G z_sum,
    n_tuple:=W.mg_none_of X G z_tuple,
    c_MOST_STEPS:=⟨tk_MOST_STEPS,W.mg_of X G y_MOST_STEPS⟩,
    m_44:=W.mg_of X G f_44.e,
    F_44:=f_44.F,
    b_44:=f_44.F.binds (ps:=["script","k"]) fun _ _ _ _ _ _ us hl=>match us,hl with | [_,_],_=>rfl,
    m_45:=W.mg_of X G f_45.e,
    F_45:=f_45.F,
    b_45:=f_45.F.binds (ps:=["script","k"]) fun _ _ _ _ _ _ us hl=>match us,hl with | [_,_],_=>rfl,
    m_46:=W.mg_of X G f_46.e,
    F_46:=f_46.F,
    b_46:=f_46.F.binds (ps:=["box","many"]) fun _ _ _ _ _ _ us hl=>match us,hl with | [_,_],_=>rfl,
    m_47:=W.mg_of X G f_47.e,
    F_47:=f_47.F,
    b_47:=f_47.F.binds (ps:=["box","many"]) fun _ _ _ _ _ _ us hl=>match us,hl with | [_,_],_=>rfl,
    m_48:=W.mg_of X G f_48.e,
    F_48:=f_48.F,
    b_48:=f_48.F.binds (ps:=["box","most","lots"]) fun _ _ _ _ _ _ us hl=>match us,hl with | [_,_,_],_=>rfl,
    m_49:=W.mg_of X G f_49.e,
    F_49:=f_49.F,
    b_49:=f_49.F.binds (ps:=["stock","lot"]) fun _ _ _ _ _ _ us hl=>match us,hl with | [_,_],_=>rfl,
    m_50:=W.mg_of X G f_50.e,
    F_50:=f_50.F,
    b_50:=f_50.F.binds (ps:=["box","stock"]) fun _ _ _ _ _ _ us hl=>match us,hl with | [_,_],_=>rfl,
    m_22:=W.mg_of X G f_22.e,
    F_22:=f_22.F,
    b_22:=f_22.F.binds (ps:=["offers"]) fun _ _ _ _ _ _ us hl=>match us,hl with | [_],_=>rfl,
    m_23:=W.mg_of X G f_23.e,
    F_23:=f_23.F,
    b_23:=f_23.F.binds (ps:=["stock","offers"]) fun _ _ _ _ _ _ us hl=>match us,hl with | [_,_],_=>rfl,
    m_15:=W.mg_of X G f_15.e,
    F_15:=f_15.F,
    b_15:=f_15.F.binds (ps:=["stock"]) fun _ _ _ _ _ _ us hl=>match us,hl with | [_],_=>rfl,
    m_18:=W.mg_of X G f_18.e,
    F_18:=f_18.F,
    b_18:=f_18.F.binds (ps:=["stock"]) fun _ _ _ _ _ _ us hl=>match us,hl with | [_],_=>rfl,
    m_37:=W.mg_of X G f_37.e,
    F_37:=f_37.F,
    b_37:=f_37.F.binds (ps:=["many","things"]) fun _ _ _ _ _ _ us hl=>match us,hl with | [_,_],_=>rfl,
    m_36:=W.mg_of X G f_36.e,
    F_36:=f_36.F,
    b_36:=f_36.F.binds (ps:=["stock"]) fun _ _ _ _ _ _ us hl=>match us,hl with | [_],_=>rfl,
    m_35:=W.mg_of X G f_35.e,
    F_35:=f_35.F,
    b_35:=f_35.F.binds (ps:=["stock"]) fun _ _ _ _ _ _ us hl=>match us,hl with | [_],_=>rfl,
    m_38:=W.mg_of X G f_38.e,
    F_38:=f_38.F,
    b_38:=f_38.F.binds (ps:=["stock"]) fun _ _ _ _ _ _ us hl=>match us,hl with | [_],_=>rfl,
    m_0:=W.mg_of X G f_0.e,
    F_0:=f_0.F,
    b_0:=f_0.F.binds (ps:=["thing"]) fun _ _ _ _ _ _ us hl=>match us,hl with | [_],_=>rfl,
    m_2:=W.mg_of X G f_2.e,
    F_2:=f_2.F,
    b_2:=f_2.F.binds (ps:=["thing","bound"]) fun _ _ _ _ _ _ us hl=>match us,hl with | [_,_],_=>rfl,
    m_14:=W.mg_of X G f_14.e,
    F_14:=f_14.F,
    b_14:=f_14.F.binds (ps:=["stock","thing"]) fun _ _ _ _ _ _ us hl=>match us,hl with | [_,_],_=>rfl,
    m_20:=W.mg_of X G f_20.e,
    F_20:=f_20.F,
    b_20:=f_20.F.binds (ps:=["stock","lot"]) fun _ _ _ _ _ _ us hl=>match us,hl with | [_,_],_=>rfl,
    m_21:=W.mg_of X G f_21.e,
    F_21:=f_21.F,
    b_21:=f_21.F.binds (ps:=["stock","lot"]) fun _ _ _ _ _ _ us hl=>match us,hl with | [_,_],_=>rfl,
    m_17:=W.mg_of X G f_17.e,
    F_17:=f_17.F,
    b_17:=f_17.F.binds (ps:=["stock","lot"]) fun _ _ _ _ _ _ us hl=>match us,hl with | [_,_],_=>rfl,
    m_30:=W.mg_of X G f_30.e,
    F_30:=f_30.F,
    b_30:=f_30.F.binds (ps:=["offer","had"]) fun _ _ _ _ _ _ us hl=>match us,hl with | [_,_],_=>rfl,
    m_4:=W.mg_of X G f_4.e,
    F_4:=f_4.F,
    b_4:=f_4.F.binds (ps:=["top","bottom"]) fun _ _ _ _ _ _ us hl=>match us,hl with | [_,_],_=>rfl,
    m_3:=W.mg_of X G f_3.e,
    F_3:=f_3.F,
    b_3:=f_3.F.binds (ps:=["top","bottom"]) fun _ _ _ _ _ _ us hl=>match us,hl with | [_,_],_=>rfl,
    m_29:=W.mg_of X G f_29.e,
    F_29:=f_29.F,
    b_29:=f_29.F.binds (ps:=["offer","had"]) fun _ _ _ _ _ _ us hl=>match us,hl with | [_,_],_=>rfl,
    m_5:=W.mg_of X G f_5.e,
    F_5:=f_5.F,
    b_5:=f_5.F.binds (ps:=["fraction","other"]) fun _ _ _ _ _ _ us hl=>match us,hl with | [_,_],_=>rfl,
    m_28:=W.mg_of X G f_28.e,
    F_28:=f_28.F,
    b_28:=f_28.F.binds (ps:=["stock","had"]) fun _ _ _ _ _ _ us hl=>match us,hl with | [_,_],_=>rfl,
    m_26:=W.mg_of X G f_26.e,
    F_26:=f_26.F,
    b_26:=f_26.F.binds (ps:=["stock"]) fun _ _ _ _ _ _ us hl=>match us,hl with | [_],_=>rfl,
    m_27:=W.mg_of X G f_27.e,
    F_27:=f_27.F,
    b_27:=f_27.F.binds (ps:=["stock"]) fun _ _ _ _ _ _ us hl=>match us,hl with | [_],_=>rfl,
    m_7:=W.mg_of X G f_7.e,
    F_7:=f_7.F,
    b_7:=f_7.F.binds (ps:=["fractions"]) fun _ _ _ _ _ _ us hl=>match us,hl with | [_],_=>rfl,
    m_31:=W.mg_of X G f_31.e,
    F_31:=f_31.F,
    b_31:=f_31.F.binds (ps:=["many"]) fun _ _ _ _ _ _ us hl=>match us,hl with | [_],_=>rfl,
    m_33:=W.mg_of X G f_33.e,
    F_33:=f_33.F,
    b_33:=f_33.F.binds (ps:=["stock"]) fun _ _ _ _ _ _ us hl=>match us,hl with | [_],_=>rfl,
    m_32:=W.mg_of X G f_32.e,
    F_32:=f_32.F,
    b_32:=f_32.F.binds (ps:=["stock"]) fun _ _ _ _ _ _ us hl=>match us,hl with | [_],_=>rfl,
    m_43:=W.mg_of X G f_43.e,
    F_43:=f_43.F,
    b_43:=f_43.F.binds (ps:=["offer","shares"]) fun _ _ _ _ _ _ us hl=>match us,hl with | [_,_],_=>rfl,
    m_1:=W.mg_of X G f_1.e,
    F_1:=f_1.F,
    b_1:=f_1.F.binds (ps:=["thing"]) fun _ _ _ _ _ _ us hl=>match us,hl with | [_],_=>rfl,
    m_6:=W.mg_of X G f_6.e,
    F_6:=f_6.F,
    b_6:=f_6.F.binds (ps:=["thing"]) fun _ _ _ _ _ _ us hl=>match us,hl with | [_],_=>rfl,
    m_42:=W.mg_of X G f_42.e,
    F_42:=f_42.F,
    b_42:=f_42.F.binds (ps:=["thing"]) fun _ _ _ _ _ _ us hl=>match us,hl with | [_],_=>rfl,
    m_41:=W.mg_of X G f_41.e,
    F_41:=f_41.F,
    b_41:=f_41.F.binds (ps:=["thing","many"]) fun _ _ _ _ _ _ us hl=>match us,hl with | [_,_],_=>rfl,
    m_39:=W.mg_of X G f_39.e,
    F_39:=f_39.F,
    b_39:=f_39.F.binds (ps:=["stock","thing"]) fun _ _ _ _ _ _ us hl=>match us,hl with | [_,_],_=>rfl,
    m_51:=W.mg_of X G f_51.e,
    F_51:=f_51.F,
    b_51:=f_51.F.binds (ps:=["top","bottom"]) fun _ _ _ _ _ _ us hl=>match us,hl with | [_,_],_=>rfl,
    m_52:=W.mg_of X G f_52.e,
    F_52:=f_52.F,
    b_52:=f_52.F.binds (ps:=["some"]) fun _ _ _ _ _ _ us hl=>match us,hl with | [_],_=>rfl,
    m_40:=W.mg_of X G f_40.e,
    F_40:=f_40.F,
    b_40:=f_40.F.binds (ps:=["stock","bearing"]) fun _ _ _ _ _ _ us hl=>match us,hl with | [_,_],_=>rfl,
    m_54:=W.mg_of X G f_54.e,
    F_54:=f_54.F,
    b_54:=f_54.F.binds (ps:=["stock","covers"]) fun _ _ _ _ _ _ us hl=>match us,hl with | [_,_],_=>rfl,
    m_19:=W.mg_of X G f_19.e,
    F_19:=f_19.F,
    b_19:=f_19.F.binds (ps:=["stock","offer"]) fun _ _ _ _ _ _ us hl=>match us,hl with | [_,_],_=>rfl,
    m_16:=W.mg_of X G f_16.e,
    F_16:=f_16.F,
    b_16:=f_16.F.binds (ps:=["stock","lot"]) fun _ _ _ _ _ _ us hl=>match us,hl with | [_,_],_=>rfl,
    m_24:=W.mg_of X G f_24.e,
    F_24:=f_24.F,
    b_24:=f_24.F.binds (ps:=["stock","offer","lot"]) fun _ _ _ _ _ _ us hl=>match us,hl with | [_,_,_],_=>rfl,
    m_25:=W.mg_of X G f_25.e,
    F_25:=f_25.F,
    b_25:=f_25.F.binds (ps:=["stock","lot"]) fun _ _ _ _ _ _ us hl=>match us,hl with | [_,_],_=>rfl,
    m_34:=W.mg_of X G f_34.e,
    F_34:=f_34.F,
    b_34:=f_34.F.binds (ps:=["stock","thing"]) fun _ _ _ _ _ _ us hl=>match us,hl with | [_,_],_=>rfl,
    m_53:=W.mg_of X G f_53.e,
    F_53:=f_53.F,
    b_53:=f_53.F.binds (ps:=["stock"]) fun _ _ _ _ _ _ us hl=>match us,hl with | [_],_=>rfl,
    m_55:=W.mg_of X G e_55,
    F_55:=F_55,
    b_55:=b_55}
 exact ⟨W.fnOf "law" "law" (zer s_55) (zdy s_55) (zae s_55) .none kV_55 dc_55 pm_55 an_55 cd_55 ct_55,fun s v=> .of_eq rfl,fun base _ _=>ok_55 T⟩
theorem zwm {l:W.OpenLaw} {q:Program} {loose:List Str} {XP:(Str->Option Value)->Heap->Prop} {YP:World->Heap->Prop} {d:DefRec} {K:Params->W.Frag} (hn:l.most=some 63) (hdf:d.params.defaults=[])
  (hY: ∀ (w:World) (h:Heap),YP w h->(K w.params).In h)
  (F: ∀ (w:World) (mg:Str->Option Value) (fa:Addr) (h:Heap),(K w.params).In h->h.Ns mainGlobals mg->mg d.name=some (.ref fa)->
    ∃ fd:FuncData,(∀ (s:Shared) (u:Value),BindsTo s fd ⟨[u],[]⟩ [("script",u)])/\ ∀ base:Heap,(K w.params).In base->base.Ns mainGlobals mg->zbr l.prog w (K w.params) mg base CX0 9 fa fd ["script"] (zbR (K w.params) 1 F_55))
  (hm: ∀ ns:List Int,ns.length<=63-> ∃ h',F_55 [.scr (ns.map D.int)] []= .ok (.bl true) h'):
  W.WalkO q loose XP YP l.row.toRowW d [] (fun f vs=>PySem.call f vs):=
 L2.zpW (n:=63) (k:=9) (x:="script") (CX:=fun _=>CX0) (sp:=fun w=>zbR (K w.params) 1 F_55) hn (by decide) hdf ⟨rfl,by decide,by decide⟩ hY F (fun w H a ns hl _ hS=>zvP hS (hm ns hl)) fun _ _ _ _ _ z=>z
end K24
open PySem PySem.W PyProof.Rows
set_option maxRecDepth 100000 in
set_option maxHeartbeats 0 in
theorem PySem.Challenge.cw_cheapcovers_k24_whole_bargains_are_not_f_holds : PySem.Challenge.rw_cheapcovers_k24_whole_bargains_are_not_f.Holds := by
 w_on; o_law; k_head; (case hw => w_witness2)
 k_fill
 refine K24.zwm (l := PySem.Challenge.rw_cheapcovers_k24_whole_bargains_are_not_f) rfl rfl (fun w h Y => W.kIn_of Y) ?F K24.zoo
 case F =>
  intro w mg fa h KX G hmg
  refine' K24.ztN KX G hmg (L3.Fd.mk ?e__law_cell (L2.zax ?l__law_cell ?c__law_cell ?k__law_cell)) (L3.Fd.mk ?e__law_box (L2.zax ?l__law_box ?c__law_box ?k__law_box)) (L3.Fd.mk ?e__law_take (L2.zax ?l__law_take ?c__law_take ?k__law_take)) (L3.Fd.mk ?e__law_things (L2.zax ?l__law_things ?c__law_things ?k__law_things)) (L3.Fd.mk ?e__law_full (L2.zax ?l__law_full ?c__law_full ?k__law_full)) (L3.Fd.mk ?e__law_has (L2.zax ?l__law_has ?c__law_has ?k__law_has)) (L3.Fd.mk ?e__law_cover (L2.zax ?l__law_cover ?c__law_cover ?k__law_cover)) (L3.Fd.mk ?e_things_together (L2.zax ?l_things_together ?c_things_together ?k_things_together)) (L3.Fd.mk ?e_have_all (L2.zax ?l_have_all ?c_have_all ?k_have_all)) (L3.Fd.mk ?e_is_full (L2.zax ?l_is_full ?c_is_full ?k_is_full)) (L3.Fd.mk ?e_need_full (L2.zax ?l_need_full ?c_need_full ?k_need_full)) (L3.Fd.mk ?e_bits_of (L2.zax ?l_bits_of ?c_bits_of ?k_bits_of)) (L3.Fd.mk ?e_known_lots (L2.zax ?l_known_lots ?c_known_lots ?k_known_lots)) (L3.Fd.mk ?e_priced_covers (L2.zax ?l_priced_covers ?c_priced_covers ?k_priced_covers)) (L3.Fd.mk ?e_cheapest_cover (L2.zax ?l_cheapest_cover ?c_cheapest_cover ?k_cheapest_cover)) (L3.Fd.mk ?e_is_whole (L2.zax ?l_is_whole ?c_is_whole ?k_is_whole)) (L3.Fd.mk ?e_is_rising (L2.zax ?l_is_rising ?c_is_rising ?k_is_rising)) (L3.Fd.mk ?e_is_lot (L2.zax ?l_is_lot ?c_is_lot ?k_is_lot)) (L3.Fd.mk ?e_need_lot (L2.zax ?l_need_lot ?c_need_lot ?k_need_lot)) (L3.Fd.mk ?e_offers_of (L2.zax ?l_offers_of ?c_offers_of ?k_offers_of)) (L3.Fd.mk ?e_price_of (L2.zax ?l_price_of ?c_price_of ?k_price_of)) (L3.Fd.mk ?e_new_things (L2.zax ?l_new_things ?c_new_things ?k_new_things)) (L3.Fd.mk ?e_greatest_divisor (L2.zax ?l_greatest_divisor ?c_greatest_divisor ?k_greatest_divisor)) (L3.Fd.mk ?e_reduced (L2.zax ?l_reduced ?c_reduced ?k_reduced)) (L3.Fd.mk ?e_bargain_behind (L2.zax ?l_bargain_behind ?c_bargain_behind ?k_bargain_behind)) (L3.Fd.mk ?e_is_less (L2.zax ?l_is_less ?c_is_less ?k_is_less)) (L3.Fd.mk ?e_best_behind (L2.zax ?l_best_behind ?c_best_behind ?k_best_behind)) (L3.Fd.mk ?e_bargain_way (L2.zax ?l_bargain_way ?c_bargain_way ?k_bargain_way)) (L3.Fd.mk ?e_bargain_cover (L2.zax ?l_bargain_cover ?c_bargain_cover ?k_bargain_cover)) (L3.Fd.mk ?e_together (L2.zax ?l_together ?c_together ?k_together)) (L3.Fd.mk ?e_steps_together (L2.zax ?l_steps_together ?c_steps_together ?k_steps_together)) (L3.Fd.mk ?e_borne_by_bargains (L2.zax ?l_borne_by_bargains ?c_borne_by_bargains ?k_borne_by_bargains)) (L3.Fd.mk ?e_lessened (L2.zax ?l_lessened ?c_lessened ?k_lessened)) (L3.Fd.mk ?e_is_borne (L2.zax ?l_is_borne ?c_is_borne ?k_is_borne)) (L3.Fd.mk ?e_is_pair (L2.zax ?l_is_pair ?c_is_pair ?k_is_pair)) (L3.Fd.mk ?e_is_fraction (L2.zax ?l_is_fraction ?c_is_fraction ?k_is_fraction)) (L3.Fd.mk ?e_is_share (L2.zax ?l_is_share ?c_is_share ?k_is_share)) (L3.Fd.mk ?e_are_shares (L2.zax ?l_are_shares ?c_are_shares ?k_are_shares)) (L3.Fd.mk ?e_is_bearing (L2.zax ?l_is_bearing ?c_is_bearing ?k_is_bearing)) (L3.Fd.mk ?e__law_frac (L2.zax ?l__law_frac ?c__law_frac ?k__law_frac)) (L3.Fd.mk ?e__law_sum (L2.zax ?l__law_sum ?c__law_sum ?k__law_sum)) (L3.Fd.mk ?e_worth_of (L2.zax ?l_worth_of ?c_worth_of ?k_worth_of)) (L3.Fd.mk ?e__law_bound_right (L2.zax ?l__law_bound_right ?c__law_bound_right ?k__law_bound_right)) (L3.Fd.mk ?e_need_offer (L2.zax ?l_need_offer ?c_need_offer ?k_need_offer)) (L3.Fd.mk ?e_things_of (L2.zax ?l_things_of ?c_things_of ?k_things_of)) (L3.Fd.mk ?e_bargain_of (L2.zax ?l_bargain_of ?c_bargain_of ?k_bargain_of)) (L3.Fd.mk ?e_best_bargain (L2.zax ?l_best_bargain ?c_best_bargain ?k_best_bargain)) (L3.Fd.mk ?e_is_cover (L2.zax ?l_is_cover ?c_is_cover ?k_is_cover)) (L3.Fd.mk ?e__law_way_right (L2.zax ?l__law_way_right ?c__law_way_right ?k__law_way_right)) ?e_law ?l_law ?c_law ?k_law ?z_abs ?z_all ?z_bool ?z_enumerate ?z_int ?z_isinstance ?z_len ?z_list ?z_max ?z_min ?z_range ?z_set ?z_sorted ?z_sum ?z_tuple ?y_MOST_STEPS
  (case e__law_cell => k_is)
  (case l__law_cell => k_is)
  (case c__law_cell => k_is)
  (case k__law_cell => k_is)
  (case e__law_box => k_is)
  (case l__law_box => k_is)
  (case c__law_box => k_is)
  (case k__law_box => k_is)
  (case e__law_take => k_is)
  (case l__law_take => k_is)
  (case c__law_take => k_is)
  (case k__law_take => k_is)
  (case e__law_things => k_is)
  (case l__law_things => k_is)
  (case c__law_things => k_is)
  (case k__law_things => k_is)
  (case e__law_full => k_is)
  (case l__law_full => k_is)
  (case c__law_full => k_is)
  (case k__law_full => k_is)
  (case e__law_has => k_is)
  (case l__law_has => k_is)
  (case c__law_has => k_is)
  (case k__law_has => k_is)
  (case e__law_cover => k_is)
  (case l__law_cover => k_is)
  (case c__law_cover => k_is)
  (case k__law_cover => k_is)
  (case e_things_together => k_is)
  (case l_things_together => k_is)
  (case c_things_together => k_is)
  (case k_things_together => k_is)
  (case e_have_all => k_is)
  (case l_have_all => k_is)
  (case c_have_all => k_is)
  (case k_have_all => k_is)
  (case e_is_full => k_is)
  (case l_is_full => k_is)
  (case c_is_full => k_is)
  (case k_is_full => k_is)
  (case e_need_full => k_is)
  (case l_need_full => k_is)
  (case c_need_full => k_is)
  (case k_need_full => k_is)
  (case e_bits_of => k_is)
  (case l_bits_of => k_is)
  (case c_bits_of => k_is)
  (case k_bits_of => k_is)
  (case e_known_lots => k_is)
  (case l_known_lots => k_is)
  (case c_known_lots => k_is)
  (case k_known_lots => k_is)
  (case e_priced_covers => k_is)
  (case l_priced_covers => k_is)
  (case c_priced_covers => k_is)
  (case k_priced_covers => k_is)
  (case e_cheapest_cover => k_is)
  (case l_cheapest_cover => k_is)
  (case c_cheapest_cover => k_is)
  (case k_cheapest_cover => k_is)
  (case e_is_whole => k_is)
  (case l_is_whole => k_is)
  (case c_is_whole => k_is)
  (case k_is_whole => k_is)
  (case e_is_rising => k_is)
  (case l_is_rising => k_is)
  (case c_is_rising => k_is)
  (case k_is_rising => k_is)
  (case e_is_lot => k_is)
  (case l_is_lot => k_is)
  (case c_is_lot => k_is)
  (case k_is_lot => k_is)
  (case e_need_lot => k_is)
  (case l_need_lot => k_is)
  (case c_need_lot => k_is)
  (case k_need_lot => k_is)
  (case e_offers_of => k_is)
  (case l_offers_of => k_is)
  (case c_offers_of => k_is)
  (case k_offers_of => k_is)
  (case e_price_of => k_is)
  (case l_price_of => k_is)
  (case c_price_of => k_is)
  (case k_price_of => k_is)
  (case e_new_things => k_is)
  (case l_new_things => k_is)
  (case c_new_things => k_is)
  (case k_new_things => k_is)
  (case e_greatest_divisor => k_is)
  (case l_greatest_divisor => k_is)
  (case c_greatest_divisor => k_is)
  (case k_greatest_divisor => k_is)
  (case e_reduced => k_is)
  (case l_reduced => k_is)
  (case c_reduced => k_is)
  (case k_reduced => k_is)
  (case e_bargain_behind => k_is)
  (case l_bargain_behind => k_is)
  (case c_bargain_behind => k_is)
  (case k_bargain_behind => k_is)
  (case e_is_less => k_is)
  (case l_is_less => k_is)
  (case c_is_less => k_is)
  (case k_is_less => k_is)
  (case e_best_behind => k_is)
  (case l_best_behind => k_is)
  (case c_best_behind => k_is)
  (case k_best_behind => k_is)
  (case e_bargain_way => k_is)
  (case l_bargain_way => k_is)
  (case c_bargain_way => k_is)
  (case k_bargain_way => k_is)
  (case e_bargain_cover => k_is)
  (case l_bargain_cover => k_is)
  (case c_bargain_cover => k_is)
  (case k_bargain_cover => k_is)
  (case e_together => k_is)
  (case l_together => k_is)
  (case c_together => k_is)
  (case k_together => k_is)
  (case e_steps_together => k_is)
  (case l_steps_together => k_is)
  (case c_steps_together => k_is)
  (case k_steps_together => k_is)
  (case e_borne_by_bargains => k_is)
  (case l_borne_by_bargains => k_is)
  (case c_borne_by_bargains => k_is)
  (case k_borne_by_bargains => k_is)
  (case e_lessened => k_is)
  (case l_lessened => k_is)
  (case c_lessened => k_is)
  (case k_lessened => k_is)
  (case e_is_borne => k_is)
  (case l_is_borne => k_is)
  (case c_is_borne => k_is)
  (case k_is_borne => k_is)
  (case e_is_pair => k_is)
  (case l_is_pair => k_is)
  (case c_is_pair => k_is)
  (case k_is_pair => k_is)
  (case e_is_fraction => k_is)
  (case l_is_fraction => k_is)
  (case c_is_fraction => k_is)
  (case k_is_fraction => k_is)
  (case e_is_share => k_is)
  (case l_is_share => k_is)
  (case c_is_share => k_is)
  (case k_is_share => k_is)
  (case e_are_shares => k_is)
  (case l_are_shares => k_is)
  (case c_are_shares => k_is)
  (case k_are_shares => k_is)
  (case e_is_bearing => k_is)
  (case l_is_bearing => k_is)
  (case c_is_bearing => k_is)
  (case k_is_bearing => k_is)
  (case e__law_frac => k_is)
  (case l__law_frac => k_is)
  (case c__law_frac => k_is)
  (case k__law_frac => k_is)
  (case e__law_sum => k_is)
  (case l__law_sum => k_is)
  (case c__law_sum => k_is)
  (case k__law_sum => k_is)
  (case e_worth_of => k_is)
  (case l_worth_of => k_is)
  (case c_worth_of => k_is)
  (case k_worth_of => k_is)
  (case e__law_bound_right => k_is)
  (case l__law_bound_right => k_is)
  (case c__law_bound_right => k_is)
  (case k__law_bound_right => k_is)
  (case e_need_offer => k_is)
  (case l_need_offer => k_is)
  (case c_need_offer => k_is)
  (case k_need_offer => k_is)
  (case e_things_of => k_is)
  (case l_things_of => k_is)
  (case c_things_of => k_is)
  (case k_things_of => k_is)
  (case e_bargain_of => k_is)
  (case l_bargain_of => k_is)
  (case c_bargain_of => k_is)
  (case k_bargain_of => k_is)
  (case e_best_bargain => k_is)
  (case l_best_bargain => k_is)
  (case c_best_bargain => k_is)
  (case k_best_bargain => k_is)
  (case e_is_cover => k_is)
  (case l_is_cover => k_is)
  (case c_is_cover => k_is)
  (case k_is_cover => k_is)
  (case e__law_way_right => k_is)
  (case l__law_way_right => k_is)
  (case c__law_way_right => k_is)
  (case k__law_way_right => k_is)
  (case e_law => k_is)
  (case l_law => k_is)
  (case c_law => k_is)
  (case k_law => k_is)
  (case z_abs => k_is)
  (case z_all => k_is)
  (case z_bool => k_is)
  (case z_enumerate => k_is)
  (case z_int => k_is)
  (case z_isinstance => k_is)
  (case z_len => k_is)
  (case z_list => k_is)
  (case z_max => k_is)
  (case z_min => k_is)
  (case z_range => k_is)
  (case z_set => k_is)
  (case z_sorted => k_is)
  (case z_sum => k_is)
  (case z_tuple => k_is)
  (case y_MOST_STEPS => k_is)
